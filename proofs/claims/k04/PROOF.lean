import PyProof.Rows.All
import Wide.All
import OpenK.AllK
import Wide.FinOn
import HandS.ForMost
import HandS.ForExc
import HandS.Walk
import HandS.Star
import HandS.Style
import HandS.TupAny
import HandS.ExcInit
import HandS.ExcIs
import HandS.ExcField
import HandS.Defaults
import HandS.Wide
import HandS.ClsMeth
import KE.KExcIs
import KE.GoesEnum
import HandS.FStr
import KE.KCallOwn
import HandS.OwnEq
import HandS.IsInst
import HandS.HotCalls
import HandS.Rev
import KE.KIsAll
import PySem.Challenge.RW_whomay_k04_makings
set_option Elab.async false
set_option linter.all false
set_option maxRecDepth 100000
set_option maxHeartbeats 4000000
namespace Wm
open PySem L2
def top (i : Nat) : Stmt := PySem.Challenge.pw_whomay_k04_makings.main.body.getD i (.Pass ⟨0, 0, 0, 0⟩)
abbrev sState : Stmt := top 36
abbrev sDigit : Stmt := top 37
/-- the digits' state at p -/
def StOk (H : Hp) (p : Addr) : Prop := ∃ a b c : Int, H p = some (.lst [.int a, .int b, .int c]) ∧ 0 ≤ a ∧ 0 ≤ b ∧ b ≤ 2147483636 ∧ 0 ≤ c ∧ c < 2147483648
/-- all that was tracked is as it was, but at p -/
def But (p : Addr) (H H' : Hp) : Prop := ∀ q o, q ≠ p → H q = some o → H' q = some o
theorem But.refl (p : Addr) (H : Hp) : But p H H := fun _ _ _ h => h
theorem But.trans {p : Addr} {H H1 H2 : Hp} (a : But p H H1) (b : But p H1 H2) : But p H H2 := fun q o n h => b q o n (a q o n h)
theorem But.upd {p : Addr} {H : Hp} {o : HO} : But p H (upd H p o) := fun q o n h => by rw [upd_ne n]; exact h
theorem Same.but {p : Addr} {H H1 : Hp} (a : Same H H1) : But p H H1 := fun q o _ h => a q o h
theorem Same.upd {p : Addr} {H : Hp} {o : HO} (n : H p = none) : Same H (upd H p o) := fun q o h => by rw [upd_ne (ne_of_none h n)]; exact h
theorem But.same {p : Addr} {H0 H H1 : Hp} (n : H0 p = none) (a : Same H0 H) (b : But p H H1) : Same H0 H1 := fun q o h => b q o (ne_of_none h n) (a q o h)
def spState : Sp := fun vs H Q _ => ∃ i : Int, vs = [.int i] ∧ ∀ p H', H p = none → Same H H' → StOk H' p → Q (.ref p) H'
def spDigit : Sp := fun vs H Q _ => ∃ (p : Addr) (n : Int), vs = [.ref p, .int n] ∧ StOk H p ∧ 0 < n ∧ n < 1073741824 ∧ ∀ (d : Int) H', 0 ≤ d → d < n → But p H H' → StOk H' p → Q (.int d) H'
structure TxB (mg : Str → Option Value) : Prop where
  abs : mg "abs" = none
  int : mg "int" = none
  len : mg "len" = none
  range : mg "range" = none
  all : mg "all" = none
  tuple : mg "tuple" = none
  enumerate : mg "enumerate" = none
  isinstance : mg "isinstance" = none
  ve : mg "ValueError" = none
section
variable {P : Program} {w : World} {K : PySem.W.Frag} {mg : Str → Option Value} {base : Heap}
theorem scState : FnScope ["_law_cell"] ["_law_cell"] (defScope sState) := ⟨rfl, rfl, rfl, by decide +kernel, rfl, by decide +kernel, by decide +kernel⟩
theorem ok_state {f : Addr} {fd : FuncData} (F : Fun K "_law_state" "_law_state" sState f fd) (T : TxB mg) : FnOk P w K mg base CX0 1 f fd ["_law_cell"] spState := by
  refine F.ok scState (fun vs H Q E h => ?_) (fun cdv A outer s H vs Q E hr h => ?_)
  · obtain ⟨i, rfl, _⟩ := h
    rfl
  · obtain ⟨i, rfl, k⟩ := h
    refine ⟨_, pss_cons (ps_set (i := 0) scState.nd rfl (Or.inl rfl) (pe_callB call_abs (by rfl) T.abs (by decide +kernel) (pa_cons (pv 0) pa_nil)))
      (pss_one (ps_ret (pe_lst (pa_cons (pe_op op_mul (pv 0) (pe_callTy call_int1 (by rfl) T.int (by decide +kernel) (pa_cons (pe_cmpR op_ge (pv 0) (pe_op op_pow pe_int pe_int) (nomark _)) pa_nil)))
        (pa_cons (pe_op op_add (pe_op op_mod (pv 0) pe_int) pe_int) (pa_cons (pe_op op_mod (pv 0) pe_int) pa_nil)))))), ?_⟩
    refine ⟨_, rfl, _, rfl, ?_⟩
    generalize hj : (if i < 0 then -i else i) = j
    have hj0 : 0 ≤ j := by rw [← hj]; split <;> omega
    refine ⟨_, rfl, _, rfl, _, _, rfl, rfl, ⟨by decide, by decide, by decide⟩, _, _, rfl, rfl, .inr ⟨_, rfl, ?_⟩⟩
    refine ⟨_, _, rfl, rfl, .inr ⟨?_, ?_⟩, _, rfl, _, _, rfl, rfl, (by show (0 : Int) < 2147483629; decide), _, _, rfl, rfl, _, rfl, _, _, rfl, rfl, (by show (0 : Int) < 2147483587; decide), (by show 3 ≤ sizeLine; decide), fun p hp => ?_⟩
    · split <;> decide
    · split <;> decide
    · refine k p _ hp (Same.upd hp) ⟨_, _, _, upd_same, ?_, ?_, ?_, ?_, ?_⟩
      · split
        · omega
        · omega
      · have := Int.emod_nonneg j (show (2147483629 : Int) ≠ 0 by decide); omega
      · have := Int.emod_lt_of_pos j (show (0 : Int) < 2147483629 by decide); omega
      · exact Int.emod_nonneg j (by decide)
      · have := Int.emod_lt_of_pos j (show (0 : Int) < 2147483587 by decide); omega
theorem scDigit : FnScope ["_law_state_here", "_law_base", "_law_found_here", "_law_more"] ["_law_state_here", "_law_base"] (defScope sDigit) := ⟨rfl, rfl, rfl, by decide +kernel, rfl, by decide +kernel, by decide +kernel⟩
theorem ok_digit {f : Addr} {fd : FuncData} (F : Fun K "_law_digit" "_law_digit" sDigit f fd) : FnOk P w K mg base CX0 1 f fd ["_law_state_here", "_law_base"] spDigit := by
  refine F.ok scDigit (fun vs H Q E h => ?_) (fun cdv A outer s H vs Q E hr h => ?_)
  · obtain ⟨p, n, rfl, _⟩ := h
    rfl
  · obtain ⟨p, n, rfl, ⟨a, b, c, hp, ha, hb, hb2, hc, hc2⟩, hn, hn2, k⟩ := h
    refine ⟨_, pss_cons (ps_if (pt_cmpR op_gt (pe_ix ix_list (pv 0) pe_int (fun _ _ => rfl)) pe_int (nomark _))
        (pss_cons (ps_set (i := 2) scDigit.nd rfl (Or.inl rfl) (pe_op op_mod (pe_ix ix_list (pv 0) pe_int (fun _ _ => rfl)) (pv 1)))
          (pss_cons (ps_asg (pe_op op_fdiv (pe_ix ix_list (pv 0) pe_int (fun _ _ => rfl)) (pv 1)) (pg_sub (pv 0) pe_int set_list)) (pss_one (ps_ret (pv 2))))) pss_nil)
      (pss_cons (ps_set (i := 3) scDigit.nd rfl (Or.inl rfl) (pe_op op_mul (pe_ix ix_list (pv 0) pe_int (fun _ _ => rfl)) (pe_op op_add (pe_op op_fdiv (pe_ix ix_list (pv 0) pe_int (fun _ _ => rfl)) pe_int) pe_int)))
      (pss_cons (ps_asg (pe_op op_add (pe_op op_mod (pe_op op_add (pv 3) (pe_ix ix_list (pv 0) pe_int (fun _ _ => rfl))) pe_int) pe_int) (pg_sub (pv 0) pe_int set_list))
      (pss_one (ps_ret (pe_op op_mod (pe_op op_fdiv (pe_ix ix_list (pv 0) pe_int (fun _ _ => rfl)) pe_int) (pv 1)))))), ?_⟩
    refine ⟨_, rfl, p, _, _, _, rfl, rfl, SqL.of hp, atI_nat (j := 0) rfl, _, _, rfl, rfl, _, rfl, ?_⟩
    refine ite2 (fun h0 => ?_) (fun h0 => ?_)
    · refine ⟨_, rfl, p, _, _, _, rfl, rfl, SqL.of hp, atI_nat (j := 0) rfl, _, rfl, _, _, rfl, rfl, hn, ?_⟩
      refine ⟨_, rfl, p, _, _, _, rfl, rfl, SqL.of hp, atI_nat (j := 0) rfl, _, rfl, _, _, rfl, rfl, ⟨hn, hn2⟩, _, rfl, p, _, _, 0, rfl, rfl, hp, rfl, _, rfl, ?_⟩
      refine k _ _ (Int.emod_nonneg a (by omega)) (Int.emod_lt_of_pos a hn) But.upd ⟨_, _, _, upd_same, ?_, hb, hb2, hc, hc2⟩
      exact Int.ediv_nonneg ha (by omega)
    · refine ⟨_, rfl, p, _, _, _, rfl, rfl, SqL.of hp, atI_nat (j := 1) rfl, _, rfl, p, _, _, _, rfl, rfl, SqL.of hp, atI_nat (j := 1) rfl, _, _, rfl, rfl, ⟨by decide, by decide⟩, _, _, rfl, rfl, _, _, rfl, rfl, .inl ⟨?_, ?_⟩, ?_⟩
      · omega
      · omega
      refine ⟨_, rfl, _, rfl, p, _, _, _, rfl, rfl, SqL.of hp, atI_nat (j := 2) rfl, _, _, rfl, rfl, _, _, rfl, rfl, (by show (0 : Int) < 2147483629; decide), _, _, rfl, rfl, _, rfl, p, _, _, 1, rfl, rfl, hp, rfl, ?_⟩
      generalize hm : (b * (b / 1009 + 69621) + c) % 2147483629 = m
      have hm0 : 0 ≤ m := by rw [← hm]; exact Int.emod_nonneg _ (by decide)
      have hm1 : m < 2147483629 := by rw [← hm]; exact Int.emod_lt_of_pos _ (by decide)
      refine ⟨_, rfl, p, _, _, _, rfl, rfl, SqL.of upd_same, atI_nat (j := 1) rfl, _, _, rfl, rfl, ⟨by decide, by decide⟩, _, rfl, _, _, rfl, rfl, hn, ?_⟩
      exact k _ _ (Int.emod_nonneg _ (by omega)) (Int.emod_lt_of_pos _ hn) But.upd ⟨_, _, _, upd_same, ha, by omega, by omega, hc, hc2⟩
end
end Wm
namespace Wm
open PySem L2
abbrev sLName : Stmt := top 42
/-- a def of the module's top -/
structure Dn (K : PySem.W.Frag) (mg : Str → Option Value) (x : Str) (st : Stmt) (ps : List Str) (f : Addr) (fd : FuncData) : Prop where
  F : Fun K x x st f fd
  g : mg x = some (.ref f)
  b : Binds K fd ps []
theorem str_at (z : Str) {i : Int} (h0 : 0 ≤ i) (h1 : i < z.length) : ∃ c, z.cps[i.toNat]? = some c := by
  have h : i.toNat < z.cps.size := by
    have e : z.length = z.cps.size := rfl
    omega
  exact ⟨z.cps[i.toNat], Array.getElem?_eq_getElem h⟩
/-- every sign is one of unicode's -/
def okS (z : Str) : Prop := ∀ c ∈ z.cps.toList, c < 1114112
theorem okS_one {c : Nat} (h : c < 1114112) : okS ⟨#[c]⟩ := fun d hd => by
  have e : d = c := by simpa using hd
  rw [e]
  exact h
theorem okS_app {a b : Str} (ha : okS a) (hb : okS b) : okS (a ++ b) := fun c hc => by
  have e : (a ++ b).cps.toList = a.cps.toList ++ b.cps.toList := by
    show (a.cps ++ b.cps).toList = _
    simp
  rw [e] at hc
  rcases List.mem_append.mp hc with h | h
  · exact ha c h
  · exact hb c h
theorem rdItem {z : Str} {i : Int} {n : Nat} {H : Hp} {Q : VK} (hz : z.length = n) (h0 : 0 ≤ i) (h1 : i < n) (hn : n < 1000000) (h : ∀ c, z.cps.toList[i.toNat]? = some c → Q (.str ⟨#[c]⟩) H) : rIxS (.str z) (.int i) H Q := by
  have h2 : i < z.length := by rw [hz]; exact h1
  obtain ⟨c, hc⟩ := str_at z h0 h2
  have hl : z.cps.toList[i.toNat]? = some c := by simpa using hc
  have e : i = ((i.toNat : Nat) : Int) := by omega
  refine ⟨z, i, c, rfl, rfl, by rw [hz]; exact Nat.le_trans (Nat.le_of_lt hn) (by decide), ?_, h c hl⟩
  rw [e]
  exact atI_nat hl
theorem abcOk : ∀ c ∈ (PySem.Str.ofString "abcdefghijklmnopqrstuvwxyz0123456789").cps.toList, c < 1114112 := by decide +kernel
theorem abc36 : (PySem.Str.ofString "abcdefghijklmnopqrstuvwxyz0123456789").length = 36 := by decide +kernel
theorem len_app (a b : Str) : (a ++ b).length = a.length + b.length := by
  show (a.cps ++ b.cps).size = a.cps.size + b.cps.size
  exact Array.size_append
theorem len_one (c : Nat) : (⟨#[c]⟩ : Str).length = 1 := rfl
def spSign : Sp := fun vs H Q _ => ∃ i : Int, vs = [.int i] ∧ ∀ c, c < 1114112 → Q (.str ⟨#[c]⟩) H
def spPlain : Sp := fun vs H Q _ => ∃ (p : Addr) (n : Int), vs = [.ref p, .int n] ∧ StOk H p ∧ 1 ≤ n ∧ n ≤ 15 ∧ ∀ (z : Str) H', z.length ≤ 15 → okS z → But p H H' → StOk H' p → Q (.str z) H'
def spText : Sp := fun vs H Q _ => ∃ (p : Addr), vs = [.ref p] ∧ StOk H p ∧ ∀ (z : Str) H', z.length ≤ 40 → okS z → But p H H' → StOk H' p → Q (.str z) H'
section
variable {P : Program} {w : World} {K : PySem.W.Frag} {mg : Str → Option Value} {base : Heap}
end
end Wm
namespace Wm
open PySem L2
theorem strs_at {zs : List Str} {n : Nat} (h : ∀ z ∈ zs, z.length ≤ n) (ho : ∀ z ∈ zs, ∀ c ∈ z.cps.toList, c < 1114112) {j : Nat} (hj : j < zs.length) : ∃ z, (zs.map V.str)[j]? = some (.str z) ∧ z.length ≤ n ∧ okS z :=
  ⟨zs[j], by simp [hj], h _ (List.getElem_mem hj), ho _ (List.getElem_mem hj)⟩
theorem okS_cut {z : Str} (h : okS z) (lo hi : Option Int) : okS (cutS z lo hi) := fun c hc => by
  have hc' : c ∈ (z.cps.toList.drop (HT.sIx z.length 0 lo)).take (HT.sIx z.length z.length hi - HT.sIx z.length 0 lo) := hc
  exact h c (List.mem_of_mem_drop (List.mem_of_mem_take hc'))
theorem okS_join {a : Str} {ys : List Str} (ha : okS a) (h : ∀ y ∈ ys, okS y) : okS (Txt.join a ys) := by
  have e : Txt.join a ys = Str.join a ys := StrLaws.glued_eq_join a ys
  rw [e]
  clear e
  induction ys with
  | nil => exact fun c hc => (List.not_mem_nil (show c ∈ ([] : List Nat) from hc)).elim
  | cons y r ih =>
    cases r with
    | nil => exact h y List.mem_cons_self
    | cons z r =>
      show okS (y ++ a ++ Str.join a (z :: r))
      exact okS_app (okS_app (h y List.mem_cons_self) ha) (ih fun x hx => h x (List.mem_cons_of_mem _ hx))
theorem rdList {K : PySem.W.Frag} {p : Addr} {xs : List V} {i : Int} {j : Nat} {v : V} {H : Hp} {Q : VK} (hp : H p = some (.lst xs)) (e : i = (j : Int)) (hv : xs[j]? = some v) (h : Q v H) : rIxL K (.ref p) (.int i) H Q :=
  ⟨p, xs, i, v, rfl, rfl, SqL.of hp, at_of e hv, h⟩
theorem But.free {p D : Addr} {H H' : Hp} (b : But p H H') (n : D ≠ p) (h : H' D = none) : H D = none := by
  cases e : H D with
  | none => rfl
  | some o =>
    rw [b D o n e] at h
    cases h
theorem sum_ones : ∀ {ys : List Str}, (∀ y ∈ ys, y.length = 1) → (ys.map (·.length)).sum = ys.length
  | [], _ => rfl
  | y :: ys, h => by
    rw [List.map_cons, List.sum_cons, List.length_cons, h y List.mem_cons_self, sum_ones fun z hz => h z (List.mem_cons_of_mem _ hz)]
    omega
theorem join_len (a : Str) (ys : List Str) : (Txt.join a ys).length ≤ (ys.map (·.length)).sum + ys.length * a.length := by
  show (Builtin.Str.glued a ys).length ≤ _
  rw [StrLaws.glued_eq_join]
  exact StrLaws.join_length_le a ys
section
variable {P : Program} {w : World} {K : PySem.W.Frag} {mg : Str → Option Value} {base : Heap}
end
end Wm
namespace Wm
open PySem PySem.Spec PyProof.Rows L2 ClX
section
variable {X : Cx} {CX : CXT} {k : Nat} {C f : Addr} {fd : FuncData} {ps : List Str} {sp : Sp} {E : XK} {e : Expr} {es : List Expr} {t : TA} {x m : Str} {p1 p2 pos : Pos} {ds : List Value} {dvs : List V}
/-- C.f(e, ..), f a def of the class C -/
theorem pe_clsFn {pl : Sem Bool} {mc : Value} (hg : Gl X x) (hm : X.mg x = some (.ref C)) (r : CRead X.K C mc) (ht : PySem.W.findCls X.K (.ref C) mc m = some (.val (.ref f))) (hk : PySem.W.keepIn X.K (.ref f) = true) (F : FnOk X.prog X.w X.K X.mg X.base CX k f fd ps sp)
    (hr : Room k X.A) (hb : Binds X.K fd ps ds) (hd : Vals dvs ds) (hx : Passes CX X E) (ha : PA X (e :: es) t)
    (hc : eval (.Call (.Attribute (.Name x p1) m p2) (e :: es) [] pos) X.env = (do
      let ov ← eval (.Name x p1) X.env
      standAt p2.atName
      let (f, first) ← holding [ov] (getMethod ov m pl)
      callWith pos f first (backTo pos (starEach (e :: es) X.env)) (backToKw pos (keywordEach [] X.env))) := by rfl)
    (hdb : (x == ("__debug__" : Str)) = false := by decide) (he : starEach (e :: es) X.env = (false, eval e X.env) :: starEach es X.env := by rfl) (hpl : (backTo pos (starEach es X.env)).any (·.1) = false := by rfl) :
    PE X (.Call (.Attribute (.Name x p1) m p2) (e :: es) [] pos) (tCall sp dvs E t) := by
  refine ⟨fun pins s σ H Q I h => ?_⟩
  refine PySem.W.methodCall_KW (ld_glob I hg hm ?_ hdb) hc
  refine PySem.W.method_cls I.kIn r.ga (PySem.W.cls_value I.kIn r.rd ht rfl ?_)
  show wpAny _ _ (callWith pos (Value.ref f) [] (backTo pos (starEach (e :: es) X.env)) []) _ _ _
  refine PySem.W.callWith_K (h₀ := X.base) I.ok.mod.kin hk (thn (ha.run pos pins _ σ H _ (I.tok _) h) fun us s1 ⟨vs, H1, I1, r1, q⟩ => ⟨I1.kIn, ?_⟩) he hpl
  exact run_fn F hr hb hd hx I1 r1 q
/-- xs + ys, both to be read -/
def rCatR (K : PySem.W.Frag) : R2 := fun x y H Q => ∃ l b xs zs, x = .ref l ∧ y = .ref b ∧ SqL K H l xs ∧ SqL K H b zs ∧ xs.length + zs.length ≤ sizeLine ∧ ∀ p, H p = none → Q (.ref p) (upd H p (.lst (xs ++ zs)))
theorem op_catR : OpR X (binaryOp .Add) (rCatR X.K) := by
  intro pins s σ H x y v u Q I rx ry h
  obtain ⟨l, b, xs, zs, rfl, rfl, hH, hB, hz, q⟩ := h
  cases rx
  cases ry
  obtain ⟨its, r, e, hl⟩ := I.list hH
  obtain ⟨its2, r2, e2, hl2⟩ := I.list hB
  have l1 := r.length
  have l2 := r2.length
  obtain ⟨⟨cls, dd, data, sl⟩, ho, hc, n, hd⟩ := e.isList
  obtain ⟨⟨cls2, dd2, data2, sl2⟩, ho2, hc2, n2, hd2⟩ := e2.isList
  simp only at hc hd hc2 hd2
  subst hc hd hc2 hd2
  refine concat_meets ⟨_, ho, rfl⟩ ⟨_, ho2, rfl⟩ noFill_list_add seq_list_add PySem.F.slot_list_add PySem.F.entry_list_add (PySem.F.args_list_add_2 _ _) (list_addW l b its.toArray its2.toArray n n2 dd dd2 sl sl2 (by rw [List.size_toArray, List.size_toArray]; omega)) ⟨ho, ho2, ?_⟩
  have ea : its.toArray ++ its2.toArray = (its ++ its2).toArray := by simp
  rw [ea]
  exact ⟨.ref _, _, I.lnew (t' := s.toks) (r.append r2) (by rw [List.length_append]; omega), rfl, q _ I.fresh⟩
end
end Wm
namespace Wm
open PySem PySem.Spec PyProof.Rows L2 ClX
/-- isinstance(e, c) in an except suite, e the exception that it holds (its class D, its dict at dd) -/
def rIsX (K : PySem.W.Frag) (D a dd : Addr) : List V → Hp → VK → Prop := fun xs H Q => ∃ (c : V) (cv : Value) (b : Bool) (fs : List (Str × V)), xs = [.ref a, c] ∧ H dd = some (.xd fs) ∧ (∀ u, RelV c u → u = cv) ∧ PySem.W.kitOne K (.ref D) cv = some b ∧ Q (.bl b) H
theorem call_isX {X : Cx} {a D dd : Addr} {oe : Obj} {pn : List (Addr × Obj)} (C : ExcC X.K D) (hz : Zc (.ref D) (some dd) oe) (hf : ∃ vs, oe.data = .fields vs) : CallR (X.suite a ((a, oe) :: pn)) (.builtin "isinstance") (rIsX X.K D a dd) := by
  intro pins s σ H xs us Q I r h
  obtain ⟨c, cv, b, fs, rfl, hdd, hcv, e, q⟩ := h
  cases r with
  | cons rx rr =>
    cases rr with
    | cons rt rr =>
      cases rr
      cases rx
      have ec := hcv _ rt
      subst ec
      obtain ⟨hget, _⟩ := I.pin (a, oe) (List.mem_append.mpr (.inl List.mem_cons_self))
      obtain ⟨vs, hv⟩ := hf
      have hx : ObjOk X.prog X.w H s.heap dd (.xd fs) := I.hok dd _ hdd
      obtain ⟨mA, hns, hr⟩ := hx
      obtain ⟨od, ho, hl⟩ := lookIn_ns hns
      have J : PySem.W.InstAt s.heap a oe D (some od) := ⟨hget, hz.1, by unfold PySem.W.notCls; rw [hv] <;> rfl, by rw [hz.2]; exact ho⟩
      have hcl : (PySem.W.clsIn X.K D).isSome = true := by
        obtain ⟨cd, hc, _⟩ := PySem.W.any_some C.hd
        rw [hc]
        rfl
      exact PySem.W.kia_one (PySem.W.kitx_exc hcl C.hg C.hk C.hs C.ha C.hn C.ht C.hm) I.kIn J e (fun z => nomatch z) fun tk => ⟨.bl b, H, I.kept (t' := tk) fun _ _ z => z, rfl, q⟩
/-! ### errors of one field -/
def spWI (K : PySem.W.Frag) : Sp := fun vs H Q _ => ∃ (a C : Addr) (v : V), vs = [.ref a, v] ∧ OexC K C ∧ PySem.W.findIn K (.ref C) "kind" = some none ∧ H a = some (exo a C none) ∧ ∀ dx, H dx = none → dx ≠ a → Q .non (upd (upd H dx (exd dx [("kind", v)])) a (exo a C (some dx)))
/-- the dict of an error of one field -/
def ef1 (f kd : Str) (v : V) : List (Str × V) := [(f, v), ("kind", .str kd)]
def spE1 (C : Addr) (f kd : Str) : Sp := fun vs H Q _ => ∃ (a : Addr) (v : V), vs = [.ref a, v] ∧ H a = some (exo a C none) ∧ ∀ dx H', H dx = none → dx ≠ a → (∀ b o, b ≠ a → H b = some o → H' b = some o) → H' a = some (exo a C (some dx)) → H' dx = some (exd dx (ef1 f kd v)) → Q .non H'
/-- what is known of WhoError -/
structure WhoT (K : PySem.W.Frag) (mg : Str → Option Value) (W f0 : Addr) (fd0 : FuncData) : Prop where
  g : mg "WhoError" = some (.ref W)
  r : CRead K W (.type "type")
  m : PySem.W.findCls K (.ref W) (.type "type") "__init__" = some (.val (.ref f0))
  k : PySem.W.keepIn K (.ref f0) = true
  b : Binds K fd0 ["self", "kind"] []
/-- what is known of an error class of one field -/
structure ErrT (K : PySem.W.Frag) (mg : Str → Option Value) (x f : Str) (C fI : Addr) : Prop where
  o : OexC K C
  g : mg x = some (.ref C)
  iC : PySem.W.findIn K (.ref C) "__init__" = some (some (.ref fI))
  tI : PySem.W.typeIn K (.ref fI) = some (.type "function")
  nk : PySem.W.findIn K (.ref C) "kind" = some none
  nf : PySem.W.findIn K (.ref C) f = some none
end Wm
namespace Wm
open PySem L2
abbrev sW0 : Stmt := inClass (top 2) 0
abbrev sN0 : Stmt := inClass (top 3) 0
section
variable {P : Program} {w : World} {K : PySem.W.Frag} {mg : Str → Option Value} {base : Heap}
theorem scW0 : FnScope ["self", "kind"] ["self", "kind"] (defScope sW0) := ⟨rfl, rfl, rfl, by decide +kernel, rfl, by decide +kernel, by decide +kernel⟩
theorem ok_who {f : Addr} {fd : FuncData} {dvs : List V} (F : FunD K "__init__" "WhoError.__init__" (defArgs sW0) (defBody sW0) (defScope sW0) dvs [] f fd) : FnOk P w K mg base CX0 1 f fd ["self", "kind"] (spWI K) := by
  refine F.ok scW0 (fun vs H Q E h => ?_) (fun cdv A outer s H vs Q E hr h => ?_)
  · obtain ⟨a, C, v, rfl, _⟩ := h
    rfl
  · obtain ⟨a, C, v, rfl, o, nk, ha, k⟩ := h
    refine ⟨_, pss_one (ps_ost (pv 0) (pv 1)), ?_⟩
    exact ⟨_, rfl, _, rfl, a, C, rfl, o, nk, .inl ⟨ha, fun dx n ne => k dx n ne⟩⟩
theorem scN0 : FnScope ["self", "name"] ["self", "name"] (defScope sN0) := ⟨rfl, rfl, rfl, by decide +kernel, rfl, by decide +kernel, by decide +kernel⟩
theorem ok_noname {f C f0 W : Addr} {fd fd0 : FuncData} (F : Fun K "__init__" "NoName.__init__" sN0 f fd) (T : ErrT K mg "NoName" "name" C f) (TW : WhoT K mg W f0 fd0) (G0 : FnOk P w K mg base CX0 1 f0 fd0 ["self", "kind"] (spWI K)) :
    FnOk P w K mg base CX0 2 f fd ["self", "name"] (spE1 C "name" "noname") := by
  refine F.ok scN0 (fun vs H Q E h => ?_) (fun cdv A outer s H vs Q E hr h => ?_)
  · obtain ⟨a, v, rfl, _⟩ := h
    rfl
  · obtain ⟨a, v, rfl, ha, k⟩ := h
    refine ⟨_, pss_cons (ps_expr (pe_clsFn rfl TW.g TW.r TW.m TW.k G0 hr TW.b .nil pass0 (pa_cons (pv 0) (pa_cons pe_str pa_nil)))) (pss_one (ps_ost (pv 0) (pv 1))), ?_⟩
    refine ⟨_, rfl, a, C, _, rfl, T.o, T.nk, ha, fun dx n ne => ?_⟩
    refine ⟨_, rfl, _, rfl, a, C, rfl, T.o, T.nf, .inr ⟨dx, _, upd_same, Eq.trans (upd_ne ne) upd_same, by decide, ?_⟩⟩
    refine k dx _ n ne (fun b o nb e => ?_) ?_ upd_same
    · have nd : b ≠ dx := ne_of_none e n
      rw [upd_ne nd, upd_ne nb, upd_ne nd]
      exact e
    · rw [upd_ne ne.symm, upd_same]
end
end Wm
namespace Wm
open PySem L2
/-! ### names -/
def LET : List Nat := (PySem.Str.ofString "abcdefghijklmnopqrstuvwxyz").cps.toList
def FIG : List Nat := (PySem.Str.ofString "0123456789").cps.toList
def okc (c : Nat) : Bool := decide (c ∈ LET) || decide (c ∈ FIG)
def first (l : List Nat) : Bool := match l with
  | [] => false
  | c :: _ => decide (c ∈ LET)
def isNm (z : Str) : Bool := decide (1 ≤ z.length) && (decide (z.length ≤ 12) && (first z.cps.toList && z.cps.toList.all okc))
theorem alnum : (PySem.Str.ofString "abcdefghijklmnopqrstuvwxyz0123456789").cps.toList = LET ++ FIG := by decide +kernel
theorem let_fig : ∀ c ∈ LET, ¬ c ∈ FIG := by decide +kernel
theorem okc_alnum (c : Nat) : decide (c ∈ (PySem.Str.ofString "abcdefghijklmnopqrstuvwxyz0123456789").cps.toList) = okc c := by
  rw [alnum]
  unfold okc
  by_cases h : c ∈ LET <;> by_cases h2 : c ∈ FIG <;> simp [h, h2]
theorem len_eq (z : Str) : z.length = z.cps.toList.length := by
  show z.cps.size = _
  simp
theorem isNm_small {z : Str} (h : z.length < 1 ∨ 12 < z.length) : isNm z = false := by
  unfold isNm
  rcases h with h | h
  · rw [decide_eq_false (by omega)]
    rfl
  · rw [decide_eq_false (p := z.length ≤ 12) (by omega)]
    simp
theorem isNm_first {z : Str} {c : Nat} (h1 : z.cps.toList[0]? = some c) (hc : ¬ c ∈ LET) : isNm z = false := by
  unfold isNm
  have e : first z.cps.toList = false := by
    cases q : z.cps.toList with
    | nil => rfl
    | cons d r =>
      rw [q] at h1
      have e : d = c := Option.some.inj h1
      rw [e]
      exact decide_eq_false hc
  rw [e]
  simp
theorem isNm_all {z : Str} {c : Nat} (h0 : ¬ z.length < 1) (h12 : ¬ 12 < z.length) (h1 : z.cps.toList[0]? = some c) (hc : c ∈ LET) : isNm z = z.cps.toList.all okc := by
  unfold isNm
  have e : first z.cps.toList = true := by
    cases q : z.cps.toList with
    | nil =>
      rw [q] at h1
      cases h1
    | cons d r =>
      rw [q] at h1
      have e : d = c := Option.some.inj h1
      rw [e]
      exact decide_eq_true hc
  rw [e, decide_eq_true (by omega), decide_eq_true (by omega)]
  rfl
theorem isNm_fig {z : Str} {c : Nat} (h1 : z.cps.toList[0]? = some c) (hc : c ∈ FIG) : isNm z = false := isNm_first h1 fun h => let_fig c h hc
theorem isNm_all2 {z : Str} {c : Nat} (h0 : ¬ z.length < 1) (h12 : ¬ 12 < z.length) (h1 : z.cps.toList[0]? = some c) (hc : ¬ c ∈ FIG) : isNm z = z.cps.toList.all okc := by
  by_cases h : c ∈ LET
  · exact isNm_all h0 h12 h1 h
  · rw [isNm_first h1 h]
    have hm : c ∈ z.cps.toList := List.mem_of_getElem? h1
    have e : okc c = false := by
      unfold okc
      rw [decide_eq_false h, decide_eq_false hc]
      rfl
    symm
    rw [List.all_eq_false]
    exact ⟨c, hm, by rw [e]; decide⟩
theorem all_map {l : List Nat} {f : Nat → Bool} : (l.map f).all id = l.all f := by
  induction l with
  | nil => rfl
  | cons a r ih => rw [List.map_cons, List.all_cons, List.all_cons, ih]; rfl
def spName : Sp := fun vs H Q _ => ∃ z : Str, vs = [.str z] ∧ z.length ≤ 1000 ∧ ∀ H', Same H H' → Q (.bl (isNm z)) H'
/-- the constants of names.py -/
structure TxN (mg : Str → Option Value) : Prop where
  lets : ∃ t, mg "LETTERS" = some (.str (PySem.Str.ofString "abcdefghijklmnopqrstuvwxyz") t)
  figs : ∃ t, mg "FIGURES" = some (.str (PySem.Str.ofString "0123456789") t)
  long : ∃ t, mg "LONGEST_NAME" = some (.int 12 t)
abbrev sName : Stmt := top 13
/-- the reading of [f(sign) for sign in text] -/
theorem lc_signs {z : Str} {f : Nat → Bool} {g : TG} {te : TE} {vs : List Nat} {σ : St} {H1 : Hp} {D : Addr} {Qd : Hp → Prop} (hz : z.length ≤ 1000) (hD : H1 D = none)
    (he : ∀ (c : Nat) (H : Hp) (Q : St → Hp → Prop), (∀ σ2, wipe σ2 vs = wipe σ vs → (∀ Q2 : VK, Q2 (.bl (f c)) H → te σ2 H Q2) → Q σ2 H) → g (.str ⟨#[c]⟩) (wipe σ vs) H Q)
    (hd : ∀ H, Same H1 H → H D = some (.lst ((z.cps.toList.map f).map V.bl)) → Qd H) :
    ∃ W : Nat → Nat → Hp → Prop, (∃ m, W 0 m (upd H1 D (.lst []))) ∧ ∀ i m H, W i m H →
      ((Its z).stop i H ∧ Qd H) ∨ ((Its z).go i H ∧ ∃ Nx : Hp → Prop, (∀ H', Nx H' → ∃ m', m' < m ∧ W (i + 1) m' H') ∧ ∀ x H', (Its z).yld i H x H' → g x (wipe σ vs) H' fun σ2 H2 => wipe σ2 vs = wipe σ vs ∧ tYes σ2 H2 fun b H3 =>
        if b = true then te σ2 H3 fun y H4 => ∃ acc, H4 D = some (.lst acc) ∧ acc.length < sizeLine ∧ Nx (upd H4 D (.lst (acc ++ [y]))) else Nx H3) := by
  refine lc_it (walk_str (z := z)) (fun i H' => Same H1 H' ∧ H' D = some (.lst (((z.cps.toList.take i).map f).map V.bl))) ⟨Same.upd hD, upd_same⟩ (fun _ _ _ _ => True.intro) ?_ ?_
  · rintro i x H H' hi ⟨hS, hl⟩ ⟨rfl, c, hc, rfl⟩
    refine he c H' _ fun σ2 hw hq => ⟨hw, hq _ ?_⟩
    refine ⟨_, hl, ?_, ?_, ?_⟩
    · rw [List.length_map, List.length_map, List.length_take]
      have e := len_eq z
      exact Nat.lt_of_le_of_lt (show _ ≤ 1000 by omega) (by decide)
    · intro b o h
      have nb : b ≠ D := ne_of_none h hD
      rw [upd_ne nb]
      exact hS b o h
    · rw [upd_same]
      have e : z.cps.toList[i]? = some c := by simpa using hc
      have hlt : i < z.cps.toList.length := (List.getElem?_eq_some_iff.mp e).1
      rw [List.take_add_one, e, List.map_append, List.map_append]
      rfl
  · rintro H ⟨hS, hl⟩
    refine hd H hS ?_
    rw [hl, List.take_of_length_le (by simp)]
section
variable {P : Program} {w : World} {K : PySem.W.Frag} {mg : Str → Option Value} {base : Heap}
theorem scName : FnScope ["text", "sign"] ["text"] (defScope sName) := ⟨rfl, rfl, rfl, by decide +kernel, rfl, by decide +kernel, by decide +kernel⟩
theorem ok_name {f : Addr} {fd : FuncData} (F : Fun K "is_name" "is_name" sName f fd) (T : TxB mg) (TN : TxN mg) : FnOk P w K mg base CX0 1 f fd ["text"] spName := by
  obtain ⟨t1, hlet⟩ := TN.lets
  obtain ⟨t2, hfig⟩ := TN.figs
  obtain ⟨t3, hlong⟩ := TN.long
  refine F.ok scName (fun vs H Q E h => ?_) (fun cdv A outer s H vs Q E hr h => ?_)
  · obtain ⟨z, rfl, _⟩ := h
    rfl
  · obtain ⟨z, rfl, hz, k⟩ := h
    have hzl : z.length ≤ sizeLine := Nat.le_trans hz (by decide)
    refine ⟨_, (pss_cons (ps_if (PW.pt (pw_or (pt_cmpR op_lt (pe_callB call_len_str (by rfl) T.len (by decide +kernel) (pa_cons (pv 0) pa_nil)) pe_int (nomark _)) (pw_or1 (pt_cmpR op_gt (pe_callB call_len_str (by rfl) T.len (by decide +kernel) (pa_cons (pv 0) pa_nil)) (pe_glob (v := .int 12) (by rfl) hlong ⟨_, rfl⟩) (nomark _))))) (pss_one (ps_ret pe_bl)) pss_nil)
      (pss_cons (ps_if (pt_cmpR op_notIn_sign (pe_ix ix_str (pv 0) pe_int (fun _ _ => rfl)) (pe_glob (v := .str (PySem.Str.ofString "abcdefghijklmnopqrstuvwxyz")) (by rfl) hlet ⟨_, rfl⟩) (by rfl)) (pss_one (ps_ret pe_bl)) pss_nil)
      (pss_one (ps_ret (pe_callB (cr_all rfl) (by rfl) T.all (by decide +kernel) (pa_cons (pe_lc (own := [("sign", 1)]) (g := gName 1) rfl scName.nd (pi_str (pv 0)) (blkOk_by (N := ["text", "sign"]) (sc := defScope sName) (by decide +kernel)) (fun _ _ _ _ _ => (pg_name (i := 1) scName.nd rfl (Or.inl rfl))) (fun _ _ _ _ _ => pts_nil) (fun _ _ _ _ _ => (pe_or (pe_cmpR op_in_sign (pv 1) (pe_glob (v := .str (PySem.Str.ofString "abcdefghijklmnopqrstuvwxyz")) (by rfl) hlet ⟨_, rfl⟩) (by rfl)) (pe_one (pe_cmpR op_in_sign (pv 1) (pe_glob (v := .str (PySem.Str.ofString "0123456789")) (by rfl) hfig ⟨_, rfl⟩) (by rfl)))))) pa_nil)))))), ?_⟩
    refine ⟨_, rfl, z, rfl, hzl, _, _, rfl, rfl, _, rfl, ?_⟩
    refine ite2 (fun h1 => ?_) (fun h1 => ?_)
    · have h1' : (z.length : Int) < 1 := of_decide_eq_true h1
      refine iteT ?_
      have e : isNm z = false := isNm_small (.inl (by omega))
      have q := k H (Same.refl H)
      rw [e] at q
      exact q
    refine ⟨_, rfl, z, rfl, hzl, _, _, rfl, rfl, _, rfl, ?_⟩
    refine ite2 (fun h2 => ?_) (fun h2 => ?_)
    · have h2' : (12 : Int) < z.length := of_decide_eq_true h2
      have e : isNm z = false := isNm_small (.inr (by omega))
      have q := k H (Same.refl H)
      rw [e] at q
      exact q
    have h1' : ¬ z.length < 1 := fun x => h1 (decide_eq_true (by omega))
    have h2' : ¬ 12 < z.length := fun x => h2 (decide_eq_true (by omega))
    refine ⟨_, rfl, ?_⟩
    dsimp only [tC]
    refine rdItem (n := z.length) rfl (by decide) (by omega) (by omega) fun c hc => ?_
    refine ⟨c, _, rfl, rfl, _, rfl, ?_⟩
    refine ite2 (fun h3 => ?_) (fun h3 => ?_)
    · have h3' : ¬ c ∈ LET := fun x => by
        rw [show decide (c ∈ (PySem.Str.ofString "abcdefghijklmnopqrstuvwxyz").cps.toList) = true from decide_eq_true x] at h3
        cases h3
      have q := k H (Same.refl H)
      rw [isNm_first hc h3'] at q
      exact q
    have h3' : c ∈ LET := by
      by_cases x : c ∈ LET
      · exact x
      · rw [show decide (c ∈ (PySem.Str.ofString "abcdefghijklmnopqrstuvwxyz").cps.toList) = false from decide_eq_false x] at h3
        exact absurd rfl h3
    refine ⟨_, rfl, z, rfl, fun D hD => ?_⟩
    refine lc_signs (z := z) (f := okc) hz hD (fun c H Q q => ?_) fun H' hS hl => ?_
    · refine q _ rfl fun Q2 q2 => ?_
      refine ⟨_, rfl, c, _, rfl, rfl, _, rfl, ?_⟩
      unfold okc at q2
      refine ite2 (fun h => ?_) (fun h => ?_)
      · have h' : decide (c ∈ LET) = true := h
        rw [h'] at q2
        exact q2
      · have h' : decide (c ∈ LET) = false := Bool.eq_false_iff.mpr h
        rw [h'] at q2
        exact ⟨_, rfl, c, _, rfl, rfl, q2⟩
    · refine ⟨D, _, rfl, SqL.of hl, ?_⟩
      have q := k H' hS
      rw [isNm_all h1' h2' hc h3', ← all_map] at q
      exact q
end
end Wm
namespace Wm
open PySem L2
abbrev sRN : Stmt := top 14
theorem mk1 {C : Addr} {f kd : Str} {v : V} {H : Hp} {Q : XK} (k : ∀ d H', H d = none → Same H H' → H' d = some (.xd (ef1 f kd v)) → Q (.ref C) (some d) H') :
    [v].length ≤ 1000 ∧ ∀ a, H a = none → spE1 C f kd (.ref a :: ([v] ++ [])) (upd H a (exo a C none)) (fun u H2 => u = .non ∧ ∃ (d : Addr) (fs : List (Str × V)), H2 a = some (exo a C (some d)) ∧ H2 d = some (exd d fs) ∧ H d = none ∧ Q (.ref C) (some d) (upd (del H2 a) d (.xd fs))) (fun _ _ _ => False) := by
  refine ⟨by show 1 ≤ 1000; decide, fun a na => ⟨a, v, rfl, upd_same, fun dx H' n ne kp ha hd => ⟨rfl, dx, _, ha, hd, ?_, ?_⟩⟩⟩
  · rw [upd_ne ne] at n
    exact n
  · rw [upd_ne ne] at n
    refine k dx _ n (fun b o e => ?_) upd_same
    have nb : b ≠ a := ne_of_none e na
    rw [upd_ne (ne_of_none e n), del_ne nb]
    exact kp b o nb (by rw [upd_ne nb]; exact e)
/-- what is due of the first text that is no name -/
def DueN (C : Addr) (zs : List Str) (H : Hp) (Q : VK) (E : XK) : Prop := match zs.find? (fun z => !isNm z) with
  | none => ∀ H', Same H H' → Q .non H'
  | some z => ∀ d H', H d = none → Same H H' → H' d = some (.xd (ef1 "name" "noname" (.str z))) → E (.ref C) (some d) H'
def spRN (K : PySem.W.Frag) (C : Addr) : Sp := fun vs H Q E => ∃ (l : Addr) (zs : List Str), vs = [.ref l] ∧ SqL K H l (zs.map V.str) ∧ zs.length ≤ 1000 ∧ (∀ z ∈ zs, z.length ≤ 1000) ∧ DueN C zs H Q E
theorem find_none_take {zs : List Str} {i : Nat} {z : Str} {p : Str → Bool} (h : ∀ y ∈ zs.take i, p y = false) (e : zs[i]? = some z) (hz : p z = true) : zs.find? p = some z := by
  have hlt : i < zs.length := (List.getElem?_eq_some_iff.mp e).1
  have e2 : zs = zs.take i ++ z :: zs.drop (i + 1) := by
    have q := List.take_append_drop i zs
    have q2 := List.drop_eq_getElem_cons hlt
    have q3 : zs[i] = z := (List.getElem?_eq_some_iff.mp e).2
    rw [q2, q3] at q
    exact q.symm
  rw [e2, List.find?_append]
  have n : (zs.take i).find? p = none := by
    rw [List.find?_eq_none]
    intro y hy
    rw [h y hy]
    decide
  rw [n]
  simp [hz]
section
variable {P : Program} {w : World} {K : PySem.W.Frag} {mg : Str → Option Value} {base : Heap}
theorem scLName : FnScope ["_law_text", "_law_sign"] ["_law_text"] (defScope sLName) := ⟨rfl, rfl, rfl, by decide +kernel, rfl, by decide +kernel, by decide +kernel⟩
theorem ok_lname {f : Addr} {fd : FuncData} (F : Fun K "_law_is_name" "_law_is_name" sLName f fd) (T : TxB mg) : FnOk P w K mg base CX0 1 f fd ["_law_text"] spName := by
  refine F.ok scLName (fun vs H Q E h => ?_) (fun cdv A outer s H vs Q E hr h => ?_)
  · obtain ⟨z, rfl, _⟩ := h
    rfl
  · obtain ⟨z, rfl, hz, k⟩ := h
    have hzl : z.length ≤ sizeLine := Nat.le_trans hz (by decide)
    refine ⟨_, (pss_cons (ps_if (PW.pt (pw_or (pt_cmpR op_eq (pv 0) pe_str (nomark _)) (pw_or (pt_cmpR op_gt (pe_callB call_len_str (by rfl) T.len (by decide +kernel) (pa_cons (pv 0) pa_nil)) pe_int (nomark _)) (pw_or1 (pt_cmpR op_in_sign (pe_ix ix_str (pv 0) pe_int (fun _ _ => rfl)) pe_str (by rfl)))))) (pss_one (ps_ret pe_bl)) pss_nil)
      (pss_one (ps_ret (pe_callB (cr_all rfl) (by rfl) T.all (by decide +kernel) (pa_cons (pe_lc (own := [("_law_sign", 1)]) (g := gName 1) rfl scLName.nd (pi_str (pv 0)) (blkOk_by (N := ["_law_text", "_law_sign"]) (sc := defScope sLName) (by decide +kernel)) (fun _ _ _ _ _ => (pg_name (i := 1) scLName.nd rfl (Or.inl rfl))) (fun _ _ _ _ _ => pts_nil) (fun _ _ _ _ _ => (pe_cmpR op_in_sign (pv 1) pe_str (by rfl)))) pa_nil))))), ?_⟩
    refine ⟨_, rfl, rfl, _, rfl, ?_⟩
    have q0 := k H (Same.refl H)
    refine ite2 (fun h1 => ?_) (fun h1 => ?_)
    · have h1' : V.str z = V.str (PySem.Str.ofString "") := of_decide_eq_true h1
      have e1 : z = PySem.Str.ofString "" := V.str.inj h1'
      refine iteT ?_
      have e : isNm z = false := by rw [e1]; decide +kernel
      rw [e] at q0
      exact q0
    have h1' : ¬ z.length < 1 := fun x => h1 (decide_eq_true (by
      have e : z.cps = #[] := Array.eq_empty_of_size_eq_zero (by show z.length = 0; omega)
      have e2 : z = PySem.Str.ofString "" := by
        cases z
        cases e
        decide +kernel
      rw [e2]))
    refine ⟨_, rfl, z, rfl, hzl, _, _, rfl, rfl, _, rfl, ?_⟩
    refine ite2 (fun h2 => ?_) (fun h2 => ?_)
    · have h2' : (12 : Int) < z.length := of_decide_eq_true h2
      refine iteT ?_
      rw [isNm_small (.inr (by omega))] at q0
      exact q0
    have h2' : ¬ 12 < z.length := fun x => h2 (decide_eq_true (by omega))
    refine ⟨_, rfl, ?_⟩
    dsimp only [tC]
    refine rdItem (n := z.length) rfl (by decide) (by omega) (by omega) fun c hc => ?_
    refine ⟨c, _, rfl, rfl, _, rfl, ?_⟩
    refine ite2 (fun h3 => ?_) (fun h3 => ?_)
    · have h3' : c ∈ FIG := of_decide_eq_true h3
      rw [isNm_fig hc h3'] at q0
      exact q0
    have h3' : ¬ c ∈ FIG := fun x => h3 (decide_eq_true x)
    refine ⟨_, rfl, z, rfl, fun D hD => ?_⟩
    refine lc_signs (z := z) (f := okc) hz hD (fun c H Q q => ?_) fun H' hS hl => ?_
    · refine q _ rfl fun Q2 q2 => ?_
      rw [← okc_alnum] at q2
      exact ⟨_, rfl, c, _, rfl, rfl, q2⟩
    · refine ⟨D, _, rfl, SqL.of hl, ?_⟩
      have q := k H' hS
      rw [isNm_all2 h1' h2' hc h3', ← all_map] at q
      exact q
theorem scRN : FnScope ["texts", "text"] ["texts"] (defScope sRN) := ⟨rfl, rfl, rfl, by decide +kernel, rfl, by decide +kernel, by decide +kernel⟩
theorem ok_rn {f fN C fI : Addr} {fd fdN fdI : FuncData} (F : Fun K "refuse_no_name" "refuse_no_name" sRN f fd) (D : Dn K mg "is_name" sName ["text"] fN fdN) (GN : FnOk P w K mg base CX0 1 fN fdN ["text"] spName) (TE : ErrT K mg "NoName" "name" C fI) (bI : Binds K fdI ["self", "name"] [])
    (GI : FnOk P w K mg base CX0 2 fI fdI ["self", "name"] (spE1 C "name" "noname")) : FnOk P w K mg base (L2.CX P w) 4 f fd ["texts"] (spRN K C) := by
  refine F.okX scRN (fun vs H Q E h => ?_) (fun cdv A outer s H vs Q E hr h => ?_)
  · obtain ⟨l, zs, rfl, _⟩ := h
    rfl
  · obtain ⟨l, zs, rfl, hl, hn, hz, k⟩ := h
    have hr1 : Room 1 _ := hr.mono (by decide)
    refine ⟨_, (pss_one (ps_for (passes_of rfl) rfl (pi_list (pv 0)) (pg_name (i := 1) scRN.nd rfl (Or.inl rfl)) (pss_one (ps_if (pt_not (pt_val (pe_call GN hr1 rfl D.g D.F.kp D.b .nil pass0 (pa_cons (pv 1) pa_nil)))) (pss_one (ps_raise rfl (takes_of rfl rfl rfl rfl) (pmk_oex TE.o TE.iC TE.tI GI hr bI .nil pass0 rfl TE.g (pa_cons (pv 1) pa_nil)))) pss_nil)))), ?_⟩
    refine ⟨_, rfl, l, rfl, ⟨_, hl⟩, for_list (K := K) (a := l) (xs := zs.map V.str) (fun i σ H' => ∃ v, σ = [some (.ref l), v] ∧ Same H H' ∧ ∀ y ∈ zs.take i, (!isNm y) = false) ⟨none, rfl, Same.refl H, fun y hy => (List.not_mem_nil hy).elim⟩
      (fun i σ H' _ ⟨_, _, hS, _⟩ => hS.seq hl) ?_ ?_⟩
    · rintro i y σ H' hi ⟨v, rfl, hS, hno⟩
      obtain ⟨z, hzi, rfl⟩ : ∃ z, zs[i]? = some z ∧ y = V.str z := by
        rw [List.getElem?_map] at hi
        cases e : zs[i]? with
        | none =>
          rw [e] at hi
          cases hi
        | some z =>
          rw [e] at hi
          exact ⟨z, rfl, (Option.some.inj hi).symm⟩
      refine ⟨_, rfl, z, rfl, hz z (List.mem_of_getElem? hzi), fun H2 hS2 => ⟨_, rfl, ?_⟩⟩
      refine ite2 (fun h => ?_) (fun h => ?_)
      · refine ⟨_, rfl, ?_⟩
        have e := find_none_take hno hzi h
        unfold DueN at k
        rw [e] at k
        refine mk1 fun d H3 hd hS3 hx => k d H3 (hS.free (hS2.free hd)) (hS.trans (hS2.trans hS3)) hx
      · refine ⟨_, rfl, hS.trans hS2, fun y hy => ?_⟩
        rw [List.take_add_one, hzi] at hy
        rcases List.mem_append.mp hy with hy | hy
        · exact hno y hy
        · have e : y = z := by simpa using hy
          rw [e]
          exact Bool.eq_false_iff.mpr h
    · rintro σ H' ⟨v, rfl, hS, hno⟩
      have e : zs.find? (fun z => !isNm z) = none := by
        rw [List.find?_eq_none]
        intro y hy
        rw [List.length_map, List.take_length] at hno
        rw [hno y hy]
        decide
      unfold DueN at k
      rw [e] at k
      exact k H' hS
end
end Wm
namespace Wm
open PySem PySem.Spec PyProof.Rows L2
/-- enumerate(v): its two new cells -/
theorem meets_enum1 {v : Value} {o : Obj} {H : Heap → Prop} (B : Begins v o H) :
    Meets (Builtin.«enumerate.__new__» ⟨[.type "enumerate", v], []⟩) (fun _ R s => H s.heap ∧
      R (.ok (.ret (.ref (s.heap.push o).objs.size))) { s with heap := (s.heap.push o).push { cls := .type "enumerate", data := .fields #[.none, .bool false, .ref s.heap.objs.size, rawInt 0, .none, .none] } }) :=
  .of_wp fun prog w A R s hh => by
    obtain ⟨hp, g, d, tk, os⟩ := s
    obtain ⟨h1, h⟩ := hh
    have hsub := sub_enumerate
    have q1 : ∀ {A' : Around} {E : Value → Shared → Prop} {Q : Value → Shared → Prop}, Q (.ref hp.objs.size) ⟨hp.push o, g, d, tk, os⟩ → wpAny (model prog w) A' (pyIter v) Q E ⟨hp, g, d, tk, os⟩ := fun q => B.iter prog w _ _ ⟨hp, g, d, tk, os⟩ _ h1 q
    wp_walk using q1
    refine wpAny_stack_any fun stk => wpAny_pure ?_
    split
    · rename_i c _ _ _ _ _
      cases (c == Value.type "enumerate") <;> (wp_walk using q1; exact ⟨_, rfl, h⟩)
    · wp_walk using q1
      exact ⟨_, rfl, h⟩
theorem call_enum_tup {prog : Program} {w : World} {A : Around} {E : Value → Shared → Prop} {s : Shared} {t : Addr} {items : Array Value} {Q : Value → Shared → Prop} (hL : s.heap.IsTuple t items)
    (h : ∀ h', IsEnum h' (s.heap.objs.size + 1) s.heap.objs.size 0 .none → h'.IsTupleIter s.heap.objs.size t 0 → (∀ b o, s.heap.get? b = some o → h'.get? b = some o) → Q (.ref (s.heap.objs.size + 1)) { s with heap := h' }) :
    wpAny (model prog w) A (call (.type "enumerate") [.ref t]) Q E s := by
  refine callType_new F.called_enumerate (by decide) (F.typeCall_enumerate_1 _) (F.newCall_enumerate_1 _) (fun obj => F.args_object_init_2 obj _) F.entry_enumerate_new (meets_enum1 (begins_tuple t items)) ⟨hL, ?_⟩
  generalize ho : ({ cls := .type "tuple_iterator", data := .fields #[.ref t, .int 0 0] } : Obj) = o
  have hz : (s.heap.push o).objs.size = s.heap.objs.size + 1 := Heap.size_push ..
  show _ ∧ _
  rw [hz]
  generalize he : ({ cls := .type "enumerate", data := .fields #[.none, .bool false, .ref s.heap.objs.size, rawInt 0, .none, .none] } : Obj) = eo
  have h2 : ((s.heap.push o).push eo).get? (s.heap.objs.size + 1) = some eo := by
    have q := Heap.get?_push_size (s.heap.push o) (o := eo) (by rw [← he]; rfl)
    rw [hz] at q
    exact q
  have h3 : ((s.heap.push o).push eo).get? s.heap.objs.size = some o := Heap.get?_push_of_some _ (Heap.get?_push_size _ (by rw [← ho]; rfl))
  refine ⟨⟨_, h2, by rw [← he]⟩, h _ ?_ ⟨o, h3, by rw [← ho], by rw [← ho]; rfl⟩ fun b o x => Heap.get?_push_of_some _ (Heap.get?_push_of_some _ x)⟩
  show ((s.heap.push o).push eo).get? (s.heap.objs.size + 1) = some _
  rw [h2, ← he]
/-- the tuple at a, each item in a new pair -/
def IteT (K : PySem.W.Frag) (a : Addr) (xs : List V) : It :=
  ⟨fun i H => SqT K H a xs ∧ i < xs.length, fun i H v H' => ∃ T x, v = .ref T ∧ H T = none ∧ H' = upd H T (.tup [.int (i : Nat), x]) ∧ xs[i]? = some x, fun i H => SqT K H a xs ∧ i = xs.length⟩
theorem turn_enumT {P : Program} {w : World} {K : PySem.W.Frag} {elts : List Expr} {kk : Nat} {tpos : Pos} {xs : List V} (a e it : Addr) (his : List Value) :
    Turn P w K (.Tuple elts kk tpos) (IteT K a xs) [e, it] e (fun i h => (∃ old, IsEnum h e it ((i : Nat) : Int) old) ∧ h.IsTupleIter it a i ∧ e ≠ it ∧ a ≠ it ∧ a ≠ e) where
  mem := by simp
  obj := fun i h st b hb => by
    obtain ⟨⟨old, he⟩, ⟨o, ho, hc, hd⟩, _⟩ := st
    rcases (show b = e ∨ b = it by simpa using hb) with z | z
    · rw [z]
      exact ⟨_, he, fun v q => nomatch q⟩
    · rw [z]
      exact ⟨o, ho, fun v q => by rw [hd] at q; cases q⟩
  keep := fun i h h' st k => let ⟨⟨old, he⟩, hi, hne⟩ := st; ⟨⟨old, k e (by simp) _ he⟩, hi.at fun o q => k it (by simp) o q, hne⟩
  item := by
    intro X hP hw hK hc i pins s σ H E I hf st hg
    subst hP hw hK
    obtain ⟨⟨old, he⟩, hit, hne, nai, nae⟩ := st
    obtain ⟨hq, hlt⟩ := hg
    obtain ⟨its, rv, p, hz⟩ := I.tuple hq
    have hlen := rv.length
    have hel : e < s.heap.objs.size := Heap.lt_size he
    have hil : it < s.heap.objs.size := by obtain ⟨_, q, _⟩ := hit; exact Heap.lt_size q
    have D : Draws X.prog X.w X.A.in1 it [it, a] its.toArray.size (fun i v => its.toArray[i]? = some v) (fun i h => h.IsTupleIter it a i ∧ h.IsTuple a its.toArray) := Draws.tuple (A := X.A.in1) (show X.A.in1.handled = none from I.ok.hd hc) it a nai its.toArray
    refine wpAny_pyNext_enum_itemC D he ⟨hit, p⟩ (by rw [List.size_toArray]; omega) hne (by simp [hne, Ne.symm nae]) fun u h' tk hu ho hst' hT hsz hk => ?_
    have hu' : its[i]? = some u := by simpa using hu
    obtain ⟨x, hx, ru⟩ : ∃ x, xs[i]? = some x ∧ RelV x u := by
      obtain ⟨u2, h2, r2⟩ := rv.get (List.getElem?_eq_getElem hlt)
      rw [hu'] at h2
      cases h2
      exact ⟨_, List.getElem?_eq_getElem hlt, r2⟩
    refine ⟨_, rfl, wpAny_letOwnedTupleGo_enum (s := { s with heap := h', toks := tk + 1 }) ho fun h'' he' sb => ?_⟩
    have hT2 : h''.get? s.heap.objs.size = some { cls := .type "tuple", data := .seq #[.int i tk, u] } := (sb.2 _ (Nat.ne_of_gt hel)).trans hT
    have new : ObjOk X.prog X.w (upd H s.heap.objs.size (.tup [.int (i : Nat), x])) h'' s.heap.objs.size (.tup [.int (i : Nat), x]) := ⟨by show 2 ≤ sizeLine; decide, [.int i tk, u], .cons ⟨_, rfl⟩ (.cons ru .nil), ⟨_, hT2, rfl, _, rfl⟩⟩
    have I1 : Inv X pins σ (upd H s.heap.objs.size (.tup [.int (i : Nat), x])) { s with heap := h'', toks := tk + 1 } :=
      I.turnedNew (ch := [e, it]) (fun b ob hb q => (sb.2 b (fun z => hb (by simp [z]))).trans (hk b ob (fun z => hb (by simp [z])) (fun z => hb (by simp [z])) q)) hf (Nat.le_refl _) new
    refine ⟨.ref s.heap.objs.size, _, I1, rfl, ⟨_, x, rfl, I.hok.fresh (Nat.le_refl _), rfl, hx⟩, ⟨⟨u, ?_⟩, hst'.1.at fun o q => (sb.2 it (Ne.symm hne)).trans q, hne, nai, nae⟩, fun b hb => ?_⟩
    · have e1 : ((i + 1 : Nat) : Int) = (i : Int) + 1 := by omega
      rw [e1]
      exact he'
    · have hb' : b < s.heap.objs.size := by
        rcases (show b = e ∨ b = it by simpa using hb) with z | z
        · rw [z]; exact hel
        · rw [z]; exact hil
      rw [upd_ne (Nat.ne_of_lt hb')]
      exact (hf b hb).1
  done := by
    intro X hP hw hK hc i pins s σ H E I hf st hg
    subst hP hw hK
    obtain ⟨⟨old, he⟩, hit, hne, nai, nae⟩ := st
    obtain ⟨hq, hi⟩ := hg
    obtain ⟨its, rv, p, hz⟩ := I.tuple hq
    have hlen := rv.length
    obtain ⟨f0, f1, f2, f3, f4, f5⟩ := hf it (by simp)
    have D : Draws X.prog X.w X.A.in1 it [it, a] its.toArray.size (fun i v => its.toArray[i]? = some v) (fun i h => h.IsTupleIter it a i ∧ h.IsTuple a its.toArray) := Draws.tuple (A := X.A.in1) (show X.A.in1.handled = none from I.ok.hd hc) it a nai its.toArray
    have en : i = its.toArray.size := by rw [List.size_toArray]; omega
    rw [en] at he hit
    exact wpAny_pyNext_enum_endD D he ⟨hit, p⟩ fun h' eb => ⟨rfl, I.turned (t' := s.toks) (fun b o hb q => eb b o hb q) f0 f1 f3 f4 f5⟩
  self := fun A i s Q E st h => let ⟨⟨_, he⟩, _⟩ := st; wpAny_pyIter_enum he h
def iEnumT (K : PySem.W.Frag) (ta : TA) : TI := fun σ H R => ta σ H fun vs H1 => ∃ a xs, vs = [.ref a] ∧ SqT K H1 a xs ∧ R (IteT K a xs) H1
theorem pi_enumT {X : Cx} {e : Expr} {ta : TA} {p pos tpos : Pos} {elts : List Expr} {kk : Nat} (hg : Gl X "enumerate") (hm : X.mg "enumerate" = none) (ha : PA X [e] ta) (hs : starEach [e] X.env = [(false, eval e X.env)] := by rfl) :
    PI X (.Tuple elts kk tpos) (.Call (.Name "enumerate" p) [e] [] pos) (iEnumT X.K ta) := by
  refine ⟨fun pins s σ H R I h => ?_⟩
  refine Call_ (ld_blt I hg hm boot_enumerate (PyProof.Rows.callWith_type1 (thn (ha.run pos pins s σ H _ I h) fun us s1 ⟨vs, H1, I1, r1, a, xs, ex, hq, q⟩ => ?_) hs rfl))
  subst ex
  cases r1 with
  | cons r rr =>
    cases rr
    cases r
    obtain ⟨its, rv, p', hz⟩ := I1.tuple hq
    have hal : a < s1.heap.objs.size := by obtain ⟨_, z, _⟩ := p'; exact Heap.lt_size z
    refine call_enum_tup (items := its.toArray) p' fun h' he hit hk => wpAny_pyIter_enum he ?_
    have I2 : Inv X pins σ H1 { s1 with heap := h' } := I1.kept (t' := s1.toks) hk
    refine ⟨s1.heap.objs.size + 1, [s1.heap.objs.size + 1, s1.heap.objs.size], _, _, H1, rfl, I2, turn_enumT a (s1.heap.objs.size + 1) s1.heap.objs.size its, ⟨⟨.none, he⟩, hit, Nat.succ_ne_self _, Nat.ne_of_lt hal, Nat.ne_of_lt (Nat.lt_succ_of_lt hal)⟩, fun b hb => ?_, q⟩
    have hle : s1.heap.objs.size ≤ b := by
      rcases (show b = s1.heap.objs.size + 1 ∨ b = s1.heap.objs.size by simpa using hb) with z | z
      · rw [z]; exact Nat.le_add_right _ _
      · rw [z]; exact Nat.le_refl _
    exact I1.fpOk hle (I1.hok.fresh hle)
theorem walk_enumT {K : PySem.W.Frag} {a : Addr} {xs : List V} : Walk (IteT K a xs) xs.length (fun H => SqT K H a xs) (YPair (fun i => some (.int (i : Nat))) (fun i => xs[i]?)) := by
  refine ⟨fun i _ hi q => ⟨q, hi⟩, fun _ q => ⟨q, rfl⟩, fun i H v H' _ q y => ?_⟩
  obtain ⟨T, x, h1, h2, h3, h4⟩ := y
  exact ⟨T, .int (i : Nat), x, h1, h2, h3, rfl, h4⟩
end Wm
namespace Wm
open PySem L2
/-- the outer walk of a comprehension of two clauses -/
theorem lc2_it {J : It} {n : Nat} {G : Hp → Prop} {Y : Nat → Hp → V → Hp → Prop} (w : Walk J n G Y) {g : TG} {vs : List Nat} {σ : St} {H1 : Hp} {D : Addr} {Qd : Hp → Prop} {inner : St → Hp → (Hp → Prop) → Prop} (Pv : Nat → Hp → Prop) (h0 : Pv 0 (upd H1 D (.lst []))) (hG : ∀ i H, i ≤ n → Pv i H → G H)
    (hs : ∀ i x H H', i < n → Pv i H → Y i H x H' → g x (wipe σ vs) H' fun σ2 H2 => wipe σ2 vs = wipe σ vs ∧ inner σ2 H2 (Pv (i + 1))) (hd : ∀ H, Pv n H → Qd H) :
    ∃ W : Nat → Nat → Hp → Prop, (∃ m, W 0 m (upd H1 D (.lst []))) ∧ ∀ i m H, W i m H →
      (J.stop i H ∧ Qd H) ∨ (J.go i H ∧ ∃ Nx : Hp → Prop, (∀ H', Nx H' → ∃ m', m' < m ∧ W (i + 1) m' H') ∧ ∀ x H', J.yld i H x H' → g x (wipe σ vs) H' fun σ2 H2 => wipe σ2 vs = wipe σ vs ∧ inner σ2 H2 Nx) := by
  refine ⟨fun i m H => m = n - i ∧ i ≤ n ∧ Pv i H, ⟨n, by simp, Nat.zero_le _, h0⟩, ?_⟩
  rintro i m H ⟨rfl, hi, p⟩
  have q := hG i H hi p
  by_cases hlt : i < n
  · exact .inr ⟨w.goes i H hlt q, Pv (i + 1), fun H' p' => ⟨n - (i + 1), by omega, rfl, hlt, p'⟩, fun x H' y => hs i x H H' hlt p (w.yields i H x H' hlt q y)⟩
  · have e : i = n := by omega
    subst e
    exact .inl ⟨w.stops H q, hd H p⟩
/-- the inner one -/
theorem lc1_it {J : It} {n : Nat} {G : Hp → Prop} {Y : Nat → Hp → V → Hp → Prop} (w : Walk J n G Y) {g : TG} {te : TE} {vs : List Nat} {σ : St} {H4 : Hp} {D : Addr} {Nx : Hp → Prop} (Pv : Nat → Hp → Prop) (h0 : Pv 0 H4) (hG : ∀ i H, i ≤ n → Pv i H → G H)
    (hs : ∀ i x H H', i < n → Pv i H → Y i H x H' → g x (wipe σ vs) H' fun σ3 H5 => wipe σ3 vs = wipe σ vs ∧ te σ3 H5 fun y H7 => ∃ acc, H7 D = some (.lst acc) ∧ acc.length < sizeLine ∧ Pv (i + 1) (upd H7 D (.lst (acc ++ [y])))) (hd : ∀ H, Pv n H → Nx H) :
    ∃ W1 : Nat → Nat → Hp → Prop, (∃ m, W1 0 m H4) ∧ ∀ j k H, W1 j k H →
      (J.stop j H ∧ Nx H) ∨ (J.go j H ∧ ∃ Nx1 : Hp → Prop, (∀ H', Nx1 H' → ∃ k', k' < k ∧ W1 (j + 1) k' H') ∧ ∀ x H', J.yld j H x H' → g x (wipe σ vs) H' fun σ3 H5 => wipe σ3 vs = wipe σ vs ∧ tYes σ3 H5 fun b H6 =>
        if b = true then te σ3 H6 fun y H7 => ∃ acc, H7 D = some (.lst acc) ∧ acc.length < sizeLine ∧ Nx1 (upd H7 D (.lst (acc ++ [y]))) else Nx1 H6) := by
  refine ⟨fun i m H => m = n - i ∧ i ≤ n ∧ Pv i H, ⟨n, by simp, Nat.zero_le _, h0⟩, ?_⟩
  rintro i m H ⟨rfl, hi, p⟩
  have q := hG i H hi p
  by_cases hlt : i < n
  · exact .inr ⟨w.goes i H hlt q, Pv (i + 1), fun H' p' => ⟨n - (i + 1), by omega, rfl, hlt, p'⟩, fun x H' y => hs i x H H' hlt p (w.yields i H x H' hlt q y)⟩
  · have e : i = n := by omega
    subst e
    exact .inl ⟨w.stops H q, hd H p⟩
/-- tuple(x) of a list or a tuple -/
def rTupOf (K : PySem.W.Frag) : List V → Hp → VK → Prop := fun xs H Q => ∃ p ys, xs = [.ref p] ∧ ((SqL K H p ys ∧ ∀ l, H l = none → Q (.ref l) (upd H l (.tup ys))) ∨ (SqT K H p ys ∧ Q (.ref p) H))
theorem call_tupN {X : Cx} : CallR X (.type "tuple") (rTupOf X.K) := call_tuple_of
theorem same_seqT {K : PySem.W.Frag} {H H' : Hp} {a : Addr} {xs : List V} (e : Same H H') (h : SqT K H a xs) : SqT K H' a xs := by
  rcases h with (h | ⟨o, h⟩) | h
  · exact .inl (.inl (e _ _ h))
  · exact .inl (.inr ⟨o, e _ _ h⟩)
  · exact .inr h
/-- to be read as a list or a tuple -/
def Sq (K : PySem.W.Frag) (H : Hp) (a : Addr) (xs : List V) : Prop := SqL K H a xs ∨ SqT K H a xs
theorem same_sq {K : PySem.W.Frag} {H H' : Hp} {a : Addr} {xs : List V} (e : Same H H') (h : Sq K H a xs) : Sq K H' a xs := h.imp (fun h => e.seq h) (fun h => same_seqT e h)
theorem cut_take (xs : List V) (i : Nat) : cutV xs none (some (i : Int)) = xs.take i := by
  unfold cutV
  rw [HT.sIx_none, HT.sIx_nat, List.drop_zero, Nat.sub_zero]
  by_cases h : i ≤ xs.length
  · rw [Nat.min_eq_left h]
  · rw [Nat.min_eq_right (by omega), List.take_length, List.take_of_length_le (by omega)]
theorem all_take {xs : List V} (h : xs.all flatV = true) (i : Nat) : (xs.take i).all flatV = true := by
  rw [List.all_eq_true] at h ⊢
  exact fun x hx => h x (List.mem_of_mem_take hx)
end Wm
namespace Wm
open PySem L2
abbrev sFT : Stmt := top 15
abbrev sRT : Stmt := top 16
abbrev sRC : Stmt := top 17
/-- no item stands ahead of itself -/
def NoTw (xs : List V) : Prop := ∀ (i : Nat) (x : V), xs[i]? = some x → inV x (xs.take i) = false
def spFT (K : PySem.W.Frag) : Sp := fun vs H Q _ => ∃ (l : Addr) (xs : List V), vs = [.ref l] ∧ Sq K H l xs ∧ xs.all flatV = true ∧ NoTw xs ∧ ∀ H', Same H H' → Q .non H'
def spRC : Sp := fun vs H Q _ => ∃ (z : V) (c lo hi : Int), vs = [z, .int c, .int lo, .int hi] ∧ lo ≤ c ∧ c ≤ hi ∧ Q .non H
section
variable {P : Program} {w : World} {K : PySem.W.Frag} {mg : Str → Option Value} {base : Heap}
theorem scRC : FnScope ["what", "count", "least", "most"] ["what", "count", "least", "most"] (defScope sRC) := ⟨rfl, rfl, rfl, by decide +kernel, rfl, by decide +kernel, by decide +kernel⟩
theorem ok_rc {f : Addr} {fd : FuncData} (F : Fun K "refuse_count" "refuse_count" sRC f fd) : FnOk P w K mg base CX0 1 f fd ["what", "count", "least", "most"] spRC := by
  refine F.ok scRC (fun vs H Q E h => ?_) (fun cdv A outer s H vs Q E hr h => ?_)
  · obtain ⟨z, c, lo, hi, rfl, _⟩ := h
    rfl
  · obtain ⟨z, c, lo, hi, rfl, h1, h2, k⟩ := h
    refine ⟨_, (pss_one (ps_if (PW.pt (pw_or (pt_cmpR op_lt (pv 1) (pv 2) (nomark _)) (pw_or1 (pt_cmpR op_gt (pv 1) (pv 3) (nomark _))))) (pss_one ps_never) pss_nil)), ?_⟩
    refine ⟨_, rfl, _, rfl, _, _, rfl, rfl, _, rfl, ?_⟩
    refine ite2 (fun h => absurd (of_decide_eq_true h) (by omega)) (fun _ => ?_)
    refine ⟨_, rfl, _, rfl, _, _, rfl, rfl, _, rfl, ?_⟩
    exact ite2 (fun h => absurd (of_decide_eq_true h) (by omega)) (fun _ => k)
theorem scFT : FnScope ["row", "place", "part"] ["row"] (defScope sFT) := ⟨rfl, rfl, rfl, by decide +kernel, rfl, by decide +kernel, by decide +kernel⟩
theorem ok_ft {f : Addr} {fd : FuncData} (F : Fun K "first_twice" "first_twice" sFT f fd) (T : TxB mg) : FnOk P w K mg base CX0 1 f fd ["row"] (spFT K) := by
  refine F.ok scFT (fun vs H Q E h => ?_) (fun cdv A outer s H vs Q E hr h => ?_)
  · obtain ⟨l, xs, rfl, _⟩ := h
    rfl
  · obtain ⟨l, xs, rfl, hl, hf, hno, k⟩ := h
    rcases hl with hl | hl
    · refine ⟨_, (pss_cons (ps_for PassesOwn.never rfl (pi_enum rfl T.enumerate (pa_cons (pv 0) pa_nil)) (pg_tup rfl (pgs_cons (pg_name (i := 1) scFT.nd rfl (Or.inl rfl)) (pgs_cons (pg_name (i := 2) scFT.nd rfl (Or.inl rfl)) pgs_nil))) (pss_one (ps_if (pt_cmpR op_in_seq (pv 2) (pe_slice sl_list (pv 0) po_none (po_some (pv 1))) (by rfl)) (pss_one (ps_ret (pv 1))) pss_nil)))
      (pss_one (ps_ret pe_non))), ?_⟩
      refine ⟨_, rfl, l, xs, rfl, hl, for_it walk_enum (fun i σ H' => (∃ u v, σ = [some (.ref l), u, v]) ∧ Same H H') ⟨⟨none, none, rfl⟩, Same.refl H⟩ (fun i σ H' _ p => p.2.seq hl) ?_ ?_⟩
      · rintro i x σ H1 H2 hi ⟨⟨u, v, rfl⟩, hS⟩ ⟨t, y, z, rfl, ht, rfl, e1, e2⟩
        cases e1
        refine ⟨t, _, rfl, SqT.of upd_same, rfl, _, _, rfl, _, _, rfl, rfl, ?_⟩
        have S2 := hS.trans (Same.upd (o := .tup [.int (i : Nat), z]) ht)
        refine ⟨_, rfl, _, rfl, _, rfl, _, rfl, l, xs, rfl, S2.seq hl, fun p hp => ?_⟩
        refine ⟨p, _, rfl, .inl (SqL.of upd_same), ?_, ?_, _, rfl, ?_⟩
        · exact List.all_eq_true.mp hf _ (List.mem_of_getElem? e2)
        · show (cutV xs none (some (i : Int))).all flatV = true
          rw [cut_take]
          exact all_take hf i
        · have e : inV z (cutV xs none (some (i : Int))) = false := by
            rw [cut_take]
            exact hno i z e2
          show if inV z (cutV xs none (some (i : Int))) = true then _ else _
          rw [e]
          exact iteF ⟨⟨_, _, rfl⟩, S2.trans (Same.upd hp)⟩
      · rintro σ H' ⟨_, hS⟩
        exact k H' hS
    · refine ⟨_, (pss_cons (ps_for PassesOwn.never rfl (pi_enumT rfl T.enumerate (pa_cons (pv 0) pa_nil)) (pg_tup rfl (pgs_cons (pg_name (i := 1) scFT.nd rfl (Or.inl rfl)) (pgs_cons (pg_name (i := 2) scFT.nd rfl (Or.inl rfl)) pgs_nil))) (pss_one (ps_if (pt_cmpR op_in_seq (pv 2) (pe_slice sl_tupA (pv 0) po_none (po_some (pv 1))) (by rfl)) (pss_one (ps_ret (pv 1))) pss_nil)))
      (pss_one (ps_ret pe_non))), ?_⟩
      refine ⟨_, rfl, l, xs, rfl, hl, for_it walk_enumT (fun i σ H' => (∃ u v, σ = [some (.ref l), u, v]) ∧ Same H H') ⟨⟨none, none, rfl⟩, Same.refl H⟩ (fun i σ H' _ p => same_seqT p.2 hl) ?_ ?_⟩
      · rintro i x σ H1 H2 hi ⟨⟨u, v, rfl⟩, hS⟩ ⟨t, y, z, rfl, ht, rfl, e1, e2⟩
        cases e1
        refine ⟨t, _, rfl, SqT.of upd_same, rfl, _, _, rfl, _, _, rfl, rfl, ?_⟩
        have S2 := hS.trans (Same.upd (o := .tup [.int (i : Nat), z]) ht)
        refine ⟨_, rfl, _, rfl, _, rfl, _, rfl, l, xs, rfl, same_seqT S2 hl, fun h => ?_, fun h p hp => ?_⟩
        · have en : xs.take i = xs := by
            rw [HT.sIx_nat] at h
            exact List.take_of_length_le (by omega)
          have e : inV z xs = false := by
            have q := hno i z e2
            rw [en] at q
            exact q
          refine ⟨l, xs, rfl, .inr (same_seqT S2 hl), List.all_eq_true.mp hf _ (List.mem_of_getElem? e2), hf, _, rfl, ?_⟩
          show if inV z xs = true then _ else _
          rw [e]
          exact iteF ⟨⟨_, _, rfl⟩, S2⟩
        · refine ⟨p, _, rfl, .inr (SqT.of upd_same), List.all_eq_true.mp hf _ (List.mem_of_getElem? e2), ?_, _, rfl, ?_⟩
          · show (cutV xs none (some (i : Int))).all flatV = true
            rw [cut_take]
            exact all_take hf i
          · have e : inV z (cutV xs none (some (i : Int))) = false := by
              rw [cut_take]
              exact hno i z e2
            show if inV z (cutV xs none (some (i : Int))) = true then _ else _
            rw [e]
            exact iteF ⟨⟨_, _, rfl⟩, S2.trans (Same.upd hp)⟩
      · rintro σ H' ⟨_, hS⟩
        exact k H' hS
theorem scRT : FnScope ["names", "place"] ["names"] (defScope sRT) := ⟨rfl, rfl, rfl, by decide +kernel, rfl, by decide +kernel, by decide +kernel⟩
theorem ok_rt {f fF : Addr} {fd fdF : FuncData} (F : Fun K "refuse_twice" "refuse_twice" sRT f fd) (T : TxB mg) (D : Dn K mg "first_twice" sFT ["row"] fF fdF) : FnOk P w K mg base CX0 2 f fd ["names"] (spFT K) := by
  have G : FnOk P w K mg base CX0 1 fF fdF ["row"] (spFT K) := ok_ft D.F T
  refine F.ok scRT (fun vs H Q E h => ?_) (fun cdv A outer s H vs Q E hr h => ?_)
  · obtain ⟨l, xs, rfl, _⟩ := h
    rfl
  · obtain ⟨l, xs, rfl, hl, hf, hno, k⟩ := h
    refine ⟨_, (pss_cons (ps_set (i := 1) scRT.nd rfl (Or.inl rfl) (pe_call G hr rfl D.g D.F.kp D.b .nil pass0 (pa_cons (pv 0) pa_nil)))
      (pss_one (ps_if (pt_cmp (pc_notN (pv 1))) (pss_one ps_never) pss_nil))), ?_⟩
    refine ⟨_, rfl, l, xs, rfl, hl, hf, hno, fun H' hS => ?_⟩
    refine ⟨_, rfl, _, rfl, ?_⟩
    exact iteF (k H' hS)
end
end Wm
namespace Wm
open PySem L2
abbrev sTT : Stmt := top 21
abbrev sEO : Stmt := top 22
/-- the tuples at the addresses -/
def RowsAt (K : PySem.W.Frag) (H : Hp) : List Addr → List (List V) → Prop
  | [], [] => True
  | p :: ps, r :: rs => SqT K H p r ∧ RowsAt K H ps rs
  | _, _ => False
theorem RowsAt.same {K : PySem.W.Frag} {H H' : Hp} (e : Same H H') : ∀ {ps : List Addr} {rs : List (List V)}, RowsAt K H ps rs → RowsAt K H' ps rs
  | [], [], _ => True.intro
  | _ :: _, _ :: _, h => ⟨same_seqT e h.1, RowsAt.same e h.2⟩
  | [], _ :: _, h => h.elim
  | _ :: _, [], h => h.elim
theorem RowsAt.len {K : PySem.W.Frag} {H : Hp} : ∀ {ps : List Addr} {rs : List (List V)}, RowsAt K H ps rs → ps.length = rs.length
  | [], [], _ => rfl
  | _ :: _, _ :: _, h => congrArg Nat.succ (RowsAt.len h.2)
  | [], _ :: _, h => h.elim
  | _ :: _, [], h => h.elim
theorem RowsAt.get {K : PySem.W.Frag} {H : Hp} : ∀ {ps : List Addr} {rs : List (List V)} {i : Nat} {p : Addr}, RowsAt K H ps rs → ps[i]? = some p → ∃ r, rs[i]? = some r ∧ SqT K H p r
  | [], [], i, p, _, e => by simp at e
  | _ :: _, r :: _, 0, p, h, e => by
    have e' := Option.some.inj e
    subst e'
    exact ⟨r, rfl, h.1⟩
  | _ :: ps, _ :: rs, i + 1, p, h, e => by
    obtain ⟨r, h1, h2⟩ := RowsAt.get (i := i) h.2 (by simpa using e)
    exact ⟨r, by simpa using h1, h2⟩
  | [], _ :: _, _, _, h, _ => h.elim
  | _ :: _, [], _, _, h, _ => h.elim
theorem RowsAt.append {K : PySem.W.Frag} {H : Hp} : ∀ {ps qs : List Addr} {rs us : List (List V)}, RowsAt K H ps rs → RowsAt K H qs us → RowsAt K H (ps ++ qs) (rs ++ us)
  | [], _, [], _, _, h => h
  | _ :: _, _, _ :: _, _, h, g => ⟨h.1, RowsAt.append h.2 g⟩
  | [], _, _ :: _, _, h, _ => h.elim
  | _ :: _, _, [], _, h, _ => h.elim
theorem RowsAt.take {K : PySem.W.Frag} {H : Hp} : ∀ {ps : List Addr} {rs : List (List V)} (n : Nat), RowsAt K H ps rs → RowsAt K H (ps.take n) (rs.take n)
  | _, _, 0, _ => True.intro
  | [], [], _ + 1, _ => True.intro
  | _ :: _, _ :: _, n + 1, h => ⟨h.1, RowsAt.take n h.2⟩
  | [], _ :: _, _ + 1, h => h.elim
  | _ :: _, [], _ + 1, h => h.elim
theorem map_ref_get {ps : List Addr} {i : Nat} {x : V} (h : (ps.map V.ref)[i]? = some x) : ∃ p, ps[i]? = some p ∧ x = .ref p := by
  rw [List.getElem?_map] at h
  cases e : ps[i]? with
  | none =>
    rw [e] at h
    cases h
  | some p =>
    rw [e] at h
    exact ⟨p, rfl, (Option.some.inj h).symm⟩
theorem map_str_get {ps : List Str} {i : Nat} {x : V} (h : (ps.map V.str)[i]? = some x) : ∃ p, ps[i]? = some p ∧ x = .str p := by
  rw [List.getElem?_map] at h
  cases e : ps[i]? with
  | none =>
    rw [e] at h
    cases h
  | some p =>
    rw [e] at h
    exact ⟨p, rfl, (Option.some.inj h).symm⟩
abbrev Tri := Str × Str × Str
def triV (t : Tri) : List V := [.str t.1, .str t.2.1, .str t.2.2]
def endsL (ts : List Tri) : List Str := ts.flatMap fun t => [t.1, t.2.2]
theorem endsL_take {ts : List Tri} {i : Nat} {t : Tri} (h : ts[i]? = some t) : endsL (ts.take (i + 1)) = endsL (ts.take i) ++ [t.1, t.2.2] := by
  unfold endsL
  rw [List.take_add_one, h, List.flatMap_append]
  rfl
theorem endsL_len (ts : List Tri) : (endsL ts).length = 2 * ts.length := by
  induction ts with
  | nil => rfl
  | cons t r ih =>
    have e : (endsL (t :: r)).length = 2 + (endsL r).length := by
      show ([t.1, t.2.2] ++ endsL r).length = _
      rw [List.length_append]
      rfl
    have e2 : (t :: r).length = r.length + 1 := rfl
    omega
theorem tri_get {ts : List Tri} {i : Nat} {r : List V} (h : (ts.map triV)[i]? = some r) : ∃ t, ts[i]? = some t ∧ r = triV t := by
  rw [List.getElem?_map] at h
  cases e : ts[i]? with
  | none =>
    rw [e] at h
    cases h
  | some p =>
    rw [e] at h
    exact ⟨p, rfl, (Option.some.inj h).symm⟩
def spTT (K : PySem.W.Frag) : Sp := fun vs H Q _ => ∃ (l : Addr) (ps : List Addr) (rs : List (List V)), vs = [.ref l] ∧ SqL K H l (ps.map V.ref) ∧ RowsAt K H ps rs ∧ ps.length ≤ 1000 ∧ ∀ t H', H t = none → Same H H' → H' t = some (.tup (ps.map V.ref)) → Q (.ref t) H'
def spEO (K : PySem.W.Frag) : Sp := fun vs H Q _ => ∃ (l : Addr) (ps : List Addr) (ts : List Tri), vs = [.ref l] ∧ Sq K H l (ps.map V.ref) ∧ RowsAt K H ps (ts.map triV) ∧ ps.length ≤ 1000 ∧ ∀ d H', H d = none → Same H H' → H' d = some (.lst ((endsL ts).map V.str)) → Q (.ref d) H'
section
variable {P : Program} {w : World} {K : PySem.W.Frag} {mg : Str → Option Value} {base : Heap}
theorem scTT : FnScope ["rows", "row"] ["rows"] (defScope sTT) := ⟨rfl, rfl, rfl, by decide +kernel, rfl, by decide +kernel, by decide +kernel⟩
theorem ok_tt {f : Addr} {fd : FuncData} (F : Fun K "tuple_of_tuples" "tuple_of_tuples" sTT f fd) (T : TxB mg) : FnOk P w K mg base CX0 1 f fd ["rows"] (spTT K) := by
  refine F.ok scTT (fun vs H Q E h => ?_) (fun cdv A outer s H vs Q E hr h => ?_)
  · obtain ⟨l, ps, rs, rfl, _⟩ := h
    rfl
  · obtain ⟨l, ps, rs, rfl, hl, hrs, hn, k⟩ := h
    refine ⟨_, (pss_one (ps_ret (pe_callTy call_tupN (by rfl) T.tuple (by decide +kernel) (pa_cons (pe_lc (own := [("row", 1)]) (g := gName 1) (te := tCB (rTupOf K) (tCons (tVar 1) tNil)) rfl scTT.nd (pi_list (pv 0)) (blkOk_by (N := ["rows", "row"]) (sc := defScope sTT) (by decide +kernel)) (fun _ _ _ _ _ => (pg_name (i := 1) scTT.nd rfl (Or.inl rfl))) (fun _ _ _ _ _ => pts_nil) (fun _ _ _ _ _ => (pe_callTy call_tupN (by rfl) T.tuple (by decide +kernel) (pa_cons (pv 1) pa_nil)))) pa_nil)))), ?_⟩
    refine ⟨_, rfl, l, rfl, ⟨_, hl⟩, fun D hD => ?_⟩
    refine lc_it walk_list (fun i H' => Same H H' ∧ H' D = some (.lst ((ps.take i).map V.ref))) ⟨Same.upd hD, upd_same⟩ (fun i H' _ p => p.1.seq hl) ?_ ?_
    · rintro i x H1 H2 hi ⟨hS, hd⟩ ⟨rfl, hx⟩
      obtain ⟨p, hp, rfl⟩ := map_ref_get hx
      obtain ⟨r, _, hr'⟩ := hrs.get hp
      refine ⟨rfl, ?_⟩
      refine ⟨_, rfl, p, r, rfl, .inr ⟨same_seqT hS hr', _, hd, ?_, ?_, ?_⟩⟩
      · rw [List.length_map, List.length_take]
        exact Nat.lt_of_le_of_lt (show _ ≤ 1000 by omega) (by decide)
      · intro b o h
        rw [upd_ne (ne_of_none h hD)]
        exact hS b o h
      · rw [upd_same, List.take_add_one, hp, List.map_append]
        rfl
    · rintro H' ⟨hS, hd⟩
      rw [List.length_map, List.take_length] at hd
      exact ⟨D, _, rfl, .inl ⟨SqL.of hd, fun t ht => k t _ (hS.free ht) (hS.trans (Same.upd ht)) upd_same⟩⟩
theorem scEO : FnScope ["triples", "x", "word", "y", "end"] ["triples"] (defScope sEO) := ⟨rfl, rfl, rfl, by decide +kernel, rfl, by decide +kernel, by decide +kernel⟩
theorem ok_eo {f : Addr} {fd : FuncData} (F : Fun K "ends_of" "ends_of" sEO f fd) : FnOk P w K mg base CX0 1 f fd ["triples"] (spEO K) := by
  refine F.ok scEO (fun vs H Q E h => ?_) (fun cdv A outer s H vs Q E hr h => ?_)
  · obtain ⟨l, ps, ts, rfl, _⟩ := h
    rfl
  · obtain ⟨l, ps, ts, rfl, hl, hrs, hn, k⟩ := h
    have hlen := hrs.len
    rw [List.length_map] at hlen
    rcases hl with hl | hl
    · refine ⟨_, (pss_one (ps_ret (pe_lc2 (own := [("x", 1), ("word", 2), ("y", 3), ("end", 4)]) (vs1 := [4]) (g := gTup K 3 (gCons (gName 1) (gCons (gName 2) (gCons (gName 3) gNil)))) (g1 := gName 4) (wi1 := iTup K (tTup (tCons (tVar 1) (tCons (tVar 3) tNil)))) rfl scEO.nd (pi_list (pv 0)) (blkOk_by (N := ["triples", "x", "word", "y", "end"]) (sc := defScope sEO) (by decide +kernel)) (by decide) (fun _ _ _ _ _ => (pg_tup rfl (pgs_cons (pg_name (i := 1) scEO.nd rfl (Or.inl rfl)) (pgs_cons (pg_name (i := 2) scEO.nd rfl (Or.inl rfl)) (pgs_cons (pg_name (i := 3) scEO.nd rfl (Or.inl rfl)) pgs_nil))))) (fun _ _ _ _ _ => pts_nil) (fun _ _ _ _ _ => (pi_tup (pe_tup (pa_cons (pv 1) (pa_cons (pv 3) pa_nil))))) (fun _ _ _ _ _ => (pg_name (i := 4) scEO.nd rfl (Or.inl rfl))) (fun _ _ _ _ _ => pts_nil) (fun _ _ _ _ _ => (pv 4))))), ?_⟩
      refine ⟨_, rfl, l, rfl, ⟨_, hl⟩, fun D hD => ?_⟩
      refine lc2_it walk_list (fun i H' => Same H H' ∧ H' D = some (.lst ((endsL (ts.take i)).map V.str))) ⟨Same.upd hD, upd_same⟩ (fun i H' _ p => p.1.seq hl) ?_ ?_
      · rintro i x H1 H2 hi ⟨hS, hd⟩ ⟨rfl, hx⟩
        obtain ⟨p, hp, rfl⟩ := map_ref_get hx
        obtain ⟨r, hr1, hr'⟩ := hrs.get hp
        obtain ⟨t, ht, rfl⟩ := tri_get hr1
        refine ⟨p, _, rfl, same_seqT hS hr', rfl, _, _, rfl, _, _, rfl, _, _, rfl, rfl, rfl, ?_⟩
        refine ⟨_, rfl, _, rfl, by show 2 ≤ sizeLine; decide, fun q hq => ⟨q, rfl, ⟨_, SqT.of upd_same⟩, ?_⟩⟩
        have nDq : D ≠ q := ne_of_none hd hq
        refine lc1_it walk_tup (fun j H' => Same H H' ∧ SqT K H' q [.str t.1, .str t.2.2] ∧ H' D = some (.lst ((endsL (ts.take i) ++ [t.1, t.2.2].take j).map V.str))) ⟨hS.trans (Same.upd hq), SqT.of upd_same, ?_⟩ (fun _ _ _ p => p.2.1) ?_ ?_
        · rw [upd_ne nDq, hd, List.take_zero, List.append_nil]
        · rintro j y H3 H4 hj ⟨hS3, hq3, hd3⟩ ⟨rfl, hy⟩
          refine ⟨rfl, _, rfl, _, hd3, ?_, ?_, ?_, ?_⟩
          · rw [List.length_map, List.length_append, endsL_len, List.length_take, List.length_take]
            have l2 : [t.1, t.2.2].length = 2 := rfl
            exact Nat.lt_of_le_of_lt (show _ ≤ 4000 by omega) (by decide)
          · intro b o h
            rw [upd_ne (ne_of_none h hD)]
            exact hS3 b o h
          · rcases hq3 with (h | ⟨o, h⟩) | h
            · exact .inl (.inl (by rw [upd_ne (ne_of h hd3 (by intro z; cases z))]; exact h))
            · exact .inl (.inr ⟨o, by rw [upd_ne (ne_of h hd3 (by intro z; cases z))]; exact h⟩)
            · exact .inr h
          · have hy' : ([t.1, t.2.2].map V.str)[j]? = some y := hy
            obtain ⟨z, hz, rfl⟩ := map_str_get hy'
            have e : ∀ l : List Str, (l ++ (some z).toList).map V.str = l.map V.str ++ [V.str z] := fun l => by
              rw [List.map_append]
              rfl
            rw [upd_same, List.take_add_one, hz, ← List.append_assoc, e]
        · rintro H3 ⟨hS3, hq3, hd3⟩
          refine ⟨hS3, ?_⟩
          rw [hd3, endsL_take ht]
          rfl
      · rintro H' ⟨hS, hd⟩
        refine k D H' hD hS ?_
        rw [hd, List.length_map, List.take_of_length_le (by omega)]
    · refine ⟨_, (pss_one (ps_ret (pe_lc2 (own := [("x", 1), ("word", 2), ("y", 3), ("end", 4)]) (vs1 := [4]) (g := gTup K 3 (gCons (gName 1) (gCons (gName 2) (gCons (gName 3) gNil)))) (g1 := gName 4) (wi1 := iTup K (tTup (tCons (tVar 1) (tCons (tVar 3) tNil)))) rfl scEO.nd (pi_tup (pv 0)) (blkOk_by (N := ["triples", "x", "word", "y", "end"]) (sc := defScope sEO) (by decide +kernel)) (by decide) (fun _ _ _ _ _ => (pg_tup rfl (pgs_cons (pg_name (i := 1) scEO.nd rfl (Or.inl rfl)) (pgs_cons (pg_name (i := 2) scEO.nd rfl (Or.inl rfl)) (pgs_cons (pg_name (i := 3) scEO.nd rfl (Or.inl rfl)) pgs_nil))))) (fun _ _ _ _ _ => pts_nil) (fun _ _ _ _ _ => (pi_tup (pe_tup (pa_cons (pv 1) (pa_cons (pv 3) pa_nil))))) (fun _ _ _ _ _ => (pg_name (i := 4) scEO.nd rfl (Or.inl rfl))) (fun _ _ _ _ _ => pts_nil) (fun _ _ _ _ _ => (pv 4))))), ?_⟩
      refine ⟨_, rfl, l, rfl, ⟨_, hl⟩, fun D hD => ?_⟩
      refine lc2_it walk_tup (fun i H' => Same H H' ∧ H' D = some (.lst ((endsL (ts.take i)).map V.str))) ⟨Same.upd hD, upd_same⟩ (fun i H' _ p => same_seqT p.1 hl) ?_ ?_
      · rintro i x H1 H2 hi ⟨hS, hd⟩ ⟨rfl, hx⟩
        obtain ⟨p, hp, rfl⟩ := map_ref_get hx
        obtain ⟨r, hr1, hr'⟩ := hrs.get hp
        obtain ⟨t, ht, rfl⟩ := tri_get hr1
        refine ⟨p, _, rfl, same_seqT hS hr', rfl, _, _, rfl, _, _, rfl, _, _, rfl, rfl, rfl, ?_⟩
        refine ⟨_, rfl, _, rfl, by show 2 ≤ sizeLine; decide, fun q hq => ⟨q, rfl, ⟨_, SqT.of upd_same⟩, ?_⟩⟩
        have nDq : D ≠ q := ne_of_none hd hq
        refine lc1_it walk_tup (fun j H' => Same H H' ∧ SqT K H' q [.str t.1, .str t.2.2] ∧ H' D = some (.lst ((endsL (ts.take i) ++ [t.1, t.2.2].take j).map V.str))) ⟨hS.trans (Same.upd hq), SqT.of upd_same, ?_⟩ (fun _ _ _ p => p.2.1) ?_ ?_
        · rw [upd_ne nDq, hd, List.take_zero, List.append_nil]
        · rintro j y H3 H4 hj ⟨hS3, hq3, hd3⟩ ⟨rfl, hy⟩
          refine ⟨rfl, _, rfl, _, hd3, ?_, ?_, ?_, ?_⟩
          · rw [List.length_map, List.length_append, endsL_len, List.length_take, List.length_take]
            have l2 : [t.1, t.2.2].length = 2 := rfl
            exact Nat.lt_of_le_of_lt (show _ ≤ 4000 by omega) (by decide)
          · intro b o h
            rw [upd_ne (ne_of_none h hD)]
            exact hS3 b o h
          · rcases hq3 with (h | ⟨o, h⟩) | h
            · exact .inl (.inl (by rw [upd_ne (ne_of h hd3 (by intro z; cases z))]; exact h))
            · exact .inl (.inr ⟨o, by rw [upd_ne (ne_of h hd3 (by intro z; cases z))]; exact h⟩)
            · exact .inr h
          · have hy' : ([t.1, t.2.2].map V.str)[j]? = some y := hy
            obtain ⟨z, hz, rfl⟩ := map_str_get hy'
            have e : ∀ l : List Str, (l ++ (some z).toList).map V.str = l.map V.str ++ [V.str z] := fun l => by
              rw [List.map_append]
              rfl
            rw [upd_same, List.take_add_one, hz, ← List.append_assoc, e]
        · rintro H3 ⟨hS3, hq3, hd3⟩
          refine ⟨hS3, ?_⟩
          rw [hd3, endsL_take ht]
          rfl
      · rintro H' ⟨hS, hd⟩
        refine k D H' hD hS ?_
        rw [hd, List.length_map, List.take_of_length_le (by omega)]
end
end Wm
namespace Wm
open PySem L2
abbrev sTP : Stmt := top 23
abbrev sRV : Stmt := top 24
abbrev sRL : Stmt := top 25
abbrev sRA : Stmt := top 26
abbrev Var := Str × Option Str
def sortV : Option Str → V
  | none => .non
  | some s => .str s
def varV (v : Var) : List V := [.str v.1, sortV v.2]
def varT (v : Var) : List Str := v.1 :: v.2.toList
def textsL (nm : Str) (vars : List Var) (ts : List Tri) : List Str := (nm :: vars.flatMap varT) ++ ts.map (·.2.1)
theorem flat_take {vars : List Var} {i : Nat} {v : Var} (h : vars[i]? = some v) : (vars.take (i + 1)).flatMap varT = (vars.take i).flatMap varT ++ varT v := by
  rw [List.take_add_one, h, List.flatMap_append]
  simp
theorem var_get {vars : List Var} {i : Nat} {r : List V} (h : (vars.map varV)[i]? = some r) : ∃ t, vars[i]? = some t ∧ r = varV t := by
  rw [List.getElem?_map] at h
  cases e : vars[i]? with
  | none =>
    rw [e] at h
    cases h
  | some p =>
    rw [e] at h
    exact ⟨p, rfl, (Option.some.inj h).symm⟩
theorem inV_str {z : Str} {ns : List Str} : inV (.str z) (ns.map V.str) = decide (z ∈ ns) := by
  unfold inV
  induction ns with
  | nil => rfl
  | cons a r ih =>
    rw [List.map_cons, List.any_cons, ih]
    show (a == z || _) = _
    by_cases h : a = z
    · subst h
      simp
    · have h2 : ¬ z = a := fun q => h q.symm
      by_cases h3 : z ∈ r <;> simp [h, h2, h3]
theorem flat_strs (ns : List Str) : (ns.map V.str).all flatV = true := by
  rw [List.all_eq_true]
  intro x hx
  obtain ⟨z, _, rfl⟩ := List.mem_map.mp hx
  rfl
def spTP (K : PySem.W.Frag) : Sp := fun vs H Q _ => ∃ (nm : Str) (a b : Addr) (ps qs : List Addr) (vars : List Var) (ts : List Tri), vs = [.str nm, .ref a, .ref b] ∧ SqT K H a (ps.map V.ref) ∧ RowsAt K H ps (vars.map varV) ∧ SqL K H b (qs.map V.ref) ∧ RowsAt K H qs (ts.map triV) ∧
  ps.length ≤ 1000 ∧ qs.length ≤ 1000 ∧ ∀ d H', H d = none → Same H H' → H' d = some (.lst ((textsL nm vars ts).map V.str)) → Q (.ref d) H'
def spRV (K : PySem.W.Frag) : Sp := fun vs H Q _ => ∃ (a b : Addr) (ns zs : List Str), vs = [.ref a, .ref b] ∧ SqL K H a (ns.map V.str) ∧ SqL K H b (zs.map V.str) ∧ (∀ z ∈ zs, z ∈ ns) ∧ ∀ H', Same H H' → Q .non H'
def spRL (K : PySem.W.Frag) : Sp := fun vs H Q _ => ∃ (a b : Addr) (ns : List Str) (ps : List Addr) (ts : List Tri), vs = [.ref a, .ref b] ∧ SqL K H a (ns.map V.str) ∧ SqT K H b (ps.map V.ref) ∧ RowsAt K H ps (ts.map triV) ∧ ps.length ≤ 1000 ∧ (∀ z ∈ ns, z ∈ endsL ts) ∧ ∀ H', Same H H' → Q .non H'
def Hangs (ts : List Tri) : Prop := ∀ (i : Nat) (t : Tri), 0 < i → ts[i]? = some t → t.1 ∈ endsL (ts.take i) ∨ t.2.2 ∈ endsL (ts.take i)
def spRA (K : PySem.W.Frag) : Sp := fun vs H Q _ => ∃ (b : Addr) (ps : List Addr) (ts : List Tri), vs = [.ref b] ∧ SqT K H b (ps.map V.ref) ∧ RowsAt K H ps (ts.map triV) ∧ ps.length ≤ 1000 ∧ Hangs ts ∧ ∀ H', Same H H' → Q .non H'
section
variable {P : Program} {w : World} {K : PySem.W.Frag} {mg : Str → Option Value} {base : Heap}
theorem scTP : FnScope ["name", "variables", "triples", "texts", "variable", "sort", "x", "word", "y"] ["name", "variables", "triples"] (defScope sTP) := ⟨rfl, rfl, rfl, by decide +kernel, rfl, by decide +kernel, by decide +kernel⟩
theorem ok_tp {f : Addr} {fd : FuncData} (F : Fun K "texts_of_pattern" "texts_of_pattern" sTP f fd) : FnOk P w K mg base CX0 1 f fd ["name", "variables", "triples"] (spTP K) := by
  refine F.ok scTP (fun vs H Q E h => ?_) (fun cdv A outer s H vs Q E hr h => ?_)
  · obtain ⟨nm, a, b, ps, qs, vars, ts, rfl, _⟩ := h
    rfl
  · obtain ⟨nm, a, b, ps, qs, vars, ts, rfl, ha, hva, hb, htr, hn, hn2, k⟩ := h
    have hlen := hva.len
    rw [List.length_map] at hlen
    have hlen2 := htr.len
    rw [List.length_map] at hlen2
    have fl : ∀ i, ((vars.take i).flatMap varT).length ≤ 2 * vars.length := fun i => by
      have e : ∀ l : List Var, (l.flatMap varT).length ≤ 2 * l.length := fun l => by
        induction l with
        | nil => exact Nat.le_refl _
        | cons v r ih =>
          have e : ((v :: r).flatMap varT).length = (varT v).length + (r.flatMap varT).length := by
            rw [List.flatMap_cons, List.length_append]
          have e2 : (varT v).length ≤ 2 := by
            unfold varT
            cases v.2 <;> simp
          have e3 : (v :: r).length = r.length + 1 := rfl
          omega
      have q := e (vars.take i)
      rw [List.length_take] at q
      omega
    refine ⟨_, (pss_cons (ps_set (i := 3) scTP.nd rfl (Or.inl rfl) (pe_lst (pa_cons (pv 0) pa_nil)))
      (pss_cons (ps_for PassesOwn.never rfl (pi_tup (pv 1)) (pg_tup rfl (pgs_cons (pg_name (i := 4) scTP.nd rfl (Or.inl rfl)) (pgs_cons (pg_name (i := 5) scTP.nd rfl (Or.inl rfl)) pgs_nil))) (pss_cons (ps_expr (pe_bm PySem.F.plainAttrs_list PySem.F.slot_list_append PySem.F.type_list_append mt_append (pv 3) (pa_cons (pv 4) pa_nil)))
      (pss_one (ps_if (pt_cmp (pc_notN (pv 5))) (pss_one (ps_expr (pe_bm PySem.F.plainAttrs_list PySem.F.slot_list_append PySem.F.type_list_append mt_append (pv 3) (pa_cons (pv 5) pa_nil)))) pss_nil))))
      (pss_cons (ps_expr (pe_bm PySem.F.plainAttrs_list PySem.F.slot_list_extend PySem.F.type_list_extend mt_extend (pv 3) (pa_cons (pe_lc (own := [("x", 6), ("word", 7), ("y", 8)]) (g := gTup K 3 (gCons (gName 6) (gCons (gName 7) (gCons (gName 8) gNil)))) rfl scTP.nd (pi_list (pv 2)) (blkOk_by (N := ["name", "variables", "triples", "texts", "variable", "sort", "x", "word", "y"]) (sc := defScope sTP) (by decide +kernel)) (fun _ _ _ _ _ => (pg_tup rfl (pgs_cons (pg_name (i := 6) scTP.nd rfl (Or.inl rfl)) (pgs_cons (pg_name (i := 7) scTP.nd rfl (Or.inl rfl)) (pgs_cons (pg_name (i := 8) scTP.nd rfl (Or.inl rfl)) pgs_nil))))) (fun _ _ _ _ _ => pts_nil) (fun _ _ _ _ _ => (pv 7))) pa_nil)))
      (pss_one (ps_ret (pv 3)))))), ?_⟩
    refine ⟨_, rfl, by show 1 ≤ sizeLine; decide, fun d hd => ?_⟩
    have S0 : Same H (upd H d (.lst [.str nm])) := Same.upd hd
    refine ⟨_, rfl, a, rfl, ⟨_, same_seqT S0 ha⟩, for_it walk_tup (fun i σ H' => (∃ u v, σ = [some (.str nm), some (.ref a), some (.ref b), some (.ref d), u, v, none, none, none]) ∧ Same H H' ∧ H' d = some (.lst ((nm :: (vars.take i).flatMap varT).map V.str)))
      ⟨⟨none, none, rfl⟩, S0, upd_same⟩ (fun i σ H' _ p => same_seqT p.2.1 ha) ?_ ?_⟩
    · rintro i x σ H1 H2 hi ⟨⟨u, v, rfl⟩, hS, hl⟩ ⟨rfl, hx⟩
      obtain ⟨p, hp, rfl⟩ := map_ref_get hx
      obtain ⟨r, hr1, hr'⟩ := hva.get hp
      obtain ⟨⟨n, so⟩, ht, rfl⟩ := var_get hr1
      have fi := fl i
      refine ⟨p, _, rfl, same_seqT hS hr', rfl, _, _, rfl, _, _, rfl, rfl, ?_⟩
      refine ⟨_, rfl, .inl ⟨rfl, _, SqL.of hl⟩, _, rfl, d, _, _, rfl, rfl, hl, ?_, ?_⟩
      · rw [List.length_map, List.length_cons]
        exact Nat.lt_of_le_of_lt (show _ ≤ 4000 by omega) (by decide)
      have S1 : Same H (upd H2 d (.lst ((nm :: (vars.take i).flatMap varT).map V.str ++ [.str n]))) := fun b' o h => by
        rw [upd_ne (ne_of_none h hd)]
        exact hS b' o h
      refine ⟨_, rfl, _, rfl, ?_⟩
      cases so with
      | none =>
        refine iteF ⟨⟨_, _, rfl⟩, S1, ?_⟩
        rw [upd_same, flat_take ht]
        have e : (nm :: ((vars.take i).flatMap varT ++ varT (n, none))) = (nm :: (vars.take i).flatMap varT) ++ [n] := rfl
        rw [e, List.map_append]
        rfl
      | some so =>
        refine iteT ?_
        refine ⟨_, rfl, .inl ⟨rfl, _, SqL.of upd_same⟩, _, rfl, d, _, _, rfl, rfl, upd_same, ?_, ?_⟩
        · rw [List.length_append, List.length_map, List.length_cons, List.length_singleton]
          exact Nat.lt_of_le_of_lt (show _ ≤ 4000 by omega) (by decide)
        · refine ⟨⟨_, _, rfl⟩, fun b' o h => ?_, ?_⟩
          · rw [upd_ne (ne_of_none h hd)]
            exact S1 b' o h
          · rw [upd_same, flat_take ht]
            have e : (nm :: ((vars.take i).flatMap varT ++ varT (n, some so))) = (nm :: (vars.take i).flatMap varT) ++ [n, so] := rfl
            rw [e, List.map_append, List.append_assoc]
            rfl
    · rintro σ H1 ⟨⟨u, v, rfl⟩, hS, hl⟩
      rw [List.length_map, List.take_of_length_le (by omega)] at hl
      have fi := fl vars.length
      rw [List.take_length] at fi
      refine ⟨_, rfl, .inl ⟨rfl, _, SqL.of hl⟩, _, rfl, b, rfl, ⟨_, hS.seq hb⟩, fun D hD => ?_⟩
      have nDd : D ≠ d := (ne_of_none hl hD).symm
      refine lc_it walk_list (fun i H' => Same H H' ∧ H' d = some (.lst ((nm :: vars.flatMap varT).map V.str)) ∧ H' D = some (.lst (((ts.take i).map (·.2.1)).map V.str))) ⟨hS.trans (Same.upd hD), by rw [upd_ne nDd.symm]; exact hl, upd_same⟩ (fun i H' _ p => p.1.seq hb) ?_ ?_
      · rintro i x H2 H3 hi ⟨hS2, hl2, hD2⟩ ⟨rfl, hx⟩
        obtain ⟨p, hp, rfl⟩ := map_ref_get hx
        obtain ⟨r, hr1, hr'⟩ := htr.get hp
        obtain ⟨t, ht, rfl⟩ := tri_get hr1
        refine ⟨p, _, rfl, same_seqT hS2 hr', rfl, _, _, rfl, _, _, rfl, _, _, rfl, rfl, rfl, ?_⟩
        refine ⟨_, rfl, _, hD2, ?_, ?_, ?_, ?_⟩
        · rw [List.length_map, List.length_map, List.length_take]
          exact Nat.lt_of_le_of_lt (show _ ≤ 1000 by omega) (by decide)
        · intro b' o h
          rw [upd_ne (ne_of_none h (hS.free hD))]
          exact hS2 b' o h
        · rw [upd_ne nDd.symm]
          exact hl2
        · rw [upd_same, List.take_add_one, ht, List.map_append, List.map_append]
          rfl
      · rintro H2 ⟨hS2, hl2, hD2⟩
        rw [List.length_map, List.take_of_length_le (by omega)] at hD2
        refine ⟨d, D, _, _, rfl, rfl, hl2, hD2, ?_, ?_⟩
        · rw [List.length_map, List.length_map, List.length_map, List.length_cons]
          exact Nat.le_trans (show _ ≤ 4000 by omega) (by decide)
        · refine ⟨_, rfl, ?_⟩
          refine k d _ hd (fun b' o h => ?_) ?_
          · rw [upd_ne (ne_of_none h hd)]
            exact hS2 b' o h
          · rw [upd_same]
            unfold textsL
            rw [List.map_append]
theorem scRV : FnScope ["names", "texts", "text"] ["names", "texts"] (defScope sRV) := ⟨rfl, rfl, rfl, by decide +kernel, rfl, by decide +kernel, by decide +kernel⟩
theorem ok_rv {f : Addr} {fd : FuncData} (F : Fun K "refuse_no_variable" "refuse_no_variable" sRV f fd) : FnOk P w K mg base CX0 1 f fd ["names", "texts"] (spRV K) := by
  refine F.ok scRV (fun vs H Q E h => ?_) (fun cdv A outer s H vs Q E hr h => ?_)
  · obtain ⟨a, b, ns, zs, rfl, _⟩ := h
    rfl
  · obtain ⟨a, b, ns, zs, rfl, ha, hb, hin, k⟩ := h
    refine ⟨_, (pss_one (ps_for PassesOwn.never rfl (pi_list (pv 1)) (pg_name (i := 2) scRV.nd rfl (Or.inl rfl)) (pss_one (ps_if (pt_cmpR op_notIn_seq (pv 2) (pv 0) (by rfl)) (pss_one ps_never) pss_nil)))), ?_⟩
    refine ⟨_, rfl, b, rfl, ⟨_, hb⟩, for_list (K := K) (a := b) (xs := zs.map V.str) (fun i σ H' => (∃ v, σ = [some (.ref a), some (.ref b), v]) ∧ H' = H) ⟨⟨none, rfl⟩, rfl⟩ (fun i σ H' _ p => by rw [p.2]; exact hb) ?_ ?_⟩
    · rintro i y σ H' hi ⟨⟨v, rfl⟩, rfl⟩
      obtain ⟨z, hz, rfl⟩ := map_str_get hi
      refine ⟨_, rfl, _, rfl, a, _, rfl, .inl ha, rfl, flat_strs ns, _, rfl, ?_⟩
      show if (!inV (.str z) (ns.map V.str)) = true then _ else _
      rw [inV_str, decide_eq_true (hin z (List.mem_of_getElem? hz))]
      exact iteF ⟨⟨_, rfl⟩, rfl⟩
    · rintro σ H' ⟨_, rfl⟩
      exact k H' (Same.refl H')
theorem scRL : FnScope ["names", "conditions", "tied", "name"] ["names", "conditions"] (defScope sRL) := ⟨rfl, rfl, rfl, by decide +kernel, rfl, by decide +kernel, by decide +kernel⟩
theorem ok_rl {f fE : Addr} {fd fdE : FuncData} (F : Fun K "refuse_loose" "refuse_loose" sRL f fd) (D : Dn K mg "ends_of" sEO ["triples"] fE fdE) : FnOk P w K mg base CX0 2 f fd ["names", "conditions"] (spRL K) := by
  have G : FnOk P w K mg base CX0 1 fE fdE ["triples"] (spEO K) := ok_eo D.F
  refine F.ok scRL (fun vs H Q E h => ?_) (fun cdv A outer s H vs Q E hr h => ?_)
  · obtain ⟨a, b, ns, ps, ts, rfl, _⟩ := h
    rfl
  · obtain ⟨a, b, ns, ps, ts, rfl, ha, hb, htr, hn, hin, k⟩ := h
    refine ⟨_, (pss_cons (ps_set (i := 2) scRL.nd rfl (Or.inl rfl) (pe_call G hr rfl D.g D.F.kp D.b .nil pass0 (pa_cons (pv 1) pa_nil)))
      (pss_one (ps_for PassesOwn.never rfl (pi_list (pv 0)) (pg_name (i := 3) scRL.nd rfl (Or.inl rfl)) (pss_one (ps_if (pt_cmpR op_notIn_seq (pv 3) (pv 2) (by rfl)) (pss_one ps_never) pss_nil))))), ?_⟩
    refine ⟨_, rfl, b, ps, ts, rfl, .inr hb, htr, hn, fun d H1 hd hS hl => ?_⟩
    refine ⟨_, rfl, a, rfl, ⟨_, hS.seq ha⟩, for_list (K := K) (a := a) (xs := ns.map V.str) (fun i σ H' => (∃ v, σ = [some (.ref a), some (.ref b), some (.ref d), v]) ∧ H' = H1) ⟨⟨none, rfl⟩, rfl⟩ (fun i σ H' _ p => by rw [p.2]; exact hS.seq ha) ?_ ?_⟩
    · rintro i y σ H' hi ⟨⟨v, rfl⟩, rfl⟩
      obtain ⟨z, hz, rfl⟩ := map_str_get hi
      refine ⟨_, rfl, _, rfl, d, _, rfl, .inl (SqL.of hl), rfl, flat_strs _, _, rfl, ?_⟩
      show if (!inV (.str z) ((endsL ts).map V.str)) = true then _ else _
      rw [inV_str, decide_eq_true (hin z (List.mem_of_getElem? hz))]
      exact iteF ⟨⟨_, rfl⟩, rfl⟩
    · rintro σ H' ⟨_, rfl⟩
      exact k H' hS
theorem scRA : FnScope ["conditions", "place", "x", "word", "y", "ahead"] ["conditions"] (defScope sRA) := ⟨rfl, rfl, rfl, by decide +kernel, rfl, by decide +kernel, by decide +kernel⟩
theorem ok_ra {f fE : Addr} {fd fdE : FuncData} (F : Fun K "refuse_apart" "refuse_apart" sRA f fd) (T : TxB mg) (D : Dn K mg "ends_of" sEO ["triples"] fE fdE) : FnOk P w K mg base CX0 2 f fd ["conditions"] (spRA K) := by
  have G : FnOk P w K mg base CX0 1 fE fdE ["triples"] (spEO K) := ok_eo D.F
  refine F.ok scRA (fun vs H Q E h => ?_) (fun cdv A outer s H vs Q E hr h => ?_)
  · obtain ⟨b, ps, ts, rfl, _⟩ := h
    rfl
  · obtain ⟨b, ps, ts, rfl, hb, htr, hn, hh, k⟩ := h
    have hlen := htr.len
    rw [List.length_map] at hlen
    refine ⟨_, (pss_one (ps_for PassesOwn.never rfl (pi_enumT rfl T.enumerate (pa_cons (pv 0) pa_nil)) (pg_tup rfl (pgs_cons (pg_name (i := 1) scRA.nd rfl (Or.inl rfl)) (pgs_cons (pg_tup rfl (pgs_cons (pg_name (i := 2) scRA.nd rfl (Or.inl rfl)) (pgs_cons (pg_name (i := 3) scRA.nd rfl (Or.inl rfl)) (pgs_cons (pg_name (i := 4) scRA.nd rfl (Or.inl rfl)) pgs_nil)))) pgs_nil))) (pss_cons (ps_set (i := 5) scRA.nd rfl (Or.inl rfl) (pe_call G hr rfl D.g D.F.kp D.b .nil pass0 (pa_cons (pe_slice sl_tupA (pv 0) po_none (po_some (pv 1))) pa_nil)))
      (pss_one (ps_if (PW.pt (pw_and (pt_cmpR op_gt (pv 1) pe_int (nomark _)) (pw_and (pt_cmpR op_notIn_seq (pv 2) (pv 5) (by rfl)) (pw_and1 (pt_cmpR op_notIn_seq (pv 4) (pv 5) (by rfl)))))) (pss_one ps_never) pss_nil))))), ?_⟩
    refine ⟨_, rfl, b, _, rfl, hb, for_it walk_enumT (fun i σ H' => (∃ u v x y z, σ = [some (.ref b), u, v, x, y, z]) ∧ Same H H') ⟨⟨none, none, none, none, none, rfl⟩, Same.refl H⟩ (fun i σ H' _ p => same_seqT p.2 hb) ?_ ?_⟩
    · rintro i x σ H1 H2 hi ⟨⟨u, v, x1, x2, x3, rfl⟩, hS⟩ ⟨q, y, z, rfl, hq, rfl, e1, e2⟩
      cases e1
      obtain ⟨p, hp, rfl⟩ := map_ref_get e2
      obtain ⟨r, hr1, hr'⟩ := htr.get hp
      obtain ⟨t, ht, rfl⟩ := tri_get hr1
      have S2 := hS.trans (Same.upd (o := .tup [.int (i : Nat), .ref p]) hq)
      have hi' : i < ps.length := by rw [List.length_map] at hi; exact hi
      refine ⟨q, _, rfl, SqT.of upd_same, rfl, _, _, rfl, _, _, rfl, ⟨p, _, rfl, same_seqT S2 hr', rfl, _, _, rfl, _, _, rfl, _, _, rfl, rfl, rfl, ?_⟩⟩
      refine ⟨_, rfl, _, rfl, _, rfl, b, _, rfl, same_seqT S2 hb, fun h => ?_, fun _ c hc => ?_⟩
      · exfalso
        rw [HT.sIx_nat, List.length_map] at h
        omega
      have S3 := S2.trans (Same.upd (o := .tup (cutV (ps.map V.ref) none (some (i : Int)))) hc)
      have hcut : cutV (ps.map V.ref) none (some (i : Int)) = (ps.take i).map V.ref := by rw [cut_take, List.map_take]
      refine ⟨c, ps.take i, ts.take i, rfl, .inr (SqT.of (by rw [upd_same, hcut])), ?_, by rw [List.length_take]; omega, fun d H3 hd hS3 hl => ?_⟩
      · rw [List.map_take]
        exact (htr.take i).same S3
      refine ⟨_, rfl, _, _, rfl, rfl, _, rfl, ?_⟩
      refine ite2 (fun h0 => ?_) (fun _ => ?_)
      · have h0' : (0 : Int) < (i : Int) := of_decide_eq_true h0
        refine ⟨_, rfl, _, rfl, d, _, rfl, .inl (SqL.of hl), rfl, flat_strs _, _, rfl, ?_⟩
        show if (!inV (.str t.1) ((endsL (ts.take i)).map V.str)) = true then _ else _
        rw [inV_str]
        by_cases m1 : t.1 ∈ endsL (ts.take i)
        · rw [decide_eq_true m1]
          exact iteF (iteF ⟨⟨_, _, _, _, _, rfl⟩, S3.trans hS3⟩)
        · rw [decide_eq_false m1]
          refine iteT ?_
          refine ⟨_, rfl, _, rfl, d, _, rfl, .inl (SqL.of hl), rfl, flat_strs _, _, rfl, ?_⟩
          show if (!inV (.str t.2.2) ((endsL (ts.take i)).map V.str)) = true then _ else _
          have m2 : t.2.2 ∈ endsL (ts.take i) := (hh i t (by omega) ht).resolve_left m1
          rw [inV_str, decide_eq_true m2]
          exact iteF ⟨⟨_, _, _, _, _, rfl⟩, S3.trans hS3⟩
      · exact iteF ⟨⟨_, _, _, _, _, rfl⟩, S3.trans hS3⟩
    · rintro σ H' ⟨_, hS⟩
      exact k H' hS
end
end Wm
namespace Wm
open PySem L2 StX
abbrev sCP : Stmt := top 27
structure TxP (mg : Str → Option Value) : Prop where
  mv : ∃ t, mg "MOST_VARIABLES" = some (.int 4 t)
  mc : ∃ t, mg "MOST_CONDITIONS" = some (.int 3 t)
theorem DueN.mono {C : Addr} {zs : List Str} {H H1 : Hp} {Q : VK} {E : XK} (hS : Same H H1) (h : DueN C zs H Q E) : DueN C zs H1 Q E := by
  unfold DueN at h ⊢
  split
  · rename_i e
    rw [e] at h
    exact fun H' h1 => h H' (hS.trans h1)
  · rename_i z e
    rw [e] at h
    exact fun d H' h0 h1 h2 => h d H' (hS.free h0) (hS.trans h1) h2
theorem DueN.next {C : Addr} {zs : List Str} {H H1 : Hp} {Q Q' : VK} {E : XK} (h : DueN C zs H Q E) (hS : Same H H1) (r : zs.find? (fun z => !isNm z) = none → ∀ H', Same H1 H' → Q' .non H') : DueN C zs H1 Q' E := by
  have h' := DueN.mono hS h
  unfold DueN at h' ⊢
  cases e : zs.find? (fun z => !isNm z) with
  | none => exact r e
  | some z =>
    rw [e] at h'
    exact h'
theorem flat_len (l : List Var) : (l.flatMap varT).length ≤ 2 * l.length := by
  induction l with
  | nil => exact Nat.le_refl _
  | cons v r ih =>
    have e : ((v :: r).flatMap varT).length = (varT v).length + (r.flatMap varT).length := by
      rw [List.flatMap_cons, List.length_append]
    have e2 : (varT v).length ≤ 2 := by
      unfold varT
      cases v.2 <;> simp
    have e3 : (v :: r).length = r.length + 1 := rfl
    omega
/-- a pattern of which nothing but a text that is no name is to be refused -/
structure PatOk (vars : List Var) (cs gs : List Tri) (hs : List Str) : Prop where
  v1 : 1 ≤ vars.length
  v4 : vars.length ≤ 4
  c1 : 1 ≤ cs.length
  c3 : cs.length ≤ 3
  g3 : gs.length ≤ 1
  h3 : hs.length ≤ 1
  tw : NoTw ((vars.map (·.1)).map V.str)
  en : ∀ z ∈ endsL (cs ++ gs) ++ hs, z ∈ vars.map (·.1)
  lo : ∀ z ∈ vars.map (·.1), z ∈ endsL cs
  ap : Hangs cs
def spCP (K : PySem.W.Frag) (C : Addr) : Sp := fun vs H Q E => ∃ (nm : Str) (a b g h : Addr) (ps qs us : List Addr) (vars : List Var) (cs gs : List Tri) (hs : List Str), vs = [.str nm, .ref a, .ref b, .ref g, .ref h] ∧ SqT K H a (ps.map V.ref) ∧ RowsAt K H ps (vars.map varV) ∧
  SqT K H b (qs.map V.ref) ∧ RowsAt K H qs (cs.map triV) ∧ SqL K H g (us.map V.ref) ∧ RowsAt K H us (gs.map triV) ∧ SqL K H h (hs.map V.str) ∧ PatOk vars cs gs hs ∧ (∀ z ∈ textsL nm vars (cs ++ gs), z.length ≤ 1000) ∧ DueN C (textsL nm vars (cs ++ gs)) H Q E
section
variable {P : Program} {w : World} {K : PySem.W.Frag} {mg : Str → Option Value} {base : Heap}
theorem scCP : FnScope ["name", "variables", "conditions", "given", "hands", "triples", "names", "variable", "sort"] ["name", "variables", "conditions", "given", "hands"] (defScope sCP) := ⟨rfl, rfl, rfl, by decide +kernel, rfl, by decide +kernel, by decide +kernel⟩
theorem ok_cp {f fRC fRN fTP fRT fRV fEO fRL fRA C : Addr} {fd dRC dRN dTP dRT dRV dEO dRL dRA : FuncData} (F : Fun K "check_pattern" "check_pattern" sCP f fd) (T : TxB mg) (TP : TxP mg)
    (RC : Dn K mg "refuse_count" sRC ["what", "count", "least", "most"] fRC dRC) (RN : Dn K mg "refuse_no_name" sRN ["texts"] fRN dRN) (TX : Dn K mg "texts_of_pattern" sTP ["name", "variables", "triples"] fTP dTP) (RT : Dn K mg "refuse_twice" sRT ["names"] fRT dRT)
    (RV : Dn K mg "refuse_no_variable" sRV ["names", "texts"] fRV dRV) (EO : Dn K mg "ends_of" sEO ["triples"] fEO dEO) (RL : Dn K mg "refuse_loose" sRL ["names", "conditions"] fRL dRL) (RA : Dn K mg "refuse_apart" sRA ["conditions"] fRA dRA)
    (GRN : FnOk P w K mg base (L2.CX P w) 4 fRN dRN ["texts"] (spRN K C)) (GRT : FnOk P w K mg base CX0 2 fRT dRT ["names"] (spFT K)) :
    FnOk P w K mg base (L2.CX P w) 5 f fd ["name", "variables", "conditions", "given", "hands"] (spCP K C) := by
  have GRC : FnOk P w K mg base CX0 1 fRC dRC _ spRC := ok_rc RC.F
  have GTX : FnOk P w K mg base CX0 1 fTP dTP _ (spTP K) := ok_tp TX.F
  have GRV : FnOk P w K mg base CX0 1 fRV dRV _ (spRV K) := ok_rv RV.F
  have GEO : FnOk P w K mg base CX0 1 fEO dEO _ (spEO K) := ok_eo EO.F
  have GRL : FnOk P w K mg base CX0 2 fRL dRL _ (spRL K) := ok_rl RL.F EO
  have GRA : FnOk P w K mg base CX0 2 fRA dRA _ (spRA K) := ok_ra RA.F T EO
  obtain ⟨t1, hmv⟩ := TP.mv
  obtain ⟨t2, hmc⟩ := TP.mc
  refine F.okX scCP (fun vs H Q E h => ?_) (fun cdv A outer s H vs Q E hr h => ?_)
  · obtain ⟨nm, a, b, g, h, ps, qs, us, vars, cs, gs, hs, rfl, _⟩ := h
    rfl
  · obtain ⟨nm, a, b, g, h, ps, qs, us, vars, cs, gs, hs, rfl, ha, hva, hb, hcs, hg, hgs, hh, ok, hz, k⟩ := h
    have hr1 : Room 1 _ := hr.mono (by decide)
    have hr2 : Room 2 _ := hr.mono (by decide)
    have l1 := hva.len
    have l2 := hcs.len
    have l3 := hgs.len
    rw [List.length_map] at l1 l2 l3
    have o1 := ok.v4
    have o2 := ok.c3
    have o3 := ok.g3
    have o4 := ok.v1
    have o5 := ok.c1
    have o6 := ok.h3
    refine ⟨_, (pss_cons (ps_expr (pe_call GRC hr1 rfl RC.g RC.F.kp RC.b .nil pass0 (pa_cons pe_str (pa_cons (pe_callB call_len_seq (by rfl) T.len (by decide +kernel) (pa_cons (pv 1) pa_nil)) (pa_cons pe_int (pa_cons (pe_glob (v := .int 4) (by rfl) hmv ⟨_, rfl⟩) pa_nil))))))
      (pss_cons (ps_expr (pe_call GRC hr1 rfl RC.g RC.F.kp RC.b .nil pass0 (pa_cons pe_str (pa_cons (pe_callB call_len_seq (by rfl) T.len (by decide +kernel) (pa_cons (pv 2) pa_nil)) (pa_cons pe_int (pa_cons (pe_glob (v := .int 3) (by rfl) hmc ⟨_, rfl⟩) pa_nil))))))
      (pss_cons (ps_set (i := 5) scCP.nd rfl (Or.inl rfl) (pe_lst (pa_star (pv 2) (pa_star (pv 3) pa_nil))))
      (pss_cons (ps_expr (pe_call GRN hr rfl RN.g RN.F.kp RN.b .nil (passes_call (takes_of rfl rfl rfl rfl) (fun _ _ _ _ h => h)) (pa_cons (pe_call GTX hr1 rfl TX.g TX.F.kp TX.b .nil pass0 (pa_cons (pv 0) (pa_cons (pv 1) (pa_cons (pv 5) pa_nil)))) pa_nil)))
      (pss_cons (ps_setLc (i := 6) (own := [("variable", 7), ("sort", 8)]) (g := gTup K 2 (gCons (gName 7) (gCons (gName 8) gNil))) rfl scCP.nd rfl rfl (sw_true rfl rfl rfl (by decide +kernel)) (pi_tup (pv 1)) (blkOk_by (N := ["name", "variables", "conditions", "given", "hands", "triples", "names", "variable", "sort"]) (sc := defScope sCP) (by decide +kernel)) (fun _ _ _ _ _ => (pg_tup rfl (pgs_cons (pg_name (i := 7) scCP.nd rfl (Or.inl rfl)) (pgs_cons (pg_name (i := 8) scCP.nd rfl (Or.inl rfl)) pgs_nil)))) (fun _ _ _ _ _ => pts_nil) (fun _ _ _ _ _ => (pv 7)))
      (pss_cons (ps_expr (pe_call GRT hr2 rfl RT.g RT.F.kp RT.b .nil pass0 (pa_cons (pv 6) pa_nil)))
      (pss_cons (ps_expr (pe_call GRV hr1 rfl RV.g RV.F.kp RV.b .nil pass0 (pa_cons (pv 6) (pa_cons (pe_lst (pa_star (pe_call GEO hr1 rfl EO.g EO.F.kp EO.b .nil pass0 (pa_cons (pv 5) pa_nil)) (pa_star (pv 4) pa_nil))) pa_nil))))
      (pss_cons (ps_expr (pe_call GRL hr2 rfl RL.g RL.F.kp RL.b .nil pass0 (pa_cons (pv 6) (pa_cons (pv 2) pa_nil))))
      (pss_one (ps_expr (pe_call GRA hr2 rfl RA.g RA.F.kp RA.b .nil pass0 (pa_cons (pv 2) pa_nil)))))))))))), ?_⟩
    refine ⟨_, rfl, a, _, rfl, .inr ha, _, _, _, _, rfl, ?_, ?_, ?_⟩
    · rw [List.length_map]; omega
    · rw [List.length_map]; omega
    refine ⟨_, rfl, b, _, rfl, .inr hb, _, _, _, _, rfl, ?_, ?_, ?_⟩
    · rw [List.length_map]; omega
    · rw [List.length_map]; omega
    -- triples = [*conditions, *given]
    refine ⟨_, rfl, b, _, rfl, .inl hb, _, rfl, g, _, rfl, .inr hg, ?_, fun tr htr => ?_⟩
    · show (qs.map V.ref ++ (us.map V.ref ++ [])).length ≤ sizeLine
      rw [List.append_nil, List.length_append, List.length_map, List.length_map]
      exact Nat.le_trans (show _ ≤ 1000 by omega) (by decide)
    have etr : qs.map V.ref ++ (us.map V.ref ++ []) = (qs ++ us).map V.ref := by rw [List.append_nil, List.map_append]
    have S1 : Same H (upd H tr (.lst (qs.map V.ref ++ (us.map V.ref ++ [])))) := Same.upd htr
    refine ⟨_, rfl, _, rfl, _, rfl, nm, a, tr, ps, qs ++ us, vars, cs ++ gs, rfl, same_seqT S1 ha, hva.same S1, SqL.of (by rw [upd_same, etr]), ?_, by omega, by rw [List.length_append]; omega, fun d H2 hd hS2 hl => ?_⟩
    · rw [List.map_append]
      exact (hcs.append hgs).same S1
    have S2 := S1.trans hS2
    refine ⟨d, _, rfl, SqL.of hl, ?_, hz, ?_⟩
    · unfold textsL
      have e : ∀ l : List Var, (l.flatMap varT).length ≤ 2 * l.length := flat_len
      have e2 := e vars
      rw [List.length_append, List.length_cons, List.length_map, List.length_append]
      omega
    refine DueN.next k S2 fun hn H3 hS3 => ?_
    have S3 := S2.trans hS3
    -- names = [variable for variable, sort in variables]
    refine ⟨_, rfl, a, rfl, ⟨_, same_seqT S3 ha⟩, fun D hD => ?_⟩
    refine lc_it walk_tup (fun i H' => Same H3 H' ∧ H' D = some (.lst (((vars.take i).map (·.1)).map V.str))) ⟨Same.upd hD, upd_same⟩ (fun i H' _ p => same_seqT (S3.trans p.1) ha) ?_ ?_
    · rintro i x H4 H5 hi ⟨hS4, hD4⟩ ⟨rfl, hx⟩
      obtain ⟨p, hp, rfl⟩ := map_ref_get hx
      obtain ⟨r, hr1', hr'⟩ := hva.get hp
      obtain ⟨⟨n, so⟩, ht, rfl⟩ := var_get hr1'
      refine ⟨p, _, rfl, same_seqT (S3.trans hS4) hr', rfl, _, _, rfl, _, _, rfl, rfl, rfl, ?_⟩
      refine ⟨_, rfl, _, hD4, ?_, ?_, ?_⟩
      · rw [List.length_map, List.length_map, List.length_take]
        exact Nat.lt_of_le_of_lt (show _ ≤ 1000 by omega) (by decide)
      · intro b' o h
        rw [upd_ne (ne_of_none h hD)]
        exact hS4 b' o h
      · rw [upd_same, List.take_add_one, ht, List.map_append, List.map_append]
        rfl
    rintro H4 ⟨hS4, hD4⟩
    rw [List.length_map, List.take_of_length_le (by omega)] at hD4
    have S4 := S3.trans hS4
    have tr4 : H4 tr = some (.lst ((qs ++ us).map V.ref)) := by
      have q : (upd H tr (.lst (qs.map V.ref ++ (us.map V.ref ++ [])))) tr = some (.lst ((qs ++ us).map V.ref)) := by rw [upd_same, etr]
      exact hS4 _ _ (hS3 _ _ (hS2 _ _ q))
    -- refuse_twice(names)
    refine ⟨_, rfl, D, _, rfl, .inl (SqL.of hD4), flat_strs _, ok.tw, fun H5 hS5 => ?_⟩
    have S5 := S4.trans hS5
    -- refuse_no_variable(names, [*ends_of(triples), *hands])
    refine ⟨_, rfl, _, rfl, tr, qs ++ us, cs ++ gs, rfl, .inl (SqL.of (hS5 _ _ tr4)), ?_, by rw [List.length_append]; omega, fun e H6 he hS6 hl6 => ?_⟩
    · rw [List.map_append]
      exact (hcs.append hgs).same S5
    have S6 := S5.trans hS6
    refine ⟨e, _, rfl, .inr (SqL.of hl6), _, rfl, h, _, rfl, .inr (S6.seq hh), ?_, fun l hl => ?_⟩
    · rw [List.length_append, List.length_map, endsL_len, List.length_append, List.append_nil, List.length_map]
      exact Nat.le_trans (show _ ≤ 1000 by omega) (by decide)
    refine ⟨D, l, _, endsL (cs ++ gs) ++ hs, rfl, SqL.of (Same.upd hl _ _ (hS6 _ _ (hS5 _ _ hD4))), SqL.of ?_, ok.en, fun H7 hS7 => ?_⟩
    · rw [upd_same, List.append_nil, List.map_append]
    have S7 := S6.trans ((Same.upd hl).trans hS7)
    have D7 := hS7 _ _ (Same.upd hl _ _ (hS6 _ _ (hS5 _ _ hD4)))
    -- refuse_loose(names, conditions)
    refine ⟨_, rfl, _, rfl, D, b, _, qs, cs, rfl, SqL.of D7, same_seqT S7 hb, hcs.same S7, by omega, ok.lo, fun H8 hS8 => ?_⟩
    have S8 := S7.trans hS8
    -- refuse_apart(conditions)
    refine ⟨_, rfl, b, qs, cs, rfl, same_seqT S8 hb, hcs.same S8, by omega, ok.ap, fun H9 hS9 => ?_⟩
    unfold DueN at k
    rw [hn] at k
    exact k H9 (S8.trans hS9)
end
end Wm
namespace Wm
open PySem L2 StX
abbrev sMak : Stmt := inClass (top 33) 0
def barF (nm : Str) (t1 t2 : Addr) : List (Str × V) := putF "conditions" (.ref t2) (putF "variables" (.ref t1) (putF "name" (.str nm) []))
theorem ne1 : ¬ (("variables" : Str) = "conditions") := by decide +kernel
theorem ne2 : ¬ (("name" : Str) = "conditions") := by decide +kernel
theorem ne3 : ¬ (("name" : Str) = "variables") := by decide +kernel
theorem barF_name (nm : Str) (t1 t2 : Addr) : (barF nm t1 t2).lookup ("name" : Str) = some (.str nm) := by
  unfold barF
  rw [lookup_putF, if_neg ne2, lookup_putF, if_neg ne3, lookup_putF, if_pos rfl]
theorem barF_vars (nm : Str) (t1 t2 : Addr) : (barF nm t1 t2).lookup ("variables" : Str) = some (.ref t1) := by
  unfold barF
  rw [lookup_putF, if_neg ne1, lookup_putF, if_pos rfl]
theorem barF_cond (nm : Str) (t1 t2 : Addr) : (barF nm t1 t2).lookup ("conditions" : Str) = some (.ref t2) := by
  unfold barF
  rw [lookup_putF, if_pos rfl]
theorem putF_len (f : Str) (v : V) : ∀ fs : List (Str × V), (putF f v fs).length ≤ fs.length + 1
  | [] => Nat.le_refl _
  | (g, x) :: r => by
    unfold putF
    split
    · exact Nat.le_succ _
    · have := putF_len f v r
      simp only [List.length_cons]
      omega
/-- what the making of an object that may be refused by a text is to bring; H0: what stood ahead of it -/
def DueM (C : Addr) (zs : List Str) (H0 : Hp) (ok : Hp → Prop) (E : XK) : Prop := match zs.find? (fun z => !isNm z) with
  | none => ∀ H', Same H0 H' → ok H'
  | some z => ∀ d H', H0 d = none → Same H0 H' → H' d = some (.xd (ef1 "name" "noname" (.str z))) → E (.ref C) (some d) H'
theorem DueM.toN {C : Addr} {zs : List Str} {H0 H1 : Hp} {ok : Hp → Prop} {Q : VK} {E : XK} (h : DueM C zs H0 ok E) (hS : Same H0 H1) (r : zs.find? (fun z => !isNm z) = none → ∀ H', Same H1 H' → Q .non H') : DueN C zs H1 Q E := by
  unfold DueM at h
  unfold DueN
  cases e : zs.find? (fun z => !isNm z) with
  | none => exact r e
  | some z =>
    rw [e] at h
    exact fun d H' h0 h1 h2 => h d H' (hS.free h0) (hS.trans h1) h2
/-! ### makings -/
def makF (mk md : Str) (t1 t2 : Addr) : List (Str × V) := putF "up" (.ref t2) (putF "down" (.ref t1) (putF "made" (.str md) (putF "maker" (.str mk) [])))
theorem nm1 : ¬ (("maker" : Str) = "up") := by decide +kernel
theorem nm2 : ¬ (("maker" : Str) = "down") := by decide +kernel
theorem nm3 : ¬ (("maker" : Str) = "made") := by decide +kernel
theorem nm4 : ¬ (("made" : Str) = "up") := by decide +kernel
theorem nm5 : ¬ (("made" : Str) = "down") := by decide +kernel
theorem nm6 : ¬ (("down" : Str) = "up") := by decide +kernel
theorem makF_maker (mk md : Str) (t1 t2 : Addr) : (makF mk md t1 t2).lookup ("maker" : Str) = some (.str mk) := by
  unfold makF
  rw [lookup_putF, if_neg nm1, lookup_putF, if_neg nm2, lookup_putF, if_neg nm3, lookup_putF, if_pos rfl]
theorem makF_made (mk md : Str) (t1 t2 : Addr) : (makF mk md t1 t2).lookup ("made" : Str) = some (.str md) := by
  unfold makF
  rw [lookup_putF, if_neg nm4, lookup_putF, if_neg nm5, lookup_putF, if_pos rfl]
theorem makF_down (mk md : Str) (t1 t2 : Addr) : (makF mk md t1 t2).lookup ("down" : Str) = some (.ref t1) := by
  unfold makF
  rw [lookup_putF, if_neg nm6, lookup_putF, if_pos rfl]
theorem makF_up (mk md : Str) (t1 t2 : Addr) : (makF mk md t1 t2).lookup ("up" : Str) = some (.ref t2) := by
  unfold makF
  rw [lookup_putF, if_pos rfl]
structure TxMak (K : PySem.W.Frag) (mg : Str → Option Value) (B fB : Addr) : Prop where
  cl : Cls K B
  nk : NoAttr K B "maker"
  nd : NoAttr K B "made"
  nw : NoAttr K B "down"
  nu : NoAttr K B "up"
  g : mg "Making" = some (.ref B)
  m : Mk K B fB
end Wm
namespace Wm
open PySem L2 StX
/-- z at place i is the first that stands ahead of itself -/
def TwAt (zs : List Str) (i : Nat) (z : Str) : Prop := zs[i]? = some z ∧ z ∈ zs.take i ∧ ∀ j y, j < i → zs[j]? = some y → ¬ y ∈ zs.take j
def NoTwS (zs : List Str) : Prop := ∀ (j : Nat) y, zs[j]? = some y → ¬ y ∈ zs.take j
theorem inV_take {z : Str} {zs : List Str} (i : Nat) : inV (.str z) ((zs.map V.str).take i) = decide (z ∈ zs.take i) := by
  rw [← List.map_take]
  exact inV_str
def spFT2 (K : PySem.W.Frag) : Sp := fun vs H Q _ => ∃ (l : Addr) (zs : List Str), vs = [.ref l] ∧ SqT K H l (zs.map V.str) ∧ zs.length ≤ 1000 ∧
  (NoTwS zs → ∀ H', Same H H' → Q .non H') ∧ ∀ i z, TwAt zs i z → ∀ H', Same H H' → Q (.int (i : Nat)) H'
def spRT2 (K : PySem.W.Frag) (C : Addr) : Sp := fun vs H Q E => ∃ (l : Addr) (zs : List Str), vs = [.ref l] ∧ SqT K H l (zs.map V.str) ∧ zs.length ≤ 1000 ∧
  (NoTwS zs → ∀ H', Same H H' → Q .non H') ∧ ∀ i z, TwAt zs i z → ∀ d H', H d = none → Same H H' → H' d = some (.xd (ef1 "name" "twice" (.str z))) → E (.ref C) (some d) H'
abbrev sT0 : Stmt := inClass (top 5) 0
section
variable {P : Program} {w : World} {K : PySem.W.Frag} {mg : Str → Option Value} {base : Heap}
theorem ok_ft2 {f : Addr} {fd : FuncData} (F : Fun K "first_twice" "first_twice" sFT f fd) (T : TxB mg) : FnOk P w K mg base CX0 1 f fd ["row"] (spFT2 K) := by
  refine F.ok scFT (fun vs H Q E h => ?_) (fun cdv A outer s H vs Q E hr h => ?_)
  · obtain ⟨l, xs, rfl, _⟩ := h
    rfl
  · obtain ⟨l, zs, rfl, hl, hn, kn, kt⟩ := h
    have hf : (zs.map V.str).all flatV = true := flat_strs _
    refine ⟨_, (pss_cons (ps_for PassesOwn.never rfl (pi_enumT rfl T.enumerate (pa_cons (pv 0) pa_nil)) (pg_tup rfl (pgs_cons (pg_name (i := 1) scFT.nd rfl (Or.inl rfl)) (pgs_cons (pg_name (i := 2) scFT.nd rfl (Or.inl rfl)) pgs_nil))) (pss_one (ps_if (pt_cmpR op_in_seq (pv 2) (pe_slice sl_tupA (pv 0) po_none (po_some (pv 1))) (by rfl)) (pss_one (ps_ret (pv 1))) pss_nil)))
      (pss_one (ps_ret pe_non))), ?_⟩
    refine ⟨_, rfl, l, _, rfl, hl, for_it walk_enumT (fun i σ H' => (∃ u v, σ = [some (.ref l), u, v]) ∧ Same H H' ∧ ∀ j y, j < i → zs[j]? = some y → ¬ y ∈ zs.take j) ⟨⟨none, none, rfl⟩, Same.refl H, fun j y h => absurd h (Nat.not_lt_zero j)⟩ (fun i σ H' _ p => same_seqT p.2.1 hl) ?_ ?_⟩
    · rintro i x σ H1 H2 hi ⟨⟨u, v, rfl⟩, hS, hno⟩ ⟨t, y, z, rfl, ht, rfl, e1, e2⟩
      cases e1
      obtain ⟨z, hz, rfl⟩ := map_str_get e2
      refine ⟨t, _, rfl, SqT.of upd_same, rfl, _, _, rfl, _, _, rfl, rfl, ?_⟩
      have S2 := hS.trans (Same.upd (o := .tup [.int (i : Nat), .str z]) ht)
      have step : ¬ z ∈ zs.take i → ∀ j y, j < i + 1 → zs[j]? = some y → ¬ y ∈ zs.take j := fun q j y hj e => by
        by_cases c : j = i
        · subst c
          rw [hz] at e
          cases e
          exact q
        · exact hno j y (by omega) e
      refine ⟨_, rfl, _, rfl, _, rfl, _, rfl, l, _, rfl, same_seqT S2 hl, fun h => ?_, fun h p hp => ?_⟩
      · have en : (zs.map V.str).take i = zs.map V.str := by
          rw [HT.sIx_nat] at h
          exact List.take_of_length_le (by omega)
        have en2 := inV_take (z := z) (zs := zs) i
        rw [en] at en2
        refine ⟨l, _, rfl, .inr (same_seqT S2 hl), rfl, hf, _, rfl, ?_⟩
        show if inV (.str z) (zs.map V.str) = true then _ else _
        rw [en2]
        refine ite2 (fun q => ?_) (fun q => ?_)
        · exact ⟨_, rfl, kt i z ⟨hz, of_decide_eq_true q, hno⟩ _ S2⟩
        · exact ⟨⟨_, _, rfl⟩, S2, step fun m => q (decide_eq_true m)⟩
      · refine ⟨p, _, rfl, .inr (SqT.of upd_same), rfl, ?_, _, rfl, ?_⟩
        · show (cutV (zs.map V.str) none (some (i : Int))).all flatV = true
          rw [cut_take]
          exact all_take hf i
        · show if inV (.str z) (cutV (zs.map V.str) none (some (i : Int))) = true then _ else _
          rw [cut_take, inV_take]
          refine ite2 (fun q => ?_) (fun q => ?_)
          · exact ⟨_, rfl, kt i z ⟨hz, of_decide_eq_true q, hno⟩ _ (S2.trans (Same.upd hp))⟩
          · exact ⟨⟨_, _, rfl⟩, S2.trans (Same.upd hp), step fun m => q (decide_eq_true m)⟩
    · rintro σ H' ⟨_, hS, hno⟩
      refine kn (fun j y e => hno j y ?_ e) H' hS
      rw [List.length_map]
      exact (List.getElem?_eq_some_iff.mp e).1
theorem scT0 : FnScope ["self", "name"] ["self", "name"] (defScope sT0) := ⟨rfl, rfl, rfl, by decide +kernel, rfl, by decide +kernel, by decide +kernel⟩
theorem ok_twice {f C f0 W : Addr} {fd fd0 : FuncData} (F : Fun K "__init__" "Twice.__init__" sT0 f fd) (T : ErrT K mg "Twice" "name" C f) (TW : WhoT K mg W f0 fd0) (G0 : FnOk P w K mg base CX0 1 f0 fd0 ["self", "kind"] (spWI K)) :
    FnOk P w K mg base CX0 2 f fd ["self", "name"] (spE1 C "name" "twice") := by
  refine F.ok scT0 (fun vs H Q E h => ?_) (fun cdv A outer s H vs Q E hr h => ?_)
  · obtain ⟨a, v, rfl, _⟩ := h
    rfl
  · obtain ⟨a, v, rfl, ha, k⟩ := h
    refine ⟨_, pss_cons (ps_expr (pe_clsFn rfl TW.g TW.r TW.m TW.k G0 hr TW.b .nil pass0 (pa_cons (pv 0) (pa_cons pe_str pa_nil)))) (pss_one (ps_ost (pv 0) (pv 1))), ?_⟩
    refine ⟨_, rfl, a, C, _, rfl, T.o, T.nk, ha, fun dx n ne => ?_⟩
    refine ⟨_, rfl, _, rfl, a, C, rfl, T.o, T.nf, .inr ⟨dx, _, upd_same, Eq.trans (upd_ne ne) upd_same, by decide, ?_⟩⟩
    refine k dx _ n ne (fun b o nb e => ?_) ?_ upd_same
    · have nd : b ≠ dx := ne_of_none e n
      rw [upd_ne nd, upd_ne nb, upd_ne nd]
      exact e
    · rw [upd_ne ne.symm, upd_same]
theorem rdTup {K : PySem.W.Frag} {p : Addr} {xs : List V} {i : Int} {j : Nat} {v : V} {H : Hp} {Q : VK} (hp : SqT K H p xs) (e : i = (j : Int)) (hv : xs[j]? = some v) (h : Q v H) : rIxT K (.ref p) (.int i) H Q :=
  ⟨p, xs, i, v, rfl, rfl, hp, by
    subst e
    have hlt : j < xs.length := (List.getElem?_eq_some_iff.mp hv).1
    have e2 : xs[j] = v := (List.getElem?_eq_some_iff.mp hv).2
    simp [atI, ixN, hlt, e2], h⟩
theorem ok_rt2 {f fF C fI : Addr} {fd fdF fdI : FuncData} (F : Fun K "refuse_twice" "refuse_twice" sRT f fd) (T : TxB mg) (D : Dn K mg "first_twice" sFT ["row"] fF fdF) (TE : ErrT K mg "Twice" "name" C fI) (bI : Binds K fdI ["self", "name"] [])
    (GI : FnOk P w K mg base CX0 2 fI fdI ["self", "name"] (spE1 C "name" "twice")) : FnOk P w K mg base (L2.CX P w) 4 f fd ["names"] (spRT2 K C) := by
  have G : FnOk P w K mg base CX0 1 fF fdF ["row"] (spFT2 K) := ok_ft2 D.F T
  refine F.okX scRT (fun vs H Q E h => ?_) (fun cdv A outer s H vs Q E hr h => ?_)
  · obtain ⟨l, xs, rfl, _⟩ := h
    rfl
  · obtain ⟨l, zs, rfl, hl, hn, kn, kt⟩ := h
    have hr1 : Room 1 _ := hr.mono (by decide)
    refine ⟨_, (pss_cons (ps_set (i := 1) scRT.nd rfl (Or.inl rfl) (pe_call G hr1 rfl D.g D.F.kp D.b .nil pass0 (pa_cons (pv 0) pa_nil)))
      (pss_one (ps_if (pt_cmp (pc_notN (pv 1))) (pss_one (ps_raise rfl (takes_of rfl rfl rfl rfl) (pmk_oex TE.o TE.iC TE.tI GI hr bI .nil pass0 rfl TE.g (pa_cons (pe_ix ix_tup (pv 0) (pv 1) (fun _ _ => rfl)) pa_nil)))) pss_nil))), ?_⟩
    refine ⟨_, rfl, l, zs, rfl, hl, hn, fun no H' hS => ?_, fun i z tw H' hS => ?_⟩
    · refine ⟨_, rfl, _, rfl, ?_⟩
      exact iteF (kn no H' hS)
    · refine ⟨_, rfl, _, rfl, ?_⟩
      refine iteT ⟨_, rfl, _, rfl, rdTup (same_seqT hS hl) rfl (j := i) (v := .str z) (by rw [List.getElem?_map, tw.1]; rfl) ?_⟩
      refine mk1 fun d H3 hd hS3 hx => kt i z tw d H3 (hS.free hd) (hS.trans hS3) hx
end
end Wm
namespace Wm
open PySem L2 StX
/-- what the making of a making is to bring -/
structure DueK (C CT : Addr) (zs ds us : List Str) (H0 : Hp) (ok : Hp → Prop) (E : XK) : Prop where
  nn : ∀ z, zs.find? (fun z => !isNm z) = some z → ∀ d H', H0 d = none → Same H0 H' → H' d = some (.xd (ef1 "name" "noname" (.str z))) → E (.ref C) (some d) H'
  td : zs.find? (fun z => !isNm z) = none → ∀ i z, TwAt ds i z → ∀ d H', H0 d = none → Same H0 H' → H' d = some (.xd (ef1 "name" "twice" (.str z))) → E (.ref CT) (some d) H'
  tu : zs.find? (fun z => !isNm z) = none → NoTwS ds → ∀ i z, TwAt us i z → ∀ d H', H0 d = none → Same H0 H' → H' d = some (.xd (ef1 "name" "twice" (.str z))) → E (.ref CT) (some d) H'
  ok : zs.find? (fun z => !isNm z) = none → NoTwS ds → NoTwS us → ∀ H', Same H0 H' → ok H'
theorem due_toN {C : Addr} {zs : List Str} {H1 : Hp} {Q : VK} {E : XK} (h : ∀ z, zs.find? (fun z => !isNm z) = some z → ∀ d H', H1 d = none → Same H1 H' → H' d = some (.xd (ef1 "name" "noname" (.str z))) → E (.ref C) (some d) H')
    (r : zs.find? (fun z => !isNm z) = none → ∀ H', Same H1 H' → Q .non H') : DueN C zs H1 Q E := by
  unfold DueN
  cases e : zs.find? (fun z => !isNm z) with
  | none => exact r e
  | some z => exact h z e
def spMak (K : PySem.W.Frag) (C CT B : Addr) : Sp := fun vs H Q E => ∃ (H0 : Hp) (x dx l1 l2 : Addr) (mk md : Str) (ds us : List Str), vs = [.ref x, .str mk, .str md, .ref l1, .ref l2] ∧ Same H0 H ∧ H0 x = none ∧ H x = some (.ins B dx []) ∧
  SqL K H0 l1 (ds.map V.str) ∧ SqL K H0 l2 (us.map V.str) ∧ ds.length ≤ 100 ∧ us.length ≤ 100 ∧ (∀ z ∈ mk :: md :: (ds ++ us), z.length ≤ 1000) ∧
  DueK C CT (mk :: md :: (ds ++ us)) ds us H0 (fun H' => ∀ t1 t2, H' x = some (.ins B dx (makF mk md t1 t2)) → H' t1 = some (.tup (ds.map V.str)) → H' t2 = some (.tup (us.map V.str)) → Q .non H') E
section
variable {P : Program} {w : World} {K : PySem.W.Frag} {mg : Str → Option Value} {base : Heap}
theorem scMak : FnScope ["self", "maker", "made", "down", "up"] ["self", "maker", "made", "down", "up"] (defScope sMak) := ⟨rfl, rfl, rfl, by decide +kernel, rfl, by decide +kernel, by decide +kernel⟩
theorem ok_mak {f fRN fRT C CT B : Addr} {fd dRN dRT : FuncData} (F : Fun K "__init__" "Making.__init__" sMak f fd) (T : TxB mg) (TM : TxMak K mg B f) (RN : Dn K mg "refuse_no_name" sRN ["texts"] fRN dRN) (RT : Dn K mg "refuse_twice" sRT ["names"] fRT dRT)
    (GRN : FnOk P w K mg base (L2.CX P w) 4 fRN dRN ["texts"] (spRN K C)) (GRT : FnOk P w K mg base (L2.CX P w) 4 fRT dRT ["names"] (spRT2 K CT)) : FnOk P w K mg base (L2.CX P w) 5 f fd ["self", "maker", "made", "down", "up"] (spMak K C CT B) := by
  refine F.okX scMak (fun vs H Q E h => ?_) (fun cdv A outer s H vs Q E hr h => ?_)
  · obtain ⟨H0, x, dx, l1, l2, mk, md, ds, us, rfl, _⟩ := h
    rfl
  · obtain ⟨H0, x, dx, l1, l2, mk, md, ds, us, rfl, S0, x0, hx, h1, h2, n1, n2, hz, k⟩ := h
    have Sx : ∀ {H1 : Hp} {o : HO}, Same H0 H1 → Same H0 (upd H1 x o) := fun hs b o e => by
      rw [upd_ne (ne_of_none e x0)]
      exact hs b o e
    refine ⟨_, (pss_cons (ps_fld (pv 0) (pv 1) rfl)
      (pss_cons (ps_fld (pv 0) (pv 2) rfl)
      (pss_cons (ps_fld (pv 0) (pe_callTy call_tupN (by rfl) T.tuple (by decide +kernel) (pa_cons (pv 3) pa_nil)) rfl)
      (pss_cons (ps_fld (pv 0) (pe_callTy call_tupN (by rfl) T.tuple (by decide +kernel) (pa_cons (pv 4) pa_nil)) rfl)
      (pss_cons (ps_expr (pe_call GRN hr rfl RN.g RN.F.kp RN.b .nil (passes_call (takes_of rfl rfl rfl rfl) (fun _ _ _ _ h => h)) (pa_cons (pe_lst (pa_cons (pv 1) (pa_cons (pv 2) (pa_star (pe_fld (pv 0) rfl) (pa_star (pe_fld (pv 0) rfl) pa_nil))))) pa_nil)))
      (pss_cons (ps_expr (pe_call GRT hr rfl RT.g RT.F.kp RT.b .nil (passes_call (takes_of rfl rfl rfl rfl) (fun _ _ _ _ h => h)) (pa_cons (pe_fld (pv 0) rfl) pa_nil)))
      (pss_one (ps_expr (pe_call GRT hr rfl RT.g RT.F.kp RT.b .nil (passes_call (takes_of rfl rfl rfl rfl) (fun _ _ _ _ h => h)) (pa_cons (pe_fld (pv 0) rfl) pa_nil)))))))))), ?_⟩
    refine ⟨_, rfl, _, rfl, x, B, dx, [], rfl, hx, TM.cl, TM.nk, (by show 0 < 1000; decide), ?_⟩
    have S1 := Sx (o := .ins B dx (putF "maker" (.str mk) [])) S0
    refine ⟨_, rfl, _, rfl, x, B, dx, _, rfl, upd_same, TM.cl, TM.nd, Nat.lt_of_le_of_lt (putF_len _ _ _) (by decide), ?_⟩
    rw [upd_upd]
    have S2 := Sx (o := .ins B dx (putF "made" (.str md) (putF "maker" (.str mk) []))) S0
    have few2 : (putF "made" (.str md) (putF "maker" (.str mk) [])).length ≤ 10 := Nat.le_trans (putF_len _ _ _) (Nat.le_trans (Nat.succ_le_succ (putF_len _ _ _)) (by decide))
    -- self.down = tuple(down)
    refine ⟨_, rfl, l1, _, rfl, .inl ⟨S2.seq h1, fun t1 ht1 => ?_⟩⟩
    have n1x : t1 ≠ x := fun z => by
      rw [z, upd_same] at ht1
      cases ht1
    refine ⟨_, rfl, x, B, dx, _, rfl, Eq.trans (upd_ne n1x.symm) upd_same, TM.cl, TM.nw, Nat.lt_of_le_of_lt few2 (by decide), ?_⟩
    generalize hH3 : upd (upd (upd H x (.ins B dx (putF "made" (.str md) (putF "maker" (.str mk) [])))) t1 (.tup (ds.map V.str))) x (.ins B dx (putF "down" (.ref t1) (putF "made" (.str md) (putF "maker" (.str mk) [])))) = H3
    have S3 : Same H0 H3 := by
      rw [← hH3]
      exact Sx (S2.trans (Same.upd ht1))
    have hx3 : H3 x = some (.ins B dx (putF "down" (.ref t1) (putF "made" (.str md) (putF "maker" (.str mk) [])))) := by rw [← hH3, upd_same]
    have h13 : H3 t1 = some (.tup (ds.map V.str)) := by rw [← hH3, upd_ne n1x, upd_same]
    -- self.up = tuple(up)
    refine ⟨_, rfl, l2, _, rfl, .inl ⟨S3.seq h2, fun t2 ht2 => ?_⟩⟩
    have n2x : t2 ≠ x := (ne_of_none hx3 ht2).symm
    have n21 : t2 ≠ t1 := (ne_of_none h13 ht2).symm
    refine ⟨_, rfl, x, B, dx, _, rfl, Eq.trans (upd_ne n2x.symm) hx3, TM.cl, TM.nu, Nat.lt_of_le_of_lt (Nat.le_trans (putF_len _ _ _) (Nat.succ_le_succ few2)) (by decide), ?_⟩
    show _
    generalize hH4 : upd (upd H3 t2 (.tup (us.map V.str))) x (.ins B dx (putF "up" (.ref t2) (putF "down" (.ref t1) (putF "made" (.str md) (putF "maker" (.str mk) []))))) = H4
    have S4 : Same H0 H4 := by
      rw [← hH4]
      exact Sx (S3.trans (Same.upd ht2))
    have hx4 : H4 x = some (.ins B dx (makF mk md t1 t2)) := by rw [← hH4, upd_same]; rfl
    have h14 : H4 t1 = some (.tup (ds.map V.str)) := by rw [← hH4, upd_ne n1x, upd_ne n21.symm]; exact h13
    have h24 : H4 t2 = some (.tup (us.map V.str)) := by rw [← hH4, upd_ne n2x, upd_same]
    -- refuse_no_name([maker, made, *self.down, *self.up])
    refine ⟨_, rfl, _, rfl, _, rfl, x, B, dx, _, _, rfl, hx4, TM.cl, TM.nw, makF_down _ _ _ _, t1, _, rfl, .inl (SqT.of h14), _, rfl, x, B, dx, _, _, rfl, hx4, TM.cl, TM.nu, makF_up _ _ _ _, t2, _, rfl, .inl (SqT.of h24), ?_, fun l hl => ?_⟩
    · show (V.str mk :: V.str md :: (ds.map V.str ++ (us.map V.str ++ []))).length ≤ sizeLine
      rw [List.append_nil, List.length_cons, List.length_cons, List.length_append, List.length_map, List.length_map]
      exact Nat.le_trans (show _ ≤ 1000 by omega) (by decide)
    have el : V.str mk :: V.str md :: (ds.map V.str ++ (us.map V.str ++ [])) = (mk :: md :: (ds ++ us)).map V.str := by
      rw [List.append_nil, List.map_cons, List.map_cons, List.map_append]
    have S5 := S4.trans (Same.upd (o := .lst (V.str mk :: V.str md :: (ds.map V.str ++ (us.map V.str ++ [])))) hl)
    refine ⟨l, mk :: md :: (ds ++ us), rfl, SqL.of (by rw [upd_same, ← el]), ?_, hz, ?_⟩
    · rw [List.length_cons, List.length_cons, List.length_append]
      omega
    obtain ⟨kN, kD, kU, kO⟩ := k
    refine due_toN (fun z e d H' h0 h1 h2 => kN z e d H' (S5.free h0) (S5.trans h1) h2) fun hn H6 hS6 => ?_
    have hx6 := hS6 _ _ (Same.upd (o := .lst (V.str mk :: V.str md :: (ds.map V.str ++ (us.map V.str ++ [])))) hl _ _ hx4)
    have h16 := hS6 _ _ (Same.upd (o := .lst (V.str mk :: V.str md :: (ds.map V.str ++ (us.map V.str ++ [])))) hl _ _ h14)
    have h26 := hS6 _ _ (Same.upd (o := .lst (V.str mk :: V.str md :: (ds.map V.str ++ (us.map V.str ++ [])))) hl _ _ h24)
    have S6 := S5.trans hS6
    refine ⟨_, rfl, x, B, dx, _, _, rfl, hx6, TM.cl, TM.nw, makF_down _ _ _ _, t1, ds, rfl, SqT.of h16, by omega, fun w1 H7 hS7 => ?_, fun i z tw d H' h0 h1 h2 => kD hn i z tw d H' (S6.free h0) (S6.trans h1) h2⟩
    have S7 := S6.trans hS7
    refine ⟨_, rfl, x, B, dx, _, _, rfl, hS7 _ _ hx6, TM.cl, TM.nu, makF_up _ _ _ _, t2, us, rfl, SqT.of (hS7 _ _ h26), by omega, fun w2 H8 hS8 => ?_, fun i z tw d H' h0 h1 h2 => kU hn w1 i z tw d H' (S7.free h0) (S7.trans h1) h2⟩
    exact kO hn w1 w2 H8 (S7.trans hS8) t1 t2 (hS8 _ _ (hS7 _ _ hx6)) (hS8 _ _ (hS7 _ _ h16)) (hS8 _ _ (hS7 _ _ h26))
end
end Wm
namespace Wm
open PySem L2
/-- str(o), o an instance of the class at C, whose __str__ is the def at f -/
def rStrO (C : Addr) (sp : Sp) : List V → Hp → VK → Prop := fun xs H Q => ∃ (a dx : Addr) (fs : List (Str × V)), xs = [.ref a] ∧ H a = some (.ins C dx fs) ∧ sp [.ref a] H (fun v H' => ∃ z : Str, v = .str z ∧ Q (.str z) H') E0
theorem call_strO {X : Cx} {C f : Addr} {fd : FuncData} {k : Nat} {sp : Sp} (hs : PySem.W.findIn X.K (.ref C) "__str__" = some (some (.ref f))) (hf : PySem.W.isFn X.K (.ref f) = true) (F : FnOk X.prog X.w X.K X.mg X.base CX0 k f fd ["self"] sp) (hr : Room (k + 2) X.A) (hb : Binds X.K fd ["self"] []) :
    CallR X (.type "str") (rStrO C sp) := by
  intro pins s σ H xs us Q I r h
  obtain ⟨a, dx, fs, rfl, ha, h⟩ := h
  cases r with
  | cons rx rr =>
    cases rr
    cases rx
    obtain ⟨mA, ob, _⟩ := ins_get I.hok ha
    obtain ⟨od, J, _⟩ := ob.look
    have hr1 : Room (k + 1) X.A.in1 := hr.in1
    have hr2 : Room k X.A.in1.in1 := hr1.in1
    refine PySem.W.kso_call hr2.units0 I.kIn J hs hf ?_
    have hl : ([Value.ref a] ++ []).length = (["self"] : List Str).length := rfl
    have rv : Vals [V.ref a] [Value.ref a] := .cons rfl .nil
    refine wpAny_call (codeAny_mono (F.run X.A.in1.in1 X.stack s H ⟨[Value.ref a], []⟩ [Value.ref a] [V.ref a] _ E0 hr2 I.env0.in1.in1 (hb s [Value.ref a] I.kIn hl) rv h) fun r s' hq => ?_)
    cases r with
    | error e => exact hq.elim
    | ok fl =>
      cases fl with
      | ret u =>
        obtain ⟨v, H', J', ru, z, rfl, q⟩ := I.after (Q := fun v H' => ∃ z : Str, v = .str z ∧ Q (.str z) H') hq
        obtain ⟨t, rfl⟩ := ru
        exact ⟨.str z, H', J', ⟨t, rfl⟩, q⟩
      | next => exact False.elim hq
      | brk => exact False.elim hq
      | cont => exact False.elim hq
end Wm
namespace Wm
open PySem L2 PySem.W
/-- a == b, a an instance of the class at C, whose __eq__ is the def at f -/
def rEqO (K : Frag) (C : Addr) (sp : Sp) : V → V → Hp → VK → Prop := fun x y H Q => ∃ (a b D dx dy : Addr) (fs gs : List (Str × V)), x = .ref a ∧ y = .ref b ∧ H a = some (.ins C dx fs) ∧ H b = some (.ins D dy gs) ∧ notFirst K C (.ref D) = true ∧
  sp [.ref a, .ref b] H (fun v H' => ∃ t : Bool, v = .bl t ∧ Q (.bl t) H') E0
theorem op_eqO {X : Cx} {C f : Addr} {fd : FuncData} {k : Nat} {sp : Sp} {ps : List Str} (hs : findIn X.K (.ref C) "__eq__" = some (some (.ref f))) (hf : isFn X.K (.ref f) = true) (F : FnOk X.prog X.w X.K X.mg X.base CX0 k f fd ps sp) (hr : Room k X.A) (hb : L2.Binds X.K fd ps []) :
    OpR X (compareOp .Eq) (rEqO X.K C sp) := by
  intro pins s σ H x y v u Q I rx ry h
  obtain ⟨a, b, D, dx, dy, fs, gs, rfl, rfl, ha, hb', nf, h⟩ := h
  cases rx
  cases ry
  obtain ⟨mA, oa, _⟩ := ins_get I.hok ha
  obtain ⟨mB, ob, _⟩ := ins_get I.hok hb'
  obtain ⟨od, J, _⟩ := oa.look
  obtain ⟨od', J', _⟩ := ob.look
  obtain ⟨m, hF⟩ := I.fr
  show wpAny _ _ (richCompare .Eq (.ref a) (.ref b)) _ _ _
  refine cmp_K hr.units0 hF I.ok.mod.kin J (InstAt.type J') nf hs hf ?_
  have rv : Vals [V.ref a, V.ref b] [Value.ref a, Value.ref b] := .cons rfl (.cons rfl .nil)
  have hl : ([Value.ref a, Value.ref b] ++ []).length = ps.length := F.len _ _ _ _ h
  have bd := hb s [Value.ref a, Value.ref b] I.kIn hl
  rw [List.append_nil] at bd
  refine wpAny_call (codeAny_mono (F.run X.A X.stack s H ⟨[Value.ref a, Value.ref b], []⟩ [Value.ref a, Value.ref b] [V.ref a, V.ref b] _ E0 hr I.env0 bd rv h) fun r s' hq => ?_)
  cases r with
  | error e => exact hq.elim
  | ok fl =>
    cases fl with
    | next => exact hq.elim
    | brk => exact hq.elim
    | cont => exact hq.elim
    | ret u =>
      obtain ⟨v, H', I2, rv, t, rfl, q⟩ := I.after hq
      cases rv
      exact ⟨.bl t, H', I2, rfl, q⟩
/-- the class at C has its own __eq__, at f, and no __ne__ -/
structure EqNe (K : Frag) (C f : Addr) : Prop where
  ex : ∃ nm q N bs hdct sn sub ab col dd k0 k1 k2 k3 k5 newId oc od es ep osl of, K.lookup C = some (excClassObj nm q C N bs [.type "object"] hdct sn sub ab col dd k0 k1 k2 k3 k5 newId) ∧
    K.lookup N = some ⟨oc, od, .dict es ep, osl⟩ ∧ StrKeys es ∧ nsFind es "__eq__" = some (.ref f) ∧ nsFind es "__ne__" = none ∧ K.lookup f = some of ∧ of.cls = .type "function"
theorem EqNe.at {K : Frag} {C f x dx : Addr} (e : EqNe K C f) {h : Heap} (X : K.In h) (hx : h.get? x = some (instObj C dx)) : h.OwnEqNoNe x C f "object" [.type "object"] := by
  obtain ⟨nm, q, N, bs, hdct, sn, sub, ab, col, dd, k0, k1, k2, k3, k5, newId, oc, od, es, ep, osl, of, h1, h2, h3, h4, h5, h6, h7⟩ := e.ex
  exact ⟨_, of, nm, q, N, bs, hdct, sn, sub, ab, col, dd, k0, k1, k2, k3, k5, newId, nsFind es, _, hx, rfl, X C _ h1, ⟨_, es, ep, X N _ h2, rfl, h3, fun _ => rfl⟩, h4, X f _ h6, h7, PySem.F.cmp_object.mro, PySem.F.cmp_object.eq.lookup, h5⟩
def rNeO (C : Addr) (sp : Sp) : V → V → Hp → VK → Prop := fun x y H Q => ∃ (a b dx dy : Addr) (fs gs : List (Str × V)), x = .ref a ∧ y = .ref b ∧ H a = some (.ins C dx fs) ∧ H b = some (.ins C dy gs) ∧
  sp [.ref a, .ref b] H (fun v H' => ∃ t : Bool, v = .bl t ∧ Q (.bl !t) H') E0
theorem op_neO {X : Cx} {C f : Addr} {fd : FuncData} {k : Nat} {sp : Sp} {ps : List Str} (hs : EqNe X.K C f) (F : FnOk X.prog X.w X.K X.mg X.base CX0 k f fd ps sp) (hr : Room (k + 1) X.A) (hb : L2.Binds X.K fd ps []) :
    OpR X (compareOp .NotEq) (rNeO C sp) := by
  intro pins s σ H x y v u Q I rx ry h
  obtain ⟨a, b, dx, dy, fs, gs, rfl, rfl, ha, hb', h⟩ := h
  cases rx
  cases ry
  have oa := (I.hok a _ ha).2.2.2.1
  have ob := (I.hok b _ hb').2.2.2.1
  have hr1 : Room k X.A.in1 := hr.in1
  refine compareOp_ne_ownEq PySem.F.cmp_object (hs.at I.kIn oa) ob rfl ?_ ?_
  · exact hr1.units0
  have rv : Vals [V.ref a, V.ref b] [Value.ref a, Value.ref b] := .cons rfl (.cons rfl .nil)
  have hl : ([Value.ref a, Value.ref b] ++ []).length = ps.length := F.len _ _ _ _ h
  have bd := hb s [Value.ref a, Value.ref b] I.kIn hl
  rw [List.append_nil] at bd
  refine wpAny_call (codeAny_mono (F.run X.A.in1 X.stack s H ⟨[Value.ref a, Value.ref b], []⟩ [Value.ref a, Value.ref b] [V.ref a, V.ref b] _ E0 hr1 I.env0.in1 bd rv h) fun r s' hq => ?_)
  cases r with
  | error e => exact hq.elim
  | ok fl =>
    cases fl with
    | next => exact hq.elim
    | brk => exact hq.elim
    | cont => exact hq.elim
    | ret u =>
      obtain ⟨v, H', I2, rv, t, rfl, q⟩ := I.after (Q := fun v H' => ∃ t : Bool, v = .bl t ∧ Q (.bl !t) H') hq
      cases rv
      exact ⟨t, rfl, .bl !t, H', I2, rfl, q⟩
end Wm
namespace Wm
open PySem L2 StX
abbrev sRul : Stmt := inClass (top 32) 0
abbrev sRE : Stmt := inClass (top 32) 1
abbrev sME : Stmt := inClass (top 33) 1
def rulF (nm : Str) (t1 t2 t3 : Addr) (by_ : Str) : List (Str × V) := putF "by" (.str by_) (putF "gives" (.ref t3) (barF nm t1 t2))
theorem nr1 : ¬ (("gives" : Str) = "by") := by decide +kernel
theorem nr2 : ¬ (("name" : Str) = "by") := by decide +kernel
theorem nr3 : ¬ (("name" : Str) = "gives") := by decide +kernel
theorem nr4 : ¬ (("variables" : Str) = "by") := by decide +kernel
theorem nr5 : ¬ (("variables" : Str) = "gives") := by decide +kernel
theorem nr6 : ¬ (("conditions" : Str) = "by") := by decide +kernel
theorem nr7 : ¬ (("conditions" : Str) = "gives") := by decide +kernel
theorem rulF_name (nm : Str) (t1 t2 t3 : Addr) (b : Str) : (rulF nm t1 t2 t3 b).lookup ("name" : Str) = some (.str nm) := by
  unfold rulF
  rw [lookup_putF, if_neg nr2, lookup_putF, if_neg nr3]
  exact barF_name _ _ _
theorem rulF_vars (nm : Str) (t1 t2 t3 : Addr) (b : Str) : (rulF nm t1 t2 t3 b).lookup ("variables" : Str) = some (.ref t1) := by
  unfold rulF
  rw [lookup_putF, if_neg nr4, lookup_putF, if_neg nr5]
  exact barF_vars _ _ _
theorem rulF_cond (nm : Str) (t1 t2 t3 : Addr) (b : Str) : (rulF nm t1 t2 t3 b).lookup ("conditions" : Str) = some (.ref t2) := by
  unfold rulF
  rw [lookup_putF, if_neg nr6, lookup_putF, if_neg nr7]
  exact barF_cond _ _ _
theorem rulF_gives (nm : Str) (t1 t2 t3 : Addr) (b : Str) : (rulF nm t1 t2 t3 b).lookup ("gives" : Str) = some (.ref t3) := by
  unfold rulF
  rw [lookup_putF, if_neg nr1, lookup_putF, if_pos rfl]
theorem rulF_by (nm : Str) (t1 t2 t3 : Addr) (b : Str) : (rulF nm t1 t2 t3 b).lookup ("by" : Str) = some (.str b) := by
  unfold rulF
  rw [lookup_putF, if_pos rfl]
theorem barF_len (nm : Str) (t1 t2 : Addr) : (barF nm t1 t2).length ≤ 3 := Nat.le_trans (putF_len _ _ _) (Nat.succ_le_succ (Nat.le_trans (putF_len _ _ _) (Nat.succ_le_succ (putF_len _ _ _))))
structure TxRul (K : PySem.W.Frag) (mg : Str → Option Value) (B fB : Addr) : Prop where
  cl : Cls K B
  nn : NoAttr K B "name"
  nv : NoAttr K B "variables"
  nc : NoAttr K B "conditions"
  ng : NoAttr K B "gives"
  nb : NoAttr K B "by"
  g : mg "Rule" = some (.ref B)
  m : Mk K B fB
def spRul (K : PySem.W.Frag) (C B : Addr) : Sp := fun vs H Q E => ∃ (H0 : Hp) (x dx l1 l2 g : Addr) (nm b : Str) (ps qs : List Addr) (vars : List Var) (cs : List Tri) (gt : Tri), vs = [.ref x, .str nm, .ref l1, .ref l2, .ref g, .str b] ∧ Same H0 H ∧ H0 x = none ∧ H x = some (.ins B dx []) ∧
  SqL K H0 l1 (ps.map V.ref) ∧ RowsAt K H0 ps (vars.map varV) ∧ SqL K H0 l2 (qs.map V.ref) ∧ RowsAt K H0 qs (cs.map triV) ∧ H0 g = some (.tup (triV gt)) ∧ PatOk vars cs [gt] [b] ∧ (∀ z ∈ textsL nm vars (cs ++ [gt]), z.length ≤ 1000) ∧
  DueM C (textsL nm vars (cs ++ [gt])) H0 (fun H' => ∀ t1 t2, H' x = some (.ins B dx (rulF nm t1 t2 g b)) → H' t1 = some (.tup (ps.map V.ref)) → H' t2 = some (.tup (qs.map V.ref)) → Q .non H') E
section
variable {P : Program} {w : World} {K : PySem.W.Frag} {mg : Str → Option Value} {base : Heap}
theorem scRul : FnScope ["self", "name", "variables", "conditions", "gives", "by"] ["self", "name", "variables", "conditions", "gives", "by"] (defScope sRul) := ⟨rfl, rfl, rfl, by decide +kernel, rfl, by decide +kernel, by decide +kernel⟩
theorem ok_rul {f fTT fCP C B : Addr} {fd dTT dCP : FuncData} (F : Fun K "__init__" "Rule.__init__" sRul f fd) (T : TxB mg) (TB : TxRul K mg B f) (TT : Dn K mg "tuple_of_tuples" sTT ["rows"] fTT dTT)
    (CP : Dn K mg "check_pattern" sCP ["name", "variables", "conditions", "given", "hands"] fCP dCP) (GCP : FnOk P w K mg base (L2.CX P w) 5 fCP dCP ["name", "variables", "conditions", "given", "hands"] (spCP K C)) :
    FnOk P w K mg base (L2.CX P w) 6 f fd ["self", "name", "variables", "conditions", "gives", "by"] (spRul K C B) := by
  have GTT : FnOk P w K mg base CX0 1 fTT dTT _ (spTT K) := ok_tt TT.F T
  refine F.okX scRul (fun vs H Q E h => ?_) (fun cdv A outer s H vs Q E hr h => ?_)
  · obtain ⟨H0, x, dx, l1, l2, g, nm, b, ps, qs, vars, cs, gt, rfl, _⟩ := h
    rfl
  · obtain ⟨H0, x, dx, l1, l2, g, nm, b, ps, qs, vars, cs, gt, rfl, S0, x0, hx, h1, hv, h2, hc, hg, ok, hz, k⟩ := h
    have hr1 : Room 1 _ := hr.mono (by decide)
    have b1 := hv.len
    have b2 := hc.len
    rw [List.length_map] at b1 b2
    have o1 := ok.v4
    have o2 := ok.c3
    have ngx : g ≠ x := ne_of_none hg x0
    refine ⟨_, (pss_cons (ps_fld (pv 0) (pv 1) rfl)
      (pss_cons (ps_fld (pv 0) (pe_call GTT hr1 rfl TT.g TT.F.kp TT.b .nil pass0 (pa_cons (pv 2) pa_nil)) rfl)
      (pss_cons (ps_fld (pv 0) (pe_call GTT hr1 rfl TT.g TT.F.kp TT.b .nil pass0 (pa_cons (pv 3) pa_nil)) rfl)
      (pss_cons (ps_fld (pv 0) (pe_callTy call_tupN (by rfl) T.tuple (by decide +kernel) (pa_cons (pv 4) pa_nil)) rfl)
      (pss_cons (ps_fld (pv 0) (pv 5) rfl)
      (pss_one (ps_expr (pe_call GCP hr rfl CP.g CP.F.kp CP.b .nil (passes_call (takes_of rfl rfl rfl rfl) (fun _ _ _ _ h => h)) (pa_cons (pv 1) (pa_cons (pe_fld (pv 0) rfl) (pa_cons (pe_fld (pv 0) rfl) (pa_cons (pe_lst (pa_cons (pe_fld (pv 0) rfl) pa_nil)) (pa_cons (pe_lst (pa_cons (pv 5) pa_nil)) pa_nil))))))))))))), ?_⟩
    have Sx : ∀ {H1 : Hp} {o : HO}, Same H0 H1 → Same H0 (upd H1 x o) := fun hs b o e => by
      rw [upd_ne (ne_of_none e x0)]
      exact hs b o e
    refine ⟨_, rfl, _, rfl, x, B, dx, [], rfl, hx, TB.cl, TB.nn, (by show 0 < 1000; decide), ?_⟩
    have S1 := Sx (o := .ins B dx (putF "name" (.str nm) [])) S0
    refine ⟨_, rfl, l1, ps, _, rfl, S1.seq h1, hv.same S1, by omega, fun t1 H2 ht1 hS2 hl1 => ?_⟩
    have S2 := S1.trans hS2
    have hx2 := hS2 _ _ (upd_same (H := H) (a := x) (o := .ins B dx (putF "name" (.str nm) [])))
    have n1x : t1 ≠ x := fun z => by
      rw [z, upd_same] at ht1
      cases ht1
    refine ⟨_, rfl, x, B, dx, _, rfl, hx2, TB.cl, TB.nv, Nat.lt_of_le_of_lt (putF_len _ _ _) (by decide), ?_⟩
    have S3 := Sx (o := .ins B dx (putF "variables" (.ref t1) (putF "name" (.str nm) []))) S2
    refine ⟨_, rfl, l2, qs, _, rfl, S3.seq h2, hc.same S3, by omega, fun t2 H4 ht2 hS4 hl2 => ?_⟩
    have S4 := S3.trans hS4
    have hx4 := hS4 _ _ (upd_same (H := H2) (a := x) (o := .ins B dx (putF "variables" (.ref t1) (putF "name" (.str nm) []))))
    have hl1' := hS4 t1 _ (by rw [upd_ne n1x]; exact hl1)
    have n2x : t2 ≠ x := fun z => by
      rw [z, upd_same] at ht2
      cases ht2
    refine ⟨_, rfl, x, B, dx, _, rfl, hx4, TB.cl, TB.nc, Nat.lt_of_le_of_lt (putF_len _ _ _) (Nat.lt_of_le_of_lt (Nat.succ_le_succ (putF_len _ _ _)) (by decide)), ?_⟩
    have S5 := Sx (o := .ins B dx (barF nm t1 t2)) S4
    -- self.gives = tuple(gives); self.by = by
    refine ⟨_, rfl, g, _, rfl, .inr ⟨SqT.of (S5 _ _ hg), ?_⟩⟩
    refine ⟨_, rfl, x, B, dx, _, rfl, upd_same, TB.cl, TB.ng, Nat.lt_of_le_of_lt (barF_len nm t1 t2) (by decide), ?_⟩
    refine ⟨_, rfl, _, rfl, x, B, dx, _, rfl, upd_same, TB.cl, TB.nb, Nat.lt_of_le_of_lt (Nat.le_trans (putF_len _ _ _) (Nat.succ_le_succ (barF_len nm t1 t2))) (by decide), ?_⟩
    rw [upd_upd, upd_upd]
    show _
    generalize hH6 : upd H4 x (.ins B dx (putF "by" (.str b) (putF "gives" (.ref g) (putF "conditions" (.ref t2) (putF "variables" (.ref t1) (putF "name" (.str nm) [])))))) = H6
    have S6 : Same H0 H6 := by
      rw [← hH6]
      exact Sx S4
    have hx6 : H6 x = some (.ins B dx (rulF nm t1 t2 g b)) := by rw [← hH6, upd_same]; rfl
    have h16 : H6 t1 = some (.tup (ps.map V.ref)) := by rw [← hH6, upd_ne n1x]; exact hl1'
    have h26 : H6 t2 = some (.tup (qs.map V.ref)) := by rw [← hH6, upd_ne n2x]; exact hl2
    -- check_pattern(name, self.variables, self.conditions, [self.gives], [by])
    refine ⟨_, rfl, _, rfl, x, B, dx, _, _, rfl, hx6, TB.cl, TB.nv, rulF_vars _ _ _ _ _, _, rfl, x, B, dx, _, _, rfl, hx6, TB.cl, TB.nc, rulF_cond _ _ _ _ _, _, rfl, x, B, dx, _, _, rfl, hx6, TB.cl, TB.ng, rulF_gives _ _ _ _ _, by show 1 ≤ sizeLine; decide, fun gl hgl => ⟨_, rfl, by show 1 ≤ sizeLine; decide, fun h hh => ?_⟩⟩
    have S7 : Same H6 (upd (upd H6 gl (.lst [.ref g])) h (.lst [.str b])) := (Same.upd hgl).trans (Same.upd hh)
    have S67 := S6.trans S7
    refine ⟨nm, t1, t2, gl, h, ps, qs, [g], vars, cs, [gt], [b], rfl, SqT.of (S7 _ _ h16), hv.same S67, SqT.of (S7 _ _ h26), hc.same S67, SqL.of (Same.upd hh _ _ upd_same), ⟨SqT.of (S67 _ _ hg), True.intro⟩, SqL.of upd_same, ok, hz, ?_⟩
    refine k.toN S67 fun hn H8 hS8 => ?_
    unfold DueM at k
    rw [hn] at k
    exact k H8 (S67.trans hS8) t1 t2 (hS8 _ _ (S7 _ _ hx6)) (hS8 _ _ (S7 _ _ h16)) (hS8 _ _ (S7 _ _ h26))
end
/-! ### rows of text -/
end Wm
namespace Wm
open PySem L2 StX
theorem strOk_of {z : Str} (h : okS z) : PyData.strOk z = true := by
  unfold PyData.strOk
  rw [Array.all_eq_true_iff_forall_mem]
  intro c hc
  exact decide_eq_true (h c (by simpa using hc))
def pdS (zs : List Str) : List PyData := zs.map PyData.str
def eqS (xs ys : List Str) : Bool := PyData.eqvAll (pdS xs) (pdS ys)
theorem dpAll_pdS {K : PySem.W.Frag} {H : Hp} : ∀ zs : List Str, DpAll K H (zs.map V.str) (pdS zs)
  | [] => .nil
  | z :: r => .cons (.str z) (dpAll_pdS r)
theorem lay_strs : ∀ {zs : List Str}, (∀ z ∈ zs, okS z) → PyData.canLayAll0 (pdS zs) = true
  | [], _ => by simp only [pdS, List.map_nil, PyData.canLayAll0]
  | z :: r, h => by
    have h1 := strOk_of (h z (List.mem_cons_self ..))
    have h2 := lay_strs (zs := r) fun y hy => h y (List.mem_cons_of_mem _ hy)
    unfold pdS at h2
    simp only [pdS, List.map_cons, PyData.canLayAll0, PyData.canLay0, h1, h2, Bool.and_self]
theorem depth_strs : ∀ (zs : List Str), PyData.depthAll (pdS zs) ≤ 1
  | [] => by simp [pdS, PyData.depthAll]
  | z :: r => by
    have h2 := depth_strs r
    unfold pdS at h2
    simp [pdS, PyData.depthAll, PyData.depth] 
    omega
theorem shaped_tup {zs : List Str} (h : ∀ z ∈ zs, okS z) : SeqAt.shaped (.tuple (pdS zs)) = true := by
  have h1 := lay_strs h
  have h2 := depth_strs zs
  simp [SeqAt.shaped, PyData.canLay0, PyData.depth, h1]
  omega
theorem shaped_lst {zs : List Str} (h : ∀ z ∈ zs, okS z) : SeqAt.shaped (.list (pdS zs)) = true := by
  have h1 := lay_strs h
  have h2 := depth_strs zs
  simp [SeqAt.shaped, PyData.canLay0, PyData.depth, h1]
  omega
/-- a making, at x -/
structure MakAt (H : Hp) (M x : Addr) (mk md : Str) (ds us : List Str) : Prop where
  ex : ∃ dx t1 t2, H x = some (.ins M dx (makF mk md t1 t2)) ∧ H t1 = some (.tup (ds.map V.str)) ∧ H t2 = some (.tup (us.map V.str))
  o1 : ∀ z ∈ ds, okS z
  o2 : ∀ z ∈ us, okS z
def sameM (mk md : Str) (ds us : List Str) (mk' md' : Str) (ds' us' : List Str) : Bool := decide (mk = mk') && (decide (md = md') && (eqS ds ds' && eqS us us'))
def spME (K : PySem.W.Frag) (M : Addr) : Sp := fun vs H Q _ => ∃ (x y : Addr) (mk md : Str) (ds us : List Str), vs = [.ref x, .ref y] ∧ MakAt H M x mk md ds us ∧
  ((∃ mk' md' ds' us', TyX K H (.ref y) (.ref M) ∧ MakAt H M y mk' md' ds' us' ∧ Q (.bl (sameM mk md ds us mk' md' ds' us')) H) ∨ (∃ D, TyX K H (.ref y) (.ref D) ∧ PySem.W.kitOne K (.ref D) (.ref M) = some false ∧ Q (.bl false) H))
def spRE (K : PySem.W.Frag) (R : Addr) : Sp := fun vs H Q _ => ∃ (x y D : Addr), vs = [.ref x, .ref y] ∧ TyX K H (.ref y) (.ref D) ∧ PySem.W.kitOne K (.ref D) (.ref R) = some false ∧ Q (.bl false) H
section
variable {P : Program} {w : World} {K : PySem.W.Frag} {mg : Str → Option Value} {base : Heap}
theorem scME : FnScope ["self", "other"] ["self", "other"] (defScope sME) := ⟨rfl, rfl, rfl, by decide +kernel, rfl, by decide +kernel, by decide +kernel⟩
theorem ok_me {f fM M : Addr} {fd : FuncData} (F : Fun K "__eq__" "Making.__eq__" sME f fd) (T : TxB mg) (TM : TxMak K mg M fM) (kk : PySem.W.kitOne K (.ref M) (.ref M) = some true) : FnOk P w K mg base CX0 1 f fd ["self", "other"] (spME K M) := by
  refine F.ok scME (fun vs H Q E h => ?_) (fun cdv A outer s H vs Q E hr h => ?_)
  · obtain ⟨x, y, _, _, _, _, rfl, _⟩ := h
    rfl
  · obtain ⟨x, y, mk, md, ds, us, rfl, hx, h⟩ := h
    refine ⟨_, (pss_one (ps_ret (pe_and (pe_callB call_isi (by rfl) T.isinstance (by decide +kernel) (pa_cons (pv 1) (pa_cons (pe_glob (v := .ref M) (by rfl) TM.g rfl) pa_nil)))
      (pe_and (pe_cmpR op_eq (pe_fld (pv 0) rfl) (pe_fld (pv 1) rfl) (nomark _))
      (pe_and (pe_cmpR op_eq (pe_fld (pv 0) rfl) (pe_fld (pv 1) rfl) (nomark _))
      (pe_and (pe_cmpR (op_eqD hr.units) (pe_fld (pv 0) rfl) (pe_fld (pv 1) rfl) (nomark _))
      (pe_one (pe_cmpR (op_eqD hr.units) (pe_fld (pv 0) rfl) (pe_fld (pv 1) rfl) (nomark _))))))))), ?_⟩
    refine ⟨_, rfl, ?_⟩
    rcases h with ⟨mk', md', ds', us', ty, hy, q⟩ | ⟨D, ty, kf, q⟩
    · obtain ⟨dx, t1, t2, x1, x2, x3⟩ := hx.ex
      obtain ⟨dy, s1, s2, y1, y2, y3⟩ := hy.ex
      refine ⟨_, _, _, _, _, rfl, .own M, ty, kk, true, rfl, ?_⟩
      refine iteT ?_
      refine ⟨_, rfl, x, M, dx, _, _, rfl, x1, TM.cl, TM.nk, makF_maker _ _ _ _, _, rfl, y, M, dy, _, _, rfl, y1, TM.cl, TM.nk, makF_maker _ _ _ _, rfl, _, rfl, ?_⟩
      unfold sameM at q
      refine ite2 (fun c => ?_) (fun c => ?_)
      rotate_left
      · have e : ¬ mk = mk' := fun e => c (by rw [e]; exact decide_eq_true rfl)
        rw [decide_eq_false e, Bool.false_and] at q
        exact q
      have e1 : mk = mk' := V.str.inj (of_decide_eq_true c)
      rw [decide_eq_true e1, Bool.true_and] at q
      refine ⟨_, rfl, x, M, dx, _, _, rfl, x1, TM.cl, TM.nd, makF_made _ _ _ _, _, rfl, y, M, dy, _, _, rfl, y1, TM.cl, TM.nd, makF_made _ _ _ _, rfl, _, rfl, ?_⟩
      refine ite2 (fun c => ?_) (fun c => ?_)
      rotate_left
      · have e : ¬ md = md' := fun e => c (by rw [e]; exact decide_eq_true rfl)
        rw [decide_eq_false e, Bool.false_and] at q
        exact q
      have e2 : md = md' := V.str.inj (of_decide_eq_true c)
      rw [decide_eq_true e2, Bool.true_and] at q
      refine ⟨_, rfl, x, M, dx, _, _, rfl, x1, TM.cl, TM.nw, makF_down _ _ _ _, _, rfl, y, M, dy, _, _, rfl, y1, TM.cl, TM.nw, makF_down _ _ _ _, _, _, .tup (SqT.of x2) (dpAll_pdS ds), .tup (SqT.of y2) (dpAll_pdS ds'), shaped_tup hx.o1, shaped_tup hy.o1, _, rfl, ?_⟩
      have ed : PyData.eqv (.tuple (pdS ds)) (.tuple (pdS ds')) = eqS ds ds' := by
        unfold eqS
        simp only [PyData.eqv]
      have eu : PyData.eqv (.tuple (pdS us)) (.tuple (pdS us')) = eqS us us' := by
        unfold eqS
        simp only [PyData.eqv]
      rw [ed]
      refine ite2 (fun c => ?_) (fun c => ?_)
      rotate_left
      · rw [Bool.eq_false_iff.mpr c, Bool.false_and] at q
        exact q
      rw [c, Bool.true_and] at q
      refine ⟨_, rfl, x, M, dx, _, _, rfl, x1, TM.cl, TM.nu, makF_up _ _ _ _, _, rfl, y, M, dy, _, _, rfl, y1, TM.cl, TM.nu, makF_up _ _ _ _, _, _, .tup (SqT.of x3) (dpAll_pdS us), .tup (SqT.of y3) (dpAll_pdS us'), shaped_tup hx.o2, shaped_tup hy.o2, ?_⟩
      rw [eu]
      exact q
    · refine ⟨_, _, _, _, _, rfl, .own M, ty, kf, false, rfl, ?_⟩
      exact iteF q
theorem scRE : FnScope ["self", "other"] ["self", "other"] (defScope sRE) := ⟨rfl, rfl, rfl, by decide +kernel, rfl, by decide +kernel, by decide +kernel⟩
theorem ok_re {f fM M : Addr} {fd : FuncData} (F : Fun K "__eq__" "Rule.__eq__" sRE f fd) (T : TxB mg) (TM : TxRul K mg M fM) : FnOk P w K mg base CX0 1 f fd ["self", "other"] (spRE K M) := by
  refine F.ok scRE (fun vs H Q E h => ?_) (fun cdv A outer s H vs Q E hr h => ?_)
  · obtain ⟨x, y, _, rfl, _⟩ := h
    rfl
  · obtain ⟨x, y, D, rfl, ty, kf, q⟩ := h
    refine ⟨_, (pss_one (ps_ret (pe_and (pe_callB call_isi (by rfl) T.isinstance (by decide +kernel) (pa_cons (pv 1) (pa_cons (pe_glob (v := .ref M) (by rfl) TM.g rfl) pa_nil)))
      (pe_and (pe_cmpR op_eq (pe_fld (pv 0) rfl) (pe_fld (pv 1) rfl) (nomark _))
      (pe_and (pe_cmpR (op_eqD hr.units) (pe_fld (pv 0) rfl) (pe_fld (pv 1) rfl) (nomark _))
      (pe_and (pe_cmpR (op_eqD hr.units) (pe_fld (pv 0) rfl) (pe_fld (pv 1) rfl) (nomark _))
      (pe_and (pe_cmpR (op_eqD hr.units) (pe_fld (pv 0) rfl) (pe_fld (pv 1) rfl) (nomark _))
      (pe_one (pe_cmpR op_eq (pe_fld (pv 0) rfl) (pe_fld (pv 1) rfl) (nomark _)))))))))), ?_⟩
    refine ⟨_, rfl, ?_⟩
    refine ⟨_, _, _, _, _, rfl, .own M, ty, kf, false, rfl, ?_⟩
    exact iteF q
end
end Wm
namespace Wm
open L2 PySem PySem.W
/-- a def to which a caught error is handed within the suite that caught it -/
structure FnE (P : Program) (w : World) (K : Frag) (mg : Str → Option Value) (base : Heap) (k : Nat) (f : Addr) (fd : FuncData) (ps : List Str)
    (sp : Addr → Value → Option Addr → Sp) : Prop where
  len : ∀ a cls d vs H Q E, sp a cls d vs H Q E → vs.length = ps.length
  run : ∀ (A : Around) (outer : List Env) (s : Shared) (H : Hp) (args : Args) (us : List Value) (vs : List V) (Q : VK) (E : XK) (a : Addr) (oe : Obj) (cls : Value) (d : Option Addr),
    L2H.RoomH k A → A.handled = some (.ref a) → Zc cls d oe → (∃ vs, oe.data = .fields vs) → L2H.PinOk outer H s (a, oe) → Env0 P w K mg base A outer s H →
    BindsTo s fd args (ps.zip us) → Vals vs us → sp a cls d vs H Q E → codeAny (model P w) A (.call (.ref f) args) (CR CX0 outer P w H s Q E) s
theorem mark_self {A : Around} {a : Addr} (h : A.handled = some (.ref a)) : A.mark (some (.ref a)) = A := by
  cases A
  simp only at h
  subst h
  rfl
theorem fn_ofE {P : Program} {w : World} {K : Frag} {mg : Str → Option Value} {base : Heap} {k : Nat} {f : Addr} {name qual : Str} {params : Arguments} {body : List Stmt} {scope : Scope}
    {dV kV doc pm cdv ct oc : Value} {an od : Option Addr} {osl : Array (Option Value)} {N ps : List Str} {sp : Addr → Value → Option Addr → Sp}
    (lk : List.lookup f K = some { cls := oc, dict := od, data := .func (fnOf name qual params body scope dV kV doc pm an cdv ct), slots := osl })
    (hcd : codeIn K cdv qual = true) (S : FnScope N ps scope)
    (len : ∀ a cls d vs H Q E, sp a cls d vs H Q E → vs.length = ps.length)
    (hbody : ∀ (A : Around) (outer : List Env) (s : Shared) (H : Hp) (vs : List V) (Q : VK) (E : XK) (a : Addr) (oe : Obj) (cls : Value) (d : Option Addr),
      Zc cls d oe → (∃ vs, oe.data = .fields vs) → L2H.RoomH k (A.deeper (PyProof.Rows.envOfC qual scope s.heap.objs.size f cdv)) → sp a cls d vs H Q E →
      ∃ t, PSs ((cxOf CX0 P w K mg base N qual scope f cdv A outer s H E).suite a [(a, oe)]) body t ∧ t { nx := fun _ H' => Q .non H', rt := Q } (L2.start N vs) H) :
    FnE P w K mg base (k + 1) f (fnOf name qual params body scope dV kV doc pm an cdv ct) ps sp where
  len := len
  run := by
    intro A outer s H args us vs Q E a oe cls d hr hh hz hf hpin e0 hb r hsp
    have KX := Frag.In.keeps e0.mod.kin fun b o e => (e0.bs b o e).1
    have lim := Heap.NoLimit.keeps e0.mod.nolimit fun b o e => (e0.bs b o e).1
    refine codeAny_call_function hr.depth (KX f _ lk) rfl S.co S.gen rfl (codeRec_of KX hcd) (hb _ A.in1 _ _ (wpAny_newFunctionEnv_cells S.kind ?_ ?_))
    · rintro ⟨n, v⟩ hy
      rcases S.par n (List.of_mem_zip hy).1 with q | q
      · exact Or.inl q
      · exact Or.inr ⟨q, cellsFrom_some scope.names (s.heap.objs.size + 1) [] (Or.inl q)⟩
    · intro env he s1 x
      subst he
      refine ⟨Heap.NoLimit.keeps lim x.toInCall.keep, codeAny_func ?_⟩
      obtain ⟨t, ht, hq⟩ := hbody A outer s H vs Q E a oe cls d hz hf (L2H.RoomH.deeper hr _) hsp
      have I := L2H.inv_startH (CX := CX0) (E := E) S hpin e0 (len _ _ _ _ _ _ _ hsp) r x
      have hm : (A.deeper (PyProof.Rows.envOfC qual scope s.heap.objs.size f cdv)).mark (some (.ref a)) = A.deeper (PyProof.Rows.envOfC qual scope s.heap.objs.size f cdv) := mark_self hh
      have o := I.ok
      have I2 : Inv ((cxOf CX0 P w K mg base N qual scope f cdv A outer s H E).suite a [(a, oe)]) [] (L2.start N vs) H s1 :=
        ⟨⟨o.mod, o.kind, o.glob, o.blt, o.above, o.inj, o.has, o.cab, (fun h => by cases h), o.frames, o.stk, o.exf, o.bs, o.bsz, o.noex, o.exfs, o.funs, o.frf⟩,
          I.os, I.bare, I.base, I.loc, I.cell, I.free, I.freeC, I.pin, I.hok, I.len⟩
      have go := ht.run [] s1 (L2.start N vs) H { nx := fun _ H' => Q .non H', rt := Q } I2 hq
      dsimp only [Cx.suite, cxOf] at go
      rw [hm] at go
      refine wpAny_mono go (fun fl s' hs => ?_) fun e s' hs => hs.elim
      cases fl with
      | next =>
        obtain ⟨σ', H', J, q⟩ := hs
        exact ⟨.non, H', J.os, J.bare, J.base, J.hok, rfl, q⟩
      | brk =>
        obtain ⟨_, _, _, q⟩ := hs
        exact q.elim
      | cont =>
        obtain ⟨_, _, _, q⟩ := hs
        exact q.elim
      | ret u =>
        obtain ⟨v, σ', H', J, rv, q⟩ := hs
        exact ⟨v, H', J.os, J.bare, J.base, J.hok, rv, q⟩
theorem FunE_ok {P : Program} {w : World} {K : Frag} {mg : Str → Option Value} {base : Heap} {x qual : Str} {st : Stmt} {f : Addr} {fd : FuncData} {N ps : List Str} {k : Nat} {sp : Addr → Value → Option Addr → Sp}
    (F : Fun K x qual st f fd) (S : FnScope N ps (defScope st))
    (len : ∀ a cls d vs H Q E, sp a cls d vs H Q E → vs.length = ps.length)
    (hbody : ∀ (cdv : Value) (A : Around) (outer : List Env) (s : Shared) (H : Hp) (vs : List V) (Q : VK) (E : XK) (a : Addr) (oe : Obj) (cls : Value) (d : Option Addr),
      Zc cls d oe → (∃ vs, oe.data = .fields vs) → L2H.RoomH k (A.deeper (PyProof.Rows.envOfC qual (defScope st) s.heap.objs.size f cdv)) → sp a cls d vs H Q E →
      ∃ t, PSs ((cxOf CX0 P w K mg base N qual (defScope st) f cdv A outer s H E).suite a [(a, oe)]) (defBody st) t ∧ t { nx := fun _ H' => Q .non H', rt := Q } (L2.start N vs) H) :
    FnE P w K mg base (k + 1) f fd ps sp := by
  obtain ⟨oc, od, kV, doc, pm, an, cdv, ct, osl, rfl, lk, hcd⟩ := F.ex
  exact fn_ofE lk hcd S len fun A outer s H vs Q E a oe cls d hz hf hr hsp => hbody cdv A outer s H vs Q E a oe cls d hz hf hr hsp
/-- the call f(e, ..) of such a def within the suite -/
def tCallE (sp : Sp) (t : TA) : TE := fun σ H Q => t σ H fun vs H1 => sp vs H1 Q (fun _ _ _ => False)
theorem pe_callE {X : Cx} {k : Nat} {f : Addr} {fd : FuncData} {ps : List Str} {sp : Addr → Value → Option Addr → Sp} {a : Addr} {oe : Obj} {cls : Value} {d : Option Addr} {pn : List (Addr × Obj)}
    {x : Str} {q pos : Pos} {e : Expr} {es : List Expr} {t : TA}
    (F : FnE X.prog X.w X.K X.mg X.base k f fd ps sp) (hr : L2H.RoomH k X.A) (hz : Zc cls d oe) (hf : ∃ vs, oe.data = .fields vs) (hg : Gl X x) (hm : X.mg x = some (.ref f))
    (hk : keepIn X.K (.ref f) = true) (hb : L2.Binds X.K fd ps []) (ha : PA (X.suite a ((a, oe) :: pn)) (e :: es) t)
    (hdb : (x == Str.ofString "__debug__") = false := by rfl) (he : starEach (e :: es) X.env = (false, eval e X.env) :: starEach es X.env := by rfl)
    (hpl : ((backTo pos (starEach es X.env)).any fun x => x.1) = false := by rfl) :
    PE (X.suite a ((a, oe) :: pn)) (.Call (.Name x q) (e :: es) [] pos) (tCallE (sp a cls d) t) where
  run := by
    intro pins s σ H Q I h
    refine wpAny_Call_Name_kw (ld_glob I hg hm (callWith_K I.ok.mod.kin hk (thn (ha.run pos pins s σ H _ I h) ?_) he hpl) hdb)
    rintro us s1 ⟨vs, H1, I1, r, h1⟩
    refine ⟨I1.kIn, ?_⟩
    have P1 := I1.pin (a, oe) (List.mem_append_left _ (List.mem_cons_self ..))
    have hp : L2H.PinOk X.stack H1 s1 (a, oe) := ⟨P1.1, P1.2.1, fun hx => (List.mem_cons.mp (I1.stkSub a hx)).elim P1.2.2.1 P1.2.2.2.1, P1.2.2.2.2⟩
    have hl : (us ++ []).length = ps.length := by rw [List.append_nil, ← r.length]; exact F.len _ _ _ _ _ _ _ h1
    have b := hb s1 us I1.kIn hl
    rw [List.append_nil] at b
    have hr2 : L2H.RoomH k (X.suite a ((a, oe) :: pn)).A := ⟨hr.dp, hr.un⟩
    refine wpAny_call (codeAny_mono (F.run (X.suite a ((a, oe) :: pn)).A X.stack s1 H1 ⟨us, []⟩ us vs Q _ a oe cls d hr2 rfl hz hf hp I1.env0 b r h1) fun r s' hq => ?_)
    cases r with
    | error e => exact hq.elim
    | ok fl =>
      cases fl with
      | next => exact hq.elim
      | brk => exact hq.elim
      | cont => exact hq.elim
      | ret u => exact I1.after hq
end Wm
namespace Wm
open PySem L2 StX
abbrev sWds : Stmt := top 38
abbrev sOnc : Stmt := top 39
abbrev sBad : Stmt := top 40
def Wd (z : Str) : Prop := okS z ∧ z.length ≤ 100
theorem wd_of {cs : List Str} (h : cs.all (fun z => z.cps.toList.all (fun c => decide (c < 1114112)) && decide (z.length ≤ 100)) = true) : ∀ z ∈ cs, Wd z := fun z hz => by
  have e := List.all_eq_true.mp h z hz
  have e2 := (Bool.and_eq_true _ _).mp e
  refine ⟨fun c hc => ?_, of_decide_eq_true e2.2⟩
  exact of_decide_eq_true (List.all_eq_true.mp e2.1 c (by simpa using hc))
theorem pick {cs : List Str} {d : Int} (h0 : 0 ≤ d) (h1 : d < cs.length) (hc : ∀ z ∈ cs, Wd z) : ∃ z, Wd z ∧ (cs.map V.str)[d.toNat]? = some (.str z) := by
  have hl : d.toNat < cs.length := by omega
  refine ⟨cs[d.toNat], hc _ (List.getElem_mem hl), ?_⟩
  rw [List.getElem?_map, List.getElem?_eq_getElem hl]
  rfl
abbrev wL : List Str := ["own", "know", "use", "see", "own", "a1"]
abbrev bL : List Str := ["", "A", "9a", "a b", "abcdefghijklm", "a_"]
def spWds : Sp := fun vs H Q _ => ∃ p : Addr, vs = [.ref p] ∧ StOk H p ∧ ∀ (zs : List Str) d H', H d = none → d ≠ p → But p H H' → StOk H' p → H' d = some (.lst (zs.map V.str)) → (∀ z ∈ zs, Wd z) → zs.length ≤ 4 → Q (.ref d) H'
def spOnc : Sp := fun vs H Q _ => ∃ (l : Addr) (zs : List Str), vs = [.ref l] ∧ H l = some (.lst (zs.map V.str)) ∧ (∀ z ∈ zs, Wd z) ∧ zs.length ≤ 4 ∧ ∀ (ys : List Str) d H', H d = none → Same H H' → H' d = some (.lst (ys.map V.str)) → (∀ z ∈ ys, Wd z) → ys.length ≤ 4 → Q (.ref d) H'
def spBad : Sp := fun vs H Q _ => ∃ p : Addr, vs = [.ref p] ∧ StOk H p ∧ ∀ (z : Str) H', Wd z → But p H H' → StOk H' p → Q (.str z) H'
theorem StOk.same {H H' : Hp} {p : Addr} (h : StOk H p) (e : Same H H') : StOk H' p := by
  obtain ⟨a, b, c, x, r⟩ := h
  exact ⟨a, b, c, e _ _ x, r⟩
theorem StOk.ne {H : Hp} {p d : Addr} (h : StOk H p) (n : H d = none) : d ≠ p := by
  obtain ⟨a, b, c, x, r⟩ := h
  exact (ne_of_none x n).symm
theorem StOk.upd {H : Hp} {p d : Addr} {o : HO} (h : StOk H p) (n : d ≠ p) : StOk (L2.upd H d o) p := by
  obtain ⟨a, b, c, x, r⟩ := h
  exact ⟨a, b, c, by rw [upd_ne n.symm]; exact x, r⟩
theorem but_new {p d : Addr} {H H1 : Hp} {o : HO} (b : But p H H1) (h0 : H d = none) : But p H (L2.upd H1 d o) := fun q u nq e => by
  rw [upd_ne (ne_of_none e h0)]
  exact b q u nq e
theorem but_free {p d : Addr} {H H1 : Hp} (b : But p H H1) (n : d ≠ p) (h : H1 d = none) : H d = none := by
  cases e : H d with
  | none => rfl
  | some o =>
    rw [b d o n e] at h
    cases h
section
variable {P : Program} {w : World} {K : PySem.W.Frag} {mg : Str → Option Value} {base : Heap}
theorem scWds : FnScope ["_law_s", "_law_some", "_law_k"] ["_law_s"] (defScope sWds) := ⟨rfl, rfl, rfl, by decide +kernel, rfl, by decide +kernel, by decide +kernel⟩
theorem ok_wds {f fg : Addr} {fd fdg : FuncData} (F : Fun K "_law_words" "_law_words" sWds f fd) (T : TxB mg) (D : Dn K mg "_law_digit" sDigit ["_law_state_here", "_law_base"] fg fdg) : FnOk P w K mg base CX0 2 f fd ["_law_s"] spWds := by
  have G : FnOk P w K mg base CX0 1 fg fdg ["_law_state_here", "_law_base"] spDigit := ok_digit D.F
  refine F.ok scWds (fun vs H Q E h => ?_) (fun cdv A outer s H vs Q E hr h => ?_)
  · obtain ⟨p, rfl, _⟩ := h
    rfl
  · obtain ⟨p, rfl, hS, k⟩ := h
    refine ⟨_, (pss_cons (ps_set (i := 1) scWds.nd rfl (Or.inr rfl) (pe_lst (pa_cons pe_str (pa_cons pe_str (pa_cons pe_str (pa_cons pe_str (pa_cons pe_str (pa_cons pe_str pa_nil))))))))
      (pss_one (ps_ret (pe_lc (own := [("_law_k", 2)]) (g := gName 2) (te := tOp (rIxL K) (tVar 1) (tCall spDigit [] E0 (tCons (tVar 0) (tCons (tC (.int 6)) tNil)))) rfl scWds.nd (pi_range1 rfl T.range (pa_cons (pe_call G hr rfl D.g D.F.kp D.b .nil pass0 (pa_cons (pv 0) (pa_cons pe_int pa_nil))) pa_nil)) (blkOk_by (N := ["_law_s", "_law_some", "_law_k"]) (sc := defScope sWds) (by decide +kernel)) (fun _ _ _ _ _ => (pg_name (i := 2) scWds.nd rfl (Or.inl rfl))) (fun _ _ _ _ _ => pts_nil) (fun _ _ _ _ _ => (pe_ix ix_list (pv 1) (pe_call G hr rfl D.g D.F.kp D.b .nil pass0 (pa_cons (pv 0) (pa_cons pe_int pa_nil))) (fun _ _ => rfl))))))), ?_⟩
    refine ⟨by show 6 ≤ sizeLine; decide, fun l nl => ?_⟩
    have nlp := hS.ne nl
    have S0 := hS.same (Same.upd (o := .lst (wL.map V.str)) nl)
    refine ⟨_, rfl, p, _, rfl, S0, by decide, by decide, fun d1 H1 a1 b1 B1 S1 => ?_⟩
    have B01 : But p H H1 := (Same.but (Same.upd nl)).trans B1
    have l1 : H1 l = some (.lst (wL.map V.str)) := B1 _ _ nlp upd_same
    refine ⟨d1, rfl, by omega, by omega, fun D hD => ?_⟩
    have nD := S1.ne hD
    refine lc_range (fun i H' => ∃ ys : List Str, H' D = some (.lst (ys.map V.str)) ∧ ys.length ≤ i ∧ (∀ y ∈ ys, Wd y) ∧ H' l = some (.lst (wL.map V.str)) ∧ But p H H' ∧ StOk H' p) ?_ ?_ ?_
    · exact ⟨[], upd_same, Nat.le_refl _, fun y hy => (List.not_mem_nil hy).elim, Same.upd hD _ _ l1, B01.trans (Same.but (Same.upd hD)), S1.same (Same.upd hD)⟩
    · rintro i H' hi ⟨ys, hys, hl, h1, hl2, B, S⟩
      refine ⟨rfl, ?_⟩
      refine ⟨_, rfl, _, rfl, p, _, rfl, S, by decide, by decide, fun d4 H4 a4 b4 B4 S4 => ?_⟩
      obtain ⟨z, wz, ez⟩ := pick (cs := wL) a4 b4 (wd_of (by decide +kernel))
      refine rdList (B4 _ _ nlp hl2) (j := d4.toNat) (by omega) ez ?_
      have nlD : l ≠ D := ne_of_none l1 hD
      refine ⟨_, B4 _ _ nD hys, ?_, ys ++ [z], ?_, ?_, ?_, ?_, ?_, ?_⟩
      · rw [List.length_map]
        exact Nat.lt_of_le_of_lt (show ys.length ≤ 100 by omega) (by decide)
      · rw [upd_same, List.map_append]
        rfl
      · rw [List.length_append, List.length_singleton]
        omega
      · intro y hy
        rcases List.mem_append.mp hy with hy | hy
        · exact h1 y hy
        · rw [List.mem_singleton.mp hy]
          exact wz
      · rw [upd_ne nlD]
        exact B4 _ _ nlp hl2
      · exact but_new (B.trans B4) (but_free B01 nD hD)
      · exact S4.upd nD
    · rintro H' ⟨ys, hys, hl, h1, hl2, B, S⟩
      exact k ys D H' (but_free B01 nD hD) nD B S hys h1 (by omega)
theorem scBad : FnScope ["_law_s"] ["_law_s"] (defScope sBad) := ⟨rfl, rfl, rfl, by decide +kernel, rfl, by decide +kernel, by decide +kernel⟩
theorem ok_bad {f fg : Addr} {fd fdg : FuncData} (F : Fun K "_law_bad" "_law_bad" sBad f fd) (D : Dn K mg "_law_digit" sDigit ["_law_state_here", "_law_base"] fg fdg) : FnOk P w K mg base CX0 2 f fd ["_law_s"] spBad := by
  have G : FnOk P w K mg base CX0 1 fg fdg ["_law_state_here", "_law_base"] spDigit := ok_digit D.F
  refine F.ok scBad (fun vs H Q E h => ?_) (fun cdv A outer s H vs Q E hr h => ?_)
  · obtain ⟨p, rfl, _⟩ := h
    rfl
  · obtain ⟨p, rfl, hS, k⟩ := h
    refine ⟨_, (pss_one (ps_ret (pe_ix ix_list (pe_lst (pa_cons pe_str (pa_cons pe_str (pa_cons pe_str (pa_cons pe_str (pa_cons pe_str (pa_cons pe_str pa_nil))))))) (pe_call G hr rfl D.g D.F.kp D.b .nil pass0 (pa_cons (pv 0) (pa_cons pe_int pa_nil))) (fun _ _ => rfl)))), ?_⟩
    refine ⟨by show 6 ≤ sizeLine; decide, fun l nl => ?_⟩
    have nlp := hS.ne nl
    have S0 := hS.same (Same.upd (o := .lst (bL.map V.str)) nl)
    refine ⟨_, rfl, p, _, rfl, S0, by decide, by decide, fun d1 H1 a1 b1 B1 S1 => ?_⟩
    obtain ⟨z, wz, ez⟩ := pick (cs := bL) a1 b1 (wd_of (by decide +kernel))
    refine rdList (B1 _ _ nlp upd_same) (j := d1.toNat) (by omega) ez ?_
    exact k z H1 wz ((Same.but (Same.upd nl)).trans B1) S1
theorem scOnc : FnScope ["_law_words_here", "_law_found_here", "_law_word"] ["_law_words_here"] (defScope sOnc) := ⟨rfl, rfl, rfl, by decide +kernel, rfl, by decide +kernel, by decide +kernel⟩
theorem ok_onc {f : Addr} {fd : FuncData} (F : Fun K "_law_once" "_law_once" sOnc f fd) : FnOk P w K mg base CX0 1 f fd ["_law_words_here"] spOnc := by
  refine F.ok scOnc (fun vs H Q E h => ?_) (fun cdv A outer s H vs Q E hr h => ?_)
  · obtain ⟨p, _, rfl, _⟩ := h
    rfl
  · obtain ⟨l, zs, rfl, hl, hw, hn, k⟩ := h
    refine ⟨_, (pss_cons (ps_set (i := 1) scOnc.nd rfl (Or.inl rfl) (pe_lst pa_nil))
      (pss_cons (ps_for PassesOwn.never rfl (pi_list (pv 0)) (pg_name (i := 2) scOnc.nd rfl (Or.inl rfl)) (pss_one (ps_if (pt_cmpR op_notIn_seq (pv 2) (pv 1) (by rfl)) (pss_one (ps_expr (pe_bm PySem.F.plainAttrs_list PySem.F.slot_list_append PySem.F.type_list_append mt_append (pv 1) (pa_cons (pv 2) pa_nil)))) pss_nil)))
      (pss_one (ps_ret (pv 1))))), ?_⟩
    refine ⟨by show 0 ≤ sizeLine; decide, fun D hD => ?_⟩
    have nlD : l ≠ D := ne_of_none hl hD
    refine ⟨_, rfl, l, rfl, ⟨_, SqL.of (Same.upd hD _ _ hl)⟩, for_list (K := K) (a := l) (xs := zs.map V.str) (fun i σ H' => (∃ v, σ = [some (.ref l), some (.ref D), v]) ∧ ∃ ys : List Str, H' D = some (.lst (ys.map V.str)) ∧ (∀ z ∈ ys, Wd z) ∧ ys.length ≤ i ∧ Same H H')
      ⟨⟨none, rfl⟩, [], upd_same, fun z hz => (List.not_mem_nil hz).elim, Nat.le_refl _, Same.upd hD⟩ (fun i σ H' _ ⟨_, _, _, _, _, hS⟩ => SqL.of (hS _ _ hl)) ?_ ?_⟩
    · rintro i y σ H1 hi ⟨⟨v, rfl⟩, ys, hd, wy, len, S⟩
      obtain ⟨z, hz, rfl⟩ := map_str_get hi
      refine ⟨_, rfl, _, rfl, D, _, rfl, .inl (SqL.of hd), rfl, flat_strs ys, _, rfl, ?_⟩
      refine ite2 (fun _ => ?_) (fun _ => ?_)
      · refine ⟨_, rfl, .inl ⟨rfl, _, SqL.of hd⟩, _, rfl, D, _, _, rfl, rfl, hd, ?_, ?_⟩
        · rw [List.length_map]
          have hlt := (List.getElem?_eq_some_iff.mp hz).1
          exact Nat.lt_of_le_of_lt (show _ ≤ 1000 by omega) (by decide)
        · refine ⟨⟨_, rfl⟩, ys ++ [z], ?_, ?_, ?_, ?_⟩
          · rw [upd_same, List.map_append]
            rfl
          · intro x hx
            rcases List.mem_append.mp hx with hx | hx
            · exact wy x hx
            · rw [List.mem_singleton.mp hx]
              exact hw z (List.mem_of_getElem? hz)
          · rw [List.length_append, List.length_singleton]
            omega
          · intro b o e
            rw [upd_ne (ne_of_none e hD)]
            exact S b o e
      · exact ⟨⟨_, rfl⟩, ys, hd, wy, by omega, S⟩
    · rintro σ H1 ⟨⟨v, rfl⟩, ys, hd, wy, len, S⟩
      rw [List.length_map] at len
      exact ⟨_, rfl, k ys D H1 hD S hd wy (by omega)⟩
end
end Wm
namespace Wm
open PySem L2 StX
abbrev sPts : Stmt := top 41
/-- the parts of a making, as the law draws them -/
structure PartsAt (H : Hp) (d l1 l2 : Addr) (mk md : Str) (ds us : List Str) : Prop where
  hd : H d = some (.lst [.str mk, .str md, .ref l1, .ref l2])
  h1 : H l1 = some (.lst (ds.map V.str))
  h2 : H l2 = some (.lst (us.map V.str))
  ne : l1 ≠ l2
  w : ∀ z ∈ mk :: md :: (ds ++ us), Wd z
  n1 : ds.length ≤ 4
  n2 : us.length ≤ 4
abbrev mkL : List Str := ["lord", "box"]
abbrev mdL : List Str := ["box", "bag"]
def spPts : Sp := fun vs H Q _ => ∃ p : Addr, vs = [.ref p] ∧ StOk H p ∧ ∀ (d l1 l2 : Addr) (mk md : Str) (ds us : List Str) H', H d = none → H l1 = none → H l2 = none → But p H H' → StOk H' p → PartsAt H' d l1 l2 mk md ds us → Q (.ref d) H'
theorem PartsAt.same {H H' : Hp} {d l1 l2 : Addr} {mk md : Str} {ds us : List Str} (h : PartsAt H d l1 l2 mk md ds us) (e : Same H H') : PartsAt H' d l1 l2 mk md ds us := ⟨e _ _ h.hd, e _ _ h.h1, e _ _ h.h2, h.ne, h.w, h.n1, h.n2⟩
theorem PartsAt.but {H H' : Hp} {p d l1 l2 : Addr} {mk md : Str} {ds us : List Str} (h : PartsAt H d l1 l2 mk md ds us) (e : But p H H') (n0 : d ≠ p) (n1 : l1 ≠ p) (n2 : l2 ≠ p) : PartsAt H' d l1 l2 mk md ds us := ⟨e _ _ n0 h.hd, e _ _ n1 h.h1, e _ _ n2 h.h2, h.ne, h.w, h.n1, h.n2⟩
theorem PartsAt.d1 {H : Hp} {d l1 l2 : Addr} {mk md : Str} {ds us : List Str} (h : PartsAt H d l1 l2 mk md ds us) : d ≠ l1 := fun e => by
  have q := h.hd
  rw [e, h.h1] at q
  have q1 := HO.lst.inj (Option.some.inj q)
  have q2 : (ds.map V.str)[2]? = some (.ref l1) := by rw [q1]; rfl
  obtain ⟨_, _, q3⟩ := map_str_get q2
  cases q3
theorem PartsAt.d2 {H : Hp} {d l1 l2 : Addr} {mk md : Str} {ds us : List Str} (h : PartsAt H d l1 l2 mk md ds us) : d ≠ l2 := fun e => by
  have q := h.hd
  rw [e, h.h2] at q
  have q1 := HO.lst.inj (Option.some.inj q)
  have q2 : (us.map V.str)[2]? = some (.ref l1) := by rw [q1]; rfl
  obtain ⟨_, _, q3⟩ := map_str_get q2
  cases q3
theorem eqv_nil (ds : List Str) : PyData.eqv (.list (pdS ds)) (.list []) = ds.isEmpty := by
  cases ds <;> simp [pdS, PyData.eqv, PyData.eqvAll]
theorem map_set {ds : List Str} {j : Nat} {z : Str} : (ds.map V.str).set j (.str z) = (ds.set j z).map V.str := by
  rw [List.map_set]
theorem wd_set {ds : List Str} {j : Nat} {z y : Str} (h : y ∈ ds.set j z) : y ∈ ds ∨ y = z := List.mem_or_eq_of_mem_set h
section
variable {P : Program} {w : World} {K : PySem.W.Frag} {mg : Str → Option Value} {base : Heap}
theorem scPts : FnScope ["_law_s", "_law_spoil", "_law_found_here", "_law_at"] ["_law_s"] (defScope sPts) := ⟨rfl, rfl, rfl, by decide +kernel, rfl, by decide +kernel, by decide +kernel⟩
theorem ok_pts {f fg fW fO fB : Addr} {fd fdg dW dO dB : FuncData} (F : Fun K "_law_parts" "_law_parts" sPts f fd) (T : TxB mg) (D : Dn K mg "_law_digit" sDigit ["_law_state_here", "_law_base"] fg fdg) (DW : Dn K mg "_law_words" sWds ["_law_s"] fW dW)
    (DO : Dn K mg "_law_once" sOnc ["_law_words_here"] fO dO) (DB : Dn K mg "_law_bad" sBad ["_law_s"] fB dB) : FnOk P w K mg base CX0 3 f fd ["_law_s"] spPts := by
  have G : FnOk P w K mg base CX0 1 fg fdg ["_law_state_here", "_law_base"] spDigit := ok_digit D.F
  have GW : FnOk P w K mg base CX0 2 fW dW ["_law_s"] spWds := ok_wds DW.F T D
  have GO : FnOk P w K mg base CX0 1 fO dO ["_law_words_here"] spOnc := ok_onc DO.F
  have GB : FnOk P w K mg base CX0 2 fB dB ["_law_s"] spBad := ok_bad DB.F D
  refine F.ok scPts (fun vs H Q E h => ?_) (fun cdv A outer s H vs Q E hr h => ?_)
  · obtain ⟨p, rfl, _⟩ := h
    rfl
  · obtain ⟨p, rfl, hS, k⟩ := h
    have hr1 : Room 1 _ := hr.mono (by decide)
    refine ⟨_, (pss_cons (ps_set (i := 1) scPts.nd rfl (Or.inl rfl) (pe_call G hr1 rfl D.g D.F.kp D.b .nil pass0 (pa_cons (pv 0) (pa_cons pe_int pa_nil))))
      (pss_cons (ps_set (i := 2) scPts.nd rfl (Or.inl rfl) (pe_lst (pa_cons (pe_ix ix_list (pe_lst (pa_cons pe_str (pa_cons pe_str pa_nil))) (pe_call G hr1 rfl D.g D.F.kp D.b .nil pass0 (pa_cons (pv 0) (pa_cons pe_int pa_nil))) (fun _ _ => rfl)) (pa_cons (pe_ix ix_list (pe_lst (pa_cons pe_str (pa_cons pe_str pa_nil))) (pe_call G hr1 rfl D.g D.F.kp D.b .nil pass0 (pa_cons (pv 0) (pa_cons pe_int pa_nil))) (fun _ _ => rfl)) (pa_cons (pe_call GW hr rfl DW.g DW.F.kp DW.b .nil pass0 (pa_cons (pv 0) pa_nil)) (pa_cons (pe_call GW hr rfl DW.g DW.F.kp DW.b .nil pass0 (pa_cons (pv 0) pa_nil)) pa_nil))))))
      (pss_cons (ps_if (pt_cmpR op_lt (pv 1) pe_int (nomark _)) (pss_cons (ps_asg (pe_call GO hr1 rfl DO.g DO.F.kp DO.b .nil pass0 (pa_cons (pe_ix ix_list (pv 2) pe_int (fun _ _ => rfl)) pa_nil)) (pg_sub (pv 2) pe_int set_list))
      (pss_one (ps_asg (pe_call GO hr1 rfl DO.g DO.F.kp DO.b .nil pass0 (pa_cons (pe_ix ix_list (pv 2) pe_int (fun _ _ => rfl)) pa_nil)) (pg_sub (pv 2) pe_int set_list)))) pss_nil)
      (pss_cons (ps_if (pt_cmpR op_eq (pv 1) pe_int (nomark _)) (pss_cons (ps_set (i := 3) scPts.nd rfl (Or.inl rfl) (pe_call G hr1 rfl D.g D.F.kp D.b .nil pass0 (pa_cons (pv 0) (pa_cons pe_int pa_nil))))
      (pss_one (ps_if (pt_cmpR op_lt (pv 3) pe_int (nomark _)) (pss_one (ps_asg (pe_call GB hr rfl DB.g DB.F.kp DB.b .nil pass0 (pa_cons (pv 0) pa_nil)) (pg_sub (pv 2) (pv 3) set_list))) (pss_one (ps_if (pt_cmpR (op_neD hr.units) (pe_ix ix_list (pv 2) (pv 3) (fun _ _ => rfl)) (pe_lst pa_nil) (nomark _)) (pss_one (ps_asg (pe_call GB hr rfl DB.g DB.F.kp DB.b .nil pass0 (pa_cons (pv 0) pa_nil)) (pg_sub (pe_ix ix_list (pv 2) (pv 3) (fun _ _ => rfl)) (pe_call G hr1 rfl D.g D.F.kp D.b .nil pass0 (pa_cons (pv 0) (pa_cons (pe_callB call_len_seq (by rfl) T.len (by decide +kernel) (pa_cons (pe_ix ix_list (pv 2) (pv 3) (fun _ _ => rfl)) pa_nil)) pa_nil))) set_list))) pss_nil))))) pss_nil)
      (pss_one (ps_ret (pv 2))))))), ?_⟩
    refine ⟨_, rfl, p, _, rfl, hS, by decide, by decide, fun sp H1 a1 b1 B1 S1 => ?_⟩
    refine ⟨by show 2 ≤ sizeLine; decide, fun c1 m1 => ?_⟩
    have z1 := S1.ne m1
    have B1' : But p H _ := B1.trans (Same.but (Same.upd (o := .lst (mkL.map V.str)) m1))
    refine ⟨_, rfl, p, _, rfl, S1.same (Same.upd (o := .lst (mkL.map V.str)) m1), by decide, by decide, fun d2 H2 a2 b2 B2 S2 => ?_⟩
    obtain ⟨mk, wmk, emk⟩ := pick (cs := mkL) a2 b2 (wd_of (by decide +kernel))
    refine rdList (B2 _ _ z1 upd_same) (j := d2.toNat) (by omega) emk ?_
    have B2' := B1'.trans B2
    refine ⟨by show 2 ≤ sizeLine; decide, fun c3 m3 => ?_⟩
    have z3 := S2.ne m3
    have B3' : But p H _ := B2'.trans (Same.but (Same.upd (o := .lst (mdL.map V.str)) m3))
    refine ⟨_, rfl, p, _, rfl, S2.same (Same.upd (o := .lst (mdL.map V.str)) m3), by decide, by decide, fun d4 H4 a4 b4 B4 S4 => ?_⟩
    obtain ⟨md, wmd, emd⟩ := pick (cs := mdL) a4 b4 (wd_of (by decide +kernel))
    refine rdList (B4 _ _ z3 upd_same) (j := d4.toNat) (by omega) emd ?_
    have B4' := B3'.trans B4
    refine ⟨_, rfl, p, rfl, S4, fun ds l1 H5 n5 q5 B5 S5 e5 w5 len5 => ?_⟩
    refine ⟨_, rfl, p, rfl, S5, fun us l2 H6 n6 q6 B6 S6 e6 w6 len6 => ?_⟩
    have B6' := B4'.trans (B5.trans B6)
    refine ⟨by show 4 ≤ sizeLine; decide, fun d nd => ?_⟩
    have ndp := S6.ne nd
    have R7 := Same.upd (o := .lst [.str mk, .str md, .ref l1, .ref l2]) nd
    have S7 := S6.same R7
    have B7 := B6'.trans (Same.but R7)
    have P7 : PartsAt _ d l1 l2 mk md ds us := ⟨upd_same, R7 _ _ (B6 _ _ q5 e5), R7 _ _ e6, (ne_of_none e5 n6), fun z hz => ?_, len5, len6⟩
    rotate_left
    · rcases List.mem_cons.mp hz with rfl | hz
      · exact wmk
      rcases List.mem_cons.mp hz with rfl | hz
      · exact wmd
      rcases List.mem_append.mp hz with hz | hz
      · exact w5 z hz
      · exact w6 z hz
    have fd0 : H d = none := but_free B6' ndp nd
    have f1 : H l1 = none := but_free B4' q5 n5
    have f2 : H l2 = none := but_free (B4'.trans B5) q6 n6
    -- if spoil < 5
    refine ⟨_, rfl, _, _, rfl, rfl, _, rfl, ?_⟩
    refine ite2 (fun _ => ?_) (fun _ => ?_)
    · generalize hHc : upd H6 d (.lst [.str mk, .str md, .ref l1, .ref l2]) = Hc at P7 S7 B7
      refine ⟨_, rfl, ?_⟩
      dsimp only [tC]
      refine rdList P7.hd (j := 2) rfl rfl ?_
      refine ⟨l1, ds, rfl, P7.h1, fun z hz => P7.w z (by simp [hz]), P7.n1, fun xs e H8 ne R8 he wy ly => ?_⟩
      refine ⟨_, rfl, d, _, _, 2, rfl, rfl, R8 _ _ P7.hd, rfl, ?_⟩
      have q5 : e ≠ p := S7.ne ne
      have f1 : H e = none := but_free B7 q5 ne
      have nde : d ≠ e := ne_of_none P7.hd ne
      have P8 : PartsAt (upd H8 d (.lst [.str mk, .str md, .ref e, .ref l2])) d e l2 mk md xs us := ⟨upd_same, by rw [upd_ne nde.symm]; exact he, by rw [upd_ne P7.d2.symm]; exact R8 _ _ P7.h2, (ne_of_none P7.h2 ne).symm, fun y hy => by
        rcases List.mem_cons.mp hy with rfl | hy
        · exact P7.w _ (by simp)
        rcases List.mem_cons.mp hy with rfl | hy
        · exact P7.w _ (by simp)
        rcases List.mem_append.mp hy with hy | hy
        · exact wy y hy
        · exact P7.w y (by simp [hy]), ly, P7.n2⟩
      have B8 : But p H (upd H8 d (.lst [.str mk, .str md, .ref e, .ref l2])) := but_new (B7.trans (Same.but R8)) fd0
      have S8 : StOk (upd H8 d (.lst [.str mk, .str md, .ref e, .ref l2])) p := (S7.same R8).upd ndp
      refine ⟨_, rfl, ?_⟩
      dsimp only [tC]
      refine rdList P8.hd (j := 3) rfl rfl ?_
      refine ⟨l2, us, rfl, P8.h2, fun z hz => P8.w z (by simp [hz]), P8.n2, fun xs2 e2 H9 ne2 R9 he2 wy2 ly2 => ?_⟩
      refine ⟨_, rfl, d, _, _, 3, rfl, rfl, R9 _ _ P8.hd, rfl, ?_⟩
      have q6 : e2 ≠ p := S8.ne ne2
      have f2 : H e2 = none := but_free B8 q6 ne2
      have nde2 : d ≠ e2 := ne_of_none P8.hd ne2
      have P7 : PartsAt (upd H9 d (.lst [.str mk, .str md, .ref e, .ref e2])) d e e2 mk md xs xs2 := ⟨upd_same, by rw [upd_ne nde.symm]; exact R9 _ _ P8.h1, by rw [upd_ne nde2.symm]; exact he2, ne_of_none P8.h1 ne2, fun y hy => by
        rcases List.mem_cons.mp hy with rfl | hy
        · exact P8.w _ (by simp)
        rcases List.mem_cons.mp hy with rfl | hy
        · exact P8.w _ (by simp)
        rcases List.mem_append.mp hy with hy | hy
        · exact P8.w y (by simp [hy])
        · exact wy2 y hy, P8.n1, ly2⟩
      have B7 : But p H (upd H9 d (.lst [.str mk, .str md, .ref e, .ref e2])) := but_new (B8.trans (Same.but R9)) fd0
      have S7 : StOk (upd H9 d (.lst [.str mk, .str md, .ref e, .ref e2])) p := (S8.same R9).upd ndp
      have hgen : ∃ Hq, Hq = upd H9 d (.lst [.str mk, .str md, .ref e, .ref e2]) := ⟨_, rfl⟩
      refine ⟨_, rfl, rfl, _, rfl, ?_⟩
      refine ite2 (fun _ => ?_) (fun _ => ?_)
      rotate_left
      · exact ⟨_, rfl, k d e e2 mk md xs xs2 _ fd0 f1 f2 B7 S7 P7⟩
      refine ⟨_, rfl, p, _, rfl, S7, by decide, by decide, fun at_ Ha a8 b8 B8 S8 => ?_⟩
      have P8 := P7.but B8 ndp q5 q6
      have B8' := B7.trans B8
      refine ⟨_, rfl, _, _, rfl, rfl, _, rfl, ?_⟩
      refine ite2 (fun ha => ?_) (fun ha => ?_)
      · have ha' : at_ < 2 := of_decide_eq_true ha
        refine ⟨_, rfl, p, rfl, S8, fun z Hb wz B9 S9 => ?_⟩
        have P9 := P8.but B9 ndp q5 q6
        have ca : at_ = 0 ∨ at_ = 1 := by omega
        rcases ca with rfl | rfl
        · refine ⟨_, rfl, _, rfl, d, _, _, 0, rfl, rfl, P9.hd, rfl, ?_⟩
          refine ⟨_, rfl, k d e e2 z md xs xs2 _ fd0 f1 f2 (but_new (B8'.trans B9) fd0) (S9.upd ndp) ⟨upd_same, ?_, ?_, P9.ne, fun y hy => ?_, P9.n1, P9.n2⟩⟩
          · rw [upd_ne P9.d1.symm]
            exact P9.h1
          · rw [upd_ne P9.d2.symm]
            exact P9.h2
          · rcases List.mem_cons.mp hy with rfl | hy
            · exact wz
            rcases List.mem_cons.mp hy with rfl | hy
            · exact P9.w _ (by simp)
            · exact P9.w y (by simp only [List.mem_cons]; exact .inr (.inr hy))
        · refine ⟨_, rfl, _, rfl, d, _, _, 1, rfl, rfl, P9.hd, rfl, ?_⟩
          refine ⟨_, rfl, k d e e2 mk z xs xs2 _ fd0 f1 f2 (but_new (B8'.trans B9) fd0) (S9.upd ndp) ⟨upd_same, ?_, ?_, P9.ne, fun y hy => ?_, P9.n1, P9.n2⟩⟩
          · rw [upd_ne P9.d1.symm]
            exact P9.h1
          · rw [upd_ne P9.d2.symm]
            exact P9.h2
          · rcases List.mem_cons.mp hy with rfl | hy
            · exact P9.w _ (by simp)
            rcases List.mem_cons.mp hy with rfl | hy
            · exact wz
            · exact P9.w y (by simp only [List.mem_cons]; exact .inr (.inr hy))
      · have ha' : ¬ at_ < 2 := fun q => ha (decide_eq_true q)
        have ca : at_ = 2 ∨ at_ = 3 := by omega
        rcases ca with rfl | rfl
        · refine ⟨_, rfl, _, rfl, rdList P8.hd (j := 2) rfl rfl ?_⟩
          refine ⟨Nat.zero_le _, fun e0 ne0 => ?_⟩
          have Re := Same.upd (o := .lst []) ne0
          have P9 := P8.same Re
          have B9' := B8'.trans (Same.but Re)
          refine ⟨_, _, .lst (SqL.of P9.h1) (dpAll_pdS xs), .lst (SqL.of upd_same) .nil, shaped_lst fun z hz => (P9.w z (by simp [hz])).1, by decide +kernel, _, rfl, ?_⟩
          rw [eqv_nil]
          refine ite2 (fun hne => ?_) (fun hne => ?_)
          rotate_left
          · exact ⟨_, rfl, k d e e2 mk md xs xs2 _ fd0 f1 f2 B9' (S8.same Re) P9⟩
          have pos : 0 < xs.length := by
            cases xs with
            | nil => simp at hne
            | cons a r => simp
          refine ⟨_, rfl, p, rfl, S8.same Re, fun z Hb wz Bb Sb => ?_⟩
          have Pb := P9.but Bb ndp q5 q6
          have Bb' := B9'.trans Bb
          have nn := Pb.n1
          refine ⟨_, rfl, _, rfl, rdList Pb.hd (j := 2) rfl rfl ?_⟩
          refine ⟨_, rfl, _, rfl, _, rfl, rdList Pb.hd (j := 2) rfl rfl ?_⟩
          refine ⟨e, _, rfl, .inl (SqL.of Pb.h1), p, _, rfl, Sb, ?_, ?_, fun jj Hj aj bj Bj Sj => ?_⟩
          · rw [List.length_map]
            omega
          · rw [List.length_map]
            omega
          rw [List.length_map] at bj
          have Pj := Pb.but Bj ndp q5 q6
          have nj : (xs.map V.str).length = xs.length := List.length_map ..
          refine ⟨e, _, _, jj.toNat, rfl, rfl, Pj.h1, ?_, ?_⟩
          · unfold ixN
            rw [if_pos aj, if_pos (by rw [nj]; exact bj)]
          refine ⟨_, rfl, k d e e2 mk md (xs.set jj.toNat z) xs2 _ fd0 f1 f2 (but_new (Bb'.trans Bj) f1) (Sj.upd q5) ⟨?_, ?_, ?_, Pj.ne, fun y hy => ?_, by rw [List.length_set]; exact Pj.n1, Pj.n2⟩⟩
          · rw [upd_ne Pj.d1]
            exact Pj.hd
          · rw [upd_same, map_set]
          · rw [upd_ne Pj.ne.symm]
            exact Pj.h2
          · rcases List.mem_cons.mp hy with rfl | hy
            · exact Pj.w _ (by simp)
            rcases List.mem_cons.mp hy with rfl | hy
            · exact Pj.w _ (by simp)
            rcases List.mem_append.mp hy with hy | hy
            · rcases wd_set hy with hy | rfl
              · exact Pj.w y (by simp [hy])
              · exact wz
            · exact Pj.w y (by simp [hy])
        · refine ⟨_, rfl, _, rfl, rdList P8.hd (j := 3) rfl rfl ?_⟩
          refine ⟨Nat.zero_le _, fun e0 ne0 => ?_⟩
          have Re := Same.upd (o := .lst []) ne0
          have P9 := P8.same Re
          have B9' := B8'.trans (Same.but Re)
          refine ⟨_, _, .lst (SqL.of P9.h2) (dpAll_pdS xs2), .lst (SqL.of upd_same) .nil, shaped_lst fun z hz => (P9.w z (by simp [hz])).1, by decide +kernel, _, rfl, ?_⟩
          rw [eqv_nil]
          refine ite2 (fun hne => ?_) (fun hne => ?_)
          rotate_left
          · exact ⟨_, rfl, k d e e2 mk md xs xs2 _ fd0 f1 f2 B9' (S8.same Re) P9⟩
          have pos : 0 < xs2.length := by
            cases xs2 with
            | nil => simp at hne
            | cons a r => simp
          refine ⟨_, rfl, p, rfl, S8.same Re, fun z Hb wz Bb Sb => ?_⟩
          have Pb := P9.but Bb ndp q5 q6
          have Bb' := B9'.trans Bb
          have nn := Pb.n2
          refine ⟨_, rfl, _, rfl, rdList Pb.hd (j := 3) rfl rfl ?_⟩
          refine ⟨_, rfl, _, rfl, _, rfl, rdList Pb.hd (j := 3) rfl rfl ?_⟩
          refine ⟨e2, _, rfl, .inl (SqL.of Pb.h2), p, _, rfl, Sb, ?_, ?_, fun jj Hj aj bj Bj Sj => ?_⟩
          · rw [List.length_map]
            omega
          · rw [List.length_map]
            omega
          rw [List.length_map] at bj
          have Pj := Pb.but Bj ndp q5 q6
          have nj : (xs2.map V.str).length = xs2.length := List.length_map ..
          refine ⟨e2, _, _, jj.toNat, rfl, rfl, Pj.h2, ?_, ?_⟩
          · unfold ixN
            rw [if_pos aj, if_pos (by rw [nj]; exact bj)]
          refine ⟨_, rfl, k d e e2 mk md xs (xs2.set jj.toNat z) _ fd0 f1 f2 (but_new (Bb'.trans Bj) f2) (Sj.upd q6) ⟨?_, ?_, ?_, Pj.ne, fun y hy => ?_, Pj.n1, by rw [List.length_set]; exact Pj.n2⟩⟩
          · rw [upd_ne Pj.d2]
            exact Pj.hd
          · rw [upd_ne Pj.ne]
            exact Pj.h1
          · rw [upd_same, map_set]
          · rcases List.mem_cons.mp hy with rfl | hy
            · exact Pj.w _ (by simp)
            rcases List.mem_cons.mp hy with rfl | hy
            · exact Pj.w _ (by simp)
            rcases List.mem_append.mp hy with hy | hy
            · exact Pj.w y (by simp [hy])
            · rcases wd_set hy with hy | rfl
              · exact Pj.w y (by simp [hy])
              · exact wz
    · generalize hHc : upd H6 d (.lst [.str mk, .str md, .ref l1, .ref l2]) = Hc at P7 S7 B7
      refine ⟨_, rfl, rfl, _, rfl, ?_⟩
      refine ite2 (fun _ => ?_) (fun _ => ?_)
      rotate_left
      · exact ⟨_, rfl, k d l1 l2 mk md ds us _ fd0 f1 f2 B7 S7 P7⟩
      refine ⟨_, rfl, p, _, rfl, S7, by decide, by decide, fun at_ Ha a8 b8 B8 S8 => ?_⟩
      have P8 := P7.but B8 ndp q5 q6
      have B8' := B7.trans B8
      refine ⟨_, rfl, _, _, rfl, rfl, _, rfl, ?_⟩
      refine ite2 (fun ha => ?_) (fun ha => ?_)
      · have ha' : at_ < 2 := of_decide_eq_true ha
        refine ⟨_, rfl, p, rfl, S8, fun z Hb wz B9 S9 => ?_⟩
        have P9 := P8.but B9 ndp q5 q6
        have ca : at_ = 0 ∨ at_ = 1 := by omega
        rcases ca with rfl | rfl
        · refine ⟨_, rfl, _, rfl, d, _, _, 0, rfl, rfl, P9.hd, rfl, ?_⟩
          refine ⟨_, rfl, k d l1 l2 z md ds us _ fd0 f1 f2 (but_new (B8'.trans B9) fd0) (S9.upd ndp) ⟨upd_same, ?_, ?_, P9.ne, fun y hy => ?_, P9.n1, P9.n2⟩⟩
          · rw [upd_ne P9.d1.symm]
            exact P9.h1
          · rw [upd_ne P9.d2.symm]
            exact P9.h2
          · rcases List.mem_cons.mp hy with rfl | hy
            · exact wz
            rcases List.mem_cons.mp hy with rfl | hy
            · exact P9.w _ (by simp)
            · exact P9.w y (by simp only [List.mem_cons]; exact .inr (.inr hy))
        · refine ⟨_, rfl, _, rfl, d, _, _, 1, rfl, rfl, P9.hd, rfl, ?_⟩
          refine ⟨_, rfl, k d l1 l2 mk z ds us _ fd0 f1 f2 (but_new (B8'.trans B9) fd0) (S9.upd ndp) ⟨upd_same, ?_, ?_, P9.ne, fun y hy => ?_, P9.n1, P9.n2⟩⟩
          · rw [upd_ne P9.d1.symm]
            exact P9.h1
          · rw [upd_ne P9.d2.symm]
            exact P9.h2
          · rcases List.mem_cons.mp hy with rfl | hy
            · exact P9.w _ (by simp)
            rcases List.mem_cons.mp hy with rfl | hy
            · exact wz
            · exact P9.w y (by simp only [List.mem_cons]; exact .inr (.inr hy))
      · have ha' : ¬ at_ < 2 := fun q => ha (decide_eq_true q)
        have ca : at_ = 2 ∨ at_ = 3 := by omega
        rcases ca with rfl | rfl
        · refine ⟨_, rfl, _, rfl, rdList P8.hd (j := 2) rfl rfl ?_⟩
          refine ⟨Nat.zero_le _, fun e ne => ?_⟩
          have Re := Same.upd (o := .lst []) ne
          have P9 := P8.same Re
          have B9' := B8'.trans (Same.but Re)
          refine ⟨_, _, .lst (SqL.of P9.h1) (dpAll_pdS ds), .lst (SqL.of upd_same) .nil, shaped_lst fun z hz => (P9.w z (by simp [hz])).1, by decide +kernel, _, rfl, ?_⟩
          rw [eqv_nil]
          refine ite2 (fun hne => ?_) (fun hne => ?_)
          rotate_left
          · exact ⟨_, rfl, k d l1 l2 mk md ds us _ fd0 f1 f2 B9' (S8.same Re) P9⟩
          have pos : 0 < ds.length := by
            cases ds with
            | nil => simp at hne
            | cons a r => simp
          refine ⟨_, rfl, p, rfl, S8.same Re, fun z Hb wz Bb Sb => ?_⟩
          have Pb := P9.but Bb ndp q5 q6
          have Bb' := B9'.trans Bb
          have nn := Pb.n1
          refine ⟨_, rfl, _, rfl, rdList Pb.hd (j := 2) rfl rfl ?_⟩
          refine ⟨_, rfl, _, rfl, _, rfl, rdList Pb.hd (j := 2) rfl rfl ?_⟩
          refine ⟨l1, _, rfl, .inl (SqL.of Pb.h1), p, _, rfl, Sb, ?_, ?_, fun jj Hj aj bj Bj Sj => ?_⟩
          · rw [List.length_map]
            omega
          · rw [List.length_map]
            omega
          rw [List.length_map] at bj
          have Pj := Pb.but Bj ndp q5 q6
          have nj : (ds.map V.str).length = ds.length := List.length_map ..
          refine ⟨l1, _, _, jj.toNat, rfl, rfl, Pj.h1, ?_, ?_⟩
          · unfold ixN
            rw [if_pos aj, if_pos (by rw [nj]; exact bj)]
          refine ⟨_, rfl, k d l1 l2 mk md (ds.set jj.toNat z) us _ fd0 f1 f2 (but_new (Bb'.trans Bj) f1) (Sj.upd q5) ⟨?_, ?_, ?_, Pj.ne, fun y hy => ?_, by rw [List.length_set]; exact Pj.n1, Pj.n2⟩⟩
          · rw [upd_ne Pj.d1]
            exact Pj.hd
          · rw [upd_same, map_set]
          · rw [upd_ne Pj.ne.symm]
            exact Pj.h2
          · rcases List.mem_cons.mp hy with rfl | hy
            · exact Pj.w _ (by simp)
            rcases List.mem_cons.mp hy with rfl | hy
            · exact Pj.w _ (by simp)
            rcases List.mem_append.mp hy with hy | hy
            · rcases wd_set hy with hy | rfl
              · exact Pj.w y (by simp [hy])
              · exact wz
            · exact Pj.w y (by simp [hy])
        · refine ⟨_, rfl, _, rfl, rdList P8.hd (j := 3) rfl rfl ?_⟩
          refine ⟨Nat.zero_le _, fun e ne => ?_⟩
          have Re := Same.upd (o := .lst []) ne
          have P9 := P8.same Re
          have B9' := B8'.trans (Same.but Re)
          refine ⟨_, _, .lst (SqL.of P9.h2) (dpAll_pdS us), .lst (SqL.of upd_same) .nil, shaped_lst fun z hz => (P9.w z (by simp [hz])).1, by decide +kernel, _, rfl, ?_⟩
          rw [eqv_nil]
          refine ite2 (fun hne => ?_) (fun hne => ?_)
          rotate_left
          · exact ⟨_, rfl, k d l1 l2 mk md ds us _ fd0 f1 f2 B9' (S8.same Re) P9⟩
          have pos : 0 < us.length := by
            cases us with
            | nil => simp at hne
            | cons a r => simp
          refine ⟨_, rfl, p, rfl, S8.same Re, fun z Hb wz Bb Sb => ?_⟩
          have Pb := P9.but Bb ndp q5 q6
          have Bb' := B9'.trans Bb
          have nn := Pb.n2
          refine ⟨_, rfl, _, rfl, rdList Pb.hd (j := 3) rfl rfl ?_⟩
          refine ⟨_, rfl, _, rfl, _, rfl, rdList Pb.hd (j := 3) rfl rfl ?_⟩
          refine ⟨l2, _, rfl, .inl (SqL.of Pb.h2), p, _, rfl, Sb, ?_, ?_, fun jj Hj aj bj Bj Sj => ?_⟩
          · rw [List.length_map]
            omega
          · rw [List.length_map]
            omega
          rw [List.length_map] at bj
          have Pj := Pb.but Bj ndp q5 q6
          have nj : (us.map V.str).length = us.length := List.length_map ..
          refine ⟨l2, _, _, jj.toNat, rfl, rfl, Pj.h2, ?_, ?_⟩
          · unfold ixN
            rw [if_pos aj, if_pos (by rw [nj]; exact bj)]
          refine ⟨_, rfl, k d l1 l2 mk md ds (us.set jj.toNat z) _ fd0 f1 f2 (but_new (Bb'.trans Bj) f2) (Sj.upd q6) ⟨?_, ?_, ?_, Pj.ne, fun y hy => ?_, Pj.n1, by rw [List.length_set]; exact Pj.n2⟩⟩
          · rw [upd_ne Pj.d2]
            exact Pj.hd
          · rw [upd_ne Pj.ne]
            exact Pj.h1
          · rw [upd_same, map_set]
          · rcases List.mem_cons.mp hy with rfl | hy
            · exact Pj.w _ (by simp)
            rcases List.mem_cons.mp hy with rfl | hy
            · exact Pj.w _ (by simp)
            rcases List.mem_append.mp hy with hy | hy
            · exact Pj.w y (by simp [hy])
            · rcases wd_set hy with hy | rfl
              · exact Pj.w y (by simp [hy])
              · exact wz
end
end Wm
namespace Wm
open PySem L2 StX
abbrev sDue : Stmt := top 43
theorem rdListC {K : PySem.W.Frag} {p : Addr} {xs : List V} {i : Int} {j : Nat} {v : V} {σ : St} {H : Hp} {Q : VK} (hp : H p = some (.lst xs)) (e : i = (j : Int)) (hv : xs[j]? = some v) (h : Q v H) : tC (.int i) σ H (fun y H2 => rIxL K (.ref p) y H2 Q) := rdList hp e hv h
def madeP (mk md : Str) (ds us : List Str) : PyData := .tuple [.str "made", .str mk, .str md, .tuple (pdS ds), .tuple (pdS us)]
/-- what is due of the parts; ok: the making is made -/
inductive DueP (mk md : Str) (ds us : List Str) : PyData → Str → Prop
  | nn {z : Str} : (mk :: md :: (ds ++ us)).find? (fun z => !isNm z) = some z → DueP mk md ds us (.tuple [.str "noname", .str z]) "noname"
  | td {i : Nat} {z : Str} : (mk :: md :: (ds ++ us)).find? (fun z => !isNm z) = none → TwAt ds i z → DueP mk md ds us (.tuple [.str "twice", .str z]) "twice"
  | tu {i : Nat} {z : Str} : (mk :: md :: (ds ++ us)).find? (fun z => !isNm z) = none → NoTwS ds → TwAt us i z → DueP mk md ds us (.tuple [.str "twice", .str z]) "twice"
  | ok : (mk :: md :: (ds ++ us)).find? (fun z => !isNm z) = none → NoTwS ds → NoTwS us → DueP mk md ds us (madeP mk md ds us) "made"
def spDue (K : PySem.W.Frag) : Sp := fun vs H Q _ => ∃ (d l1 l2 : Addr) (mk md : Str) (ds us : List Str), vs = [.ref d] ∧ PartsAt H d l1 l2 mk md ds us ∧ ∀ t xs D tag H', Same H H' → H' t = some (.tup (.str tag :: xs)) → Dp K H' (.ref t) D → DueP mk md ds us D tag → Q (.ref t) H'
section
variable {P : Program} {w : World} {K : PySem.W.Frag} {mg : Str → Option Value} {base : Heap}
theorem scDue : FnScope ["_law_parts_here", "_law_text", "_law_words_here", "_law_k"] ["_law_parts_here"] (defScope sDue) := ⟨rfl, rfl, rfl, by decide +kernel, rfl, by decide +kernel, by decide +kernel⟩
theorem ok_due {f fN : Addr} {fd dN : FuncData} (F : Fun K "_law_due" "_law_due" sDue f fd) (T : TxB mg) (DN : Dn K mg "_law_is_name" sLName ["_law_text"] fN dN) : FnOk P w K mg base CX0 2 f fd ["_law_parts_here"] (spDue K) := by
  have GN : FnOk P w K mg base CX0 1 fN dN ["_law_text"] spName := ok_lname DN.F T
  refine F.ok scDue (fun vs H Q E h => ?_) (fun cdv A outer s H vs Q E hr h => ?_)
  · obtain ⟨d, l1, l2, mk, md, ds, us, rfl, _⟩ := h
    rfl
  · obtain ⟨d, l1, l2, mk, md, ds, us, rfl, hp, k⟩ := h
    refine ⟨_, (pss_cons (ps_for PassesOwn.never rfl (pi_list (pe_op op_cat (pe_op op_cat (pe_slice sl_list (pv 0) po_none (po_some pe_int)) (pe_ix ix_list (pv 0) pe_int (fun _ _ => rfl))) (pe_ix ix_list (pv 0) pe_int (fun _ _ => rfl)))) (pg_name (i := 1) scDue.nd rfl (Or.inl rfl)) (pss_one (ps_if (pt_not (pt_val (pe_call GN hr rfl DN.g DN.F.kp DN.b .nil pass0 (pa_cons (pv 1) pa_nil)))) (pss_one (ps_ret (pe_tup (pa_cons pe_str (pa_cons (pv 1) pa_nil))))) pss_nil)))
      (pss_cons (ps_for PassesOwn.never rfl (pi_list (pe_slice sl_list (pv 0) (po_some pe_int) po_none)) (pg_name (i := 2) scDue.nd rfl (Or.inl rfl)) (pss_one (ps_for PassesOwn.never rfl (pi_range1 rfl T.range (pa_cons (pe_callB call_len_seq (by rfl) T.len (by decide +kernel) (pa_cons (pv 2) pa_nil)) pa_nil)) (pg_name (i := 3) scDue.nd rfl (Or.inl rfl)) (pss_one (ps_if (pt_cmpR op_in_seq (pe_ix ix_list (pv 2) (pv 3) (fun _ _ => rfl)) (pe_slice sl_list (pv 2) po_none (po_some (pv 3))) (by rfl)) (pss_one (ps_ret (pe_tup (pa_cons pe_str (pa_cons (pe_ix ix_list (pv 2) (pv 3) (fun _ _ => rfl)) pa_nil))))) pss_nil)))))
      (pss_one (ps_ret (pe_tup (pa_cons pe_str (pa_cons (pe_ix ix_list (pv 0) pe_int (fun _ _ => rfl)) (pa_cons (pe_ix ix_list (pv 0) pe_int (fun _ _ => rfl)) (pa_cons (pe_callTy call_tupN (by rfl) T.tuple (by decide +kernel) (pa_cons (pe_ix ix_list (pv 0) pe_int (fun _ _ => rfl)) pa_nil)) (pa_cons (pe_callTy call_tupN (by rfl) T.tuple (by decide +kernel) (pa_cons (pe_ix ix_list (pv 0) pe_int (fun _ _ => rfl)) pa_nil)) pa_nil)))))))))), ?_⟩
    refine ⟨_, rfl, _, rfl, d, _, rfl, SqL.of hp.hd, fun c1 m1 => ?_⟩
    have ec : cutV [V.str mk, V.str md, V.ref l1, V.ref l2] none (some 2) = [V.str mk, V.str md] := rfl
    rw [ec]
    have R1 := Same.upd (o := .lst [.str mk, .str md]) m1
    have P1 := hp.same R1
    refine ⟨_, rfl, rdListC P1.hd (j := 2) rfl rfl ?_⟩
    refine ⟨c1, l1, _, _, rfl, rfl, upd_same, P1.h1, ?_, fun c2 m2 => ?_⟩
    · rw [List.length_map]
      exact Nat.le_trans (show 2 + ds.length ≤ 1000 by have := hp.n1; omega) (by decide)
    have R2 := Same.upd (o := .lst ([.str mk, .str md] ++ ds.map V.str)) m2
    have P2 := P1.same R2
    refine ⟨_, rfl, rdListC P2.hd (j := 3) rfl rfl ?_⟩
    refine ⟨c2, l2, _, _, rfl, rfl, upd_same, P2.h2, ?_, fun c3 m3 => ?_⟩
    · rw [List.length_append, List.length_map, List.length_map]
      exact Nat.le_trans (show 2 + ds.length + us.length ≤ 1000 by have := hp.n1; have := hp.n2; omega) (by decide)
    have el : ([V.str mk, .str md] ++ ds.map V.str) ++ us.map V.str = (mk :: md :: (ds ++ us)).map V.str := by
      simp
    have R3 := Same.upd (o := .lst (([V.str mk, .str md] ++ ds.map V.str) ++ us.map V.str)) m3
    have P3 := P2.same R3
    have R03 := (R1.trans R2).trans R3
    generalize hHc : upd (upd (upd H c1 _) c2 _) c3 (.lst (([V.str mk, .str md] ++ ds.map V.str) ++ us.map V.str)) = Hc at P3 R03
    have h3 : Hc c3 = some (.lst ((mk :: md :: (ds ++ us)).map V.str)) := by rw [← hHc, upd_same, el]
    have e3 : Hc c3 = some (.lst (([V.str mk, .str md] ++ ds.map V.str) ++ us.map V.str)) := by rw [← hHc, upd_same]
    refine ⟨c3, rfl, ⟨_, SqL.of e3⟩, for_list (K := K) (a := c3) (xs := (mk :: md :: (ds ++ us)).map V.str) (fun i σ H' => (∃ v, σ = [some (.ref d), v, none, none]) ∧ Same Hc H' ∧ ∀ y ∈ (mk :: md :: (ds ++ us)).take i, (!isNm y) = false) ⟨⟨none, rfl⟩, Same.refl _, fun y hy => (List.not_mem_nil hy).elim⟩
      (fun i σ H' _ ⟨_, hS, _⟩ => SqL.of (hS _ _ h3)) ?_ ?_⟩
    · rintro i y σ H' hi ⟨⟨v, rfl⟩, hS, hno⟩
      obtain ⟨z, hz, rfl⟩ := map_str_get hi
      refine ⟨_, rfl, z, rfl, Nat.le_trans (hp.w z (List.mem_of_getElem? hz)).2 (by decide), fun H2 hS2 => ⟨_, rfl, ?_⟩⟩
      refine ite2 (fun h => ?_) (fun h => ?_)
      · refine ⟨_, rfl, by show 2 ≤ sizeLine; decide, fun q nq => ?_⟩
        have e := find_none_take hno hz h
        exact k q _ _ _ _ (R03.trans (hS.trans (hS2.trans (Same.upd nq)))) upd_same (.tup (SqT.of upd_same) (.cons (.str _) (.cons (.str _) .nil))) (.nn e)
      · refine ⟨⟨_, rfl⟩, hS.trans hS2, fun y hy => ?_⟩
        rw [List.take_add_one, hz] at hy
        rcases List.mem_append.mp hy with hy | hy
        · exact hno y hy
        · have e : y = z := by simpa using hy
          rw [e]
          exact Bool.eq_false_iff.mpr h
    · rintro σ H4 ⟨⟨v, rfl⟩, hS, hno⟩
      have fn : (mk :: md :: (ds ++ us)).find? (fun z => !isNm z) = none := by
        rw [List.find?_eq_none]
        intro y hy
        rw [List.length_map, List.take_length] at hno
        rw [hno y hy]
        decide
      have R04 := R03.trans hS
      have P4 := hp.same R04
      refine ⟨_, rfl, _, rfl, d, _, rfl, SqL.of P4.hd, fun c5 m5 => ?_⟩
      have ec2 : cutV [V.str mk, V.str md, V.ref l1, V.ref l2] (some 2) none = [V.ref l1, V.ref l2] := rfl
      rw [ec2]
      have R5 := Same.upd (o := .lst [.ref l1, .ref l2]) m5
      have P5 := P4.same R5
      have R05 := R04.trans R5
      generalize hH5 : upd H4 c5 (.lst [.ref l1, .ref l2]) = H5 at P5 R05
      have h5 : H5 c5 = some (.lst [.ref l1, .ref l2]) := by rw [← hH5, upd_same]
      refine ⟨c5, rfl, ⟨_, SqL.of h5⟩, for_list (K := K) (a := c5) (xs := [.ref l1, .ref l2]) (fun i σ H' => (∃ u1 u2 u3, σ = [some (.ref d), u1, u2, u3]) ∧ Same H5 H' ∧ (1 ≤ i → NoTwS ds) ∧ (2 ≤ i → NoTwS us)) ⟨⟨_, _, _, rfl⟩, Same.refl _, fun h => by omega, fun h => by omega⟩
        (fun i σ H' _ ⟨_, hS, _⟩ => SqL.of (hS _ _ h5)) ?_ ?_⟩
      · rintro i y σ H6 hi ⟨⟨u1, u2, u3, rfl⟩, S6, n1, n2⟩
        obtain ⟨l, ws, rfl, hl, hlen, ww, fin⟩ : ∃ (l : Addr) (ws : List Str), y = .ref l ∧ H5 l = some (.lst (ws.map V.str)) ∧ ws.length ≤ 4 ∧ ((∀ j z, TwAt ws j z → DueP mk md ds us (.tuple [.str "twice", .str z]) "twice")) ∧ (NoTwS ws → (1 ≤ i + 1 → NoTwS ds) ∧ (2 ≤ i + 1 → NoTwS us)) := by
          match i, hi with
          | 0, hi =>
            cases hi
            exact ⟨l1, ds, rfl, P5.h1, P5.n1, fun j z t => .td fn t, fun n => ⟨fun _ => n, fun h => by omega⟩⟩
          | 1, hi =>
            cases hi
            exact ⟨l2, us, rfl, P5.h2, P5.n2, fun j z t => .tu fn (n1 (by omega)) t, fun n => ⟨fun _ => n1 (by omega), fun _ => n⟩⟩
          | i + 2, hi => cases hi
        refine ⟨_, rfl, l, _, rfl, .inl (SqL.of (S6 _ _ hl)), _, rfl, ?_, ?_, ?_⟩
        · omega
        · rw [List.length_map]
          omega
        refine for_range (n := (((ws.map V.str).length : Nat) : Int).toNat) (fun j σ H' => (∃ u1 u3, σ = [some (.ref d), u1, some (.ref l), u3]) ∧ Same H5 H' ∧ ∀ j' y, j' < j → ws[j']? = some y → ¬ y ∈ ws.take j') ⟨⟨_, _, rfl⟩, S6, fun j y h => absurd h (Nat.not_lt_zero j)⟩ ?_ ?_
        · rintro j σ H7 hj ⟨⟨v1, v3, rfl⟩, S7, hno⟩
          have hj : j < ws.length := by
            rw [List.length_map] at hj
            omega
          have hz : ws[j]? = some ws[j] := List.getElem?_eq_getElem hj
          have hv : (ws.map V.str)[j]? = some (.str ws[j]) := by rw [List.getElem?_map, hz]; rfl
          refine ⟨_, rfl, _, rfl, rdList (S7 _ _ hl) (j := j) (Int.zero_add _) hv ?_⟩
          refine ⟨_, rfl, _, rfl, _, rfl, l, _, rfl, SqL.of (S7 _ _ hl), fun c8 m8 => ?_⟩
          rw [Int.zero_add]
          refine ⟨c8, _, rfl, .inl (SqL.of upd_same), rfl, ?_, _, rfl, ?_⟩
          · show (cutV (ws.map V.str) none (some (j : Int))).all flatV = true
            rw [cut_take]
            exact all_take (flat_strs ws) j
          · show if inV (.str ws[j]) (cutV (ws.map V.str) none (some (j : Int))) = true then _ else _
            have R8 := Same.upd (o := .lst (cutV (ws.map V.str) none (some (j : Int)))) m8
            generalize upd H7 c8 (.lst (cutV (ws.map V.str) none (some (j : Int)))) = H8 at R8
            rw [cut_take, inV_take]
            refine ite2 (fun q => ?_) (fun q => ?_)
            · refine ⟨_, rfl, _, rfl, rdList ((S7.trans R8) _ _ hl) (j := j) rfl hv ?_⟩
              refine ⟨by show 2 ≤ sizeLine; decide, fun t nt => ?_⟩
              exact k t _ _ _ _ (R05.trans (S7.trans (R8.trans (Same.upd nt)))) upd_same (.tup (SqT.of upd_same) (.cons (.str _) (.cons (.str _) .nil))) (ww j _ ⟨hz, of_decide_eq_true q, hno⟩)
            · refine ⟨⟨_, _, rfl⟩, S7.trans R8, fun j' y hj' e => ?_⟩
              by_cases c : j' = j
              · subst c
                rw [hz] at e
                cases e
                exact fun m => q (decide_eq_true m)
              · exact hno j' y (by omega) e
        · rintro σ H7 ⟨⟨v1, v3, rfl⟩, S7, hno⟩
          have no : NoTwS ws := fun j y e => hno j y (by
            have q := (List.getElem?_eq_some_iff.mp e).1
            rw [List.length_map]
            omega) e
          exact ⟨⟨_, _, _, rfl⟩, S7, (fin no).1, (fin no).2⟩
      · rintro σ H6 ⟨⟨u1, u2, u3, rfl⟩, S6, n1, n2⟩
        have P6 := P5.same S6
        refine ⟨_, rfl, ?_⟩
        dsimp only [tC]
        refine rdList P6.hd (j := 0) rfl rfl ⟨_, rfl, ?_⟩
        dsimp only [tC]
        refine rdList P6.hd (j := 1) rfl rfl ⟨_, rfl, ?_⟩
        dsimp only [tC]
        refine rdList P6.hd (j := 2) rfl rfl ⟨l1, _, rfl, .inl ⟨SqL.of P6.h1, fun t1 m1 => ?_⟩⟩
        have Q1 := Same.upd (o := .tup (ds.map V.str)) m1
        have P7 := P6.same Q1
        refine ⟨_, rfl, ?_⟩
        dsimp only [tC]
        refine rdList P7.hd (j := 3) rfl rfl ⟨l2, _, rfl, .inl ⟨SqL.of P7.h2, fun t2 m2 => ?_⟩⟩
        have Q2 := Same.upd (o := .tup (us.map V.str)) m2
        refine ⟨by show 5 ≤ sizeLine; decide, fun t nt => ?_⟩
        have Q3 := Same.upd (o := .tup [.str "made", .str mk, .str md, .ref t1, .ref t2]) nt
        exact k t _ _ _ _ (R05.trans (S6.trans (Q1.trans (Q2.trans Q3)))) upd_same (.tup (SqT.of upd_same) (.cons (.str _) (.cons (.str _) (.cons (.str _) (.cons (.tup (SqT.of (Q3 _ _ (Q2 _ _ upd_same))) (dpAll_pdS ds)) (.cons (.tup (SqT.of (Q3 _ _ upd_same)) (dpAll_pdS us)) .nil)))))) (.ok fn (n1 (Nat.le_of_ble_eq_true rfl)) (n2 (Nat.le_of_ble_eq_true rfl)))
end
end Wm
namespace Wm
open PySem L2 PySem.W
/-- an object made where what a refusal is to bring hangs on the slots -/
def tMakeS (C : Addr) (sp : Sp) (E : St → XK) (t : TA) : TE := fun σ H Q => t σ H fun vs H1 => ∀ x dx, H1 x = none → H1 dx = none → dx ≠ x → sp (.ref x :: vs) (upd (upd H1 dx (.own x)) x (.ins C dx [])) (fun v H2 => v = .non ∧ Q (.ref x) H2) (E σ)
theorem pe_makeS {X : Cx} {CX : CXT} {k : Nat} {f C : Addr} {fd : FuncData} {ps : List Str} {sp : Sp} {E : St → XK} {x : Str} {p pos : Pos} {e : Expr} {es : List Expr} {t : TA}
    (M : Mk X.K C f) (F : FnOk X.prog X.w X.K X.mg X.base CX k f fd ps sp) (hr : Room (k + 1) X.A) (hg : Gl X x) (hm : X.mg x = some (.ref C)) (hb : L2.Binds X.K fd ps [])
    (hx : ∀ σ, PassesAt CX X σ (E σ)) (ha : PA X (e :: es) t)
    (hdb : (x == Str.ofString "__debug__") = false := by rfl) (he : starEach (e :: es) X.env = (false, eval e X.env) :: starEach es X.env := by rfl)
    (hpl : ((backTo pos (starEach es X.env)).any fun x => x.1) = false := by rfl) :
    PE X (.Call (.Name x p) (e :: es) [] pos) (tMakeS C sp E t) where
  run := by
    intro pins s0 σ H0 Q I0 h0
    refine wpAny_Call_Name_kw (ld_glob I0 hg hm (callWith_K I0.ok.mod.kin M.kp (thn (ha.run pos pins s0 σ H0 _ I0 h0) ?_) he hpl) hdb)
    rintro us s ⟨vs, H, I, r, h⟩
    refine ⟨I.kIn, ?_⟩
    have hq := h (s.heap.objs.size + 1) s.heap.objs.size (HOk.fresh I.hok (Nat.le_succ _)) (HOk.fresh I.hok (Nat.le_refl _)) (Nat.ne_of_lt (Nat.lt_succ_self _))
    have I2 := Inv.made (C := C) I
    have r2 : Vals (V.ref (s.heap.objs.size + 1) :: vs) (Value.ref (s.heap.objs.size + 1) :: us) := Paired.cons rfl r
    have hl : ((Value.ref (s.heap.objs.size + 1) :: us) ++ []).length = ps.length := by
      rw [List.append_nil, ← r2.length]
      exact F.len _ _ _ _ hq
    have bd := hb ⟨(s.heap.push emptyDict).push (instObj C s.heap.objs.size), s.gens, s.drawn, s.toks, s.os⟩ _ I2.kIn hl
    rw [List.append_nil] at bd
    refine wpAny_call (make_map I.kIn M.makes M.init (beq_iff_eq.mp M.fn) (codeAny_mono (F.run _ X.stack _ _ _ _ _ _ (E σ) (Room.make hr C us []) (Env0.make I2.env0 C us []) bd r2 hq) fun r s' hq' => ?_))
    cases r with
    | error e => exact hx σ pins _ _ e s' I2 hq'
    | ok fl =>
      cases fl with
      | next => exact hq'.elim
      | brk => exact hq'.elim
      | cont => exact hq'.elim
      | ret u =>
        obtain ⟨v, H', I3, rv, rfl, q3⟩ := I2.after (Q := fun v H2 => v = .non ∧ Q (.ref (s.heap.objs.size + 1)) H2) hq'
        exact ⟨rv, .ref (s.heap.objs.size + 1), H', I3, rfl, q3⟩
end Wm
namespace Wm
open PySem L2 StX
abbrev sTld : Stmt := top 44
def rIsG (K : PySem.W.Frag) (cls : Value) (d : Option Addr) (a : Addr) : List V → Hp → VK → Prop := fun xs H Q => ∃ (D dd : Addr), cls = .ref D ∧ d = some dd ∧ ExcC K D ∧ rIsX K D a dd xs H Q
theorem call_isG {X : Cx} {a : Addr} {cls : Value} {d : Option Addr} {oe : Obj} {pn : List (Addr × Obj)} (hz : Zc cls d oe) (hf : ∃ vs, oe.data = .fields vs) : CallR (X.suite a ((a, oe) :: pn)) (.builtin "isinstance") (rIsG X.K cls d a) := by
  intro pins s σ H xs us Q I r h
  obtain ⟨D, dd, rfl, rfl, C, h⟩ := h
  exact call_isX C hz hf pins s σ H xs us Q I r h
/-- what is known of the errors -/
structure TxE (K : PySem.W.Frag) (mg : Str → Option Value) (C W Tw : Addr) : Prop where
  gC : mg "NoName" = some (.ref C)
  gW : mg "WhoError" = some (.ref W)
  gT : mg "Twice" = some (.ref Tw)
  teC : PySem.W.exmOne K (.ref C) (.ref W) = some true
  teT : PySem.W.exmOne K (.ref Tw) (.ref W) = some true
  xfC : XfC K C
  xfT : XfC K Tw
  nfC : PySem.W.findIn K (.ref C) "name" = some none
  nfT : PySem.W.findIn K (.ref Tw) "name" = some none
  xcC : ExcC K C
  xcT : ExcC K Tw
  cc : PySem.W.kitOne K (.ref C) (.ref C) = some true
  ct : PySem.W.kitOne K (.ref C) (.ref Tw) = some false
  tt : PySem.W.kitOne K (.ref Tw) (.ref Tw) = some true
  tc : PySem.W.kitOne K (.ref Tw) (.ref C) = some false
def spTld (C Tw : Addr) : Addr → Value → Option Addr → Sp := fun a cls d vs H Q _ => vs = [.ref a] ∧ ∃ (dd : Addr) (z : Str), d = some dd ∧
  ((cls = .ref C ∧ H dd = some (.xd (ef1 "name" "noname" (.str z))) ∧ ∀ t H', Same H H' → H' t = some (.tup [.str "noname", .str z]) → Q (.ref t) H') ∨
   (cls = .ref Tw ∧ H dd = some (.xd (ef1 "name" "twice" (.str z))) ∧ ∀ t H', Same H H' → H' t = some (.tup [.str "twice", .str z]) → Q (.ref t) H'))
section
variable {P : Program} {w : World} {K : PySem.W.Frag} {mg : Str → Option Value} {base : Heap}
theorem scTld : FnScope ["_law_e"] ["_law_e"] (defScope sTld) := ⟨rfl, rfl, rfl, by decide +kernel, rfl, by decide +kernel, by decide +kernel⟩
theorem ok_tld {f C W Tw : Addr} {fd : FuncData} (F : Fun K "_law_told" "_law_told" sTld f fd) (T : TxB mg) (TE : TxE K mg C W Tw) : FnE P w K mg base 1 f fd ["_law_e"] (spTld C Tw) := by
  refine FunE_ok F scTld (fun a cls d vs H Q E h => ?_) (fun cdv A outer s H vs Q E a oe cls d hz hf hr h => ?_)
  · obtain ⟨rfl, _⟩ := h
    rfl
  · obtain ⟨rfl, dd, z, rfl, h⟩ := h
    refine ⟨_, (pss_cons (ps_if (PW.pt (pw_and (pt_val (pe_callB (call_isG hz hf) (by rfl) T.isinstance (by decide +kernel) (pa_cons (pv 0) (pa_cons (pe_glob (v := .ref C) (by rfl) TE.gC rfl) pa_nil)))) (pw_and1 (pt_not (pt_val (pe_callB (call_isG hz hf) (by rfl) T.isinstance (by decide +kernel) (pa_cons (pv 0) (pa_cons (pe_glob (v := .ref Tw) (by rfl) TE.gT rfl) pa_nil))))))))
        (pss_one (ps_ret (pe_tup (pa_cons pe_str (pa_cons (pe_xf TE.xfC TE.nfC hz hf (pv 0)) pa_nil))))) pss_nil)
      (pss_cons (ps_if (PW.pt (pw_and (pt_val (pe_callB (call_isG hz hf) (by rfl) T.isinstance (by decide +kernel) (pa_cons (pv 0) (pa_cons (pe_glob (v := .ref Tw) (by rfl) TE.gT rfl) pa_nil)))) (pw_and1 (pt_not (pt_val (pe_callB (call_isG hz hf) (by rfl) T.isinstance (by decide +kernel) (pa_cons (pv 0) (pa_cons (pe_glob (v := .ref C) (by rfl) TE.gC rfl) pa_nil))))))))
        (pss_one (ps_ret (pe_tup (pa_cons pe_str (pa_cons (pe_xf TE.xfT TE.nfT hz hf (pv 0)) pa_nil))))) pss_nil)
      (pss_one (ps_ret (pe_tup (pa_cons pe_str pa_nil)))))), ?_⟩
    rcases h with ⟨rfl, hx, k⟩ | ⟨rfl, hx, k⟩
    · refine ⟨_, rfl, C, dd, rfl, rfl, TE.xcC, _, _, _, _, rfl, hx, (fun u r => r), TE.cc, _, rfl, ?_⟩
      refine iteT ?_
      refine ⟨_, rfl, C, dd, rfl, rfl, TE.xcC, _, _, _, _, rfl, hx, (fun u r => r), TE.ct, _, rfl, ?_⟩
      refine iteT ?_
      refine ⟨_, rfl, rfl, rfl, dd, _, _, rfl, hx, rfl, ?_⟩
      exact ⟨by show 2 ≤ sizeLine; decide, fun t nt => k t _ (Same.upd nt) upd_same⟩
    · refine ⟨_, rfl, Tw, dd, rfl, rfl, TE.xcT, _, _, _, _, rfl, hx, (fun u r => r), TE.tc, _, rfl, ?_⟩
      refine iteF ?_
      refine iteF ?_
      refine ⟨_, rfl, Tw, dd, rfl, rfl, TE.xcT, _, _, _, _, rfl, hx, (fun u r => r), TE.tt, _, rfl, ?_⟩
      refine iteT ?_
      refine ⟨_, rfl, Tw, dd, rfl, rfl, TE.xcT, _, _, _, _, rfl, hx, (fun u r => r), TE.tc, _, rfl, ?_⟩
      refine iteT ?_
      refine ⟨_, rfl, rfl, rfl, dd, _, _, rfl, hx, rfl, ?_⟩
      exact ⟨by show 2 ≤ sizeLine; decide, fun t nt => k t _ (Same.upd nt) upd_same⟩
end
end Wm
namespace Wm
open PySem L2 StX
abbrev sFnd : Stmt := top 45
def spFnd (K : PySem.W.Frag) : Sp := fun vs H Q _ => ∃ (d l1 l2 : Addr) (mk md : Str) (ds us : List Str), vs = [.ref d] ∧ PartsAt H d l1 l2 mk md ds us ∧ ∀ t D tag H', Same H H' → Dp K H' (.ref t) D → DueP mk md ds us D tag → Q (.ref t) H'
theorem same_make {H : Hp} {x dx : Addr} {o1 o2 : HO} (nx : H x = none) (nd : H dx = none) : Same H (upd (upd H dx o1) x o2) := fun b o e => by
  rw [upd_ne (ne_of_none e nx), upd_ne (ne_of_none e nd)]
  exact e
theorem eqv_self {d : PyData} (h : SeqAt.shaped d = true) : PyData.eqv d d = true := SeqAt.eqv_refl d (SeqAt.canLay_of_shaped h)
theorem same_two {H H1 : Hp} {a b : Addr} {o1 o2 : HO} (h : Same H H1) (na : H a = none) (nb : H b = none) : Same H (upd (upd H1 a o1) b o2) := fun c o e => by
  rw [upd_ne (ne_of_none e nb), upd_ne (ne_of_none e na)]
  exact h c o e
section
variable {P : Program} {w : World} {K : PySem.W.Frag} {mg : Str → Option Value} {base : Heap}
theorem scFnd : FnScope ["_law_parts_here", "_law_down", "_law_up", "_law_found_here", "_law_one", "_law_e"] ["_law_parts_here"] (defScope sFnd) := ⟨rfl, rfl, rfl, by decide +kernel, rfl, by decide +kernel, by decide +kernel⟩
theorem ok_fnd {f fT fM C W Tw M : Addr} {fd dT dM : FuncData} (F : Fun K "_law_found" "_law_found" sFnd f fd) (T : TxB mg) (tl : mg "list" = none) (TE : TxE K mg C W Tw) (DT : Dn K mg "_law_told" sTld ["_law_e"] fT dT) (TM : TxMak K mg M fM) (bM : Binds K dM ["self", "maker", "made", "down", "up"] [])
    (GM : FnOk P w K mg base (L2.CX P w) 5 fM dM ["self", "maker", "made", "down", "up"] (spMak K C Tw M)) : FnOk P w K mg base CX0 7 f fd ["_law_parts_here"] (spFnd K) := by
  have GT : FnE P w K mg base 1 fT dT ["_law_e"] (spTld C Tw) := ok_tld DT.F T TE
  refine F.ok scFnd (fun vs H Q E h => ?_) (fun cdv A outer s H vs Q E hr h => ?_)
  · obtain ⟨d, l1, l2, mk, md, ds, us, rfl, _⟩ := h
    rfl
  · obtain ⟨d, l1, l2, mk, md, ds, us, rfl, hp, k⟩ := h
    refine ⟨_, (pss_cons (ps_set (i := 1) scFnd.nd rfl (Or.inl rfl) (pe_callTy call_list_of (by rfl) tl (by decide +kernel) (pa_cons (pe_ix ix_list (pv 0) pe_int (fun _ _ => rfl)) pa_nil)))
      (pss_cons (ps_set (i := 2) scFnd.nd rfl (Or.inl rfl) (pe_callTy call_list_of (by rfl) tl (by decide +kernel) (pa_cons (pe_ix ix_list (pv 0) pe_int (fun _ _ => rfl)) pa_nil)))
      (pss_cons (ps_set (i := 3) scFnd.nd rfl (Or.inl rfl) pe_non)
      (pss_cons (ps_set (i := 4) scFnd.nd rfl (Or.inl rfl) pe_non)
      (pss_cons (ps_try_as (i := 5) (tb := fun W_ => tAsg (tMakeS M (spMak K C Tw M) (WE W_) (tCons (tOp (rIxL K) (tVar 0) (tC (.int 0))) (tCons (tOp (rIxL K) (tVar 0) (tC (.int 1))) (tCons (tVar 1) (tCons (tVar 2) tNil))))) (gName 4)) (ts := fun a cls d => tAsg (tCallE (spTld C Tw a cls d) (tCons (tVar 5) tNil)) (gName 3)) (Wout := fun _ _ _ _ => False) rfl rfl scFnd.nd rfl rfl ⟨rfl, by decide, Or.inl TE.gW⟩ takes0 (fun W_ pn xe tk _ => (pss_one (ps_set (i := 4) scFnd.nd rfl (Or.inl rfl) (by exact (pe_makeS TM.m GM hr rfl TM.g bM (fun σ => passAt tk σ) (by exact (pa_cons (pe_ix ix_list (pv 0) pe_int (fun _ _ => rfl)) (pa_cons (pe_ix ix_list (pv 0) pe_int (fun _ _ => rfl)) (pa_cons (pv 1) (pa_cons (pv 2) pa_nil)))))))))) (fun a oe cls d pn hz hf => (pss_one (ps_set (i := 3) scFnd.nd rfl (Or.inl rfl) (by exact (pe_callE GT (L2H.roomH_of (hr.mono (by decide))) hz hf rfl DT.g DT.F.kp DT.b (by exact (pa_cons (pv 5) pa_nil))))))))
      (pss_cons (ps_if (PW.pt (pw_or (pt_cmpR (op_neD hr.units) (pv 1) (pe_ix ix_list (pv 0) pe_int (fun _ _ => rfl)) (nomark _)) (pw_or1 (pt_cmpR (op_neD hr.units) (pv 2) (pe_ix ix_list (pv 0) pe_int (fun _ _ => rfl)) (nomark _))))) (pss_one (ps_ret pe_non)) pss_nil)
      (pss_cons (ps_expr (pe_bm PySem.F.plainAttrs_list PySem.F.slot_list_append PySem.F.type_list_append mt_append (pv 1) (pa_cons pe_str pa_nil)))
      (pss_cons (ps_expr (pe_bm PySem.F.plainAttrs_list PySem.F.slot_list_insert PySem.F.type_list_insert mt_insert (pv 2) (pa_cons pe_int (pa_cons pe_str pa_nil))))
      (pss_cons (ps_if (pt_cmp (pc_notN (pv 4))) (pss_one (ps_set (i := 3) scFnd.nd rfl (Or.inl rfl) (pe_tup (pa_cons pe_str (pa_cons (pe_fld (pv 4) rfl) (pa_cons (pe_fld (pv 4) rfl) (pa_cons (pe_fld (pv 4) rfl) (pa_cons (pe_fld (pv 4) rfl) pa_nil)))))))) pss_nil)
      (pss_one (ps_ret (pv 3)))))))))))), ?_⟩
    have nn1 := hp.n1
    have nn2 := hp.n2
    have sh1 : SeqAt.shaped (.list (pdS ds)) = true := shaped_lst fun z hz => (hp.w z (by simp [hz])).1
    have sh2 : SeqAt.shaped (.list (pdS us)) = true := shaped_lst fun z hz => (hp.w z (by simp [hz])).1
    refine ⟨_, rfl, rdListC hp.hd (j := 2) rfl rfl ⟨l1, _, rfl, .inl (SqL.of hp.h1), fun e1 m1 => ?_⟩⟩
    have R1 := Same.upd (o := .lst (ds.map V.str)) m1
    have P1 := hp.same R1
    refine ⟨_, rfl, rdListC P1.hd (j := 3) rfl rfl ⟨l2, _, rfl, .inl (SqL.of P1.h2), fun e2 m2 => ?_⟩⟩
    have R2 := R1.trans (Same.upd (o := .lst (us.map V.str)) m2)
    have P2 := hp.same R2
    have ne12 : e1 ≠ e2 := ne_of_none (upd_same (H := H) (a := e1) (o := .lst (ds.map V.str))) m2
    have f1 : H e1 = none := m1
    have f2 : H e2 = none := R1.free m2
    have E1a : (upd (upd H e1 (.lst (ds.map V.str))) e2 (.lst (us.map V.str))) e1 = some (.lst (ds.map V.str)) := by rw [upd_ne ne12, upd_same]
    have E2a : (upd (upd H e1 (.lst (ds.map V.str))) e2 (.lst (us.map V.str))) e2 = some (.lst (us.map V.str)) := upd_same
    generalize upd (upd H e1 (.lst (ds.map V.str))) e2 (.lst (us.map V.str)) = H2 at R2 P2 E1a E2a
    refine ⟨_, rfl, rdListC P2.hd (j := 0) rfl rfl ⟨_, rfl, rdListC P2.hd (j := 1) rfl rfl ⟨_, rfl, _, rfl, ?_⟩⟩⟩
    intro x dx nx ndx nex
    refine ⟨H2, x, dx, e1, e2, mk, md, ds, us, rfl, same_make nx ndx, nx, upd_same, SqL.of E1a, SqL.of E2a, by omega, by omega, fun z hz => Nat.le_trans (hp.w z hz).2 (by decide), ?_⟩
    refine ⟨?_, ?_, ?_, ?_⟩
    · intro z e dd H' h0 hS hx
      refine ⟨true, TE.teC, fun _ a0 na0 => ?_, fun q => Bool.noConfusion q⟩
      refine ⟨_, rfl, rfl, dd, z, rfl, .inl ⟨rfl, hx, fun t Hz hS2 ht => ?_⟩⟩
      dsimp only [List.set_cons_succ, List.set_cons_zero]
      have SS : Same H Hz := R2.trans (hS.trans hS2)
      have PP := hp.same SS
      have E1 := (hS.trans hS2) _ _ E1a
      have E2 := (hS.trans hS2) _ _ E2a
      refine ⟨_, rfl, _, rfl, rdListC PP.hd (j := 2) rfl rfl ⟨_, _, .lst (SqL.of E1) (dpAll_pdS ds), .lst (SqL.of PP.h1) (dpAll_pdS ds), sh1, sh1, _, rfl, ?_⟩⟩
      rw [eqv_self sh1]
      refine iteF ?_
      refine ⟨_, rfl, _, rfl, rdListC PP.hd (j := 3) rfl rfl ⟨_, _, .lst (SqL.of E2) (dpAll_pdS us), .lst (SqL.of PP.h2) (dpAll_pdS us), sh2, sh2, _, rfl, ?_⟩⟩
      rw [eqv_self sh2]
      refine iteF ?_
      refine ⟨_, rfl, .inl ⟨rfl, _, SqL.of E1⟩, e1, _, _, rfl, rfl, E1, ?_, ?_⟩
      · rw [List.length_map]
        exact Nat.lt_of_le_of_lt (show _ ≤ 1000 by omega) (by decide)
      have E2' : (upd Hz e1 (.lst (ds.map V.str ++ [.str "later"]))) e2 = some (.lst (us.map V.str)) := by rw [upd_ne ne12.symm]; exact E2
      refine ⟨_, rfl, .inl ⟨rfl, _, SqL.of E2'⟩, e2, _, _, _, rfl, rfl, E2', ?_, by decide, by decide, ?_⟩
      · rw [List.length_map]
        exact Nat.lt_of_le_of_lt (show _ ≤ 1000 by omega) (by decide)
      refine ⟨_, rfl, _, rfl, ?_⟩
      refine iteF ?_
      refine ⟨_, rfl, k t _ _ _ (same_two SS f1 f2) (.tup (SqT.of ?_) (.cons (.str _) (.cons (.str _) .nil))) (.nn e)⟩
      rw [upd_ne (ne_of ht E2 (by intro z; cases z)), upd_ne (ne_of ht E1 (by intro z; cases z))]
      exact ht
    · intro fn i z tw dd H' h0 hS hx
      refine ⟨true, TE.teT, fun _ a0 na0 => ?_, fun q => Bool.noConfusion q⟩
      refine ⟨_, rfl, rfl, dd, z, rfl, .inr ⟨rfl, hx, fun t Hz hS2 ht => ?_⟩⟩
      dsimp only [List.set_cons_succ, List.set_cons_zero]
      have SS : Same H Hz := R2.trans (hS.trans hS2)
      have PP := hp.same SS
      have E1 := (hS.trans hS2) _ _ E1a
      have E2 := (hS.trans hS2) _ _ E2a
      refine ⟨_, rfl, _, rfl, rdListC PP.hd (j := 2) rfl rfl ⟨_, _, .lst (SqL.of E1) (dpAll_pdS ds), .lst (SqL.of PP.h1) (dpAll_pdS ds), sh1, sh1, _, rfl, ?_⟩⟩
      rw [eqv_self sh1]
      refine iteF ?_
      refine ⟨_, rfl, _, rfl, rdListC PP.hd (j := 3) rfl rfl ⟨_, _, .lst (SqL.of E2) (dpAll_pdS us), .lst (SqL.of PP.h2) (dpAll_pdS us), sh2, sh2, _, rfl, ?_⟩⟩
      rw [eqv_self sh2]
      refine iteF ?_
      refine ⟨_, rfl, .inl ⟨rfl, _, SqL.of E1⟩, e1, _, _, rfl, rfl, E1, ?_, ?_⟩
      · rw [List.length_map]
        exact Nat.lt_of_le_of_lt (show _ ≤ 1000 by omega) (by decide)
      have E2' : (upd Hz e1 (.lst (ds.map V.str ++ [.str "later"]))) e2 = some (.lst (us.map V.str)) := by rw [upd_ne ne12.symm]; exact E2
      refine ⟨_, rfl, .inl ⟨rfl, _, SqL.of E2'⟩, e2, _, _, _, rfl, rfl, E2', ?_, by decide, by decide, ?_⟩
      · rw [List.length_map]
        exact Nat.lt_of_le_of_lt (show _ ≤ 1000 by omega) (by decide)
      refine ⟨_, rfl, _, rfl, ?_⟩
      refine iteF ?_
      refine ⟨_, rfl, k t _ _ _ (same_two SS f1 f2) (.tup (SqT.of ?_) (.cons (.str _) (.cons (.str _) .nil))) (.td fn tw)⟩
      rw [upd_ne (ne_of ht E2 (by intro z; cases z)), upd_ne (ne_of ht E1 (by intro z; cases z))]
      exact ht
    · intro fn n1 i z tw dd H' h0 hS hx
      refine ⟨true, TE.teT, fun _ a0 na0 => ?_, fun q => Bool.noConfusion q⟩
      refine ⟨_, rfl, rfl, dd, z, rfl, .inr ⟨rfl, hx, fun t Hz hS2 ht => ?_⟩⟩
      dsimp only [List.set_cons_succ, List.set_cons_zero]
      have SS : Same H Hz := R2.trans (hS.trans hS2)
      have PP := hp.same SS
      have E1 := (hS.trans hS2) _ _ E1a
      have E2 := (hS.trans hS2) _ _ E2a
      refine ⟨_, rfl, _, rfl, rdListC PP.hd (j := 2) rfl rfl ⟨_, _, .lst (SqL.of E1) (dpAll_pdS ds), .lst (SqL.of PP.h1) (dpAll_pdS ds), sh1, sh1, _, rfl, ?_⟩⟩
      rw [eqv_self sh1]
      refine iteF ?_
      refine ⟨_, rfl, _, rfl, rdListC PP.hd (j := 3) rfl rfl ⟨_, _, .lst (SqL.of E2) (dpAll_pdS us), .lst (SqL.of PP.h2) (dpAll_pdS us), sh2, sh2, _, rfl, ?_⟩⟩
      rw [eqv_self sh2]
      refine iteF ?_
      refine ⟨_, rfl, .inl ⟨rfl, _, SqL.of E1⟩, e1, _, _, rfl, rfl, E1, ?_, ?_⟩
      · rw [List.length_map]
        exact Nat.lt_of_le_of_lt (show _ ≤ 1000 by omega) (by decide)
      have E2' : (upd Hz e1 (.lst (ds.map V.str ++ [.str "later"]))) e2 = some (.lst (us.map V.str)) := by rw [upd_ne ne12.symm]; exact E2
      refine ⟨_, rfl, .inl ⟨rfl, _, SqL.of E2'⟩, e2, _, _, _, rfl, rfl, E2', ?_, by decide, by decide, ?_⟩
      · rw [List.length_map]
        exact Nat.lt_of_le_of_lt (show _ ≤ 1000 by omega) (by decide)
      refine ⟨_, rfl, _, rfl, ?_⟩
      refine iteF ?_
      refine ⟨_, rfl, k t _ _ _ (same_two SS f1 f2) (.tup (SqT.of ?_) (.cons (.str _) (.cons (.str _) .nil))) (.tu fn n1 tw)⟩
      rw [upd_ne (ne_of ht E2 (by intro z; cases z)), upd_ne (ne_of ht E1 (by intro z; cases z))]
      exact ht
    · intro fn n1 n2 Hz hS t1 t2 hx h1 h2
      refine ⟨rfl, ?_⟩
      dsimp only [List.set_cons_succ, List.set_cons_zero]
      have SS : Same H Hz := R2.trans hS
      have PP := hp.same SS
      have E1 := hS _ _ E1a
      have E2 := hS _ _ E2a
      refine ⟨_, rfl, _, rfl, rdListC PP.hd (j := 2) rfl rfl ⟨_, _, .lst (SqL.of E1) (dpAll_pdS ds), .lst (SqL.of PP.h1) (dpAll_pdS ds), sh1, sh1, _, rfl, ?_⟩⟩
      rw [eqv_self sh1]
      refine iteF ?_
      refine ⟨_, rfl, _, rfl, rdListC PP.hd (j := 3) rfl rfl ⟨_, _, .lst (SqL.of E2) (dpAll_pdS us), .lst (SqL.of PP.h2) (dpAll_pdS us), sh2, sh2, _, rfl, ?_⟩⟩
      rw [eqv_self sh2]
      refine iteF ?_
      refine ⟨_, rfl, .inl ⟨rfl, _, SqL.of E1⟩, e1, _, _, rfl, rfl, E1, ?_, ?_⟩
      · rw [List.length_map]
        exact Nat.lt_of_le_of_lt (show _ ≤ 1000 by omega) (by decide)
      have E2' : (upd Hz e1 (.lst (ds.map V.str ++ [.str "later"]))) e2 = some (.lst (us.map V.str)) := by rw [upd_ne ne12.symm]; exact E2
      refine ⟨_, rfl, .inl ⟨rfl, _, SqL.of E2'⟩, e2, _, _, _, rfl, rfl, E2', ?_, by decide, by decide, ?_⟩
      · rw [List.length_map]
        exact Nat.lt_of_le_of_lt (show _ ≤ 1000 by omega) (by decide)
      generalize hHy : upd (upd Hz e1 _) e2 _ = Hy
      have SY : Same H Hy := by rw [← hHy]; exact same_two SS f1 f2
      have hxy : Hy x = some (.ins M dx (makF mk md t1 t2)) := by rw [← hHy, upd_ne (ne_of hx E2 (by intro z; cases z)), upd_ne (ne_of hx E1 (by intro z; cases z))]; exact hx
      have h1y : Hy t1 = some (.tup (ds.map V.str)) := by rw [← hHy, upd_ne (ne_of h1 E2 (by intro z; cases z)), upd_ne (ne_of h1 E1 (by intro z; cases z))]; exact h1
      have h2y : Hy t2 = some (.tup (us.map V.str)) := by rw [← hHy, upd_ne (ne_of h2 E2 (by intro z; cases z)), upd_ne (ne_of h2 E1 (by intro z; cases z))]; exact h2
      refine ⟨_, rfl, _, rfl, ?_⟩
      refine iteT ?_
      refine ⟨_, rfl, x, M, dx, _, _, rfl, hxy, TM.cl, TM.nk, makF_maker _ _ _ _, _, rfl, x, M, dx, _, _, rfl, hxy, TM.cl, TM.nd, makF_made _ _ _ _, _, rfl, x, M, dx, _, _, rfl, hxy, TM.cl, TM.nw, makF_down _ _ _ _, _, rfl, x, M, dx, _, _, rfl, hxy, TM.cl, TM.nu, makF_up _ _ _ _, by show 5 ≤ sizeLine; decide, fun t nt => ?_⟩
      have Rt := Same.upd (o := .tup [.str "made", .str mk, .str md, .ref t1, .ref t2]) nt
      exact ⟨_, rfl, k t _ _ _ (SY.trans Rt) (.tup (SqT.of upd_same) (.cons (.str _) (.cons (.str _) (.cons (.str _) (.cons (.tup (SqT.of (Rt _ _ h1y)) (dpAll_pdS ds)) (.cons (.tup (SqT.of (Rt _ _ h2y)) (dpAll_pdS us)) .nil)))))) (.ok fn n1 n2)⟩
end
end Wm
namespace Wm
open PySem L2 StX
abbrev sLaw : Stmt := top 46
def spLaw (K : PySem.W.Frag) : Sp := fun vs H Q _ => ∃ (a : Addr) (ns : List Int), vs = [.ref a] ∧ SqL K H a (ns.map V.int) ∧ ns.length ≤ 63 ∧ ∀ H', Q (.bl true) H'
mutual
theorem dp_same {K : PySem.W.Frag} {H H' : Hp} (e : Same H H') : ∀ {v : V} {d : PyData}, Dp K H v d → Dp K H' v d
  | _, _, .non => .non
  | _, _, .bl b => .bl b
  | _, _, .int i => .int i
  | _, _, .str z => .str z
  | _, _, .lst h r => .lst (e.seq h) (dpAll_same e r)
  | _, _, .tup h r => .tup (same_seqT e h) (dpAll_same e r)
theorem dpAll_same {K : PySem.W.Frag} {H H' : Hp} (e : Same H H') : ∀ {vs : List V} {ds : List PyData}, DpAll K H vs ds → DpAll K H' vs ds
  | _, _, .nil => .nil
  | _, _, .cons h r => .cons (dp_same e h) (dpAll_same e r)
end
theorem rdTupC {K : PySem.W.Frag} {p : Addr} {xs : List V} {i : Int} {j : Nat} {v : V} {σ : St} {H : Hp} {Q : VK} (hp : H p = some (.tup xs)) (e : i = (j : Int)) (hv : xs[j]? = some v) (h : Q v H) : tC (.int i) σ H (fun y H2 => rIxT K (.ref p) y H2 Q) := rdTup (SqT.of hp) e hv h
theorem tw_no {zs : List Str} {i : Nat} {z : Str} (n : NoTwS zs) (t : TwAt zs i z) : False := n i z t.1 t.2.1
theorem tw_det {zs : List Str} {i j : Nat} {y z : Str} (a : TwAt zs i y) (b : TwAt zs j z) : y = z := by
  rcases Nat.lt_trichotomy i j with h | h | h
  · exact absurd a.2.1 (b.2.2 i y h a.1)
  · subst h
    exact Option.some.inj (a.1.symm.trans b.1)
  · exact absurd b.2.1 (a.2.2 j z h b.1)
theorem DueP.det {mk md : Str} {ds us : List Str} {D D' : PyData} {t t' : Str} (h : DueP mk md ds us D t) (h' : DueP mk md ds us D' t') : D = D' := by
  cases h with
  | nn e =>
    cases h' with
    | nn e' =>
      rw [e] at e'
      cases e'
      rfl
    | td e' _ => rw [e] at e'; cases e'
    | tu e' _ _ => rw [e] at e'; cases e'
    | ok e' _ _ => rw [e] at e'; cases e'
  | td e a =>
    cases h' with
    | nn e' => rw [e] at e'; cases e'
    | td _ b => rw [tw_det a b]
    | tu _ n _ => exact (tw_no n a).elim
    | ok _ n _ => exact (tw_no n a).elim
  | tu e n a =>
    cases h' with
    | nn e' => rw [e] at e'; cases e'
    | td _ b => exact (tw_no n b).elim
    | tu _ _ b => rw [tw_det a b]
    | ok _ _ m => exact (tw_no m a).elim
  | ok e n m =>
    cases h' with
    | nn e' => rw [e] at e'; cases e'
    | td _ b => exact (tw_no n b).elim
    | tu _ _ b => exact (tw_no m b).elim
    | ok _ _ _ => rfl
theorem DueP.made {mk md : Str} {ds us : List Str} {D : PyData} {t : Str} (h : DueP mk md ds us D t) (e : t = "made") : (mk :: md :: (ds ++ us)).find? (fun z => !isNm z) = none ∧ NoTwS ds ∧ NoTwS us := by
  cases h with
  | nn _ => exact absurd e (by decide +kernel)
  | td _ _ => exact absurd e (by decide +kernel)
  | tu _ _ _ => exact absurd e (by decide +kernel)
  | ok a b c => exact ⟨a, b, c⟩
theorem shaped_pair {k z : Str} (hk : PyData.strOk k = true) (h : okS z) : SeqAt.shaped (.tuple [.str k, .str z]) = true := by
  have hz := strOk_of h
  simp [SeqAt.shaped, PyData.canLay0, PyData.canLayAll0, PyData.depth, PyData.depthAll, hz, hk]
theorem DueP.shaped {mk md : Str} {ds us : List Str} {D : PyData} {t : Str} (h : DueP mk md ds us D t) (w : ∀ z ∈ mk :: md :: (ds ++ us), Wd z) : SeqAt.shaped D = true := by
  cases h with
  | nn e => exact shaped_pair (by decide +kernel) (w _ (List.mem_of_find?_eq_some e)).1
  | td _ a => exact shaped_pair (by decide +kernel) (w _ (by simp [List.mem_of_getElem? a.1])).1
  | tu _ _ a => exact shaped_pair (by decide +kernel) (w _ (by simp [List.mem_of_getElem? a.1])).1
  | ok _ _ _ =>
    have h1 := strOk_of (w mk (by simp)).1
    have h2 := strOk_of (w md (by simp)).1
    have h3 := lay_strs (zs := ds) fun z hz => (w z (by simp [hz])).1
    have h4 := lay_strs (zs := us) fun z hz => (w z (by simp [hz])).1
    have h5 : PyData.strOk "made" = true := by decide +kernel
    have d1 := depth_strs ds
    have d2 := depth_strs us
    simp [madeP, SeqAt.shaped, PyData.canLay0, PyData.canLayAll0, PyData.depth, PyData.depthAll, h1, h2, h3, h4, h5]
    omega
def partsP (mk md : Str) (ds us : List Str) : PyData := .list [.str mk, .str md, .list (pdS ds), .list (pdS us)]
theorem PartsAt.dp {K : PySem.W.Frag} {H : Hp} {d l1 l2 : Addr} {mk md : Str} {ds us : List Str} (h : PartsAt H d l1 l2 mk md ds us) : Dp K H (.ref d) (partsP mk md ds us) := .lst (SqL.of h.hd) (.cons (.str _) (.cons (.str _) (.cons (.lst (SqL.of h.h1) (dpAll_pdS ds)) (.cons (.lst (SqL.of h.h2) (dpAll_pdS us)) .nil))))
theorem PartsAt.shaped {H : Hp} {d l1 l2 : Addr} {mk md : Str} {ds us : List Str} (h : PartsAt H d l1 l2 mk md ds us) : SeqAt.shaped (partsP mk md ds us) = true := by
  have w := h.w
  have h1 := strOk_of (w mk (by simp)).1
  have h2 := strOk_of (w md (by simp)).1
  have h3 := lay_strs (zs := ds) fun z hz => (w z (by simp [hz])).1
  have h4 := lay_strs (zs := us) fun z hz => (w z (by simp [hz])).1
  have d1 := depth_strs ds
  have d2 := depth_strs us
  simp [partsP, SeqAt.shaped, PyData.canLay0, PyData.canLayAll0, PyData.depth, PyData.depthAll, h1, h2, h3, h4]
  omega
theorem eqv_parts (mk md : Str) (ds us : List Str) (mk' md' : Str) (ds' us' : List Str) : PyData.eqv (partsP mk md ds us) (partsP mk' md' ds' us') = sameM mk md ds us mk' md' ds' us' := by
  unfold partsP sameM eqS
  simp only [PyData.eqv, PyData.eqvAll, Bool.and_true]
  rfl
theorem eqS_symm : ∀ xs ys : List Str, eqS xs ys = eqS ys xs
  | [], [] => rfl
  | [], _ :: _ => by simp only [eqS, pdS, List.map_nil, List.map_cons, PyData.eqvAll]
  | _ :: _, [] => by simp only [eqS, pdS, List.map_nil, List.map_cons, PyData.eqvAll]
  | x :: xs, y :: ys => by
    have ih := eqS_symm xs ys
    unfold eqS pdS at ih
    simp only [eqS, pdS, List.map_cons, PyData.eqvAll, PyData.eqv, ih]
    rw [Bool.beq_comm]
theorem sameM_symm (mk md : Str) (ds us : List Str) (mk' md' : Str) (ds' us' : List Str) : sameM mk md ds us mk' md' ds' us' = sameM mk' md' ds' us' mk md ds us := by
  unfold sameM
  rw [eqS_symm ds, eqS_symm us, decide_eq_decide.mpr (⟨Eq.symm, Eq.symm⟩ : mk = mk' ↔ mk' = mk), decide_eq_decide.mpr (⟨Eq.symm, Eq.symm⟩ : md = md' ↔ md' = md)]
theorem eqS_self : ∀ xs : List Str, eqS xs xs = true
  | [] => by simp only [eqS, pdS, List.map_nil, PyData.eqvAll]
  | x :: xs => by
    have ih := eqS_self xs
    unfold eqS pdS at ih
    simp only [eqS, pdS, List.map_cons, PyData.eqvAll, PyData.eqv, ih, BEq.rfl, Bool.and_self]
theorem sameM_self (mk md : Str) (ds us : List Str) : sameM mk md ds us mk md ds us = true := by
  unfold sameM
  rw [eqS_self, eqS_self, decide_eq_true rfl, decide_eq_true rfl]
  rfl
theorem dueM_all {C : Addr} {zs : List Str} {H0 : Hp} {ok : Hp → Prop} {E : XK} (h : ∀ z ∈ zs, isNm z = true) (k : ∀ H', Same H0 H' → ok H') : DueM C zs H0 ok E := by
  unfold DueM
  have e : zs.find? (fun z => !isNm z) = none := by
    rw [List.find?_eq_none]
    intro z hz
    rw [h z hz]
    decide
  rw [e]
  exact k
theorem patA : PatOk [(("a" : Str), none)] [(("a" : Str), ("own" : Str), ("a" : Str))] [(("a" : Str), ("own" : Str), ("a" : Str))] ["a"] := by
  refine ⟨by decide, by decide, by decide, by decide, by decide, by decide, ?_, ?_, ?_, ?_⟩
  · intro i x e
    match i, e with
    | 0, e => rfl
    | i + 1, e => cases e
  · decide +kernel
  · decide +kernel
  · intro i t h e
    match i, h, e with
    | 0, h, _ => exact absurd h (Nat.lt_irrefl 0)
    | i + 1, _, e => cases e
theorem made_due {C CT : Addr} {zs ds us : List Str} {H0 : Hp} {ok : Hp → Prop} {E : XK} (h : zs.find? (fun z => !isNm z) = none ∧ NoTwS ds ∧ NoTwS us) (k : ∀ H', Same H0 H' → ok H') : DueK C CT zs ds us H0 ok E :=
  ⟨fun z e => (by rw [h.1] at e; cases e), fun _ i z t => (tw_no h.2.1 t).elim, fun _ _ i z t => (tw_no h.2.2 t).elim, fun _ _ _ => k⟩
theorem textA : ∀ z ∈ (["a", "own", "own"] : List Str), z.length ≤ 1000 ∧ isNm z = true := by decide +kernel
end Wm
namespace Wm
open PySem L2 StX
theorem PartsAt.upd {H : Hp} {o d l1 l2 : Addr} {v : HO} {mk md : Str} {ds us : List Str} (h : PartsAt H d l1 l2 mk md ds us) (n0 : d ≠ o) (n1 : l1 ≠ o) (n2 : l2 ≠ o) : PartsAt (L2.upd H o v) d l1 l2 mk md ds us :=
  ⟨by rw [upd_ne n0]; exact h.hd, by rw [upd_ne n1]; exact h.h1, by rw [upd_ne n2]; exact h.h2, h.ne, h.w, h.n1, h.n2⟩
theorem same_upd {H H1 : Hp} {o : Addr} {v : HO} (h : Same H H1) (n : H o = none) : Same H (L2.upd H1 o v) := fun b u e => by
  rw [upd_ne (ne_of_none e n)]
  exact h b u e
section
variable {P : Program} {w : World} {K : PySem.W.Frag} {mg : Str → Option Value} {base : Heap}
theorem scLaw : FnScope ["_law_script", "_law_cell", "_law_s", "_law_way", "_law_parts_here", "_law_due_here", "_law_others", "_law_one", "_law_other", "_law_rule"] ["_law_script"] (defScope sLaw) := ⟨rfl, rfl, rfl, by decide +kernel, rfl, by decide +kernel, by decide +kernel⟩
theorem ok_law {f fS fG fP fD fF fM fR fME fRE C Tw M Rl : Addr} {fd dS dG dP dD dF dM dR dME dRE : FuncData} (F : Fun K "law" "law" sLaw f fd) (T : TxB mg) (tl : mg "list" = none) (DS : Dn K mg "_law_state" sState ["_law_cell"] fS dS) (DG : Dn K mg "_law_digit" sDigit ["_law_state_here", "_law_base"] fG dG)
    (DP : Dn K mg "_law_parts" sPts ["_law_s"] fP dP) (DD : Dn K mg "_law_due" sDue ["_law_parts_here"] fD dD) (DF : Dn K mg "_law_found" sFnd ["_law_parts_here"] fF dF)
    (GP : FnOk P w K mg base CX0 3 fP dP ["_law_s"] spPts) (GD : FnOk P w K mg base CX0 2 fD dD ["_law_parts_here"] (spDue K)) (GF : FnOk P w K mg base CX0 7 fF dF ["_law_parts_here"] (spFnd K))
    (TM : TxMak K mg M fM) (bM : Binds K dM ["self", "maker", "made", "down", "up"] []) (GM : FnOk P w K mg base (L2.CX P w) 5 fM dM ["self", "maker", "made", "down", "up"] (spMak K C Tw M))
    (TR : TxRul K mg Rl fR) (bR : Binds K dR ["self", "name", "variables", "conditions", "gives", "by"] []) (GR : FnOk P w K mg base (L2.CX P w) 6 fR dR ["self", "name", "variables", "conditions", "gives", "by"] (spRul K C Rl))
    (QM : PySem.W.findIn K (.ref M) "__eq__" = some (some (.ref fME)) ∧ PySem.W.isFn K (.ref fME) = true) (bME : Binds K dME ["self", "other"] []) (GME : FnOk P w K mg base CX0 1 fME dME ["self", "other"] (spME K M))
    (QR : PySem.W.findIn K (.ref Rl) "__eq__" = some (some (.ref fRE)) ∧ PySem.W.isFn K (.ref fRE) = true) (bRE : Binds K dRE ["self", "other"] []) (GRE : FnOk P w K mg base CX0 1 fRE dRE ["self", "other"] (spRE K Rl))
    (QN : EqNe K M fME) (tyM : ∀ (H : Hp) (a dx : Addr) (fs : List (Str × V)), H a = some (.ins M dx fs) → TyX K H (.ref a) (.ref M)) (tyR : ∀ (H : Hp) (a dx : Addr) (fs : List (Str × V)), H a = some (.ins Rl dx fs) → TyX K H (.ref a) (.ref Rl))
    (kRM : PySem.W.kitOne K (.ref Rl) (.ref M) = some false) (kMR : PySem.W.kitOne K (.ref M) (.ref Rl) = some false) (nfMM : PySem.W.notFirst K M (.ref M) = true) (nfMR : PySem.W.notFirst K M (.ref Rl) = true) (nfRM : PySem.W.notFirst K Rl (.ref M) = true) :
    FnOk P w K mg base CX0 9 f fd ["_law_script"] (spLaw K) := by
  have GS : FnOk P w K mg base CX0 1 fS dS ["_law_cell"] spState := ok_state DS.F T
  have GG : FnOk P w K mg base CX0 1 fG dG ["_law_state_here", "_law_base"] spDigit := ok_digit DG.F
  refine F.ok scLaw (fun vs H Q E h => ?_) (fun cdv A outer s H vs Q E hr h => ?_)
  · obtain ⟨a, ns, rfl, _⟩ := h
    rfl
  · obtain ⟨a, ns, rfl, ha, hn, k⟩ := h
    have hr7 : Room 7 _ := hr.mono (by decide)
    have hr6 : Room 6 _ := hr.mono (by decide)
    have hr3 : Room 3 _ := hr.mono (by decide)
    have hr2 : Room 2 _ := hr.mono (by decide)
    have hr1 : Room 1 _ := hr.mono (by decide)
    refine ⟨_, (pss_cons (ps_for PassesOwn.never rfl (pi_list (pe_slice sl_list (pe_op op_catR (pv 0) (pe_lst (pa_cons pe_int pa_nil))) po_none (po_some pe_int))) (pg_name (i := 1) scLaw.nd rfl (Or.inl rfl)) (pss_cons (ps_set (i := 2) scLaw.nd rfl (Or.inl rfl) (pe_call GS hr1 rfl DS.g DS.F.kp DS.b .nil pass0 (pa_cons (pv 1) pa_nil)))
      (pss_cons (ps_set (i := 3) scLaw.nd rfl (Or.inl rfl) (pe_call GG hr1 rfl DG.g DG.F.kp DG.b .nil pass0 (pa_cons (pv 2) (pa_cons pe_int pa_nil))))
      (pss_cons (ps_set (i := 4) scLaw.nd rfl (Or.inl rfl) (pe_call GP hr3 rfl DP.g DP.F.kp DP.b .nil pass0 (pa_cons (pv 2) pa_nil)))
      (pss_cons (ps_set (i := 5) scLaw.nd rfl (Or.inl rfl) (pe_call GD hr2 rfl DD.g DD.F.kp DD.b .nil pass0 (pa_cons (pv 4) pa_nil)))
      (pss_cons (ps_if (pt_cmpR (op_neD hr.units) (pe_call GF hr7 rfl DF.g DF.F.kp DF.b .nil pass0 (pa_cons (pv 4) pa_nil)) (pv 5) (nomark _)) (pss_one (ps_ret pe_bl)) pss_nil)
      (pss_cons (ps_set (i := 6) scLaw.nd rfl (Or.inl rfl) (pe_lst (pa_cons (pe_ix ix_list (pv 4) pe_int (fun _ _ => rfl)) (pa_cons (pe_ix ix_list (pv 4) pe_int (fun _ _ => rfl)) (pa_cons (pe_callTy call_list_of (by rfl) tl (by decide +kernel) (pa_cons (pe_ix ix_list (pv 4) pe_int (fun _ _ => rfl)) pa_nil)) (pa_cons (pe_callTy call_list_of (by rfl) tl (by decide +kernel) (pa_cons (pe_ix ix_list (pv 4) pe_int (fun _ _ => rfl)) pa_nil)) pa_nil))))))
      (pss_cons (ps_if (pt_cmpR op_lt (pv 3) pe_int (nomark _)) (pss_one (ps_asg pe_str (pg_sub (pv 6) (pv 3) set_list))) pss_nil)
      (pss_cons (ps_if (PW.pt (pw_or (pt_cmpR op_eq (pv 3) pe_int (nomark _)) (pw_or1 (pt_cmpR op_eq (pv 3) pe_int (nomark _))))) (pss_one (ps_asg (pe_revL (pe_ix ix_list (pv 6) (pv 3) (fun _ _ => rfl))) (pg_sub (pv 6) (pv 3) set_list))) pss_nil)
      (pss_cons (ps_if (pt_cmpR op_eq (pv 3) pe_int (nomark _)) (pss_one (ps_set (i := 6) scLaw.nd rfl (Or.inl rfl) (pe_call GP hr3 rfl DP.g DP.F.kp DP.b .nil pass0 (pa_cons (pv 2) pa_nil)))) pss_nil)
      (pss_one (ps_if (PW.pt (pw_and (pt_cmpR op_eq (pe_ix ix_tup (pv 5) pe_int (fun _ _ => rfl)) pe_str (nomark _)) (pw_and1 (pt_cmpR op_eq (pe_ix ix_tup (pe_call GD hr2 rfl DD.g DD.F.kp DD.b .nil pass0 (pa_cons (pv 6) pa_nil)) pe_int (fun _ _ => rfl)) pe_str (nomark _))))) (pss_cons (ps_set (i := 7) scLaw.nd rfl (Or.inl rfl) (pe_make TM.m GM hr6 rfl TM.g bM .nil passL (pa_cons (pe_ix ix_list (pv 4) pe_int (fun _ _ => rfl)) (pa_cons (pe_ix ix_list (pv 4) pe_int (fun _ _ => rfl)) (pa_cons (pe_ix ix_list (pv 4) pe_int (fun _ _ => rfl)) (pa_cons (pe_ix ix_list (pv 4) pe_int (fun _ _ => rfl)) pa_nil))))))
      (pss_cons (ps_set (i := 8) scLaw.nd rfl (Or.inl rfl) (pe_make TM.m GM hr6 rfl TM.g bM .nil passL (pa_cons (pe_ix ix_list (pv 6) pe_int (fun _ _ => rfl)) (pa_cons (pe_ix ix_list (pv 6) pe_int (fun _ _ => rfl)) (pa_cons (pe_ix ix_list (pv 6) pe_int (fun _ _ => rfl)) (pa_cons (pe_ix ix_list (pv 6) pe_int (fun _ _ => rfl)) pa_nil))))))
      (pss_cons (ps_set (i := 9) scLaw.nd rfl (Or.inl rfl) (pe_make TR.m GR hr7 rfl TR.g bR .nil passL (pa_cons (pe_ix ix_list (pv 4) pe_int (fun _ _ => rfl)) (pa_cons (pe_lst (pa_cons (pe_tup (pa_cons pe_str (pa_cons pe_non pa_nil))) pa_nil)) (pa_cons (pe_lst (pa_cons (pe_tup (pa_cons pe_str (pa_cons pe_str (pa_cons pe_str pa_nil)))) pa_nil)) (pa_cons (pe_tup (pa_cons pe_str (pa_cons pe_str (pa_cons pe_str pa_nil)))) (pa_cons pe_str pa_nil)))))))
      (pss_cons (ps_if (PW.pt (pw_or (pt_cmpR op_ne (pe_cmpR (op_eqO QM.1 QM.2 GME hr1 bME) (pv 7) (pv 8) (nomark _)) (pe_cmpR (op_eqD hr.units) (pv 4) (pv 6) (nomark _)) (nomark _)) (pw_or1 (pt_cmpR op_ne (pe_cmpR (op_eqO QM.1 QM.2 GME hr1 bME) (pv 8) (pv 7) (nomark _)) (pe_cmpR (op_eqD hr.units) (pv 4) (pv 6) (nomark _)) (nomark _))))) (pss_one (ps_ret pe_bl)) pss_nil)
      (pss_one (ps_if (PW.pt (pw_or (pt_cmpR (op_eqO QM.1 QM.2 GME hr1 bME) (pv 7) (pv 9) (nomark _)) (pw_or (pt_cmpR (op_eqO QR.1 QR.2 GRE hr1 bRE) (pv 9) (pv 7) (nomark _)) (pw_or1 (pt_cmpR (op_neO QN GME hr2 bME) (pv 7) (pv 7) (nomark _)))))) (pss_one (ps_ret pe_bl)) pss_nil)))))) pss_nil))))))))))))
      (pss_one (ps_ret pe_bl))), ?_⟩
    refine ⟨_, rfl, by show 1 ≤ sizeLine; decide, fun l0 n0 => ?_⟩
    have R0 := Same.upd (o := .lst [.int 0]) n0
    refine ⟨a, l0, _, _, rfl, rfl, R0.seq ha, SqL.of upd_same, ?_, fun l1 n1 => ?_⟩
    · rw [List.length_map]
      exact Nat.le_trans (show ns.length + 1 ≤ 1000 by omega) (by decide)
    refine ⟨_, rfl, l1, _, rfl, SqL.of upd_same, fun l2 n2 => ?_⟩
    generalize hH3 : upd (upd (upd H l0 (.lst [.int 0])) l1 (.lst (ns.map V.int ++ [V.int 0]))) l2 (.lst (cutV (ns.map V.int ++ [V.int 0]) none (some 30))) = H3
    have hl2 : H3 l2 = some (.lst ((ns.map V.int ++ [V.int 0]).take 30)) := by
      rw [← hH3, upd_same]
      have e := cut_take (ns.map V.int ++ [V.int 0]) 30
      exact congrArg (fun l => some (HO.lst l)) e
    refine ⟨l2, rfl, ⟨_, SqL.of hl2⟩, for_list (K := K) (a := l2) (xs := (ns.map V.int ++ [V.int 0]).take 30) (fun i σ H' => (∃ u1 u2 u3 u4 u5 u6 u7 u8 u9, σ = [some (.ref a), u1, u2, u3, u4, u5, u6, u7, u8, u9]) ∧ Same H3 H')
      ⟨⟨none, none, none, none, none, none, none, none, none, rfl⟩, Same.refl _⟩ (fun i σ H' _ p => SqL.of (p.2 _ _ hl2)) ?_ (fun σ H' _ => k H')⟩
    rintro i y σ H' hi ⟨⟨u1, u2, u3, u4, u5, u6, u7, u8, u9, rfl⟩, hS⟩
    obtain ⟨c, rfl⟩ : ∃ c, y = V.int c := by
      have hm := List.mem_of_mem_take (List.mem_of_getElem? hi)
      rcases List.mem_append.mp hm with h | h
      · obtain ⟨c, _, rfl⟩ := List.mem_map.mp h
        exact ⟨c, rfl⟩
      · exact ⟨0, List.mem_singleton.mp h⟩
    refine ⟨_, rfl, c, rfl, fun p H4 np S4 st4 => ?_⟩
    have p3 := hS.free np
    dsimp only [List.set_cons_succ, List.set_cons_zero]
    refine ⟨_, rfl, p, _, rfl, st4, by decide, by decide, fun way H5 w0 w6 B5 st5 => ?_⟩
    dsimp only [List.set_cons_succ, List.set_cons_zero]
    refine ⟨_, rfl, p, rfl, st5, fun d pl1 pl2 mk md ds us H6 nd nl1 nl2 B6 st6 P6 => ?_⟩
    dsimp only [List.set_cons_succ, List.set_cons_zero]
    have S6 : Same H3 H6 := But.same p3 (hS.trans S4) (B5.trans B6)
    refine ⟨_, rfl, d, pl1, pl2, mk, md, ds, us, rfl, P6, fun t xs D tag H7 R7 ht dp7 due7 => ?_⟩
    dsimp only [List.set_cons_succ, List.set_cons_zero]
    have P7 := P6.same R7
    refine ⟨_, rfl, d, pl1, pl2, mk, md, ds, us, rfl, P7, fun t2 D2 tag2 H8 R8 dp8 due8 => ?_⟩
    have P8 := P7.same R8
    have ht8 := R8 _ _ ht
    have sh := due7.shaped P8.w
    cases due8.det due7
    refine ⟨_, rfl, _, _, dp8, dp_same R8 dp7, sh, sh, _, rfl, ?_⟩
    rw [eqv_self sh]
    refine iteF ?_
    have S8 : Same H3 H8 := S6.trans (R7.trans R8)
    have st8 : StOk H8 p := st6.same (R7.trans R8)
    -- others
    refine ⟨_, rfl, rdListC P8.hd (j := 0) rfl rfl ⟨_, rfl, rdListC P8.hd (j := 1) rfl rfl ⟨_, rfl, rdListC P8.hd (j := 2) rfl rfl ⟨pl1, _, rfl, .inl (SqL.of P8.h1), fun c1 m1 => ?_⟩⟩⟩⟩
    have Q1 := Same.upd (o := .lst (ds.map V.str)) m1
    have P9 := P8.same Q1
    refine ⟨_, rfl, rdListC P9.hd (j := 3) rfl rfl ⟨pl2, _, rfl, .inl (SqL.of P9.h2), fun c2 m2 => ?_⟩⟩
    have Q2 := Same.upd (o := .lst (us.map V.str)) m2
    refine ⟨by show 4 ≤ sizeLine; decide, fun o no => ?_⟩
    have Q3 := Same.upd (o := .lst [.str mk, .str md, .ref c1, .ref c2]) no
    have Q13 := Q1.trans (Q2.trans Q3)
    have Pa := P8.same Q13
    have Po : PartsAt _ o c1 c2 mk md ds us := ⟨upd_same, Q3 _ _ (Q2 _ _ upd_same), Q3 _ _ upd_same, ne_of_none (upd_same (H := H8) (a := c1) (o := .lst (ds.map V.str))) m2, P8.w, P8.n1, P8.n2⟩
    have o3 : H3 o = none := S8.free (Q1.free (Q2.free no))
    have ht9 := Q13 _ _ ht8
    have S9 := S8.trans Q13
    have st9 := st8.same Q13
    have op : o ≠ p := (st8.same (Q1.trans Q2)).ne no
    have ndo := ne_of_none ((Q1.trans Q2) _ _ P8.hd) no
    have nlo1 := ne_of_none ((Q1.trans Q2) _ _ P8.h1) no
    have nlo2 := ne_of_none ((Q1.trans Q2) _ _ P8.h2) no
    have nto := ne_of_none ((Q1.trans Q2) _ _ ht8) no
    have ntp : t ≠ p := by
      obtain ⟨_, _, _, e, _⟩ := st8
      exact ne_of ht8 e (by intro z; cases z)
    generalize upd (upd (upd H8 c1 (.lst (ds.map V.str))) c2 (.lst (us.map V.str))) o (.lst [.str mk, .str md, .ref c1, .ref c2]) = H9 at Q3 Q13 Pa Po ht9 S9 st9
    dsimp only [List.set_cons_succ, List.set_cons_zero]
    have cw : way = 0 ∨ way = 1 ∨ way = 2 ∨ way = 3 ∨ way = 4 ∨ way = 5 := by omega
    rcases cw with rfl | rfl | rfl | rfl | rfl | rfl
    · refine ⟨_, rfl, _, _, rfl, rfl, _, rfl, ?_⟩
      refine ite2 (fun _ => ?_) (fun q => absurd (decide_eq_true (by decide)) q)
      refine ⟨_, rfl, _, rfl, o, _, _, 0, rfl, rfl, Po.hd, rfl, ?_⟩
      have PA := Pa.upd (v := .lst [.str "bag", .str md, .ref c1, .ref c2]) ndo nlo1 nlo2
      have PO : PartsAt (upd H9 o (.lst [.str "bag", .str md, .ref c1, .ref c2])) o c1 c2 "bag" md ds us := ⟨upd_same, by rw [upd_ne Po.d1.symm]; exact Po.h1, by rw [upd_ne Po.d2.symm]; exact Po.h2, Po.ne, fun z hz => by
        rcases List.mem_cons.mp hz with rfl | hz
        · exact wd_of (cs := ["bag"]) (by decide +kernel) _ (by simp)
        rcases List.mem_cons.mp hz with rfl | hz
        · exact Po.w _ (by simp)
        · exact Po.w z (by simp only [List.mem_cons]; exact .inr (.inr hz)), Po.n1, Po.n2⟩
      have HT : (upd H9 o (.lst [.str "bag", .str md, .ref c1, .ref c2])) t = some (.tup (.str tag :: xs)) := by rw [upd_ne nto]; exact ht9
      have SQ := same_upd (v := .lst [.str "bag", .str md, .ref c1, .ref c2]) S9 o3
      refine ⟨_, rfl, rfl, _, rfl, ?_⟩
      refine ite2 (fun q => absurd (V.int.inj (of_decide_eq_true q)) (by decide)) (fun _ => ?_)
      refine ⟨_, rfl, rfl, _, rfl, ?_⟩
      refine ite2 (fun q => absurd (V.int.inj (of_decide_eq_true q)) (by decide)) (fun _ => ?_)
      refine ⟨_, rfl, rfl, _, rfl, ?_⟩
      refine ite2 (fun q => absurd (V.int.inj (of_decide_eq_true q)) (by decide)) (fun _ => ?_)
      -- the last question
      refine ⟨_, rfl, rdTupC HT (j := 0) rfl rfl ⟨rfl, _, rfl, ?_⟩⟩
      refine ite2 (fun qa => ?_) (fun _ => ?_)
      rotate_left
      · exact iteF ⟨⟨_, _, _, _, _, _, _, _, _, rfl⟩, SQ⟩
      refine ⟨_, rfl, _, _, _, _, _, _, _, rfl, PO, fun t' xs' D' tag' Hr Rr ht' dp' due' => ?_⟩
      refine rdTupC ht' (j := 0) rfl rfl ⟨rfl, _, rfl, ?_⟩
      refine ite2 (fun qb => ?_) (fun _ => ?_)
      rotate_left
      · exact ⟨⟨_, _, _, _, _, _, _, _, _, rfl⟩, SQ.trans Rr⟩
      have ma := due7.made (V.str.inj (of_decide_eq_true qa))
      have mb := due'.made (V.str.inj (of_decide_eq_true qb))
      have PA1 := PA.same Rr
      have PO1 := PO.same Rr
      refine ⟨_, rfl, rdListC PA1.hd (j := 0) rfl rfl ⟨_, rfl, rdListC PA1.hd (j := 1) rfl rfl ⟨_, rfl, rdListC PA1.hd (j := 2) rfl rfl ⟨_, rfl, rdListC PA1.hd (j := 3) rfl rfl ?_⟩⟩⟩⟩
      intro x dx nx ndx nex
      refine ⟨Hr, x, dx, _, _, _, _, _, _, rfl, same_make nx ndx, nx, upd_same, SqL.of PA1.h1, SqL.of PA1.h2, Nat.le_trans PA1.n1 (by decide), Nat.le_trans PA1.n2 (by decide), fun z hz => Nat.le_trans (PA1.w z hz).2 (by decide), made_due ma ?_⟩
      intro Hs Ss t1 t2 hx h1 h2
      refine ⟨rfl, ?_⟩
      dsimp only [List.set_cons_succ, List.set_cons_zero]
      have PO2 := PO1.same Ss
      refine ⟨_, rfl, rdListC PO2.hd (j := 0) rfl rfl ⟨_, rfl, rdListC PO2.hd (j := 1) rfl rfl ⟨_, rfl, rdListC PO2.hd (j := 2) rfl rfl ⟨_, rfl, rdListC PO2.hd (j := 3) rfl rfl ?_⟩⟩⟩⟩
      intro y dy ny ndy ney
      refine ⟨Hs, y, dy, _, _, _, _, _, _, rfl, same_make ny ndy, ny, upd_same, SqL.of PO2.h1, SqL.of PO2.h2, Nat.le_trans PO2.n1 (by decide), Nat.le_trans PO2.n2 (by decide), fun z hz => Nat.le_trans (PO2.w z hz).2 (by decide), made_due mb ?_⟩
      intro Hu Su s1 s2 hy h3 h4
      refine ⟨rfl, ?_⟩
      dsimp only [List.set_cons_succ, List.set_cons_zero]
      have PA3 := PA1.same (Ss.trans Su)
      refine ⟨_, rfl, rdListC PA3.hd (j := 0) rfl rfl ⟨by show 2 ≤ sizeLine; decide, fun q1 n1 => ⟨by show 1 ≤ sizeLine; decide, fun q2 n2 => ⟨by show 3 ≤ sizeLine; decide, fun q3 n3 => ⟨by show 1 ≤ sizeLine; decide, fun q4 n4 => ⟨by show 3 ≤ sizeLine; decide, fun q5 n5 => ?_⟩⟩⟩⟩⟩⟩
      intro xr dxr nxr ndxr nexr
      have e1 := Same.upd (o := .tup [.str "a", .non]) n1
      have e2 := Same.upd (o := .lst [.ref q1]) n2
      have e3 := Same.upd (o := .tup [.str "a", .str "own", .str "a"]) n3
      have e4 := Same.upd (o := .lst [.ref q3]) n4
      have e5 := Same.upd (o := .tup [.str "a", .str "own", .str "a"]) n5
      have im : isNm mk = true := by
        have z := List.find?_eq_none.mp ma.1 mk (by simp)
        simpa using z
      have tx : ∀ z ∈ textsL mk [(("a" : Str), none)] ([(("a" : Str), ("own" : Str), ("a" : Str))] ++ [(("a" : Str), ("own" : Str), ("a" : Str))]), z.length ≤ 1000 ∧ isNm z = true := fun z hz => by
        rcases List.mem_cons.mp hz with rfl | hz
        · exact ⟨Nat.le_trans (PA3.w _ (by simp)).2 (by decide), im⟩
        · exact textA z hz
      refine ⟨_, xr, dxr, q2, q4, q5, mk, "a", [q1], [q3], [("a", none)], [("a", "own", "a")], ("a", "own", "a"), rfl, same_make nxr ndxr, nxr, upd_same, SqL.of (e5 _ _ (e4 _ _ (e3 _ _ upd_same))), ⟨SqT.of (e5 _ _ (e4 _ _ (e3 _ _ (e2 _ _ upd_same)))), True.intro⟩, SqL.of (e5 _ _ upd_same), ⟨SqT.of (e5 _ _ (e4 _ _ upd_same)), True.intro⟩, upd_same, patA, fun z hz => (tx z hz).1, dueM_all (fun z hz => (tx z hz).2) ?_⟩
      intro Hv Sv r1 r2 hxr hr1' hr2'
      refine ⟨rfl, ?_⟩
      dsimp only [List.set_cons_succ, List.set_cons_zero]
      have Suv : Same Hu Hv := e1.trans (e2.trans (e3.trans (e4.trans (e5.trans Sv))))
      have Ssv := Su.trans Suv
      have PAv := PA3.same Suv
      have POv := PO2.same Ssv
      have hxv := Ssv _ _ hx
      have hyv := Suv _ _ hy
      have MX : MakAt Hv M x _ _ _ _ := ⟨⟨dx, t1, t2, hxv, Ssv _ _ h1, Ssv _ _ h2⟩, fun z hz => (PAv.w z (by simp [hz])).1, fun z hz => (PAv.w z (by simp [hz])).1⟩
      have MY : MakAt Hv M y _ _ _ _ := ⟨⟨dy, s1, s2, hyv, Suv _ _ h3, Suv _ _ h4⟩, fun z hz => (POv.w z (by simp [hz])).1, fun z hz => (POv.w z (by simp [hz])).1⟩
      refine ⟨_, rfl, _, rfl, x, y, M, dx, dy, _, _, rfl, rfl, hxv, hyv, nfMM, x, y, _, _, _, _, rfl, MX, .inl ⟨_, _, _, _, tyM _ _ _ _ hyv, MY, _, rfl, _, rfl, _, rfl, _, _, PAv.dp, POv.dp, PAv.shaped, POv.shaped, rfl, _, rfl, ?_⟩⟩
      rw [eqv_parts]
      refine ite2 (fun q => absurd q (by simp)) (fun _ => ?_)
      refine ⟨_, rfl, _, rfl, y, x, M, dy, dx, _, _, rfl, rfl, hyv, hxv, nfMM, y, x, _, _, _, _, rfl, MY, .inl ⟨_, _, _, _, tyM _ _ _ _ hxv, MX, _, rfl, _, rfl, _, rfl, _, _, PAv.dp, POv.dp, PAv.shaped, POv.shaped, rfl, _, rfl, ?_⟩⟩
      rw [eqv_parts, sameM_symm]
      refine ite2 (fun q => absurd q (by simp)) (fun _ => ?_)
      refine ⟨_, rfl, _, rfl, x, xr, Rl, dx, dxr, _, _, rfl, rfl, hxv, hxr, nfMR, x, xr, _, _, _, _, rfl, MX, .inr ⟨Rl, tyR _ _ _ _ hxr, kRM, false, rfl, _, rfl, ?_⟩⟩
      refine iteF ?_
      refine ⟨_, rfl, _, rfl, xr, x, M, dxr, dx, _, _, rfl, rfl, hxr, hxv, nfRM, xr, x, M, rfl, tyM _ _ _ _ hxv, kMR, false, rfl, _, rfl, ?_⟩
      refine iteF ?_
      refine ⟨_, rfl, _, rfl, x, x, dx, dx, _, _, rfl, rfl, hxv, hxv, x, x, _, _, _, _, rfl, MX, .inl ⟨_, _, _, _, tyM _ _ _ _ hxv, MX, _, rfl, _, rfl, ?_⟩⟩
      rw [sameM_self]
      exact iteF ⟨⟨_, _, _, _, _, _, _, _, _, rfl⟩, SQ.trans (Rr.trans (Ss.trans Ssv))⟩
    · refine ⟨_, rfl, _, _, rfl, rfl, _, rfl, ?_⟩
      refine ite2 (fun _ => ?_) (fun q => absurd (decide_eq_true (by decide)) q)
      refine ⟨_, rfl, _, rfl, o, _, _, 1, rfl, rfl, Po.hd, rfl, ?_⟩
      have PA := Pa.upd (v := .lst [.str mk, .str "bag", .ref c1, .ref c2]) ndo nlo1 nlo2
      have PO : PartsAt (upd H9 o (.lst [.str mk, .str "bag", .ref c1, .ref c2])) o c1 c2 mk "bag" ds us := ⟨upd_same, by rw [upd_ne Po.d1.symm]; exact Po.h1, by rw [upd_ne Po.d2.symm]; exact Po.h2, Po.ne, fun z hz => by
        rcases List.mem_cons.mp hz with rfl | hz
        · exact Po.w _ (by simp)
        rcases List.mem_cons.mp hz with rfl | hz
        · exact wd_of (cs := ["bag"]) (by decide +kernel) _ (by simp)
        · exact Po.w z (by simp only [List.mem_cons]; exact .inr (.inr hz)), Po.n1, Po.n2⟩
      have HT : (upd H9 o (.lst [.str mk, .str "bag", .ref c1, .ref c2])) t = some (.tup (.str tag :: xs)) := by rw [upd_ne nto]; exact ht9
      have SQ := same_upd (v := .lst [.str mk, .str "bag", .ref c1, .ref c2]) S9 o3
      refine ⟨_, rfl, rfl, _, rfl, ?_⟩
      refine ite2 (fun q => absurd (V.int.inj (of_decide_eq_true q)) (by decide)) (fun _ => ?_)
      refine ⟨_, rfl, rfl, _, rfl, ?_⟩
      refine ite2 (fun q => absurd (V.int.inj (of_decide_eq_true q)) (by decide)) (fun _ => ?_)
      refine ⟨_, rfl, rfl, _, rfl, ?_⟩
      refine ite2 (fun q => absurd (V.int.inj (of_decide_eq_true q)) (by decide)) (fun _ => ?_)
      -- the last question
      refine ⟨_, rfl, rdTupC HT (j := 0) rfl rfl ⟨rfl, _, rfl, ?_⟩⟩
      refine ite2 (fun qa => ?_) (fun _ => ?_)
      rotate_left
      · exact iteF ⟨⟨_, _, _, _, _, _, _, _, _, rfl⟩, SQ⟩
      refine ⟨_, rfl, _, _, _, _, _, _, _, rfl, PO, fun t' xs' D' tag' Hr Rr ht' dp' due' => ?_⟩
      refine rdTupC ht' (j := 0) rfl rfl ⟨rfl, _, rfl, ?_⟩
      refine ite2 (fun qb => ?_) (fun _ => ?_)
      rotate_left
      · exact ⟨⟨_, _, _, _, _, _, _, _, _, rfl⟩, SQ.trans Rr⟩
      have ma := due7.made (V.str.inj (of_decide_eq_true qa))
      have mb := due'.made (V.str.inj (of_decide_eq_true qb))
      have PA1 := PA.same Rr
      have PO1 := PO.same Rr
      refine ⟨_, rfl, rdListC PA1.hd (j := 0) rfl rfl ⟨_, rfl, rdListC PA1.hd (j := 1) rfl rfl ⟨_, rfl, rdListC PA1.hd (j := 2) rfl rfl ⟨_, rfl, rdListC PA1.hd (j := 3) rfl rfl ?_⟩⟩⟩⟩
      intro x dx nx ndx nex
      refine ⟨Hr, x, dx, _, _, _, _, _, _, rfl, same_make nx ndx, nx, upd_same, SqL.of PA1.h1, SqL.of PA1.h2, Nat.le_trans PA1.n1 (by decide), Nat.le_trans PA1.n2 (by decide), fun z hz => Nat.le_trans (PA1.w z hz).2 (by decide), made_due ma ?_⟩
      intro Hs Ss t1 t2 hx h1 h2
      refine ⟨rfl, ?_⟩
      dsimp only [List.set_cons_succ, List.set_cons_zero]
      have PO2 := PO1.same Ss
      refine ⟨_, rfl, rdListC PO2.hd (j := 0) rfl rfl ⟨_, rfl, rdListC PO2.hd (j := 1) rfl rfl ⟨_, rfl, rdListC PO2.hd (j := 2) rfl rfl ⟨_, rfl, rdListC PO2.hd (j := 3) rfl rfl ?_⟩⟩⟩⟩
      intro y dy ny ndy ney
      refine ⟨Hs, y, dy, _, _, _, _, _, _, rfl, same_make ny ndy, ny, upd_same, SqL.of PO2.h1, SqL.of PO2.h2, Nat.le_trans PO2.n1 (by decide), Nat.le_trans PO2.n2 (by decide), fun z hz => Nat.le_trans (PO2.w z hz).2 (by decide), made_due mb ?_⟩
      intro Hu Su s1 s2 hy h3 h4
      refine ⟨rfl, ?_⟩
      dsimp only [List.set_cons_succ, List.set_cons_zero]
      have PA3 := PA1.same (Ss.trans Su)
      refine ⟨_, rfl, rdListC PA3.hd (j := 0) rfl rfl ⟨by show 2 ≤ sizeLine; decide, fun q1 n1 => ⟨by show 1 ≤ sizeLine; decide, fun q2 n2 => ⟨by show 3 ≤ sizeLine; decide, fun q3 n3 => ⟨by show 1 ≤ sizeLine; decide, fun q4 n4 => ⟨by show 3 ≤ sizeLine; decide, fun q5 n5 => ?_⟩⟩⟩⟩⟩⟩
      intro xr dxr nxr ndxr nexr
      have e1 := Same.upd (o := .tup [.str "a", .non]) n1
      have e2 := Same.upd (o := .lst [.ref q1]) n2
      have e3 := Same.upd (o := .tup [.str "a", .str "own", .str "a"]) n3
      have e4 := Same.upd (o := .lst [.ref q3]) n4
      have e5 := Same.upd (o := .tup [.str "a", .str "own", .str "a"]) n5
      have im : isNm mk = true := by
        have z := List.find?_eq_none.mp ma.1 mk (by simp)
        simpa using z
      have tx : ∀ z ∈ textsL mk [(("a" : Str), none)] ([(("a" : Str), ("own" : Str), ("a" : Str))] ++ [(("a" : Str), ("own" : Str), ("a" : Str))]), z.length ≤ 1000 ∧ isNm z = true := fun z hz => by
        rcases List.mem_cons.mp hz with rfl | hz
        · exact ⟨Nat.le_trans (PA3.w _ (by simp)).2 (by decide), im⟩
        · exact textA z hz
      refine ⟨_, xr, dxr, q2, q4, q5, mk, "a", [q1], [q3], [("a", none)], [("a", "own", "a")], ("a", "own", "a"), rfl, same_make nxr ndxr, nxr, upd_same, SqL.of (e5 _ _ (e4 _ _ (e3 _ _ upd_same))), ⟨SqT.of (e5 _ _ (e4 _ _ (e3 _ _ (e2 _ _ upd_same)))), True.intro⟩, SqL.of (e5 _ _ upd_same), ⟨SqT.of (e5 _ _ (e4 _ _ upd_same)), True.intro⟩, upd_same, patA, fun z hz => (tx z hz).1, dueM_all (fun z hz => (tx z hz).2) ?_⟩
      intro Hv Sv r1 r2 hxr hr1' hr2'
      refine ⟨rfl, ?_⟩
      dsimp only [List.set_cons_succ, List.set_cons_zero]
      have Suv : Same Hu Hv := e1.trans (e2.trans (e3.trans (e4.trans (e5.trans Sv))))
      have Ssv := Su.trans Suv
      have PAv := PA3.same Suv
      have POv := PO2.same Ssv
      have hxv := Ssv _ _ hx
      have hyv := Suv _ _ hy
      have MX : MakAt Hv M x _ _ _ _ := ⟨⟨dx, t1, t2, hxv, Ssv _ _ h1, Ssv _ _ h2⟩, fun z hz => (PAv.w z (by simp [hz])).1, fun z hz => (PAv.w z (by simp [hz])).1⟩
      have MY : MakAt Hv M y _ _ _ _ := ⟨⟨dy, s1, s2, hyv, Suv _ _ h3, Suv _ _ h4⟩, fun z hz => (POv.w z (by simp [hz])).1, fun z hz => (POv.w z (by simp [hz])).1⟩
      refine ⟨_, rfl, _, rfl, x, y, M, dx, dy, _, _, rfl, rfl, hxv, hyv, nfMM, x, y, _, _, _, _, rfl, MX, .inl ⟨_, _, _, _, tyM _ _ _ _ hyv, MY, _, rfl, _, rfl, _, rfl, _, _, PAv.dp, POv.dp, PAv.shaped, POv.shaped, rfl, _, rfl, ?_⟩⟩
      rw [eqv_parts]
      refine ite2 (fun q => absurd q (by simp)) (fun _ => ?_)
      refine ⟨_, rfl, _, rfl, y, x, M, dy, dx, _, _, rfl, rfl, hyv, hxv, nfMM, y, x, _, _, _, _, rfl, MY, .inl ⟨_, _, _, _, tyM _ _ _ _ hxv, MX, _, rfl, _, rfl, _, rfl, _, _, PAv.dp, POv.dp, PAv.shaped, POv.shaped, rfl, _, rfl, ?_⟩⟩
      rw [eqv_parts, sameM_symm]
      refine ite2 (fun q => absurd q (by simp)) (fun _ => ?_)
      refine ⟨_, rfl, _, rfl, x, xr, Rl, dx, dxr, _, _, rfl, rfl, hxv, hxr, nfMR, x, xr, _, _, _, _, rfl, MX, .inr ⟨Rl, tyR _ _ _ _ hxr, kRM, false, rfl, _, rfl, ?_⟩⟩
      refine iteF ?_
      refine ⟨_, rfl, _, rfl, xr, x, M, dxr, dx, _, _, rfl, rfl, hxr, hxv, nfRM, xr, x, M, rfl, tyM _ _ _ _ hxv, kMR, false, rfl, _, rfl, ?_⟩
      refine iteF ?_
      refine ⟨_, rfl, _, rfl, x, x, dx, dx, _, _, rfl, rfl, hxv, hxv, x, x, _, _, _, _, rfl, MX, .inl ⟨_, _, _, _, tyM _ _ _ _ hxv, MX, _, rfl, _, rfl, ?_⟩⟩
      rw [sameM_self]
      exact iteF ⟨⟨_, _, _, _, _, _, _, _, _, rfl⟩, SQ.trans (Rr.trans (Ss.trans Ssv))⟩
    · refine ⟨_, rfl, _, _, rfl, rfl, _, rfl, ?_⟩
      refine ite2 (fun q => absurd (of_decide_eq_true q) (by decide)) (fun _ => ?_)
      refine ⟨_, rfl, rfl, _, rfl, ?_⟩
      refine ite2 (fun _ => ?_) (fun q => absurd (decide_eq_true rfl) q)
      refine ⟨_, rfl, _, rfl, rdList Po.hd (j := 2) rfl rfl ⟨c1, _, rfl, SqL.of Po.h1, fun r nr => ?_⟩⟩
      have Rr0 := Same.upd (o := .lst (ds.map V.str).reverse) nr
      have nro : r ≠ o := (ne_of_none Po.hd nr).symm
      refine ⟨_, rfl, _, rfl, o, _, _, 2, rfl, rfl, Rr0 _ _ Po.hd, rfl, ?_⟩
      have PA := (Pa.same Rr0).upd (v := .lst [.str mk, .str md, .ref r, .ref c2]) ndo nlo1 nlo2
      have PO : PartsAt (upd (upd H9 r (.lst (ds.map V.str).reverse)) o (.lst [.str mk, .str md, .ref r, .ref c2])) o r c2 mk md ds.reverse us := ⟨upd_same, by rw [upd_ne nro]; rw [upd_same, List.map_reverse], by rw [upd_ne Po.d2.symm]; exact Rr0 _ _ Po.h2, (ne_of_none Po.h2 nr).symm, fun z hz => Po.w z (by simpa using hz), by rw [List.length_reverse]; exact Po.n1, Po.n2⟩
      have HT : (upd (upd H9 r (.lst (ds.map V.str).reverse)) o (.lst [.str mk, .str md, .ref r, .ref c2])) t = some (.tup (.str tag :: xs)) := by rw [upd_ne nto]; exact Rr0 _ _ ht9
      have SQ := same_upd (v := .lst [.str mk, .str md, .ref r, .ref c2]) (S9.trans Rr0) o3
      refine ⟨_, rfl, rfl, _, rfl, ?_⟩
      refine ite2 (fun q => absurd (V.int.inj (of_decide_eq_true q)) (by decide)) (fun _ => ?_)
      -- the last question
      refine ⟨_, rfl, rdTupC HT (j := 0) rfl rfl ⟨rfl, _, rfl, ?_⟩⟩
      refine ite2 (fun qa => ?_) (fun _ => ?_)
      rotate_left
      · exact iteF ⟨⟨_, _, _, _, _, _, _, _, _, rfl⟩, SQ⟩
      refine ⟨_, rfl, _, _, _, _, _, _, _, rfl, PO, fun t' xs' D' tag' Hr Rr ht' dp' due' => ?_⟩
      refine rdTupC ht' (j := 0) rfl rfl ⟨rfl, _, rfl, ?_⟩
      refine ite2 (fun qb => ?_) (fun _ => ?_)
      rotate_left
      · exact ⟨⟨_, _, _, _, _, _, _, _, _, rfl⟩, SQ.trans Rr⟩
      have ma := due7.made (V.str.inj (of_decide_eq_true qa))
      have mb := due'.made (V.str.inj (of_decide_eq_true qb))
      have PA1 := PA.same Rr
      have PO1 := PO.same Rr
      refine ⟨_, rfl, rdListC PA1.hd (j := 0) rfl rfl ⟨_, rfl, rdListC PA1.hd (j := 1) rfl rfl ⟨_, rfl, rdListC PA1.hd (j := 2) rfl rfl ⟨_, rfl, rdListC PA1.hd (j := 3) rfl rfl ?_⟩⟩⟩⟩
      intro x dx nx ndx nex
      refine ⟨Hr, x, dx, _, _, _, _, _, _, rfl, same_make nx ndx, nx, upd_same, SqL.of PA1.h1, SqL.of PA1.h2, Nat.le_trans PA1.n1 (by decide), Nat.le_trans PA1.n2 (by decide), fun z hz => Nat.le_trans (PA1.w z hz).2 (by decide), made_due ma ?_⟩
      intro Hs Ss t1 t2 hx h1 h2
      refine ⟨rfl, ?_⟩
      dsimp only [List.set_cons_succ, List.set_cons_zero]
      have PO2 := PO1.same Ss
      refine ⟨_, rfl, rdListC PO2.hd (j := 0) rfl rfl ⟨_, rfl, rdListC PO2.hd (j := 1) rfl rfl ⟨_, rfl, rdListC PO2.hd (j := 2) rfl rfl ⟨_, rfl, rdListC PO2.hd (j := 3) rfl rfl ?_⟩⟩⟩⟩
      intro y dy ny ndy ney
      refine ⟨Hs, y, dy, _, _, _, _, _, _, rfl, same_make ny ndy, ny, upd_same, SqL.of PO2.h1, SqL.of PO2.h2, Nat.le_trans PO2.n1 (by decide), Nat.le_trans PO2.n2 (by decide), fun z hz => Nat.le_trans (PO2.w z hz).2 (by decide), made_due mb ?_⟩
      intro Hu Su s1 s2 hy h3 h4
      refine ⟨rfl, ?_⟩
      dsimp only [List.set_cons_succ, List.set_cons_zero]
      have PA3 := PA1.same (Ss.trans Su)
      refine ⟨_, rfl, rdListC PA3.hd (j := 0) rfl rfl ⟨by show 2 ≤ sizeLine; decide, fun q1 n1 => ⟨by show 1 ≤ sizeLine; decide, fun q2 n2 => ⟨by show 3 ≤ sizeLine; decide, fun q3 n3 => ⟨by show 1 ≤ sizeLine; decide, fun q4 n4 => ⟨by show 3 ≤ sizeLine; decide, fun q5 n5 => ?_⟩⟩⟩⟩⟩⟩
      intro xr dxr nxr ndxr nexr
      have e1 := Same.upd (o := .tup [.str "a", .non]) n1
      have e2 := Same.upd (o := .lst [.ref q1]) n2
      have e3 := Same.upd (o := .tup [.str "a", .str "own", .str "a"]) n3
      have e4 := Same.upd (o := .lst [.ref q3]) n4
      have e5 := Same.upd (o := .tup [.str "a", .str "own", .str "a"]) n5
      have im : isNm mk = true := by
        have z := List.find?_eq_none.mp ma.1 mk (by simp)
        simpa using z
      have tx : ∀ z ∈ textsL mk [(("a" : Str), none)] ([(("a" : Str), ("own" : Str), ("a" : Str))] ++ [(("a" : Str), ("own" : Str), ("a" : Str))]), z.length ≤ 1000 ∧ isNm z = true := fun z hz => by
        rcases List.mem_cons.mp hz with rfl | hz
        · exact ⟨Nat.le_trans (PA3.w _ (by simp)).2 (by decide), im⟩
        · exact textA z hz
      refine ⟨_, xr, dxr, q2, q4, q5, mk, "a", [q1], [q3], [("a", none)], [("a", "own", "a")], ("a", "own", "a"), rfl, same_make nxr ndxr, nxr, upd_same, SqL.of (e5 _ _ (e4 _ _ (e3 _ _ upd_same))), ⟨SqT.of (e5 _ _ (e4 _ _ (e3 _ _ (e2 _ _ upd_same)))), True.intro⟩, SqL.of (e5 _ _ upd_same), ⟨SqT.of (e5 _ _ (e4 _ _ upd_same)), True.intro⟩, upd_same, patA, fun z hz => (tx z hz).1, dueM_all (fun z hz => (tx z hz).2) ?_⟩
      intro Hv Sv r1 r2 hxr hr1' hr2'
      refine ⟨rfl, ?_⟩
      dsimp only [List.set_cons_succ, List.set_cons_zero]
      have Suv : Same Hu Hv := e1.trans (e2.trans (e3.trans (e4.trans (e5.trans Sv))))
      have Ssv := Su.trans Suv
      have PAv := PA3.same Suv
      have POv := PO2.same Ssv
      have hxv := Ssv _ _ hx
      have hyv := Suv _ _ hy
      have MX : MakAt Hv M x _ _ _ _ := ⟨⟨dx, t1, t2, hxv, Ssv _ _ h1, Ssv _ _ h2⟩, fun z hz => (PAv.w z (by simp [hz])).1, fun z hz => (PAv.w z (by simp [hz])).1⟩
      have MY : MakAt Hv M y _ _ _ _ := ⟨⟨dy, s1, s2, hyv, Suv _ _ h3, Suv _ _ h4⟩, fun z hz => (POv.w z (by simp [hz])).1, fun z hz => (POv.w z (by simp [hz])).1⟩
      refine ⟨_, rfl, _, rfl, x, y, M, dx, dy, _, _, rfl, rfl, hxv, hyv, nfMM, x, y, _, _, _, _, rfl, MX, .inl ⟨_, _, _, _, tyM _ _ _ _ hyv, MY, _, rfl, _, rfl, _, rfl, _, _, PAv.dp, POv.dp, PAv.shaped, POv.shaped, rfl, _, rfl, ?_⟩⟩
      rw [eqv_parts]
      refine ite2 (fun q => absurd q (by simp)) (fun _ => ?_)
      refine ⟨_, rfl, _, rfl, y, x, M, dy, dx, _, _, rfl, rfl, hyv, hxv, nfMM, y, x, _, _, _, _, rfl, MY, .inl ⟨_, _, _, _, tyM _ _ _ _ hxv, MX, _, rfl, _, rfl, _, rfl, _, _, PAv.dp, POv.dp, PAv.shaped, POv.shaped, rfl, _, rfl, ?_⟩⟩
      rw [eqv_parts, sameM_symm]
      refine ite2 (fun q => absurd q (by simp)) (fun _ => ?_)
      refine ⟨_, rfl, _, rfl, x, xr, Rl, dx, dxr, _, _, rfl, rfl, hxv, hxr, nfMR, x, xr, _, _, _, _, rfl, MX, .inr ⟨Rl, tyR _ _ _ _ hxr, kRM, false, rfl, _, rfl, ?_⟩⟩
      refine iteF ?_
      refine ⟨_, rfl, _, rfl, xr, x, M, dxr, dx, _, _, rfl, rfl, hxr, hxv, nfRM, xr, x, M, rfl, tyM _ _ _ _ hxv, kMR, false, rfl, _, rfl, ?_⟩
      refine iteF ?_
      refine ⟨_, rfl, _, rfl, x, x, dx, dx, _, _, rfl, rfl, hxv, hxv, x, x, _, _, _, _, rfl, MX, .inl ⟨_, _, _, _, tyM _ _ _ _ hxv, MX, _, rfl, _, rfl, ?_⟩⟩
      rw [sameM_self]
      exact iteF ⟨⟨_, _, _, _, _, _, _, _, _, rfl⟩, SQ.trans (Rr.trans (Ss.trans Ssv))⟩
    · refine ⟨_, rfl, _, _, rfl, rfl, _, rfl, ?_⟩
      refine ite2 (fun q => absurd (of_decide_eq_true q) (by decide)) (fun _ => ?_)
      refine ⟨_, rfl, rfl, _, rfl, ?_⟩
      refine ite2 (fun q => absurd (V.int.inj (of_decide_eq_true q)) (by decide)) (fun _ => ?_)
      refine ⟨_, rfl, rfl, _, rfl, ?_⟩
      refine ite2 (fun _ => ?_) (fun q => absurd (decide_eq_true rfl) q)
      refine ⟨_, rfl, _, rfl, rdList Po.hd (j := 3) rfl rfl ⟨c2, _, rfl, SqL.of Po.h2, fun r nr => ?_⟩⟩
      have Rr0 := Same.upd (o := .lst (us.map V.str).reverse) nr
      have nro : r ≠ o := (ne_of_none Po.hd nr).symm
      refine ⟨_, rfl, _, rfl, o, _, _, 3, rfl, rfl, Rr0 _ _ Po.hd, rfl, ?_⟩
      have PA := (Pa.same Rr0).upd (v := .lst [.str mk, .str md, .ref c1, .ref r]) ndo nlo1 nlo2
      have PO : PartsAt (upd (upd H9 r (.lst (us.map V.str).reverse)) o (.lst [.str mk, .str md, .ref c1, .ref r])) o c1 r mk md ds us.reverse := ⟨upd_same, by rw [upd_ne Po.d1.symm]; exact Rr0 _ _ Po.h1, by rw [upd_ne nro]; rw [upd_same, List.map_reverse], ne_of_none Po.h1 nr, fun z hz => Po.w z (by simpa using hz), Po.n1, by rw [List.length_reverse]; exact Po.n2⟩
      have HT : (upd (upd H9 r (.lst (us.map V.str).reverse)) o (.lst [.str mk, .str md, .ref c1, .ref r])) t = some (.tup (.str tag :: xs)) := by rw [upd_ne nto]; exact Rr0 _ _ ht9
      have SQ := same_upd (v := .lst [.str mk, .str md, .ref c1, .ref r]) (S9.trans Rr0) o3
      refine ⟨_, rfl, rfl, _, rfl, ?_⟩
      refine ite2 (fun q => absurd (V.int.inj (of_decide_eq_true q)) (by decide)) (fun _ => ?_)
      -- the last question
      refine ⟨_, rfl, rdTupC HT (j := 0) rfl rfl ⟨rfl, _, rfl, ?_⟩⟩
      refine ite2 (fun qa => ?_) (fun _ => ?_)
      rotate_left
      · exact iteF ⟨⟨_, _, _, _, _, _, _, _, _, rfl⟩, SQ⟩
      refine ⟨_, rfl, _, _, _, _, _, _, _, rfl, PO, fun t' xs' D' tag' Hr Rr ht' dp' due' => ?_⟩
      refine rdTupC ht' (j := 0) rfl rfl ⟨rfl, _, rfl, ?_⟩
      refine ite2 (fun qb => ?_) (fun _ => ?_)
      rotate_left
      · exact ⟨⟨_, _, _, _, _, _, _, _, _, rfl⟩, SQ.trans Rr⟩
      have ma := due7.made (V.str.inj (of_decide_eq_true qa))
      have mb := due'.made (V.str.inj (of_decide_eq_true qb))
      have PA1 := PA.same Rr
      have PO1 := PO.same Rr
      refine ⟨_, rfl, rdListC PA1.hd (j := 0) rfl rfl ⟨_, rfl, rdListC PA1.hd (j := 1) rfl rfl ⟨_, rfl, rdListC PA1.hd (j := 2) rfl rfl ⟨_, rfl, rdListC PA1.hd (j := 3) rfl rfl ?_⟩⟩⟩⟩
      intro x dx nx ndx nex
      refine ⟨Hr, x, dx, _, _, _, _, _, _, rfl, same_make nx ndx, nx, upd_same, SqL.of PA1.h1, SqL.of PA1.h2, Nat.le_trans PA1.n1 (by decide), Nat.le_trans PA1.n2 (by decide), fun z hz => Nat.le_trans (PA1.w z hz).2 (by decide), made_due ma ?_⟩
      intro Hs Ss t1 t2 hx h1 h2
      refine ⟨rfl, ?_⟩
      dsimp only [List.set_cons_succ, List.set_cons_zero]
      have PO2 := PO1.same Ss
      refine ⟨_, rfl, rdListC PO2.hd (j := 0) rfl rfl ⟨_, rfl, rdListC PO2.hd (j := 1) rfl rfl ⟨_, rfl, rdListC PO2.hd (j := 2) rfl rfl ⟨_, rfl, rdListC PO2.hd (j := 3) rfl rfl ?_⟩⟩⟩⟩
      intro y dy ny ndy ney
      refine ⟨Hs, y, dy, _, _, _, _, _, _, rfl, same_make ny ndy, ny, upd_same, SqL.of PO2.h1, SqL.of PO2.h2, Nat.le_trans PO2.n1 (by decide), Nat.le_trans PO2.n2 (by decide), fun z hz => Nat.le_trans (PO2.w z hz).2 (by decide), made_due mb ?_⟩
      intro Hu Su s1 s2 hy h3 h4
      refine ⟨rfl, ?_⟩
      dsimp only [List.set_cons_succ, List.set_cons_zero]
      have PA3 := PA1.same (Ss.trans Su)
      refine ⟨_, rfl, rdListC PA3.hd (j := 0) rfl rfl ⟨by show 2 ≤ sizeLine; decide, fun q1 n1 => ⟨by show 1 ≤ sizeLine; decide, fun q2 n2 => ⟨by show 3 ≤ sizeLine; decide, fun q3 n3 => ⟨by show 1 ≤ sizeLine; decide, fun q4 n4 => ⟨by show 3 ≤ sizeLine; decide, fun q5 n5 => ?_⟩⟩⟩⟩⟩⟩
      intro xr dxr nxr ndxr nexr
      have e1 := Same.upd (o := .tup [.str "a", .non]) n1
      have e2 := Same.upd (o := .lst [.ref q1]) n2
      have e3 := Same.upd (o := .tup [.str "a", .str "own", .str "a"]) n3
      have e4 := Same.upd (o := .lst [.ref q3]) n4
      have e5 := Same.upd (o := .tup [.str "a", .str "own", .str "a"]) n5
      have im : isNm mk = true := by
        have z := List.find?_eq_none.mp ma.1 mk (by simp)
        simpa using z
      have tx : ∀ z ∈ textsL mk [(("a" : Str), none)] ([(("a" : Str), ("own" : Str), ("a" : Str))] ++ [(("a" : Str), ("own" : Str), ("a" : Str))]), z.length ≤ 1000 ∧ isNm z = true := fun z hz => by
        rcases List.mem_cons.mp hz with rfl | hz
        · exact ⟨Nat.le_trans (PA3.w _ (by simp)).2 (by decide), im⟩
        · exact textA z hz
      refine ⟨_, xr, dxr, q2, q4, q5, mk, "a", [q1], [q3], [("a", none)], [("a", "own", "a")], ("a", "own", "a"), rfl, same_make nxr ndxr, nxr, upd_same, SqL.of (e5 _ _ (e4 _ _ (e3 _ _ upd_same))), ⟨SqT.of (e5 _ _ (e4 _ _ (e3 _ _ (e2 _ _ upd_same)))), True.intro⟩, SqL.of (e5 _ _ upd_same), ⟨SqT.of (e5 _ _ (e4 _ _ upd_same)), True.intro⟩, upd_same, patA, fun z hz => (tx z hz).1, dueM_all (fun z hz => (tx z hz).2) ?_⟩
      intro Hv Sv r1 r2 hxr hr1' hr2'
      refine ⟨rfl, ?_⟩
      dsimp only [List.set_cons_succ, List.set_cons_zero]
      have Suv : Same Hu Hv := e1.trans (e2.trans (e3.trans (e4.trans (e5.trans Sv))))
      have Ssv := Su.trans Suv
      have PAv := PA3.same Suv
      have POv := PO2.same Ssv
      have hxv := Ssv _ _ hx
      have hyv := Suv _ _ hy
      have MX : MakAt Hv M x _ _ _ _ := ⟨⟨dx, t1, t2, hxv, Ssv _ _ h1, Ssv _ _ h2⟩, fun z hz => (PAv.w z (by simp [hz])).1, fun z hz => (PAv.w z (by simp [hz])).1⟩
      have MY : MakAt Hv M y _ _ _ _ := ⟨⟨dy, s1, s2, hyv, Suv _ _ h3, Suv _ _ h4⟩, fun z hz => (POv.w z (by simp [hz])).1, fun z hz => (POv.w z (by simp [hz])).1⟩
      refine ⟨_, rfl, _, rfl, x, y, M, dx, dy, _, _, rfl, rfl, hxv, hyv, nfMM, x, y, _, _, _, _, rfl, MX, .inl ⟨_, _, _, _, tyM _ _ _ _ hyv, MY, _, rfl, _, rfl, _, rfl, _, _, PAv.dp, POv.dp, PAv.shaped, POv.shaped, rfl, _, rfl, ?_⟩⟩
      rw [eqv_parts]
      refine ite2 (fun q => absurd q (by simp)) (fun _ => ?_)
      refine ⟨_, rfl, _, rfl, y, x, M, dy, dx, _, _, rfl, rfl, hyv, hxv, nfMM, y, x, _, _, _, _, rfl, MY, .inl ⟨_, _, _, _, tyM _ _ _ _ hxv, MX, _, rfl, _, rfl, _, rfl, _, _, PAv.dp, POv.dp, PAv.shaped, POv.shaped, rfl, _, rfl, ?_⟩⟩
      rw [eqv_parts, sameM_symm]
      refine ite2 (fun q => absurd q (by simp)) (fun _ => ?_)
      refine ⟨_, rfl, _, rfl, x, xr, Rl, dx, dxr, _, _, rfl, rfl, hxv, hxr, nfMR, x, xr, _, _, _, _, rfl, MX, .inr ⟨Rl, tyR _ _ _ _ hxr, kRM, false, rfl, _, rfl, ?_⟩⟩
      refine iteF ?_
      refine ⟨_, rfl, _, rfl, xr, x, M, dxr, dx, _, _, rfl, rfl, hxr, hxv, nfRM, xr, x, M, rfl, tyM _ _ _ _ hxv, kMR, false, rfl, _, rfl, ?_⟩
      refine iteF ?_
      refine ⟨_, rfl, _, rfl, x, x, dx, dx, _, _, rfl, rfl, hxv, hxv, x, x, _, _, _, _, rfl, MX, .inl ⟨_, _, _, _, tyM _ _ _ _ hxv, MX, _, rfl, _, rfl, ?_⟩⟩
      rw [sameM_self]
      exact iteF ⟨⟨_, _, _, _, _, _, _, _, _, rfl⟩, SQ.trans (Rr.trans (Ss.trans Ssv))⟩
    · refine ⟨_, rfl, _, _, rfl, rfl, _, rfl, ?_⟩
      refine ite2 (fun q => absurd (of_decide_eq_true q) (by decide)) (fun _ => ?_)
      refine ⟨_, rfl, rfl, _, rfl, ?_⟩
      refine ite2 (fun q => absurd (V.int.inj (of_decide_eq_true q)) (by decide)) (fun _ => ?_)
      refine ⟨_, rfl, rfl, _, rfl, ?_⟩
      refine ite2 (fun q => absurd (V.int.inj (of_decide_eq_true q)) (by decide)) (fun _ => ?_)
      refine ⟨_, rfl, rfl, _, rfl, ?_⟩
      refine ite2 (fun _ => ?_) (fun q => absurd (decide_eq_true rfl) q)
      refine ⟨_, rfl, p, rfl, st9, fun o2 k1 k2 mk2 md2 ds2 us2 Hq no2 nk1 nk2 B9 st10 PO => ?_⟩
      dsimp only [List.set_cons_succ, List.set_cons_zero]
      have PA := Pa.but B9 (st5.ne nd) (st5.ne nl1) (st5.ne nl2)
      have HT := B9 _ _ ntp ht9
      have SQ := But.same p3 S9 B9
      -- the last question
      refine ⟨_, rfl, rdTupC HT (j := 0) rfl rfl ⟨rfl, _, rfl, ?_⟩⟩
      refine ite2 (fun qa => ?_) (fun _ => ?_)
      rotate_left
      · exact iteF ⟨⟨_, _, _, _, _, _, _, _, _, rfl⟩, SQ⟩
      refine ⟨_, rfl, _, _, _, _, _, _, _, rfl, PO, fun t' xs' D' tag' Hr Rr ht' dp' due' => ?_⟩
      refine rdTupC ht' (j := 0) rfl rfl ⟨rfl, _, rfl, ?_⟩
      refine ite2 (fun qb => ?_) (fun _ => ?_)
      rotate_left
      · exact ⟨⟨_, _, _, _, _, _, _, _, _, rfl⟩, SQ.trans Rr⟩
      have ma := due7.made (V.str.inj (of_decide_eq_true qa))
      have mb := due'.made (V.str.inj (of_decide_eq_true qb))
      have PA1 := PA.same Rr
      have PO1 := PO.same Rr
      refine ⟨_, rfl, rdListC PA1.hd (j := 0) rfl rfl ⟨_, rfl, rdListC PA1.hd (j := 1) rfl rfl ⟨_, rfl, rdListC PA1.hd (j := 2) rfl rfl ⟨_, rfl, rdListC PA1.hd (j := 3) rfl rfl ?_⟩⟩⟩⟩
      intro x dx nx ndx nex
      refine ⟨Hr, x, dx, _, _, _, _, _, _, rfl, same_make nx ndx, nx, upd_same, SqL.of PA1.h1, SqL.of PA1.h2, Nat.le_trans PA1.n1 (by decide), Nat.le_trans PA1.n2 (by decide), fun z hz => Nat.le_trans (PA1.w z hz).2 (by decide), made_due ma ?_⟩
      intro Hs Ss t1 t2 hx h1 h2
      refine ⟨rfl, ?_⟩
      dsimp only [List.set_cons_succ, List.set_cons_zero]
      have PO2 := PO1.same Ss
      refine ⟨_, rfl, rdListC PO2.hd (j := 0) rfl rfl ⟨_, rfl, rdListC PO2.hd (j := 1) rfl rfl ⟨_, rfl, rdListC PO2.hd (j := 2) rfl rfl ⟨_, rfl, rdListC PO2.hd (j := 3) rfl rfl ?_⟩⟩⟩⟩
      intro y dy ny ndy ney
      refine ⟨Hs, y, dy, _, _, _, _, _, _, rfl, same_make ny ndy, ny, upd_same, SqL.of PO2.h1, SqL.of PO2.h2, Nat.le_trans PO2.n1 (by decide), Nat.le_trans PO2.n2 (by decide), fun z hz => Nat.le_trans (PO2.w z hz).2 (by decide), made_due mb ?_⟩
      intro Hu Su s1 s2 hy h3 h4
      refine ⟨rfl, ?_⟩
      dsimp only [List.set_cons_succ, List.set_cons_zero]
      have PA3 := PA1.same (Ss.trans Su)
      refine ⟨_, rfl, rdListC PA3.hd (j := 0) rfl rfl ⟨by show 2 ≤ sizeLine; decide, fun q1 n1 => ⟨by show 1 ≤ sizeLine; decide, fun q2 n2 => ⟨by show 3 ≤ sizeLine; decide, fun q3 n3 => ⟨by show 1 ≤ sizeLine; decide, fun q4 n4 => ⟨by show 3 ≤ sizeLine; decide, fun q5 n5 => ?_⟩⟩⟩⟩⟩⟩
      intro xr dxr nxr ndxr nexr
      have e1 := Same.upd (o := .tup [.str "a", .non]) n1
      have e2 := Same.upd (o := .lst [.ref q1]) n2
      have e3 := Same.upd (o := .tup [.str "a", .str "own", .str "a"]) n3
      have e4 := Same.upd (o := .lst [.ref q3]) n4
      have e5 := Same.upd (o := .tup [.str "a", .str "own", .str "a"]) n5
      have im : isNm mk = true := by
        have z := List.find?_eq_none.mp ma.1 mk (by simp)
        simpa using z
      have tx : ∀ z ∈ textsL mk [(("a" : Str), none)] ([(("a" : Str), ("own" : Str), ("a" : Str))] ++ [(("a" : Str), ("own" : Str), ("a" : Str))]), z.length ≤ 1000 ∧ isNm z = true := fun z hz => by
        rcases List.mem_cons.mp hz with rfl | hz
        · exact ⟨Nat.le_trans (PA3.w _ (by simp)).2 (by decide), im⟩
        · exact textA z hz
      refine ⟨_, xr, dxr, q2, q4, q5, mk, "a", [q1], [q3], [("a", none)], [("a", "own", "a")], ("a", "own", "a"), rfl, same_make nxr ndxr, nxr, upd_same, SqL.of (e5 _ _ (e4 _ _ (e3 _ _ upd_same))), ⟨SqT.of (e5 _ _ (e4 _ _ (e3 _ _ (e2 _ _ upd_same)))), True.intro⟩, SqL.of (e5 _ _ upd_same), ⟨SqT.of (e5 _ _ (e4 _ _ upd_same)), True.intro⟩, upd_same, patA, fun z hz => (tx z hz).1, dueM_all (fun z hz => (tx z hz).2) ?_⟩
      intro Hv Sv r1 r2 hxr hr1' hr2'
      refine ⟨rfl, ?_⟩
      dsimp only [List.set_cons_succ, List.set_cons_zero]
      have Suv : Same Hu Hv := e1.trans (e2.trans (e3.trans (e4.trans (e5.trans Sv))))
      have Ssv := Su.trans Suv
      have PAv := PA3.same Suv
      have POv := PO2.same Ssv
      have hxv := Ssv _ _ hx
      have hyv := Suv _ _ hy
      have MX : MakAt Hv M x _ _ _ _ := ⟨⟨dx, t1, t2, hxv, Ssv _ _ h1, Ssv _ _ h2⟩, fun z hz => (PAv.w z (by simp [hz])).1, fun z hz => (PAv.w z (by simp [hz])).1⟩
      have MY : MakAt Hv M y _ _ _ _ := ⟨⟨dy, s1, s2, hyv, Suv _ _ h3, Suv _ _ h4⟩, fun z hz => (POv.w z (by simp [hz])).1, fun z hz => (POv.w z (by simp [hz])).1⟩
      refine ⟨_, rfl, _, rfl, x, y, M, dx, dy, _, _, rfl, rfl, hxv, hyv, nfMM, x, y, _, _, _, _, rfl, MX, .inl ⟨_, _, _, _, tyM _ _ _ _ hyv, MY, _, rfl, _, rfl, _, rfl, _, _, PAv.dp, POv.dp, PAv.shaped, POv.shaped, rfl, _, rfl, ?_⟩⟩
      rw [eqv_parts]
      refine ite2 (fun q => absurd q (by simp)) (fun _ => ?_)
      refine ⟨_, rfl, _, rfl, y, x, M, dy, dx, _, _, rfl, rfl, hyv, hxv, nfMM, y, x, _, _, _, _, rfl, MY, .inl ⟨_, _, _, _, tyM _ _ _ _ hxv, MX, _, rfl, _, rfl, _, rfl, _, _, PAv.dp, POv.dp, PAv.shaped, POv.shaped, rfl, _, rfl, ?_⟩⟩
      rw [eqv_parts, sameM_symm]
      refine ite2 (fun q => absurd q (by simp)) (fun _ => ?_)
      refine ⟨_, rfl, _, rfl, x, xr, Rl, dx, dxr, _, _, rfl, rfl, hxv, hxr, nfMR, x, xr, _, _, _, _, rfl, MX, .inr ⟨Rl, tyR _ _ _ _ hxr, kRM, false, rfl, _, rfl, ?_⟩⟩
      refine iteF ?_
      refine ⟨_, rfl, _, rfl, xr, x, M, dxr, dx, _, _, rfl, rfl, hxr, hxv, nfRM, xr, x, M, rfl, tyM _ _ _ _ hxv, kMR, false, rfl, _, rfl, ?_⟩
      refine iteF ?_
      refine ⟨_, rfl, _, rfl, x, x, dx, dx, _, _, rfl, rfl, hxv, hxv, x, x, _, _, _, _, rfl, MX, .inl ⟨_, _, _, _, tyM _ _ _ _ hxv, MX, _, rfl, _, rfl, ?_⟩⟩
      rw [sameM_self]
      exact iteF ⟨⟨_, _, _, _, _, _, _, _, _, rfl⟩, SQ.trans (Rr.trans (Ss.trans Ssv))⟩
    · refine ⟨_, rfl, _, _, rfl, rfl, _, rfl, ?_⟩
      refine ite2 (fun q => absurd (of_decide_eq_true q) (by decide)) (fun _ => ?_)
      refine ⟨_, rfl, rfl, _, rfl, ?_⟩
      refine ite2 (fun q => absurd (V.int.inj (of_decide_eq_true q)) (by decide)) (fun _ => ?_)
      refine ⟨_, rfl, rfl, _, rfl, ?_⟩
      refine ite2 (fun q => absurd (V.int.inj (of_decide_eq_true q)) (by decide)) (fun _ => ?_)
      refine ⟨_, rfl, rfl, _, rfl, ?_⟩
      refine ite2 (fun q => absurd (V.int.inj (of_decide_eq_true q)) (by decide)) (fun _ => ?_)
      have PA := Pa
      have PO := Po
      have HT := ht9
      have SQ := S9
      -- the last question
      refine ⟨_, rfl, rdTupC HT (j := 0) rfl rfl ⟨rfl, _, rfl, ?_⟩⟩
      refine ite2 (fun qa => ?_) (fun _ => ?_)
      rotate_left
      · exact iteF ⟨⟨_, _, _, _, _, _, _, _, _, rfl⟩, SQ⟩
      refine ⟨_, rfl, _, _, _, _, _, _, _, rfl, PO, fun t' xs' D' tag' Hr Rr ht' dp' due' => ?_⟩
      refine rdTupC ht' (j := 0) rfl rfl ⟨rfl, _, rfl, ?_⟩
      refine ite2 (fun qb => ?_) (fun _ => ?_)
      rotate_left
      · exact ⟨⟨_, _, _, _, _, _, _, _, _, rfl⟩, SQ.trans Rr⟩
      have ma := due7.made (V.str.inj (of_decide_eq_true qa))
      have mb := due'.made (V.str.inj (of_decide_eq_true qb))
      have PA1 := PA.same Rr
      have PO1 := PO.same Rr
      refine ⟨_, rfl, rdListC PA1.hd (j := 0) rfl rfl ⟨_, rfl, rdListC PA1.hd (j := 1) rfl rfl ⟨_, rfl, rdListC PA1.hd (j := 2) rfl rfl ⟨_, rfl, rdListC PA1.hd (j := 3) rfl rfl ?_⟩⟩⟩⟩
      intro x dx nx ndx nex
      refine ⟨Hr, x, dx, _, _, _, _, _, _, rfl, same_make nx ndx, nx, upd_same, SqL.of PA1.h1, SqL.of PA1.h2, Nat.le_trans PA1.n1 (by decide), Nat.le_trans PA1.n2 (by decide), fun z hz => Nat.le_trans (PA1.w z hz).2 (by decide), made_due ma ?_⟩
      intro Hs Ss t1 t2 hx h1 h2
      refine ⟨rfl, ?_⟩
      dsimp only [List.set_cons_succ, List.set_cons_zero]
      have PO2 := PO1.same Ss
      refine ⟨_, rfl, rdListC PO2.hd (j := 0) rfl rfl ⟨_, rfl, rdListC PO2.hd (j := 1) rfl rfl ⟨_, rfl, rdListC PO2.hd (j := 2) rfl rfl ⟨_, rfl, rdListC PO2.hd (j := 3) rfl rfl ?_⟩⟩⟩⟩
      intro y dy ny ndy ney
      refine ⟨Hs, y, dy, _, _, _, _, _, _, rfl, same_make ny ndy, ny, upd_same, SqL.of PO2.h1, SqL.of PO2.h2, Nat.le_trans PO2.n1 (by decide), Nat.le_trans PO2.n2 (by decide), fun z hz => Nat.le_trans (PO2.w z hz).2 (by decide), made_due mb ?_⟩
      intro Hu Su s1 s2 hy h3 h4
      refine ⟨rfl, ?_⟩
      dsimp only [List.set_cons_succ, List.set_cons_zero]
      have PA3 := PA1.same (Ss.trans Su)
      refine ⟨_, rfl, rdListC PA3.hd (j := 0) rfl rfl ⟨by show 2 ≤ sizeLine; decide, fun q1 n1 => ⟨by show 1 ≤ sizeLine; decide, fun q2 n2 => ⟨by show 3 ≤ sizeLine; decide, fun q3 n3 => ⟨by show 1 ≤ sizeLine; decide, fun q4 n4 => ⟨by show 3 ≤ sizeLine; decide, fun q5 n5 => ?_⟩⟩⟩⟩⟩⟩
      intro xr dxr nxr ndxr nexr
      have e1 := Same.upd (o := .tup [.str "a", .non]) n1
      have e2 := Same.upd (o := .lst [.ref q1]) n2
      have e3 := Same.upd (o := .tup [.str "a", .str "own", .str "a"]) n3
      have e4 := Same.upd (o := .lst [.ref q3]) n4
      have e5 := Same.upd (o := .tup [.str "a", .str "own", .str "a"]) n5
      have im : isNm mk = true := by
        have z := List.find?_eq_none.mp ma.1 mk (by simp)
        simpa using z
      have tx : ∀ z ∈ textsL mk [(("a" : Str), none)] ([(("a" : Str), ("own" : Str), ("a" : Str))] ++ [(("a" : Str), ("own" : Str), ("a" : Str))]), z.length ≤ 1000 ∧ isNm z = true := fun z hz => by
        rcases List.mem_cons.mp hz with rfl | hz
        · exact ⟨Nat.le_trans (PA3.w _ (by simp)).2 (by decide), im⟩
        · exact textA z hz
      refine ⟨_, xr, dxr, q2, q4, q5, mk, "a", [q1], [q3], [("a", none)], [("a", "own", "a")], ("a", "own", "a"), rfl, same_make nxr ndxr, nxr, upd_same, SqL.of (e5 _ _ (e4 _ _ (e3 _ _ upd_same))), ⟨SqT.of (e5 _ _ (e4 _ _ (e3 _ _ (e2 _ _ upd_same)))), True.intro⟩, SqL.of (e5 _ _ upd_same), ⟨SqT.of (e5 _ _ (e4 _ _ upd_same)), True.intro⟩, upd_same, patA, fun z hz => (tx z hz).1, dueM_all (fun z hz => (tx z hz).2) ?_⟩
      intro Hv Sv r1 r2 hxr hr1' hr2'
      refine ⟨rfl, ?_⟩
      dsimp only [List.set_cons_succ, List.set_cons_zero]
      have Suv : Same Hu Hv := e1.trans (e2.trans (e3.trans (e4.trans (e5.trans Sv))))
      have Ssv := Su.trans Suv
      have PAv := PA3.same Suv
      have POv := PO2.same Ssv
      have hxv := Ssv _ _ hx
      have hyv := Suv _ _ hy
      have MX : MakAt Hv M x _ _ _ _ := ⟨⟨dx, t1, t2, hxv, Ssv _ _ h1, Ssv _ _ h2⟩, fun z hz => (PAv.w z (by simp [hz])).1, fun z hz => (PAv.w z (by simp [hz])).1⟩
      have MY : MakAt Hv M y _ _ _ _ := ⟨⟨dy, s1, s2, hyv, Suv _ _ h3, Suv _ _ h4⟩, fun z hz => (POv.w z (by simp [hz])).1, fun z hz => (POv.w z (by simp [hz])).1⟩
      refine ⟨_, rfl, _, rfl, x, y, M, dx, dy, _, _, rfl, rfl, hxv, hyv, nfMM, x, y, _, _, _, _, rfl, MX, .inl ⟨_, _, _, _, tyM _ _ _ _ hyv, MY, _, rfl, _, rfl, _, rfl, _, _, PAv.dp, POv.dp, PAv.shaped, POv.shaped, rfl, _, rfl, ?_⟩⟩
      rw [eqv_parts]
      refine ite2 (fun q => absurd q (by simp)) (fun _ => ?_)
      refine ⟨_, rfl, _, rfl, y, x, M, dy, dx, _, _, rfl, rfl, hyv, hxv, nfMM, y, x, _, _, _, _, rfl, MY, .inl ⟨_, _, _, _, tyM _ _ _ _ hxv, MX, _, rfl, _, rfl, _, rfl, _, _, PAv.dp, POv.dp, PAv.shaped, POv.shaped, rfl, _, rfl, ?_⟩⟩
      rw [eqv_parts, sameM_symm]
      refine ite2 (fun q => absurd q (by simp)) (fun _ => ?_)
      refine ⟨_, rfl, _, rfl, x, xr, Rl, dx, dxr, _, _, rfl, rfl, hxv, hxr, nfMR, x, xr, _, _, _, _, rfl, MX, .inr ⟨Rl, tyR _ _ _ _ hxr, kRM, false, rfl, _, rfl, ?_⟩⟩
      refine iteF ?_
      refine ⟨_, rfl, _, rfl, xr, x, M, dxr, dx, _, _, rfl, rfl, hxr, hxv, nfRM, xr, x, M, rfl, tyM _ _ _ _ hxv, kMR, false, rfl, _, rfl, ?_⟩
      refine iteF ?_
      refine ⟨_, rfl, _, rfl, x, x, dx, dx, _, _, rfl, rfl, hxv, hxv, x, x, _, _, _, _, rfl, MX, .inl ⟨_, _, _, _, tyM _ _ _ _ hxv, MX, _, rfl, _, rfl, ?_⟩⟩
      rw [sameM_self]
      exact iteF ⟨⟨_, _, _, _, _, _, _, _, _, rfl⟩, SQ.trans (Rr.trans (Ss.trans Ssv))⟩
end
end Wm
namespace Wm
open PySem L2 StX ClX
theorem strKeys_of {es : Array DictEntry} (h : (es.toList.all fun e => match e.key with | .str _ _ => true | _ => false) = true) : StrKeys es := fun e he => by
  have q := List.all_eq_true.mp h e (by simpa using he)
  cases k : e.key with
  | str n t => exact ⟨n, t, rfl⟩
  | _ => rw [k] at q; cases q
theorem all_mk {l : PySem.W.OpenLaw} {w : World} {K : PySem.W.Frag} {h : Heap} {mg : Str → Option Value} {fa f0 f1 f2 f3 f4 f5 f6 f7 f8 f9 f10 f11 f12 f13 f14 f15 f16 f17 f18 f19 f20 f21 f22 fC fT fR fM fRE fME fW C Tw R M W TD : Addr} (X : K.In h) (G : h.Ns mainGlobals mg) (hfa : mg "law" = some (.ref fa))
    {od0 an0 : Option Addr} {sl0 : Array (Option Value)} {oc0 kV0 dc0 pm0 cd0 ct0 : Value} {od1 an1 : Option Addr} {sl1 : Array (Option Value)} {oc1 kV1 dc1 pm1 cd1 ct1 : Value} {od2 an2 : Option Addr} {sl2 : Array (Option Value)} {oc2 kV2 dc2 pm2 cd2 ct2 : Value} {od3 an3 : Option Addr} {sl3 : Array (Option Value)} {oc3 kV3 dc3 pm3 cd3 ct3 : Value} {od4 an4 : Option Addr} {sl4 : Array (Option Value)} {oc4 kV4 dc4 pm4 cd4 ct4 : Value} {od5 an5 : Option Addr} {sl5 : Array (Option Value)} {oc5 kV5 dc5 pm5 cd5 ct5 : Value} {od6 an6 : Option Addr} {sl6 : Array (Option Value)} {oc6 kV6 dc6 pm6 cd6 ct6 : Value} {od7 an7 : Option Addr} {sl7 : Array (Option Value)} {oc7 kV7 dc7 pm7 cd7 ct7 : Value} {od8 an8 : Option Addr} {sl8 : Array (Option Value)} {oc8 kV8 dc8 pm8 cd8 ct8 : Value} {od9 an9 : Option Addr} {sl9 : Array (Option Value)} {oc9 kV9 dc9 pm9 cd9 ct9 : Value} {od10 an10 : Option Addr} {sl10 : Array (Option Value)} {oc10 kV10 dc10 pm10 cd10 ct10 : Value} {od11 an11 : Option Addr} {sl11 : Array (Option Value)} {oc11 kV11 dc11 pm11 cd11 ct11 : Value} {od12 an12 : Option Addr} {sl12 : Array (Option Value)} {oc12 kV12 dc12 pm12 cd12 ct12 : Value} {od13 an13 : Option Addr} {sl13 : Array (Option Value)} {oc13 kV13 dc13 pm13 cd13 ct13 : Value} {od14 an14 : Option Addr} {sl14 : Array (Option Value)} {oc14 kV14 dc14 pm14 cd14 ct14 : Value} {od15 an15 : Option Addr} {sl15 : Array (Option Value)} {oc15 kV15 dc15 pm15 cd15 ct15 : Value} {od16 an16 : Option Addr} {sl16 : Array (Option Value)} {oc16 kV16 dc16 pm16 cd16 ct16 : Value} {od17 an17 : Option Addr} {sl17 : Array (Option Value)} {oc17 kV17 dc17 pm17 cd17 ct17 : Value} {od18 an18 : Option Addr} {sl18 : Array (Option Value)} {oc18 kV18 dc18 pm18 cd18 ct18 : Value} {od19 an19 : Option Addr} {sl19 : Array (Option Value)} {oc19 kV19 dc19 pm19 cd19 ct19 : Value} {od20 an20 : Option Addr} {sl20 : Array (Option Value)} {oc20 kV20 dc20 pm20 cd20 ct20 : Value} {od21 an21 : Option Addr} {sl21 : Array (Option Value)} {oc21 kV21 dc21 pm21 cd21 ct21 : Value} {od22 an22 : Option Addr} {sl22 : Array (Option Value)} {oc22 kV22 dc22 pm22 cd22 ct22 : Value} {odC anC : Option Addr} {slC : Array (Option Value)} {ocC kVC dcC pmC cdC ctC : Value} {odT anT : Option Addr} {slT : Array (Option Value)} {ocT kVT dcT pmT cdT ctT : Value} {odR anR : Option Addr} {slR : Array (Option Value)} {ocR kVR dcR pmR cdR ctR : Value} {odM anM : Option Addr} {slM : Array (Option Value)} {ocM kVM dcM pmM cdM ctM : Value} {odRE anRE : Option Addr} {slRE : Array (Option Value)} {ocRE kVRE dcRE pmRE cdRE ctRE : Value} {odME anME : Option Addr} {slME : Array (Option Value)} {ocME kVME dcME pmME cdME ctME : Value} {odW anW : Option Addr} {slW : Array (Option Value)} {ocW kVW dcW pmW cdW ctW : Value} {ocD : Value} {odD : Option Addr} {tD : Tok} {nD : Nat} {slD : Array (Option Value)} {nmC qC : Str} {NC : Addr} {bsC : List Value} {snC : List Str} {subC : List Value} {abC : Bool} {colC : Option Bool} {ddC : Option Addr} {m0C m1C m2C m3C m5C : Option Value} {nmTw qTw : Str} {NTw : Addr} {bsTw : List Value} {snTw : List Str} {subTw : List Value} {abTw : Bool} {colTw : Option Bool} {ddTw : Option Addr} {m0Tw m1Tw m2Tw m3Tw m5Tw : Option Value} {nmM qM : Str} {NM : Addr} {bsM : List Value} {hcM : Bool} {snM : List Str} {subM : List Value} {abM : Bool} {colM : Option Bool} {ddM : Option Addr} {m0M m1M m2M m3M m5M : Option Value} {nwM : String} {ocN : Value} {odN : Option Addr} {esN : Array DictEntry} {epN : Nat} {slN : Array (Option Value)} {t_LETTERS : Tok} {t_FIGURES : Tok} {t_LONGEST_NAME : Tok} {t_MOST_VARIABLES : Tok} {t_MOST_CONDITIONS : Tok}
    (a0 : PySem.W.nsIn K mainGlobals "is_name" = some (some (.ref f0)))
    (l0 : K.lookup f0 = some ⟨oc0, od0, .func (PySem.W.fnOf "is_name" "is_name" (defArgs sName) (defBody sName) (defScope sName) .none kV0 dc0 pm0 an0 cd0 ct0), sl0⟩)
    (c0 : PySem.W.codeIn K cd0 "is_name" = true)
    (k0 : PySem.W.keepIn K (.ref f0) = true)
    (a1 : PySem.W.nsIn K mainGlobals "refuse_no_name" = some (some (.ref f1)))
    (l1 : K.lookup f1 = some ⟨oc1, od1, .func (PySem.W.fnOf "refuse_no_name" "refuse_no_name" (defArgs sRN) (defBody sRN) (defScope sRN) .none kV1 dc1 pm1 an1 cd1 ct1), sl1⟩)
    (c1 : PySem.W.codeIn K cd1 "refuse_no_name" = true)
    (k1 : PySem.W.keepIn K (.ref f1) = true)
    (a2 : PySem.W.nsIn K mainGlobals "first_twice" = some (some (.ref f2)))
    (l2 : K.lookup f2 = some ⟨oc2, od2, .func (PySem.W.fnOf "first_twice" "first_twice" (defArgs sFT) (defBody sFT) (defScope sFT) .none kV2 dc2 pm2 an2 cd2 ct2), sl2⟩)
    (c2 : PySem.W.codeIn K cd2 "first_twice" = true)
    (k2 : PySem.W.keepIn K (.ref f2) = true)
    (a3 : PySem.W.nsIn K mainGlobals "refuse_twice" = some (some (.ref f3)))
    (l3 : K.lookup f3 = some ⟨oc3, od3, .func (PySem.W.fnOf "refuse_twice" "refuse_twice" (defArgs sRT) (defBody sRT) (defScope sRT) .none kV3 dc3 pm3 an3 cd3 ct3), sl3⟩)
    (c3 : PySem.W.codeIn K cd3 "refuse_twice" = true)
    (k3 : PySem.W.keepIn K (.ref f3) = true)
    (a4 : PySem.W.nsIn K mainGlobals "refuse_count" = some (some (.ref f4)))
    (l4 : K.lookup f4 = some ⟨oc4, od4, .func (PySem.W.fnOf "refuse_count" "refuse_count" (defArgs sRC) (defBody sRC) (defScope sRC) .none kV4 dc4 pm4 an4 cd4 ct4), sl4⟩)
    (c4 : PySem.W.codeIn K cd4 "refuse_count" = true)
    (k4 : PySem.W.keepIn K (.ref f4) = true)
    (a5 : PySem.W.nsIn K mainGlobals "tuple_of_tuples" = some (some (.ref f5)))
    (l5 : K.lookup f5 = some ⟨oc5, od5, .func (PySem.W.fnOf "tuple_of_tuples" "tuple_of_tuples" (defArgs sTT) (defBody sTT) (defScope sTT) .none kV5 dc5 pm5 an5 cd5 ct5), sl5⟩)
    (c5 : PySem.W.codeIn K cd5 "tuple_of_tuples" = true)
    (k5 : PySem.W.keepIn K (.ref f5) = true)
    (a6 : PySem.W.nsIn K mainGlobals "ends_of" = some (some (.ref f6)))
    (l6 : K.lookup f6 = some ⟨oc6, od6, .func (PySem.W.fnOf "ends_of" "ends_of" (defArgs sEO) (defBody sEO) (defScope sEO) .none kV6 dc6 pm6 an6 cd6 ct6), sl6⟩)
    (c6 : PySem.W.codeIn K cd6 "ends_of" = true)
    (k6 : PySem.W.keepIn K (.ref f6) = true)
    (a7 : PySem.W.nsIn K mainGlobals "texts_of_pattern" = some (some (.ref f7)))
    (l7 : K.lookup f7 = some ⟨oc7, od7, .func (PySem.W.fnOf "texts_of_pattern" "texts_of_pattern" (defArgs sTP) (defBody sTP) (defScope sTP) .none kV7 dc7 pm7 an7 cd7 ct7), sl7⟩)
    (c7 : PySem.W.codeIn K cd7 "texts_of_pattern" = true)
    (k7 : PySem.W.keepIn K (.ref f7) = true)
    (a8 : PySem.W.nsIn K mainGlobals "refuse_no_variable" = some (some (.ref f8)))
    (l8 : K.lookup f8 = some ⟨oc8, od8, .func (PySem.W.fnOf "refuse_no_variable" "refuse_no_variable" (defArgs sRV) (defBody sRV) (defScope sRV) .none kV8 dc8 pm8 an8 cd8 ct8), sl8⟩)
    (c8 : PySem.W.codeIn K cd8 "refuse_no_variable" = true)
    (k8 : PySem.W.keepIn K (.ref f8) = true)
    (a9 : PySem.W.nsIn K mainGlobals "refuse_loose" = some (some (.ref f9)))
    (l9 : K.lookup f9 = some ⟨oc9, od9, .func (PySem.W.fnOf "refuse_loose" "refuse_loose" (defArgs sRL) (defBody sRL) (defScope sRL) .none kV9 dc9 pm9 an9 cd9 ct9), sl9⟩)
    (c9 : PySem.W.codeIn K cd9 "refuse_loose" = true)
    (k9 : PySem.W.keepIn K (.ref f9) = true)
    (a10 : PySem.W.nsIn K mainGlobals "refuse_apart" = some (some (.ref f10)))
    (l10 : K.lookup f10 = some ⟨oc10, od10, .func (PySem.W.fnOf "refuse_apart" "refuse_apart" (defArgs sRA) (defBody sRA) (defScope sRA) .none kV10 dc10 pm10 an10 cd10 ct10), sl10⟩)
    (c10 : PySem.W.codeIn K cd10 "refuse_apart" = true)
    (k10 : PySem.W.keepIn K (.ref f10) = true)
    (a11 : PySem.W.nsIn K mainGlobals "check_pattern" = some (some (.ref f11)))
    (l11 : K.lookup f11 = some ⟨oc11, od11, .func (PySem.W.fnOf "check_pattern" "check_pattern" (defArgs sCP) (defBody sCP) (defScope sCP) .none kV11 dc11 pm11 an11 cd11 ct11), sl11⟩)
    (c11 : PySem.W.codeIn K cd11 "check_pattern" = true)
    (k11 : PySem.W.keepIn K (.ref f11) = true)
    (a12 : PySem.W.nsIn K mainGlobals "_law_state" = some (some (.ref f12)))
    (l12 : K.lookup f12 = some ⟨oc12, od12, .func (PySem.W.fnOf "_law_state" "_law_state" (defArgs sState) (defBody sState) (defScope sState) .none kV12 dc12 pm12 an12 cd12 ct12), sl12⟩)
    (c12 : PySem.W.codeIn K cd12 "_law_state" = true)
    (k12 : PySem.W.keepIn K (.ref f12) = true)
    (a13 : PySem.W.nsIn K mainGlobals "_law_digit" = some (some (.ref f13)))
    (l13 : K.lookup f13 = some ⟨oc13, od13, .func (PySem.W.fnOf "_law_digit" "_law_digit" (defArgs sDigit) (defBody sDigit) (defScope sDigit) .none kV13 dc13 pm13 an13 cd13 ct13), sl13⟩)
    (c13 : PySem.W.codeIn K cd13 "_law_digit" = true)
    (k13 : PySem.W.keepIn K (.ref f13) = true)
    (a14 : PySem.W.nsIn K mainGlobals "_law_words" = some (some (.ref f14)))
    (l14 : K.lookup f14 = some ⟨oc14, od14, .func (PySem.W.fnOf "_law_words" "_law_words" (defArgs sWds) (defBody sWds) (defScope sWds) .none kV14 dc14 pm14 an14 cd14 ct14), sl14⟩)
    (c14 : PySem.W.codeIn K cd14 "_law_words" = true)
    (k14 : PySem.W.keepIn K (.ref f14) = true)
    (a15 : PySem.W.nsIn K mainGlobals "_law_once" = some (some (.ref f15)))
    (l15 : K.lookup f15 = some ⟨oc15, od15, .func (PySem.W.fnOf "_law_once" "_law_once" (defArgs sOnc) (defBody sOnc) (defScope sOnc) .none kV15 dc15 pm15 an15 cd15 ct15), sl15⟩)
    (c15 : PySem.W.codeIn K cd15 "_law_once" = true)
    (k15 : PySem.W.keepIn K (.ref f15) = true)
    (a16 : PySem.W.nsIn K mainGlobals "_law_bad" = some (some (.ref f16)))
    (l16 : K.lookup f16 = some ⟨oc16, od16, .func (PySem.W.fnOf "_law_bad" "_law_bad" (defArgs sBad) (defBody sBad) (defScope sBad) .none kV16 dc16 pm16 an16 cd16 ct16), sl16⟩)
    (c16 : PySem.W.codeIn K cd16 "_law_bad" = true)
    (k16 : PySem.W.keepIn K (.ref f16) = true)
    (a17 : PySem.W.nsIn K mainGlobals "_law_parts" = some (some (.ref f17)))
    (l17 : K.lookup f17 = some ⟨oc17, od17, .func (PySem.W.fnOf "_law_parts" "_law_parts" (defArgs sPts) (defBody sPts) (defScope sPts) .none kV17 dc17 pm17 an17 cd17 ct17), sl17⟩)
    (c17 : PySem.W.codeIn K cd17 "_law_parts" = true)
    (k17 : PySem.W.keepIn K (.ref f17) = true)
    (a18 : PySem.W.nsIn K mainGlobals "_law_is_name" = some (some (.ref f18)))
    (l18 : K.lookup f18 = some ⟨oc18, od18, .func (PySem.W.fnOf "_law_is_name" "_law_is_name" (defArgs sLName) (defBody sLName) (defScope sLName) .none kV18 dc18 pm18 an18 cd18 ct18), sl18⟩)
    (c18 : PySem.W.codeIn K cd18 "_law_is_name" = true)
    (k18 : PySem.W.keepIn K (.ref f18) = true)
    (a19 : PySem.W.nsIn K mainGlobals "_law_due" = some (some (.ref f19)))
    (l19 : K.lookup f19 = some ⟨oc19, od19, .func (PySem.W.fnOf "_law_due" "_law_due" (defArgs sDue) (defBody sDue) (defScope sDue) .none kV19 dc19 pm19 an19 cd19 ct19), sl19⟩)
    (c19 : PySem.W.codeIn K cd19 "_law_due" = true)
    (k19 : PySem.W.keepIn K (.ref f19) = true)
    (a20 : PySem.W.nsIn K mainGlobals "_law_told" = some (some (.ref f20)))
    (l20 : K.lookup f20 = some ⟨oc20, od20, .func (PySem.W.fnOf "_law_told" "_law_told" (defArgs sTld) (defBody sTld) (defScope sTld) .none kV20 dc20 pm20 an20 cd20 ct20), sl20⟩)
    (c20 : PySem.W.codeIn K cd20 "_law_told" = true)
    (k20 : PySem.W.keepIn K (.ref f20) = true)
    (a21 : PySem.W.nsIn K mainGlobals "_law_found" = some (some (.ref f21)))
    (l21 : K.lookup f21 = some ⟨oc21, od21, .func (PySem.W.fnOf "_law_found" "_law_found" (defArgs sFnd) (defBody sFnd) (defScope sFnd) .none kV21 dc21 pm21 an21 cd21 ct21), sl21⟩)
    (c21 : PySem.W.codeIn K cd21 "_law_found" = true)
    (k21 : PySem.W.keepIn K (.ref f21) = true)
    (a22 : PySem.W.nsIn K mainGlobals "law" = some (some (.ref f22)))
    (l22 : K.lookup f22 = some ⟨oc22, od22, .func (PySem.W.fnOf "law" "law" (defArgs sLaw) (defBody sLaw) (defScope sLaw) .none kV22 dc22 pm22 an22 cd22 ct22), sl22⟩)
    (c22 : PySem.W.codeIn K cd22 "law" = true)
    (k22 : PySem.W.keepIn K (.ref f22) = true)
    (gC : PySem.W.nsIn K mainGlobals "NoName" = some (some (.ref C)))
    (iC : PySem.W.findIn K (.ref C) "__init__" = some (some (.ref fC)))
    (lC : K.lookup fC = some ⟨ocC, odC, .func (PySem.W.fnOf "__init__" "NoName.__init__" (defArgs sN0) (defBody sN0) (defScope sN0) .none kVC dcC pmC anC cdC ctC), slC⟩)
    (cC : PySem.W.codeIn K cdC "NoName.__init__" = true)
    (kC : PySem.W.keepIn K (.ref fC) = true)
    (gTw : PySem.W.nsIn K mainGlobals "Twice" = some (some (.ref Tw)))
    (iT : PySem.W.findIn K (.ref Tw) "__init__" = some (some (.ref fT)))
    (lT : K.lookup fT = some ⟨ocT, odT, .func (PySem.W.fnOf "__init__" "Twice.__init__" (defArgs sT0) (defBody sT0) (defScope sT0) .none kVT dcT pmT anT cdT ctT), slT⟩)
    (cT : PySem.W.codeIn K cdT "Twice.__init__" = true)
    (kT : PySem.W.keepIn K (.ref fT) = true)
    (gR : PySem.W.nsIn K mainGlobals "Rule" = some (some (.ref R)))
    (iR : PySem.W.findIn K (.ref R) "__init__" = some (some (.ref fR)))
    (lR : K.lookup fR = some ⟨ocR, odR, .func (PySem.W.fnOf "__init__" "Rule.__init__" (defArgs sRul) (defBody sRul) (defScope sRul) .none kVR dcR pmR anR cdR ctR), slR⟩)
    (cR : PySem.W.codeIn K cdR "Rule.__init__" = true)
    (kR : PySem.W.keepIn K (.ref fR) = true)
    (gM : PySem.W.nsIn K mainGlobals "Making" = some (some (.ref M)))
    (iM : PySem.W.findIn K (.ref M) "__init__" = some (some (.ref fM)))
    (lM : K.lookup fM = some ⟨ocM, odM, .func (PySem.W.fnOf "__init__" "Making.__init__" (defArgs sMak) (defBody sMak) (defScope sMak) .none kVM dcM pmM anM cdM ctM), slM⟩)
    (cM : PySem.W.codeIn K cdM "Making.__init__" = true)
    (kM : PySem.W.keepIn K (.ref fM) = true)
    (iRE : PySem.W.findIn K (.ref R) "__eq__" = some (some (.ref fRE)))
    (lRE : K.lookup fRE = some ⟨ocRE, odRE, .func (PySem.W.fnOf "__eq__" "Rule.__eq__" (defArgs sRE) (defBody sRE) (defScope sRE) .none kVRE dcRE pmRE anRE cdRE ctRE), slRE⟩)
    (cRE : PySem.W.codeIn K cdRE "Rule.__eq__" = true)
    (kRE : PySem.W.keepIn K (.ref fRE) = true)
    (iME : PySem.W.findIn K (.ref M) "__eq__" = some (some (.ref fME)))
    (lME : K.lookup fME = some ⟨ocME, odME, .func (PySem.W.fnOf "__eq__" "Making.__eq__" (defArgs sME) (defBody sME) (defScope sME) .none kVME dcME pmME anME cdME ctME), slME⟩)
    (cME : PySem.W.codeIn K cdME "Making.__eq__" = true)
    (kME : PySem.W.keepIn K (.ref fME) = true)
    (gW : PySem.W.nsIn K mainGlobals "WhoError" = some (some (.ref W)))
    (mW : PySem.W.findCls K (.ref W) (.type "type") "__init__" = some (.val (.ref fW)))
    (lW : K.lookup fW = some ⟨ocW, odW, .func (PySem.W.fnOf "__init__" "WhoError.__init__" (defArgs sW0) (defBody sW0) (defScope sW0) (.ref TD) kVW dcW pmW anW cdW ctW), slW⟩)
    (cW : PySem.W.codeIn K cdW "WhoError.__init__" = true)
    (kW : PySem.W.keepIn K (.ref fW) = true)
    (dW : K.lookup TD = some ⟨ocD, odD, .seq #[.str (PySem.Str.ofString "whoerror") tD] nD, slD⟩)
    (rW : PySem.W.readsIn K W (.type "type") = true)
    (sW : PySem.W.specialIn K (.ref W) "__getattribute__" = some (some (.builtin "type.__getattribute__")))
    (exW : PySem.W.subIn K (.ref W) (.type "BaseException") = some true)
    (hdW : PySem.W.hasDictIn K W = true)
    (tyW : PySem.W.typeIn K (.ref W) = some (.type "type"))
    (hnC : PySem.W.specialIn K (.builtin "object.__class__") "__get__" = some (some (.builtin "getset_descriptor.__get__")))
    (htC : PySem.W.takesIn K (.builtin "object.__class__") = some true)
    (xC : K.lookup C = some (excClassObj nmC qC C NC bsC (.ref W :: [.type "ValueError", .type "Exception", .type "BaseException", .type "object"]) true snC subC abC colC ddC m0C m1C m2C m3C m5C "ValueError.__new__"))
    (saC : PySem.W.findIn K (.ref C) "__setattr__" = some (some (.builtin "object.__setattr__")))
    (exC : PySem.W.subIn K (.ref C) (.type "BaseException") = some true)
    (tyC : PySem.W.typeIn K (.ref C) = some (.type "type"))
    (kpC : PySem.W.keepIn K (.ref C) = true)
    (tIC : PySem.W.typeIn K (.ref fC) = some (.type "function"))
    (nkC : PySem.W.findIn K (.ref C) "kind" = some none)
    (nnC : PySem.W.findIn K (.ref C) "name" = some none)
    (gaC : PySem.W.findIn K (.ref C) "__getattribute__" = some (some (.builtin "BaseException.__getattribute__")))
    (ggC : PySem.W.findIn K (.ref C) "__getattr__" = some none)
    (hdC : PySem.W.hasDictIn K C = true)
    (clC : PySem.W.findIn K (.ref C) "__class__" = some (some (.builtin "object.__class__")))
    (hmC : PySem.W.mroIn K C (.type "object") = some true)
    (swC : PySem.W.subIn K (.ref C) (.ref W) = some true)
    (xTw : K.lookup Tw = some (excClassObj nmTw qTw Tw NTw bsTw (.ref W :: [.type "ValueError", .type "Exception", .type "BaseException", .type "object"]) true snTw subTw abTw colTw ddTw m0Tw m1Tw m2Tw m3Tw m5Tw "ValueError.__new__"))
    (saTw : PySem.W.findIn K (.ref Tw) "__setattr__" = some (some (.builtin "object.__setattr__")))
    (exTw : PySem.W.subIn K (.ref Tw) (.type "BaseException") = some true)
    (tyTw : PySem.W.typeIn K (.ref Tw) = some (.type "type"))
    (kpTw : PySem.W.keepIn K (.ref Tw) = true)
    (tITw : PySem.W.typeIn K (.ref fT) = some (.type "function"))
    (nkTw : PySem.W.findIn K (.ref Tw) "kind" = some none)
    (nnTw : PySem.W.findIn K (.ref Tw) "name" = some none)
    (gaTw : PySem.W.findIn K (.ref Tw) "__getattribute__" = some (some (.builtin "BaseException.__getattribute__")))
    (ggTw : PySem.W.findIn K (.ref Tw) "__getattr__" = some none)
    (hdTw : PySem.W.hasDictIn K Tw = true)
    (clTw : PySem.W.findIn K (.ref Tw) "__class__" = some (some (.builtin "object.__class__")))
    (hmTw : PySem.W.mroIn K Tw (.type "object") = some true)
    (swTw : PySem.W.subIn K (.ref Tw) (.ref W) = some true)
    (qCC : PySem.W.kitOne K (.ref C) (.ref C) = some true)
    (qCT : PySem.W.kitOne K (.ref C) (.ref Tw) = some false)
    (qTT : PySem.W.kitOne K (.ref Tw) (.ref Tw) = some true)
    (qTC : PySem.W.kitOne K (.ref Tw) (.ref C) = some false)
    (qRM : PySem.W.kitOne K (.ref R) (.ref M) = some false)
    (qMR : PySem.W.kitOne K (.ref M) (.ref R) = some false)
    (qMM : PySem.W.kitOne K (.ref M) (.ref M) = some true)
    (fMM : PySem.W.notFirst K M (.ref M) = true)
    (fMR : PySem.W.notFirst K M (.ref R) = true)
    (fRM : PySem.W.notFirst K R (.ref M) = true)
    (pgR : PySem.W.plainGet K R Str.empty = true)
    (hdR : PySem.W.hasDictIn K R = true)
    (poR : PySem.W.plainOver K R = true)
    (saR : PySem.W.findIn K (.ref R) "__setattr__" = some (some (.builtin "object.__setattr__")))
    (mkR : PySem.W.makesIn K R = true)
    (fnR : PySem.W.isFn K (.ref fR) = true)
    (kpR : PySem.W.keepIn K (.ref R) = true)
    (feR : PySem.W.isFn K (.ref fRE) = true)
    (clR : PySem.W.findIn K (.ref R) "__class__" = some (some (.builtin "object.__class__")))
    (hmR : PySem.W.mroIn K R (.type "object") = some true)
    (pgM : PySem.W.plainGet K M Str.empty = true)
    (hdM : PySem.W.hasDictIn K M = true)
    (poM : PySem.W.plainOver K M = true)
    (saM : PySem.W.findIn K (.ref M) "__setattr__" = some (some (.builtin "object.__setattr__")))
    (mkM : PySem.W.makesIn K M = true)
    (fnM : PySem.W.isFn K (.ref fM) = true)
    (kpM : PySem.W.keepIn K (.ref M) = true)
    (feM : PySem.W.isFn K (.ref fME) = true)
    (clM : PySem.W.findIn K (.ref M) "__class__" = some (some (.builtin "object.__class__")))
    (hmM : PySem.W.mroIn K M (.type "object") = some true)
    (nR_name : PySem.W.findIn K (.ref R) "name" = some none)
    (nR_variables : PySem.W.findIn K (.ref R) "variables" = some none)
    (nR_conditions : PySem.W.findIn K (.ref R) "conditions" = some none)
    (nR_gives : PySem.W.findIn K (.ref R) "gives" = some none)
    (nR_by : PySem.W.findIn K (.ref R) "by" = some none)
    (nM_maker : PySem.W.findIn K (.ref M) "maker" = some none)
    (nM_made : PySem.W.findIn K (.ref M) "made" = some none)
    (nM_down : PySem.W.findIn K (.ref M) "down" = some none)
    (nM_up : PySem.W.findIn K (.ref M) "up" = some none)
    (xM : K.lookup M = some (excClassObj nmM qM M NM bsM [.type "object"] hcM snM subM abM colM ddM m0M m1M m2M m3M m5M nwM))
    (xN : K.lookup NM = some ⟨ocN, odN, .dict esN epN, slN⟩)
    (sk : (esN.toList.all fun e => match e.key with | .str _ _ => true | _ => false) = true)
    (eqf : nsFind esN "__eq__" = some (.ref fME))
    (neN : PySem.W.nsIn K NM "__ne__" = some none)
    (ofn : ocME = .type "function")
    (z_abs : PySem.W.nsIn K mainGlobals "abs" = some none)
    (z_int : PySem.W.nsIn K mainGlobals "int" = some none)
    (z_len : PySem.W.nsIn K mainGlobals "len" = some none)
    (z_range : PySem.W.nsIn K mainGlobals "range" = some none)
    (z_all : PySem.W.nsIn K mainGlobals "all" = some none)
    (z_tuple : PySem.W.nsIn K mainGlobals "tuple" = some none)
    (z_enumerate : PySem.W.nsIn K mainGlobals "enumerate" = some none)
    (z_isinstance : PySem.W.nsIn K mainGlobals "isinstance" = some none)
    (z_ve : PySem.W.nsIn K mainGlobals "ValueError" = some none)
    (z_list : PySem.W.nsIn K mainGlobals "list" = some none)
    (v_LETTERS : PySem.W.nsIn K mainGlobals "LETTERS" = some (some (.str (PySem.Str.ofString "abcdefghijklmnopqrstuvwxyz") t_LETTERS)))
    (v_FIGURES : PySem.W.nsIn K mainGlobals "FIGURES" = some (some (.str (PySem.Str.ofString "0123456789") t_FIGURES)))
    (v_LONGEST_NAME : PySem.W.nsIn K mainGlobals "LONGEST_NAME" = some (some (.int 12 t_LONGEST_NAME)))
    (v_MOST_VARIABLES : PySem.W.nsIn K mainGlobals "MOST_VARIABLES" = some (some (.int 4 t_MOST_VARIABLES)))
    (v_MOST_CONDITIONS : PySem.W.nsIn K mainGlobals "MOST_CONDITIONS" = some (some (.int 3 t_MOST_CONDITIONS))) :
    ∃ fd : FuncData, (∀ (s : Shared) (v : Value), BindsTo s fd ⟨[v], []⟩ [("_law_script", v)]) ∧ ∀ base : Heap, K.In base → base.Ns mainGlobals mg → FnOk l.prog w K mg base CX0 9 fa fd ["_law_script"] (spLaw K) := by
  have e := hfa.symm.trans (PySem.W.mg_of X G a22)
  cases e
  have T : TxB mg := ⟨PySem.W.mg_none_of X G z_abs, PySem.W.mg_none_of X G z_int, PySem.W.mg_none_of X G z_len, PySem.W.mg_none_of X G z_range, PySem.W.mg_none_of X G z_all, PySem.W.mg_none_of X G z_tuple, PySem.W.mg_none_of X G z_enumerate, PySem.W.mg_none_of X G z_isinstance, PySem.W.mg_none_of X G z_ve⟩
  have tl := PySem.W.mg_none_of X G z_list
  have TN : TxN mg := ⟨⟨_, PySem.W.mg_of X G v_LETTERS⟩, ⟨_, PySem.W.mg_of X G v_FIGURES⟩, ⟨_, PySem.W.mg_of X G v_LONGEST_NAME⟩⟩
  have TP : TxP mg := ⟨⟨_, PySem.W.mg_of X G v_MOST_VARIABLES⟩, ⟨_, PySem.W.mg_of X G v_MOST_CONDITIONS⟩⟩
  have F0 := fun_mk (st := sName) l0 c0 k0
  have D0 : Dn K mg "is_name" sName ["text"] f0 _ := ⟨F0, PySem.W.mg_of X G a0, F0.binds (ps := ["text"]) fun _ _ _ _ _ _ us hl => match us, hl with | [_], _ => rfl⟩
  have F1 := fun_mk (st := sRN) l1 c1 k1
  have D1 : Dn K mg "refuse_no_name" sRN ["texts"] f1 _ := ⟨F1, PySem.W.mg_of X G a1, F1.binds (ps := ["texts"]) fun _ _ _ _ _ _ us hl => match us, hl with | [_], _ => rfl⟩
  have F2 := fun_mk (st := sFT) l2 c2 k2
  have D2 : Dn K mg "first_twice" sFT ["row"] f2 _ := ⟨F2, PySem.W.mg_of X G a2, F2.binds (ps := ["row"]) fun _ _ _ _ _ _ us hl => match us, hl with | [_], _ => rfl⟩
  have F3 := fun_mk (st := sRT) l3 c3 k3
  have D3 : Dn K mg "refuse_twice" sRT ["names"] f3 _ := ⟨F3, PySem.W.mg_of X G a3, F3.binds (ps := ["names"]) fun _ _ _ _ _ _ us hl => match us, hl with | [_], _ => rfl⟩
  have F4 := fun_mk (st := sRC) l4 c4 k4
  have D4 : Dn K mg "refuse_count" sRC ["what", "count", "least", "most"] f4 _ := ⟨F4, PySem.W.mg_of X G a4, F4.binds (ps := ["what", "count", "least", "most"]) fun _ _ _ _ _ _ us hl => match us, hl with | [_, _, _, _], _ => rfl⟩
  have F5 := fun_mk (st := sTT) l5 c5 k5
  have D5 : Dn K mg "tuple_of_tuples" sTT ["rows"] f5 _ := ⟨F5, PySem.W.mg_of X G a5, F5.binds (ps := ["rows"]) fun _ _ _ _ _ _ us hl => match us, hl with | [_], _ => rfl⟩
  have F6 := fun_mk (st := sEO) l6 c6 k6
  have D6 : Dn K mg "ends_of" sEO ["triples"] f6 _ := ⟨F6, PySem.W.mg_of X G a6, F6.binds (ps := ["triples"]) fun _ _ _ _ _ _ us hl => match us, hl with | [_], _ => rfl⟩
  have F7 := fun_mk (st := sTP) l7 c7 k7
  have D7 : Dn K mg "texts_of_pattern" sTP ["name", "variables", "triples"] f7 _ := ⟨F7, PySem.W.mg_of X G a7, F7.binds (ps := ["name", "variables", "triples"]) fun _ _ _ _ _ _ us hl => match us, hl with | [_, _, _], _ => rfl⟩
  have F8 := fun_mk (st := sRV) l8 c8 k8
  have D8 : Dn K mg "refuse_no_variable" sRV ["names", "texts"] f8 _ := ⟨F8, PySem.W.mg_of X G a8, F8.binds (ps := ["names", "texts"]) fun _ _ _ _ _ _ us hl => match us, hl with | [_, _], _ => rfl⟩
  have F9 := fun_mk (st := sRL) l9 c9 k9
  have D9 : Dn K mg "refuse_loose" sRL ["names", "conditions"] f9 _ := ⟨F9, PySem.W.mg_of X G a9, F9.binds (ps := ["names", "conditions"]) fun _ _ _ _ _ _ us hl => match us, hl with | [_, _], _ => rfl⟩
  have F10 := fun_mk (st := sRA) l10 c10 k10
  have D10 : Dn K mg "refuse_apart" sRA ["conditions"] f10 _ := ⟨F10, PySem.W.mg_of X G a10, F10.binds (ps := ["conditions"]) fun _ _ _ _ _ _ us hl => match us, hl with | [_], _ => rfl⟩
  have F11 := fun_mk (st := sCP) l11 c11 k11
  have D11 : Dn K mg "check_pattern" sCP ["name", "variables", "conditions", "given", "hands"] f11 _ := ⟨F11, PySem.W.mg_of X G a11, F11.binds (ps := ["name", "variables", "conditions", "given", "hands"]) fun _ _ _ _ _ _ us hl => match us, hl with | [_, _, _, _, _], _ => rfl⟩
  have F12 := fun_mk (st := sState) l12 c12 k12
  have D12 : Dn K mg "_law_state" sState ["_law_cell"] f12 _ := ⟨F12, PySem.W.mg_of X G a12, F12.binds (ps := ["_law_cell"]) fun _ _ _ _ _ _ us hl => match us, hl with | [_], _ => rfl⟩
  have F13 := fun_mk (st := sDigit) l13 c13 k13
  have D13 : Dn K mg "_law_digit" sDigit ["_law_state_here", "_law_base"] f13 _ := ⟨F13, PySem.W.mg_of X G a13, F13.binds (ps := ["_law_state_here", "_law_base"]) fun _ _ _ _ _ _ us hl => match us, hl with | [_, _], _ => rfl⟩
  have F14 := fun_mk (st := sWds) l14 c14 k14
  have D14 : Dn K mg "_law_words" sWds ["_law_s"] f14 _ := ⟨F14, PySem.W.mg_of X G a14, F14.binds (ps := ["_law_s"]) fun _ _ _ _ _ _ us hl => match us, hl with | [_], _ => rfl⟩
  have F15 := fun_mk (st := sOnc) l15 c15 k15
  have D15 : Dn K mg "_law_once" sOnc ["_law_words_here"] f15 _ := ⟨F15, PySem.W.mg_of X G a15, F15.binds (ps := ["_law_words_here"]) fun _ _ _ _ _ _ us hl => match us, hl with | [_], _ => rfl⟩
  have F16 := fun_mk (st := sBad) l16 c16 k16
  have D16 : Dn K mg "_law_bad" sBad ["_law_s"] f16 _ := ⟨F16, PySem.W.mg_of X G a16, F16.binds (ps := ["_law_s"]) fun _ _ _ _ _ _ us hl => match us, hl with | [_], _ => rfl⟩
  have F17 := fun_mk (st := sPts) l17 c17 k17
  have D17 : Dn K mg "_law_parts" sPts ["_law_s"] f17 _ := ⟨F17, PySem.W.mg_of X G a17, F17.binds (ps := ["_law_s"]) fun _ _ _ _ _ _ us hl => match us, hl with | [_], _ => rfl⟩
  have F18 := fun_mk (st := sLName) l18 c18 k18
  have D18 : Dn K mg "_law_is_name" sLName ["_law_text"] f18 _ := ⟨F18, PySem.W.mg_of X G a18, F18.binds (ps := ["_law_text"]) fun _ _ _ _ _ _ us hl => match us, hl with | [_], _ => rfl⟩
  have F19 := fun_mk (st := sDue) l19 c19 k19
  have D19 : Dn K mg "_law_due" sDue ["_law_parts_here"] f19 _ := ⟨F19, PySem.W.mg_of X G a19, F19.binds (ps := ["_law_parts_here"]) fun _ _ _ _ _ _ us hl => match us, hl with | [_], _ => rfl⟩
  have F20 := fun_mk (st := sTld) l20 c20 k20
  have D20 : Dn K mg "_law_told" sTld ["_law_e"] f20 _ := ⟨F20, PySem.W.mg_of X G a20, F20.binds (ps := ["_law_e"]) fun _ _ _ _ _ _ us hl => match us, hl with | [_], _ => rfl⟩
  have F21 := fun_mk (st := sFnd) l21 c21 k21
  have D21 : Dn K mg "_law_found" sFnd ["_law_parts_here"] f21 _ := ⟨F21, PySem.W.mg_of X G a21, F21.binds (ps := ["_law_parts_here"]) fun _ _ _ _ _ _ us hl => match us, hl with | [_], _ => rfl⟩
  have F22 := fun_mk (st := sLaw) l22 c22 k22
  have FC := fun_mk (st := sN0) lC cC kC
  have bC := FC.binds (ps := ["self", "name"]) fun _ _ _ _ _ _ us hl => match us, hl with | [_, _], _ => rfl
  have FT := fun_mk (st := sT0) lT cT kT
  have bT := FT.binds (ps := ["self", "name"]) fun _ _ _ _ _ _ us hl => match us, hl with | [_, _], _ => rfl
  have FR := fun_mk (st := sRul) lR cR kR
  have bR := FR.binds (ps := ["self", "name", "variables", "conditions", "gives", "by"]) fun _ _ _ _ _ _ us hl => match us, hl with | [_, _, _, _, _, _], _ => rfl
  have FM := fun_mk (st := sMak) lM cM kM
  have bM := FM.binds (ps := ["self", "maker", "made", "down", "up"]) fun _ _ _ _ _ _ us hl => match us, hl with | [_, _, _, _, _], _ => rfl
  have FRE := fun_mk (st := sRE) lRE cRE kRE
  have bRE := FRE.binds (ps := ["self", "other"]) fun _ _ _ _ _ _ us hl => match us, hl with | [_, _], _ => rfl
  have FME := fun_mk (st := sME) lME cME kME
  have bME := FME.binds (ps := ["self", "other"]) fun _ _ _ _ _ _ us hl => match us, hl with | [_, _], _ => rfl
  have FW : FunD K "__init__" "WhoError.__init__" (defArgs sW0) (defBody sW0) (defScope sW0) [.str (PySem.Str.ofString "whoerror")] [] fW _ :=
    ⟨⟨_, _, _, _, _, _, _, _, _, _, rfl, lW, cW, .inr ⟨by simp, TD, _, [.str (PySem.Str.ofString "whoerror") tD], nD, rfl, dW, rfl, .cons ⟨_, rfl⟩ .nil⟩, .inl rfl⟩, kW⟩
  obtain ⟨ds, hds, bW⟩ := FW.binds1 (ps := ["self", "kind"]) 2 1 (by simp) (by rfl) (fun T kV doc pm an cdv ct us its hu hi => match us, hu, its, hi with | [_, _], _, [_], _ => ⟨_, rfl, rfl⟩)
  cases hds
  have TW : WhoT K mg W fW _ := ⟨PySem.W.mg_of X G gW, ⟨rW, sW⟩, mW, kW, bW⟩
  have oxC : OexC K C := ⟨⟨_, _, _, _, _, _, _, _, _, _, _, _, _, _, _, xC, by rfl⟩, saC, exC, tyC, kpC⟩
  have oxT : OexC K Tw := ⟨⟨_, _, _, _, _, _, _, _, _, _, _, _, _, _, _, xTw, by rfl⟩, saTw, exTw, tyTw, kpTw⟩
  have EC : ErrT K mg "NoName" "name" C fC := ⟨oxC, PySem.W.mg_of X G gC, iC, tIC, nkC, nnC⟩
  have ET : ErrT K mg "Twice" "name" Tw fT := ⟨oxT, PySem.W.mg_of X G gTw, iT, tITw, nkTw, nnTw⟩
  have TE : TxE K mg C W Tw := ⟨PySem.W.mg_of X G gC, PySem.W.mg_of X G gW, PySem.W.mg_of X G gTw, PySem.W.exm_ref exW hdW tyW swC, PySem.W.exm_ref exW hdW tyW swTw, ⟨gaC, ggC, exC, hdC⟩, ⟨gaTw, ggTw, exTw, hdTw⟩, nnC, nnTw, ⟨gaC, ggC, exC, hdC, clC, hnC, htC, hmC⟩, ⟨gaTw, ggTw, exTw, hdTw, clTw, hnC, htC, hmTw⟩, qCC, qCT, qTT, qTC⟩
  have TR : TxRul K mg R fR := ⟨⟨pgR, hdR, poR, saR⟩, nR_name, nR_variables, nR_conditions, nR_gives, nR_by, PySem.W.mg_of X G gR, ⟨mkR, iR, fnR, kpR⟩⟩
  have TM : TxMak K mg M fM := ⟨⟨pgM, hdM, poM, saM⟩, nM_maker, nM_made, nM_down, nM_up, PySem.W.mg_of X G gM, ⟨mkM, iM, fnM, kpM⟩⟩
  have hne : nsFind esN "__ne__" = none := PySem.W.ns_none_of X (⟨_, esN, epN, X NM _ xN, rfl, strKeys_of sk, fun _ => rfl⟩ : h.Ns NM (nsFind esN)) neN
  have QN : EqNe K M fME := ⟨⟨nmM, qM, NM, bsM, hcM, snM, subM, abM, colM, ddM, m0M, m1M, m2M, m3M, m5M, nwM, ocN, odN, esN, epN, slN, _, xM, xN, strKeys_of sk, eqf, hne, lME, ofn⟩⟩
  have tyM : ∀ (H : Hp) (a dx : Addr) (fs : List (Str × V)), H a = some (.ins M dx fs) → TyX K H (.ref a) (.ref M) := fun H a dx fs e => .base (.ins e TM.cl clM hnC htC hmM)
  have tyR : ∀ (H : Hp) (a dx : Addr) (fs : List (Str × V)), H a = some (.ins R dx fs) → TyX K H (.ref a) (.ref R) := fun H a dx fs e => .base (.ins e TR.cl clR hnC htC hmR)
  refine ⟨PySem.W.fnOf "law" "law" (defArgs sLaw) (defBody sLaw) (defScope sLaw) .none kV22 dc22 pm22 an22 cd22 ct22, fun s v => .of_eq rfl, fun base _ _ => ?_⟩
  have GI : FnOk l.prog w K mg base CX0 2 fC _ ["self", "name"] (spE1 C "name" "noname") := ok_noname FC EC TW (ok_who FW)
  have GI2 : FnOk l.prog w K mg base CX0 2 fT _ ["self", "name"] (spE1 Tw "name" "twice") := ok_twice FT ET TW (ok_who FW)
  have GRN : FnOk l.prog w K mg base (L2.CX l.prog w) 4 _ _ ["texts"] (spRN K C) := ok_rn F1 D0 (ok_name F0 T TN) EC bC GI
  have GRT : FnOk l.prog w K mg base CX0 2 _ _ ["names"] (spFT K) := ok_rt F3 T D2
  have GRT2 : FnOk l.prog w K mg base (L2.CX l.prog w) 4 _ _ ["names"] (spRT2 K Tw) := ok_rt2 F3 T D2 ET bT GI2
  have GCP : FnOk l.prog w K mg base (L2.CX l.prog w) 5 _ _ ["name", "variables", "conditions", "given", "hands"] (spCP K C) := ok_cp F11 T TP D4 D1 D7 D3 D8 D6 D9 D10 GRN GRT
  have GR : FnOk l.prog w K mg base (L2.CX l.prog w) 6 fR _ ["self", "name", "variables", "conditions", "gives", "by"] (spRul K C R) := ok_rul FR T TR D5 D11 GCP
  have GM : FnOk l.prog w K mg base (L2.CX l.prog w) 5 fM _ ["self", "maker", "made", "down", "up"] (spMak K C Tw M) := ok_mak FM T TM D1 D3 GRN GRT2
  have GME : FnOk l.prog w K mg base CX0 1 fME _ ["self", "other"] (spME K M) := ok_me FME T TM qMM
  have GRE : FnOk l.prog w K mg base CX0 1 fRE _ ["self", "other"] (spRE K R) := ok_re FRE T TR
  have GP : FnOk l.prog w K mg base CX0 3 _ _ ["_law_s"] spPts := ok_pts F17 T D13 D14 D15 D16
  have GD : FnOk l.prog w K mg base CX0 2 _ _ ["_law_parts_here"] (spDue K) := ok_due F19 T D18
  have GF : FnOk l.prog w K mg base CX0 7 _ _ ["_law_parts_here"] (spFnd K) := ok_fnd F21 T tl TE D20 TM bM GM
  exact ok_law F22 T tl D12 D13 D17 D19 D21 GP GD GF TM bM GM TR bR GR ⟨iME, feM⟩ bME GME ⟨iRE, feR⟩ bRE GRE QN tyM tyR qRM qMR fMM fMR fRM
end Wm
open PySem PySem.W PyProof.Rows in
set_option maxRecDepth 100000 in
set_option maxHeartbeats 0 in
theorem PySem.Challenge.cw_whomay_k04_makings_holds : PySem.Challenge.rw_whomay_k04_makings.Holds := by
  w_on; o_law; k_head; (case hw => w_witness2)
  k_fill
  refine L2.walk_of (n := 63) (k := 9) (x := "_law_script") (CX := fun _ => L2.CX0) (sp := fun w => Wm.spLaw _) (l := PySem.Challenge.rw_whomay_k04_makings) rfl (by decide) rfl ⟨rfl, by decide, by decide⟩ (fun w h Y => PySem.W.kIn_of Y) ?F (fun _ _ a ns hl _ hS => ⟨a, ns, rfl, hS, hl, fun _ => rfl⟩) fun _ _ _ _ _ z => z
  case F =>
    intro w mg fa h KX G hmg
    refine' Wm.all_mk KX G hmg ?a0 ?l0 ?c0 ?k0 ?a1 ?l1 ?c1 ?k1 ?a2 ?l2 ?c2 ?k2 ?a3 ?l3 ?c3 ?k3 ?a4 ?l4 ?c4 ?k4 ?a5 ?l5 ?c5 ?k5 ?a6 ?l6 ?c6 ?k6 ?a7 ?l7 ?c7 ?k7 ?a8 ?l8 ?c8 ?k8 ?a9 ?l9 ?c9 ?k9 ?a10 ?l10 ?c10 ?k10 ?a11 ?l11 ?c11 ?k11 ?a12 ?l12 ?c12 ?k12 ?a13 ?l13 ?c13 ?k13 ?a14 ?l14 ?c14 ?k14 ?a15 ?l15 ?c15 ?k15 ?a16 ?l16 ?c16 ?k16 ?a17 ?l17 ?c17 ?k17 ?a18 ?l18 ?c18 ?k18 ?a19 ?l19 ?c19 ?k19 ?a20 ?l20 ?c20 ?k20 ?a21 ?l21 ?c21 ?k21 ?a22 ?l22 ?c22 ?k22 ?gC ?iC ?lC ?cC ?kC ?gTw ?iT ?lT ?cT ?kT ?gR ?iR ?lR ?cR ?kR ?gM ?iM ?lM ?cM ?kM ?iRE ?lRE ?cRE ?kRE ?iME ?lME ?cME ?kME ?gW ?mW ?lW ?cW ?kW ?dW ?rW ?sW ?exW ?hdW ?tyW ?hnC ?htC ?xC ?saC ?exC ?tyC ?kpC ?tIC ?nkC ?nnC ?gaC ?ggC ?hdC ?clC ?hmC ?swC ?xTw ?saTw ?exTw ?tyTw ?kpTw ?tITw ?nkTw ?nnTw ?gaTw ?ggTw ?hdTw ?clTw ?hmTw ?swTw ?qCC ?qCT ?qTT ?qTC ?qRM ?qMR ?qMM ?fMM ?fMR ?fRM ?pgR ?hdR ?poR ?saR ?mkR ?fnR ?kpR ?feR ?clR ?hmR ?pgM ?hdM ?poM ?saM ?mkM ?fnM ?kpM ?feM ?clM ?hmM ?nR_name ?nR_variables ?nR_conditions ?nR_gives ?nR_by ?nM_maker ?nM_made ?nM_down ?nM_up ?xM ?xN ?sk ?eqf ?neN ?ofn ?z_abs ?z_int ?z_len ?z_range ?z_all ?z_tuple ?z_enumerate ?z_isinstance ?z_ve ?z_list ?v_LETTERS ?v_FIGURES ?v_LONGEST_NAME ?v_MOST_VARIABLES ?v_MOST_CONDITIONS
    (case a0 => k_is)
    (case l0 => k_is)
    (case c0 => k_is)
    (case k0 => k_is)
    (case a1 => k_is)
    (case l1 => k_is)
    (case c1 => k_is)
    (case k1 => k_is)
    (case a2 => k_is)
    (case l2 => k_is)
    (case c2 => k_is)
    (case k2 => k_is)
    (case a3 => k_is)
    (case l3 => k_is)
    (case c3 => k_is)
    (case k3 => k_is)
    (case a4 => k_is)
    (case l4 => k_is)
    (case c4 => k_is)
    (case k4 => k_is)
    (case a5 => k_is)
    (case l5 => k_is)
    (case c5 => k_is)
    (case k5 => k_is)
    (case a6 => k_is)
    (case l6 => k_is)
    (case c6 => k_is)
    (case k6 => k_is)
    (case a7 => k_is)
    (case l7 => k_is)
    (case c7 => k_is)
    (case k7 => k_is)
    (case a8 => k_is)
    (case l8 => k_is)
    (case c8 => k_is)
    (case k8 => k_is)
    (case a9 => k_is)
    (case l9 => k_is)
    (case c9 => k_is)
    (case k9 => k_is)
    (case a10 => k_is)
    (case l10 => k_is)
    (case c10 => k_is)
    (case k10 => k_is)
    (case a11 => k_is)
    (case l11 => k_is)
    (case c11 => k_is)
    (case k11 => k_is)
    (case a12 => k_is)
    (case l12 => k_is)
    (case c12 => k_is)
    (case k12 => k_is)
    (case a13 => k_is)
    (case l13 => k_is)
    (case c13 => k_is)
    (case k13 => k_is)
    (case a14 => k_is)
    (case l14 => k_is)
    (case c14 => k_is)
    (case k14 => k_is)
    (case a15 => k_is)
    (case l15 => k_is)
    (case c15 => k_is)
    (case k15 => k_is)
    (case a16 => k_is)
    (case l16 => k_is)
    (case c16 => k_is)
    (case k16 => k_is)
    (case a17 => k_is)
    (case l17 => k_is)
    (case c17 => k_is)
    (case k17 => k_is)
    (case a18 => k_is)
    (case l18 => k_is)
    (case c18 => k_is)
    (case k18 => k_is)
    (case a19 => k_is)
    (case l19 => k_is)
    (case c19 => k_is)
    (case k19 => k_is)
    (case a20 => k_is)
    (case l20 => k_is)
    (case c20 => k_is)
    (case k20 => k_is)
    (case a21 => k_is)
    (case l21 => k_is)
    (case c21 => k_is)
    (case k21 => k_is)
    (case a22 => k_is)
    (case l22 => k_is)
    (case c22 => k_is)
    (case k22 => k_is)
    (case gC => k_is)
    (case iC => k_is)
    (case lC => k_is)
    (case cC => k_is)
    (case kC => k_is)
    (case gTw => k_is)
    (case iT => k_is)
    (case lT => k_is)
    (case cT => k_is)
    (case kT => k_is)
    (case gR => k_is)
    (case iR => k_is)
    (case lR => k_is)
    (case cR => k_is)
    (case kR => k_is)
    (case gM => k_is)
    (case iM => k_is)
    (case lM => k_is)
    (case cM => k_is)
    (case kM => k_is)
    (case iRE => k_is)
    (case lRE => k_is)
    (case cRE => k_is)
    (case kRE => k_is)
    (case iME => k_is)
    (case lME => k_is)
    (case cME => k_is)
    (case kME => k_is)
    (case gW => k_is)
    (case mW => k_is)
    (case lW => k_is)
    (case cW => k_is)
    (case kW => k_is)
    (case dW => k_is)
    (case rW => k_is)
    (case sW => k_is)
    (case exW => k_is)
    (case hdW => k_is)
    (case tyW => k_is)
    (case hnC => k_is)
    (case htC => k_is)
    (case xC => k_is)
    (case saC => k_is)
    (case exC => k_is)
    (case tyC => k_is)
    (case kpC => k_is)
    (case tIC => k_is)
    (case nkC => k_is)
    (case nnC => k_is)
    (case gaC => k_is)
    (case ggC => k_is)
    (case hdC => k_is)
    (case clC => k_is)
    (case hmC => k_is)
    (case swC => first | rfl | k_is | decide +kernel)
    (case xTw => k_is)
    (case saTw => k_is)
    (case exTw => k_is)
    (case tyTw => k_is)
    (case kpTw => k_is)
    (case tITw => k_is)
    (case nkTw => k_is)
    (case nnTw => k_is)
    (case gaTw => k_is)
    (case ggTw => k_is)
    (case hdTw => k_is)
    (case clTw => k_is)
    (case hmTw => k_is)
    (case swTw => first | rfl | k_is | decide +kernel)
    (case qCC => first | k_is | kit_is)
    (case qCT => first | k_is | kit_is)
    (case qTT => first | k_is | kit_is)
    (case qTC => first | k_is | kit_is)
    (case qRM => first | k_is | kit_is)
    (case qMR => first | k_is | kit_is)
    (case qMM => first | k_is | kit_is)
    (case fMM => first | rfl | k_is | decide +kernel)
    (case fMR => first | rfl | k_is | decide +kernel)
    (case fRM => first | rfl | k_is | decide +kernel)
    (case pgR => k_is)
    (case hdR => k_is)
    (case poR => k_is)
    (case saR => k_is)
    (case mkR => k_is)
    (case fnR => k_is)
    (case kpR => k_is)
    (case feR => k_is)
    (case clR => k_is)
    (case hmR => k_is)
    (case pgM => k_is)
    (case hdM => k_is)
    (case poM => k_is)
    (case saM => k_is)
    (case mkM => k_is)
    (case fnM => k_is)
    (case kpM => k_is)
    (case feM => k_is)
    (case clM => k_is)
    (case hmM => k_is)
    (case nR_name => k_is)
    (case nR_variables => k_is)
    (case nR_conditions => k_is)
    (case nR_gives => k_is)
    (case nR_by => k_is)
    (case nM_maker => k_is)
    (case nM_made => k_is)
    (case nM_down => k_is)
    (case nM_up => k_is)
    (case xM => k_is)
    (case xN => k_is)
    (case sk => first | rfl | k_is | decide +kernel)
    (case eqf => first | rfl | k_is | decide +kernel)
    (case neN => k_is)
    (case ofn => first | rfl | k_is | decide +kernel)
    (case z_abs => k_is)
    (case z_int => k_is)
    (case z_len => k_is)
    (case z_range => k_is)
    (case z_all => k_is)
    (case z_tuple => k_is)
    (case z_enumerate => k_is)
    (case z_isinstance => k_is)
    (case z_ve => k_is)
    (case z_list => k_is)
    (case v_LETTERS => k_is)
    (case v_FIGURES => k_is)
    (case v_LONGEST_NAME => k_is)
    (case v_MOST_VARIABLES => k_is)
    (case v_MOST_CONDITIONS => k_is)
