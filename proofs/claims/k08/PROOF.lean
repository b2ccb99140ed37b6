import PyProof.Rows.All
import Wide.All
import OpenK.AllK
import Wide.FinOn
import HandS.ForMost
import HandS.ForExc
import HandS.Walk
import HandS.Star
import HandS.Style
import HandS.TupAny
import HandS.ExcInit
import HandS.ExcIs
import HandS.ExcField
import HandS.Defaults
import HandS.Wide
import HandS.ClsMeth
import KE.KExcIs
import KE.GoesEnum
import HandS.FStr
import KE.KCallOwn
import PySem.Challenge.RW_whomay_k08_rows_of_patterns
set_option Elab.async false
set_option linter.all false
set_option maxRecDepth 100000
set_option maxHeartbeats 4000000
namespace Wm
open PySem L2
def top (i : Nat) : Stmt := PySem.Challenge.pw_whomay_k08_rows_of_patterns.main.body.getD i (.Pass ⟨0, 0, 0, 0⟩)
abbrev sState : Stmt := top 37
abbrev sDigit : Stmt := top 38
/-- the digits' state at p -/
def StOk (H : Hp) (p : Addr) : Prop := ∃ a b c : Int, H p = some (.lst [.int a, .int b, .int c]) ∧ 0 ≤ a ∧ 0 ≤ b ∧ b ≤ 2147483636 ∧ 0 ≤ c ∧ c < 2147483648
/-- all that was tracked is as it was, but at p -/
def But (p : Addr) (H H' : Hp) : Prop := ∀ q o, q ≠ p → H q = some o → H' q = some o
theorem But.refl (p : Addr) (H : Hp) : But p H H := fun _ _ _ h => h
theorem But.trans {p : Addr} {H H1 H2 : Hp} (a : But p H H1) (b : But p H1 H2) : But p H H2 := fun q o n h => b q o n (a q o n h)
theorem But.upd {p : Addr} {H : Hp} {o : HO} : But p H (upd H p o) := fun q o n h => by rw [upd_ne n]; exact h
theorem Same.but {p : Addr} {H H1 : Hp} (a : Same H H1) : But p H H1 := fun q o _ h => a q o h
theorem Same.upd {p : Addr} {H : Hp} {o : HO} (n : H p = none) : Same H (upd H p o) := fun q o h => by rw [upd_ne (ne_of_none h n)]; exact h
theorem But.same {p : Addr} {H0 H H1 : Hp} (n : H0 p = none) (a : Same H0 H) (b : But p H H1) : Same H0 H1 := fun q o h => b q o (ne_of_none h n) (a q o h)
def spState : Sp := fun vs H Q _ => ∃ i : Int, vs = [.int i] ∧ ∀ p H', H p = none → Same H H' → StOk H' p → Q (.ref p) H'
def spDigit : Sp := fun vs H Q _ => ∃ (p : Addr) (n : Int), vs = [.ref p, .int n] ∧ StOk H p ∧ 0 < n ∧ n < 1073741824 ∧ ∀ (d : Int) H', 0 ≤ d → d < n → But p H H' → StOk H' p → Q (.int d) H'
structure TxB (mg : Str → Option Value) : Prop where
  abs : mg "abs" = none
  int : mg "int" = none
  len : mg "len" = none
  range : mg "range" = none
  all : mg "all" = none
  tuple : mg "tuple" = none
  enumerate : mg "enumerate" = none
  isinstance : mg "isinstance" = none
  ve : mg "ValueError" = none
section
variable {P : Program} {w : World} {K : PySem.W.Frag} {mg : Str → Option Value} {base : Heap}
theorem scState : FnScope ["_law_cell"] ["_law_cell"] (defScope sState) := ⟨rfl, rfl, rfl, by decide +kernel, rfl, by decide +kernel, by decide +kernel⟩
theorem ok_state {f : Addr} {fd : FuncData} (F : Fun K "_law_state" "_law_state" sState f fd) (T : TxB mg) : FnOk P w K mg base CX0 1 f fd ["_law_cell"] spState := by
  refine F.ok scState (fun vs H Q E h => ?_) (fun cdv A outer s H vs Q E hr h => ?_)
  · obtain ⟨i, rfl, _⟩ := h
    rfl
  · obtain ⟨i, rfl, k⟩ := h
    refine ⟨_, pss_cons (ps_set (i := 0) scState.nd rfl (Or.inl rfl) (pe_callB call_abs (by rfl) T.abs (by decide +kernel) (pa_cons (pv 0) pa_nil)))
      (pss_one (ps_ret (pe_lst (pa_cons (pe_op op_mul (pv 0) (pe_callTy call_int1 (by rfl) T.int (by decide +kernel) (pa_cons (pe_cmpR op_ge (pv 0) (pe_op op_pow pe_int pe_int) (nomark _)) pa_nil)))
        (pa_cons (pe_op op_add (pe_op op_mod (pv 0) pe_int) pe_int) (pa_cons (pe_op op_mod (pv 0) pe_int) pa_nil)))))), ?_⟩
    refine ⟨_, rfl, _, rfl, ?_⟩
    generalize hj : (if i < 0 then -i else i) = j
    have hj0 : 0 ≤ j := by rw [← hj]; split <;> omega
    refine ⟨_, rfl, _, rfl, _, _, rfl, rfl, ⟨by decide, by decide, by decide⟩, _, _, rfl, rfl, .inr ⟨_, rfl, ?_⟩⟩
    refine ⟨_, _, rfl, rfl, .inr ⟨?_, ?_⟩, _, rfl, _, _, rfl, rfl, (by show (0 : Int) < 2147483629; decide), _, _, rfl, rfl, _, rfl, _, _, rfl, rfl, (by show (0 : Int) < 2147483587; decide), (by show 3 ≤ sizeLine; decide), fun p hp => ?_⟩
    · split <;> decide
    · split <;> decide
    · refine k p _ hp (Same.upd hp) ⟨_, _, _, upd_same, ?_, ?_, ?_, ?_, ?_⟩
      · split
        · omega
        · omega
      · have := Int.emod_nonneg j (show (2147483629 : Int) ≠ 0 by decide); omega
      · have := Int.emod_lt_of_pos j (show (0 : Int) < 2147483629 by decide); omega
      · exact Int.emod_nonneg j (by decide)
      · have := Int.emod_lt_of_pos j (show (0 : Int) < 2147483587 by decide); omega
theorem scDigit : FnScope ["_law_state_here", "_law_base", "_law_found", "_law_more"] ["_law_state_here", "_law_base"] (defScope sDigit) := ⟨rfl, rfl, rfl, by decide +kernel, rfl, by decide +kernel, by decide +kernel⟩
theorem ok_digit {f : Addr} {fd : FuncData} (F : Fun K "_law_digit" "_law_digit" sDigit f fd) : FnOk P w K mg base CX0 1 f fd ["_law_state_here", "_law_base"] spDigit := by
  refine F.ok scDigit (fun vs H Q E h => ?_) (fun cdv A outer s H vs Q E hr h => ?_)
  · obtain ⟨p, n, rfl, _⟩ := h
    rfl
  · obtain ⟨p, n, rfl, ⟨a, b, c, hp, ha, hb, hb2, hc, hc2⟩, hn, hn2, k⟩ := h
    refine ⟨_, pss_cons (ps_if (pt_cmpR op_gt (pe_ix ix_list (pv 0) pe_int (fun _ _ => rfl)) pe_int (nomark _))
        (pss_cons (ps_set (i := 2) scDigit.nd rfl (Or.inl rfl) (pe_op op_mod (pe_ix ix_list (pv 0) pe_int (fun _ _ => rfl)) (pv 1)))
          (pss_cons (ps_asg (pe_op op_fdiv (pe_ix ix_list (pv 0) pe_int (fun _ _ => rfl)) (pv 1)) (pg_sub (pv 0) pe_int set_list)) (pss_one (ps_ret (pv 2))))) pss_nil)
      (pss_cons (ps_set (i := 3) scDigit.nd rfl (Or.inl rfl) (pe_op op_mul (pe_ix ix_list (pv 0) pe_int (fun _ _ => rfl)) (pe_op op_add (pe_op op_fdiv (pe_ix ix_list (pv 0) pe_int (fun _ _ => rfl)) pe_int) pe_int)))
      (pss_cons (ps_asg (pe_op op_add (pe_op op_mod (pe_op op_add (pv 3) (pe_ix ix_list (pv 0) pe_int (fun _ _ => rfl))) pe_int) pe_int) (pg_sub (pv 0) pe_int set_list))
      (pss_one (ps_ret (pe_op op_mod (pe_op op_fdiv (pe_ix ix_list (pv 0) pe_int (fun _ _ => rfl)) pe_int) (pv 1)))))), ?_⟩
    refine ⟨_, rfl, p, _, _, _, rfl, rfl, SqL.of hp, atI_nat (j := 0) rfl, _, _, rfl, rfl, _, rfl, ?_⟩
    refine ite2 (fun h0 => ?_) (fun h0 => ?_)
    · refine ⟨_, rfl, p, _, _, _, rfl, rfl, SqL.of hp, atI_nat (j := 0) rfl, _, rfl, _, _, rfl, rfl, hn, ?_⟩
      refine ⟨_, rfl, p, _, _, _, rfl, rfl, SqL.of hp, atI_nat (j := 0) rfl, _, rfl, _, _, rfl, rfl, ⟨hn, hn2⟩, _, rfl, p, _, _, 0, rfl, rfl, hp, rfl, _, rfl, ?_⟩
      refine k _ _ (Int.emod_nonneg a (by omega)) (Int.emod_lt_of_pos a hn) But.upd ⟨_, _, _, upd_same, ?_, hb, hb2, hc, hc2⟩
      exact Int.ediv_nonneg ha (by omega)
    · refine ⟨_, rfl, p, _, _, _, rfl, rfl, SqL.of hp, atI_nat (j := 1) rfl, _, rfl, p, _, _, _, rfl, rfl, SqL.of hp, atI_nat (j := 1) rfl, _, _, rfl, rfl, ⟨by decide, by decide⟩, _, _, rfl, rfl, _, _, rfl, rfl, .inl ⟨?_, ?_⟩, ?_⟩
      · omega
      · omega
      refine ⟨_, rfl, _, rfl, p, _, _, _, rfl, rfl, SqL.of hp, atI_nat (j := 2) rfl, _, _, rfl, rfl, _, _, rfl, rfl, (by show (0 : Int) < 2147483629; decide), _, _, rfl, rfl, _, rfl, p, _, _, 1, rfl, rfl, hp, rfl, ?_⟩
      generalize hm : (b * (b / 1009 + 69621) + c) % 2147483629 = m
      have hm0 : 0 ≤ m := by rw [← hm]; exact Int.emod_nonneg _ (by decide)
      have hm1 : m < 2147483629 := by rw [← hm]; exact Int.emod_lt_of_pos _ (by decide)
      refine ⟨_, rfl, p, _, _, _, rfl, rfl, SqL.of upd_same, atI_nat (j := 1) rfl, _, _, rfl, rfl, ⟨by decide, by decide⟩, _, rfl, _, _, rfl, rfl, hn, ?_⟩
      exact k _ _ (Int.emod_nonneg _ (by omega)) (Int.emod_lt_of_pos _ hn) But.upd ⟨_, _, _, upd_same, ha, by omega, by omega, hc, hc2⟩
end
end Wm
namespace Wm
open PySem L2
/-- a def of the module's top -/
structure Dn (K : PySem.W.Frag) (mg : Str → Option Value) (x : Str) (st : Stmt) (ps : List Str) (f : Addr) (fd : FuncData) : Prop where
  F : Fun K x x st f fd
  g : mg x = some (.ref f)
  b : Binds K fd ps []
theorem str_at (z : Str) {i : Int} (h0 : 0 ≤ i) (h1 : i < z.length) : ∃ c, z.cps[i.toNat]? = some c := by
  have h : i.toNat < z.cps.size := by
    have e : z.length = z.cps.size := rfl
    omega
  exact ⟨z.cps[i.toNat], Array.getElem?_eq_getElem h⟩
/-- every sign is one of unicode's -/
def okS (z : Str) : Prop := ∀ c ∈ z.cps.toList, c < 1114112
theorem okS_one {c : Nat} (h : c < 1114112) : okS ⟨#[c]⟩ := fun d hd => by
  have e : d = c := by simpa using hd
  rw [e]
  exact h
theorem okS_app {a b : Str} (ha : okS a) (hb : okS b) : okS (a ++ b) := fun c hc => by
  have e : (a ++ b).cps.toList = a.cps.toList ++ b.cps.toList := by
    show (a.cps ++ b.cps).toList = _
    simp
  rw [e] at hc
  rcases List.mem_append.mp hc with h | h
  · exact ha c h
  · exact hb c h
theorem rdItem {z : Str} {i : Int} {n : Nat} {H : Hp} {Q : VK} (hz : z.length = n) (h0 : 0 ≤ i) (h1 : i < n) (hn : n < 1000000) (h : ∀ c, z.cps.toList[i.toNat]? = some c → Q (.str ⟨#[c]⟩) H) : rIxS (.str z) (.int i) H Q := by
  have h2 : i < z.length := by rw [hz]; exact h1
  obtain ⟨c, hc⟩ := str_at z h0 h2
  have hl : z.cps.toList[i.toNat]? = some c := by simpa using hc
  have e : i = ((i.toNat : Nat) : Int) := by omega
  refine ⟨z, i, c, rfl, rfl, by rw [hz]; exact Nat.le_trans (Nat.le_of_lt hn) (by decide), ?_, h c hl⟩
  rw [e]
  exact atI_nat hl
theorem abcOk : ∀ c ∈ (PySem.Str.ofString "abcdefghijklmnopqrstuvwxyz0123456789").cps.toList, c < 1114112 := by decide +kernel
theorem abc36 : (PySem.Str.ofString "abcdefghijklmnopqrstuvwxyz0123456789").length = 36 := by decide +kernel
theorem len_app (a b : Str) : (a ++ b).length = a.length + b.length := by
  show (a.cps ++ b.cps).size = a.cps.size + b.cps.size
  exact Array.size_append
theorem len_one (c : Nat) : (⟨#[c]⟩ : Str).length = 1 := rfl
def spSign : Sp := fun vs H Q _ => ∃ i : Int, vs = [.int i] ∧ ∀ c, c < 1114112 → Q (.str ⟨#[c]⟩) H
def spPlain : Sp := fun vs H Q _ => ∃ (p : Addr) (n : Int), vs = [.ref p, .int n] ∧ StOk H p ∧ 1 ≤ n ∧ n ≤ 15 ∧ ∀ (z : Str) H', z.length ≤ 15 → okS z → But p H H' → StOk H' p → Q (.str z) H'
def spText : Sp := fun vs H Q _ => ∃ (p : Addr), vs = [.ref p] ∧ StOk H p ∧ ∀ (z : Str) H', z.length ≤ 40 → okS z → But p H H' → StOk H' p → Q (.str z) H'
section
variable {P : Program} {w : World} {K : PySem.W.Frag} {mg : Str → Option Value} {base : Heap}
end
end Wm
namespace Wm
open PySem L2
theorem strs_at {zs : List Str} {n : Nat} (h : ∀ z ∈ zs, z.length ≤ n) (ho : ∀ z ∈ zs, ∀ c ∈ z.cps.toList, c < 1114112) {j : Nat} (hj : j < zs.length) : ∃ z, (zs.map V.str)[j]? = some (.str z) ∧ z.length ≤ n ∧ okS z :=
  ⟨zs[j], by simp [hj], h _ (List.getElem_mem hj), ho _ (List.getElem_mem hj)⟩
theorem okS_cut {z : Str} (h : okS z) (lo hi : Option Int) : okS (cutS z lo hi) := fun c hc => by
  have hc' : c ∈ (z.cps.toList.drop (HT.sIx z.length 0 lo)).take (HT.sIx z.length z.length hi - HT.sIx z.length 0 lo) := hc
  exact h c (List.mem_of_mem_drop (List.mem_of_mem_take hc'))
theorem okS_join {a : Str} {ys : List Str} (ha : okS a) (h : ∀ y ∈ ys, okS y) : okS (Txt.join a ys) := by
  have e : Txt.join a ys = Str.join a ys := StrLaws.glued_eq_join a ys
  rw [e]
  clear e
  induction ys with
  | nil => exact fun c hc => (List.not_mem_nil (show c ∈ ([] : List Nat) from hc)).elim
  | cons y r ih =>
    cases r with
    | nil => exact h y List.mem_cons_self
    | cons z r =>
      show okS (y ++ a ++ Str.join a (z :: r))
      exact okS_app (okS_app (h y List.mem_cons_self) ha) (ih fun x hx => h x (List.mem_cons_of_mem _ hx))
theorem rdList {K : PySem.W.Frag} {p : Addr} {xs : List V} {i : Int} {j : Nat} {v : V} {H : Hp} {Q : VK} (hp : H p = some (.lst xs)) (e : i = (j : Int)) (hv : xs[j]? = some v) (h : Q v H) : rIxL K (.ref p) (.int i) H Q :=
  ⟨p, xs, i, v, rfl, rfl, SqL.of hp, at_of e hv, h⟩
theorem But.free {p D : Addr} {H H' : Hp} (b : But p H H') (n : D ≠ p) (h : H' D = none) : H D = none := by
  cases e : H D with
  | none => rfl
  | some o =>
    rw [b D o n e] at h
    cases h
theorem sum_ones : ∀ {ys : List Str}, (∀ y ∈ ys, y.length = 1) → (ys.map (·.length)).sum = ys.length
  | [], _ => rfl
  | y :: ys, h => by
    rw [List.map_cons, List.sum_cons, List.length_cons, h y List.mem_cons_self, sum_ones fun z hz => h z (List.mem_cons_of_mem _ hz)]
    omega
theorem join_len (a : Str) (ys : List Str) : (Txt.join a ys).length ≤ (ys.map (·.length)).sum + ys.length * a.length := by
  show (Builtin.Str.glued a ys).length ≤ _
  rw [StrLaws.glued_eq_join]
  exact StrLaws.join_length_le a ys
section
variable {P : Program} {w : World} {K : PySem.W.Frag} {mg : Str → Option Value} {base : Heap}
end
end Wm
namespace Wm
open PySem PySem.Spec PyProof.Rows L2 ClX
section
variable {X : Cx} {CX : CXT} {k : Nat} {C f : Addr} {fd : FuncData} {ps : List Str} {sp : Sp} {E : XK} {e : Expr} {es : List Expr} {t : TA} {x m : Str} {p1 p2 pos : Pos} {ds : List Value} {dvs : List V}
/-- C.f(e, ..), f a def of the class C -/
theorem pe_clsFn {pl : Sem Bool} {mc : Value} (hg : Gl X x) (hm : X.mg x = some (.ref C)) (r : CRead X.K C mc) (ht : PySem.W.findCls X.K (.ref C) mc m = some (.val (.ref f))) (hk : PySem.W.keepIn X.K (.ref f) = true) (F : FnOk X.prog X.w X.K X.mg X.base CX k f fd ps sp)
    (hr : Room k X.A) (hb : Binds X.K fd ps ds) (hd : Vals dvs ds) (hx : Passes CX X E) (ha : PA X (e :: es) t)
    (hc : eval (.Call (.Attribute (.Name x p1) m p2) (e :: es) [] pos) X.env = (do
      let ov ← eval (.Name x p1) X.env
      standAt p2.atName
      let (f, first) ← holding [ov] (getMethod ov m pl)
      callWith pos f first (backTo pos (starEach (e :: es) X.env)) (backToKw pos (keywordEach [] X.env))) := by rfl)
    (hdb : (x == ("__debug__" : Str)) = false := by decide) (he : starEach (e :: es) X.env = (false, eval e X.env) :: starEach es X.env := by rfl) (hpl : (backTo pos (starEach es X.env)).any (·.1) = false := by rfl) :
    PE X (.Call (.Attribute (.Name x p1) m p2) (e :: es) [] pos) (tCall sp dvs E t) := by
  refine ⟨fun pins s σ H Q I h => ?_⟩
  refine PySem.W.methodCall_KW (ld_glob I hg hm ?_ hdb) hc
  refine PySem.W.method_cls I.kIn r.ga (PySem.W.cls_value I.kIn r.rd ht rfl ?_)
  show wpAny _ _ (callWith pos (Value.ref f) [] (backTo pos (starEach (e :: es) X.env)) []) _ _ _
  refine PySem.W.callWith_K (h₀ := X.base) I.ok.mod.kin hk (thn (ha.run pos pins _ σ H _ (I.tok _) h) fun us s1 ⟨vs, H1, I1, r1, q⟩ => ⟨I1.kIn, ?_⟩) he hpl
  exact run_fn F hr hb hd hx I1 r1 q
/-- xs + ys, both to be read -/
def rCatR (K : PySem.W.Frag) : R2 := fun x y H Q => ∃ l b xs zs, x = .ref l ∧ y = .ref b ∧ SqL K H l xs ∧ SqL K H b zs ∧ xs.length + zs.length ≤ sizeLine ∧ ∀ p, H p = none → Q (.ref p) (upd H p (.lst (xs ++ zs)))
theorem op_catR : OpR X (binaryOp .Add) (rCatR X.K) := by
  intro pins s σ H x y v u Q I rx ry h
  obtain ⟨l, b, xs, zs, rfl, rfl, hH, hB, hz, q⟩ := h
  cases rx
  cases ry
  obtain ⟨its, r, e, hl⟩ := I.list hH
  obtain ⟨its2, r2, e2, hl2⟩ := I.list hB
  have l1 := r.length
  have l2 := r2.length
  obtain ⟨⟨cls, dd, data, sl⟩, ho, hc, n, hd⟩ := e.isList
  obtain ⟨⟨cls2, dd2, data2, sl2⟩, ho2, hc2, n2, hd2⟩ := e2.isList
  simp only at hc hd hc2 hd2
  subst hc hd hc2 hd2
  refine concat_meets ⟨_, ho, rfl⟩ ⟨_, ho2, rfl⟩ noFill_list_add seq_list_add PySem.F.slot_list_add PySem.F.entry_list_add (PySem.F.args_list_add_2 _ _) (list_addW l b its.toArray its2.toArray n n2 dd dd2 sl sl2 (by rw [List.size_toArray, List.size_toArray]; omega)) ⟨ho, ho2, ?_⟩
  have ea : its.toArray ++ its2.toArray = (its ++ its2).toArray := by simp
  rw [ea]
  exact ⟨.ref _, _, I.lnew (t' := s.toks) (r.append r2) (by rw [List.length_append]; omega), rfl, q _ I.fresh⟩
end
end Wm
namespace Wm
open PySem PySem.Spec PyProof.Rows L2 ClX
/-- isinstance(e, c) in an except suite, e the exception that it holds (its class D, its dict at dd) -/
def rIsX (K : PySem.W.Frag) (D a dd : Addr) : List V → Hp → VK → Prop := fun xs H Q => ∃ (c : V) (cv : Value) (b : Bool) (fs : List (Str × V)), xs = [.ref a, c] ∧ H dd = some (.xd fs) ∧ (∀ u, RelV c u → u = cv) ∧ PySem.W.kitOne K (.ref D) cv = some b ∧ Q (.bl b) H
theorem call_isX {X : Cx} {a D dd : Addr} {oe : Obj} {pn : List (Addr × Obj)} (C : ExcC X.K D) (hz : Zc (.ref D) (some dd) oe) (hf : ∃ vs, oe.data = .fields vs) : CallR (X.suite a ((a, oe) :: pn)) (.builtin "isinstance") (rIsX X.K D a dd) := by
  intro pins s σ H xs us Q I r h
  obtain ⟨c, cv, b, fs, rfl, hdd, hcv, e, q⟩ := h
  cases r with
  | cons rx rr =>
    cases rr with
    | cons rt rr =>
      cases rr
      cases rx
      have ec := hcv _ rt
      subst ec
      obtain ⟨hget, _⟩ := I.pin (a, oe) (List.mem_append.mpr (.inl List.mem_cons_self))
      obtain ⟨vs, hv⟩ := hf
      have hx : ObjOk X.prog X.w H s.heap dd (.xd fs) := I.hok dd _ hdd
      obtain ⟨mA, hns, hr⟩ := hx
      obtain ⟨od, ho, hl⟩ := lookIn_ns hns
      have J : PySem.W.InstAt s.heap a oe D (some od) := ⟨hget, hz.1, by unfold PySem.W.notCls; rw [hv] <;> rfl, by rw [hz.2]; exact ho⟩
      have hcl : (PySem.W.clsIn X.K D).isSome = true := by
        obtain ⟨cd, hc, _⟩ := PySem.W.any_some C.hd
        rw [hc]
        rfl
      exact PySem.W.kia_one (PySem.W.kitx_exc hcl C.hg C.hk C.hs C.ha C.hn C.ht C.hm) I.kIn J e (fun z => nomatch z) fun tk => ⟨.bl b, H, I.kept (t' := tk) fun _ _ z => z, rfl, q⟩
/-! ### errors of one field -/
def spWI (K : PySem.W.Frag) : Sp := fun vs H Q _ => ∃ (a C : Addr) (v : V), vs = [.ref a, v] ∧ OexC K C ∧ PySem.W.findIn K (.ref C) "kind" = some none ∧ H a = some (exo a C none) ∧ ∀ dx, H dx = none → dx ≠ a → Q .non (upd (upd H dx (exd dx [("kind", v)])) a (exo a C (some dx)))
/-- the dict of an error of one field -/
def ef1 (f kd : Str) (v : V) : List (Str × V) := [(f, v), ("kind", .str kd)]
def spE1 (C : Addr) (f kd : Str) : Sp := fun vs H Q _ => ∃ (a : Addr) (v : V), vs = [.ref a, v] ∧ H a = some (exo a C none) ∧ ∀ dx H', H dx = none → dx ≠ a → (∀ b o, b ≠ a → H b = some o → H' b = some o) → H' a = some (exo a C (some dx)) → H' dx = some (exd dx (ef1 f kd v)) → Q .non H'
/-- what is known of WhoError -/
structure WhoT (K : PySem.W.Frag) (mg : Str → Option Value) (W f0 : Addr) (fd0 : FuncData) : Prop where
  g : mg "WhoError" = some (.ref W)
  r : CRead K W (.type "type")
  m : PySem.W.findCls K (.ref W) (.type "type") "__init__" = some (.val (.ref f0))
  k : PySem.W.keepIn K (.ref f0) = true
  b : Binds K fd0 ["self", "kind"] []
/-- what is known of an error class of one field -/
structure ErrT (K : PySem.W.Frag) (mg : Str → Option Value) (x f : Str) (C fI : Addr) : Prop where
  o : OexC K C
  g : mg x = some (.ref C)
  iC : PySem.W.findIn K (.ref C) "__init__" = some (some (.ref fI))
  tI : PySem.W.typeIn K (.ref fI) = some (.type "function")
  nk : PySem.W.findIn K (.ref C) "kind" = some none
  nf : PySem.W.findIn K (.ref C) f = some none
end Wm
namespace Wm
open PySem L2
abbrev sW0 : Stmt := inClass (top 2) 0
abbrev sN0 : Stmt := inClass (top 3) 0
section
variable {P : Program} {w : World} {K : PySem.W.Frag} {mg : Str → Option Value} {base : Heap}
theorem scW0 : FnScope ["self", "kind"] ["self", "kind"] (defScope sW0) := ⟨rfl, rfl, rfl, by decide +kernel, rfl, by decide +kernel, by decide +kernel⟩
theorem ok_who {f : Addr} {fd : FuncData} {dvs : List V} (F : FunD K "__init__" "WhoError.__init__" (defArgs sW0) (defBody sW0) (defScope sW0) dvs [] f fd) : FnOk P w K mg base CX0 1 f fd ["self", "kind"] (spWI K) := by
  refine F.ok scW0 (fun vs H Q E h => ?_) (fun cdv A outer s H vs Q E hr h => ?_)
  · obtain ⟨a, C, v, rfl, _⟩ := h
    rfl
  · obtain ⟨a, C, v, rfl, o, nk, ha, k⟩ := h
    refine ⟨_, pss_one (ps_ost (pv 0) (pv 1)), ?_⟩
    exact ⟨_, rfl, _, rfl, a, C, rfl, o, nk, .inl ⟨ha, fun dx n ne => k dx n ne⟩⟩
theorem scN0 : FnScope ["self", "name"] ["self", "name"] (defScope sN0) := ⟨rfl, rfl, rfl, by decide +kernel, rfl, by decide +kernel, by decide +kernel⟩
theorem ok_noname {f C f0 W : Addr} {fd fd0 : FuncData} (F : Fun K "__init__" "NoName.__init__" sN0 f fd) (T : ErrT K mg "NoName" "name" C f) (TW : WhoT K mg W f0 fd0) (G0 : FnOk P w K mg base CX0 1 f0 fd0 ["self", "kind"] (spWI K)) :
    FnOk P w K mg base CX0 2 f fd ["self", "name"] (spE1 C "name" "noname") := by
  refine F.ok scN0 (fun vs H Q E h => ?_) (fun cdv A outer s H vs Q E hr h => ?_)
  · obtain ⟨a, v, rfl, _⟩ := h
    rfl
  · obtain ⟨a, v, rfl, ha, k⟩ := h
    refine ⟨_, pss_cons (ps_expr (pe_clsFn rfl TW.g TW.r TW.m TW.k G0 hr TW.b .nil pass0 (pa_cons (pv 0) (pa_cons pe_str pa_nil)))) (pss_one (ps_ost (pv 0) (pv 1))), ?_⟩
    refine ⟨_, rfl, a, C, _, rfl, T.o, T.nk, ha, fun dx n ne => ?_⟩
    refine ⟨_, rfl, _, rfl, a, C, rfl, T.o, T.nf, .inr ⟨dx, _, upd_same, Eq.trans (upd_ne ne) upd_same, by decide, ?_⟩⟩
    refine k dx _ n ne (fun b o nb e => ?_) ?_ upd_same
    · have nd : b ≠ dx := ne_of_none e n
      rw [upd_ne nd, upd_ne nb, upd_ne nd]
      exact e
    · rw [upd_ne ne.symm, upd_same]
end
end Wm
namespace Wm
open PySem L2
/-! ### names -/
def LET : List Nat := (PySem.Str.ofString "abcdefghijklmnopqrstuvwxyz").cps.toList
def FIG : List Nat := (PySem.Str.ofString "0123456789").cps.toList
def okc (c : Nat) : Bool := decide (c ∈ LET) || decide (c ∈ FIG)
def first (l : List Nat) : Bool := match l with
  | [] => false
  | c :: _ => decide (c ∈ LET)
def isNm (z : Str) : Bool := decide (1 ≤ z.length) && (decide (z.length ≤ 12) && (first z.cps.toList && z.cps.toList.all okc))
theorem alnum : (PySem.Str.ofString "abcdefghijklmnopqrstuvwxyz0123456789").cps.toList = LET ++ FIG := by decide +kernel
theorem let_fig : ∀ c ∈ LET, ¬ c ∈ FIG := by decide +kernel
theorem okc_alnum (c : Nat) : decide (c ∈ (PySem.Str.ofString "abcdefghijklmnopqrstuvwxyz0123456789").cps.toList) = okc c := by
  rw [alnum]
  unfold okc
  by_cases h : c ∈ LET <;> by_cases h2 : c ∈ FIG <;> simp [h, h2]
theorem len_eq (z : Str) : z.length = z.cps.toList.length := by
  show z.cps.size = _
  simp
theorem isNm_small {z : Str} (h : z.length < 1 ∨ 12 < z.length) : isNm z = false := by
  unfold isNm
  rcases h with h | h
  · rw [decide_eq_false (by omega)]
    rfl
  · rw [decide_eq_false (p := z.length ≤ 12) (by omega)]
    simp
theorem isNm_first {z : Str} {c : Nat} (h1 : z.cps.toList[0]? = some c) (hc : ¬ c ∈ LET) : isNm z = false := by
  unfold isNm
  have e : first z.cps.toList = false := by
    cases q : z.cps.toList with
    | nil => rfl
    | cons d r =>
      rw [q] at h1
      have e : d = c := Option.some.inj h1
      rw [e]
      exact decide_eq_false hc
  rw [e]
  simp
theorem isNm_all {z : Str} {c : Nat} (h0 : ¬ z.length < 1) (h12 : ¬ 12 < z.length) (h1 : z.cps.toList[0]? = some c) (hc : c ∈ LET) : isNm z = z.cps.toList.all okc := by
  unfold isNm
  have e : first z.cps.toList = true := by
    cases q : z.cps.toList with
    | nil =>
      rw [q] at h1
      cases h1
    | cons d r =>
      rw [q] at h1
      have e : d = c := Option.some.inj h1
      rw [e]
      exact decide_eq_true hc
  rw [e, decide_eq_true (by omega), decide_eq_true (by omega)]
  rfl
theorem isNm_fig {z : Str} {c : Nat} (h1 : z.cps.toList[0]? = some c) (hc : c ∈ FIG) : isNm z = false := isNm_first h1 fun h => let_fig c h hc
theorem isNm_all2 {z : Str} {c : Nat} (h0 : ¬ z.length < 1) (h12 : ¬ 12 < z.length) (h1 : z.cps.toList[0]? = some c) (hc : ¬ c ∈ FIG) : isNm z = z.cps.toList.all okc := by
  by_cases h : c ∈ LET
  · exact isNm_all h0 h12 h1 h
  · rw [isNm_first h1 h]
    have hm : c ∈ z.cps.toList := List.mem_of_getElem? h1
    have e : okc c = false := by
      unfold okc
      rw [decide_eq_false h, decide_eq_false hc]
      rfl
    symm
    rw [List.all_eq_false]
    exact ⟨c, hm, by rw [e]; decide⟩
theorem all_map {l : List Nat} {f : Nat → Bool} : (l.map f).all id = l.all f := by
  induction l with
  | nil => rfl
  | cons a r ih => rw [List.map_cons, List.all_cons, List.all_cons, ih]; rfl
def spName : Sp := fun vs H Q _ => ∃ z : Str, vs = [.str z] ∧ z.length ≤ 1000 ∧ ∀ H', Same H H' → Q (.bl (isNm z)) H'
/-- the constants of names.py -/
structure TxN (mg : Str → Option Value) : Prop where
  lets : ∃ t, mg "LETTERS" = some (.str (PySem.Str.ofString "abcdefghijklmnopqrstuvwxyz") t)
  figs : ∃ t, mg "FIGURES" = some (.str (PySem.Str.ofString "0123456789") t)
  long : ∃ t, mg "LONGEST_NAME" = some (.int 12 t)
abbrev sName : Stmt := top 13
/-- the reading of [f(sign) for sign in text] -/
theorem lc_signs {z : Str} {f : Nat → Bool} {g : TG} {te : TE} {vs : List Nat} {σ : St} {H1 : Hp} {D : Addr} {Qd : Hp → Prop} (hz : z.length ≤ 1000) (hD : H1 D = none)
    (he : ∀ (c : Nat) (H : Hp) (Q : St → Hp → Prop), (∀ σ2, wipe σ2 vs = wipe σ vs → (∀ Q2 : VK, Q2 (.bl (f c)) H → te σ2 H Q2) → Q σ2 H) → g (.str ⟨#[c]⟩) (wipe σ vs) H Q)
    (hd : ∀ H, Same H1 H → H D = some (.lst ((z.cps.toList.map f).map V.bl)) → Qd H) :
    ∃ W : Nat → Nat → Hp → Prop, (∃ m, W 0 m (upd H1 D (.lst []))) ∧ ∀ i m H, W i m H →
      ((Its z).stop i H ∧ Qd H) ∨ ((Its z).go i H ∧ ∃ Nx : Hp → Prop, (∀ H', Nx H' → ∃ m', m' < m ∧ W (i + 1) m' H') ∧ ∀ x H', (Its z).yld i H x H' → g x (wipe σ vs) H' fun σ2 H2 => wipe σ2 vs = wipe σ vs ∧ tYes σ2 H2 fun b H3 =>
        if b = true then te σ2 H3 fun y H4 => ∃ acc, H4 D = some (.lst acc) ∧ acc.length < sizeLine ∧ Nx (upd H4 D (.lst (acc ++ [y]))) else Nx H3) := by
  refine lc_it (walk_str (z := z)) (fun i H' => Same H1 H' ∧ H' D = some (.lst (((z.cps.toList.take i).map f).map V.bl))) ⟨Same.upd hD, upd_same⟩ (fun _ _ _ _ => True.intro) ?_ ?_
  · rintro i x H H' hi ⟨hS, hl⟩ ⟨rfl, c, hc, rfl⟩
    refine he c H' _ fun σ2 hw hq => ⟨hw, hq _ ?_⟩
    refine ⟨_, hl, ?_, ?_, ?_⟩
    · rw [List.length_map, List.length_map, List.length_take]
      have e := len_eq z
      exact Nat.lt_of_le_of_lt (show _ ≤ 1000 by omega) (by decide)
    · intro b o h
      have nb : b ≠ D := ne_of_none h hD
      rw [upd_ne nb]
      exact hS b o h
    · rw [upd_same]
      have e : z.cps.toList[i]? = some c := by simpa using hc
      have hlt : i < z.cps.toList.length := (List.getElem?_eq_some_iff.mp e).1
      rw [List.take_add_one, e, List.map_append, List.map_append]
      rfl
  · rintro H ⟨hS, hl⟩
    refine hd H hS ?_
    rw [hl, List.take_of_length_le (by simp)]
section
variable {P : Program} {w : World} {K : PySem.W.Frag} {mg : Str → Option Value} {base : Heap}
theorem scName : FnScope ["text", "sign"] ["text"] (defScope sName) := ⟨rfl, rfl, rfl, by decide +kernel, rfl, by decide +kernel, by decide +kernel⟩
theorem ok_name {f : Addr} {fd : FuncData} (F : Fun K "is_name" "is_name" sName f fd) (T : TxB mg) (TN : TxN mg) : FnOk P w K mg base CX0 1 f fd ["text"] spName := by
  obtain ⟨t1, hlet⟩ := TN.lets
  obtain ⟨t2, hfig⟩ := TN.figs
  obtain ⟨t3, hlong⟩ := TN.long
  refine F.ok scName (fun vs H Q E h => ?_) (fun cdv A outer s H vs Q E hr h => ?_)
  · obtain ⟨z, rfl, _⟩ := h
    rfl
  · obtain ⟨z, rfl, hz, k⟩ := h
    have hzl : z.length ≤ sizeLine := Nat.le_trans hz (by decide)
    refine ⟨_, (pss_cons (ps_if (PW.pt (pw_or (pt_cmpR op_lt (pe_callB call_len_str (by rfl) T.len (by decide +kernel) (pa_cons (pv 0) pa_nil)) pe_int (nomark _)) (pw_or1 (pt_cmpR op_gt (pe_callB call_len_str (by rfl) T.len (by decide +kernel) (pa_cons (pv 0) pa_nil)) (pe_glob (v := .int 12) (by rfl) hlong ⟨_, rfl⟩) (nomark _))))) (pss_one (ps_ret pe_bl)) pss_nil)
      (pss_cons (ps_if (pt_cmpR op_notIn_sign (pe_ix ix_str (pv 0) pe_int (fun _ _ => rfl)) (pe_glob (v := .str (PySem.Str.ofString "abcdefghijklmnopqrstuvwxyz")) (by rfl) hlet ⟨_, rfl⟩) (by rfl)) (pss_one (ps_ret pe_bl)) pss_nil)
      (pss_one (ps_ret (pe_callB (cr_all rfl) (by rfl) T.all (by decide +kernel) (pa_cons (pe_lc (own := [("sign", 1)]) (g := gName 1) rfl scName.nd (pi_str (pv 0)) (blkOk_by (N := ["text", "sign"]) (sc := defScope sName) (by decide +kernel)) (fun _ _ _ _ _ => (pg_name (i := 1) scName.nd rfl (Or.inl rfl))) (fun _ _ _ _ _ => pts_nil) (fun _ _ _ _ _ => (pe_or (pe_cmpR op_in_sign (pv 1) (pe_glob (v := .str (PySem.Str.ofString "abcdefghijklmnopqrstuvwxyz")) (by rfl) hlet ⟨_, rfl⟩) (by rfl)) (pe_one (pe_cmpR op_in_sign (pv 1) (pe_glob (v := .str (PySem.Str.ofString "0123456789")) (by rfl) hfig ⟨_, rfl⟩) (by rfl)))))) pa_nil)))))), ?_⟩
    refine ⟨_, rfl, z, rfl, hzl, _, _, rfl, rfl, _, rfl, ?_⟩
    refine ite2 (fun h1 => ?_) (fun h1 => ?_)
    · have h1' : (z.length : Int) < 1 := of_decide_eq_true h1
      refine iteT ?_
      have e : isNm z = false := isNm_small (.inl (by omega))
      have q := k H (Same.refl H)
      rw [e] at q
      exact q
    refine ⟨_, rfl, z, rfl, hzl, _, _, rfl, rfl, _, rfl, ?_⟩
    refine ite2 (fun h2 => ?_) (fun h2 => ?_)
    · have h2' : (12 : Int) < z.length := of_decide_eq_true h2
      have e : isNm z = false := isNm_small (.inr (by omega))
      have q := k H (Same.refl H)
      rw [e] at q
      exact q
    have h1' : ¬ z.length < 1 := fun x => h1 (decide_eq_true (by omega))
    have h2' : ¬ 12 < z.length := fun x => h2 (decide_eq_true (by omega))
    refine ⟨_, rfl, ?_⟩
    dsimp only [tC]
    refine rdItem (n := z.length) rfl (by decide) (by omega) (by omega) fun c hc => ?_
    refine ⟨c, _, rfl, rfl, _, rfl, ?_⟩
    refine ite2 (fun h3 => ?_) (fun h3 => ?_)
    · have h3' : ¬ c ∈ LET := fun x => by
        rw [show decide (c ∈ (PySem.Str.ofString "abcdefghijklmnopqrstuvwxyz").cps.toList) = true from decide_eq_true x] at h3
        cases h3
      have q := k H (Same.refl H)
      rw [isNm_first hc h3'] at q
      exact q
    have h3' : c ∈ LET := by
      by_cases x : c ∈ LET
      · exact x
      · rw [show decide (c ∈ (PySem.Str.ofString "abcdefghijklmnopqrstuvwxyz").cps.toList) = false from decide_eq_false x] at h3
        exact absurd rfl h3
    refine ⟨_, rfl, z, rfl, fun D hD => ?_⟩
    refine lc_signs (z := z) (f := okc) hz hD (fun c H Q q => ?_) fun H' hS hl => ?_
    · refine q _ rfl fun Q2 q2 => ?_
      refine ⟨_, rfl, c, _, rfl, rfl, _, rfl, ?_⟩
      unfold okc at q2
      refine ite2 (fun h => ?_) (fun h => ?_)
      · have h' : decide (c ∈ LET) = true := h
        rw [h'] at q2
        exact q2
      · have h' : decide (c ∈ LET) = false := Bool.eq_false_iff.mpr h
        rw [h'] at q2
        exact ⟨_, rfl, c, _, rfl, rfl, q2⟩
    · refine ⟨D, _, rfl, SqL.of hl, ?_⟩
      have q := k H' hS
      rw [isNm_all h1' h2' hc h3', ← all_map] at q
      exact q
end
end Wm
namespace Wm
open PySem L2
abbrev sRN : Stmt := top 14
theorem mk1 {C : Addr} {f kd : Str} {v : V} {H : Hp} {Q : XK} (k : ∀ d H', H d = none → Same H H' → H' d = some (.xd (ef1 f kd v)) → Q (.ref C) (some d) H') :
    [v].length ≤ 1000 ∧ ∀ a, H a = none → spE1 C f kd (.ref a :: ([v] ++ [])) (upd H a (exo a C none)) (fun u H2 => u = .non ∧ ∃ (d : Addr) (fs : List (Str × V)), H2 a = some (exo a C (some d)) ∧ H2 d = some (exd d fs) ∧ H d = none ∧ Q (.ref C) (some d) (upd (del H2 a) d (.xd fs))) (fun _ _ _ => False) := by
  refine ⟨by show 1 ≤ 1000; decide, fun a na => ⟨a, v, rfl, upd_same, fun dx H' n ne kp ha hd => ⟨rfl, dx, _, ha, hd, ?_, ?_⟩⟩⟩
  · rw [upd_ne ne] at n
    exact n
  · rw [upd_ne ne] at n
    refine k dx _ n (fun b o e => ?_) upd_same
    have nb : b ≠ a := ne_of_none e na
    rw [upd_ne (ne_of_none e n), del_ne nb]
    exact kp b o nb (by rw [upd_ne nb]; exact e)
/-- what is due of the first text that is no name -/
def DueN (C : Addr) (zs : List Str) (H : Hp) (Q : VK) (E : XK) : Prop := match zs.find? (fun z => !isNm z) with
  | none => ∀ H', Same H H' → Q .non H'
  | some z => ∀ d H', H d = none → Same H H' → H' d = some (.xd (ef1 "name" "noname" (.str z))) → E (.ref C) (some d) H'
def spRN (K : PySem.W.Frag) (C : Addr) : Sp := fun vs H Q E => ∃ (l : Addr) (zs : List Str), vs = [.ref l] ∧ SqL K H l (zs.map V.str) ∧ zs.length ≤ 1000 ∧ (∀ z ∈ zs, z.length ≤ 1000) ∧ DueN C zs H Q E
theorem find_none_take {zs : List Str} {i : Nat} {z : Str} {p : Str → Bool} (h : ∀ y ∈ zs.take i, p y = false) (e : zs[i]? = some z) (hz : p z = true) : zs.find? p = some z := by
  have hlt : i < zs.length := (List.getElem?_eq_some_iff.mp e).1
  have e2 : zs = zs.take i ++ z :: zs.drop (i + 1) := by
    have q := List.take_append_drop i zs
    have q2 := List.drop_eq_getElem_cons hlt
    have q3 : zs[i] = z := (List.getElem?_eq_some_iff.mp e).2
    rw [q2, q3] at q
    exact q.symm
  rw [e2, List.find?_append]
  have n : (zs.take i).find? p = none := by
    rw [List.find?_eq_none]
    intro y hy
    rw [h y hy]
    decide
  rw [n]
  simp [hz]
section
variable {P : Program} {w : World} {K : PySem.W.Frag} {mg : Str → Option Value} {base : Heap}
theorem scRN : FnScope ["texts", "text"] ["texts"] (defScope sRN) := ⟨rfl, rfl, rfl, by decide +kernel, rfl, by decide +kernel, by decide +kernel⟩
theorem ok_rn {f fN C fI : Addr} {fd fdN fdI : FuncData} (F : Fun K "refuse_no_name" "refuse_no_name" sRN f fd) (D : Dn K mg "is_name" sName ["text"] fN fdN) (GN : FnOk P w K mg base CX0 1 fN fdN ["text"] spName) (TE : ErrT K mg "NoName" "name" C fI) (bI : Binds K fdI ["self", "name"] [])
    (GI : FnOk P w K mg base CX0 2 fI fdI ["self", "name"] (spE1 C "name" "noname")) : FnOk P w K mg base (L2.CX P w) 4 f fd ["texts"] (spRN K C) := by
  refine F.okX scRN (fun vs H Q E h => ?_) (fun cdv A outer s H vs Q E hr h => ?_)
  · obtain ⟨l, zs, rfl, _⟩ := h
    rfl
  · obtain ⟨l, zs, rfl, hl, hn, hz, k⟩ := h
    have hr1 : Room 1 _ := hr.mono (by decide)
    refine ⟨_, (pss_one (ps_for (passes_of rfl) rfl (pi_list (pv 0)) (pg_name (i := 1) scRN.nd rfl (Or.inl rfl)) (pss_one (ps_if (pt_not (pt_val (pe_call GN hr1 rfl D.g D.F.kp D.b .nil pass0 (pa_cons (pv 1) pa_nil)))) (pss_one (ps_raise rfl (takes_of rfl rfl rfl rfl) (pmk_oex TE.o TE.iC TE.tI GI hr bI .nil pass0 rfl TE.g (pa_cons (pv 1) pa_nil)))) pss_nil)))), ?_⟩
    refine ⟨_, rfl, l, rfl, ⟨_, hl⟩, for_list (K := K) (a := l) (xs := zs.map V.str) (fun i σ H' => ∃ v, σ = [some (.ref l), v] ∧ Same H H' ∧ ∀ y ∈ zs.take i, (!isNm y) = false) ⟨none, rfl, Same.refl H, fun y hy => (List.not_mem_nil hy).elim⟩
      (fun i σ H' _ ⟨_, _, hS, _⟩ => hS.seq hl) ?_ ?_⟩
    · rintro i y σ H' hi ⟨v, rfl, hS, hno⟩
      obtain ⟨z, hzi, rfl⟩ : ∃ z, zs[i]? = some z ∧ y = V.str z := by
        rw [List.getElem?_map] at hi
        cases e : zs[i]? with
        | none =>
          rw [e] at hi
          cases hi
        | some z =>
          rw [e] at hi
          exact ⟨z, rfl, (Option.some.inj hi).symm⟩
      refine ⟨_, rfl, z, rfl, hz z (List.mem_of_getElem? hzi), fun H2 hS2 => ⟨_, rfl, ?_⟩⟩
      refine ite2 (fun h => ?_) (fun h => ?_)
      · refine ⟨_, rfl, ?_⟩
        have e := find_none_take hno hzi h
        unfold DueN at k
        rw [e] at k
        refine mk1 fun d H3 hd hS3 hx => k d H3 (hS.free (hS2.free hd)) (hS.trans (hS2.trans hS3)) hx
      · refine ⟨_, rfl, hS.trans hS2, fun y hy => ?_⟩
        rw [List.take_add_one, hzi] at hy
        rcases List.mem_append.mp hy with hy | hy
        · exact hno y hy
        · have e : y = z := by simpa using hy
          rw [e]
          exact Bool.eq_false_iff.mpr h
    · rintro σ H' ⟨v, rfl, hS, hno⟩
      have e : zs.find? (fun z => !isNm z) = none := by
        rw [List.find?_eq_none]
        intro y hy
        rw [List.length_map, List.take_length] at hno
        rw [hno y hy]
        decide
      unfold DueN at k
      rw [e] at k
      exact k H' hS
end
end Wm
namespace Wm
open PySem PySem.Spec PyProof.Rows L2
/-- enumerate(v): its two new cells -/
theorem meets_enum1 {v : Value} {o : Obj} {H : Heap → Prop} (B : Begins v o H) :
    Meets (Builtin.«enumerate.__new__» ⟨[.type "enumerate", v], []⟩) (fun _ R s => H s.heap ∧
      R (.ok (.ret (.ref (s.heap.push o).objs.size))) { s with heap := (s.heap.push o).push { cls := .type "enumerate", data := .fields #[.none, .bool false, .ref s.heap.objs.size, rawInt 0, .none, .none] } }) :=
  .of_wp fun prog w A R s hh => by
    obtain ⟨hp, g, d, tk, os⟩ := s
    obtain ⟨h1, h⟩ := hh
    have hsub := sub_enumerate
    have q1 : ∀ {A' : Around} {E : Value → Shared → Prop} {Q : Value → Shared → Prop}, Q (.ref hp.objs.size) ⟨hp.push o, g, d, tk, os⟩ → wpAny (model prog w) A' (pyIter v) Q E ⟨hp, g, d, tk, os⟩ := fun q => B.iter prog w _ _ ⟨hp, g, d, tk, os⟩ _ h1 q
    wp_walk using q1
    refine wpAny_stack_any fun stk => wpAny_pure ?_
    split
    · rename_i c _ _ _ _ _
      cases (c == Value.type "enumerate") <;> (wp_walk using q1; exact ⟨_, rfl, h⟩)
    · wp_walk using q1
      exact ⟨_, rfl, h⟩
theorem call_enum_tup {prog : Program} {w : World} {A : Around} {E : Value → Shared → Prop} {s : Shared} {t : Addr} {items : Array Value} {Q : Value → Shared → Prop} (hL : s.heap.IsTuple t items)
    (h : ∀ h', IsEnum h' (s.heap.objs.size + 1) s.heap.objs.size 0 .none → h'.IsTupleIter s.heap.objs.size t 0 → (∀ b o, s.heap.get? b = some o → h'.get? b = some o) → Q (.ref (s.heap.objs.size + 1)) { s with heap := h' }) :
    wpAny (model prog w) A (call (.type "enumerate") [.ref t]) Q E s := by
  refine callType_new F.called_enumerate (by decide) (F.typeCall_enumerate_1 _) (F.newCall_enumerate_1 _) (fun obj => F.args_object_init_2 obj _) F.entry_enumerate_new (meets_enum1 (begins_tuple t items)) ⟨hL, ?_⟩
  generalize ho : ({ cls := .type "tuple_iterator", data := .fields #[.ref t, .int 0 0] } : Obj) = o
  have hz : (s.heap.push o).objs.size = s.heap.objs.size + 1 := Heap.size_push ..
  show _ ∧ _
  rw [hz]
  generalize he : ({ cls := .type "enumerate", data := .fields #[.none, .bool false, .ref s.heap.objs.size, rawInt 0, .none, .none] } : Obj) = eo
  have h2 : ((s.heap.push o).push eo).get? (s.heap.objs.size + 1) = some eo := by
    have q := Heap.get?_push_size (s.heap.push o) (o := eo) (by rw [← he]; rfl)
    rw [hz] at q
    exact q
  have h3 : ((s.heap.push o).push eo).get? s.heap.objs.size = some o := Heap.get?_push_of_some _ (Heap.get?_push_size _ (by rw [← ho]; rfl))
  refine ⟨⟨_, h2, by rw [← he]⟩, h _ ?_ ⟨o, h3, by rw [← ho], by rw [← ho]; rfl⟩ fun b o x => Heap.get?_push_of_some _ (Heap.get?_push_of_some _ x)⟩
  show ((s.heap.push o).push eo).get? (s.heap.objs.size + 1) = some _
  rw [h2, ← he]
/-- the tuple at a, each item in a new pair -/
def IteT (K : PySem.W.Frag) (a : Addr) (xs : List V) : It :=
  ⟨fun i H => SqT K H a xs ∧ i < xs.length, fun i H v H' => ∃ T x, v = .ref T ∧ H T = none ∧ H' = upd H T (.tup [.int (i : Nat), x]) ∧ xs[i]? = some x, fun i H => SqT K H a xs ∧ i = xs.length⟩
theorem turn_enumT {P : Program} {w : World} {K : PySem.W.Frag} {elts : List Expr} {kk : Nat} {tpos : Pos} {xs : List V} (a e it : Addr) (his : List Value) :
    Turn P w K (.Tuple elts kk tpos) (IteT K a xs) [e, it] e (fun i h => (∃ old, IsEnum h e it ((i : Nat) : Int) old) ∧ h.IsTupleIter it a i ∧ e ≠ it ∧ a ≠ it ∧ a ≠ e) where
  mem := by simp
  obj := fun i h st b hb => by
    obtain ⟨⟨old, he⟩, ⟨o, ho, hc, hd⟩, _⟩ := st
    rcases (show b = e ∨ b = it by simpa using hb) with z | z
    · rw [z]
      exact ⟨_, he, fun v q => nomatch q⟩
    · rw [z]
      exact ⟨o, ho, fun v q => by rw [hd] at q; cases q⟩
  keep := fun i h h' st k => let ⟨⟨old, he⟩, hi, hne⟩ := st; ⟨⟨old, k e (by simp) _ he⟩, hi.at fun o q => k it (by simp) o q, hne⟩
  item := by
    intro X hP hw hK hc i pins s σ H E I hf st hg
    subst hP hw hK
    obtain ⟨⟨old, he⟩, hit, hne, nai, nae⟩ := st
    obtain ⟨hq, hlt⟩ := hg
    obtain ⟨its, rv, p, hz⟩ := I.tuple hq
    have hlen := rv.length
    have hel : e < s.heap.objs.size := Heap.lt_size he
    have hil : it < s.heap.objs.size := by obtain ⟨_, q, _⟩ := hit; exact Heap.lt_size q
    have D : Draws X.prog X.w X.A.in1 it [it, a] its.toArray.size (fun i v => its.toArray[i]? = some v) (fun i h => h.IsTupleIter it a i ∧ h.IsTuple a its.toArray) := Draws.tuple (A := X.A.in1) (show X.A.in1.handled = none from I.ok.hd hc) it a nai its.toArray
    refine wpAny_pyNext_enum_itemC D he ⟨hit, p⟩ (by rw [List.size_toArray]; omega) hne (by simp [hne, Ne.symm nae]) fun u h' tk hu ho hst' hT hsz hk => ?_
    have hu' : its[i]? = some u := by simpa using hu
    obtain ⟨x, hx, ru⟩ : ∃ x, xs[i]? = some x ∧ RelV x u := by
      obtain ⟨u2, h2, r2⟩ := rv.get (List.getElem?_eq_getElem hlt)
      rw [hu'] at h2
      cases h2
      exact ⟨_, List.getElem?_eq_getElem hlt, r2⟩
    refine ⟨_, rfl, wpAny_letOwnedTupleGo_enum (s := { s with heap := h', toks := tk + 1 }) ho fun h'' he' sb => ?_⟩
    have hT2 : h''.get? s.heap.objs.size = some { cls := .type "tuple", data := .seq #[.int i tk, u] } := (sb.2 _ (Nat.ne_of_gt hel)).trans hT
    have new : ObjOk X.prog X.w (upd H s.heap.objs.size (.tup [.int (i : Nat), x])) h'' s.heap.objs.size (.tup [.int (i : Nat), x]) := ⟨by show 2 ≤ sizeLine; decide, [.int i tk, u], .cons ⟨_, rfl⟩ (.cons ru .nil), ⟨_, hT2, rfl, _, rfl⟩⟩
    have I1 : Inv X pins σ (upd H s.heap.objs.size (.tup [.int (i : Nat), x])) { s with heap := h'', toks := tk + 1 } :=
      I.turnedNew (ch := [e, it]) (fun b ob hb q => (sb.2 b (fun z => hb (by simp [z]))).trans (hk b ob (fun z => hb (by simp [z])) (fun z => hb (by simp [z])) q)) hf (Nat.le_refl _) new
    refine ⟨.ref s.heap.objs.size, _, I1, rfl, ⟨_, x, rfl, I.hok.fresh (Nat.le_refl _), rfl, hx⟩, ⟨⟨u, ?_⟩, hst'.1.at fun o q => (sb.2 it (Ne.symm hne)).trans q, hne, nai, nae⟩, fun b hb => ?_⟩
    · have e1 : ((i + 1 : Nat) : Int) = (i : Int) + 1 := by omega
      rw [e1]
      exact he'
    · have hb' : b < s.heap.objs.size := by
        rcases (show b = e ∨ b = it by simpa using hb) with z | z
        · rw [z]; exact hel
        · rw [z]; exact hil
      rw [upd_ne (Nat.ne_of_lt hb')]
      exact (hf b hb).1
  done := by
    intro X hP hw hK hc i pins s σ H E I hf st hg
    subst hP hw hK
    obtain ⟨⟨old, he⟩, hit, hne, nai, nae⟩ := st
    obtain ⟨hq, hi⟩ := hg
    obtain ⟨its, rv, p, hz⟩ := I.tuple hq
    have hlen := rv.length
    obtain ⟨f0, f1, f2, f3, f4, f5⟩ := hf it (by simp)
    have D : Draws X.prog X.w X.A.in1 it [it, a] its.toArray.size (fun i v => its.toArray[i]? = some v) (fun i h => h.IsTupleIter it a i ∧ h.IsTuple a its.toArray) := Draws.tuple (A := X.A.in1) (show X.A.in1.handled = none from I.ok.hd hc) it a nai its.toArray
    have en : i = its.toArray.size := by rw [List.size_toArray]; omega
    rw [en] at he hit
    exact wpAny_pyNext_enum_endD D he ⟨hit, p⟩ fun h' eb => ⟨rfl, I.turned (t' := s.toks) (fun b o hb q => eb b o hb q) f0 f1 f3 f4 f5⟩
  self := fun A i s Q E st h => let ⟨⟨_, he⟩, _⟩ := st; wpAny_pyIter_enum he h
def iEnumT (K : PySem.W.Frag) (ta : TA) : TI := fun σ H R => ta σ H fun vs H1 => ∃ a xs, vs = [.ref a] ∧ SqT K H1 a xs ∧ R (IteT K a xs) H1
theorem pi_enumT {X : Cx} {e : Expr} {ta : TA} {p pos tpos : Pos} {elts : List Expr} {kk : Nat} (hg : Gl X "enumerate") (hm : X.mg "enumerate" = none) (ha : PA X [e] ta) (hs : starEach [e] X.env = [(false, eval e X.env)] := by rfl) :
    PI X (.Tuple elts kk tpos) (.Call (.Name "enumerate" p) [e] [] pos) (iEnumT X.K ta) := by
  refine ⟨fun pins s σ H R I h => ?_⟩
  refine Call_ (ld_blt I hg hm boot_enumerate (PyProof.Rows.callWith_type1 (thn (ha.run pos pins s σ H _ I h) fun us s1 ⟨vs, H1, I1, r1, a, xs, ex, hq, q⟩ => ?_) hs rfl))
  subst ex
  cases r1 with
  | cons r rr =>
    cases rr
    cases r
    obtain ⟨its, rv, p', hz⟩ := I1.tuple hq
    have hal : a < s1.heap.objs.size := by obtain ⟨_, z, _⟩ := p'; exact Heap.lt_size z
    refine call_enum_tup (items := its.toArray) p' fun h' he hit hk => wpAny_pyIter_enum he ?_
    have I2 : Inv X pins σ H1 { s1 with heap := h' } := I1.kept (t' := s1.toks) hk
    refine ⟨s1.heap.objs.size + 1, [s1.heap.objs.size + 1, s1.heap.objs.size], _, _, H1, rfl, I2, turn_enumT a (s1.heap.objs.size + 1) s1.heap.objs.size its, ⟨⟨.none, he⟩, hit, Nat.succ_ne_self _, Nat.ne_of_lt hal, Nat.ne_of_lt (Nat.lt_succ_of_lt hal)⟩, fun b hb => ?_, q⟩
    have hle : s1.heap.objs.size ≤ b := by
      rcases (show b = s1.heap.objs.size + 1 ∨ b = s1.heap.objs.size by simpa using hb) with z | z
      · rw [z]; exact Nat.le_add_right _ _
      · rw [z]; exact Nat.le_refl _
    exact I1.fpOk hle (I1.hok.fresh hle)
theorem walk_enumT {K : PySem.W.Frag} {a : Addr} {xs : List V} : Walk (IteT K a xs) xs.length (fun H => SqT K H a xs) (YPair (fun i => some (.int (i : Nat))) (fun i => xs[i]?)) := by
  refine ⟨fun i _ hi q => ⟨q, hi⟩, fun _ q => ⟨q, rfl⟩, fun i H v H' _ q y => ?_⟩
  obtain ⟨T, x, h1, h2, h3, h4⟩ := y
  exact ⟨T, .int (i : Nat), x, h1, h2, h3, rfl, h4⟩
end Wm
namespace Wm
open PySem L2
/-- the outer walk of a comprehension of two clauses -/
theorem lc2_it {J : It} {n : Nat} {G : Hp → Prop} {Y : Nat → Hp → V → Hp → Prop} (w : Walk J n G Y) {g : TG} {vs : List Nat} {σ : St} {H1 : Hp} {D : Addr} {Qd : Hp → Prop} {inner : St → Hp → (Hp → Prop) → Prop} (Pv : Nat → Hp → Prop) (h0 : Pv 0 (upd H1 D (.lst []))) (hG : ∀ i H, i ≤ n → Pv i H → G H)
    (hs : ∀ i x H H', i < n → Pv i H → Y i H x H' → g x (wipe σ vs) H' fun σ2 H2 => wipe σ2 vs = wipe σ vs ∧ inner σ2 H2 (Pv (i + 1))) (hd : ∀ H, Pv n H → Qd H) :
    ∃ W : Nat → Nat → Hp → Prop, (∃ m, W 0 m (upd H1 D (.lst []))) ∧ ∀ i m H, W i m H →
      (J.stop i H ∧ Qd H) ∨ (J.go i H ∧ ∃ Nx : Hp → Prop, (∀ H', Nx H' → ∃ m', m' < m ∧ W (i + 1) m' H') ∧ ∀ x H', J.yld i H x H' → g x (wipe σ vs) H' fun σ2 H2 => wipe σ2 vs = wipe σ vs ∧ inner σ2 H2 Nx) := by
  refine ⟨fun i m H => m = n - i ∧ i ≤ n ∧ Pv i H, ⟨n, by simp, Nat.zero_le _, h0⟩, ?_⟩
  rintro i m H ⟨rfl, hi, p⟩
  have q := hG i H hi p
  by_cases hlt : i < n
  · exact .inr ⟨w.goes i H hlt q, Pv (i + 1), fun H' p' => ⟨n - (i + 1), by omega, rfl, hlt, p'⟩, fun x H' y => hs i x H H' hlt p (w.yields i H x H' hlt q y)⟩
  · have e : i = n := by omega
    subst e
    exact .inl ⟨w.stops H q, hd H p⟩
/-- the inner one -/
theorem lc1_it {J : It} {n : Nat} {G : Hp → Prop} {Y : Nat → Hp → V → Hp → Prop} (w : Walk J n G Y) {g : TG} {te : TE} {vs : List Nat} {σ : St} {H4 : Hp} {D : Addr} {Nx : Hp → Prop} (Pv : Nat → Hp → Prop) (h0 : Pv 0 H4) (hG : ∀ i H, i ≤ n → Pv i H → G H)
    (hs : ∀ i x H H', i < n → Pv i H → Y i H x H' → g x (wipe σ vs) H' fun σ3 H5 => wipe σ3 vs = wipe σ vs ∧ te σ3 H5 fun y H7 => ∃ acc, H7 D = some (.lst acc) ∧ acc.length < sizeLine ∧ Pv (i + 1) (upd H7 D (.lst (acc ++ [y])))) (hd : ∀ H, Pv n H → Nx H) :
    ∃ W1 : Nat → Nat → Hp → Prop, (∃ m, W1 0 m H4) ∧ ∀ j k H, W1 j k H →
      (J.stop j H ∧ Nx H) ∨ (J.go j H ∧ ∃ Nx1 : Hp → Prop, (∀ H', Nx1 H' → ∃ k', k' < k ∧ W1 (j + 1) k' H') ∧ ∀ x H', J.yld j H x H' → g x (wipe σ vs) H' fun σ3 H5 => wipe σ3 vs = wipe σ vs ∧ tYes σ3 H5 fun b H6 =>
        if b = true then te σ3 H6 fun y H7 => ∃ acc, H7 D = some (.lst acc) ∧ acc.length < sizeLine ∧ Nx1 (upd H7 D (.lst (acc ++ [y]))) else Nx1 H6) := by
  refine ⟨fun i m H => m = n - i ∧ i ≤ n ∧ Pv i H, ⟨n, by simp, Nat.zero_le _, h0⟩, ?_⟩
  rintro i m H ⟨rfl, hi, p⟩
  have q := hG i H hi p
  by_cases hlt : i < n
  · exact .inr ⟨w.goes i H hlt q, Pv (i + 1), fun H' p' => ⟨n - (i + 1), by omega, rfl, hlt, p'⟩, fun x H' y => hs i x H H' hlt p (w.yields i H x H' hlt q y)⟩
  · have e : i = n := by omega
    subst e
    exact .inl ⟨w.stops H q, hd H p⟩
/-- tuple(x) of a list or a tuple -/
def rTupOf (K : PySem.W.Frag) : List V → Hp → VK → Prop := fun xs H Q => ∃ p ys, xs = [.ref p] ∧ ((SqL K H p ys ∧ ∀ l, H l = none → Q (.ref l) (upd H l (.tup ys))) ∨ (SqT K H p ys ∧ Q (.ref p) H))
theorem call_tupN {X : Cx} : CallR X (.type "tuple") (rTupOf X.K) := call_tuple_of
theorem same_seqT {K : PySem.W.Frag} {H H' : Hp} {a : Addr} {xs : List V} (e : Same H H') (h : SqT K H a xs) : SqT K H' a xs := by
  rcases h with (h | ⟨o, h⟩) | h
  · exact .inl (.inl (e _ _ h))
  · exact .inl (.inr ⟨o, e _ _ h⟩)
  · exact .inr h
/-- to be read as a list or a tuple -/
def Sq (K : PySem.W.Frag) (H : Hp) (a : Addr) (xs : List V) : Prop := SqL K H a xs ∨ SqT K H a xs
theorem same_sq {K : PySem.W.Frag} {H H' : Hp} {a : Addr} {xs : List V} (e : Same H H') (h : Sq K H a xs) : Sq K H' a xs := h.imp (fun h => e.seq h) (fun h => same_seqT e h)
theorem cut_take (xs : List V) (i : Nat) : cutV xs none (some (i : Int)) = xs.take i := by
  unfold cutV
  rw [HT.sIx_none, HT.sIx_nat, List.drop_zero, Nat.sub_zero]
  by_cases h : i ≤ xs.length
  · rw [Nat.min_eq_left h]
  · rw [Nat.min_eq_right (by omega), List.take_length, List.take_of_length_le (by omega)]
theorem all_take {xs : List V} (h : xs.all flatV = true) (i : Nat) : (xs.take i).all flatV = true := by
  rw [List.all_eq_true] at h ⊢
  exact fun x hx => h x (List.mem_of_mem_take hx)
end Wm
namespace Wm
open PySem L2
abbrev sFT : Stmt := top 15
abbrev sRT : Stmt := top 16
abbrev sRC : Stmt := top 17
/-- no item stands ahead of itself -/
def NoTw (xs : List V) : Prop := ∀ (i : Nat) (x : V), xs[i]? = some x → inV x (xs.take i) = false
def spFT (K : PySem.W.Frag) : Sp := fun vs H Q _ => ∃ (l : Addr) (xs : List V), vs = [.ref l] ∧ Sq K H l xs ∧ xs.all flatV = true ∧ NoTw xs ∧ ∀ H', Same H H' → Q .non H'
def spRC : Sp := fun vs H Q _ => ∃ (z : V) (c lo hi : Int), vs = [z, .int c, .int lo, .int hi] ∧ lo ≤ c ∧ c ≤ hi ∧ Q .non H
section
variable {P : Program} {w : World} {K : PySem.W.Frag} {mg : Str → Option Value} {base : Heap}
theorem scRC : FnScope ["what", "count", "least", "most"] ["what", "count", "least", "most"] (defScope sRC) := ⟨rfl, rfl, rfl, by decide +kernel, rfl, by decide +kernel, by decide +kernel⟩
theorem ok_rc {f : Addr} {fd : FuncData} (F : Fun K "refuse_count" "refuse_count" sRC f fd) : FnOk P w K mg base CX0 1 f fd ["what", "count", "least", "most"] spRC := by
  refine F.ok scRC (fun vs H Q E h => ?_) (fun cdv A outer s H vs Q E hr h => ?_)
  · obtain ⟨z, c, lo, hi, rfl, _⟩ := h
    rfl
  · obtain ⟨z, c, lo, hi, rfl, h1, h2, k⟩ := h
    refine ⟨_, (pss_one (ps_if (PW.pt (pw_or (pt_cmpR op_lt (pv 1) (pv 2) (nomark _)) (pw_or1 (pt_cmpR op_gt (pv 1) (pv 3) (nomark _))))) (pss_one ps_never) pss_nil)), ?_⟩
    refine ⟨_, rfl, _, rfl, _, _, rfl, rfl, _, rfl, ?_⟩
    refine ite2 (fun h => absurd (of_decide_eq_true h) (by omega)) (fun _ => ?_)
    refine ⟨_, rfl, _, rfl, _, _, rfl, rfl, _, rfl, ?_⟩
    exact ite2 (fun h => absurd (of_decide_eq_true h) (by omega)) (fun _ => k)
theorem scFT : FnScope ["row", "place", "part"] ["row"] (defScope sFT) := ⟨rfl, rfl, rfl, by decide +kernel, rfl, by decide +kernel, by decide +kernel⟩
theorem ok_ft {f : Addr} {fd : FuncData} (F : Fun K "first_twice" "first_twice" sFT f fd) (T : TxB mg) : FnOk P w K mg base CX0 1 f fd ["row"] (spFT K) := by
  refine F.ok scFT (fun vs H Q E h => ?_) (fun cdv A outer s H vs Q E hr h => ?_)
  · obtain ⟨l, xs, rfl, _⟩ := h
    rfl
  · obtain ⟨l, xs, rfl, hl, hf, hno, k⟩ := h
    rcases hl with hl | hl
    · refine ⟨_, (pss_cons (ps_for PassesOwn.never rfl (pi_enum rfl T.enumerate (pa_cons (pv 0) pa_nil)) (pg_tup rfl (pgs_cons (pg_name (i := 1) scFT.nd rfl (Or.inl rfl)) (pgs_cons (pg_name (i := 2) scFT.nd rfl (Or.inl rfl)) pgs_nil))) (pss_one (ps_if (pt_cmpR op_in_seq (pv 2) (pe_slice sl_list (pv 0) po_none (po_some (pv 1))) (by rfl)) (pss_one (ps_ret (pv 1))) pss_nil)))
      (pss_one (ps_ret pe_non))), ?_⟩
      refine ⟨_, rfl, l, xs, rfl, hl, for_it walk_enum (fun i σ H' => (∃ u v, σ = [some (.ref l), u, v]) ∧ Same H H') ⟨⟨none, none, rfl⟩, Same.refl H⟩ (fun i σ H' _ p => p.2.seq hl) ?_ ?_⟩
      · rintro i x σ H1 H2 hi ⟨⟨u, v, rfl⟩, hS⟩ ⟨t, y, z, rfl, ht, rfl, e1, e2⟩
        cases e1
        refine ⟨t, _, rfl, SqT.of upd_same, rfl, _, _, rfl, _, _, rfl, rfl, ?_⟩
        have S2 := hS.trans (Same.upd (o := .tup [.int (i : Nat), z]) ht)
        refine ⟨_, rfl, _, rfl, _, rfl, _, rfl, l, xs, rfl, S2.seq hl, fun p hp => ?_⟩
        refine ⟨p, _, rfl, .inl (SqL.of upd_same), ?_, ?_, _, rfl, ?_⟩
        · exact List.all_eq_true.mp hf _ (List.mem_of_getElem? e2)
        · show (cutV xs none (some (i : Int))).all flatV = true
          rw [cut_take]
          exact all_take hf i
        · have e : inV z (cutV xs none (some (i : Int))) = false := by
            rw [cut_take]
            exact hno i z e2
          show if inV z (cutV xs none (some (i : Int))) = true then _ else _
          rw [e]
          exact iteF ⟨⟨_, _, rfl⟩, S2.trans (Same.upd hp)⟩
      · rintro σ H' ⟨_, hS⟩
        exact k H' hS
    · refine ⟨_, (pss_cons (ps_for PassesOwn.never rfl (pi_enumT rfl T.enumerate (pa_cons (pv 0) pa_nil)) (pg_tup rfl (pgs_cons (pg_name (i := 1) scFT.nd rfl (Or.inl rfl)) (pgs_cons (pg_name (i := 2) scFT.nd rfl (Or.inl rfl)) pgs_nil))) (pss_one (ps_if (pt_cmpR op_in_seq (pv 2) (pe_slice sl_tupA (pv 0) po_none (po_some (pv 1))) (by rfl)) (pss_one (ps_ret (pv 1))) pss_nil)))
      (pss_one (ps_ret pe_non))), ?_⟩
      refine ⟨_, rfl, l, xs, rfl, hl, for_it walk_enumT (fun i σ H' => (∃ u v, σ = [some (.ref l), u, v]) ∧ Same H H') ⟨⟨none, none, rfl⟩, Same.refl H⟩ (fun i σ H' _ p => same_seqT p.2 hl) ?_ ?_⟩
      · rintro i x σ H1 H2 hi ⟨⟨u, v, rfl⟩, hS⟩ ⟨t, y, z, rfl, ht, rfl, e1, e2⟩
        cases e1
        refine ⟨t, _, rfl, SqT.of upd_same, rfl, _, _, rfl, _, _, rfl, rfl, ?_⟩
        have S2 := hS.trans (Same.upd (o := .tup [.int (i : Nat), z]) ht)
        refine ⟨_, rfl, _, rfl, _, rfl, _, rfl, l, xs, rfl, same_seqT S2 hl, fun h => ?_, fun h p hp => ?_⟩
        · have en : xs.take i = xs := by
            rw [HT.sIx_nat] at h
            exact List.take_of_length_le (by omega)
          have e : inV z xs = false := by
            have q := hno i z e2
            rw [en] at q
            exact q
          refine ⟨l, xs, rfl, .inr (same_seqT S2 hl), List.all_eq_true.mp hf _ (List.mem_of_getElem? e2), hf, _, rfl, ?_⟩
          show if inV z xs = true then _ else _
          rw [e]
          exact iteF ⟨⟨_, _, rfl⟩, S2⟩
        · refine ⟨p, _, rfl, .inr (SqT.of upd_same), List.all_eq_true.mp hf _ (List.mem_of_getElem? e2), ?_, _, rfl, ?_⟩
          · show (cutV xs none (some (i : Int))).all flatV = true
            rw [cut_take]
            exact all_take hf i
          · have e : inV z (cutV xs none (some (i : Int))) = false := by
              rw [cut_take]
              exact hno i z e2
            show if inV z (cutV xs none (some (i : Int))) = true then _ else _
            rw [e]
            exact iteF ⟨⟨_, _, rfl⟩, S2.trans (Same.upd hp)⟩
      · rintro σ H' ⟨_, hS⟩
        exact k H' hS
theorem scRT : FnScope ["names", "place"] ["names"] (defScope sRT) := ⟨rfl, rfl, rfl, by decide +kernel, rfl, by decide +kernel, by decide +kernel⟩
theorem ok_rt {f fF : Addr} {fd fdF : FuncData} (F : Fun K "refuse_twice" "refuse_twice" sRT f fd) (T : TxB mg) (D : Dn K mg "first_twice" sFT ["row"] fF fdF) : FnOk P w K mg base CX0 2 f fd ["names"] (spFT K) := by
  have G : FnOk P w K mg base CX0 1 fF fdF ["row"] (spFT K) := ok_ft D.F T
  refine F.ok scRT (fun vs H Q E h => ?_) (fun cdv A outer s H vs Q E hr h => ?_)
  · obtain ⟨l, xs, rfl, _⟩ := h
    rfl
  · obtain ⟨l, xs, rfl, hl, hf, hno, k⟩ := h
    refine ⟨_, (pss_cons (ps_set (i := 1) scRT.nd rfl (Or.inl rfl) (pe_call G hr rfl D.g D.F.kp D.b .nil pass0 (pa_cons (pv 0) pa_nil)))
      (pss_one (ps_if (pt_cmp (pc_notN (pv 1))) (pss_one ps_never) pss_nil))), ?_⟩
    refine ⟨_, rfl, l, xs, rfl, hl, hf, hno, fun H' hS => ?_⟩
    refine ⟨_, rfl, _, rfl, ?_⟩
    exact iteF (k H' hS)
end
end Wm
namespace Wm
open PySem L2
abbrev sTT : Stmt := top 21
abbrev sEO : Stmt := top 22
/-- the tuples at the addresses -/
def RowsAt (K : PySem.W.Frag) (H : Hp) : List Addr → List (List V) → Prop
  | [], [] => True
  | p :: ps, r :: rs => SqT K H p r ∧ RowsAt K H ps rs
  | _, _ => False
theorem RowsAt.same {K : PySem.W.Frag} {H H' : Hp} (e : Same H H') : ∀ {ps : List Addr} {rs : List (List V)}, RowsAt K H ps rs → RowsAt K H' ps rs
  | [], [], _ => True.intro
  | _ :: _, _ :: _, h => ⟨same_seqT e h.1, RowsAt.same e h.2⟩
  | [], _ :: _, h => h.elim
  | _ :: _, [], h => h.elim
theorem RowsAt.len {K : PySem.W.Frag} {H : Hp} : ∀ {ps : List Addr} {rs : List (List V)}, RowsAt K H ps rs → ps.length = rs.length
  | [], [], _ => rfl
  | _ :: _, _ :: _, h => congrArg Nat.succ (RowsAt.len h.2)
  | [], _ :: _, h => h.elim
  | _ :: _, [], h => h.elim
theorem RowsAt.get {K : PySem.W.Frag} {H : Hp} : ∀ {ps : List Addr} {rs : List (List V)} {i : Nat} {p : Addr}, RowsAt K H ps rs → ps[i]? = some p → ∃ r, rs[i]? = some r ∧ SqT K H p r
  | [], [], i, p, _, e => by simp at e
  | _ :: _, r :: _, 0, p, h, e => by
    have e' := Option.some.inj e
    subst e'
    exact ⟨r, rfl, h.1⟩
  | _ :: ps, _ :: rs, i + 1, p, h, e => by
    obtain ⟨r, h1, h2⟩ := RowsAt.get (i := i) h.2 (by simpa using e)
    exact ⟨r, by simpa using h1, h2⟩
  | [], _ :: _, _, _, h, _ => h.elim
  | _ :: _, [], _, _, h, _ => h.elim
theorem RowsAt.append {K : PySem.W.Frag} {H : Hp} : ∀ {ps qs : List Addr} {rs us : List (List V)}, RowsAt K H ps rs → RowsAt K H qs us → RowsAt K H (ps ++ qs) (rs ++ us)
  | [], _, [], _, _, h => h
  | _ :: _, _, _ :: _, _, h, g => ⟨h.1, RowsAt.append h.2 g⟩
  | [], _, _ :: _, _, h, _ => h.elim
  | _ :: _, _, [], _, h, _ => h.elim
theorem RowsAt.take {K : PySem.W.Frag} {H : Hp} : ∀ {ps : List Addr} {rs : List (List V)} (n : Nat), RowsAt K H ps rs → RowsAt K H (ps.take n) (rs.take n)
  | _, _, 0, _ => True.intro
  | [], [], _ + 1, _ => True.intro
  | _ :: _, _ :: _, n + 1, h => ⟨h.1, RowsAt.take n h.2⟩
  | [], _ :: _, _ + 1, h => h.elim
  | _ :: _, [], _ + 1, h => h.elim
theorem map_ref_get {ps : List Addr} {i : Nat} {x : V} (h : (ps.map V.ref)[i]? = some x) : ∃ p, ps[i]? = some p ∧ x = .ref p := by
  rw [List.getElem?_map] at h
  cases e : ps[i]? with
  | none =>
    rw [e] at h
    cases h
  | some p =>
    rw [e] at h
    exact ⟨p, rfl, (Option.some.inj h).symm⟩
theorem map_str_get {ps : List Str} {i : Nat} {x : V} (h : (ps.map V.str)[i]? = some x) : ∃ p, ps[i]? = some p ∧ x = .str p := by
  rw [List.getElem?_map] at h
  cases e : ps[i]? with
  | none =>
    rw [e] at h
    cases h
  | some p =>
    rw [e] at h
    exact ⟨p, rfl, (Option.some.inj h).symm⟩
abbrev Tri := Str × Str × Str
def triV (t : Tri) : List V := [.str t.1, .str t.2.1, .str t.2.2]
def endsL (ts : List Tri) : List Str := ts.flatMap fun t => [t.1, t.2.2]
theorem endsL_take {ts : List Tri} {i : Nat} {t : Tri} (h : ts[i]? = some t) : endsL (ts.take (i + 1)) = endsL (ts.take i) ++ [t.1, t.2.2] := by
  unfold endsL
  rw [List.take_add_one, h, List.flatMap_append]
  rfl
theorem endsL_len (ts : List Tri) : (endsL ts).length = 2 * ts.length := by
  induction ts with
  | nil => rfl
  | cons t r ih =>
    have e : (endsL (t :: r)).length = 2 + (endsL r).length := by
      show ([t.1, t.2.2] ++ endsL r).length = _
      rw [List.length_append]
      rfl
    have e2 : (t :: r).length = r.length + 1 := rfl
    omega
theorem tri_get {ts : List Tri} {i : Nat} {r : List V} (h : (ts.map triV)[i]? = some r) : ∃ t, ts[i]? = some t ∧ r = triV t := by
  rw [List.getElem?_map] at h
  cases e : ts[i]? with
  | none =>
    rw [e] at h
    cases h
  | some p =>
    rw [e] at h
    exact ⟨p, rfl, (Option.some.inj h).symm⟩
def spTT (K : PySem.W.Frag) : Sp := fun vs H Q _ => ∃ (l : Addr) (ps : List Addr) (rs : List (List V)), vs = [.ref l] ∧ SqL K H l (ps.map V.ref) ∧ RowsAt K H ps rs ∧ ps.length ≤ 1000 ∧ ∀ t H', H t = none → Same H H' → H' t = some (.tup (ps.map V.ref)) → Q (.ref t) H'
def spEO (K : PySem.W.Frag) : Sp := fun vs H Q _ => ∃ (l : Addr) (ps : List Addr) (ts : List Tri), vs = [.ref l] ∧ Sq K H l (ps.map V.ref) ∧ RowsAt K H ps (ts.map triV) ∧ ps.length ≤ 1000 ∧ ∀ d H', H d = none → Same H H' → H' d = some (.lst ((endsL ts).map V.str)) → Q (.ref d) H'
section
variable {P : Program} {w : World} {K : PySem.W.Frag} {mg : Str → Option Value} {base : Heap}
theorem scTT : FnScope ["rows", "row"] ["rows"] (defScope sTT) := ⟨rfl, rfl, rfl, by decide +kernel, rfl, by decide +kernel, by decide +kernel⟩
theorem ok_tt {f : Addr} {fd : FuncData} (F : Fun K "tuple_of_tuples" "tuple_of_tuples" sTT f fd) (T : TxB mg) : FnOk P w K mg base CX0 1 f fd ["rows"] (spTT K) := by
  refine F.ok scTT (fun vs H Q E h => ?_) (fun cdv A outer s H vs Q E hr h => ?_)
  · obtain ⟨l, ps, rs, rfl, _⟩ := h
    rfl
  · obtain ⟨l, ps, rs, rfl, hl, hrs, hn, k⟩ := h
    refine ⟨_, (pss_one (ps_ret (pe_callTy call_tupN (by rfl) T.tuple (by decide +kernel) (pa_cons (pe_lc (own := [("row", 1)]) (g := gName 1) (te := tCB (rTupOf K) (tCons (tVar 1) tNil)) rfl scTT.nd (pi_list (pv 0)) (blkOk_by (N := ["rows", "row"]) (sc := defScope sTT) (by decide +kernel)) (fun _ _ _ _ _ => (pg_name (i := 1) scTT.nd rfl (Or.inl rfl))) (fun _ _ _ _ _ => pts_nil) (fun _ _ _ _ _ => (pe_callTy call_tupN (by rfl) T.tuple (by decide +kernel) (pa_cons (pv 1) pa_nil)))) pa_nil)))), ?_⟩
    refine ⟨_, rfl, l, rfl, ⟨_, hl⟩, fun D hD => ?_⟩
    refine lc_it walk_list (fun i H' => Same H H' ∧ H' D = some (.lst ((ps.take i).map V.ref))) ⟨Same.upd hD, upd_same⟩ (fun i H' _ p => p.1.seq hl) ?_ ?_
    · rintro i x H1 H2 hi ⟨hS, hd⟩ ⟨rfl, hx⟩
      obtain ⟨p, hp, rfl⟩ := map_ref_get hx
      obtain ⟨r, _, hr'⟩ := hrs.get hp
      refine ⟨rfl, ?_⟩
      refine ⟨_, rfl, p, r, rfl, .inr ⟨same_seqT hS hr', _, hd, ?_, ?_, ?_⟩⟩
      · rw [List.length_map, List.length_take]
        exact Nat.lt_of_le_of_lt (show _ ≤ 1000 by omega) (by decide)
      · intro b o h
        rw [upd_ne (ne_of_none h hD)]
        exact hS b o h
      · rw [upd_same, List.take_add_one, hp, List.map_append]
        rfl
    · rintro H' ⟨hS, hd⟩
      rw [List.length_map, List.take_length] at hd
      exact ⟨D, _, rfl, .inl ⟨SqL.of hd, fun t ht => k t _ (hS.free ht) (hS.trans (Same.upd ht)) upd_same⟩⟩
theorem scEO : FnScope ["triples", "x", "word", "y", "end"] ["triples"] (defScope sEO) := ⟨rfl, rfl, rfl, by decide +kernel, rfl, by decide +kernel, by decide +kernel⟩
theorem ok_eo {f : Addr} {fd : FuncData} (F : Fun K "ends_of" "ends_of" sEO f fd) : FnOk P w K mg base CX0 1 f fd ["triples"] (spEO K) := by
  refine F.ok scEO (fun vs H Q E h => ?_) (fun cdv A outer s H vs Q E hr h => ?_)
  · obtain ⟨l, ps, ts, rfl, _⟩ := h
    rfl
  · obtain ⟨l, ps, ts, rfl, hl, hrs, hn, k⟩ := h
    have hlen := hrs.len
    rw [List.length_map] at hlen
    rcases hl with hl | hl
    · refine ⟨_, (pss_one (ps_ret (pe_lc2 (own := [("x", 1), ("word", 2), ("y", 3), ("end", 4)]) (vs1 := [4]) (g := gTup K 3 (gCons (gName 1) (gCons (gName 2) (gCons (gName 3) gNil)))) (g1 := gName 4) (wi1 := iTup K (tTup (tCons (tVar 1) (tCons (tVar 3) tNil)))) rfl scEO.nd (pi_list (pv 0)) (blkOk_by (N := ["triples", "x", "word", "y", "end"]) (sc := defScope sEO) (by decide +kernel)) (by decide) (fun _ _ _ _ _ => (pg_tup rfl (pgs_cons (pg_name (i := 1) scEO.nd rfl (Or.inl rfl)) (pgs_cons (pg_name (i := 2) scEO.nd rfl (Or.inl rfl)) (pgs_cons (pg_name (i := 3) scEO.nd rfl (Or.inl rfl)) pgs_nil))))) (fun _ _ _ _ _ => pts_nil) (fun _ _ _ _ _ => (pi_tup (pe_tup (pa_cons (pv 1) (pa_cons (pv 3) pa_nil))))) (fun _ _ _ _ _ => (pg_name (i := 4) scEO.nd rfl (Or.inl rfl))) (fun _ _ _ _ _ => pts_nil) (fun _ _ _ _ _ => (pv 4))))), ?_⟩
      refine ⟨_, rfl, l, rfl, ⟨_, hl⟩, fun D hD => ?_⟩
      refine lc2_it walk_list (fun i H' => Same H H' ∧ H' D = some (.lst ((endsL (ts.take i)).map V.str))) ⟨Same.upd hD, upd_same⟩ (fun i H' _ p => p.1.seq hl) ?_ ?_
      · rintro i x H1 H2 hi ⟨hS, hd⟩ ⟨rfl, hx⟩
        obtain ⟨p, hp, rfl⟩ := map_ref_get hx
        obtain ⟨r, hr1, hr'⟩ := hrs.get hp
        obtain ⟨t, ht, rfl⟩ := tri_get hr1
        refine ⟨p, _, rfl, same_seqT hS hr', rfl, _, _, rfl, _, _, rfl, _, _, rfl, rfl, rfl, ?_⟩
        refine ⟨_, rfl, _, rfl, by show 2 ≤ sizeLine; decide, fun q hq => ⟨q, rfl, ⟨_, SqT.of upd_same⟩, ?_⟩⟩
        have nDq : D ≠ q := ne_of_none hd hq
        refine lc1_it walk_tup (fun j H' => Same H H' ∧ SqT K H' q [.str t.1, .str t.2.2] ∧ H' D = some (.lst ((endsL (ts.take i) ++ [t.1, t.2.2].take j).map V.str))) ⟨hS.trans (Same.upd hq), SqT.of upd_same, ?_⟩ (fun _ _ _ p => p.2.1) ?_ ?_
        · rw [upd_ne nDq, hd, List.take_zero, List.append_nil]
        · rintro j y H3 H4 hj ⟨hS3, hq3, hd3⟩ ⟨rfl, hy⟩
          refine ⟨rfl, _, rfl, _, hd3, ?_, ?_, ?_, ?_⟩
          · rw [List.length_map, List.length_append, endsL_len, List.length_take, List.length_take]
            have l2 : [t.1, t.2.2].length = 2 := rfl
            exact Nat.lt_of_le_of_lt (show _ ≤ 4000 by omega) (by decide)
          · intro b o h
            rw [upd_ne (ne_of_none h hD)]
            exact hS3 b o h
          · rcases hq3 with (h | ⟨o, h⟩) | h
            · exact .inl (.inl (by rw [upd_ne (ne_of h hd3 (by intro z; cases z))]; exact h))
            · exact .inl (.inr ⟨o, by rw [upd_ne (ne_of h hd3 (by intro z; cases z))]; exact h⟩)
            · exact .inr h
          · have hy' : ([t.1, t.2.2].map V.str)[j]? = some y := hy
            obtain ⟨z, hz, rfl⟩ := map_str_get hy'
            have e : ∀ l : List Str, (l ++ (some z).toList).map V.str = l.map V.str ++ [V.str z] := fun l => by
              rw [List.map_append]
              rfl
            rw [upd_same, List.take_add_one, hz, ← List.append_assoc, e]
        · rintro H3 ⟨hS3, hq3, hd3⟩
          refine ⟨hS3, ?_⟩
          rw [hd3, endsL_take ht]
          rfl
      · rintro H' ⟨hS, hd⟩
        refine k D H' hD hS ?_
        rw [hd, List.length_map, List.take_of_length_le (by omega)]
    · refine ⟨_, (pss_one (ps_ret (pe_lc2 (own := [("x", 1), ("word", 2), ("y", 3), ("end", 4)]) (vs1 := [4]) (g := gTup K 3 (gCons (gName 1) (gCons (gName 2) (gCons (gName 3) gNil)))) (g1 := gName 4) (wi1 := iTup K (tTup (tCons (tVar 1) (tCons (tVar 3) tNil)))) rfl scEO.nd (pi_tup (pv 0)) (blkOk_by (N := ["triples", "x", "word", "y", "end"]) (sc := defScope sEO) (by decide +kernel)) (by decide) (fun _ _ _ _ _ => (pg_tup rfl (pgs_cons (pg_name (i := 1) scEO.nd rfl (Or.inl rfl)) (pgs_cons (pg_name (i := 2) scEO.nd rfl (Or.inl rfl)) (pgs_cons (pg_name (i := 3) scEO.nd rfl (Or.inl rfl)) pgs_nil))))) (fun _ _ _ _ _ => pts_nil) (fun _ _ _ _ _ => (pi_tup (pe_tup (pa_cons (pv 1) (pa_cons (pv 3) pa_nil))))) (fun _ _ _ _ _ => (pg_name (i := 4) scEO.nd rfl (Or.inl rfl))) (fun _ _ _ _ _ => pts_nil) (fun _ _ _ _ _ => (pv 4))))), ?_⟩
      refine ⟨_, rfl, l, rfl, ⟨_, hl⟩, fun D hD => ?_⟩
      refine lc2_it walk_tup (fun i H' => Same H H' ∧ H' D = some (.lst ((endsL (ts.take i)).map V.str))) ⟨Same.upd hD, upd_same⟩ (fun i H' _ p => same_seqT p.1 hl) ?_ ?_
      · rintro i x H1 H2 hi ⟨hS, hd⟩ ⟨rfl, hx⟩
        obtain ⟨p, hp, rfl⟩ := map_ref_get hx
        obtain ⟨r, hr1, hr'⟩ := hrs.get hp
        obtain ⟨t, ht, rfl⟩ := tri_get hr1
        refine ⟨p, _, rfl, same_seqT hS hr', rfl, _, _, rfl, _, _, rfl, _, _, rfl, rfl, rfl, ?_⟩
        refine ⟨_, rfl, _, rfl, by show 2 ≤ sizeLine; decide, fun q hq => ⟨q, rfl, ⟨_, SqT.of upd_same⟩, ?_⟩⟩
        have nDq : D ≠ q := ne_of_none hd hq
        refine lc1_it walk_tup (fun j H' => Same H H' ∧ SqT K H' q [.str t.1, .str t.2.2] ∧ H' D = some (.lst ((endsL (ts.take i) ++ [t.1, t.2.2].take j).map V.str))) ⟨hS.trans (Same.upd hq), SqT.of upd_same, ?_⟩ (fun _ _ _ p => p.2.1) ?_ ?_
        · rw [upd_ne nDq, hd, List.take_zero, List.append_nil]
        · rintro j y H3 H4 hj ⟨hS3, hq3, hd3⟩ ⟨rfl, hy⟩
          refine ⟨rfl, _, rfl, _, hd3, ?_, ?_, ?_, ?_⟩
          · rw [List.length_map, List.length_append, endsL_len, List.length_take, List.length_take]
            have l2 : [t.1, t.2.2].length = 2 := rfl
            exact Nat.lt_of_le_of_lt (show _ ≤ 4000 by omega) (by decide)
          · intro b o h
            rw [upd_ne (ne_of_none h hD)]
            exact hS3 b o h
          · rcases hq3 with (h | ⟨o, h⟩) | h
            · exact .inl (.inl (by rw [upd_ne (ne_of h hd3 (by intro z; cases z))]; exact h))
            · exact .inl (.inr ⟨o, by rw [upd_ne (ne_of h hd3 (by intro z; cases z))]; exact h⟩)
            · exact .inr h
          · have hy' : ([t.1, t.2.2].map V.str)[j]? = some y := hy
            obtain ⟨z, hz, rfl⟩ := map_str_get hy'
            have e : ∀ l : List Str, (l ++ (some z).toList).map V.str = l.map V.str ++ [V.str z] := fun l => by
              rw [List.map_append]
              rfl
            rw [upd_same, List.take_add_one, hz, ← List.append_assoc, e]
        · rintro H3 ⟨hS3, hq3, hd3⟩
          refine ⟨hS3, ?_⟩
          rw [hd3, endsL_take ht]
          rfl
      · rintro H' ⟨hS, hd⟩
        refine k D H' hD hS ?_
        rw [hd, List.length_map, List.take_of_length_le (by omega)]
end
end Wm
namespace Wm
open PySem L2
abbrev sTP : Stmt := top 23
abbrev sRV : Stmt := top 24
abbrev sRL : Stmt := top 25
abbrev sRA : Stmt := top 26
abbrev Var := Str × Option Str
def sortV : Option Str → V
  | none => .non
  | some s => .str s
def varV (v : Var) : List V := [.str v.1, sortV v.2]
def varT (v : Var) : List Str := v.1 :: v.2.toList
def textsL (nm : Str) (vars : List Var) (ts : List Tri) : List Str := (nm :: vars.flatMap varT) ++ ts.map (·.2.1)
theorem flat_take {vars : List Var} {i : Nat} {v : Var} (h : vars[i]? = some v) : (vars.take (i + 1)).flatMap varT = (vars.take i).flatMap varT ++ varT v := by
  rw [List.take_add_one, h, List.flatMap_append]
  simp
theorem var_get {vars : List Var} {i : Nat} {r : List V} (h : (vars.map varV)[i]? = some r) : ∃ t, vars[i]? = some t ∧ r = varV t := by
  rw [List.getElem?_map] at h
  cases e : vars[i]? with
  | none =>
    rw [e] at h
    cases h
  | some p =>
    rw [e] at h
    exact ⟨p, rfl, (Option.some.inj h).symm⟩
theorem inV_str {z : Str} {ns : List Str} : inV (.str z) (ns.map V.str) = decide (z ∈ ns) := by
  unfold inV
  induction ns with
  | nil => rfl
  | cons a r ih =>
    rw [List.map_cons, List.any_cons, ih]
    show (a == z || _) = _
    by_cases h : a = z
    · subst h
      simp
    · have h2 : ¬ z = a := fun q => h q.symm
      by_cases h3 : z ∈ r <;> simp [h, h2, h3]
theorem flat_strs (ns : List Str) : (ns.map V.str).all flatV = true := by
  rw [List.all_eq_true]
  intro x hx
  obtain ⟨z, _, rfl⟩ := List.mem_map.mp hx
  rfl
def spTP (K : PySem.W.Frag) : Sp := fun vs H Q _ => ∃ (nm : Str) (a b : Addr) (ps qs : List Addr) (vars : List Var) (ts : List Tri), vs = [.str nm, .ref a, .ref b] ∧ SqT K H a (ps.map V.ref) ∧ RowsAt K H ps (vars.map varV) ∧ SqL K H b (qs.map V.ref) ∧ RowsAt K H qs (ts.map triV) ∧
  ps.length ≤ 1000 ∧ qs.length ≤ 1000 ∧ ∀ d H', H d = none → Same H H' → H' d = some (.lst ((textsL nm vars ts).map V.str)) → Q (.ref d) H'
def spRV (K : PySem.W.Frag) : Sp := fun vs H Q _ => ∃ (a b : Addr) (ns zs : List Str), vs = [.ref a, .ref b] ∧ SqL K H a (ns.map V.str) ∧ SqL K H b (zs.map V.str) ∧ (∀ z ∈ zs, z ∈ ns) ∧ ∀ H', Same H H' → Q .non H'
def spRL (K : PySem.W.Frag) : Sp := fun vs H Q _ => ∃ (a b : Addr) (ns : List Str) (ps : List Addr) (ts : List Tri), vs = [.ref a, .ref b] ∧ SqL K H a (ns.map V.str) ∧ SqT K H b (ps.map V.ref) ∧ RowsAt K H ps (ts.map triV) ∧ ps.length ≤ 1000 ∧ (∀ z ∈ ns, z ∈ endsL ts) ∧ ∀ H', Same H H' → Q .non H'
def Hangs (ts : List Tri) : Prop := ∀ (i : Nat) (t : Tri), 0 < i → ts[i]? = some t → t.1 ∈ endsL (ts.take i) ∨ t.2.2 ∈ endsL (ts.take i)
def spRA (K : PySem.W.Frag) : Sp := fun vs H Q _ => ∃ (b : Addr) (ps : List Addr) (ts : List Tri), vs = [.ref b] ∧ SqT K H b (ps.map V.ref) ∧ RowsAt K H ps (ts.map triV) ∧ ps.length ≤ 1000 ∧ Hangs ts ∧ ∀ H', Same H H' → Q .non H'
section
variable {P : Program} {w : World} {K : PySem.W.Frag} {mg : Str → Option Value} {base : Heap}
theorem scTP : FnScope ["name", "variables", "triples", "texts", "variable", "sort", "x", "word", "y"] ["name", "variables", "triples"] (defScope sTP) := ⟨rfl, rfl, rfl, by decide +kernel, rfl, by decide +kernel, by decide +kernel⟩
theorem ok_tp {f : Addr} {fd : FuncData} (F : Fun K "texts_of_pattern" "texts_of_pattern" sTP f fd) : FnOk P w K mg base CX0 1 f fd ["name", "variables", "triples"] (spTP K) := by
  refine F.ok scTP (fun vs H Q E h => ?_) (fun cdv A outer s H vs Q E hr h => ?_)
  · obtain ⟨nm, a, b, ps, qs, vars, ts, rfl, _⟩ := h
    rfl
  · obtain ⟨nm, a, b, ps, qs, vars, ts, rfl, ha, hva, hb, htr, hn, hn2, k⟩ := h
    have hlen := hva.len
    rw [List.length_map] at hlen
    have hlen2 := htr.len
    rw [List.length_map] at hlen2
    have fl : ∀ i, ((vars.take i).flatMap varT).length ≤ 2 * vars.length := fun i => by
      have e : ∀ l : List Var, (l.flatMap varT).length ≤ 2 * l.length := fun l => by
        induction l with
        | nil => exact Nat.le_refl _
        | cons v r ih =>
          have e : ((v :: r).flatMap varT).length = (varT v).length + (r.flatMap varT).length := by
            rw [List.flatMap_cons, List.length_append]
          have e2 : (varT v).length ≤ 2 := by
            unfold varT
            cases v.2 <;> simp
          have e3 : (v :: r).length = r.length + 1 := rfl
          omega
      have q := e (vars.take i)
      rw [List.length_take] at q
      omega
    refine ⟨_, (pss_cons (ps_set (i := 3) scTP.nd rfl (Or.inl rfl) (pe_lst (pa_cons (pv 0) pa_nil)))
      (pss_cons (ps_for PassesOwn.never rfl (pi_tup (pv 1)) (pg_tup rfl (pgs_cons (pg_name (i := 4) scTP.nd rfl (Or.inl rfl)) (pgs_cons (pg_name (i := 5) scTP.nd rfl (Or.inl rfl)) pgs_nil))) (pss_cons (ps_expr (pe_bm PySem.F.plainAttrs_list PySem.F.slot_list_append PySem.F.type_list_append mt_append (pv 3) (pa_cons (pv 4) pa_nil)))
      (pss_one (ps_if (pt_cmp (pc_notN (pv 5))) (pss_one (ps_expr (pe_bm PySem.F.plainAttrs_list PySem.F.slot_list_append PySem.F.type_list_append mt_append (pv 3) (pa_cons (pv 5) pa_nil)))) pss_nil))))
      (pss_cons (ps_expr (pe_bm PySem.F.plainAttrs_list PySem.F.slot_list_extend PySem.F.type_list_extend mt_extend (pv 3) (pa_cons (pe_lc (own := [("x", 6), ("word", 7), ("y", 8)]) (g := gTup K 3 (gCons (gName 6) (gCons (gName 7) (gCons (gName 8) gNil)))) rfl scTP.nd (pi_list (pv 2)) (blkOk_by (N := ["name", "variables", "triples", "texts", "variable", "sort", "x", "word", "y"]) (sc := defScope sTP) (by decide +kernel)) (fun _ _ _ _ _ => (pg_tup rfl (pgs_cons (pg_name (i := 6) scTP.nd rfl (Or.inl rfl)) (pgs_cons (pg_name (i := 7) scTP.nd rfl (Or.inl rfl)) (pgs_cons (pg_name (i := 8) scTP.nd rfl (Or.inl rfl)) pgs_nil))))) (fun _ _ _ _ _ => pts_nil) (fun _ _ _ _ _ => (pv 7))) pa_nil)))
      (pss_one (ps_ret (pv 3)))))), ?_⟩
    refine ⟨_, rfl, by show 1 ≤ sizeLine; decide, fun d hd => ?_⟩
    have S0 : Same H (upd H d (.lst [.str nm])) := Same.upd hd
    refine ⟨_, rfl, a, rfl, ⟨_, same_seqT S0 ha⟩, for_it walk_tup (fun i σ H' => (∃ u v, σ = [some (.str nm), some (.ref a), some (.ref b), some (.ref d), u, v, none, none, none]) ∧ Same H H' ∧ H' d = some (.lst ((nm :: (vars.take i).flatMap varT).map V.str)))
      ⟨⟨none, none, rfl⟩, S0, upd_same⟩ (fun i σ H' _ p => same_seqT p.2.1 ha) ?_ ?_⟩
    · rintro i x σ H1 H2 hi ⟨⟨u, v, rfl⟩, hS, hl⟩ ⟨rfl, hx⟩
      obtain ⟨p, hp, rfl⟩ := map_ref_get hx
      obtain ⟨r, hr1, hr'⟩ := hva.get hp
      obtain ⟨⟨n, so⟩, ht, rfl⟩ := var_get hr1
      have fi := fl i
      refine ⟨p, _, rfl, same_seqT hS hr', rfl, _, _, rfl, _, _, rfl, rfl, ?_⟩
      refine ⟨_, rfl, .inl ⟨rfl, _, SqL.of hl⟩, _, rfl, d, _, _, rfl, rfl, hl, ?_, ?_⟩
      · rw [List.length_map, List.length_cons]
        exact Nat.lt_of_le_of_lt (show _ ≤ 4000 by omega) (by decide)
      have S1 : Same H (upd H2 d (.lst ((nm :: (vars.take i).flatMap varT).map V.str ++ [.str n]))) := fun b' o h => by
        rw [upd_ne (ne_of_none h hd)]
        exact hS b' o h
      refine ⟨_, rfl, _, rfl, ?_⟩
      cases so with
      | none =>
        refine iteF ⟨⟨_, _, rfl⟩, S1, ?_⟩
        rw [upd_same, flat_take ht]
        have e : (nm :: ((vars.take i).flatMap varT ++ varT (n, none))) = (nm :: (vars.take i).flatMap varT) ++ [n] := rfl
        rw [e, List.map_append]
        rfl
      | some so =>
        refine iteT ?_
        refine ⟨_, rfl, .inl ⟨rfl, _, SqL.of upd_same⟩, _, rfl, d, _, _, rfl, rfl, upd_same, ?_, ?_⟩
        · rw [List.length_append, List.length_map, List.length_cons, List.length_singleton]
          exact Nat.lt_of_le_of_lt (show _ ≤ 4000 by omega) (by decide)
        · refine ⟨⟨_, _, rfl⟩, fun b' o h => ?_, ?_⟩
          · rw [upd_ne (ne_of_none h hd)]
            exact S1 b' o h
          · rw [upd_same, flat_take ht]
            have e : (nm :: ((vars.take i).flatMap varT ++ varT (n, some so))) = (nm :: (vars.take i).flatMap varT) ++ [n, so] := rfl
            rw [e, List.map_append, List.append_assoc]
            rfl
    · rintro σ H1 ⟨⟨u, v, rfl⟩, hS, hl⟩
      rw [List.length_map, List.take_of_length_le (by omega)] at hl
      have fi := fl vars.length
      rw [List.take_length] at fi
      refine ⟨_, rfl, .inl ⟨rfl, _, SqL.of hl⟩, _, rfl, b, rfl, ⟨_, hS.seq hb⟩, fun D hD => ?_⟩
      have nDd : D ≠ d := (ne_of_none hl hD).symm
      refine lc_it walk_list (fun i H' => Same H H' ∧ H' d = some (.lst ((nm :: vars.flatMap varT).map V.str)) ∧ H' D = some (.lst (((ts.take i).map (·.2.1)).map V.str))) ⟨hS.trans (Same.upd hD), by rw [upd_ne nDd.symm]; exact hl, upd_same⟩ (fun i H' _ p => p.1.seq hb) ?_ ?_
      · rintro i x H2 H3 hi ⟨hS2, hl2, hD2⟩ ⟨rfl, hx⟩
        obtain ⟨p, hp, rfl⟩ := map_ref_get hx
        obtain ⟨r, hr1, hr'⟩ := htr.get hp
        obtain ⟨t, ht, rfl⟩ := tri_get hr1
        refine ⟨p, _, rfl, same_seqT hS2 hr', rfl, _, _, rfl, _, _, rfl, _, _, rfl, rfl, rfl, ?_⟩
        refine ⟨_, rfl, _, hD2, ?_, ?_, ?_, ?_⟩
        · rw [List.length_map, List.length_map, List.length_take]
          exact Nat.lt_of_le_of_lt (show _ ≤ 1000 by omega) (by decide)
        · intro b' o h
          rw [upd_ne (ne_of_none h (hS.free hD))]
          exact hS2 b' o h
        · rw [upd_ne nDd.symm]
          exact hl2
        · rw [upd_same, List.take_add_one, ht, List.map_append, List.map_append]
          rfl
      · rintro H2 ⟨hS2, hl2, hD2⟩
        rw [List.length_map, List.take_of_length_le (by omega)] at hD2
        refine ⟨d, D, _, _, rfl, rfl, hl2, hD2, ?_, ?_⟩
        · rw [List.length_map, List.length_map, List.length_map, List.length_cons]
          exact Nat.le_trans (show _ ≤ 4000 by omega) (by decide)
        · refine ⟨_, rfl, ?_⟩
          refine k d _ hd (fun b' o h => ?_) ?_
          · rw [upd_ne (ne_of_none h hd)]
            exact hS2 b' o h
          · rw [upd_same]
            unfold textsL
            rw [List.map_append]
theorem scRV : FnScope ["names", "texts", "text"] ["names", "texts"] (defScope sRV) := ⟨rfl, rfl, rfl, by decide +kernel, rfl, by decide +kernel, by decide +kernel⟩
theorem ok_rv {f : Addr} {fd : FuncData} (F : Fun K "refuse_no_variable" "refuse_no_variable" sRV f fd) : FnOk P w K mg base CX0 1 f fd ["names", "texts"] (spRV K) := by
  refine F.ok scRV (fun vs H Q E h => ?_) (fun cdv A outer s H vs Q E hr h => ?_)
  · obtain ⟨a, b, ns, zs, rfl, _⟩ := h
    rfl
  · obtain ⟨a, b, ns, zs, rfl, ha, hb, hin, k⟩ := h
    refine ⟨_, (pss_one (ps_for PassesOwn.never rfl (pi_list (pv 1)) (pg_name (i := 2) scRV.nd rfl (Or.inl rfl)) (pss_one (ps_if (pt_cmpR op_notIn_seq (pv 2) (pv 0) (by rfl)) (pss_one ps_never) pss_nil)))), ?_⟩
    refine ⟨_, rfl, b, rfl, ⟨_, hb⟩, for_list (K := K) (a := b) (xs := zs.map V.str) (fun i σ H' => (∃ v, σ = [some (.ref a), some (.ref b), v]) ∧ H' = H) ⟨⟨none, rfl⟩, rfl⟩ (fun i σ H' _ p => by rw [p.2]; exact hb) ?_ ?_⟩
    · rintro i y σ H' hi ⟨⟨v, rfl⟩, rfl⟩
      obtain ⟨z, hz, rfl⟩ := map_str_get hi
      refine ⟨_, rfl, _, rfl, a, _, rfl, .inl ha, rfl, flat_strs ns, _, rfl, ?_⟩
      show if (!inV (.str z) (ns.map V.str)) = true then _ else _
      rw [inV_str, decide_eq_true (hin z (List.mem_of_getElem? hz))]
      exact iteF ⟨⟨_, rfl⟩, rfl⟩
    · rintro σ H' ⟨_, rfl⟩
      exact k H' (Same.refl H')
theorem scRL : FnScope ["names", "conditions", "tied", "name"] ["names", "conditions"] (defScope sRL) := ⟨rfl, rfl, rfl, by decide +kernel, rfl, by decide +kernel, by decide +kernel⟩
theorem ok_rl {f fE : Addr} {fd fdE : FuncData} (F : Fun K "refuse_loose" "refuse_loose" sRL f fd) (D : Dn K mg "ends_of" sEO ["triples"] fE fdE) : FnOk P w K mg base CX0 2 f fd ["names", "conditions"] (spRL K) := by
  have G : FnOk P w K mg base CX0 1 fE fdE ["triples"] (spEO K) := ok_eo D.F
  refine F.ok scRL (fun vs H Q E h => ?_) (fun cdv A outer s H vs Q E hr h => ?_)
  · obtain ⟨a, b, ns, ps, ts, rfl, _⟩ := h
    rfl
  · obtain ⟨a, b, ns, ps, ts, rfl, ha, hb, htr, hn, hin, k⟩ := h
    refine ⟨_, (pss_cons (ps_set (i := 2) scRL.nd rfl (Or.inl rfl) (pe_call G hr rfl D.g D.F.kp D.b .nil pass0 (pa_cons (pv 1) pa_nil)))
      (pss_one (ps_for PassesOwn.never rfl (pi_list (pv 0)) (pg_name (i := 3) scRL.nd rfl (Or.inl rfl)) (pss_one (ps_if (pt_cmpR op_notIn_seq (pv 3) (pv 2) (by rfl)) (pss_one ps_never) pss_nil))))), ?_⟩
    refine ⟨_, rfl, b, ps, ts, rfl, .inr hb, htr, hn, fun d H1 hd hS hl => ?_⟩
    refine ⟨_, rfl, a, rfl, ⟨_, hS.seq ha⟩, for_list (K := K) (a := a) (xs := ns.map V.str) (fun i σ H' => (∃ v, σ = [some (.ref a), some (.ref b), some (.ref d), v]) ∧ H' = H1) ⟨⟨none, rfl⟩, rfl⟩ (fun i σ H' _ p => by rw [p.2]; exact hS.seq ha) ?_ ?_⟩
    · rintro i y σ H' hi ⟨⟨v, rfl⟩, rfl⟩
      obtain ⟨z, hz, rfl⟩ := map_str_get hi
      refine ⟨_, rfl, _, rfl, d, _, rfl, .inl (SqL.of hl), rfl, flat_strs _, _, rfl, ?_⟩
      show if (!inV (.str z) ((endsL ts).map V.str)) = true then _ else _
      rw [inV_str, decide_eq_true (hin z (List.mem_of_getElem? hz))]
      exact iteF ⟨⟨_, rfl⟩, rfl⟩
    · rintro σ H' ⟨_, rfl⟩
      exact k H' hS
theorem scRA : FnScope ["conditions", "place", "x", "word", "y", "ahead"] ["conditions"] (defScope sRA) := ⟨rfl, rfl, rfl, by decide +kernel, rfl, by decide +kernel, by decide +kernel⟩
theorem ok_ra {f fE : Addr} {fd fdE : FuncData} (F : Fun K "refuse_apart" "refuse_apart" sRA f fd) (T : TxB mg) (D : Dn K mg "ends_of" sEO ["triples"] fE fdE) : FnOk P w K mg base CX0 2 f fd ["conditions"] (spRA K) := by
  have G : FnOk P w K mg base CX0 1 fE fdE ["triples"] (spEO K) := ok_eo D.F
  refine F.ok scRA (fun vs H Q E h => ?_) (fun cdv A outer s H vs Q E hr h => ?_)
  · obtain ⟨b, ps, ts, rfl, _⟩ := h
    rfl
  · obtain ⟨b, ps, ts, rfl, hb, htr, hn, hh, k⟩ := h
    have hlen := htr.len
    rw [List.length_map] at hlen
    refine ⟨_, (pss_one (ps_for PassesOwn.never rfl (pi_enumT rfl T.enumerate (pa_cons (pv 0) pa_nil)) (pg_tup rfl (pgs_cons (pg_name (i := 1) scRA.nd rfl (Or.inl rfl)) (pgs_cons (pg_tup rfl (pgs_cons (pg_name (i := 2) scRA.nd rfl (Or.inl rfl)) (pgs_cons (pg_name (i := 3) scRA.nd rfl (Or.inl rfl)) (pgs_cons (pg_name (i := 4) scRA.nd rfl (Or.inl rfl)) pgs_nil)))) pgs_nil))) (pss_cons (ps_set (i := 5) scRA.nd rfl (Or.inl rfl) (pe_call G hr rfl D.g D.F.kp D.b .nil pass0 (pa_cons (pe_slice sl_tupA (pv 0) po_none (po_some (pv 1))) pa_nil)))
      (pss_one (ps_if (PW.pt (pw_and (pt_cmpR op_gt (pv 1) pe_int (nomark _)) (pw_and (pt_cmpR op_notIn_seq (pv 2) (pv 5) (by rfl)) (pw_and1 (pt_cmpR op_notIn_seq (pv 4) (pv 5) (by rfl)))))) (pss_one ps_never) pss_nil))))), ?_⟩
    refine ⟨_, rfl, b, _, rfl, hb, for_it walk_enumT (fun i σ H' => (∃ u v x y z, σ = [some (.ref b), u, v, x, y, z]) ∧ Same H H') ⟨⟨none, none, none, none, none, rfl⟩, Same.refl H⟩ (fun i σ H' _ p => same_seqT p.2 hb) ?_ ?_⟩
    · rintro i x σ H1 H2 hi ⟨⟨u, v, x1, x2, x3, rfl⟩, hS⟩ ⟨q, y, z, rfl, hq, rfl, e1, e2⟩
      cases e1
      obtain ⟨p, hp, rfl⟩ := map_ref_get e2
      obtain ⟨r, hr1, hr'⟩ := htr.get hp
      obtain ⟨t, ht, rfl⟩ := tri_get hr1
      have S2 := hS.trans (Same.upd (o := .tup [.int (i : Nat), .ref p]) hq)
      have hi' : i < ps.length := by rw [List.length_map] at hi; exact hi
      refine ⟨q, _, rfl, SqT.of upd_same, rfl, _, _, rfl, _, _, rfl, ⟨p, _, rfl, same_seqT S2 hr', rfl, _, _, rfl, _, _, rfl, _, _, rfl, rfl, rfl, ?_⟩⟩
      refine ⟨_, rfl, _, rfl, _, rfl, b, _, rfl, same_seqT S2 hb, fun h => ?_, fun _ c hc => ?_⟩
      · exfalso
        rw [HT.sIx_nat, List.length_map] at h
        omega
      have S3 := S2.trans (Same.upd (o := .tup (cutV (ps.map V.ref) none (some (i : Int)))) hc)
      have hcut : cutV (ps.map V.ref) none (some (i : Int)) = (ps.take i).map V.ref := by rw [cut_take, List.map_take]
      refine ⟨c, ps.take i, ts.take i, rfl, .inr (SqT.of (by rw [upd_same, hcut])), ?_, by rw [List.length_take]; omega, fun d H3 hd hS3 hl => ?_⟩
      · rw [List.map_take]
        exact (htr.take i).same S3
      refine ⟨_, rfl, _, _, rfl, rfl, _, rfl, ?_⟩
      refine ite2 (fun h0 => ?_) (fun _ => ?_)
      · have h0' : (0 : Int) < (i : Int) := of_decide_eq_true h0
        refine ⟨_, rfl, _, rfl, d, _, rfl, .inl (SqL.of hl), rfl, flat_strs _, _, rfl, ?_⟩
        show if (!inV (.str t.1) ((endsL (ts.take i)).map V.str)) = true then _ else _
        rw [inV_str]
        by_cases m1 : t.1 ∈ endsL (ts.take i)
        · rw [decide_eq_true m1]
          exact iteF (iteF ⟨⟨_, _, _, _, _, rfl⟩, S3.trans hS3⟩)
        · rw [decide_eq_false m1]
          refine iteT ?_
          refine ⟨_, rfl, _, rfl, d, _, rfl, .inl (SqL.of hl), rfl, flat_strs _, _, rfl, ?_⟩
          show if (!inV (.str t.2.2) ((endsL (ts.take i)).map V.str)) = true then _ else _
          have m2 : t.2.2 ∈ endsL (ts.take i) := (hh i t (by omega) ht).resolve_left m1
          rw [inV_str, decide_eq_true m2]
          exact iteF ⟨⟨_, _, _, _, _, rfl⟩, S3.trans hS3⟩
      · exact iteF ⟨⟨_, _, _, _, _, rfl⟩, S3.trans hS3⟩
    · rintro σ H' ⟨_, hS⟩
      exact k H' hS
end
end Wm
namespace Wm
open PySem L2 StX
abbrev sCP : Stmt := top 27
structure TxP (mg : Str → Option Value) : Prop where
  mv : ∃ t, mg "MOST_VARIABLES" = some (.int 4 t)
  mc : ∃ t, mg "MOST_CONDITIONS" = some (.int 3 t)
theorem DueN.mono {C : Addr} {zs : List Str} {H H1 : Hp} {Q : VK} {E : XK} (hS : Same H H1) (h : DueN C zs H Q E) : DueN C zs H1 Q E := by
  unfold DueN at h ⊢
  split
  · rename_i e
    rw [e] at h
    exact fun H' h1 => h H' (hS.trans h1)
  · rename_i z e
    rw [e] at h
    exact fun d H' h0 h1 h2 => h d H' (hS.free h0) (hS.trans h1) h2
theorem DueN.next {C : Addr} {zs : List Str} {H H1 : Hp} {Q Q' : VK} {E : XK} (h : DueN C zs H Q E) (hS : Same H H1) (r : zs.find? (fun z => !isNm z) = none → ∀ H', Same H1 H' → Q' .non H') : DueN C zs H1 Q' E := by
  have h' := DueN.mono hS h
  unfold DueN at h' ⊢
  cases e : zs.find? (fun z => !isNm z) with
  | none => exact r e
  | some z =>
    rw [e] at h'
    exact h'
theorem flat_len (l : List Var) : (l.flatMap varT).length ≤ 2 * l.length := by
  induction l with
  | nil => exact Nat.le_refl _
  | cons v r ih =>
    have e : ((v :: r).flatMap varT).length = (varT v).length + (r.flatMap varT).length := by
      rw [List.flatMap_cons, List.length_append]
    have e2 : (varT v).length ≤ 2 := by
      unfold varT
      cases v.2 <;> simp
    have e3 : (v :: r).length = r.length + 1 := rfl
    omega
/-- a pattern of which nothing but a text that is no name is to be refused -/
structure PatOk (vars : List Var) (cs gs : List Tri) (hs : List Str) : Prop where
  v1 : 1 ≤ vars.length
  v4 : vars.length ≤ 4
  c1 : 1 ≤ cs.length
  c3 : cs.length ≤ 3
  g3 : gs.length ≤ 1
  h3 : hs.length ≤ 1
  tw : NoTw ((vars.map (·.1)).map V.str)
  en : ∀ z ∈ endsL (cs ++ gs) ++ hs, z ∈ vars.map (·.1)
  lo : ∀ z ∈ vars.map (·.1), z ∈ endsL cs
  ap : Hangs cs
def spCP (K : PySem.W.Frag) (C : Addr) : Sp := fun vs H Q E => ∃ (nm : Str) (a b g h : Addr) (ps qs us : List Addr) (vars : List Var) (cs gs : List Tri) (hs : List Str), vs = [.str nm, .ref a, .ref b, .ref g, .ref h] ∧ SqT K H a (ps.map V.ref) ∧ RowsAt K H ps (vars.map varV) ∧
  SqT K H b (qs.map V.ref) ∧ RowsAt K H qs (cs.map triV) ∧ SqL K H g (us.map V.ref) ∧ RowsAt K H us (gs.map triV) ∧ SqL K H h (hs.map V.str) ∧ PatOk vars cs gs hs ∧ (∀ z ∈ textsL nm vars (cs ++ gs), z.length ≤ 1000) ∧ DueN C (textsL nm vars (cs ++ gs)) H Q E
section
variable {P : Program} {w : World} {K : PySem.W.Frag} {mg : Str → Option Value} {base : Heap}
theorem scCP : FnScope ["name", "variables", "conditions", "given", "hands", "triples", "names", "variable", "sort"] ["name", "variables", "conditions", "given", "hands"] (defScope sCP) := ⟨rfl, rfl, rfl, by decide +kernel, rfl, by decide +kernel, by decide +kernel⟩
theorem ok_cp {f fRC fRN fTP fRT fRV fEO fRL fRA C : Addr} {fd dRC dRN dTP dRT dRV dEO dRL dRA : FuncData} (F : Fun K "check_pattern" "check_pattern" sCP f fd) (T : TxB mg) (TP : TxP mg)
    (RC : Dn K mg "refuse_count" sRC ["what", "count", "least", "most"] fRC dRC) (RN : Dn K mg "refuse_no_name" sRN ["texts"] fRN dRN) (TX : Dn K mg "texts_of_pattern" sTP ["name", "variables", "triples"] fTP dTP) (RT : Dn K mg "refuse_twice" sRT ["names"] fRT dRT)
    (RV : Dn K mg "refuse_no_variable" sRV ["names", "texts"] fRV dRV) (EO : Dn K mg "ends_of" sEO ["triples"] fEO dEO) (RL : Dn K mg "refuse_loose" sRL ["names", "conditions"] fRL dRL) (RA : Dn K mg "refuse_apart" sRA ["conditions"] fRA dRA)
    (GRN : FnOk P w K mg base (L2.CX P w) 4 fRN dRN ["texts"] (spRN K C)) (GRT : FnOk P w K mg base CX0 2 fRT dRT ["names"] (spFT K)) :
    FnOk P w K mg base (L2.CX P w) 5 f fd ["name", "variables", "conditions", "given", "hands"] (spCP K C) := by
  have GRC : FnOk P w K mg base CX0 1 fRC dRC _ spRC := ok_rc RC.F
  have GTX : FnOk P w K mg base CX0 1 fTP dTP _ (spTP K) := ok_tp TX.F
  have GRV : FnOk P w K mg base CX0 1 fRV dRV _ (spRV K) := ok_rv RV.F
  have GEO : FnOk P w K mg base CX0 1 fEO dEO _ (spEO K) := ok_eo EO.F
  have GRL : FnOk P w K mg base CX0 2 fRL dRL _ (spRL K) := ok_rl RL.F EO
  have GRA : FnOk P w K mg base CX0 2 fRA dRA _ (spRA K) := ok_ra RA.F T EO
  obtain ⟨t1, hmv⟩ := TP.mv
  obtain ⟨t2, hmc⟩ := TP.mc
  refine F.okX scCP (fun vs H Q E h => ?_) (fun cdv A outer s H vs Q E hr h => ?_)
  · obtain ⟨nm, a, b, g, h, ps, qs, us, vars, cs, gs, hs, rfl, _⟩ := h
    rfl
  · obtain ⟨nm, a, b, g, h, ps, qs, us, vars, cs, gs, hs, rfl, ha, hva, hb, hcs, hg, hgs, hh, ok, hz, k⟩ := h
    have hr1 : Room 1 _ := hr.mono (by decide)
    have hr2 : Room 2 _ := hr.mono (by decide)
    have l1 := hva.len
    have l2 := hcs.len
    have l3 := hgs.len
    rw [List.length_map] at l1 l2 l3
    have o1 := ok.v4
    have o2 := ok.c3
    have o3 := ok.g3
    have o4 := ok.v1
    have o5 := ok.c1
    have o6 := ok.h3
    refine ⟨_, (pss_cons (ps_expr (pe_call GRC hr1 rfl RC.g RC.F.kp RC.b .nil pass0 (pa_cons pe_str (pa_cons (pe_callB call_len_seq (by rfl) T.len (by decide +kernel) (pa_cons (pv 1) pa_nil)) (pa_cons pe_int (pa_cons (pe_glob (v := .int 4) (by rfl) hmv ⟨_, rfl⟩) pa_nil))))))
      (pss_cons (ps_expr (pe_call GRC hr1 rfl RC.g RC.F.kp RC.b .nil pass0 (pa_cons pe_str (pa_cons (pe_callB call_len_seq (by rfl) T.len (by decide +kernel) (pa_cons (pv 2) pa_nil)) (pa_cons pe_int (pa_cons (pe_glob (v := .int 3) (by rfl) hmc ⟨_, rfl⟩) pa_nil))))))
      (pss_cons (ps_set (i := 5) scCP.nd rfl (Or.inl rfl) (pe_lst (pa_star (pv 2) (pa_star (pv 3) pa_nil))))
      (pss_cons (ps_expr (pe_call GRN hr rfl RN.g RN.F.kp RN.b .nil (passes_call (takes_of rfl rfl rfl rfl) (fun _ _ _ _ h => h)) (pa_cons (pe_call GTX hr1 rfl TX.g TX.F.kp TX.b .nil pass0 (pa_cons (pv 0) (pa_cons (pv 1) (pa_cons (pv 5) pa_nil)))) pa_nil)))
      (pss_cons (ps_setLc (i := 6) (own := [("variable", 7), ("sort", 8)]) (g := gTup K 2 (gCons (gName 7) (gCons (gName 8) gNil))) rfl scCP.nd rfl rfl (sw_true rfl rfl rfl (by decide +kernel)) (pi_tup (pv 1)) (blkOk_by (N := ["name", "variables", "conditions", "given", "hands", "triples", "names", "variable", "sort"]) (sc := defScope sCP) (by decide +kernel)) (fun _ _ _ _ _ => (pg_tup rfl (pgs_cons (pg_name (i := 7) scCP.nd rfl (Or.inl rfl)) (pgs_cons (pg_name (i := 8) scCP.nd rfl (Or.inl rfl)) pgs_nil)))) (fun _ _ _ _ _ => pts_nil) (fun _ _ _ _ _ => (pv 7)))
      (pss_cons (ps_expr (pe_call GRT hr2 rfl RT.g RT.F.kp RT.b .nil pass0 (pa_cons (pv 6) pa_nil)))
      (pss_cons (ps_expr (pe_call GRV hr1 rfl RV.g RV.F.kp RV.b .nil pass0 (pa_cons (pv 6) (pa_cons (pe_lst (pa_star (pe_call GEO hr1 rfl EO.g EO.F.kp EO.b .nil pass0 (pa_cons (pv 5) pa_nil)) (pa_star (pv 4) pa_nil))) pa_nil))))
      (pss_cons (ps_expr (pe_call GRL hr2 rfl RL.g RL.F.kp RL.b .nil pass0 (pa_cons (pv 6) (pa_cons (pv 2) pa_nil))))
      (pss_one (ps_expr (pe_call GRA hr2 rfl RA.g RA.F.kp RA.b .nil pass0 (pa_cons (pv 2) pa_nil)))))))))))), ?_⟩
    refine ⟨_, rfl, a, _, rfl, .inr ha, _, _, _, _, rfl, ?_, ?_, ?_⟩
    · rw [List.length_map]; omega
    · rw [List.length_map]; omega
    refine ⟨_, rfl, b, _, rfl, .inr hb, _, _, _, _, rfl, ?_, ?_, ?_⟩
    · rw [List.length_map]; omega
    · rw [List.length_map]; omega
    -- triples = [*conditions, *given]
    refine ⟨_, rfl, b, _, rfl, .inl hb, _, rfl, g, _, rfl, .inr hg, ?_, fun tr htr => ?_⟩
    · show (qs.map V.ref ++ (us.map V.ref ++ [])).length ≤ sizeLine
      rw [List.append_nil, List.length_append, List.length_map, List.length_map]
      exact Nat.le_trans (show _ ≤ 1000 by omega) (by decide)
    have etr : qs.map V.ref ++ (us.map V.ref ++ []) = (qs ++ us).map V.ref := by rw [List.append_nil, List.map_append]
    have S1 : Same H (upd H tr (.lst (qs.map V.ref ++ (us.map V.ref ++ [])))) := Same.upd htr
    refine ⟨_, rfl, _, rfl, _, rfl, nm, a, tr, ps, qs ++ us, vars, cs ++ gs, rfl, same_seqT S1 ha, hva.same S1, SqL.of (by rw [upd_same, etr]), ?_, by omega, by rw [List.length_append]; omega, fun d H2 hd hS2 hl => ?_⟩
    · rw [List.map_append]
      exact (hcs.append hgs).same S1
    have S2 := S1.trans hS2
    refine ⟨d, _, rfl, SqL.of hl, ?_, hz, ?_⟩
    · unfold textsL
      have e : ∀ l : List Var, (l.flatMap varT).length ≤ 2 * l.length := flat_len
      have e2 := e vars
      rw [List.length_append, List.length_cons, List.length_map, List.length_append]
      omega
    refine DueN.next k S2 fun hn H3 hS3 => ?_
    have S3 := S2.trans hS3
    -- names = [variable for variable, sort in variables]
    refine ⟨_, rfl, a, rfl, ⟨_, same_seqT S3 ha⟩, fun D hD => ?_⟩
    refine lc_it walk_tup (fun i H' => Same H3 H' ∧ H' D = some (.lst (((vars.take i).map (·.1)).map V.str))) ⟨Same.upd hD, upd_same⟩ (fun i H' _ p => same_seqT (S3.trans p.1) ha) ?_ ?_
    · rintro i x H4 H5 hi ⟨hS4, hD4⟩ ⟨rfl, hx⟩
      obtain ⟨p, hp, rfl⟩ := map_ref_get hx
      obtain ⟨r, hr1', hr'⟩ := hva.get hp
      obtain ⟨⟨n, so⟩, ht, rfl⟩ := var_get hr1'
      refine ⟨p, _, rfl, same_seqT (S3.trans hS4) hr', rfl, _, _, rfl, _, _, rfl, rfl, rfl, ?_⟩
      refine ⟨_, rfl, _, hD4, ?_, ?_, ?_⟩
      · rw [List.length_map, List.length_map, List.length_take]
        exact Nat.lt_of_le_of_lt (show _ ≤ 1000 by omega) (by decide)
      · intro b' o h
        rw [upd_ne (ne_of_none h hD)]
        exact hS4 b' o h
      · rw [upd_same, List.take_add_one, ht, List.map_append, List.map_append]
        rfl
    rintro H4 ⟨hS4, hD4⟩
    rw [List.length_map, List.take_of_length_le (by omega)] at hD4
    have S4 := S3.trans hS4
    have tr4 : H4 tr = some (.lst ((qs ++ us).map V.ref)) := by
      have q : (upd H tr (.lst (qs.map V.ref ++ (us.map V.ref ++ [])))) tr = some (.lst ((qs ++ us).map V.ref)) := by rw [upd_same, etr]
      exact hS4 _ _ (hS3 _ _ (hS2 _ _ q))
    -- refuse_twice(names)
    refine ⟨_, rfl, D, _, rfl, .inl (SqL.of hD4), flat_strs _, ok.tw, fun H5 hS5 => ?_⟩
    have S5 := S4.trans hS5
    -- refuse_no_variable(names, [*ends_of(triples), *hands])
    refine ⟨_, rfl, _, rfl, tr, qs ++ us, cs ++ gs, rfl, .inl (SqL.of (hS5 _ _ tr4)), ?_, by rw [List.length_append]; omega, fun e H6 he hS6 hl6 => ?_⟩
    · rw [List.map_append]
      exact (hcs.append hgs).same S5
    have S6 := S5.trans hS6
    refine ⟨e, _, rfl, .inr (SqL.of hl6), _, rfl, h, _, rfl, .inr (S6.seq hh), ?_, fun l hl => ?_⟩
    · rw [List.length_append, List.length_map, endsL_len, List.length_append, List.append_nil, List.length_map]
      exact Nat.le_trans (show _ ≤ 1000 by omega) (by decide)
    refine ⟨D, l, _, endsL (cs ++ gs) ++ hs, rfl, SqL.of (Same.upd hl _ _ (hS6 _ _ (hS5 _ _ hD4))), SqL.of ?_, ok.en, fun H7 hS7 => ?_⟩
    · rw [upd_same, List.append_nil, List.map_append]
    have S7 := S6.trans ((Same.upd hl).trans hS7)
    have D7 := hS7 _ _ (Same.upd hl _ _ (hS6 _ _ (hS5 _ _ hD4)))
    -- refuse_loose(names, conditions)
    refine ⟨_, rfl, _, rfl, D, b, _, qs, cs, rfl, SqL.of D7, same_seqT S7 hb, hcs.same S7, by omega, ok.lo, fun H8 hS8 => ?_⟩
    have S8 := S7.trans hS8
    -- refuse_apart(conditions)
    refine ⟨_, rfl, b, qs, cs, rfl, same_seqT S8 hb, hcs.same S8, by omega, ok.ap, fun H9 hS9 => ?_⟩
    unfold DueN at k
    rw [hn] at k
    exact k H9 (S8.trans hS9)
end
end Wm
namespace Wm
open PySem L2 StX
abbrev sBar : Stmt := inClass (top 32) 0
abbrev sMak : Stmt := inClass (top 34) 0
def barF (nm : Str) (t1 t2 : Addr) : List (Str × V) := putF "conditions" (.ref t2) (putF "variables" (.ref t1) (putF "name" (.str nm) []))
theorem ne1 : ¬ (("variables" : Str) = "conditions") := by decide +kernel
theorem ne2 : ¬ (("name" : Str) = "conditions") := by decide +kernel
theorem ne3 : ¬ (("name" : Str) = "variables") := by decide +kernel
theorem barF_name (nm : Str) (t1 t2 : Addr) : (barF nm t1 t2).lookup ("name" : Str) = some (.str nm) := by
  unfold barF
  rw [lookup_putF, if_neg ne2, lookup_putF, if_neg ne3, lookup_putF, if_pos rfl]
theorem barF_vars (nm : Str) (t1 t2 : Addr) : (barF nm t1 t2).lookup ("variables" : Str) = some (.ref t1) := by
  unfold barF
  rw [lookup_putF, if_neg ne1, lookup_putF, if_pos rfl]
theorem barF_cond (nm : Str) (t1 t2 : Addr) : (barF nm t1 t2).lookup ("conditions" : Str) = some (.ref t2) := by
  unfold barF
  rw [lookup_putF, if_pos rfl]
theorem putF_len (f : Str) (v : V) : ∀ fs : List (Str × V), (putF f v fs).length ≤ fs.length + 1
  | [] => Nat.le_refl _
  | (g, x) :: r => by
    unfold putF
    split
    · exact Nat.le_succ _
    · have := putF_len f v r
      simp only [List.length_cons]
      omega
/-- what the making of an object that may be refused by a text is to bring; H0: what stood ahead of it -/
def DueM (C : Addr) (zs : List Str) (H0 : Hp) (ok : Hp → Prop) (E : XK) : Prop := match zs.find? (fun z => !isNm z) with
  | none => ∀ H', Same H0 H' → ok H'
  | some z => ∀ d H', H0 d = none → Same H0 H' → H' d = some (.xd (ef1 "name" "noname" (.str z))) → E (.ref C) (some d) H'
theorem DueM.toN {C : Addr} {zs : List Str} {H0 H1 : Hp} {ok : Hp → Prop} {Q : VK} {E : XK} (h : DueM C zs H0 ok E) (hS : Same H0 H1) (r : zs.find? (fun z => !isNm z) = none → ∀ H', Same H1 H' → Q .non H') : DueN C zs H1 Q E := by
  unfold DueM at h
  unfold DueN
  cases e : zs.find? (fun z => !isNm z) with
  | none => exact r e
  | some z =>
    rw [e] at h
    exact fun d H' h0 h1 h2 => h d H' (hS.free h0) (hS.trans h1) h2
structure TxBar (K : PySem.W.Frag) (mg : Str → Option Value) (B fB : Addr) : Prop where
  cl : Cls K B
  nn : NoAttr K B "name"
  nv : NoAttr K B "variables"
  nc : NoAttr K B "conditions"
  g : mg "Bar" = some (.ref B)
  m : Mk K B fB
def spBar (K : PySem.W.Frag) (C B : Addr) : Sp := fun vs H Q E => ∃ (H0 : Hp) (x dx l1 l2 : Addr) (nm : Str) (ps qs : List Addr) (vars : List Var) (cs : List Tri), vs = [.ref x, .str nm, .ref l1, .ref l2] ∧ Same H0 H ∧ H0 x = none ∧ H x = some (.ins B dx []) ∧
  SqL K H0 l1 (ps.map V.ref) ∧ RowsAt K H0 ps (vars.map varV) ∧ SqL K H0 l2 (qs.map V.ref) ∧ RowsAt K H0 qs (cs.map triV) ∧ PatOk vars cs [] [] ∧ (∀ z ∈ textsL nm vars cs, z.length ≤ 1000) ∧
  DueM C (textsL nm vars cs) H0 (fun H' => ∀ t1 t2, H' x = some (.ins B dx (barF nm t1 t2)) → H' t1 = some (.tup (ps.map V.ref)) → H' t2 = some (.tup (qs.map V.ref)) → Q .non H') E
section
variable {P : Program} {w : World} {K : PySem.W.Frag} {mg : Str → Option Value} {base : Heap}
theorem scBar : FnScope ["self", "name", "variables", "conditions"] ["self", "name", "variables", "conditions"] (defScope sBar) := ⟨rfl, rfl, rfl, by decide +kernel, rfl, by decide +kernel, by decide +kernel⟩
theorem ok_bar {f fTT fCP C B : Addr} {fd dTT dCP : FuncData} (F : Fun K "__init__" "Bar.__init__" sBar f fd) (T : TxB mg) (TB : TxBar K mg B f) (TT : Dn K mg "tuple_of_tuples" sTT ["rows"] fTT dTT)
    (CP : Dn K mg "check_pattern" sCP ["name", "variables", "conditions", "given", "hands"] fCP dCP) (GCP : FnOk P w K mg base (L2.CX P w) 5 fCP dCP ["name", "variables", "conditions", "given", "hands"] (spCP K C)) :
    FnOk P w K mg base (L2.CX P w) 6 f fd ["self", "name", "variables", "conditions"] (spBar K C B) := by
  have GTT : FnOk P w K mg base CX0 1 fTT dTT _ (spTT K) := ok_tt TT.F T
  refine F.okX scBar (fun vs H Q E h => ?_) (fun cdv A outer s H vs Q E hr h => ?_)
  · obtain ⟨H0, x, dx, l1, l2, nm, ps, qs, vars, cs, rfl, _⟩ := h
    rfl
  · obtain ⟨H0, x, dx, l1, l2, nm, ps, qs, vars, cs, rfl, S0, x0, hx, h1, hv, h2, hc, ok, hz, k⟩ := h
    have hr1 : Room 1 _ := hr.mono (by decide)
    have b1 := hv.len
    have b2 := hc.len
    rw [List.length_map] at b1 b2
    have o1 := ok.v4
    have o2 := ok.c3
    refine ⟨_, (pss_cons (ps_fld (pv 0) (pv 1) rfl)
      (pss_cons (ps_fld (pv 0) (pe_call GTT hr1 rfl TT.g TT.F.kp TT.b .nil pass0 (pa_cons (pv 2) pa_nil)) rfl)
      (pss_cons (ps_fld (pv 0) (pe_call GTT hr1 rfl TT.g TT.F.kp TT.b .nil pass0 (pa_cons (pv 3) pa_nil)) rfl)
      (pss_one (ps_expr (pe_call GCP hr rfl CP.g CP.F.kp CP.b .nil (passes_call (takes_of rfl rfl rfl rfl) (fun _ _ _ _ h => h)) (pa_cons (pv 1) (pa_cons (pe_fld (pv 0) rfl) (pa_cons (pe_fld (pv 0) rfl) (pa_cons (pe_lst pa_nil) (pa_cons (pe_lst pa_nil) pa_nil))))))))))), ?_⟩
    -- self.name = name
    refine ⟨_, rfl, _, rfl, x, B, dx, [], rfl, hx, TB.cl, TB.nn, (by show 0 < 1000; decide), ?_⟩
    have Sx : ∀ {H1 : Hp} {o : HO}, Same H0 H1 → Same H0 (upd H1 x o) := fun hs b o e => by
      rw [upd_ne (ne_of_none e x0)]
      exact hs b o e
    have S1 := Sx (o := .ins B dx (putF "name" (.str nm) [])) S0
    -- self.variables = tuple_of_tuples(variables)
    refine ⟨_, rfl, l1, ps, _, rfl, S1.seq h1, hv.same S1, by omega, fun t1 H2 ht1 hS2 hl1 => ?_⟩
    have S2 := S1.trans hS2
    have hx2 := hS2 _ _ (upd_same (H := H) (a := x) (o := .ins B dx (putF "name" (.str nm) [])))
    have n1x : t1 ≠ x := fun z => by
      rw [z, upd_same] at ht1
      cases ht1
    refine ⟨_, rfl, x, B, dx, _, rfl, hx2, TB.cl, TB.nv, Nat.lt_of_le_of_lt (putF_len _ _ _) (by decide), ?_⟩
    have S3 := Sx (o := .ins B dx (putF "variables" (.ref t1) (putF "name" (.str nm) []))) S2
    -- self.conditions = tuple_of_tuples(conditions)
    refine ⟨_, rfl, l2, qs, _, rfl, S3.seq h2, hc.same S3, by omega, fun t2 H4 ht2 hS4 hl2 => ?_⟩
    have S4 := S3.trans hS4
    have hx4 := hS4 _ _ (upd_same (H := H2) (a := x) (o := .ins B dx (putF "variables" (.ref t1) (putF "name" (.str nm) []))))
    have hl1' := hS4 t1 _ (by rw [upd_ne n1x]; exact hl1)
    have n2x : t2 ≠ x := fun z => by
      rw [z, upd_same] at ht2
      cases ht2
    refine ⟨_, rfl, x, B, dx, _, rfl, hx4, TB.cl, TB.nc, Nat.lt_of_le_of_lt (putF_len _ _ _) (Nat.lt_of_le_of_lt (Nat.succ_le_succ (putF_len _ _ _)) (by decide)), ?_⟩
    have S5 := Sx (o := .ins B dx (barF nm t1 t2)) S4
    have hx5 : (upd H4 x (.ins B dx (barF nm t1 t2))) x = some (.ins B dx (barF nm t1 t2)) := upd_same
    have h15 : (upd H4 x (.ins B dx (barF nm t1 t2))) t1 = some (.tup (ps.map V.ref)) := by rw [upd_ne n1x]; exact hl1'
    have h25 : (upd H4 x (.ins B dx (barF nm t1 t2))) t2 = some (.tup (qs.map V.ref)) := by rw [upd_ne n2x]; exact hl2
    -- check_pattern(name, self.variables, self.conditions, [], [])
    refine ⟨_, rfl, _, rfl, x, B, dx, _, _, rfl, hx5, TB.cl, TB.nv, barF_vars _ _ _, _, rfl, x, B, dx, _, _, rfl, hx5, TB.cl, TB.nc, barF_cond _ _ _, Nat.zero_le _, fun g hg => ⟨Nat.zero_le _, fun h hh => ?_⟩⟩
    have S7 : Same (upd H4 x (.ins B dx (barF nm t1 t2))) (upd (upd (upd H4 x (.ins B dx (barF nm t1 t2))) g (.lst [])) h (.lst [])) := (Same.upd hg).trans (Same.upd hh)
    have S57 := S5.trans S7
    have e0 : cs ++ ([] : List Tri) = cs := List.append_nil cs
    refine ⟨nm, t1, t2, g, h, ps, qs, [], vars, cs, [], [], rfl, SqT.of (S7 _ _ h15), hv.same S57, SqT.of (S7 _ _ h25), hc.same S57, SqL.of (Same.upd hh _ _ upd_same), True.intro, SqL.of upd_same, ok, by rw [e0]; exact hz, ?_⟩
    rw [e0]
    refine k.toN S57 fun hn H8 hS8 => ?_
    unfold DueM at k
    rw [hn] at k
    exact k H8 (S57.trans hS8) t1 t2 (hS8 _ _ (S7 _ _ hx5)) (hS8 _ _ (S7 _ _ h15)) (hS8 _ _ (S7 _ _ h25))
end
/-! ### makings -/
def makF (mk md : Str) (t1 t2 : Addr) : List (Str × V) := putF "up" (.ref t2) (putF "down" (.ref t1) (putF "made" (.str md) (putF "maker" (.str mk) [])))
theorem nm1 : ¬ (("maker" : Str) = "up") := by decide +kernel
theorem nm2 : ¬ (("maker" : Str) = "down") := by decide +kernel
theorem nm3 : ¬ (("maker" : Str) = "made") := by decide +kernel
theorem nm4 : ¬ (("made" : Str) = "up") := by decide +kernel
theorem nm5 : ¬ (("made" : Str) = "down") := by decide +kernel
theorem nm6 : ¬ (("down" : Str) = "up") := by decide +kernel
theorem makF_maker (mk md : Str) (t1 t2 : Addr) : (makF mk md t1 t2).lookup ("maker" : Str) = some (.str mk) := by
  unfold makF
  rw [lookup_putF, if_neg nm1, lookup_putF, if_neg nm2, lookup_putF, if_neg nm3, lookup_putF, if_pos rfl]
theorem makF_made (mk md : Str) (t1 t2 : Addr) : (makF mk md t1 t2).lookup ("made" : Str) = some (.str md) := by
  unfold makF
  rw [lookup_putF, if_neg nm4, lookup_putF, if_neg nm5, lookup_putF, if_pos rfl]
theorem makF_down (mk md : Str) (t1 t2 : Addr) : (makF mk md t1 t2).lookup ("down" : Str) = some (.ref t1) := by
  unfold makF
  rw [lookup_putF, if_neg nm6, lookup_putF, if_pos rfl]
theorem makF_up (mk md : Str) (t1 t2 : Addr) : (makF mk md t1 t2).lookup ("up" : Str) = some (.ref t2) := by
  unfold makF
  rw [lookup_putF, if_pos rfl]
structure TxMak (K : PySem.W.Frag) (mg : Str → Option Value) (B fB : Addr) : Prop where
  cl : Cls K B
  nk : NoAttr K B "maker"
  nd : NoAttr K B "made"
  nw : NoAttr K B "down"
  nu : NoAttr K B "up"
  g : mg "Making" = some (.ref B)
  m : Mk K B fB
def spMak (K : PySem.W.Frag) (C B : Addr) : Sp := fun vs H Q E => ∃ (H0 : Hp) (x dx l1 l2 : Addr) (mk md : Str) (ds us : List Str), vs = [.ref x, .str mk, .str md, .ref l1, .ref l2] ∧ Same H0 H ∧ H0 x = none ∧ H x = some (.ins B dx []) ∧
  SqL K H0 l1 (ds.map V.str) ∧ SqL K H0 l2 (us.map V.str) ∧ ds.length ≤ 100 ∧ us.length ≤ 100 ∧ NoTw (ds.map V.str) ∧ NoTw (us.map V.str) ∧ (∀ z ∈ mk :: md :: (ds ++ us), z.length ≤ 1000) ∧
  DueM C (mk :: md :: (ds ++ us)) H0 (fun H' => ∀ t1 t2, H' x = some (.ins B dx (makF mk md t1 t2)) → H' t1 = some (.tup (ds.map V.str)) → H' t2 = some (.tup (us.map V.str)) → Q .non H') E
section
variable {P : Program} {w : World} {K : PySem.W.Frag} {mg : Str → Option Value} {base : Heap}
theorem scMak : FnScope ["self", "maker", "made", "down", "up"] ["self", "maker", "made", "down", "up"] (defScope sMak) := ⟨rfl, rfl, rfl, by decide +kernel, rfl, by decide +kernel, by decide +kernel⟩
theorem ok_mak {f fRN fRT C B : Addr} {fd dRN dRT : FuncData} (F : Fun K "__init__" "Making.__init__" sMak f fd) (T : TxB mg) (TM : TxMak K mg B f) (RN : Dn K mg "refuse_no_name" sRN ["texts"] fRN dRN) (RT : Dn K mg "refuse_twice" sRT ["names"] fRT dRT)
    (GRN : FnOk P w K mg base (L2.CX P w) 4 fRN dRN ["texts"] (spRN K C)) (GRT : FnOk P w K mg base CX0 2 fRT dRT ["names"] (spFT K)) : FnOk P w K mg base (L2.CX P w) 5 f fd ["self", "maker", "made", "down", "up"] (spMak K C B) := by
  refine F.okX scMak (fun vs H Q E h => ?_) (fun cdv A outer s H vs Q E hr h => ?_)
  · obtain ⟨H0, x, dx, l1, l2, mk, md, ds, us, rfl, _⟩ := h
    rfl
  · obtain ⟨H0, x, dx, l1, l2, mk, md, ds, us, rfl, S0, x0, hx, h1, h2, n1, n2, w1, w2, hz, k⟩ := h
    have hr2 : Room 2 _ := hr.mono (by decide)
    have Sx : ∀ {H1 : Hp} {o : HO}, Same H0 H1 → Same H0 (upd H1 x o) := fun hs b o e => by
      rw [upd_ne (ne_of_none e x0)]
      exact hs b o e
    refine ⟨_, (pss_cons (ps_fld (pv 0) (pv 1) rfl)
      (pss_cons (ps_fld (pv 0) (pv 2) rfl)
      (pss_cons (ps_fld (pv 0) (pe_callTy call_tupN (by rfl) T.tuple (by decide +kernel) (pa_cons (pv 3) pa_nil)) rfl)
      (pss_cons (ps_fld (pv 0) (pe_callTy call_tupN (by rfl) T.tuple (by decide +kernel) (pa_cons (pv 4) pa_nil)) rfl)
      (pss_cons (ps_expr (pe_call GRN hr rfl RN.g RN.F.kp RN.b .nil (passes_call (takes_of rfl rfl rfl rfl) (fun _ _ _ _ h => h)) (pa_cons (pe_lst (pa_cons (pv 1) (pa_cons (pv 2) (pa_star (pe_fld (pv 0) rfl) (pa_star (pe_fld (pv 0) rfl) pa_nil))))) pa_nil)))
      (pss_cons (ps_expr (pe_call GRT hr2 rfl RT.g RT.F.kp RT.b .nil pass0 (pa_cons (pe_fld (pv 0) rfl) pa_nil)))
      (pss_one (ps_expr (pe_call GRT hr2 rfl RT.g RT.F.kp RT.b .nil pass0 (pa_cons (pe_fld (pv 0) rfl) pa_nil)))))))))), ?_⟩
    refine ⟨_, rfl, _, rfl, x, B, dx, [], rfl, hx, TM.cl, TM.nk, (by show 0 < 1000; decide), ?_⟩
    have S1 := Sx (o := .ins B dx (putF "maker" (.str mk) [])) S0
    refine ⟨_, rfl, _, rfl, x, B, dx, _, rfl, upd_same, TM.cl, TM.nd, Nat.lt_of_le_of_lt (putF_len _ _ _) (by decide), ?_⟩
    rw [upd_upd]
    have S2 := Sx (o := .ins B dx (putF "made" (.str md) (putF "maker" (.str mk) []))) S0
    have few2 : (putF "made" (.str md) (putF "maker" (.str mk) [])).length ≤ 10 := Nat.le_trans (putF_len _ _ _) (Nat.le_trans (Nat.succ_le_succ (putF_len _ _ _)) (by decide))
    -- self.down = tuple(down)
    refine ⟨_, rfl, l1, _, rfl, .inl ⟨S2.seq h1, fun t1 ht1 => ?_⟩⟩
    have n1x : t1 ≠ x := fun z => by
      rw [z, upd_same] at ht1
      cases ht1
    refine ⟨_, rfl, x, B, dx, _, rfl, Eq.trans (upd_ne n1x.symm) upd_same, TM.cl, TM.nw, Nat.lt_of_le_of_lt few2 (by decide), ?_⟩
    generalize hH3 : upd (upd (upd H x (.ins B dx (putF "made" (.str md) (putF "maker" (.str mk) [])))) t1 (.tup (ds.map V.str))) x (.ins B dx (putF "down" (.ref t1) (putF "made" (.str md) (putF "maker" (.str mk) [])))) = H3
    have S3 : Same H0 H3 := by
      rw [← hH3]
      exact Sx (S2.trans (Same.upd ht1))
    have hx3 : H3 x = some (.ins B dx (putF "down" (.ref t1) (putF "made" (.str md) (putF "maker" (.str mk) [])))) := by rw [← hH3, upd_same]
    have h13 : H3 t1 = some (.tup (ds.map V.str)) := by rw [← hH3, upd_ne n1x, upd_same]
    -- self.up = tuple(up)
    refine ⟨_, rfl, l2, _, rfl, .inl ⟨S3.seq h2, fun t2 ht2 => ?_⟩⟩
    have n2x : t2 ≠ x := (ne_of_none hx3 ht2).symm
    have n21 : t2 ≠ t1 := (ne_of_none h13 ht2).symm
    refine ⟨_, rfl, x, B, dx, _, rfl, Eq.trans (upd_ne n2x.symm) hx3, TM.cl, TM.nu, Nat.lt_of_le_of_lt (Nat.le_trans (putF_len _ _ _) (Nat.succ_le_succ few2)) (by decide), ?_⟩
    show _
    generalize hH4 : upd (upd H3 t2 (.tup (us.map V.str))) x (.ins B dx (putF "up" (.ref t2) (putF "down" (.ref t1) (putF "made" (.str md) (putF "maker" (.str mk) []))))) = H4
    have S4 : Same H0 H4 := by
      rw [← hH4]
      exact Sx (S3.trans (Same.upd ht2))
    have hx4 : H4 x = some (.ins B dx (makF mk md t1 t2)) := by rw [← hH4, upd_same]; rfl
    have h14 : H4 t1 = some (.tup (ds.map V.str)) := by rw [← hH4, upd_ne n1x, upd_ne n21.symm]; exact h13
    have h24 : H4 t2 = some (.tup (us.map V.str)) := by rw [← hH4, upd_ne n2x, upd_same]
    -- refuse_no_name([maker, made, *self.down, *self.up])
    refine ⟨_, rfl, _, rfl, _, rfl, x, B, dx, _, _, rfl, hx4, TM.cl, TM.nw, makF_down _ _ _ _, t1, _, rfl, .inl (SqT.of h14), _, rfl, x, B, dx, _, _, rfl, hx4, TM.cl, TM.nu, makF_up _ _ _ _, t2, _, rfl, .inl (SqT.of h24), ?_, fun l hl => ?_⟩
    · show (V.str mk :: V.str md :: (ds.map V.str ++ (us.map V.str ++ []))).length ≤ sizeLine
      rw [List.append_nil, List.length_cons, List.length_cons, List.length_append, List.length_map, List.length_map]
      exact Nat.le_trans (show _ ≤ 1000 by omega) (by decide)
    have el : V.str mk :: V.str md :: (ds.map V.str ++ (us.map V.str ++ [])) = (mk :: md :: (ds ++ us)).map V.str := by
      rw [List.append_nil, List.map_cons, List.map_cons, List.map_append]
    have S5 := S4.trans (Same.upd (o := .lst (V.str mk :: V.str md :: (ds.map V.str ++ (us.map V.str ++ [])))) hl)
    refine ⟨l, mk :: md :: (ds ++ us), rfl, SqL.of (by rw [upd_same, ← el]), ?_, hz, ?_⟩
    · rw [List.length_cons, List.length_cons, List.length_append]
      omega
    refine k.toN S5 fun hn H6 hS6 => ?_
    have hx6 := hS6 _ _ (Same.upd (o := .lst (V.str mk :: V.str md :: (ds.map V.str ++ (us.map V.str ++ [])))) hl _ _ hx4)
    have h16 := hS6 _ _ (Same.upd (o := .lst (V.str mk :: V.str md :: (ds.map V.str ++ (us.map V.str ++ [])))) hl _ _ h14)
    have h26 := hS6 _ _ (Same.upd (o := .lst (V.str mk :: V.str md :: (ds.map V.str ++ (us.map V.str ++ [])))) hl _ _ h24)
    refine ⟨_, rfl, x, B, dx, _, _, rfl, hx6, TM.cl, TM.nw, makF_down _ _ _ _, t1, _, rfl, .inr (SqT.of h16), flat_strs _, w1, fun H7 hS7 => ?_⟩
    refine ⟨_, rfl, x, B, dx, _, _, rfl, hS7 _ _ hx6, TM.cl, TM.nu, makF_up _ _ _ _, t2, _, rfl, .inr (SqT.of (hS7 _ _ h26)), flat_strs _, w2, fun H8 hS8 => ?_⟩
    unfold DueM at k
    rw [hn] at k
    exact k H8 (S5.trans (hS6.trans (hS7.trans hS8))) t1 t2 (hS8 _ _ (hS7 _ _ hx6)) (hS8 _ _ (hS7 _ _ h16)) (hS8 _ _ (hS7 _ _ h26))
end
end Wm
namespace Wm
open PySem L2
/-- str(o), o an instance of the class at C, whose __str__ is the def at f -/
def rStrO (C : Addr) (sp : Sp) : List V → Hp → VK → Prop := fun xs H Q => ∃ (a dx : Addr) (fs : List (Str × V)), xs = [.ref a] ∧ H a = some (.ins C dx fs) ∧ sp [.ref a] H (fun v H' => ∃ z : Str, v = .str z ∧ Q (.str z) H') E0
theorem call_strO {X : Cx} {C f : Addr} {fd : FuncData} {k : Nat} {sp : Sp} (hs : PySem.W.findIn X.K (.ref C) "__str__" = some (some (.ref f))) (hf : PySem.W.isFn X.K (.ref f) = true) (F : FnOk X.prog X.w X.K X.mg X.base CX0 k f fd ["self"] sp) (hr : Room (k + 2) X.A) (hb : Binds X.K fd ["self"] []) :
    CallR X (.type "str") (rStrO C sp) := by
  intro pins s σ H xs us Q I r h
  obtain ⟨a, dx, fs, rfl, ha, h⟩ := h
  cases r with
  | cons rx rr =>
    cases rr
    cases rx
    obtain ⟨mA, ob, _⟩ := ins_get I.hok ha
    obtain ⟨od, J, _⟩ := ob.look
    have hr1 : Room (k + 1) X.A.in1 := hr.in1
    have hr2 : Room k X.A.in1.in1 := hr1.in1
    refine PySem.W.kso_call hr2.units0 I.kIn J hs hf ?_
    have hl : ([Value.ref a] ++ []).length = (["self"] : List Str).length := rfl
    have rv : Vals [V.ref a] [Value.ref a] := .cons rfl .nil
    refine wpAny_call (codeAny_mono (F.run X.A.in1.in1 X.stack s H ⟨[Value.ref a], []⟩ [Value.ref a] [V.ref a] _ E0 hr2 I.env0.in1.in1 (hb s [Value.ref a] I.kIn hl) rv h) fun r s' hq => ?_)
    cases r with
    | error e => exact hq.elim
    | ok fl =>
      cases fl with
      | ret u =>
        obtain ⟨v, H', J', ru, z, rfl, q⟩ := I.after (Q := fun v H' => ∃ z : Str, v = .str z ∧ Q (.str z) H') hq
        obtain ⟨t, rfl⟩ := ru
        exact ⟨.str z, H', J', ⟨t, rfl⟩, q⟩
      | next => exact False.elim hq
      | brk => exact False.elim hq
      | cont => exact False.elim hq
end Wm
namespace Wm
open PySem L2 StX
abbrev sRul : Stmt := inClass (top 33) 0
abbrev sVP : Stmt := top 28
abbrev sPP : Stmt := top 29
abbrev sRP : Stmt := top 30
abbrev sMP : Stmt := top 31
abbrev sBS : Stmt := inClass (top 32) 2
abbrev sRS : Stmt := inClass (top 33) 2
abbrev sMS : Stmt := inClass (top 34) 2
/-! ### rules -/
def rulF (nm : Str) (t1 t2 t3 : Addr) (by_ : Str) : List (Str × V) := putF "by" (.str by_) (putF "gives" (.ref t3) (barF nm t1 t2))
theorem nr1 : ¬ (("gives" : Str) = "by") := by decide +kernel
theorem nr2 : ¬ (("name" : Str) = "by") := by decide +kernel
theorem nr3 : ¬ (("name" : Str) = "gives") := by decide +kernel
theorem nr4 : ¬ (("variables" : Str) = "by") := by decide +kernel
theorem nr5 : ¬ (("variables" : Str) = "gives") := by decide +kernel
theorem nr6 : ¬ (("conditions" : Str) = "by") := by decide +kernel
theorem nr7 : ¬ (("conditions" : Str) = "gives") := by decide +kernel
theorem rulF_name (nm : Str) (t1 t2 t3 : Addr) (b : Str) : (rulF nm t1 t2 t3 b).lookup ("name" : Str) = some (.str nm) := by
  unfold rulF
  rw [lookup_putF, if_neg nr2, lookup_putF, if_neg nr3]
  exact barF_name _ _ _
theorem rulF_vars (nm : Str) (t1 t2 t3 : Addr) (b : Str) : (rulF nm t1 t2 t3 b).lookup ("variables" : Str) = some (.ref t1) := by
  unfold rulF
  rw [lookup_putF, if_neg nr4, lookup_putF, if_neg nr5]
  exact barF_vars _ _ _
theorem rulF_cond (nm : Str) (t1 t2 t3 : Addr) (b : Str) : (rulF nm t1 t2 t3 b).lookup ("conditions" : Str) = some (.ref t2) := by
  unfold rulF
  rw [lookup_putF, if_neg nr6, lookup_putF, if_neg nr7]
  exact barF_cond _ _ _
theorem rulF_gives (nm : Str) (t1 t2 t3 : Addr) (b : Str) : (rulF nm t1 t2 t3 b).lookup ("gives" : Str) = some (.ref t3) := by
  unfold rulF
  rw [lookup_putF, if_neg nr1, lookup_putF, if_pos rfl]
theorem rulF_by (nm : Str) (t1 t2 t3 : Addr) (b : Str) : (rulF nm t1 t2 t3 b).lookup ("by" : Str) = some (.str b) := by
  unfold rulF
  rw [lookup_putF, if_pos rfl]
theorem barF_len (nm : Str) (t1 t2 : Addr) : (barF nm t1 t2).length ≤ 3 := Nat.le_trans (putF_len _ _ _) (Nat.succ_le_succ (Nat.le_trans (putF_len _ _ _) (Nat.succ_le_succ (putF_len _ _ _))))
structure TxRul (K : PySem.W.Frag) (mg : Str → Option Value) (B fB : Addr) : Prop where
  cl : Cls K B
  nn : NoAttr K B "name"
  nv : NoAttr K B "variables"
  nc : NoAttr K B "conditions"
  ng : NoAttr K B "gives"
  nb : NoAttr K B "by"
  g : mg "Rule" = some (.ref B)
  m : Mk K B fB
def spRul (K : PySem.W.Frag) (C B : Addr) : Sp := fun vs H Q E => ∃ (H0 : Hp) (x dx l1 l2 g : Addr) (nm b : Str) (ps qs : List Addr) (vars : List Var) (cs : List Tri) (gt : Tri), vs = [.ref x, .str nm, .ref l1, .ref l2, .ref g, .str b] ∧ Same H0 H ∧ H0 x = none ∧ H x = some (.ins B dx []) ∧
  SqL K H0 l1 (ps.map V.ref) ∧ RowsAt K H0 ps (vars.map varV) ∧ SqL K H0 l2 (qs.map V.ref) ∧ RowsAt K H0 qs (cs.map triV) ∧ H0 g = some (.tup (triV gt)) ∧ PatOk vars cs [gt] [b] ∧ (∀ z ∈ textsL nm vars (cs ++ [gt]), z.length ≤ 1000) ∧
  DueM C (textsL nm vars (cs ++ [gt])) H0 (fun H' => ∀ t1 t2, H' x = some (.ins B dx (rulF nm t1 t2 g b)) → H' t1 = some (.tup (ps.map V.ref)) → H' t2 = some (.tup (qs.map V.ref)) → Q .non H') E
section
variable {P : Program} {w : World} {K : PySem.W.Frag} {mg : Str → Option Value} {base : Heap}
theorem scRul : FnScope ["self", "name", "variables", "conditions", "gives", "by"] ["self", "name", "variables", "conditions", "gives", "by"] (defScope sRul) := ⟨rfl, rfl, rfl, by decide +kernel, rfl, by decide +kernel, by decide +kernel⟩
theorem ok_rul {f fTT fCP C B : Addr} {fd dTT dCP : FuncData} (F : Fun K "__init__" "Rule.__init__" sRul f fd) (T : TxB mg) (TB : TxRul K mg B f) (TT : Dn K mg "tuple_of_tuples" sTT ["rows"] fTT dTT)
    (CP : Dn K mg "check_pattern" sCP ["name", "variables", "conditions", "given", "hands"] fCP dCP) (GCP : FnOk P w K mg base (L2.CX P w) 5 fCP dCP ["name", "variables", "conditions", "given", "hands"] (spCP K C)) :
    FnOk P w K mg base (L2.CX P w) 6 f fd ["self", "name", "variables", "conditions", "gives", "by"] (spRul K C B) := by
  have GTT : FnOk P w K mg base CX0 1 fTT dTT _ (spTT K) := ok_tt TT.F T
  refine F.okX scRul (fun vs H Q E h => ?_) (fun cdv A outer s H vs Q E hr h => ?_)
  · obtain ⟨H0, x, dx, l1, l2, g, nm, b, ps, qs, vars, cs, gt, rfl, _⟩ := h
    rfl
  · obtain ⟨H0, x, dx, l1, l2, g, nm, b, ps, qs, vars, cs, gt, rfl, S0, x0, hx, h1, hv, h2, hc, hg, ok, hz, k⟩ := h
    have hr1 : Room 1 _ := hr.mono (by decide)
    have b1 := hv.len
    have b2 := hc.len
    rw [List.length_map] at b1 b2
    have o1 := ok.v4
    have o2 := ok.c3
    have ngx : g ≠ x := ne_of_none hg x0
    refine ⟨_, (pss_cons (ps_fld (pv 0) (pv 1) rfl)
      (pss_cons (ps_fld (pv 0) (pe_call GTT hr1 rfl TT.g TT.F.kp TT.b .nil pass0 (pa_cons (pv 2) pa_nil)) rfl)
      (pss_cons (ps_fld (pv 0) (pe_call GTT hr1 rfl TT.g TT.F.kp TT.b .nil pass0 (pa_cons (pv 3) pa_nil)) rfl)
      (pss_cons (ps_fld (pv 0) (pe_callTy call_tupN (by rfl) T.tuple (by decide +kernel) (pa_cons (pv 4) pa_nil)) rfl)
      (pss_cons (ps_fld (pv 0) (pv 5) rfl)
      (pss_one (ps_expr (pe_call GCP hr rfl CP.g CP.F.kp CP.b .nil (passes_call (takes_of rfl rfl rfl rfl) (fun _ _ _ _ h => h)) (pa_cons (pv 1) (pa_cons (pe_fld (pv 0) rfl) (pa_cons (pe_fld (pv 0) rfl) (pa_cons (pe_lst (pa_cons (pe_fld (pv 0) rfl) pa_nil)) (pa_cons (pe_lst (pa_cons (pv 5) pa_nil)) pa_nil))))))))))))), ?_⟩
    have Sx : ∀ {H1 : Hp} {o : HO}, Same H0 H1 → Same H0 (upd H1 x o) := fun hs b o e => by
      rw [upd_ne (ne_of_none e x0)]
      exact hs b o e
    refine ⟨_, rfl, _, rfl, x, B, dx, [], rfl, hx, TB.cl, TB.nn, (by show 0 < 1000; decide), ?_⟩
    have S1 := Sx (o := .ins B dx (putF "name" (.str nm) [])) S0
    refine ⟨_, rfl, l1, ps, _, rfl, S1.seq h1, hv.same S1, by omega, fun t1 H2 ht1 hS2 hl1 => ?_⟩
    have S2 := S1.trans hS2
    have hx2 := hS2 _ _ (upd_same (H := H) (a := x) (o := .ins B dx (putF "name" (.str nm) [])))
    have n1x : t1 ≠ x := fun z => by
      rw [z, upd_same] at ht1
      cases ht1
    refine ⟨_, rfl, x, B, dx, _, rfl, hx2, TB.cl, TB.nv, Nat.lt_of_le_of_lt (putF_len _ _ _) (by decide), ?_⟩
    have S3 := Sx (o := .ins B dx (putF "variables" (.ref t1) (putF "name" (.str nm) []))) S2
    refine ⟨_, rfl, l2, qs, _, rfl, S3.seq h2, hc.same S3, by omega, fun t2 H4 ht2 hS4 hl2 => ?_⟩
    have S4 := S3.trans hS4
    have hx4 := hS4 _ _ (upd_same (H := H2) (a := x) (o := .ins B dx (putF "variables" (.ref t1) (putF "name" (.str nm) []))))
    have hl1' := hS4 t1 _ (by rw [upd_ne n1x]; exact hl1)
    have n2x : t2 ≠ x := fun z => by
      rw [z, upd_same] at ht2
      cases ht2
    refine ⟨_, rfl, x, B, dx, _, rfl, hx4, TB.cl, TB.nc, Nat.lt_of_le_of_lt (putF_len _ _ _) (Nat.lt_of_le_of_lt (Nat.succ_le_succ (putF_len _ _ _)) (by decide)), ?_⟩
    have S5 := Sx (o := .ins B dx (barF nm t1 t2)) S4
    -- self.gives = tuple(gives); self.by = by
    refine ⟨_, rfl, g, _, rfl, .inr ⟨SqT.of (S5 _ _ hg), ?_⟩⟩
    refine ⟨_, rfl, x, B, dx, _, rfl, upd_same, TB.cl, TB.ng, Nat.lt_of_le_of_lt (barF_len nm t1 t2) (by decide), ?_⟩
    refine ⟨_, rfl, _, rfl, x, B, dx, _, rfl, upd_same, TB.cl, TB.nb, Nat.lt_of_le_of_lt (Nat.le_trans (putF_len _ _ _) (Nat.succ_le_succ (barF_len nm t1 t2))) (by decide), ?_⟩
    rw [upd_upd, upd_upd]
    show _
    generalize hH6 : upd H4 x (.ins B dx (putF "by" (.str b) (putF "gives" (.ref g) (putF "conditions" (.ref t2) (putF "variables" (.ref t1) (putF "name" (.str nm) [])))))) = H6
    have S6 : Same H0 H6 := by
      rw [← hH6]
      exact Sx S4
    have hx6 : H6 x = some (.ins B dx (rulF nm t1 t2 g b)) := by rw [← hH6, upd_same]; rfl
    have h16 : H6 t1 = some (.tup (ps.map V.ref)) := by rw [← hH6, upd_ne n1x]; exact hl1'
    have h26 : H6 t2 = some (.tup (qs.map V.ref)) := by rw [← hH6, upd_ne n2x]; exact hl2
    -- check_pattern(name, self.variables, self.conditions, [self.gives], [by])
    refine ⟨_, rfl, _, rfl, x, B, dx, _, _, rfl, hx6, TB.cl, TB.nv, rulF_vars _ _ _ _ _, _, rfl, x, B, dx, _, _, rfl, hx6, TB.cl, TB.nc, rulF_cond _ _ _ _ _, _, rfl, x, B, dx, _, _, rfl, hx6, TB.cl, TB.ng, rulF_gives _ _ _ _ _, by show 1 ≤ sizeLine; decide, fun gl hgl => ⟨_, rfl, by show 1 ≤ sizeLine; decide, fun h hh => ?_⟩⟩
    have S7 : Same H6 (upd (upd H6 gl (.lst [.ref g])) h (.lst [.str b])) := (Same.upd hgl).trans (Same.upd hh)
    have S67 := S6.trans S7
    refine ⟨nm, t1, t2, gl, h, ps, qs, [g], vars, cs, [gt], [b], rfl, SqT.of (S7 _ _ h16), hv.same S67, SqT.of (S7 _ _ h26), hc.same S67, SqL.of (Same.upd hh _ _ upd_same), ⟨SqT.of (S67 _ _ hg), True.intro⟩, SqL.of upd_same, ok, hz, ?_⟩
    refine k.toN S67 fun hn H8 hS8 => ?_
    unfold DueM at k
    rw [hn] at k
    exact k H8 (S67.trans hS8) t1 t2 (hS8 _ _ (S7 _ _ hx6)) (hS8 _ _ (S7 _ _ h16)) (hS8 _ _ (S7 _ _ h26))
end
/-! ### rows of text -/
def varP : Var → Str
  | (n, none) => n
  | (n, some s) => Str.empty ++ n ++ PySem.Str.ofString ":" ++ s
def triP (t : Tri) : List Str := ["|", t.1, t.2.1, t.2.2]
def partsL (kind nm : Str) (vars : List Var) (cs : List Tri) : List Str := ([kind, nm] ++ vars.map varP) ++ cs.flatMap triP
def Sm (z : Str) : Prop := z.length ≤ 100
structure SmP (vars : List Var) (cs : List Tri) : Prop where
  v : ∀ v ∈ vars, Sm v.1 ∧ ∀ s, v.2 = some s → Sm s
  c : ∀ t ∈ cs, Sm t.1 ∧ Sm t.2.1 ∧ Sm t.2.2
  vl : vars.length ≤ 4
  cl : cs.length ≤ 3
theorem varP_len {v : Var} (h : Sm v.1 ∧ ∀ s, v.2 = some s → Sm s) : (varP v).length ≤ 300 := by
  obtain ⟨n, so⟩ := v
  cases so with
  | none => exact Nat.le_trans h.1 (by decide)
  | some s =>
    have h1 : n.length ≤ 100 := h.1
    have h2 : s.length ≤ 100 := h.2 s rfl
    show (Str.empty ++ n ++ PySem.Str.ofString ":" ++ s).length ≤ 300
    have e1 : Str.empty.length = 0 := rfl
    have e2 : (PySem.Str.ofString ":").length = 1 := by decide +kernel
    rw [len_app, len_app, len_app]
    omega
theorem triP_take {cs : List Tri} {i : Nat} {t : Tri} (h : cs[i]? = some t) : (cs.take (i + 1)).flatMap triP = (cs.take i).flatMap triP ++ triP t := by
  rw [List.take_add_one, h, List.flatMap_append]
  simp
theorem triP_len (cs : List Tri) : (cs.flatMap triP).length = 4 * cs.length := by
  induction cs with
  | nil => rfl
  | cons t r ih =>
    rw [List.flatMap_cons, List.length_append, ih]
    show 4 + _ = 4 * (r.length + 1)
    omega
def spVP : Sp := fun vs H Q _ => ∃ v : Var, vs = varV v ∧ (Sm v.1 ∧ ∀ s, v.2 = some s → Sm s) ∧ Q (.str (varP v)) H
/-- a pattern at x, of the class at C -/
structure PatAt (K : PySem.W.Frag) (H : Hp) (x : Addr) (nm : Str) (vars : List Var) (cs : List Tri) : Prop where
  ex : ∃ (C dx t1 t2 : Addr) (fs : List (Str × V)) (ps qs : List Addr), H x = some (.ins C dx fs) ∧ Cls K C ∧ NoAttr K C "name" ∧ NoAttr K C "variables" ∧ NoAttr K C "conditions" ∧ fs.lookup ("name" : Str) = some (.str nm) ∧ fs.lookup ("variables" : Str) = some (.ref t1) ∧ fs.lookup ("conditions" : Str) = some (.ref t2) ∧
    SqT K H t1 (ps.map V.ref) ∧ RowsAt K H ps (vars.map varV) ∧ SqT K H t2 (qs.map V.ref) ∧ RowsAt K H qs (cs.map triV)
def spPP (K : PySem.W.Frag) : Sp := fun vs H Q _ => ∃ (kind nm : Str) (x : Addr) (vars : List Var) (cs : List Tri), vs = [.str kind, .ref x] ∧ PatAt K H x nm vars cs ∧ SmP vars cs ∧ ∀ d H', H d = none → Same H H' → H' d = some (.lst ((partsL kind nm vars cs).map V.str)) → Q (.ref d) H'
section
variable {P : Program} {w : World} {K : PySem.W.Frag} {mg : Str → Option Value} {base : Heap}
theorem scVP : FnScope ["name", "sort"] ["name", "sort"] (defScope sVP) := ⟨rfl, rfl, rfl, by decide +kernel, rfl, by decide +kernel, by decide +kernel⟩
theorem ok_vp {f : Addr} {fd : FuncData} (F : Fun K "variable_part" "variable_part" sVP f fd) : FnOk P w K mg base CX0 1 f fd ["name", "sort"] spVP := by
  refine F.ok scVP (fun vs H Q E h => ?_) (fun cdv A outer s H vs Q E hr h => ?_)
  · obtain ⟨v, rfl, _⟩ := h
    rfl
  · obtain ⟨⟨n, so⟩, rfl, hs, k⟩ := h
    refine ⟨_, (pss_cons (ps_if (pt_cmp (pc_isN (pv 1))) (pss_one (ps_ret (pv 0))) pss_nil)
      (pss_one (ps_ret (pe_joined (PJ.cons (pe_fmt (pv 0)) (PJ.cons pe_str (PJ.cons (pe_fmt (pv 1)) PJ.nil))))))), ?_⟩
    have h1 : n.length ≤ 100 := hs.1
    cases so with
    | none =>
      refine ⟨_, rfl, _, rfl, ?_⟩
      exact iteT ⟨_, rfl, k⟩
    | some so =>
      have h2 : so.length ≤ 100 := hs.2 so rfl
      have e1 : Str.empty.length = 0 := rfl
      have e2 : (PySem.Str.ofString ":").length = 1 := by decide +kernel
      refine ⟨_, rfl, _, rfl, ?_⟩
      refine iteF ?_
      refine ⟨_, rfl, .inl ⟨n, rfl, Nat.le_trans h1 (by decide), n, rfl, ?_, PySem.Str.ofString ":", rfl, ?_, _, rfl, .inl ⟨so, rfl, Nat.le_trans h2 (by decide), so, rfl, ?_, k⟩⟩⟩
      · rw [len_app]
        exact Nat.le_trans (show _ ≤ 1000 by omega) (by decide)
      · rw [len_app, len_app]
        exact Nat.le_trans (show _ ≤ 1000 by omega) (by decide)
      · rw [len_app, len_app, len_app]
        exact Nat.le_trans (show _ ≤ 1000 by omega) (by decide)
theorem scPP : FnScope ["kind", "pattern", "parts", "condition", "name", "sort"] ["kind", "pattern"] (defScope sPP) := ⟨rfl, rfl, rfl, by decide +kernel, rfl, by decide +kernel, by decide +kernel⟩
theorem ok_pp {f fV : Addr} {fd dV : FuncData} (F : Fun K "pattern_parts" "pattern_parts" sPP f fd) (D : Dn K mg "variable_part" sVP ["name", "sort"] fV dV) : FnOk P w K mg base CX0 2 f fd ["kind", "pattern"] (spPP K) := by
  have G : FnOk P w K mg base CX0 1 fV dV _ spVP := ok_vp D.F
  refine F.ok scPP (fun vs H Q E h => ?_) (fun cdv A outer s H vs Q E hr h => ?_)
  · obtain ⟨kind, nm, x, vars, cs, rfl, _⟩ := h
    rfl
  · obtain ⟨kind, nm, x, vars, cs, rfl, ⟨C, dx, t1, t2, fs, ps, qs, hx, cl, nn, nv, nc, l1, l2, l3, q1, r1, q2, r2⟩, sm, k⟩ := h
    have b1 := r1.len
    have b2 := r2.len
    rw [List.length_map] at b1 b2
    have v4 := sm.vl
    have c3 := sm.cl
    refine ⟨_, (pss_cons (ps_set (i := 2) scPP.nd rfl (Or.inl rfl) (pe_lst (pa_cons (pv 0) (pa_cons (pe_fld (pv 1) rfl) pa_nil))))
      (pss_cons (ps_expr (pe_bm PySem.F.plainAttrs_list PySem.F.slot_list_extend PySem.F.type_list_extend mt_extend (pv 2) (pa_cons (pe_lc (own := [("name", 4), ("sort", 5)]) (g := gTup K 2 (gCons (gName 4) (gCons (gName 5) gNil))) rfl scPP.nd (pi_tup (pe_fld (pv 1) rfl)) (blkOk_by (N := ["kind", "pattern", "parts", "condition", "name", "sort"]) (sc := defScope sPP) (by decide +kernel)) (fun _ _ _ _ _ => (pg_tup rfl (pgs_cons (pg_name (i := 4) scPP.nd rfl (Or.inl rfl)) (pgs_cons (pg_name (i := 5) scPP.nd rfl (Or.inl rfl)) pgs_nil)))) (fun _ _ _ _ _ => pts_nil) (fun _ _ _ _ _ => (pe_call G hr rfl D.g D.F.kp D.b .nil pass0 (pa_cons (pv 4) (pa_cons (pv 5) pa_nil))))) pa_nil)))
      (pss_cons (ps_for PassesOwn.never rfl (pi_tup (pe_fld (pv 1) rfl)) (pg_name (i := 3) scPP.nd rfl (Or.inl rfl)) (pss_one (ps_expr (pe_bm PySem.F.plainAttrs_list PySem.F.slot_list_extend PySem.F.type_list_extend mt_extend (pv 2) (pa_cons (pe_lst (pa_cons pe_str (pa_star (pv 3) pa_nil))) pa_nil)))))
      (pss_one (ps_ret (pv 2)))))), ?_⟩
    refine ⟨_, rfl, _, rfl, x, C, dx, _, _, rfl, hx, cl, nn, l1, by show 2 ≤ sizeLine; decide, fun d hd => ?_⟩
    have S0 := Same.upd (o := .lst [.str kind, .str nm]) hd
    -- parts.extend([variable_part(name, sort) for name, sort in pattern.variables])
    refine ⟨_, rfl, .inl ⟨rfl, _, SqL.of upd_same⟩, _, rfl, x, C, dx, _, _, rfl, S0 _ _ hx, cl, nv, l2, t1, rfl, ⟨_, same_seqT S0 q1⟩, fun D' hD => ?_⟩
    have nDd : D' ≠ d := fun z => by
      rw [z, upd_same] at hD
      cases hD
    refine lc_it walk_tup (fun i H' => Same (upd H d (.lst [.str kind, .str nm])) H' ∧ H' D' = some (.lst (((vars.take i).map varP).map V.str))) ⟨Same.upd hD, upd_same⟩ (fun i H' _ p => same_seqT (S0.trans p.1) q1) ?_ ?_
    · rintro i y H2 H3 hi ⟨hS2, hD2⟩ ⟨rfl, hy⟩
      obtain ⟨p, hp, rfl⟩ := map_ref_get hy
      obtain ⟨r, hr1, hr'⟩ := r1.get hp
      obtain ⟨v, ht, rfl⟩ := var_get hr1
      refine ⟨p, _, rfl, same_seqT (S0.trans hS2) hr', rfl, _, _, rfl, _, _, rfl, rfl, rfl, ?_⟩
      refine ⟨_, rfl, _, rfl, v, rfl, sm.v v (List.mem_of_getElem? ht), _, hD2, ?_, ?_, ?_⟩
      · rw [List.length_map, List.length_map, List.length_take]
        exact Nat.lt_of_le_of_lt (show _ ≤ 1000 by omega) (by decide)
      · intro b' o h
        rw [upd_ne (ne_of_none h hD)]
        exact hS2 b' o h
      · rw [upd_same, List.take_add_one, ht, List.map_append, List.map_append]
        rfl
    rintro H2 ⟨hS2, hD2⟩
    rw [List.length_map, List.take_of_length_le (by omega)] at hD2
    have hd2 := hS2 _ _ (upd_same (H := H) (a := d) (o := .lst [.str kind, .str nm]))
    have S2 := S0.trans hS2
    refine ⟨d, D', _, _, rfl, rfl, hd2, hD2, ?_, ?_⟩
    · rw [List.length_map, List.length_map]
      exact Nat.le_trans (show 2 + vars.length ≤ 1000 by omega) (by decide)
    have Sd : ∀ {H1 : Hp} {o : HO}, Same H H1 → Same H (upd H1 d o) := fun hs b o e => by
      rw [upd_ne (ne_of_none e hd)]
      exact hs b o e
    have S3 := Sd (o := .lst ([.str kind, .str nm] ++ (vars.map varP).map V.str)) S2
    refine ⟨_, rfl, x, C, dx, _, _, rfl, S3 _ _ hx, cl, nc, l3, t2, rfl, ⟨_, same_seqT S3 q2⟩, for_it walk_tup (fun i σ H' => (∃ u, σ = [some (.str kind), some (.ref x), some (.ref d), u, none, none]) ∧ Same H H' ∧ H' d = some (.lst ((([kind, nm] ++ vars.map varP) ++ (cs.take i).flatMap triP).map V.str))) ⟨⟨none, rfl⟩, S3, ?_⟩ (fun i σ H' _ p => same_seqT p.2.1 q2) ?_ ?_⟩
    · rw [upd_same, List.take_zero, List.flatMap_nil, List.append_nil, List.map_append]
      rfl
    · rintro i y σ H4 H5 hi ⟨⟨u, rfl⟩, hS4, hd4⟩ ⟨rfl, hy⟩
      obtain ⟨p, hp, rfl⟩ := map_ref_get hy
      obtain ⟨r, hr1, hr'⟩ := r2.get hp
      obtain ⟨t, ht, rfl⟩ := tri_get hr1
      refine ⟨_, rfl, .inl ⟨rfl, _, SqL.of hd4⟩, _, rfl, p, _, rfl, .inl (same_seqT hS4 hr'), by show 4 ≤ sizeLine; decide, fun e he => ?_⟩
      have ned : e ≠ d := (ne_of_none hd4 he).symm
      refine ⟨d, e, _, _, rfl, rfl, Eq.trans (upd_ne ned.symm) hd4, upd_same, ?_, ?_⟩
      · have e1 := triP_len (cs.take i)
        rw [List.length_take] at e1
        rw [List.length_map, List.length_append, e1, List.length_append, List.length_map]
        exact Nat.le_trans (show 2 + vars.length + 4 * min i cs.length + 4 ≤ 1000 by omega) (by decide)
      · refine ⟨⟨_, rfl⟩, Sd (hS4.trans (Same.upd he)), ?_⟩
        have e : ∀ l : List Str, (l ++ triP t).map V.str = l.map V.str ++ (V.str (PySem.Str.ofString "|") :: (triV t ++ [])) := fun l => by
          rw [List.map_append]
          rfl
        rw [upd_same, triP_take ht, ← List.append_assoc, e]
    · rintro σ H4 ⟨⟨u, rfl⟩, hS4, hd4⟩
      refine ⟨_, rfl, k d H4 hd hS4 ?_⟩
      rw [hd4, List.length_map, List.take_of_length_le (by omega)]
      rfl
end
end Wm
namespace Wm
open PySem L2 StX
def rpL (nm : Str) (vars : List Var) (cs : List Tri) (g : Tri) (b : Str) : List Str := partsL "rule" nm vars cs ++ ([">", g.1, g.2.1, g.2.2, "by", b] : List Str)
def mpL (mk md : Str) (ds us : List Str) : List Str := (["making", mk, md, ">"] : List Str) ++ (ds ++ ((["<"] : List Str) ++ us))
theorem sum_le {n : Nat} : ∀ {l : List Str}, (∀ z ∈ l, z.length ≤ n) → (l.map (·.length)).sum ≤ l.length * n
  | [], _ => by simp
  | z :: l, h => by
    have h1 := h z List.mem_cons_self
    have h2 := sum_le (l := l) fun y hy => h y (List.mem_cons_of_mem _ hy)
    rw [List.map_cons, List.sum_cons, List.length_cons, Nat.succ_mul]
    omega
theorem join_ok {l : List Str} (h : ∀ z ∈ l, z.length ≤ 300) (hl : l.length ≤ 100) : (l.map (·.length)).sum + l.length * (PySem.Str.ofString " ").length ≤ 16777216 := by
  have h1 := sum_le h
  have e : (PySem.Str.ofString " ").length = 1 := by decide +kernel
  rw [e]
  have h2 : l.length * 300 ≤ 100 * 300 := Nat.mul_le_mul_right 300 hl
  omega
theorem parts_small {kind nm : Str} {vars : List Var} {cs : List Tri} (hk : Sm kind) (hn : Sm nm) (sm : SmP vars cs) : (∀ z ∈ partsL kind nm vars cs, z.length ≤ 300) ∧ (partsL kind nm vars cs).length ≤ 20 := by
  have v4 := sm.vl
  have c3 := sm.cl
  have hk' : kind.length ≤ 100 := hk
  have hn' : nm.length ≤ 100 := hn
  constructor
  · intro z hz
    unfold partsL at hz
    rcases List.mem_append.mp hz with hz | hz
    · rcases List.mem_append.mp hz with hz | hz
      · simp at hz
        rcases hz with rfl | rfl <;> omega
      · obtain ⟨v, hv, rfl⟩ := List.mem_map.mp hz
        exact varP_len (sm.v v hv)
    · obtain ⟨t, ht, hz⟩ := List.mem_flatMap.mp hz
      have ⟨c1, c2, c3⟩ := sm.c t ht
      have c1' : t.1.length ≤ 100 := c1
      have c2' : t.2.1.length ≤ 100 := c2
      have c3' : t.2.2.length ≤ 100 := c3
      have e : (PySem.Str.ofString "|").length ≤ 100 := by decide +kernel
      unfold triP at hz
      simp at hz
      rcases hz with rfl | rfl | rfl | rfl <;> omega
  · unfold partsL
    rw [List.length_append, List.length_append, List.length_map, triP_len]
    show 2 + _ + _ ≤ 20
    omega
def spRP (K : PySem.W.Frag) (R : Addr) : Sp := fun vs H Q _ => ∃ (nm b : Str) (x dx t1 t2 t3 : Addr) (ps qs : List Addr) (vars : List Var) (cs : List Tri) (g : Tri), vs = [.ref x] ∧ H x = some (.ins R dx (rulF nm t1 t2 t3 b)) ∧ SqT K H t1 (ps.map V.ref) ∧ RowsAt K H ps (vars.map varV) ∧ SqT K H t2 (qs.map V.ref) ∧ RowsAt K H qs (cs.map triV) ∧ SqT K H t3 (triV g) ∧
  SmP vars cs ∧ ∀ d H', H d = none → Same H H' → H' d = some (.lst ((rpL nm vars cs g b).map V.str)) → Q (.ref d) H'
def spMP (K : PySem.W.Frag) (M : Addr) : Sp := fun vs H Q _ => ∃ (mk md : Str) (x dx t1 t2 : Addr) (ds us : List Str), vs = [.ref x] ∧ H x = some (.ins M dx (makF mk md t1 t2)) ∧ SqT K H t1 (ds.map V.str) ∧ SqT K H t2 (us.map V.str) ∧ ds.length ≤ 20 ∧ us.length ≤ 20 ∧
  ∀ d H', H d = none → Same H H' → H' d = some (.lst ((mpL mk md ds us).map V.str)) → Q (.ref d) H'
def spBS (K : PySem.W.Frag) (B : Addr) : Sp := fun vs H Q _ => ∃ (nm : Str) (x dx t1 t2 : Addr) (ps qs : List Addr) (vars : List Var) (cs : List Tri), vs = [.ref x] ∧ H x = some (.ins B dx (barF nm t1 t2)) ∧ SqT K H t1 (ps.map V.ref) ∧ RowsAt K H ps (vars.map varV) ∧ SqT K H t2 (qs.map V.ref) ∧ RowsAt K H qs (cs.map triV) ∧
  SmP vars cs ∧ Sm nm ∧ ∀ H', Same H H' → Q (.str (Txt.join " " (partsL "bar" nm vars cs))) H'
def spRS (K : PySem.W.Frag) (R : Addr) : Sp := fun vs H Q _ => ∃ (nm b : Str) (x dx t1 t2 t3 : Addr) (ps qs : List Addr) (vars : List Var) (cs : List Tri) (g : Tri), vs = [.ref x] ∧ H x = some (.ins R dx (rulF nm t1 t2 t3 b)) ∧ SqT K H t1 (ps.map V.ref) ∧ RowsAt K H ps (vars.map varV) ∧ SqT K H t2 (qs.map V.ref) ∧ RowsAt K H qs (cs.map triV) ∧ SqT K H t3 (triV g) ∧
  SmP vars cs ∧ Sm nm ∧ Sm b ∧ (Sm g.1 ∧ Sm g.2.1 ∧ Sm g.2.2) ∧ ∀ H', Same H H' → Q (.str (Txt.join " " (rpL nm vars cs g b))) H'
def spMS (K : PySem.W.Frag) (M : Addr) : Sp := fun vs H Q _ => ∃ (mk md : Str) (x dx t1 t2 : Addr) (ds us : List Str), vs = [.ref x] ∧ H x = some (.ins M dx (makF mk md t1 t2)) ∧ SqT K H t1 (ds.map V.str) ∧ SqT K H t2 (us.map V.str) ∧ ds.length ≤ 20 ∧ us.length ≤ 20 ∧ (∀ z ∈ mk :: md :: (ds ++ us), Sm z) ∧
  ∀ H', Same H H' → Q (.str (Txt.join " " (mpL mk md ds us))) H'
section
variable {P : Program} {w : World} {K : PySem.W.Frag} {mg : Str → Option Value} {base : Heap}
theorem scRP : FnScope ["rule"] ["rule"] (defScope sRP) := ⟨rfl, rfl, rfl, by decide +kernel, rfl, by decide +kernel, by decide +kernel⟩
theorem ok_rp {f fP R fR : Addr} {fd dP : FuncData} (F : Fun K "rule_parts" "rule_parts" sRP f fd) (TR : TxRul K mg R fR) (D : Dn K mg "pattern_parts" sPP ["kind", "pattern"] fP dP) (G : FnOk P w K mg base CX0 2 fP dP ["kind", "pattern"] (spPP K)) : FnOk P w K mg base CX0 3 f fd ["rule"] (spRP K R) := by
  refine F.ok scRP (fun vs H Q E h => ?_) (fun cdv A outer s H vs Q E hr h => ?_)
  · obtain ⟨nm, b, x, dx, t1, t2, t3, ps, qs, vars, cs, g, rfl, _⟩ := h
    rfl
  · obtain ⟨nm, b, x, dx, t1, t2, t3, ps, qs, vars, cs, g, rfl, hx, q1, r1, q2, r2, q3, sm, k⟩ := h
    refine ⟨_, (pss_one (ps_ret (pe_lst (pa_star (pe_call G hr rfl D.g D.F.kp D.b .nil pass0 (pa_cons pe_str (pa_cons (pv 0) pa_nil))) (pa_cons pe_str (pa_star (pe_fld (pv 0) rfl) (pa_cons pe_str (pa_cons (pe_fld (pv 0) rfl) pa_nil)))))))), ?_⟩
    refine ⟨_, rfl, _, nm, x, vars, cs, rfl, ⟨R, dx, t1, t2, _, ps, qs, hx, TR.cl, TR.nn, TR.nv, TR.nc, rulF_name _ _ _ _ _, rulF_vars _ _ _ _ _, rulF_cond _ _ _ _ _, q1, r1, q2, r2⟩, sm, fun d H1 hd hS hl => ?_⟩
    refine ⟨d, _, rfl, .inr (SqL.of hl), _, rfl, x, R, dx, _, _, rfl, hS _ _ hx, TR.cl, TR.ng, rulF_gives _ _ _ _ _, t3, _, rfl, .inl (same_seqT hS q3), _, rfl, x, R, dx, _, _, rfl, hS _ _ hx, TR.cl, TR.nb, rulF_by _ _ _ _ _, ?_, fun l hl2 => ?_⟩
    · have v4 := sm.vl
      have c3 := sm.cl
      rw [List.length_append, List.length_map]
      have e : (partsL "rule" nm vars cs).length ≤ 20 := by
        unfold partsL
        rw [List.length_append, List.length_append, List.length_map, triP_len]
        show 2 + _ + _ ≤ 20
        omega
      exact Nat.le_trans (show _ + 6 ≤ 1000 by omega) (by decide)
    · refine k l _ (hS.free hl2) (hS.trans (Same.upd hl2)) ?_
      rw [upd_same]
      unfold rpL
      rw [List.map_append]
      rfl
theorem scMP : FnScope ["making"] ["making"] (defScope sMP) := ⟨rfl, rfl, rfl, by decide +kernel, rfl, by decide +kernel, by decide +kernel⟩
theorem ok_mp {f M fM : Addr} {fd : FuncData} (F : Fun K "making_parts" "making_parts" sMP f fd) (TM : TxMak K mg M fM) : FnOk P w K mg base CX0 1 f fd ["making"] (spMP K M) := by
  refine F.ok scMP (fun vs H Q E h => ?_) (fun cdv A outer s H vs Q E hr h => ?_)
  · obtain ⟨mk, md, x, dx, t1, t2, ds, us, rfl, _⟩ := h
    rfl
  · obtain ⟨mk, md, x, dx, t1, t2, ds, us, rfl, hx, q1, q2, n1, n2, k⟩ := h
    refine ⟨_, (pss_one (ps_ret (pe_lst (pa_cons pe_str (pa_cons (pe_fld (pv 0) rfl) (pa_cons (pe_fld (pv 0) rfl) (pa_cons pe_str (pa_star (pe_fld (pv 0) rfl) (pa_cons pe_str (pa_star (pe_fld (pv 0) rfl) pa_nil)))))))))), ?_⟩
    refine ⟨_, rfl, x, M, dx, _, _, rfl, hx, TM.cl, TM.nk, makF_maker _ _ _ _, _, rfl, x, M, dx, _, _, rfl, hx, TM.cl, TM.nd, makF_made _ _ _ _, _, rfl, x, M, dx, _, _, rfl, hx, TM.cl, TM.nw, makF_down _ _ _ _, t1, _, rfl, .inl q1, _, rfl, x, M, dx, _, _, rfl, hx, TM.cl, TM.nu, makF_up _ _ _ _, t2, _, rfl, .inl q2, ?_, fun l hl => ?_⟩
    · show (V.str _ :: V.str mk :: V.str md :: V.str _ :: (ds.map V.str ++ (V.str _ :: (us.map V.str ++ [])))).length ≤ sizeLine
      rw [List.append_nil, List.length_cons, List.length_cons, List.length_cons, List.length_cons, List.length_append, List.length_cons, List.length_map, List.length_map]
      exact Nat.le_trans (show _ ≤ 1000 by omega) (by decide)
    · refine k l _ hl (Same.upd hl) ?_
      rw [upd_same]
      unfold mpL
      rw [List.append_nil, List.map_append, List.map_append, List.map_append]
      rfl
theorem scBS : FnScope ["self"] ["self"] (defScope sBS) := ⟨rfl, rfl, rfl, by decide +kernel, rfl, by decide +kernel, by decide +kernel⟩
theorem ok_bs {f fP B fB : Addr} {fd dP : FuncData} (F : Fun K "__str__" "Bar.__str__" sBS f fd) (TB : TxBar K mg B fB) (D : Dn K mg "pattern_parts" sPP ["kind", "pattern"] fP dP) (G : FnOk P w K mg base CX0 2 fP dP ["kind", "pattern"] (spPP K)) : FnOk P w K mg base CX0 3 f fd ["self"] (spBS K B) := by
  refine F.ok scBS (fun vs H Q E h => ?_) (fun cdv A outer s H vs Q E hr h => ?_)
  · obtain ⟨nm, x, dx, t1, t2, ps, qs, vars, cs, rfl, _⟩ := h
    rfl
  · obtain ⟨nm, x, dx, t1, t2, ps, qs, vars, cs, rfl, hx, q1, r1, q2, r2, sm, hn, k⟩ := h
    refine ⟨_, (pss_one (ps_ret (pe_join pe_str (pe_call G hr rfl D.g D.F.kp D.b .nil pass0 (pa_cons pe_str (pa_cons (pv 0) pa_nil)))))), ?_⟩
    refine ⟨⟨_, rfl⟩, _, rfl, _, nm, x, vars, cs, rfl, ⟨B, dx, t1, t2, _, ps, qs, hx, TB.cl, TB.nn, TB.nv, TB.nc, barF_name _ _ _, barF_vars _ _ _, barF_cond _ _ _, q1, r1, q2, r2⟩, sm, fun d H1 hd hS hl => ?_⟩
    have ps := parts_small (kind := "bar") (by show _ ≤ 100; decide +kernel) hn sm
    exact ⟨_, d, partsL "bar" nm vars cs, rfl, rfl, .inl (SqL.of hl), join_ok ps.1 (by omega), k H1 hS⟩
theorem scRS : FnScope ["self"] ["self"] (defScope sRS) := ⟨rfl, rfl, rfl, by decide +kernel, rfl, by decide +kernel, by decide +kernel⟩
theorem ok_rs {f fP R fR : Addr} {fd dP : FuncData} (F : Fun K "__str__" "Rule.__str__" sRS f fd) (D : Dn K mg "rule_parts" sRP ["rule"] fP dP) (G : FnOk P w K mg base CX0 3 fP dP ["rule"] (spRP K R)) : FnOk P w K mg base CX0 4 f fd ["self"] (spRS K R) := by
  refine F.ok scRS (fun vs H Q E h => ?_) (fun cdv A outer s H vs Q E hr h => ?_)
  · obtain ⟨nm, b, x, dx, t1, t2, t3, ps, qs, vars, cs, g, rfl, _⟩ := h
    rfl
  · obtain ⟨nm, b, x, dx, t1, t2, t3, ps, qs, vars, cs, g, rfl, hx, q1, r1, q2, r2, q3, sm, hn, hb, hg, k⟩ := h
    refine ⟨_, (pss_one (ps_ret (pe_join pe_str (pe_call G hr rfl D.g D.F.kp D.b .nil pass0 (pa_cons (pv 0) pa_nil))))), ?_⟩
    refine ⟨⟨_, rfl⟩, _, rfl, nm, b, x, dx, t1, t2, t3, ps, qs, vars, cs, g, rfl, hx, q1, r1, q2, r2, q3, sm, fun d H1 hd hS hl => ?_⟩
    have ps := parts_small (kind := "rule") (by show _ ≤ 100; decide +kernel) hn sm
    refine ⟨_, d, rpL nm vars cs g b, rfl, rfl, .inl (SqL.of hl), join_ok ?_ ?_, k H1 hS⟩
    · intro z hz
      unfold rpL at hz
      rcases List.mem_append.mp hz with hz | hz
      · exact ps.1 z hz
      · have e1 : (PySem.Str.ofString ">").length ≤ 100 := by decide +kernel
        have e2 : (PySem.Str.ofString "by").length ≤ 100 := by decide +kernel
        have g1 : g.1.length ≤ 100 := hg.1
        have g2 : g.2.1.length ≤ 100 := hg.2.1
        have g3 : g.2.2.length ≤ 100 := hg.2.2
        have hb' : b.length ≤ 100 := hb
        simp at hz
        rcases hz with rfl | rfl | rfl | rfl | rfl | rfl <;> omega
    · unfold rpL
      rw [List.length_append]
      show _ + 6 ≤ 100
      omega
theorem scMS : FnScope ["self"] ["self"] (defScope sMS) := ⟨rfl, rfl, rfl, by decide +kernel, rfl, by decide +kernel, by decide +kernel⟩
theorem ok_ms {f fP M fM : Addr} {fd dP : FuncData} (F : Fun K "__str__" "Making.__str__" sMS f fd) (D : Dn K mg "making_parts" sMP ["making"] fP dP) (G : FnOk P w K mg base CX0 1 fP dP ["making"] (spMP K M)) : FnOk P w K mg base CX0 2 f fd ["self"] (spMS K M) := by
  refine F.ok scMS (fun vs H Q E h => ?_) (fun cdv A outer s H vs Q E hr h => ?_)
  · obtain ⟨mk, md, x, dx, t1, t2, ds, us, rfl, _⟩ := h
    rfl
  · obtain ⟨mk, md, x, dx, t1, t2, ds, us, rfl, hx, q1, q2, n1, n2, hs, k⟩ := h
    refine ⟨_, (pss_one (ps_ret (pe_join pe_str (pe_call G hr rfl D.g D.F.kp D.b .nil pass0 (pa_cons (pv 0) pa_nil))))), ?_⟩
    refine ⟨⟨_, rfl⟩, _, rfl, mk, md, x, dx, t1, t2, ds, us, rfl, hx, q1, q2, n1, n2, fun d H1 hd hS hl => ?_⟩
    refine ⟨_, d, mpL mk md ds us, rfl, rfl, .inl (SqL.of hl), join_ok ?_ ?_, k H1 hS⟩
    · intro z hz
      have e1 : (PySem.Str.ofString ">").length ≤ 100 := by decide +kernel
      have e2 : (PySem.Str.ofString "<").length ≤ 100 := by decide +kernel
      have e3 : (PySem.Str.ofString "making").length ≤ 100 := by decide +kernel
      have h0 : ∀ z ∈ mk :: md :: (ds ++ us), z.length ≤ 100 := hs
      unfold mpL at hz
      simp at hz
      rcases hz with rfl | rfl | rfl | rfl | hz | rfl | hz
      · omega
      · have := h0 z (by simp); omega
      · have := h0 z (by simp); omega
      · omega
      · have := h0 z (by simp [hz]); omega
      · omega
      · have := h0 z (by simp [hz]); omega
    · unfold mpL
      rw [List.length_append, List.length_append, List.length_append]
      show 4 + (_ + (1 + _)) ≤ 100
      omega
end
end Wm
namespace Wm
open PySem L2 StX
abbrev sLong : Stmt := top 39
abbrev sNms : Stmt := top 40
abbrev sVrs : Stmt := top 41
/-- a name of at most twelve signs -/
def Nm (z : Str) : Prop := isNm z = true ∧ z.length ≤ 12
def PN (z : Str) : Prop := first z.cps.toList = true ∧ z.cps.toList.all okc = true
theorem let26 : LET.length = 26 := by decide +kernel
theorem okc_of {c : Nat} (h : c ∈ LET ++ FIG) : okc c = true := by
  unfold okc
  rcases List.mem_append.mp h with h | h
  · rw [decide_eq_true h]; rfl
  · rw [decide_eq_true h]; simp
theorem okc_let {c : Nat} (h : c ∈ LET) : okc c = true := okc_of (List.mem_append_left _ h)
theorem PN_one {c : Nat} (h : c ∈ LET) : PN ⟨#[c]⟩ := by
  constructor
  · show decide (c ∈ LET) = true
    exact decide_eq_true h
  · show (okc c && true) = true
    rw [okc_let h]
    rfl
theorem PN_app {z : Str} {c : Nat} (h : PN z) (hc : okc c = true) : PN (z ++ ⟨#[c]⟩) := by
  have e : (z ++ (⟨#[c]⟩ : Str)).cps.toList = z.cps.toList ++ [c] := by
    show (z.cps ++ #[c]).toList = _
    simp
  obtain ⟨h1, h2⟩ := h
  constructor
  · rw [e]
    cases q : z.cps.toList with
    | nil =>
      rw [q] at h1
      cases h1
    | cons d r =>
      rw [q] at h1
      exact h1
  · rw [e, List.all_append, h2]
    show (true && (okc c && true)) = true
    rw [hc]
    rfl
theorem PN_len {z : Str} (h : PN z) : 1 ≤ z.length := by
  rw [len_eq]
  cases q : z.cps.toList with
  | nil =>
    have h1 := h.1
    rw [q] at h1
    cases h1
  | cons d r => simp
theorem Nm_of {z : Str} (h : PN z) (hl : z.length ≤ 12) : Nm z := by
  refine ⟨?_, hl⟩
  unfold isNm
  rw [decide_eq_true (PN_len h), decide_eq_true hl, h.1, h.2]
  rfl
theorem abc_let {i : Nat} {c : Nat} (hi : i < 26) (h : (PySem.Str.ofString "abcdefghijklmnopqrstuvwxyz0123456789").cps.toList[i]? = some c) : c ∈ LET := by
  rw [alnum, List.getElem?_append_left (by rw [let26]; exact hi)] at h
  exact List.mem_of_getElem? h
theorem abc_okc {i : Nat} {c : Nat} (h : (PySem.Str.ofString "abcdefghijklmnopqrstuvwxyz0123456789").cps.toList[i]? = some c) : okc c = true := by
  rw [alnum] at h
  exact okc_of (List.mem_of_getElem? h)
theorem st_ne {H : Hp} {p a : Addr} {o : HO} (h : StOk H p) (e : H a = some o) (n : ∀ xs, o ≠ .lst xs) : a ≠ p := by
  obtain ⟨x, y, z, q, _⟩ := h
  exact ne_of e q (n _)
theorem but_seqT {K : PySem.W.Frag} {p a : Addr} {H H' : Hp} {xs : List V} (b : But p H H') (hp : StOk H p) (h : SqT K H a xs) : SqT K H' a xs := by
  rcases h with (h | ⟨o, h⟩) | h
  · exact .inl (.inl (b _ _ (st_ne hp h (fun _ z => by cases z)) h))
  · exact .inl (.inr ⟨o, b _ _ (st_ne hp h (fun _ z => by cases z)) h⟩)
  · exact .inr h
theorem RowsAt.but {K : PySem.W.Frag} {p : Addr} {H H' : Hp} (e : But p H H') (hp : StOk H p) : ∀ {ps : List Addr} {rs : List (List V)}, RowsAt K H ps rs → RowsAt K H' ps rs
  | [], [], _ => True.intro
  | _ :: _, _ :: _, h => ⟨but_seqT e hp h.1, RowsAt.but e hp h.2⟩
  | [], _ :: _, h => h.elim
  | _ :: _, [], h => h.elim
theorem StOk.same {p : Addr} {H H' : Hp} (e : Same H H') (h : StOk H p) : StOk H' p := by
  obtain ⟨a, b, c, q, r⟩ := h
  exact ⟨a, b, c, e _ _ q, r⟩
theorem StOk.upd {p d : Addr} {H : Hp} {o : HO} (n : d ≠ p) (h : StOk H p) : StOk (upd H d o) p := by
  obtain ⟨a, b, c, q, r⟩ := h
  exact ⟨a, b, c, by rw [upd_ne n.symm]; exact q, r⟩
theorem st_free {p d : Addr} {H : Hp} (h : StOk H p) (n : H d = none) : d ≠ p := by
  obtain ⟨a, b, c, q, r⟩ := h
  exact (ne_of_none q n).symm
/-- a new object d beside the state -/
theorem but_new {p d : Addr} {H H1 : Hp} {o : HO} (b : But p H H1) (n : d ≠ p) (h0 : H d = none) : But p H (L2.upd H1 d o) := fun q u nq e => by
  rw [upd_ne (ne_of_none e h0)]
  exact b q u nq e
/-- the rows stand behind a change of a list -/
theorem rows_upd {K : PySem.W.Frag} {H : Hp} {d : Addr} {xs : List V} {o : HO} : ∀ {ps : List Addr} {rs : List (List V)}, RowsAt K H ps rs → H d = some (.lst xs) → RowsAt K (L2.upd H d o) ps rs
  | [], [], _, _ => True.intro
  | _ :: _, _ :: _, h, hd => ⟨by
      rcases h.1 with (q | ⟨o', q⟩) | q
      · exact .inl (.inl (by rw [upd_ne (ne_of q hd (by intro z; cases z))]; exact q))
      · exact .inl (.inr ⟨o', by rw [upd_ne (ne_of q hd (by intro z; cases z))]; exact q⟩)
      · exact .inr q, rows_upd h.2 hd⟩
  | [], _ :: _, h, _ => h.elim
  | _ :: _, [], h, _ => h.elim
def spLong : Sp := fun vs H Q _ => ∃ p : Addr, vs = [.ref p] ∧ StOk H p ∧ ∀ (z : Str) H', Nm z → But p H H' → StOk H' p → Q (.str z) H'
def spNms : Sp := fun vs H Q _ => ∃ (p : Addr) (n : Int), vs = [.ref p, .int n] ∧ StOk H p ∧ 0 ≤ n ∧ n ≤ 10 ∧ ∀ (zs : List Str) d H', H d = none → d ≠ p → But p H H' → StOk H' p → H' d = some (.lst (zs.map V.str)) → zs.Nodup → (∀ z ∈ zs, Nm z) → (zs.length : Int) ≤ n → (0 < n → zs ≠ []) → Q (.ref d) H'
structure VarsOk (vars : List Var) : Prop where
  nd : (vars.map (·.1)).Nodup
  nm : ∀ v ∈ vars, Nm v.1 ∧ ∀ s, v.2 = some s → Nm s
  l4 : vars.length ≤ 4
  ne : vars ≠ []
def spVrs (K : PySem.W.Frag) : Sp := fun vs H Q _ => ∃ p : Addr, vs = [.ref p] ∧ StOk H p ∧ ∀ (vars : List Var) (ps : List Addr) d H', H d = none → d ≠ p → But p H H' → StOk H' p → H' d = some (.lst (ps.map V.ref)) → RowsAt K H' ps (vars.map varV) → VarsOk vars → Q (.ref d) H'
section
variable {P : Program} {w : World} {K : PySem.W.Frag} {mg : Str → Option Value} {base : Heap}
theorem scLong : FnScope ["_law_s", "_law_some", "_law_word", "_law_k"] ["_law_s"] (defScope sLong) := ⟨rfl, rfl, rfl, by decide +kernel, rfl, by decide +kernel, by decide +kernel⟩
theorem ok_long {f fg : Addr} {fd fdg : FuncData} (F : Fun K "_law_long" "_law_long" sLong f fd) (T : TxB mg) (D : Dn K mg "_law_digit" sDigit ["_law_state_here", "_law_base"] fg fdg) : FnOk P w K mg base CX0 2 f fd ["_law_s"] spLong := by
  have G : FnOk P w K mg base CX0 1 fg fdg ["_law_state_here", "_law_base"] spDigit := ok_digit D.F
  refine F.ok scLong (fun vs H Q E h => ?_) (fun cdv A outer s H vs Q E hr h => ?_)
  · obtain ⟨p, rfl, _⟩ := h
    rfl
  · obtain ⟨p, rfl, hS, k⟩ := h
    refine ⟨_, (pss_cons (ps_set (i := 1) scLong.nd rfl (Or.inl rfl) pe_str)
      (pss_cons (ps_if (pt_cmpR op_eq (pe_call G hr rfl D.g D.F.kp D.b .nil pass0 (pa_cons (pv 0) (pa_cons pe_int pa_nil))) pe_int (nomark _)) (pss_one (ps_ret (pe_ix ix_list (pe_lst (pa_cons pe_str (pa_cons pe_str (pa_cons pe_str (pa_cons pe_str (pa_cons pe_str (pa_cons pe_str pa_nil))))))) (pe_call G hr rfl D.g D.F.kp D.b .nil pass0 (pa_cons (pv 0) (pa_cons pe_int pa_nil))) (fun _ _ => rfl)))) pss_nil)
      (pss_cons (ps_set (i := 2) scLong.nd rfl (Or.inl rfl) (pe_ix ix_str (pv 1) (pe_call G hr rfl D.g D.F.kp D.b .nil pass0 (pa_cons (pv 0) (pa_cons pe_int pa_nil))) (fun _ _ => rfl)))
      (pss_cons (ps_for PassesOwn.never rfl (pi_range1 rfl T.range (pa_cons (pe_op op_add (pe_call G hr rfl D.g D.F.kp D.b .nil pass0 (pa_cons (pv 0) (pa_cons pe_int pa_nil))) (pe_op op_mul pe_int (pe_op op_fdiv (pe_call G hr rfl D.g D.F.kp D.b .nil pass0 (pa_cons (pv 0) (pa_cons pe_int pa_nil))) pe_int))) pa_nil)) (pg_name (i := 3) scLong.nd rfl (Or.inl rfl)) (pss_one (ps_set (i := 2) scLong.nd rfl (Or.inl rfl) (pe_op op_add_str (pv 2) (pe_ix ix_str (pv 1) (pe_call G hr rfl D.g D.F.kp D.b .nil pass0 (pa_cons (pv 0) (pa_cons pe_int pa_nil))) (fun _ _ => rfl))))))
      (pss_one (ps_ret (pv 2))))))), ?_⟩
    refine ⟨_, rfl, p, _, rfl, hS, by decide, by decide, fun d1 H1 a1 b1 B1 S1 => ?_⟩
    refine ⟨rfl, _, rfl, ?_⟩
    refine ite2 (fun _ => ?_) (fun _ => ?_)
    · refine ⟨by show 6 ≤ sizeLine; decide, fun l nl => ?_⟩
      have nlp := st_free S1 nl
      refine ⟨_, rfl, p, _, rfl, S1.upd nlp, by decide, by decide, fun d2 H2 a2 b2 B2 S2 => ?_⟩
      have hq : ∀ z ∈ (["by", "rule", "bar", "making", "m1", "none"] : List Str), isNm z = true ∧ z.length ≤ 12 := by decide +kernel
      have hj : d2.toNat < (["by", "rule", "bar", "making", "m1", "none"] : List Str).length := by show _ < 6; omega
      refine rdList (B2 l _ nlp upd_same) (j := d2.toNat) (v := .str ((["by", "rule", "bar", "making", "m1", "none"] : List Str)[d2.toNat])) (by omega) ?_ ?_
      · have e : ((["by", "rule", "bar", "making", "m1", "none"] : List Str).map V.str)[d2.toNat]? = some (.str ((["by", "rule", "bar", "making", "m1", "none"] : List Str)[d2.toNat])) := by
          rw [List.getElem?_map, List.getElem?_eq_getElem hj]
          rfl
        exact e
      · refine k _ H2 (hq _ (List.getElem_mem hj)) ?_ S2
        exact (but_new B1 nlp (B1.free nlp nl)).trans B2
    · refine ⟨_, rfl, _, rfl, p, _, rfl, S1, by decide, by decide, fun d2 H2 a2 b2 B2 S2 => ?_⟩
      refine rdItem abc36 a2 (by omega) (by decide) fun c hc => ?_
      have hc' : c ∈ LET := abc_let (by omega) hc
      refine ⟨_, rfl, p, _, rfl, S2, by decide, by decide, fun d3 H3 a3 b3 B3 S3 => ?_⟩
      refine ⟨_, rfl, p, _, rfl, S3, by decide, by decide, fun d4 H4 a4 b4 B4 S4 => ?_⟩
      have hdiv : d4 / 4 ≤ 1 := by omega
      have hdiv0 : 0 ≤ d4 / 4 := by omega
      refine ⟨_, _, rfl, rfl, ⟨by decide, by decide⟩, _, _, rfl, rfl, .inl ⟨by decide, by decide⟩, _, _, rfl, rfl, d3 + 8 * (d4 / 4), rfl, by omega, by omega, ?_⟩
      have B4' := (B1.trans B2).trans (B3.trans B4)
      refine for_range (n := (d3 + 8 * (d4 / 4)).toNat) (fun i σ H' => ∃ (z : Str) (v : Option V), σ = [some (.ref p), some (.str (PySem.Str.ofString "abcdefghijklmnopqrstuvwxyz0123456789")), some (.str z), v] ∧ z.length ≤ i + 1 ∧ PN z ∧ But p H H' ∧ StOk H' p)
        ⟨⟨#[c]⟩, none, rfl, Nat.le_refl _, PN_one hc', B4', S4⟩ ?_ ?_
      · rintro i σ H' hi ⟨z, v, rfl, hz, hp, B, S⟩
        refine ⟨_, rfl, _, rfl, _, rfl, p, _, rfl, S, by decide, by decide, fun d5 H5 a5 b5 B5 S5 => ?_⟩
        refine rdItem abc36 a5 (by omega) (by decide) fun c hc => ?_
        refine ⟨_, _, rfl, rfl, ?_, ?_⟩
        · rw [len_one]
          exact Nat.le_trans (show z.length + 1 ≤ 100 by omega) (by decide)
        · refine ⟨_, _, rfl, ?_, PN_app hp (abc_okc hc), B.trans B5, S5⟩
          rw [len_app, len_one]
          omega
      · rintro σ H' ⟨z, v, rfl, hz, hp, B, S⟩
        exact ⟨_, rfl, k z H' (Nm_of hp (by omega)) B S⟩
theorem scNms : FnScope ["_law_s", "_law_many", "_law_found", "_law_k", "_law_word"] ["_law_s", "_law_many"] (defScope sNms) := ⟨rfl, rfl, rfl, by decide +kernel, rfl, by decide +kernel, by decide +kernel⟩
theorem ok_nms {f fL : Addr} {fd dL : FuncData} (F : Fun K "_law_names" "_law_names" sNms f fd) (T : TxB mg) (D : Dn K mg "_law_long" sLong ["_law_s"] fL dL) (G : FnOk P w K mg base CX0 2 fL dL ["_law_s"] spLong) : FnOk P w K mg base CX0 3 f fd ["_law_s", "_law_many"] spNms := by
  refine F.ok scNms (fun vs H Q E h => ?_) (fun cdv A outer s H vs Q E hr h => ?_)
  · obtain ⟨p, n, rfl, _⟩ := h
    rfl
  · obtain ⟨p, n, rfl, hS, n0, n6, k⟩ := h
    refine ⟨_, (pss_cons (ps_set (i := 2) scNms.nd rfl (Or.inl rfl) (pe_lst pa_nil))
      (pss_cons (ps_for PassesOwn.never rfl (pi_range1 rfl T.range (pa_cons (pv 1) pa_nil)) (pg_name (i := 3) scNms.nd rfl (Or.inl rfl)) (pss_cons (ps_set (i := 4) scNms.nd rfl (Or.inl rfl) (pe_call G hr rfl D.g D.F.kp D.b .nil pass0 (pa_cons (pv 0) pa_nil)))
      (pss_one (ps_if (pt_cmpR op_notIn_seq (pv 4) (pv 2) (by rfl)) (pss_one (ps_expr (pe_bm PySem.F.plainAttrs_list PySem.F.slot_list_append PySem.F.type_list_append mt_append (pv 2) (pa_cons (pv 4) pa_nil)))) pss_nil))))
      (pss_one (ps_ret (pv 2))))), ?_⟩
    refine ⟨Nat.zero_le _, fun d hd => ?_⟩
    have ndp := st_free hS hd
    refine ⟨_, rfl, n, rfl, by omega, by omega, ?_⟩
    refine for_range (n := n.toNat) (fun i σ H' => (∃ u v, σ = [some (.ref p), some (.int n), some (.ref d), u, v]) ∧ ∃ zs : List Str, H' d = some (.lst (zs.map V.str)) ∧ zs.Nodup ∧ (∀ z ∈ zs, Nm z) ∧ zs.length ≤ i ∧ (0 < i → zs ≠ []) ∧ But p H H' ∧ StOk H' p)
      ⟨⟨none, none, rfl⟩, [], upd_same, List.nodup_nil, fun z hz => (List.not_mem_nil hz).elim, Nat.le_refl _, fun h => absurd h (Nat.lt_irrefl 0), but_new (But.refl p H) ndp hd, hS.upd ndp⟩ ?_ ?_
    · rintro i σ H1 hi ⟨⟨u, v, rfl⟩, zs, hl, nd, nm, len, ne, B, S⟩
      refine ⟨_, rfl, p, rfl, S, fun z H2 hz B2 S2 => ?_⟩
      have hl2 := B2 d _ ndp hl
      refine ⟨_, rfl, _, rfl, d, _, rfl, .inl (SqL.of hl2), rfl, flat_strs zs, _, rfl, ?_⟩
      show if (!inV (.str z) (zs.map V.str)) = true then _ else _
      rw [inV_str]
      by_cases hm : z ∈ zs
      · rw [decide_eq_true hm]
        exact iteF ⟨⟨_, _, rfl⟩, zs, hl2, nd, nm, by omega, fun _ e => by rw [e] at hm; exact List.not_mem_nil hm, B.trans B2, S2⟩
      · rw [decide_eq_false hm]
        refine iteT ?_
        refine ⟨_, rfl, .inl ⟨rfl, _, SqL.of hl2⟩, _, rfl, d, _, _, rfl, rfl, hl2, ?_, ?_⟩
        · rw [List.length_map]
          exact Nat.lt_of_le_of_lt (show _ ≤ 1000 by omega) (by decide)
        · refine ⟨⟨_, _, rfl⟩, zs ++ [z], ?_, ?_, ?_, ?_, fun _ e => by simp at e, but_new (B.trans B2) ndp hd, S2.upd ndp⟩
          · rw [upd_same, List.map_append]
            rfl
          · rw [List.nodup_append]
            exact ⟨nd, (by simp : [z].Nodup), fun a ha b hb e => by
              have eb : b = z := by simpa using hb
              rw [e, eb] at ha
              exact hm ha⟩
          · intro y hy
            rcases List.mem_append.mp hy with hy | hy
            · exact nm y hy
            · rw [List.mem_singleton.mp hy]
              exact hz
          · rw [List.length_append, List.length_singleton]
            omega
    · rintro σ H1 ⟨⟨u, v, rfl⟩, zs, hl, nd, nm, len, ne, B, S⟩
      exact ⟨_, rfl, k zs d H1 hd ndp B S hl nd nm (by omega) (fun h => ne (by omega))⟩
theorem scVrs : FnScope ["_law_s", "_law_found", "_law_name"] ["_law_s"] (defScope sVrs) := ⟨rfl, rfl, rfl, by decide +kernel, rfl, by decide +kernel, by decide +kernel⟩
theorem ok_vrs {f fL fN fG : Addr} {fd dL dN dG : FuncData} (F : Fun K "_law_variables" "_law_variables" sVrs f fd) (T : TxB mg) (DG : Dn K mg "_law_digit" sDigit ["_law_state_here", "_law_base"] fG dG) (DL : Dn K mg "_law_long" sLong ["_law_s"] fL dL) (DN : Dn K mg "_law_names" sNms ["_law_s", "_law_many"] fN dN)
    (GL : FnOk P w K mg base CX0 2 fL dL ["_law_s"] spLong) (GN : FnOk P w K mg base CX0 3 fN dN ["_law_s", "_law_many"] spNms) : FnOk P w K mg base CX0 4 f fd ["_law_s"] (spVrs K) := by
  have GG : FnOk P w K mg base CX0 1 fG dG ["_law_state_here", "_law_base"] spDigit := ok_digit DG.F
  refine F.ok scVrs (fun vs H Q E h => ?_) (fun cdv A outer s H vs Q E hr h => ?_)
  · obtain ⟨p, rfl, _⟩ := h
    rfl
  · obtain ⟨p, rfl, hS, k⟩ := h
    have hr1 : Room 1 _ := hr.mono (by decide)
    have hr2 : Room 2 _ := hr.mono (by decide)
    refine ⟨_, (pss_cons (ps_set (i := 1) scVrs.nd rfl (Or.inl rfl) (pe_lst pa_nil))
      (pss_cons (ps_for PassesOwn.never rfl (pi_list (pe_call GN hr rfl DN.g DN.F.kp DN.b .nil pass0 (pa_cons (pv 0) (pa_cons (pe_op op_add pe_int (pe_call GG hr1 rfl DG.g DG.F.kp DG.b .nil pass0 (pa_cons (pv 0) (pa_cons pe_int pa_nil)))) pa_nil)))) (pg_name (i := 2) scVrs.nd rfl (Or.inl rfl)) (pss_one (ps_expr (pe_bm PySem.F.plainAttrs_list PySem.F.slot_list_append PySem.F.type_list_append mt_append (pv 1) (pa_cons (pe_tup (pa_cons (pv 2) (pa_cons (pe_ix ix_list (pe_lst (pa_cons pe_non (pa_cons (pe_call GL hr2 rfl DL.g DL.F.kp DL.b .nil pass0 (pa_cons (pv 0) pa_nil)) pa_nil))) (pe_call GG hr1 rfl DG.g DG.F.kp DG.b .nil pass0 (pa_cons (pv 0) (pa_cons pe_int pa_nil))) (fun _ _ => rfl)) pa_nil))) pa_nil)))))
      (pss_one (ps_ret (pv 1))))), ?_⟩
    refine ⟨Nat.zero_le _, fun d hd => ?_⟩
    have ndp := st_free hS hd
    refine ⟨_, rfl, _, rfl, p, _, rfl, hS.upd ndp, by decide, by decide, fun d1 H1 a1 b1 B1 S1 => ?_⟩
    refine ⟨_, _, rfl, rfl, p, _, rfl, S1, by omega, by omega, fun zs ln H2 hln nlp B2 S2 hl nd nm len ne => ?_⟩
    have hd1 := B1 d _ ndp upd_same
    have nld : ln ≠ d := (ne_of_none hd1 hln).symm
    have hd2 := B2 d _ ndp hd1
    have B02 := (but_new (o := .lst []) (But.refl p H) ndp hd).trans (B1.trans B2)
    refine ⟨ln, rfl, ⟨_, SqL.of hl⟩, for_list (K := K) (a := ln) (xs := zs.map V.str) (fun i σ H' => (∃ u, σ = [some (.ref p), some (.ref d), u]) ∧ H' ln = some (.lst (zs.map V.str)) ∧ ∃ (ps : List Addr) (vars : List Var), H' d = some (.lst (ps.map V.ref)) ∧ RowsAt K H' ps (vars.map varV) ∧ vars.map (·.1) = zs.take i ∧ (∀ v ∈ vars, ∀ s, v.2 = some s → Nm s) ∧ But p H H' ∧ StOk H' p)
      ⟨⟨none, rfl⟩, hl, [], [], hd2, True.intro, rfl, fun v hv => (List.not_mem_nil hv).elim, B02, S2⟩ (fun i σ H' _ q => SqL.of q.2.1) ?_ ?_⟩
    · rintro i y σ H3 hi ⟨⟨u, rfl⟩, hl3, ps, vars, hd3, rows, names, sorts, B3, S3⟩
      obtain ⟨z, hz, rfl⟩ := map_str_get hi
      have hlen : vars.length = i := by
        have e := congrArg List.length names
        have hlt := (List.getElem?_eq_some_iff.mp hz).1
        rw [List.length_map, List.length_take] at e
        omega
      have hpl := rows.len
      rw [List.length_map] at hpl
      refine ⟨_, rfl, .inl ⟨rfl, _, SqL.of hd3⟩, _, rfl, _, rfl, p, rfl, S3, fun so H4 hso B4 S4 => ?_⟩
      refine ⟨by show 2 ≤ sizeLine; decide, fun lk nlk => ?_⟩
      have nkp := st_free S4 nlk
      refine ⟨_, rfl, p, _, rfl, S4.upd nkp, by decide, by decide, fun d5 H5 a5 b5 B5 S5 => ?_⟩
      have B35 : But p H3 H5 := (but_new B4 nkp (B4.free nkp nlk)).trans B5
      have hd5 := B35 d _ ndp hd3
      have hl5 := B35 ln _ nlp hl3
      have rows5 := rows.but B35 S3
      obtain ⟨so', hs, e⟩ : ∃ so' : Option Str, (∀ s, so' = some s → Nm s) ∧ [V.non, V.str so][d5.toNat]? = some (sortV so') := by
        rcases (show d5 = 0 ∨ d5 = 1 by omega) with rfl | rfl
        · exact ⟨none, (fun s e => nomatch e), rfl⟩
        · exact ⟨some so, (fun s e => (Option.some.inj e) ▸ hso), rfl⟩
      refine rdList (B5 lk _ nkp upd_same) (j := d5.toNat) (by omega) e ?_
      refine ⟨by show 2 ≤ sizeLine; decide, fun tp ntp => ?_⟩
      have ntd : tp ≠ d := (ne_of_none hd5 ntp).symm
      have ntp' := st_free S5 ntp
      refine ⟨d, _, _, rfl, rfl, Eq.trans (upd_ne ntd.symm) hd5, ?_, ?_⟩
      · rw [List.length_map]
        have hlt := (List.getElem?_eq_some_iff.mp hz).1
        exact Nat.lt_of_le_of_lt (show _ ≤ 1000 by omega) (by decide)
      · have ntl : ln ≠ tp := ne_of_none hl5 ntp
        have ndl : ln ≠ d := nld
        refine ⟨⟨_, rfl⟩, by rw [upd_ne ndl, upd_ne ntl]; exact hl5, ps ++ [tp], vars ++ [(z, so')], ?_, ?_, ?_, ?_, ?_, ?_⟩
        · rw [upd_same, List.map_append]
          rfl
        · have r1 : RowsAt K (upd H5 tp (.tup [.str z, sortV so'])) ps (vars.map varV) := rows5.same (Same.upd ntp)
          have r2 : RowsAt K (upd H5 tp (.tup [.str z, sortV so'])) (ps ++ [tp]) ((vars ++ [(z, so')]).map varV) := by
            rw [List.map_append]
            exact r1.append ⟨SqT.of upd_same, True.intro⟩
          refine rows_upd r2 (xs := ps.map V.ref) ?_
          rw [upd_ne ntd.symm]
          exact hd5
        · rw [List.map_append, names, List.take_add_one, hz]
          rfl
        · intro v hv
          rcases List.mem_append.mp hv with hv | hv
          · exact sorts v hv
          · rw [List.mem_singleton.mp hv]
            exact hs
        · exact but_new (but_new (B3.trans B35) ntp' ((B3.trans B35).free ntp' ntp)) ndp hd
        · exact (S5.upd ntp').upd ndp
    · rintro σ H3 ⟨⟨u, rfl⟩, hl3, ps, vars, hd3, rows, names, sorts, B3, S3⟩
      rw [List.length_map, List.take_length] at names
      refine ⟨_, rfl, k vars ps d H3 hd ndp B3 S3 hd3 rows ⟨?_, ?_, ?_, ?_⟩⟩
      · rw [names]
        exact nd
      · intro v hv
        refine ⟨nm _ ?_, sorts v hv⟩
        rw [← names]
        exact List.mem_map.mpr ⟨v, hv, rfl⟩
      · have e := congrArg List.length names
        rw [List.length_map] at e
        omega
      · intro e
        rw [e] at names
        exact ne (by omega) names.symm
end
end Wm
namespace Wm
open PySem L2 StX
abbrev sCds : Stmt := top 42
abbrev sRow : Stmt := top 43
theorem mem_ends {z : Str} {ts : List Tri} : z ∈ endsL ts ↔ ∃ t ∈ ts, z = t.1 ∨ z = t.2.2 := by
  unfold endsL
  rw [List.mem_flatMap]
  simp
def Link (ns : List Str) (ts : List Tri) : Prop := ∀ (j : Nat) (t : Tri), ts[j]? = some t → ∃ a b, ns[j]? = some a ∧ ns[(j + 1) % ns.length]? = some b ∧ Nm t.2.1 ∧ ((t.1 = a ∧ t.2.2 = b) ∨ (t.1 = b ∧ t.2.2 = a))
structure CondsOk (ns : List Str) (ts : List Tri) : Prop where
  c1 : 1 ≤ ts.length
  c3 : ts.length ≤ 3
  en : ∀ z ∈ endsL ts, z ∈ ns
  lo : ∀ z ∈ ns, z ∈ endsL ts
  ap : Hangs ts
  wd : ∀ t ∈ ts, Nm t.2.1
theorem link_ok {ns : List Str} {ts : List Tri} (ne : ns ≠ []) (h4 : ns.length ≤ 4) (L : Link ns ts) (hl : ts.length = max 1 (ns.length - 1)) : CondsOk ns ts := by
  have hn : 0 < ns.length := List.length_pos_iff.mpr ne
  have both : ∀ (j : Nat) (t : Tri), ts[j]? = some t → ∀ z, ns[j]? = some z ∨ ns[(j + 1) % ns.length]? = some z → z = t.1 ∨ z = t.2.2 := fun j t e z h => by
    obtain ⟨a, b, h1, h2, _, h3⟩ := L j t e
    rcases h with h | h
    · rw [h1] at h
      cases h
      rcases h3 with ⟨e1, e2⟩ | ⟨e1, e2⟩
      · exact .inl e1.symm
      · exact .inr e2.symm
    · rw [h2] at h
      cases h
      rcases h3 with ⟨e1, e2⟩ | ⟨e1, e2⟩
      · exact .inr e2.symm
      · exact .inl e1.symm
  refine ⟨by omega, by omega, fun z hz => ?_, fun z hz => ?_, fun i t hi e => ?_, fun t ht => ?_⟩
  · obtain ⟨t, ht, h⟩ := mem_ends.mp hz
    obtain ⟨j, hj⟩ := List.mem_iff_getElem?.mp ht
    obtain ⟨a, b, h1, h2, _, h3⟩ := L j t hj
    have ma := List.mem_of_getElem? h1
    have mb := List.mem_of_getElem? h2
    rcases h with rfl | rfl <;> rcases h3 with ⟨e1, e2⟩ | ⟨e1, e2⟩ <;> first | (rw [e1]; assumption) | (rw [e2]; assumption)
  · obtain ⟨m, hm⟩ := List.mem_iff_getElem?.mp hz
    have hml : m < ns.length := (List.getElem?_eq_some_iff.mp hm).1
    by_cases c : m < ts.length
    · have e := List.getElem?_eq_getElem c
      exact mem_ends.mpr ⟨ts[m], List.getElem_mem c, both m _ e z (.inl hm)⟩
    · have c2 : m - 1 < ts.length := by omega
      have e := List.getElem?_eq_getElem c2
      have em : (m - 1 + 1) % ns.length = m := by
        rw [show m - 1 + 1 = m by omega]
        exact Nat.mod_eq_of_lt hml
      exact mem_ends.mpr ⟨ts[m - 1], List.getElem_mem c2, both (m - 1) _ e z (.inr (by rw [em]; exact hm))⟩
  · have hil : i < ts.length := (List.getElem?_eq_some_iff.mp e).1
    obtain ⟨a, b, h1, h2, _, h3⟩ := L i t e
    have c2 : i - 1 < ts.length := by omega
    have e' := List.getElem?_eq_getElem c2
    have hin : i < ns.length := (List.getElem?_eq_some_iff.mp h1).1
    have em : (i - 1 + 1) % ns.length = i := by
      rw [show i - 1 + 1 = i by omega]
      exact Nat.mod_eq_of_lt hin
    have q := both (i - 1) _ e' a (.inr (by rw [em]; exact h1))
    have ma : a ∈ endsL (ts.take i) := mem_ends.mpr ⟨ts[i - 1], List.mem_of_getElem? (show (ts.take i)[i - 1]? = some ts[i - 1] by rw [List.getElem?_take_of_lt (by omega)]; exact e'), q⟩
    rcases h3 with ⟨e1, e2⟩ | ⟨e1, e2⟩
    · left; rw [e1]; exact ma
    · right; rw [e2]; exact ma
  · obtain ⟨j, hj⟩ := List.mem_iff_getElem?.mp ht
    obtain ⟨a, b, _, _, h, _⟩ := L j t hj
    exact h
theorem more_ok {ns : List Str} {ts : List Tri} {a b wd : Str} (h : CondsOk ns ts) (h3 : ts.length < 3) (ha : a ∈ ns) (hb : b ∈ ns) (hw : Nm wd) : CondsOk ns (ts ++ [(a, wd, b)]) := by
  have e : endsL (ts ++ [(a, wd, b)]) = endsL ts ++ [a, b] := by
    unfold endsL
    rw [List.flatMap_append]
    rfl
  refine ⟨by rw [List.length_append, List.length_singleton]; omega, by rw [List.length_append, List.length_singleton]; omega, fun z hz => ?_, fun z hz => ?_, fun i t hi q => ?_, fun t ht => ?_⟩
  · rw [e] at hz
    rcases List.mem_append.mp hz with hz | hz
    · exact h.en z hz
    · simp at hz
      rcases hz with rfl | rfl <;> assumption
  · rw [e]
    exact List.mem_append_left _ (h.lo z hz)
  · by_cases c : i < ts.length
    · rw [List.getElem?_append_left c] at q
      rw [List.take_append_of_le_length (by omega)]
      exact h.ap i t hi q
    · have hlt : i < (ts ++ [(a, wd, b)]).length := (List.getElem?_eq_some_iff.mp q).1
      rw [List.length_append, List.length_singleton] at hlt
      have ei : i = ts.length := by omega
      subst ei
      rw [List.getElem?_append_right (Nat.le_refl _), Nat.sub_self] at q
      have et : t = (a, wd, b) := (Option.some.inj q).symm
      rw [List.take_append_of_le_length (Nat.le_refl _), List.take_length]
      left
      rw [et]
      exact h.lo a ha
  · rcases List.mem_append.mp ht with ht | ht
    · exact h.wd t ht
    · rw [List.mem_singleton.mp ht]
      exact hw
theorem atI_neg1 {xs : List V} {v : V} (h : xs.getLast? = some v) : atI xs (-1) = some v := by
  have e : xs = xs.dropLast ++ [v] := by
    cases xs with
    | nil => cases h
    | cons a r =>
      have q := List.dropLast_concat_getLast (l := a :: r) (by simp)
      rw [List.getLast?_eq_getLast (by simp)] at h
      rw [← Option.some.inj h]
      exact q.symm
  rw [e]
  exact atI_last _ _
def spCds (K : PySem.W.Frag) : Sp := fun vs H Q _ => ∃ (p ln : Addr) (ns : List Str), vs = [.ref p, .ref ln] ∧ StOk H p ∧ ln ≠ p ∧ H ln = some (.lst (ns.map V.str)) ∧ ns ≠ [] ∧ ns.length ≤ 4 ∧
  ∀ (ts : List Tri) (ps : List Addr) d H', H d = none → d ≠ p → But p H H' → StOk H' p → H' d = some (.lst (ps.map V.ref)) → RowsAt K H' ps (ts.map triV) → CondsOk ns ts → Q (.ref d) H'
section
variable {P : Program} {w : World} {K : PySem.W.Frag} {mg : Str → Option Value} {base : Heap}
theorem scCds : FnScope ["_law_s", "_law_names_here", "_law_found", "_law_k", "_law_pair", "_law_turned"] ["_law_s", "_law_names_here"] (defScope sCds) := ⟨rfl, rfl, rfl, by decide +kernel, rfl, by decide +kernel, by decide +kernel⟩
theorem ok_cds {f fL fG : Addr} {fd dL dG : FuncData} (F : Fun K "_law_conditions" "_law_conditions" sCds f fd) (T : TxB mg) (hmax : mg "max" = none) (DG : Dn K mg "_law_digit" sDigit ["_law_state_here", "_law_base"] fG dG) (DL : Dn K mg "_law_long" sLong ["_law_s"] fL dL)
    (GL : FnOk P w K mg base CX0 2 fL dL ["_law_s"] spLong) : FnOk P w K mg base CX0 3 f fd ["_law_s", "_law_names_here"] (spCds K) := by
  have GG : FnOk P w K mg base CX0 1 fG dG ["_law_state_here", "_law_base"] spDigit := ok_digit DG.F
  refine F.ok scCds (fun vs H Q E h => ?_) (fun cdv A outer s H vs Q E hr h => ?_)
  · obtain ⟨p, ln, ns, rfl, _⟩ := h
    rfl
  · obtain ⟨p, ln, ns, rfl, hS, nlp, hln, ne, l4, k⟩ := h
    have hr1 : Room 1 _ := hr.mono (by decide)
    have hn : 0 < ns.length := List.length_pos_iff.mpr ne
    refine ⟨_, (pss_cons (ps_set (i := 2) scCds.nd rfl (Or.inl rfl) (pe_lst pa_nil))
      (pss_cons (ps_for PassesOwn.never rfl (pi_range1 rfl T.range (pa_cons (pe_callB (call_max2 rfl) (by rfl) hmax (by decide +kernel) (pa_cons pe_int (pa_cons (pe_op op_sub (pe_callB call_len_seq (by rfl) T.len (by decide +kernel) (pa_cons (pv 1) pa_nil)) pe_int) pa_nil))) pa_nil)) (pg_name (i := 3) scCds.nd rfl (Or.inl rfl)) (pss_cons (ps_set (i := 4) scCds.nd rfl (Or.inl rfl) (pe_lst (pa_cons (pe_ix ix_list (pv 1) (pv 3) (fun _ _ => rfl)) (pa_cons (pe_ix ix_list (pv 1) (pe_op op_mod (pe_op op_add (pv 3) pe_int) (pe_callB call_len_seq (by rfl) T.len (by decide +kernel) (pa_cons (pv 1) pa_nil))) (fun _ _ => rfl)) pa_nil))))
      (pss_cons (ps_set (i := 5) scCds.nd rfl (Or.inl rfl) (pe_call GG hr1 rfl DG.g DG.F.kp DG.b .nil pass0 (pa_cons (pv 0) (pa_cons pe_int pa_nil))))
      (pss_one (ps_expr (pe_bm PySem.F.plainAttrs_list PySem.F.slot_list_append PySem.F.type_list_append mt_append (pv 2) (pa_cons (pe_tup (pa_cons (pe_ix ix_list (pv 4) (pv 5) (fun _ _ => rfl)) (pa_cons (pe_call GL hr rfl DL.g DL.F.kp DL.b .nil pass0 (pa_cons (pv 0) pa_nil)) (pa_cons (pe_ix ix_list (pv 4) (pe_op op_sub pe_int (pv 5)) (fun _ _ => rfl)) pa_nil)))) pa_nil)))))))
      (pss_cons (ps_if (PW.pt (pw_and (pt_cmpR op_lt (pe_callB call_len_seq (by rfl) T.len (by decide +kernel) (pa_cons (pv 2) pa_nil)) pe_int (nomark _)) (pw_and1 (pt_cmpR op_eq (pe_call GG hr1 rfl DG.g DG.F.kp DG.b .nil pass0 (pa_cons (pv 0) (pa_cons pe_int pa_nil))) pe_int (nomark _))))) (pss_one (ps_expr (pe_bm PySem.F.plainAttrs_list PySem.F.slot_list_append PySem.F.type_list_append mt_append (pv 2) (pa_cons (pe_tup (pa_cons (pe_ix ix_list (pv 1) pe_int (fun _ _ => rfl)) (pa_cons (pe_call GL hr rfl DL.g DL.F.kp DL.b .nil pass0 (pa_cons (pv 0) pa_nil)) (pa_cons (pe_ix ix_list (pv 1) (pe_un un_neg pe_int) (fun _ _ => rfl)) pa_nil)))) pa_nil)))) pss_nil)
      (pss_one (ps_ret (pv 2)))))), ?_⟩
    refine ⟨Nat.zero_le _, fun d hd => ?_⟩
    have ndp := st_free hS hd
    have nld : ln ≠ d := ne_of_none hln hd
    have lget : ∀ (j : Nat), j < ns.length → (ns.map V.str)[j]? = some (.str (ns.getD j "")) := fun j hj => by
      rw [List.getElem?_map, List.getElem?_eq_getElem hj, List.getD_eq_getElem?_getD, List.getElem?_eq_getElem hj]
      rfl
    have nget : ∀ (j : Nat), j < ns.length → ns[j]? = some (ns.getD j "") := fun j hj => by
      rw [List.getD_eq_getElem?_getD, List.getElem?_eq_getElem hj]
      rfl
    have hl0 : (upd H d (.lst [])) ln = some (.lst (ns.map V.str)) := by rw [upd_ne nld]; exact hln
    refine ⟨_, rfl, ln, _, rfl, .inl (SqL.of hl0), _, _, rfl, rfl, _, _, rfl, _, rfl, ?_, ?_, ?_⟩
    · rw [List.length_map]
      split <;> omega
    · rw [List.length_map]
      split <;> omega
    generalize hm : (if ((ns.map V.str).length : Int) - 1 > 1 then ((ns.map V.str).length : Int) - 1 else 1) = m
    have hm' : m.toNat = max 1 (ns.length - 1) := by
      rw [← hm, List.length_map]
      split <;> omega
    refine for_range (n := m.toNat) (fun i σ H' => (∃ u v x, σ = [some (.ref p), some (.ref ln), some (.ref d), u, v, x]) ∧ H' ln = some (.lst (ns.map V.str)) ∧ ∃ (ps : List Addr) (ts : List Tri), H' d = some (.lst (ps.map V.ref)) ∧ RowsAt K H' ps (ts.map triV) ∧ ts.length = i ∧ Link ns ts ∧ But p H H' ∧ StOk H' p)
      ⟨⟨none, none, none, rfl⟩, hl0, [], [], upd_same, True.intro, rfl, fun j t e => by simp at e, but_new (But.refl p H) ndp hd, hS.upd ndp⟩ ?_ ?_
    · rintro i σ H1 hi ⟨⟨u, v, x, rfl⟩, hl1, ps, ts, hd1, rows, len, link, B1, S1⟩
      have hpl := rows.len
      rw [List.length_map] at hpl
      have hin : i < ns.length := by omega
      have hin2 : (i + 1) % ns.length < ns.length := Nat.mod_lt _ hn
      have ei : ((0 : Int) + (i : Int) + 1) % ((ns.map V.str).length : Int) = (((i + 1) % ns.length : Nat) : Int) := by
        rw [List.length_map]
        have e : (0 : Int) + (i : Int) + 1 = ((i + 1 : Nat) : Int) := by omega
        rw [e]
        exact (Int.natCast_emod _ _).symm
      refine ⟨_, rfl, _, rfl, rdList hl1 (j := i) (by omega) (lget i hin) ?_⟩
      refine ⟨_, rfl, _, rfl, _, _, rfl, rfl, _, rfl, ln, _, rfl, .inl (SqL.of hl1), _, _, rfl, rfl, ?_, rdList hl1 ei (lget _ hin2) ?_⟩
      · rw [List.length_map]; omega
      refine ⟨by show 2 ≤ sizeLine; decide, fun lp nlp' => ?_⟩
      have npp := st_free S1 nlp'
      generalize hA : ns.getD i "" = a
      generalize hB : ns.getD ((i + 1) % ns.length) "" = b
      refine ⟨_, rfl, p, _, rfl, S1.upd npp, by decide, by decide, fun d2 H2 a2 b2 B2 S2 => ?_⟩
      have B12 : But p H1 H2 := (but_new (o := .lst [.str a, .str b]) (But.refl p H1) npp nlp').trans B2
      have hd2 := B12 d _ ndp hd1
      have hp2 := B2 lp _ npp upd_same
      refine ⟨_, rfl, .inl ⟨rfl, _, SqL.of hd2⟩, ?_⟩
      have hpick : ∃ y z : Str, [V.str a, V.str b][d2.toNat]? = some (.str y) ∧ [V.str a, V.str b][(1 - d2).toNat]? = some (.str z) ∧ ((y = a ∧ z = b) ∨ (y = b ∧ z = a)) := by
        rcases (show d2 = 0 ∨ d2 = 1 by omega) with rfl | rfl
        · exact ⟨a, b, rfl, rfl, .inl ⟨rfl, rfl⟩⟩
        · exact ⟨b, a, rfl, rfl, .inr ⟨rfl, rfl⟩⟩
      obtain ⟨y, z, e1, e2, hyz⟩ := hpick
      refine ⟨_, rfl, _, rfl, rdList hp2 (j := d2.toNat) (by omega) e1 ?_⟩
      refine ⟨_, rfl, p, rfl, S2, fun wd H3 hw B3 S3 => ?_⟩
      have hp3 := B3 lp _ npp hp2
      refine ⟨_, rfl, _, rfl, _, _, rfl, rfl, rdList hp3 (j := (1 - d2).toNat) (by omega) e2 ?_⟩
      refine ⟨by show 3 ≤ sizeLine; decide, fun tp ntp => ?_⟩
      have B13 := B12.trans B3
      have hd3 := B3 d _ ndp hd2
      have hl3 := B13 ln _ nlp hl1
      have ntd : tp ≠ d := (ne_of_none hd3 ntp).symm
      have ntl : ln ≠ tp := ne_of_none hl3 ntp
      have ntp' := st_free S3 ntp
      have rows3 := rows.but B13 S1
      refine ⟨d, _, _, rfl, rfl, Eq.trans (upd_ne ntd.symm) hd3, ?_, ?_⟩
      · rw [List.length_map]
        exact Nat.lt_of_le_of_lt (show _ ≤ 1000 by omega) (by decide)
      refine ⟨⟨_, _, _, rfl⟩, by rw [upd_ne nld, upd_ne ntl]; exact hl3, ps ++ [tp], ts ++ [(y, wd, z)], ?_, ?_, ?_, ?_, ?_, ?_⟩
      · rw [upd_same, List.map_append]
        rfl
      · have r1 : RowsAt K (upd H3 tp (.tup [.str y, .str wd, .str z])) ps (ts.map triV) := rows3.same (Same.upd ntp)
        have r2 : RowsAt K (upd H3 tp (.tup [.str y, .str wd, .str z])) (ps ++ [tp]) ((ts ++ [(y, wd, z)]).map triV) := by
          rw [List.map_append]
          exact r1.append ⟨SqT.of upd_same, True.intro⟩
        refine rows_upd r2 (xs := ps.map V.ref) ?_
        rw [upd_ne ntd.symm]
        exact hd3
      · rw [List.length_append, List.length_singleton, len]
      · intro j t e
        by_cases c : j < ts.length
        · rw [List.getElem?_append_left c] at e
          exact link j t e
        · have hlt : j < (ts ++ [(y, wd, z)]).length := (List.getElem?_eq_some_iff.mp e).1
          rw [List.length_append, List.length_singleton] at hlt
          have ej : j = ts.length := by omega
          subst ej
          rw [List.getElem?_append_right (Nat.le_refl _), Nat.sub_self] at e
          have et : t = (y, wd, z) := (Option.some.inj e).symm
          subst et
          refine ⟨a, b, ?_, ?_, hw, hyz⟩
          · rw [len, ← hA]
            exact nget i hin
          · rw [len, ← hB]
            exact nget _ hin2
      · exact but_new (but_new (B1.trans B13) ntp' ((B1.trans B13).free ntp' ntp)) ndp hd
      · exact (S3.upd ntp').upd ndp
    · rintro σ H1 ⟨⟨u, v, x, rfl⟩, hl1, ps, ts, hd1, rows, len, link, B1, S1⟩
      have hpl := rows.len
      rw [List.length_map] at hpl
      have ok := link_ok ne l4 link (by omega)
      have c3 := ok.c3
      refine ⟨_, rfl, d, _, rfl, .inl (SqL.of hd1), _, _, rfl, rfl, _, rfl, ?_⟩
      refine ite2 (fun h3 => ?_) (fun _ => ?_)
      · have h3' : ((ps.map V.ref).length : Int) < 3 := of_decide_eq_true h3
        rw [List.length_map] at h3'
        refine ⟨_, rfl, p, _, rfl, S1, by decide, by decide, fun d2 H2 a2 b2 B2 S2 => ?_⟩
        refine ⟨rfl, _, rfl, ?_⟩
        have hd2 := B2 d _ ndp hd1
        have hl2 := B2 ln _ nlp hl1
        have rows2 := rows.but B2 S1
        refine ite2 (fun _ => ?_) (fun _ => ?_)
        · refine ⟨_, rfl, .inl ⟨rfl, _, SqL.of hd2⟩, ?_⟩
          refine ⟨_, rfl, ?_⟩
          dsimp only [tC]
          refine rdList hl2 (j := 0) rfl (lget 0 hn) ?_
          refine ⟨_, rfl, p, rfl, S2, fun wd H3 hw B3 S3 => ?_⟩
          have hl3 := B3 ln _ nlp hl2
          have hd3 := B3 d _ ndp hd2
          have hlast : ∃ b, ns.getLast? = some b ∧ b ∈ ns := by
            cases q : ns.getLast? with
            | none => exact absurd (List.getLast?_eq_none_iff.mp q) ne
            | some b => exact ⟨b, rfl, List.mem_of_getLast? q⟩
          obtain ⟨b, hb, mb⟩ := hlast
          refine ⟨_, rfl, _, rfl, ln, _, _, .str b, rfl, rfl, SqL.of hl3, atI_neg1 (by rw [List.getLast?_map, hb]; rfl), ?_⟩
          refine ⟨by show 3 ≤ sizeLine; decide, fun tp ntp => ?_⟩
          have ntd : tp ≠ d := (ne_of_none hd3 ntp).symm
          have ntp' := st_free S3 ntp
          have rows3 := rows2.but B3 S2
          refine ⟨d, _, _, rfl, rfl, Eq.trans (upd_ne ntd.symm) hd3, ?_, ?_⟩
          · rw [List.length_map]
            exact Nat.lt_of_le_of_lt (show _ ≤ 1000 by omega) (by decide)
          refine ⟨_, rfl, k (ts ++ [(ns.getD 0 "", wd, b)]) (ps ++ [tp]) d _ hd ndp ?_ ?_ ?_ ?_ (more_ok ok (by omega) ?_ mb hw)⟩
          · have B13 := B1.trans (B2.trans B3)
            exact but_new (but_new B13 ntp' (B13.free ntp' ntp)) ndp hd
          · exact (S3.upd ntp').upd ndp
          · rw [upd_same, List.map_append]
            rfl
          · have r1 : RowsAt K (upd H3 tp (.tup [.str (ns.getD 0 ""), .str wd, .str b])) ps (ts.map triV) := rows3.same (Same.upd ntp)
            have r2 : RowsAt K (upd H3 tp (.tup [.str (ns.getD 0 ""), .str wd, .str b])) (ps ++ [tp]) ((ts ++ [(ns.getD 0 "", wd, b)]).map triV) := by
              rw [List.map_append]
              exact r1.append ⟨SqT.of upd_same, True.intro⟩
            refine rows_upd r2 (xs := ps.map V.ref) ?_
            rw [upd_ne ntd.symm]
            exact hd3
          · exact List.mem_of_getElem? (nget 0 hn)
        · exact ⟨_, rfl, k ts ps d H2 hd ndp (B1.trans B2) S2 hd2 rows2 ok⟩
      · refine iteF ?_
        exact ⟨_, rfl, k ts ps d H1 hd ndp B1 S1 hd1 rows ok⟩
end
end Wm
namespace Wm
open PySem L2 StX
def cds (z : Str) : List Nat := z.cps.toList
theorem cds_app (a b : Str) : cds (a ++ b) = cds a ++ cds b := by
  show (a.cps ++ b.cps).toList = _
  simp [cds]
def Jn (l : List Str) : List Nat := l.flatMap fun z => 32 :: cds z
theorem Jn_app (a b : List Str) : Jn (a ++ b) = Jn a ++ Jn b := List.flatMap_append
theorem cds_blank : cds (PySem.Str.ofString " ") = [32] := by decide +kernel
theorem cds_colon : cds (PySem.Str.ofString ":") = [58] := by decide +kernel
theorem cds_bar : cds (PySem.Str.ofString " | ") = [32, 124, 32] := by decide +kernel
theorem cds_bar1 : cds (PySem.Str.ofString "|") = [124] := by decide +kernel
theorem cds_gt : cds (PySem.Str.ofString " > ") = [32, 62, 32] := by decide +kernel
theorem cds_gt1 : cds (PySem.Str.ofString ">") = [62] := by decide +kernel
theorem cds_by : cds (PySem.Str.ofString " by ") = [32, 98, 121, 32] := by decide +kernel
theorem cds_by1 : cds (PySem.Str.ofString "by") = [98, 121] := by decide +kernel
theorem cds_join (p : Str) (l : List Str) : cds (Txt.join " " (p :: l)) = cds p ++ Jn l := by
  have e : ∀ (p : Str) (l : List Str), cds (Str.join " " (p :: l)) = cds p ++ Jn l := fun p l => by
    induction l generalizing p with
    | nil =>
      show cds p = cds p ++ []
      rw [List.append_nil]
    | cons q r ih =>
      show cds (p ++ " " ++ Str.join " " (q :: r)) = _
      rw [cds_app, cds_app, ih, cds_blank]
      show cds p ++ [32] ++ (cds q ++ Jn r) = cds p ++ (32 :: cds q ++ Jn r)
      simp
  have e2 : Txt.join " " (p :: l) = Str.join " " (p :: l) := StrLaws.glued_eq_join _ _
  rw [e2]
  exact e p l
theorem str_ext {a b : Str} (h : cds a = cds b) : a = b := by
  have h' : a.cps = b.cps := by
    have q : a.cps.toList = b.cps.toList := h
    rw [← Array.toArray_toList (xs := a.cps), ← Array.toArray_toList (xs := b.cps), q]
  cases a
  cases b
  cases h'
  rfl
theorem cds_varP_none (n : Str) : Jn [varP (n, none)] = 32 :: cds n := by
  show 32 :: cds n ++ [] = _
  rw [List.append_nil]
theorem cds_varP_some (n s : Str) : Jn [varP (n, some s)] = 32 :: cds n ++ [58] ++ cds s := by
  show 32 :: cds (Str.empty ++ n ++ PySem.Str.ofString ":" ++ s) ++ [] = _
  rw [cds_app, cds_app, cds_app, cds_colon, List.append_nil]
  have e : cds Str.empty = [] := rfl
  rw [e]
  simp
theorem cds_triP (t : Tri) : Jn (triP t) = [32, 124, 32] ++ cds t.1 ++ [32] ++ cds t.2.1 ++ [32] ++ cds t.2.2 := by
  show 32 :: cds (PySem.Str.ofString "|") ++ (32 :: cds t.1 ++ (32 :: cds t.2.1 ++ (32 :: cds t.2.2 ++ []))) = _
  rw [cds_bar1]
  simp
def spRow (K : PySem.W.Frag) : Sp := fun vs H Q _ => ∃ (kind nm : Str) (lv lc : Addr) (ps qs : List Addr) (vars : List Var) (cs : List Tri), vs = [.str kind, .str nm, .ref lv, .ref lc] ∧ SqL K H lv (ps.map V.ref) ∧ RowsAt K H ps (vars.map varV) ∧ SqL K H lc (qs.map V.ref) ∧ RowsAt K H qs (cs.map triV) ∧
  SmP vars cs ∧ Sm kind ∧ Sm nm ∧ Q (.str (Txt.join " " (partsL kind nm vars cs))) H
section
variable {P : Program} {w : World} {K : PySem.W.Frag} {mg : Str → Option Value} {base : Heap}
theorem scRow : FnScope ["_law_kind", "_law_name", "_law_variables_here", "_law_conditions_here", "_law_text", "_law_one", "_law_sort", "_law_x", "_law_word", "_law_y"] ["_law_kind", "_law_name", "_law_variables_here", "_law_conditions_here"] (defScope sRow) := ⟨rfl, rfl, rfl, by decide +kernel, rfl, by decide +kernel, by decide +kernel⟩
theorem ok_row {f : Addr} {fd : FuncData} (F : Fun K "_law_row" "_law_row" sRow f fd) : FnOk P w K mg base CX0 1 f fd ["_law_kind", "_law_name", "_law_variables_here", "_law_conditions_here"] (spRow K) := by
  refine F.ok scRow (fun vs H Q E h => ?_) (fun cdv A outer s H vs Q E hr h => ?_)
  · obtain ⟨kind, nm, lv, lc, ps, qs, vars, cs, rfl, _⟩ := h
    rfl
  · obtain ⟨kind, nm, lv, lc, ps, qs, vars, cs, rfl, hv, rv, hc, rc, sm, sk, sn, k⟩ := h
    have b1 := rv.len
    have b2 := rc.len
    rw [List.length_map] at b1 b2
    have v4 := sm.vl
    have c3 := sm.cl
    have sk' : kind.length ≤ 100 := sk
    have sn' : nm.length ≤ 100 := sn
    have e1 : (PySem.Str.ofString " ").length = 1 := by decide +kernel
    have e2 : (PySem.Str.ofString ":").length = 1 := by decide +kernel
    have e3 : (PySem.Str.ofString " | ").length = 3 := by decide +kernel
    have big : ∀ n : Nat, n ≤ 100000 → n ≤ sizeLine := fun n h => Nat.le_trans h (by decide)
    refine ⟨_, (pss_cons (ps_set (i := 4) scRow.nd rfl (Or.inl rfl) (pe_op op_add_str (pe_op op_add_str (pv 0) pe_str) (pv 1)))
      (pss_cons (ps_for PassesOwn.never rfl (pi_list (pv 2)) (pg_tup rfl (pgs_cons (pg_name (i := 5) scRow.nd rfl (Or.inl rfl)) (pgs_cons (pg_name (i := 6) scRow.nd rfl (Or.inl rfl)) pgs_nil))) (pss_cons (ps_set (i := 4) scRow.nd rfl (Or.inl rfl) (pe_op op_add_str (pe_op op_add_str (pv 4) pe_str) (pv 5)))
      (pss_one (ps_if (pt_cmp (pc_notN (pv 6))) (pss_one (ps_set (i := 4) scRow.nd rfl (Or.inl rfl) (pe_op op_add_str (pe_op op_add_str (pv 4) pe_str) (pv 6)))) pss_nil))))
      (pss_cons (ps_for PassesOwn.never rfl (pi_list (pv 3)) (pg_tup rfl (pgs_cons (pg_name (i := 7) scRow.nd rfl (Or.inl rfl)) (pgs_cons (pg_name (i := 8) scRow.nd rfl (Or.inl rfl)) (pgs_cons (pg_name (i := 9) scRow.nd rfl (Or.inl rfl)) pgs_nil)))) (pss_one (ps_set (i := 4) scRow.nd rfl (Or.inl rfl) (pe_op op_add_str (pe_op op_add_str (pe_op op_add_str (pe_op op_add_str (pe_op op_add_str (pe_op op_add_str (pv 4) pe_str) (pv 7)) pe_str) (pv 8)) pe_str) (pv 9)))))
      (pss_one (ps_ret (pv 4)))))), ?_⟩
    refine ⟨_, rfl, _, _, rfl, rfl, big _ (by rw [e1]; omega), _, rfl, _, _, rfl, rfl, big _ (by rw [len_app, e1]; omega), ?_⟩
    refine ⟨_, rfl, lv, rfl, ⟨_, hv⟩, for_list (K := K) (a := lv) (xs := ps.map V.ref) (fun i σ H' => H' = H ∧ ∃ (z : Str) (u v : Option V), σ = [some (.str kind), some (.str nm), some (.ref lv), some (.ref lc), some (.str z), u, v, none, none, none] ∧ cds z = cds kind ++ Jn (nm :: (vars.take i).map varP) ∧ z.length ≤ 300 + 300 * i)
      ⟨rfl, _, none, none, rfl, ?_, ?_⟩ (fun i σ H' _ q => by rw [q.1]; exact hv) ?_ ?_⟩
    · rw [cds_app, cds_app, cds_blank, List.take_zero]
      show cds kind ++ [32] ++ cds nm = cds kind ++ (32 :: cds nm ++ [])
      simp
    · rw [len_app, len_app, e1]
      omega
    · rintro i y σ H' hi ⟨rfl, z, u, v, rfl, hz, lz⟩
      obtain ⟨p, hp, rfl⟩ := map_ref_get hi
      obtain ⟨r, hr1, hr'⟩ := rv.get hp
      obtain ⟨⟨n, so⟩, ht, rfl⟩ := var_get hr1
      have hi4 : i < vars.length := (List.getElem?_eq_some_iff.mp ht).1
      have ⟨sn1, ss⟩ := sm.v _ (List.mem_of_getElem? ht)
      have sn2 : n.length ≤ 100 := sn1
      have sn3 : ((n, so) : Var).1.length ≤ 100 := sn1
      refine ⟨p, _, rfl, hr', rfl, _, _, rfl, _, _, rfl, rfl, ?_⟩
      refine ⟨_, rfl, _, _, rfl, rfl, big _ (by rw [e1]; omega), _, rfl, _, _, rfl, rfl, big _ (by rw [len_app, e1]; omega), ?_⟩
      refine ⟨_, rfl, _, rfl, ?_⟩
      have et : (vars.take (i + 1)).map varP = (vars.take i).map varP ++ [varP (n, so)] := by
        rw [List.take_add_one, ht, List.map_append]
        rfl
      have ej : Jn (nm :: (vars.take (i + 1)).map varP) = Jn (nm :: (vars.take i).map varP) ++ Jn [varP (n, so)] := by
        rw [et, ← List.cons_append, Jn_app]
      cases so with
      | none =>
        refine iteF ⟨rfl, _, _, _, rfl, ?_, ?_⟩
        · rw [cds_app, cds_app, cds_blank, hz, ej, cds_varP_none]
          simp
        · rw [len_app, len_app, e1]
          omega
      | some so =>
        have ss2 : so.length ≤ 100 := ss so rfl
        refine iteT ?_
        refine ⟨_, rfl, _, _, rfl, rfl, big _ (by rw [len_app, len_app, e1, e2]; omega), _, rfl, _, _, rfl, rfl, big _ (by rw [len_app, len_app, len_app, e1, e2]; omega), rfl, _, _, _, rfl, ?_, ?_⟩
        · rw [cds_app, cds_app, cds_app, cds_app, cds_blank, cds_colon, hz, ej, cds_varP_some]
          simp
        · rw [len_app, len_app, len_app, len_app, e1, e2]
          omega
    · rintro σ H' ⟨rfl, z, u, v, rfl, hz, lz⟩
      rw [List.length_map, List.take_of_length_le (by omega)] at hz
      rw [List.length_map] at lz
      refine ⟨_, rfl, lc, rfl, ⟨_, hc⟩, for_list (K := K) (a := lc) (xs := qs.map V.ref) (fun i σ H2 => H2 = H' ∧ ∃ (z : Str) (x1 x2 x3 : Option V), σ = [some (.str kind), some (.str nm), some (.ref lv), some (.ref lc), some (.str z), u, v, x1, x2, x3] ∧ cds z = cds kind ++ Jn (nm :: (vars.map varP ++ (cs.take i).flatMap triP)) ∧ z.length ≤ 2000 + 500 * i)
        ⟨rfl, z, none, none, none, rfl, ?_, by omega⟩ (fun i σ H' _ q => by rw [q.1]; exact hc) ?_ ?_⟩
      · rw [hz, List.take_zero, List.flatMap_nil, List.append_nil]
      · rintro i y σ H2 hi ⟨rfl, z, x1, x2, x3, rfl, hz, lz⟩
        obtain ⟨p, hp, rfl⟩ := map_ref_get hi
        obtain ⟨r, hr1, hr'⟩ := rc.get hp
        obtain ⟨t, ht, rfl⟩ := tri_get hr1
        have hi3 : i < cs.length := (List.getElem?_eq_some_iff.mp ht).1
        have ⟨s1, s2, s3⟩ := sm.c t (List.mem_of_getElem? ht)
        have s1' : t.1.length ≤ 100 := s1
        have s2' : t.2.1.length ≤ 100 := s2
        have s3' : t.2.2.length ≤ 100 := s3
        refine ⟨p, _, rfl, hr', rfl, _, _, rfl, _, _, rfl, _, _, rfl, rfl, ?_⟩
        refine ⟨_, rfl, _, _, rfl, rfl, big _ (by rw [e3]; omega), _, rfl, _, _, rfl, rfl, big _ (by rw [len_app, e3]; omega), _, _, rfl, rfl, big _ (by rw [len_app, len_app, e3, e1]; omega), _, rfl, _, _, rfl, rfl, big _ (by rw [len_app, len_app, len_app, e3, e1]; omega), _, _, rfl, rfl, big _ (by rw [len_app, len_app, len_app, len_app, e3, e1]; omega), _, rfl, _, _, rfl, rfl, big _ (by rw [len_app, len_app, len_app, len_app, len_app, e3, e1]; omega), rfl, _, _, _, _, rfl, ?_, ?_⟩
        · rw [cds_app, cds_app, cds_app, cds_app, cds_app, cds_app, cds_blank, cds_bar, hz, triP_take ht, ← List.append_assoc, ← List.cons_append (bs := triP t), Jn_app, cds_triP]
          simp
        · rw [len_app, len_app, len_app, len_app, len_app, len_app, e3, e1]
          omega
      · rintro σ H2 ⟨rfl, z, x1, x2, x3, rfl, hz, lz⟩
        rw [List.length_map, List.take_of_length_le (by omega)] at hz
        refine ⟨_, rfl, ?_⟩
        have e : z = Txt.join " " (partsL kind nm vars cs) := by
          refine str_ext ?_
          rw [hz]
          show _ = cds (Txt.join " " (kind :: (nm :: (vars.map varP) ++ cs.flatMap triP)))
          rw [cds_join]
          rfl
        rw [e]
        exact k
end
end Wm
namespace Wm
open PySem L2 StX
abbrev sLaw : Stmt := top 44
theorem same_make {H : Hp} {x dx C : Addr} (nx : H x = none) (ndx : H dx = none) : Same H (upd (upd H dx (.own x)) x (.ins C dx [])) := fun b o e => by
  rw [upd_ne (ne_of_none e nx), upd_ne (ne_of_none e ndx)]
  exact e
theorem notw_nd {l : List Str} (h : l.Nodup) : NoTw (l.map V.str) := fun i x e => by
  obtain ⟨z, hz, rfl⟩ := map_str_get e
  rw [← List.map_take, inV_str]
  refine decide_eq_false fun hm => ?_
  obtain ⟨j, hj⟩ := List.mem_iff_getElem?.mp hm
  have hlt : j < (l.take i).length := (List.getElem?_eq_some_iff.mp hj).1
  rw [List.length_take] at hlt
  rw [List.getElem?_take_of_lt (by omega)] at hj
  have q := nd_ix h hj hz
  omega
theorem dueM_all {C : Addr} {zs : List Str} {H0 : Hp} {ok : Hp → Prop} {E : XK} (h : ∀ z ∈ zs, isNm z = true) (k : ∀ H', Same H0 H' → ok H') : DueM C zs H0 ok E := by
  unfold DueM
  have e : zs.find? (fun z => !isNm z) = none := by
    rw [List.find?_eq_none]
    intro z hz
    rw [h z hz]
    decide
  rw [e]
  exact k
theorem Nm.sm {z : Str} (h : Nm z) : Sm z := Nat.le_trans h.2 (by decide)
theorem texts_nm {nm : Str} {vars : List Var} {cs : List Tri} (hn : Nm nm) (hv : VarsOk vars) (hc : ∀ t ∈ cs, Nm t.2.1) : ∀ z ∈ textsL nm vars cs, Nm z := fun z hz => by
  unfold textsL at hz
  rcases List.mem_append.mp hz with hz | hz
  · rcases List.mem_cons.mp hz with rfl | hz
    · exact hn
    · obtain ⟨v, hv', hz⟩ := List.mem_flatMap.mp hz
      have q := hv.nm v hv'
      unfold varT at hz
      rcases List.mem_cons.mp hz with rfl | hz
      · exact q.1
      · cases e : v.2 with
        | none =>
          rw [e] at hz
          simp at hz
        | some s =>
          rw [e] at hz
          have ez : z = s := by simpa using hz
          rw [ez]
          exact q.2 s e
  · obtain ⟨t, ht, rfl⟩ := List.mem_map.mp hz
    exact hc t ht
theorem patOk_of {vars : List Var} {cs : List Tri} {gs : List Tri} {hs : List Str} {ns : List Str} (hv : VarsOk vars) (hc : CondsOk ns cs) (hm : ∀ z, z ∈ vars.map (·.1) ↔ z ∈ ns) (hg : gs.length ≤ 1) (hh : hs.length ≤ 1) (eg : ∀ z ∈ endsL gs, z ∈ ns) (eh : ∀ z ∈ hs, z ∈ ns) : PatOk vars cs gs hs where
  v1 := List.length_pos_iff.mpr hv.ne
  v4 := hv.l4
  c1 := hc.c1
  c3 := hc.c3
  g3 := hg
  h3 := hh
  tw := notw_nd hv.nd
  en := fun z hz => by
    rw [hm z]
    rcases List.mem_append.mp hz with hz | hz
    · unfold endsL at hz
      rw [List.flatMap_append] at hz
      rcases List.mem_append.mp hz with hz | hz
      · exact hc.en z hz
      · exact eg z hz
    · exact eh z hz
  lo := fun z hz => hc.lo z ((hm z).mp hz)
  ap := hc.ap
theorem smP_of {vars : List Var} {cs : List Tri} {ns : List Str} (hv : VarsOk vars) (hc : CondsOk ns cs) (hn : ∀ z ∈ ns, Nm z) : SmP vars cs where
  v := fun v h => ⟨(hv.nm v h).1.sm, fun s e => ((hv.nm v h).2 s e).sm⟩
  c := fun t h => ⟨(hn _ (hc.en _ (mem_ends.mpr ⟨t, h, .inl rfl⟩))).sm, (hc.wd t h).sm, (hn _ (hc.en _ (mem_ends.mpr ⟨t, h, .inr rfl⟩))).sm⟩
  vl := hv.l4
  cl := hc.c3
theorem varsOk_rev {vars : List Var} (h : VarsOk vars) : VarsOk vars.reverse where
  nd := by
    rw [List.map_reverse]
    exact List.pairwise_reverse.mpr (h.nd.imp fun q => q.symm)
  nm := fun v hv => h.nm v (List.mem_reverse.mp hv)
  l4 := by rw [List.length_reverse]; exact h.l4
  ne := fun e => h.ne (List.reverse_eq_nil_iff.mp e)
theorem RowsAt.rev {K : PySem.W.Frag} {H : Hp} : ∀ {ps : List Addr} {rs : List (List V)}, RowsAt K H ps rs → RowsAt K H ps.reverse rs.reverse
  | [], [], _ => True.intro
  | p :: ps, r :: rs, h => by
    rw [List.reverse_cons, List.reverse_cons]
    exact (RowsAt.rev h.2).append ⟨h.1, True.intro⟩
  | [], _ :: _, h => h.elim
  | _ :: _, [], h => h.elim
theorem row_rule (nm : Str) (vars : List Var) (cs : List Tri) (g : Tri) (b : Str) :
    Txt.join " " (partsL "rule" nm vars cs) ++ PySem.Str.ofString " > " ++ Txt.join " " [g.1, g.2.1, g.2.2] ++ PySem.Str.ofString " by " ++ b = Txt.join " " (rpL nm vars cs g b) := by
  refine str_ext ?_
  rw [cds_app, cds_app, cds_app, cds_app, cds_gt, cds_by, cds_join]
  show cds (Txt.join " " ("rule" :: (nm :: (vars.map varP) ++ cs.flatMap triP))) ++ _ ++ _ ++ _ ++ _ = cds (Txt.join " " ("rule" :: ((nm :: (vars.map varP) ++ cs.flatMap triP) ++ ([">", g.1, g.2.1, g.2.2, "by", b] : List Str))))
  rw [cds_join, cds_join, Jn_app (nm :: (vars.map varP) ++ cs.flatMap triP) ([">", g.1, g.2.1, g.2.2, "by", b] : List Str)]
  show _ = _ ++ (_ ++ (32 :: cds (PySem.Str.ofString ">") ++ (32 :: cds g.1 ++ (32 :: cds g.2.1 ++ (32 :: cds g.2.2 ++ (32 :: cds (PySem.Str.ofString "by") ++ (32 :: cds b ++ [])))))))
  rw [cds_gt1, cds_by1]
  show _ ++ (cds g.1 ++ (32 :: cds g.2.1 ++ (32 :: cds g.2.2 ++ []))) ++ _ ++ _ = _
  simp
def spLaw (K : PySem.W.Frag) : Sp := fun vs H Q _ => ∃ (a : Addr) (ns : List Int), vs = [.ref a] ∧ SqL K H a (ns.map V.int) ∧ ns.length ≤ 63 ∧ ∀ H', Q (.bl true) H'
structure Tx8 (K : PySem.W.Frag) (mg : Str → Option Value) (B R M fBS fRS fMS : Addr) : Prop where
  str : mg "str" = none
  list : mg "list" = none
  sB : PySem.W.findIn K (.ref B) "__str__" = some (some (.ref fBS))
  sR : PySem.W.findIn K (.ref R) "__str__" = some (some (.ref fRS))
  sM : PySem.W.findIn K (.ref M) "__str__" = some (some (.ref fMS))
  iB : PySem.W.isFn K (.ref fBS) = true
  iR : PySem.W.isFn K (.ref fRS) = true
  iM : PySem.W.isFn K (.ref fMS) = true
section
variable {P : Program} {w : World} {K : PySem.W.Frag} {mg : Str → Option Value} {base : Heap}
theorem scLaw : FnScope ["_law_script", "_law_cell", "_law_s", "_law_name", "_law_variables_here", "_law_names_here", "_law_conditions_here", "_law_turned", "_law_gives", "_law_by", "_law_bar", "_law_rule", "_law_row_here", "_law_down", "_law_up", "_law_making", "_law_parts", "_law_one", "_law_sort"] ["_law_script"] (defScope sLaw) := ⟨rfl, rfl, rfl, by decide +kernel, rfl, by decide +kernel, by decide +kernel⟩
theorem ok_law {f fS fG fL fN fV fC fW fB fR fM fBS fRS fMS C B R M : Addr} {fd dS dG dL dN dV dC dW dB dR dM dBS dRS dMS : FuncData} (F : Fun K "law" "law" sLaw f fd) (T : TxB mg) (T8 : Tx8 K mg B R M fBS fRS fMS) (TB : TxBar K mg B fB) (TR : TxRul K mg R fR) (TM : TxMak K mg M fM)
    (DS : Dn K mg "_law_state" sState ["_law_cell"] fS dS) (DG : Dn K mg "_law_digit" sDigit ["_law_state_here", "_law_base"] fG dG) (DL : Dn K mg "_law_long" sLong ["_law_s"] fL dL) (DN : Dn K mg "_law_names" sNms ["_law_s", "_law_many"] fN dN) (DV : Dn K mg "_law_variables" sVrs ["_law_s"] fV dV)
    (DC : Dn K mg "_law_conditions" sCds ["_law_s", "_law_names_here"] fC dC) (DW : Dn K mg "_law_row" sRow ["_law_kind", "_law_name", "_law_variables_here", "_law_conditions_here"] fW dW)
    (bB : Binds K dB ["self", "name", "variables", "conditions"] []) (bR : Binds K dR ["self", "name", "variables", "conditions", "gives", "by"] []) (bM : Binds K dM ["self", "maker", "made", "down", "up"] []) (bBS : Binds K dBS ["self"] []) (bRS : Binds K dRS ["self"] []) (bMS : Binds K dMS ["self"] [])
    (GL : FnOk P w K mg base CX0 2 fL dL ["_law_s"] spLong) (GN : FnOk P w K mg base CX0 3 fN dN ["_law_s", "_law_many"] spNms) (GV : FnOk P w K mg base CX0 4 fV dV ["_law_s"] (spVrs K)) (GC : FnOk P w K mg base CX0 3 fC dC ["_law_s", "_law_names_here"] (spCds K))
    (GB : FnOk P w K mg base (L2.CX P w) 6 fB dB ["self", "name", "variables", "conditions"] (spBar K C B)) (GR : FnOk P w K mg base (L2.CX P w) 6 fR dR ["self", "name", "variables", "conditions", "gives", "by"] (spRul K C R)) (GM : FnOk P w K mg base (L2.CX P w) 5 fM dM ["self", "maker", "made", "down", "up"] (spMak K C M))
    (GBS : FnOk P w K mg base CX0 3 fBS dBS ["self"] (spBS K B)) (GRS : FnOk P w K mg base CX0 4 fRS dRS ["self"] (spRS K R)) (GMS : FnOk P w K mg base CX0 2 fMS dMS ["self"] (spMS K M)) : FnOk P w K mg base CX0 8 f fd ["_law_script"] (spLaw K) := by
  have GS : FnOk P w K mg base CX0 1 fS dS _ spState := ok_state DS.F T
  have GG : FnOk P w K mg base CX0 1 fG dG _ spDigit := ok_digit DG.F
  have GW : FnOk P w K mg base CX0 1 fW dW _ (spRow K) := ok_row DW.F
  refine F.ok scLaw (fun vs H Q E h => ?_) (fun cdv A outer s H vs Q E hr h => ?_)
  · obtain ⟨a, ns, rfl, _⟩ := h
    rfl
  · obtain ⟨a, ns, rfl, ha, hn, k⟩ := h
    have hr1 : Room 1 _ := hr.mono (by decide)
    have hr2 : Room 2 _ := hr.mono (by decide)
    have hr3 : Room 3 _ := hr.mono (by decide)
    have hr4 : Room 4 _ := hr.mono (by decide)
    have hr5 : Room 5 _ := hr.mono (by decide)
    have hr6 : Room 6 _ := hr.mono (by decide)
    have big : ∀ n : Nat, n ≤ 100000 → n ≤ sizeLine := fun n h => Nat.le_trans h (by decide)
    refine ⟨_, (pss_cons (ps_for PassesOwn.never rfl (pi_list (pe_slice sl_list (pe_op op_catR (pv 0) (pe_lst (pa_cons pe_int pa_nil))) po_none (po_some pe_int))) (pg_name (i := 1) scLaw.nd rfl (Or.inl rfl)) (pss_cons (ps_set (i := 2) scLaw.nd rfl (Or.inl rfl) (pe_call GS hr1 rfl DS.g DS.F.kp DS.b .nil pass0 (pa_cons (pv 1) pa_nil)))
      (pss_cons (ps_set (i := 3) scLaw.nd rfl (Or.inl rfl) (pe_call GL hr2 rfl DL.g DL.F.kp DL.b .nil pass0 (pa_cons (pv 2) pa_nil)))
      (pss_cons (ps_set (i := 4) scLaw.nd rfl (Or.inl rfl) (pe_call GV hr4 rfl DV.g DV.F.kp DV.b .nil pass0 (pa_cons (pv 2) pa_nil)))
      (pss_cons (ps_setLc (i := 5) (own := [("_law_one", 17), ("_law_sort", 18)]) (g := gTup K 2 (gCons (gName 17) (gCons (gName 18) gNil))) rfl scLaw.nd rfl rfl (sw_true rfl rfl rfl (by decide +kernel)) (pi_list (pv 4)) (blkOk_by (N := ["_law_script", "_law_cell", "_law_s", "_law_name", "_law_variables_here", "_law_names_here", "_law_conditions_here", "_law_turned", "_law_gives", "_law_by", "_law_bar", "_law_rule", "_law_row_here", "_law_down", "_law_up", "_law_making", "_law_parts", "_law_one", "_law_sort"]) (sc := defScope sLaw) (by decide +kernel)) (fun _ _ _ _ _ => (pg_tup rfl (pgs_cons (pg_name (i := 17) scLaw.nd rfl (Or.inl rfl)) (pgs_cons (pg_name (i := 18) scLaw.nd rfl (Or.inl rfl)) pgs_nil)))) (fun _ _ _ _ _ => pts_nil) (fun _ _ _ _ _ => (pv 17)))
      (pss_cons (ps_set (i := 6) scLaw.nd rfl (Or.inl rfl) (pe_call GC hr3 rfl DC.g DC.F.kp DC.b .nil pass0 (pa_cons (pv 2) (pa_cons (pv 5) pa_nil))))
      (pss_cons (ps_set (i := 7) scLaw.nd rfl (Or.inl rfl) (pe_cmpR op_eq (pe_call GG hr1 rfl DG.g DG.F.kp DG.b .nil pass0 (pa_cons (pv 2) (pa_cons pe_int pa_nil))) pe_int (nomark _)))
      (pss_cons (ps_if (pt_val (pv 7)) (pss_one (ps_set (i := 4) scLaw.nd rfl (Or.inl rfl) (pe_revL (pv 4)))) pss_nil)
      (pss_cons (ps_set (i := 8) scLaw.nd rfl (Or.inl rfl) (pe_tup (pa_cons (pe_ix ix_list (pv 5) (pe_call GG hr1 rfl DG.g DG.F.kp DG.b .nil pass0 (pa_cons (pv 2) (pa_cons (pe_callB call_len_seq (by rfl) T.len (by decide +kernel) (pa_cons (pv 5) pa_nil)) pa_nil))) (fun _ _ => rfl)) (pa_cons (pe_call GL hr2 rfl DL.g DL.F.kp DL.b .nil pass0 (pa_cons (pv 2) pa_nil)) (pa_cons (pe_ix ix_list (pv 5) (pe_call GG hr1 rfl DG.g DG.F.kp DG.b .nil pass0 (pa_cons (pv 2) (pa_cons (pe_callB call_len_seq (by rfl) T.len (by decide +kernel) (pa_cons (pv 5) pa_nil)) pa_nil))) (fun _ _ => rfl)) pa_nil)))))
      (pss_cons (ps_set (i := 9) scLaw.nd rfl (Or.inl rfl) (pe_ix ix_list (pv 5) (pe_call GG hr1 rfl DG.g DG.F.kp DG.b .nil pass0 (pa_cons (pv 2) (pa_cons (pe_callB call_len_seq (by rfl) T.len (by decide +kernel) (pa_cons (pv 5) pa_nil)) pa_nil))) (fun _ _ => rfl)))
      (pss_cons (ps_set (i := 10) scLaw.nd rfl (Or.inl rfl) (pe_make TB.m GB hr rfl TB.g bB .nil passL (pa_cons (pv 3) (pa_cons (pv 4) (pa_cons (pv 6) pa_nil)))))
      (pss_cons (ps_set (i := 11) scLaw.nd rfl (Or.inl rfl) (pe_make TR.m GR hr rfl TR.g bR .nil passL (pa_cons (pv 3) (pa_cons (pv 4) (pa_cons (pv 6) (pa_cons (pv 8) (pa_cons (pv 9) pa_nil)))))))
      (pss_cons (ps_set (i := 12) scLaw.nd rfl (Or.inl rfl) (pe_op op_add_str (pe_op op_add_str (pe_op op_add_str (pe_op op_add_str (pe_call GW hr1 rfl DW.g DW.F.kp DW.b .nil pass0 (pa_cons pe_str (pa_cons (pv 3) (pa_cons (pv 4) (pa_cons (pv 6) pa_nil))))) pe_str) (pe_join pe_str (pe_callTy call_list_of (by rfl) T8.list (by decide +kernel) (pa_cons (pv 8) pa_nil)))) pe_str) (pv 9)))
      (pss_cons (ps_if (PW.pt (pw_or (pt_cmpR op_ne (pe_callTy (call_strO T8.sB T8.iB GBS hr5 bBS) (by rfl) T8.str (by decide +kernel) (pa_cons (pv 10) pa_nil)) (pe_call GW hr1 rfl DW.g DW.F.kp DW.b .nil pass0 (pa_cons pe_str (pa_cons (pv 3) (pa_cons (pv 4) (pa_cons (pv 6) pa_nil))))) (nomark _)) (pw_or1 (pt_cmpR op_ne (pe_callTy (call_strO T8.sR T8.iR GRS hr6 bRS) (by rfl) T8.str (by decide +kernel) (pa_cons (pv 11) pa_nil)) (pv 12) (nomark _))))) (pss_one (ps_ret pe_bl)) pss_nil)
      (pss_cons (ps_set (i := 13) scLaw.nd rfl (Or.inl rfl) (pe_call GN hr3 rfl DN.g DN.F.kp DN.b .nil pass0 (pa_cons (pv 2) (pa_cons (pe_call GG hr1 rfl DG.g DG.F.kp DG.b .nil pass0 (pa_cons (pv 2) (pa_cons pe_int pa_nil))) pa_nil))))
      (pss_cons (ps_set (i := 14) scLaw.nd rfl (Or.inl rfl) (pe_call GN hr3 rfl DN.g DN.F.kp DN.b .nil pass0 (pa_cons (pv 2) (pa_cons (pe_call GG hr1 rfl DG.g DG.F.kp DG.b .nil pass0 (pa_cons (pv 2) (pa_cons pe_int pa_nil))) pa_nil))))
      (pss_cons (ps_set (i := 15) scLaw.nd rfl (Or.inl rfl) (pe_make TM.m GM hr6 rfl TM.g bM .nil passL (pa_cons (pe_ix ix_list (pv 5) pe_int (fun _ _ => rfl)) (pa_cons (pv 3) (pa_cons (pv 13) (pa_cons (pv 14) pa_nil))))))
      (pss_cons (ps_set (i := 16) scLaw.nd rfl (Or.inl rfl) (pe_op op_cat (pe_op op_cat (pe_op op_cat (pe_lst (pa_cons pe_str (pa_cons (pe_ix ix_list (pv 5) pe_int (fun _ _ => rfl)) (pa_cons (pv 3) (pa_cons pe_str pa_nil))))) (pv 13)) (pe_lst (pa_cons pe_str pa_nil))) (pv 14)))
      (pss_one (ps_if (PW.pt (pw_or (pt_cmpR op_ne (pe_callTy (call_strO T8.sM T8.iM GMS hr4 bMS) (by rfl) T8.str (by decide +kernel) (pa_cons (pv 15) pa_nil)) (pe_join pe_str (pv 16)) (nomark _)) (pw_or (pt_cmpR op_ne (pe_callTy (call_strO T8.sR T8.iR GRS hr6 bRS) (by rfl) T8.str (by decide +kernel) (pa_cons (pv 11) pa_nil)) (pv 12) (nomark _)) (pw_or1 (pt_cmpR op_ne (pe_callTy (call_strO T8.sM T8.iM GMS hr4 bMS) (by rfl) T8.str (by decide +kernel) (pa_cons (pv 15) pa_nil)) (pe_join pe_str (pv 16)) (nomark _)))))) (pss_one (ps_ret pe_bl)) pss_nil))))))))))))))))))))
      (pss_one (ps_ret pe_bl))), ?_⟩
    refine ⟨_, rfl, by show 1 ≤ sizeLine; decide, fun l0 n0 => ?_⟩
    have R0 := Same.upd (o := .lst [.int 0]) n0
    refine ⟨a, l0, _, _, rfl, rfl, R0.seq ha, SqL.of upd_same, ?_, fun l1 n1 => ?_⟩
    · rw [List.length_map]
      exact Nat.le_trans (show ns.length + 1 ≤ 1000 by omega) (by decide)
    refine ⟨_, rfl, l1, _, rfl, SqL.of upd_same, fun l2 n2 => ?_⟩
    generalize hH3 : upd (upd (upd H l0 (.lst [.int 0])) l1 (.lst (ns.map V.int ++ [V.int 0]))) l2 (.lst (cutV (ns.map V.int ++ [V.int 0]) none (some 24))) = H3
    have hl2 : H3 l2 = some (.lst ((ns.map V.int ++ [V.int 0]).take 24)) := by
      rw [← hH3, upd_same]
      have e := cut_take (ns.map V.int ++ [V.int 0]) 24
      exact congrArg (fun l => some (HO.lst l)) e
    refine ⟨l2, rfl, ⟨_, SqL.of hl2⟩, for_list (K := K) (a := l2) (xs := (ns.map V.int ++ [V.int 0]).take 24) (fun i σ H' => (∃ u1 u2 u3 u4 u5 u6 u7 u8 u9 u10 u11 u12 u13 u14 u15 u16, σ = [some (.ref a), u1, u2, u3, u4, u5, u6, u7, u8, u9, u10, u11, u12, u13, u14, u15, u16, none, none]) ∧ Same H3 H')
      ⟨⟨none, none, none, none, none, none, none, none, none, none, none, none, none, none, none, none, rfl⟩, Same.refl _⟩ (fun i σ H' _ q => SqL.of (q.2 _ _ hl2)) ?_ (fun σ H' _ => k H')⟩
    rintro i y σ Ha hi ⟨⟨u1, u2, u3, u4, u5, u6, u7, u8, u9, u10, u11, u12, u13, u14, u15, u16, rfl⟩, hS⟩
    obtain ⟨c, rfl⟩ : ∃ c, y = V.int c := by
      have hm := List.mem_of_mem_take (List.mem_of_getElem? hi)
      rcases List.mem_append.mp hm with h | h
      · obtain ⟨c, _, rfl⟩ := List.mem_map.mp h
        exact ⟨c, rfl⟩
      · exact ⟨0, List.mem_singleton.mp h⟩
    refine ⟨_, rfl, c, rfl, fun p Hb np Sb stb => ?_⟩
    refine ⟨_, rfl, p, rfl, stb, fun nm Hc hnm Bc stc => ?_⟩
    refine ⟨_, rfl, p, rfl, stc, fun vars ps lv Hd hlv nlvp Bd std hlvd rowsd vok => ?_⟩
    have hpl := rowsd.len
    rw [List.length_map] at hpl
    have v4 := vok.l4
    have p3 : H3 p = none := hS.free np
    have Sd : Same H3 Hd := But.same p3 (hS.trans Sb) (Bc.trans Bd)
    -- names_here
    refine ⟨_, rfl, lv, rfl, ⟨_, SqL.of hlvd⟩, fun ln nln => ?_⟩
    have nlnp := st_free std nln
    refine lc_it walk_list (fun i H' => Same Hd H' ∧ H' ln = some (.lst (((vars.take i).map (·.1)).map V.str))) ⟨Same.upd nln, upd_same⟩ (fun i H' _ q => SqL.of (q.1 _ _ hlvd)) ?_ ?_
    · rintro i x H4 H5 hi ⟨hS4, hD4⟩ ⟨rfl, hx⟩
      obtain ⟨pa, hp, rfl⟩ := map_ref_get hx
      obtain ⟨r, hr1', hr'⟩ := rowsd.get hp
      obtain ⟨⟨n, so⟩, ht, rfl⟩ := var_get hr1'
      refine ⟨pa, _, rfl, same_seqT hS4 hr', rfl, _, _, rfl, _, _, rfl, rfl, rfl, ?_⟩
      refine ⟨_, rfl, _, hD4, ?_, ?_, ?_⟩
      · rw [List.length_map, List.length_map, List.length_take]
        exact Nat.lt_of_le_of_lt (show _ ≤ 1000 by omega) (by decide)
      · intro b' o h
        rw [upd_ne (ne_of_none h nln)]
        exact hS4 b' o h
      · rw [upd_same, List.take_add_one, ht, List.map_append, List.map_append]
        rfl
    rintro He ⟨Se, hlne⟩
    rw [List.length_map, List.take_of_length_le (by omega)] at hlne
    have ste := std.same Se
    generalize hnsv : vars.map (·.1) = nv at hlne
    have nvne : nv ≠ [] := by rw [← hnsv]; exact fun e => vok.ne (List.map_eq_nil_iff.mp e)
    have nvl : nv.length = vars.length := by rw [← hnsv, List.length_map]
    have nvnm : ∀ z ∈ nv, Nm z := fun z hz => by
      rw [← hnsv] at hz
      obtain ⟨v, hv, rfl⟩ := List.mem_map.mp hz
      exact (vok.nm v hv).1
    have nvn : 0 < nv.length := List.length_pos_iff.mpr nvne
    refine ⟨_, rfl, _, rfl, p, ln, nv, rfl, ste, nlnp, hlne, nvne, by omega, fun ts qs lc Hf hlc nlcp Bf stf hlcf rowsc cok => ?_⟩
    refine ⟨_, rfl, p, _, rfl, stf, by decide, by decide, fun d6 Hg a6 b6 Bg stg => ?_⟩
    refine ⟨rfl, ?_⟩
    have Beg := Bf.trans Bg
    have lvg := Beg lv _ nlvp (Se _ _ hlvd)
    have lng := Beg ln _ nlnp hlne
    have lcg := Bg lc _ nlcp hlcf
    have rvg := (rowsd.same Se).but Beg ste
    have rcg := rowsc.but Bg stf
    have Sg : Same H3 Hg := But.same p3 (Sd.trans Se) Beg
    have hql := rcg.len
    rw [List.length_map] at hql
    have c3 := cok.c3
    have pickN : ∀ (e : Int) (Hx : Hp) (Qx : VK), 0 ≤ e → e < ((nv.map V.str).length : Int) → Hx ln = some (.lst (nv.map V.str)) → (∀ z, z ∈ nv → Qx (.str z) Hx) → rIxL K (.ref ln) (.int e) Hx Qx := fun e Hx Qx h0 h1 hl q => by
      rw [List.length_map] at h1
      have hj : e.toNat < nv.length := by omega
      refine rdList hl (j := e.toNat) (v := .str nv[e.toNat]) (by omega) ?_ (q _ (List.getElem_mem hj))
      rw [List.getElem?_map, List.getElem?_eq_getElem hj]
      rfl
    refine ⟨_, rfl, _, rfl, ?_⟩
    refine ite2 (fun _ => ?_) (fun _ => ?_)
    · -- turned
      refine ⟨_, rfl, lv, _, rfl, SqL.of lvg, fun lr nlr => ?_⟩
      have Rr := Same.upd (o := .lst (ps.map V.ref).reverse) nlr
      have lvH : (upd Hg lr (.lst (ps.map V.ref).reverse)) lr = some (.lst (ps.reverse.map V.ref)) := by rw [upd_same, List.map_reverse]
      have rvH : RowsAt K (upd Hg lr (.lst (ps.map V.ref).reverse)) ps.reverse (vars.reverse.map varV) := by
        rw [List.map_reverse]
        exact (rvg.same Rr).rev
      have vokH := varsOk_rev vok
      have memH : ∀ z, z ∈ vars.reverse.map (·.1) ↔ z ∈ nv := fun z => by rw [List.map_reverse, List.mem_reverse, hnsv]
      have stH := stg.same Rr
      have nlH : lr ≠ p := st_free stg nlr
      have SH := Sg.trans Rr
      have lnH := Rr _ _ lng
      have lcH := Rr _ _ lcg
      have rcH := rcg.same Rr
      generalize hHH : upd Hg lr (.lst (ps.map V.ref).reverse) = HH at lvH rvH stH SH lnH lcH rcH ⊢
      have smP := smP_of vokH cok nvnm
      have smN : Sm nm := hnm.sm
      dsimp only [List.set_cons_succ, List.set_cons_zero]
      -- gives
      refine ⟨_, rfl, _, rfl, _, rfl, ln, _, rfl, .inl (SqL.of lnH), p, _, rfl, stH, by rw [List.length_map]; omega, by rw [List.length_map]; omega, fun e1 G1 f1 g1 B1 s1 => ?_⟩
      refine pickN e1 G1 _ f1 g1 (B1 ln _ nlnp lnH) fun ga hga => ?_
      refine ⟨_, rfl, p, rfl, s1, fun gw G2 hgw B2 s2 => ?_⟩
      have ln2 := (B1.trans B2) ln _ nlnp lnH
      refine ⟨_, rfl, _, rfl, _, rfl, ln, _, rfl, .inl (SqL.of ln2), p, _, rfl, s2, by rw [List.length_map]; omega, by rw [List.length_map]; omega, fun e3 G3 f3 g3 B3 s3 => ?_⟩
      have ln3 := B3 ln _ nlnp ln2
      refine pickN e3 G3 _ f3 g3 ln3 fun gb hgb => ?_
      refine ⟨by show 3 ≤ sizeLine; decide, fun g ng => ?_⟩
      have ngp := st_free s3 ng
      have Rg := Same.upd (o := .tup [.str ga, .str gw, .str gb]) ng
      dsimp only [List.set_cons_succ, List.set_cons_zero]
      -- by
      refine ⟨_, rfl, _, rfl, _, rfl, ln, _, rfl, .inl (SqL.of (Rg _ _ ln3)), p, _, rfl, s3.same Rg, by rw [List.length_map]; omega, by rw [List.length_map]; omega, fun e5 G5 f5 g5 B5 s5 => ?_⟩
      have ln5 := B5 ln _ nlnp (Rg _ _ ln3)
      refine pickN e5 G5 _ f5 g5 ln5 fun by_ hby => ?_
      have B13 := B1.trans (B2.trans B3)
      have lv5 := B5 _ _ nlH (Rg _ _ (B13 _ _ nlH lvH))
      have lc5 := B5 _ _ nlcp (Rg _ _ (B13 _ _ nlcp lcH))
      have rv5 := ((rvH.but B13 stH).same Rg).but B5 (s3.same Rg)
      have rc5 := ((rcH.but B13 stH).same Rg).but B5 (s3.same Rg)
      have g5' := B5 g _ ngp (upd_same (H := G3) (a := g) (o := .tup [.str ga, .str gw, .str gb]))
      have S5 : Same H3 G5 := But.same p3 ((But.same p3 SH B13).trans Rg) B5
      dsimp only [List.set_cons_succ, List.set_cons_zero]
      -- bar
      refine ⟨_, rfl, _, rfl, _, rfl, ?_⟩
      intro xb dxb nxb ndxb nexb
      refine ⟨_, xb, dxb, lr, lc, nm, ps.reverse, qs, vars.reverse, ts, rfl, same_make nxb ndxb, nxb, upd_same, SqL.of lv5, rv5, SqL.of lc5, rc5, patOk_of vokH cok memH (by decide) (by decide) (fun z hz => (List.not_mem_nil hz).elim) (fun z hz => (List.not_mem_nil hz).elim), ?_, ?_⟩
      · exact fun z hz => Nat.le_trans (texts_nm hnm vokH cok.wd z hz).2 (by decide)
      refine dueM_all (fun z hz => (texts_nm hnm vokH cok.wd z hz).1) fun G6 T6 tb1 tb2 xb6 tb16 tb26 => ⟨rfl, ?_⟩
      dsimp only [List.set_cons_succ, List.set_cons_zero]
      -- rule
      refine ⟨_, rfl, _, rfl, _, rfl, _, rfl, _, rfl, ?_⟩
      intro xr dxr nxr ndxr nexr
      have wdg : ∀ t ∈ ts ++ [((ga, gw, gb) : Tri)], Nm t.2.1 := fun t ht => by
        rcases List.mem_append.mp ht with ht | ht
        · exact cok.wd t ht
        · rw [List.mem_singleton.mp ht]
          exact hgw
      refine ⟨_, xr, dxr, lr, lc, g, nm, by_, ps.reverse, qs, vars.reverse, ts, (ga, gw, gb), rfl, same_make nxr ndxr, nxr, upd_same, SqL.of (T6 _ _ lv5), rv5.same T6, SqL.of (T6 _ _ lc5), rc5.same T6, T6 _ _ g5', patOk_of vokH cok memH (by show 1 ≤ 1; decide) (by show 1 ≤ 1; decide) ?_ ?_, ?_, ?_⟩
      · intro z hz
        have hz' : z ∈ [ga, gb] := hz
        simp at hz'
        rcases hz' with rfl | rfl <;> assumption
      · intro z hz
        rw [List.mem_singleton.mp hz]
        exact hby
      · exact fun z hz => Nat.le_trans (texts_nm hnm vokH wdg z hz).2 (by decide)
      refine dueM_all (fun z hz => (texts_nm hnm vokH wdg z hz).1) fun G7 T7 tr1 tr2 xr7 tr17 tr27 => ⟨rfl, ?_⟩
      have T57 := T6.trans T7
      have lv7 := T57 _ _ lv5
      have lc7 := T57 _ _ lc5
      have rv7 := rv5.same T57
      have rc7 := rc5.same T57
      have g7 := T57 _ _ g5'
      have smRule : Sm (PySem.Str.ofString "rule") := by show _ ≤ 100; decide +kernel
      have smBar : Sm (PySem.Str.ofString "bar") := by show _ ≤ 100; decide +kernel
      have la : ga.length ≤ 12 := (nvnm ga hga).2
      have lw : gw.length ≤ 12 := hgw.2
      have lb : gb.length ≤ 12 := (nvnm gb hgb).2
      have lby : by_.length ≤ 12 := (nvnm by_ hby).2
      have lrow : (Txt.join " " (partsL "rule" nm vars.reverse ts)).length ≤ 10000 := by
        have q := join_len " " (partsL "rule" nm vars.reverse ts)
        have ⟨q1, q2⟩ := parts_small (kind := "rule") smRule smN smP
        have q3 := sum_le q1
        have e : (PySem.Str.ofString " ").length = 1 := by decide +kernel
        have q4 : (partsL "rule" nm vars.reverse ts).length * 300 ≤ 20 * 300 := Nat.mul_le_mul_right 300 q2
        rw [e] at q
        omega
      have e1g : (PySem.Str.ofString " > ").length = 3 := by decide +kernel
      have e1b : (PySem.Str.ofString " by ").length = 4 := by decide +kernel
      have e1s : (PySem.Str.ofString " ").length = 1 := by decide +kernel
      have ljo : (Txt.join " " [ga, gw, gb]).length ≤ 100 := by
        have q := join_len " " [ga, gw, gb]
        have e2 : ([ga, gw, gb].map (·.length)).sum = ga.length + (gw.length + (gb.length + 0)) := rfl
        have e3 : [ga, gw, gb].length = 3 := rfl
        rw [e1s, e2, e3] at q
        omega
      dsimp only [List.set_cons_succ, List.set_cons_zero]
      -- row_here
      refine ⟨_, rfl, _, rfl, _, rfl, _, nm, lr, lc, ps.reverse, qs, vars.reverse, ts, rfl, SqL.of lv7, rv7, SqL.of lc7, rc7, smP, smRule, smN, ?_⟩
      refine ⟨_, _, rfl, rfl, big _ (by rw [e1g]; omega), ⟨_, rfl⟩, _, rfl, g, _, rfl, .inr (SqT.of g7), fun lg nlg => ?_⟩
      refine ⟨_, lg, [ga, gw, gb], rfl, rfl, .inl (SqL.of upd_same), ?_, ?_⟩
      · have e2 : ([ga, gw, gb].map (·.length)).sum = ga.length + (gw.length + (gb.length + 0)) := rfl
        have e3 : [ga, gw, gb].length = 3 := rfl
        rw [e1s, e2, e3]
        omega
      refine ⟨_, _, rfl, rfl, big _ (by rw [len_app, e1g]; omega), _, _, rfl, rfl, big _ (by rw [len_app, len_app, e1g, e1b]; omega), _, rfl, _, _, rfl, rfl, big _ (by rw [len_app, len_app, len_app, e1g, e1b]; omega), ?_⟩
      have Rl := Same.upd (o := .lst [.str ga, .str gw, .str gb]) nlg
      have erow := row_rule nm vars.reverse ts (ga, gw, gb) by_
      generalize hrow : Txt.join " " (partsL "rule" nm vars.reverse ts) ++ PySem.Str.ofString " > " ++ Txt.join " " [ga, gw, gb] ++ PySem.Str.ofString " by " ++ by_ = rowt at erow
      have erow' : rowt = Txt.join " " (rpL nm vars.reverse ts (ga, gw, gb) by_) := erow
      have xb8 := (T7.trans Rl) _ _ xb6
      have xr8 := Rl _ _ xr7
      have T78 := T57.trans Rl
      dsimp only [List.set_cons_succ, List.set_cons_zero]
      -- str(bar) != row('bar', ..) or str(rule) != row_here
      refine ⟨_, rfl, xb, dxb, _, rfl, xb8, nm, xb, dxb, tb1, tb2, ps.reverse, qs, vars.reverse, ts, rfl, xb8, SqT.of ((T7.trans Rl) _ _ tb16), rv5.same T78, SqT.of ((T7.trans Rl) _ _ tb26), rc5.same T78, smP, smN, fun G9 T9 => ⟨_, rfl, ?_⟩⟩
      refine ⟨_, rfl, _, rfl, _, rfl, _, nm, lr, lc, ps.reverse, qs, vars.reverse, ts, rfl, SqL.of (T9 _ _ (Rl _ _ lv7)), (rv7.same Rl).same T9, SqL.of (T9 _ _ (Rl _ _ lc7)), (rc7.same Rl).same T9, smP, smBar, smN, ?_⟩
      refine ⟨rfl, _, rfl, iteNS rfl ?_⟩
      refine ⟨_, rfl, xr, dxr, _, rfl, T9 _ _ xr8, nm, by_, xr, dxr, tr1, tr2, g, ps.reverse, qs, vars.reverse, ts, (ga, gw, gb), rfl, T9 _ _ xr8, SqT.of (T9 _ _ (Rl _ _ tr17)), (rv7.same Rl).same T9, SqT.of (T9 _ _ (Rl _ _ tr27)), (rc7.same Rl).same T9, SqT.of (T9 _ _ (Rl _ _ g7)), smP, smN, (nvnm by_ hby).sm, ⟨(nvnm ga hga).sm, hgw.sm, (nvnm gb hgb).sm⟩, fun G10 T10 => ⟨_, rfl, _, rfl, rfl, _, rfl, iteNS (congrArg V.str erow'.symm) ?_⟩⟩
      have T810 := Rl.trans (T9.trans T10)
      have st10 := s5.same (T57.trans T810)
      dsimp only [List.set_cons_succ, List.set_cons_zero]
      -- down, up
      refine ⟨_, rfl, _, rfl, p, _, rfl, st10, by decide, by decide, fun e11 G11 f11 g11 B11 s11 => ?_⟩
      refine ⟨p, _, rfl, s11, f11, by omega, fun zs1 ld G12 nld nldp B12 s12 hld nd1 nm1 len1 _ => ?_⟩
      dsimp only [List.set_cons_succ, List.set_cons_zero]
      refine ⟨_, rfl, _, rfl, p, _, rfl, s12, by decide, by decide, fun e13 G13 f13 g13 B13' s13 => ?_⟩
      refine ⟨p, _, rfl, s13, f13, by omega, fun zs2 lu G14 nlu nlup B14 s14 hlu nd2 nm2 len2 _ => ?_⟩
      have B1014 := (B11.trans B12).trans (B13'.trans B14)
      have ln14 := B1014 ln _ nlnp ((T57.trans T810) _ _ ln5)
      have ld14 := (B13'.trans B14) ld _ nldp hld
      have S14 : Same H3 G14 := But.same p3 (S5.trans (T57.trans T810)) B1014
      dsimp only [List.set_cons_succ, List.set_cons_zero]
      -- making
      have hj0 : (nv.map V.str)[0]? = some (.str nv[0]) := by
        rw [List.getElem?_map, List.getElem?_eq_getElem nvn]
        rfl
      have hm0 : Nm nv[0] := nvnm _ (List.getElem_mem nvn)
      refine ⟨_, rfl, ?_⟩
      dsimp only [tC]
      refine rdList ln14 (j := 0) rfl hj0 ?_
      refine ⟨_, rfl, _, rfl, _, rfl, ?_⟩
      intro xm dxm nxm ndxm nexm
      have allm : ∀ z ∈ nv[0] :: nm :: (zs1 ++ zs2), Nm z := fun z hz => by
        rcases List.mem_cons.mp hz with rfl | hz
        · exact hm0
        rcases List.mem_cons.mp hz with rfl | hz
        · exact hnm
        rcases List.mem_append.mp hz with hz | hz
        · exact nm1 z hz
        · exact nm2 z hz
      refine ⟨_, xm, dxm, ld, lu, nv[0], nm, zs1, zs2, rfl, same_make nxm ndxm, nxm, upd_same, SqL.of ld14, SqL.of hlu, by omega, by omega, notw_nd nd1, notw_nd nd2, fun z hz => Nat.le_trans (allm z hz).2 (by decide), ?_⟩
      refine dueM_all (fun z hz => (allm z hz).1) fun G15 T15 tm1 tm2 xm15 tm115 tm215 => ⟨rfl, ?_⟩
      dsimp only [List.set_cons_succ, List.set_cons_zero]
      -- parts
      have ln15 := T15 _ _ ln14
      have ld15 := T15 _ _ ld14
      have lu15 := T15 _ _ hlu
      refine ⟨_, rfl, ?_⟩
      dsimp only [tC]
      refine rdList ln15 (j := 0) rfl hj0 ?_
      refine ⟨_, rfl, by show 4 ≤ sizeLine; decide, fun m1 nm1' => ?_⟩
      have Q1 := Same.upd (o := .lst [.str (PySem.Str.ofString "making"), .str nv[0], .str nm, .str (PySem.Str.ofString ">")]) nm1'
      refine ⟨_, rfl, m1, ld, _, _, rfl, rfl, upd_same, Q1 _ _ ld15, ?_, fun m2 nm2' => ?_⟩
      · rw [List.length_map]
        exact big _ (show 4 + zs1.length ≤ 100000 by omega)
      have Q2 := Same.upd (o := .lst ([.str (PySem.Str.ofString "making"), .str nv[0], .str nm, .str (PySem.Str.ofString ">")] ++ zs1.map V.str)) nm2'
      refine ⟨by show 1 ≤ sizeLine; decide, fun m3 nm3' => ?_⟩
      have Q3 := Same.upd (o := .lst [.str (PySem.Str.ofString "<")]) nm3'
      refine ⟨m2, m3, _, _, rfl, rfl, Q3 _ _ upd_same, upd_same, ?_, fun m4 nm4' => ?_⟩
      · rw [List.length_append, List.length_map]
        exact big _ (show 4 + zs1.length + 1 ≤ 100000 by omega)
      have Q4 := Same.upd (o := .lst ([.str (PySem.Str.ofString "making"), .str nv[0], .str nm, .str (PySem.Str.ofString ">")] ++ zs1.map V.str ++ [.str (PySem.Str.ofString "<")])) nm4'
      refine ⟨_, rfl, m4, lu, _, _, rfl, rfl, upd_same, (Q1.trans (Q2.trans (Q3.trans Q4))) _ _ lu15, ?_, fun m5 nm5' => ?_⟩
      · rw [List.length_append, List.length_append, List.length_map, List.length_map]
        exact big _ (show 4 + zs1.length + 1 + zs2.length ≤ 100000 by omega)
      have Q5 := Same.upd (o := .lst ([.str (PySem.Str.ofString "making"), .str nv[0], .str nm, .str (PySem.Str.ofString ">")] ++ zs1.map V.str ++ [.str (PySem.Str.ofString "<")] ++ zs2.map V.str)) nm5'
      have Q15 := Q1.trans (Q2.trans (Q3.trans (Q4.trans Q5)))
      have epl : [.str (PySem.Str.ofString "making"), .str nv[0], .str nm, .str (PySem.Str.ofString ">")] ++ zs1.map V.str ++ [.str (PySem.Str.ofString "<")] ++ zs2.map V.str = (mpL nv[0] nm zs1 zs2).map V.str := by
        unfold mpL
        rw [List.map_append, List.map_append, List.map_append]
        simp
      have epl' : (some (HO.lst ([.str (PySem.Str.ofString "making"), .str nv[0], .str nm, .str (PySem.Str.ofString ">")] ++ zs1.map V.str ++ [.str (PySem.Str.ofString "<")] ++ zs2.map V.str)) : Option HO) = some (.lst ((mpL nv[0] nm zs1 zs2).map V.str)) := congrArg (fun l => some (HO.lst l)) epl
      have smM : ∀ z ∈ nv[0] :: nm :: (zs1 ++ zs2), Sm z := fun z hz => (allm z hz).sm
      have jok : ((mpL nv[0] nm zs1 zs2).map (·.length)).sum + (mpL nv[0] nm zs1 zs2).length * (PySem.Str.ofString " ").length ≤ 16777216 := by
        refine join_ok ?_ ?_
        · intro z hz
          have d1 : (PySem.Str.ofString ">").length ≤ 100 := by decide +kernel
          have d2 : (PySem.Str.ofString "<").length ≤ 100 := by decide +kernel
          have d3 : (PySem.Str.ofString "making").length ≤ 100 := by decide +kernel
          have h0 : ∀ z ∈ nv[0] :: nm :: (zs1 ++ zs2), z.length ≤ 100 := smM
          unfold mpL at hz
          simp at hz
          rcases hz with rfl | rfl | rfl | rfl | hz | rfl | hz
          · omega
          · have := h0 nv[0] (by simp); omega
          · have := h0 z (by simp); omega
          · omega
          · have := h0 z (by simp [hz]); omega
          · omega
          · have := h0 z (by simp [hz]); omega
        · unfold mpL
          rw [List.length_append, List.length_append, List.length_append]
          show 4 + (_ + (1 + _)) ≤ 100
          omega
      have mk16 := Q15 _ _ xm15
      dsimp only [List.set_cons_succ, List.set_cons_zero]
      refine ⟨_, rfl, xm, dxm, _, rfl, mk16, nv[0], nm, xm, dxm, tm1, tm2, zs1, zs2, rfl, mk16, SqT.of (Q15 _ _ tm115), SqT.of (Q15 _ _ tm215), by omega, by omega, smM, fun G17 T17 => ⟨_, rfl, ⟨_, rfl⟩, _, rfl, _, m5, mpL nv[0] nm zs1 zs2, rfl, rfl, .inl (SqL.of (T17 m5 _ (Eq.trans upd_same epl'))), jok, rfl, _, rfl, iteNS rfl ?_⟩⟩
      have xr17 := (T15.trans (Q15.trans T17))
      have nxrp : xr ≠ p := st_ne (s5.same T57) xr7 (fun _ z => by cases z)
      have ngp7 := g7
      have ntr1 : tr1 ≠ p := st_ne (s5.same T57) tr17 (fun _ z => by cases z)
      have ntr2 : tr2 ≠ p := st_ne (s5.same T57) tr27 (fun _ z => by cases z)
      have xrF := xr17 _ _ (B1014 xr _ nxrp (T810 _ _ xr7))
      have rowsF1 := ((rv7.same T810).but B1014 st10).same xr17
      have rowsF2 := ((rc7.same T810).but B1014 st10).same xr17
      refine ⟨_, rfl, xr, dxr, _, rfl, xrF, nm, by_, xr, dxr, tr1, tr2, g, ps.reverse, qs, vars.reverse, ts, (ga, gw, gb), rfl, xrF, SqT.of (xr17 _ _ (B1014 tr1 _ ntr1 (T810 _ _ tr17))), rowsF1, SqT.of (xr17 _ _ (B1014 tr2 _ ntr2 (T810 _ _ tr27))), rowsF2, SqT.of (xr17 _ _ (B1014 g _ ngp (T810 _ _ g7))), smP, smN, (nvnm by_ hby).sm, ⟨(nvnm ga hga).sm, hgw.sm, (nvnm gb hgb).sm⟩, fun G18 T18 => ⟨_, rfl, _, rfl, rfl, _, rfl, iteNS (congrArg V.str erow'.symm) ?_⟩⟩
      refine ⟨_, rfl, xm, dxm, _, rfl, (T17.trans T18) _ _ mk16, nv[0], nm, xm, dxm, tm1, tm2, zs1, zs2, rfl, (T17.trans T18) _ _ mk16, SqT.of ((T17.trans T18) _ _ (Q15 _ _ tm115)), SqT.of ((T17.trans T18) _ _ (Q15 _ _ tm215)), by omega, by omega, smM, fun G19 T19 => ⟨_, rfl, ⟨_, rfl⟩, _, rfl, _, m5, mpL nv[0] nm zs1 zs2, rfl, rfl, .inl (SqL.of ((T17.trans (T18.trans T19)) m5 _ (Eq.trans upd_same epl'))), jok, rfl, _, rfl, iteNS rfl ?_⟩⟩
      exact ⟨⟨_, _, _, _, _, _, _, _, _, _, _, _, _, _, _, _, rfl⟩, S14.trans (T15.trans (Q15.trans (T17.trans (T18.trans T19))))⟩
    · -- as they are
      have memH : ∀ z, z ∈ vars.map (·.1) ↔ z ∈ nv := fun z => by rw [hnsv]
      have smP := smP_of vok cok nvnm
      have smN : Sm nm := hnm.sm
      dsimp only [List.set_cons_succ, List.set_cons_zero]
      -- gives
      refine ⟨_, rfl, _, rfl, _, rfl, ln, _, rfl, .inl (SqL.of lng), p, _, rfl, stg, by rw [List.length_map]; omega, by rw [List.length_map]; omega, fun e1 G1 f1 g1 B1 s1 => ?_⟩
      refine pickN e1 G1 _ f1 g1 (B1 ln _ nlnp lng) fun ga hga => ?_
      refine ⟨_, rfl, p, rfl, s1, fun gw G2 hgw B2 s2 => ?_⟩
      have ln2 := (B1.trans B2) ln _ nlnp lng
      refine ⟨_, rfl, _, rfl, _, rfl, ln, _, rfl, .inl (SqL.of ln2), p, _, rfl, s2, by rw [List.length_map]; omega, by rw [List.length_map]; omega, fun e3 G3 f3 g3 B3 s3 => ?_⟩
      have ln3 := B3 ln _ nlnp ln2
      refine pickN e3 G3 _ f3 g3 ln3 fun gb hgb => ?_
      refine ⟨by show 3 ≤ sizeLine; decide, fun g ng => ?_⟩
      have ngp := st_free s3 ng
      have Rg := Same.upd (o := .tup [.str ga, .str gw, .str gb]) ng
      dsimp only [List.set_cons_succ, List.set_cons_zero]
      -- by
      refine ⟨_, rfl, _, rfl, _, rfl, ln, _, rfl, .inl (SqL.of (Rg _ _ ln3)), p, _, rfl, s3.same Rg, by rw [List.length_map]; omega, by rw [List.length_map]; omega, fun e5 G5 f5 g5 B5 s5 => ?_⟩
      have ln5 := B5 ln _ nlnp (Rg _ _ ln3)
      refine pickN e5 G5 _ f5 g5 ln5 fun by_ hby => ?_
      have B13 := B1.trans (B2.trans B3)
      have lv5 := B5 _ _ nlvp (Rg _ _ (B13 _ _ nlvp lvg))
      have lc5 := B5 _ _ nlcp (Rg _ _ (B13 _ _ nlcp lcg))
      have rv5 := ((rvg.but B13 stg).same Rg).but B5 (s3.same Rg)
      have rc5 := ((rcg.but B13 stg).same Rg).but B5 (s3.same Rg)
      have g5' := B5 g _ ngp (upd_same (H := G3) (a := g) (o := .tup [.str ga, .str gw, .str gb]))
      have S5 : Same H3 G5 := But.same p3 ((But.same p3 Sg B13).trans Rg) B5
      dsimp only [List.set_cons_succ, List.set_cons_zero]
      -- bar
      refine ⟨_, rfl, _, rfl, _, rfl, ?_⟩
      intro xb dxb nxb ndxb nexb
      refine ⟨_, xb, dxb, lv, lc, nm, ps, qs, vars, ts, rfl, same_make nxb ndxb, nxb, upd_same, SqL.of lv5, rv5, SqL.of lc5, rc5, patOk_of vok cok memH (by decide) (by decide) (fun z hz => (List.not_mem_nil hz).elim) (fun z hz => (List.not_mem_nil hz).elim), ?_, ?_⟩
      · exact fun z hz => Nat.le_trans (texts_nm hnm vok cok.wd z hz).2 (by decide)
      refine dueM_all (fun z hz => (texts_nm hnm vok cok.wd z hz).1) fun G6 T6 tb1 tb2 xb6 tb16 tb26 => ⟨rfl, ?_⟩
      dsimp only [List.set_cons_succ, List.set_cons_zero]
      -- rule
      refine ⟨_, rfl, _, rfl, _, rfl, _, rfl, _, rfl, ?_⟩
      intro xr dxr nxr ndxr nexr
      have wdg : ∀ t ∈ ts ++ [((ga, gw, gb) : Tri)], Nm t.2.1 := fun t ht => by
        rcases List.mem_append.mp ht with ht | ht
        · exact cok.wd t ht
        · rw [List.mem_singleton.mp ht]
          exact hgw
      refine ⟨_, xr, dxr, lv, lc, g, nm, by_, ps, qs, vars, ts, (ga, gw, gb), rfl, same_make nxr ndxr, nxr, upd_same, SqL.of (T6 _ _ lv5), rv5.same T6, SqL.of (T6 _ _ lc5), rc5.same T6, T6 _ _ g5', patOk_of vok cok memH (by show 1 ≤ 1; decide) (by show 1 ≤ 1; decide) ?_ ?_, ?_, ?_⟩
      · intro z hz
        have hz' : z ∈ [ga, gb] := hz
        simp at hz'
        rcases hz' with rfl | rfl <;> assumption
      · intro z hz
        rw [List.mem_singleton.mp hz]
        exact hby
      · exact fun z hz => Nat.le_trans (texts_nm hnm vok wdg z hz).2 (by decide)
      refine dueM_all (fun z hz => (texts_nm hnm vok wdg z hz).1) fun G7 T7 tr1 tr2 xr7 tr17 tr27 => ⟨rfl, ?_⟩
      have T57 := T6.trans T7
      have lv7 := T57 _ _ lv5
      have lc7 := T57 _ _ lc5
      have rv7 := rv5.same T57
      have rc7 := rc5.same T57
      have g7 := T57 _ _ g5'
      have smRule : Sm (PySem.Str.ofString "rule") := by show _ ≤ 100; decide +kernel
      have smBar : Sm (PySem.Str.ofString "bar") := by show _ ≤ 100; decide +kernel
      have la : ga.length ≤ 12 := (nvnm ga hga).2
      have lw : gw.length ≤ 12 := hgw.2
      have lb : gb.length ≤ 12 := (nvnm gb hgb).2
      have lby : by_.length ≤ 12 := (nvnm by_ hby).2
      have lrow : (Txt.join " " (partsL "rule" nm vars ts)).length ≤ 10000 := by
        have q := join_len " " (partsL "rule" nm vars ts)
        have ⟨q1, q2⟩ := parts_small (kind := "rule") smRule smN smP
        have q3 := sum_le q1
        have e : (PySem.Str.ofString " ").length = 1 := by decide +kernel
        have q4 : (partsL "rule" nm vars ts).length * 300 ≤ 20 * 300 := Nat.mul_le_mul_right 300 q2
        rw [e] at q
        omega
      have e1g : (PySem.Str.ofString " > ").length = 3 := by decide +kernel
      have e1b : (PySem.Str.ofString " by ").length = 4 := by decide +kernel
      have e1s : (PySem.Str.ofString " ").length = 1 := by decide +kernel
      have ljo : (Txt.join " " [ga, gw, gb]).length ≤ 100 := by
        have q := join_len " " [ga, gw, gb]
        have e2 : ([ga, gw, gb].map (·.length)).sum = ga.length + (gw.length + (gb.length + 0)) := rfl
        have e3 : [ga, gw, gb].length = 3 := rfl
        rw [e1s, e2, e3] at q
        omega
      dsimp only [List.set_cons_succ, List.set_cons_zero]
      -- row_here
      refine ⟨_, rfl, _, rfl, _, rfl, _, nm, lv, lc, ps, qs, vars, ts, rfl, SqL.of lv7, rv7, SqL.of lc7, rc7, smP, smRule, smN, ?_⟩
      refine ⟨_, _, rfl, rfl, big _ (by rw [e1g]; omega), ⟨_, rfl⟩, _, rfl, g, _, rfl, .inr (SqT.of g7), fun lg nlg => ?_⟩
      refine ⟨_, lg, [ga, gw, gb], rfl, rfl, .inl (SqL.of upd_same), ?_, ?_⟩
      · have e2 : ([ga, gw, gb].map (·.length)).sum = ga.length + (gw.length + (gb.length + 0)) := rfl
        have e3 : [ga, gw, gb].length = 3 := rfl
        rw [e1s, e2, e3]
        omega
      refine ⟨_, _, rfl, rfl, big _ (by rw [len_app, e1g]; omega), _, _, rfl, rfl, big _ (by rw [len_app, len_app, e1g, e1b]; omega), _, rfl, _, _, rfl, rfl, big _ (by rw [len_app, len_app, len_app, e1g, e1b]; omega), ?_⟩
      have Rl := Same.upd (o := .lst [.str ga, .str gw, .str gb]) nlg
      have erow := row_rule nm vars ts (ga, gw, gb) by_
      generalize hrow : Txt.join " " (partsL "rule" nm vars ts) ++ PySem.Str.ofString " > " ++ Txt.join " " [ga, gw, gb] ++ PySem.Str.ofString " by " ++ by_ = rowt at erow
      have erow' : rowt = Txt.join " " (rpL nm vars ts (ga, gw, gb) by_) := erow
      have xb8 := (T7.trans Rl) _ _ xb6
      have xr8 := Rl _ _ xr7
      have T78 := T57.trans Rl
      dsimp only [List.set_cons_succ, List.set_cons_zero]
      -- str(bar) != row('bar', ..) or str(rule) != row_here
      refine ⟨_, rfl, xb, dxb, _, rfl, xb8, nm, xb, dxb, tb1, tb2, ps, qs, vars, ts, rfl, xb8, SqT.of ((T7.trans Rl) _ _ tb16), rv5.same T78, SqT.of ((T7.trans Rl) _ _ tb26), rc5.same T78, smP, smN, fun G9 T9 => ⟨_, rfl, ?_⟩⟩
      refine ⟨_, rfl, _, rfl, _, rfl, _, nm, lv, lc, ps, qs, vars, ts, rfl, SqL.of (T9 _ _ (Rl _ _ lv7)), (rv7.same Rl).same T9, SqL.of (T9 _ _ (Rl _ _ lc7)), (rc7.same Rl).same T9, smP, smBar, smN, ?_⟩
      refine ⟨rfl, _, rfl, iteNS rfl ?_⟩
      refine ⟨_, rfl, xr, dxr, _, rfl, T9 _ _ xr8, nm, by_, xr, dxr, tr1, tr2, g, ps, qs, vars, ts, (ga, gw, gb), rfl, T9 _ _ xr8, SqT.of (T9 _ _ (Rl _ _ tr17)), (rv7.same Rl).same T9, SqT.of (T9 _ _ (Rl _ _ tr27)), (rc7.same Rl).same T9, SqT.of (T9 _ _ (Rl _ _ g7)), smP, smN, (nvnm by_ hby).sm, ⟨(nvnm ga hga).sm, hgw.sm, (nvnm gb hgb).sm⟩, fun G10 T10 => ⟨_, rfl, _, rfl, rfl, _, rfl, iteNS (congrArg V.str erow'.symm) ?_⟩⟩
      have T810 := Rl.trans (T9.trans T10)
      have st10 := s5.same (T57.trans T810)
      dsimp only [List.set_cons_succ, List.set_cons_zero]
      -- down, up
      refine ⟨_, rfl, _, rfl, p, _, rfl, st10, by decide, by decide, fun e11 G11 f11 g11 B11 s11 => ?_⟩
      refine ⟨p, _, rfl, s11, f11, by omega, fun zs1 ld G12 nld nldp B12 s12 hld nd1 nm1 len1 _ => ?_⟩
      dsimp only [List.set_cons_succ, List.set_cons_zero]
      refine ⟨_, rfl, _, rfl, p, _, rfl, s12, by decide, by decide, fun e13 G13 f13 g13 B13' s13 => ?_⟩
      refine ⟨p, _, rfl, s13, f13, by omega, fun zs2 lu G14 nlu nlup B14 s14 hlu nd2 nm2 len2 _ => ?_⟩
      have B1014 := (B11.trans B12).trans (B13'.trans B14)
      have ln14 := B1014 ln _ nlnp ((T57.trans T810) _ _ ln5)
      have ld14 := (B13'.trans B14) ld _ nldp hld
      have S14 : Same H3 G14 := But.same p3 (S5.trans (T57.trans T810)) B1014
      dsimp only [List.set_cons_succ, List.set_cons_zero]
      -- making
      have hj0 : (nv.map V.str)[0]? = some (.str nv[0]) := by
        rw [List.getElem?_map, List.getElem?_eq_getElem nvn]
        rfl
      have hm0 : Nm nv[0] := nvnm _ (List.getElem_mem nvn)
      refine ⟨_, rfl, ?_⟩
      dsimp only [tC]
      refine rdList ln14 (j := 0) rfl hj0 ?_
      refine ⟨_, rfl, _, rfl, _, rfl, ?_⟩
      intro xm dxm nxm ndxm nexm
      have allm : ∀ z ∈ nv[0] :: nm :: (zs1 ++ zs2), Nm z := fun z hz => by
        rcases List.mem_cons.mp hz with rfl | hz
        · exact hm0
        rcases List.mem_cons.mp hz with rfl | hz
        · exact hnm
        rcases List.mem_append.mp hz with hz | hz
        · exact nm1 z hz
        · exact nm2 z hz
      refine ⟨_, xm, dxm, ld, lu, nv[0], nm, zs1, zs2, rfl, same_make nxm ndxm, nxm, upd_same, SqL.of ld14, SqL.of hlu, by omega, by omega, notw_nd nd1, notw_nd nd2, fun z hz => Nat.le_trans (allm z hz).2 (by decide), ?_⟩
      refine dueM_all (fun z hz => (allm z hz).1) fun G15 T15 tm1 tm2 xm15 tm115 tm215 => ⟨rfl, ?_⟩
      dsimp only [List.set_cons_succ, List.set_cons_zero]
      -- parts
      have ln15 := T15 _ _ ln14
      have ld15 := T15 _ _ ld14
      have lu15 := T15 _ _ hlu
      refine ⟨_, rfl, ?_⟩
      dsimp only [tC]
      refine rdList ln15 (j := 0) rfl hj0 ?_
      refine ⟨_, rfl, by show 4 ≤ sizeLine; decide, fun m1 nm1' => ?_⟩
      have Q1 := Same.upd (o := .lst [.str (PySem.Str.ofString "making"), .str nv[0], .str nm, .str (PySem.Str.ofString ">")]) nm1'
      refine ⟨_, rfl, m1, ld, _, _, rfl, rfl, upd_same, Q1 _ _ ld15, ?_, fun m2 nm2' => ?_⟩
      · rw [List.length_map]
        exact big _ (show 4 + zs1.length ≤ 100000 by omega)
      have Q2 := Same.upd (o := .lst ([.str (PySem.Str.ofString "making"), .str nv[0], .str nm, .str (PySem.Str.ofString ">")] ++ zs1.map V.str)) nm2'
      refine ⟨by show 1 ≤ sizeLine; decide, fun m3 nm3' => ?_⟩
      have Q3 := Same.upd (o := .lst [.str (PySem.Str.ofString "<")]) nm3'
      refine ⟨m2, m3, _, _, rfl, rfl, Q3 _ _ upd_same, upd_same, ?_, fun m4 nm4' => ?_⟩
      · rw [List.length_append, List.length_map]
        exact big _ (show 4 + zs1.length + 1 ≤ 100000 by omega)
      have Q4 := Same.upd (o := .lst ([.str (PySem.Str.ofString "making"), .str nv[0], .str nm, .str (PySem.Str.ofString ">")] ++ zs1.map V.str ++ [.str (PySem.Str.ofString "<")])) nm4'
      refine ⟨_, rfl, m4, lu, _, _, rfl, rfl, upd_same, (Q1.trans (Q2.trans (Q3.trans Q4))) _ _ lu15, ?_, fun m5 nm5' => ?_⟩
      · rw [List.length_append, List.length_append, List.length_map, List.length_map]
        exact big _ (show 4 + zs1.length + 1 + zs2.length ≤ 100000 by omega)
      have Q5 := Same.upd (o := .lst ([.str (PySem.Str.ofString "making"), .str nv[0], .str nm, .str (PySem.Str.ofString ">")] ++ zs1.map V.str ++ [.str (PySem.Str.ofString "<")] ++ zs2.map V.str)) nm5'
      have Q15 := Q1.trans (Q2.trans (Q3.trans (Q4.trans Q5)))
      have epl : [.str (PySem.Str.ofString "making"), .str nv[0], .str nm, .str (PySem.Str.ofString ">")] ++ zs1.map V.str ++ [.str (PySem.Str.ofString "<")] ++ zs2.map V.str = (mpL nv[0] nm zs1 zs2).map V.str := by
        unfold mpL
        rw [List.map_append, List.map_append, List.map_append]
        simp
      have epl' : (some (HO.lst ([.str (PySem.Str.ofString "making"), .str nv[0], .str nm, .str (PySem.Str.ofString ">")] ++ zs1.map V.str ++ [.str (PySem.Str.ofString "<")] ++ zs2.map V.str)) : Option HO) = some (.lst ((mpL nv[0] nm zs1 zs2).map V.str)) := congrArg (fun l => some (HO.lst l)) epl
      have smM : ∀ z ∈ nv[0] :: nm :: (zs1 ++ zs2), Sm z := fun z hz => (allm z hz).sm
      have jok : ((mpL nv[0] nm zs1 zs2).map (·.length)).sum + (mpL nv[0] nm zs1 zs2).length * (PySem.Str.ofString " ").length ≤ 16777216 := by
        refine join_ok ?_ ?_
        · intro z hz
          have d1 : (PySem.Str.ofString ">").length ≤ 100 := by decide +kernel
          have d2 : (PySem.Str.ofString "<").length ≤ 100 := by decide +kernel
          have d3 : (PySem.Str.ofString "making").length ≤ 100 := by decide +kernel
          have h0 : ∀ z ∈ nv[0] :: nm :: (zs1 ++ zs2), z.length ≤ 100 := smM
          unfold mpL at hz
          simp at hz
          rcases hz with rfl | rfl | rfl | rfl | hz | rfl | hz
          · omega
          · have := h0 nv[0] (by simp); omega
          · have := h0 z (by simp); omega
          · omega
          · have := h0 z (by simp [hz]); omega
          · omega
          · have := h0 z (by simp [hz]); omega
        · unfold mpL
          rw [List.length_append, List.length_append, List.length_append]
          show 4 + (_ + (1 + _)) ≤ 100
          omega
      have mk16 := Q15 _ _ xm15
      dsimp only [List.set_cons_succ, List.set_cons_zero]
      refine ⟨_, rfl, xm, dxm, _, rfl, mk16, nv[0], nm, xm, dxm, tm1, tm2, zs1, zs2, rfl, mk16, SqT.of (Q15 _ _ tm115), SqT.of (Q15 _ _ tm215), by omega, by omega, smM, fun G17 T17 => ⟨_, rfl, ⟨_, rfl⟩, _, rfl, _, m5, mpL nv[0] nm zs1 zs2, rfl, rfl, .inl (SqL.of (T17 m5 _ (Eq.trans upd_same epl'))), jok, rfl, _, rfl, iteNS rfl ?_⟩⟩
      have xr17 := (T15.trans (Q15.trans T17))
      have nxrp : xr ≠ p := st_ne (s5.same T57) xr7 (fun _ z => by cases z)
      have ngp7 := g7
      have ntr1 : tr1 ≠ p := st_ne (s5.same T57) tr17 (fun _ z => by cases z)
      have ntr2 : tr2 ≠ p := st_ne (s5.same T57) tr27 (fun _ z => by cases z)
      have xrF := xr17 _ _ (B1014 xr _ nxrp (T810 _ _ xr7))
      have rowsF1 := ((rv7.same T810).but B1014 st10).same xr17
      have rowsF2 := ((rc7.same T810).but B1014 st10).same xr17
      refine ⟨_, rfl, xr, dxr, _, rfl, xrF, nm, by_, xr, dxr, tr1, tr2, g, ps, qs, vars, ts, (ga, gw, gb), rfl, xrF, SqT.of (xr17 _ _ (B1014 tr1 _ ntr1 (T810 _ _ tr17))), rowsF1, SqT.of (xr17 _ _ (B1014 tr2 _ ntr2 (T810 _ _ tr27))), rowsF2, SqT.of (xr17 _ _ (B1014 g _ ngp (T810 _ _ g7))), smP, smN, (nvnm by_ hby).sm, ⟨(nvnm ga hga).sm, hgw.sm, (nvnm gb hgb).sm⟩, fun G18 T18 => ⟨_, rfl, _, rfl, rfl, _, rfl, iteNS (congrArg V.str erow'.symm) ?_⟩⟩
      refine ⟨_, rfl, xm, dxm, _, rfl, (T17.trans T18) _ _ mk16, nv[0], nm, xm, dxm, tm1, tm2, zs1, zs2, rfl, (T17.trans T18) _ _ mk16, SqT.of ((T17.trans T18) _ _ (Q15 _ _ tm115)), SqT.of ((T17.trans T18) _ _ (Q15 _ _ tm215)), by omega, by omega, smM, fun G19 T19 => ⟨_, rfl, ⟨_, rfl⟩, _, rfl, _, m5, mpL nv[0] nm zs1 zs2, rfl, rfl, .inl (SqL.of ((T17.trans (T18.trans T19)) m5 _ (Eq.trans upd_same epl'))), jok, rfl, _, rfl, iteNS rfl ?_⟩⟩
      exact ⟨⟨_, _, _, _, _, _, _, _, _, _, _, _, _, _, _, _, rfl⟩, S14.trans (T15.trans (Q15.trans (T17.trans (T18.trans T19))))⟩

end
end Wm
namespace Wm
open PySem L2 StX ClX
theorem all_mk {l : PySem.W.OpenLaw} {w : World} {K : PySem.W.Frag} {h : Heap} {mg : Str → Option Value} {fa f0 f1 f2 f3 f4 f5 f6 f7 f8 f9 f10 f11 f12 f13 f14 f15 f16 f17 f18 f19 f20 f21 f22 f23 fC fB fR fM fBS fRS fMS fW C B R M W TD : Addr} (X : K.In h) (G : h.Ns mainGlobals mg) (hfa : mg "law" = some (.ref fa))
    {od0 an0 : Option Addr} {sl0 : Array (Option Value)} {oc0 kV0 dc0 pm0 cd0 ct0 : Value} {od1 an1 : Option Addr} {sl1 : Array (Option Value)} {oc1 kV1 dc1 pm1 cd1 ct1 : Value} {od2 an2 : Option Addr} {sl2 : Array (Option Value)} {oc2 kV2 dc2 pm2 cd2 ct2 : Value} {od3 an3 : Option Addr} {sl3 : Array (Option Value)} {oc3 kV3 dc3 pm3 cd3 ct3 : Value} {od4 an4 : Option Addr} {sl4 : Array (Option Value)} {oc4 kV4 dc4 pm4 cd4 ct4 : Value} {od5 an5 : Option Addr} {sl5 : Array (Option Value)} {oc5 kV5 dc5 pm5 cd5 ct5 : Value} {od6 an6 : Option Addr} {sl6 : Array (Option Value)} {oc6 kV6 dc6 pm6 cd6 ct6 : Value} {od7 an7 : Option Addr} {sl7 : Array (Option Value)} {oc7 kV7 dc7 pm7 cd7 ct7 : Value} {od8 an8 : Option Addr} {sl8 : Array (Option Value)} {oc8 kV8 dc8 pm8 cd8 ct8 : Value} {od9 an9 : Option Addr} {sl9 : Array (Option Value)} {oc9 kV9 dc9 pm9 cd9 ct9 : Value} {od10 an10 : Option Addr} {sl10 : Array (Option Value)} {oc10 kV10 dc10 pm10 cd10 ct10 : Value} {od11 an11 : Option Addr} {sl11 : Array (Option Value)} {oc11 kV11 dc11 pm11 cd11 ct11 : Value} {od12 an12 : Option Addr} {sl12 : Array (Option Value)} {oc12 kV12 dc12 pm12 cd12 ct12 : Value} {od13 an13 : Option Addr} {sl13 : Array (Option Value)} {oc13 kV13 dc13 pm13 cd13 ct13 : Value} {od14 an14 : Option Addr} {sl14 : Array (Option Value)} {oc14 kV14 dc14 pm14 cd14 ct14 : Value} {od15 an15 : Option Addr} {sl15 : Array (Option Value)} {oc15 kV15 dc15 pm15 cd15 ct15 : Value} {od16 an16 : Option Addr} {sl16 : Array (Option Value)} {oc16 kV16 dc16 pm16 cd16 ct16 : Value} {od17 an17 : Option Addr} {sl17 : Array (Option Value)} {oc17 kV17 dc17 pm17 cd17 ct17 : Value} {od18 an18 : Option Addr} {sl18 : Array (Option Value)} {oc18 kV18 dc18 pm18 cd18 ct18 : Value} {od19 an19 : Option Addr} {sl19 : Array (Option Value)} {oc19 kV19 dc19 pm19 cd19 ct19 : Value} {od20 an20 : Option Addr} {sl20 : Array (Option Value)} {oc20 kV20 dc20 pm20 cd20 ct20 : Value} {od21 an21 : Option Addr} {sl21 : Array (Option Value)} {oc21 kV21 dc21 pm21 cd21 ct21 : Value} {od22 an22 : Option Addr} {sl22 : Array (Option Value)} {oc22 kV22 dc22 pm22 cd22 ct22 : Value} {od23 an23 : Option Addr} {sl23 : Array (Option Value)} {oc23 kV23 dc23 pm23 cd23 ct23 : Value} {odC anC : Option Addr} {slC : Array (Option Value)} {ocC kVC dcC pmC cdC ctC : Value} {odB anB : Option Addr} {slB : Array (Option Value)} {ocB kVB dcB pmB cdB ctB : Value} {odR anR : Option Addr} {slR : Array (Option Value)} {ocR kVR dcR pmR cdR ctR : Value} {odM anM : Option Addr} {slM : Array (Option Value)} {ocM kVM dcM pmM cdM ctM : Value} {odBS anBS : Option Addr} {slBS : Array (Option Value)} {ocBS kVBS dcBS pmBS cdBS ctBS : Value} {odRS anRS : Option Addr} {slRS : Array (Option Value)} {ocRS kVRS dcRS pmRS cdRS ctRS : Value} {odMS anMS : Option Addr} {slMS : Array (Option Value)} {ocMS kVMS dcMS pmMS cdMS ctMS : Value} {odW anW : Option Addr} {slW : Array (Option Value)} {ocW kVW dcW pmW cdW ctW : Value} {ocD : Value} {odD : Option Addr} {tD : Tok} {nD : Nat} {slD : Array (Option Value)} {nm q : Str} {N : Addr} {bs : List Value} {sn : List Str} {sub : List Value} {ab : Bool} {col : Option Bool} {dd : Option Addr} {m0 m1 m2 m3 m5 : Option Value} {t_LETTERS : Tok} {t_FIGURES : Tok} {t_LONGEST_NAME : Tok} {t_MOST_VARIABLES : Tok} {t_MOST_CONDITIONS : Tok}
    (a0 : PySem.W.nsIn K mainGlobals "is_name" = some (some (.ref f0)))
    (l0 : K.lookup f0 = some ⟨oc0, od0, .func (PySem.W.fnOf "is_name" "is_name" (defArgs sName) (defBody sName) (defScope sName) .none kV0 dc0 pm0 an0 cd0 ct0), sl0⟩)
    (c0 : PySem.W.codeIn K cd0 "is_name" = true)
    (k0 : PySem.W.keepIn K (.ref f0) = true)
    (a1 : PySem.W.nsIn K mainGlobals "refuse_no_name" = some (some (.ref f1)))
    (l1 : K.lookup f1 = some ⟨oc1, od1, .func (PySem.W.fnOf "refuse_no_name" "refuse_no_name" (defArgs sRN) (defBody sRN) (defScope sRN) .none kV1 dc1 pm1 an1 cd1 ct1), sl1⟩)
    (c1 : PySem.W.codeIn K cd1 "refuse_no_name" = true)
    (k1 : PySem.W.keepIn K (.ref f1) = true)
    (a2 : PySem.W.nsIn K mainGlobals "first_twice" = some (some (.ref f2)))
    (l2 : K.lookup f2 = some ⟨oc2, od2, .func (PySem.W.fnOf "first_twice" "first_twice" (defArgs sFT) (defBody sFT) (defScope sFT) .none kV2 dc2 pm2 an2 cd2 ct2), sl2⟩)
    (c2 : PySem.W.codeIn K cd2 "first_twice" = true)
    (k2 : PySem.W.keepIn K (.ref f2) = true)
    (a3 : PySem.W.nsIn K mainGlobals "refuse_twice" = some (some (.ref f3)))
    (l3 : K.lookup f3 = some ⟨oc3, od3, .func (PySem.W.fnOf "refuse_twice" "refuse_twice" (defArgs sRT) (defBody sRT) (defScope sRT) .none kV3 dc3 pm3 an3 cd3 ct3), sl3⟩)
    (c3 : PySem.W.codeIn K cd3 "refuse_twice" = true)
    (k3 : PySem.W.keepIn K (.ref f3) = true)
    (a4 : PySem.W.nsIn K mainGlobals "refuse_count" = some (some (.ref f4)))
    (l4 : K.lookup f4 = some ⟨oc4, od4, .func (PySem.W.fnOf "refuse_count" "refuse_count" (defArgs sRC) (defBody sRC) (defScope sRC) .none kV4 dc4 pm4 an4 cd4 ct4), sl4⟩)
    (c4 : PySem.W.codeIn K cd4 "refuse_count" = true)
    (k4 : PySem.W.keepIn K (.ref f4) = true)
    (a5 : PySem.W.nsIn K mainGlobals "tuple_of_tuples" = some (some (.ref f5)))
    (l5 : K.lookup f5 = some ⟨oc5, od5, .func (PySem.W.fnOf "tuple_of_tuples" "tuple_of_tuples" (defArgs sTT) (defBody sTT) (defScope sTT) .none kV5 dc5 pm5 an5 cd5 ct5), sl5⟩)
    (c5 : PySem.W.codeIn K cd5 "tuple_of_tuples" = true)
    (k5 : PySem.W.keepIn K (.ref f5) = true)
    (a6 : PySem.W.nsIn K mainGlobals "ends_of" = some (some (.ref f6)))
    (l6 : K.lookup f6 = some ⟨oc6, od6, .func (PySem.W.fnOf "ends_of" "ends_of" (defArgs sEO) (defBody sEO) (defScope sEO) .none kV6 dc6 pm6 an6 cd6 ct6), sl6⟩)
    (c6 : PySem.W.codeIn K cd6 "ends_of" = true)
    (k6 : PySem.W.keepIn K (.ref f6) = true)
    (a7 : PySem.W.nsIn K mainGlobals "texts_of_pattern" = some (some (.ref f7)))
    (l7 : K.lookup f7 = some ⟨oc7, od7, .func (PySem.W.fnOf "texts_of_pattern" "texts_of_pattern" (defArgs sTP) (defBody sTP) (defScope sTP) .none kV7 dc7 pm7 an7 cd7 ct7), sl7⟩)
    (c7 : PySem.W.codeIn K cd7 "texts_of_pattern" = true)
    (k7 : PySem.W.keepIn K (.ref f7) = true)
    (a8 : PySem.W.nsIn K mainGlobals "refuse_no_variable" = some (some (.ref f8)))
    (l8 : K.lookup f8 = some ⟨oc8, od8, .func (PySem.W.fnOf "refuse_no_variable" "refuse_no_variable" (defArgs sRV) (defBody sRV) (defScope sRV) .none kV8 dc8 pm8 an8 cd8 ct8), sl8⟩)
    (c8 : PySem.W.codeIn K cd8 "refuse_no_variable" = true)
    (k8 : PySem.W.keepIn K (.ref f8) = true)
    (a9 : PySem.W.nsIn K mainGlobals "refuse_loose" = some (some (.ref f9)))
    (l9 : K.lookup f9 = some ⟨oc9, od9, .func (PySem.W.fnOf "refuse_loose" "refuse_loose" (defArgs sRL) (defBody sRL) (defScope sRL) .none kV9 dc9 pm9 an9 cd9 ct9), sl9⟩)
    (c9 : PySem.W.codeIn K cd9 "refuse_loose" = true)
    (k9 : PySem.W.keepIn K (.ref f9) = true)
    (a10 : PySem.W.nsIn K mainGlobals "refuse_apart" = some (some (.ref f10)))
    (l10 : K.lookup f10 = some ⟨oc10, od10, .func (PySem.W.fnOf "refuse_apart" "refuse_apart" (defArgs sRA) (defBody sRA) (defScope sRA) .none kV10 dc10 pm10 an10 cd10 ct10), sl10⟩)
    (c10 : PySem.W.codeIn K cd10 "refuse_apart" = true)
    (k10 : PySem.W.keepIn K (.ref f10) = true)
    (a11 : PySem.W.nsIn K mainGlobals "check_pattern" = some (some (.ref f11)))
    (l11 : K.lookup f11 = some ⟨oc11, od11, .func (PySem.W.fnOf "check_pattern" "check_pattern" (defArgs sCP) (defBody sCP) (defScope sCP) .none kV11 dc11 pm11 an11 cd11 ct11), sl11⟩)
    (c11 : PySem.W.codeIn K cd11 "check_pattern" = true)
    (k11 : PySem.W.keepIn K (.ref f11) = true)
    (a12 : PySem.W.nsIn K mainGlobals "variable_part" = some (some (.ref f12)))
    (l12 : K.lookup f12 = some ⟨oc12, od12, .func (PySem.W.fnOf "variable_part" "variable_part" (defArgs sVP) (defBody sVP) (defScope sVP) .none kV12 dc12 pm12 an12 cd12 ct12), sl12⟩)
    (c12 : PySem.W.codeIn K cd12 "variable_part" = true)
    (k12 : PySem.W.keepIn K (.ref f12) = true)
    (a13 : PySem.W.nsIn K mainGlobals "pattern_parts" = some (some (.ref f13)))
    (l13 : K.lookup f13 = some ⟨oc13, od13, .func (PySem.W.fnOf "pattern_parts" "pattern_parts" (defArgs sPP) (defBody sPP) (defScope sPP) .none kV13 dc13 pm13 an13 cd13 ct13), sl13⟩)
    (c13 : PySem.W.codeIn K cd13 "pattern_parts" = true)
    (k13 : PySem.W.keepIn K (.ref f13) = true)
    (a14 : PySem.W.nsIn K mainGlobals "rule_parts" = some (some (.ref f14)))
    (l14 : K.lookup f14 = some ⟨oc14, od14, .func (PySem.W.fnOf "rule_parts" "rule_parts" (defArgs sRP) (defBody sRP) (defScope sRP) .none kV14 dc14 pm14 an14 cd14 ct14), sl14⟩)
    (c14 : PySem.W.codeIn K cd14 "rule_parts" = true)
    (k14 : PySem.W.keepIn K (.ref f14) = true)
    (a15 : PySem.W.nsIn K mainGlobals "making_parts" = some (some (.ref f15)))
    (l15 : K.lookup f15 = some ⟨oc15, od15, .func (PySem.W.fnOf "making_parts" "making_parts" (defArgs sMP) (defBody sMP) (defScope sMP) .none kV15 dc15 pm15 an15 cd15 ct15), sl15⟩)
    (c15 : PySem.W.codeIn K cd15 "making_parts" = true)
    (k15 : PySem.W.keepIn K (.ref f15) = true)
    (a16 : PySem.W.nsIn K mainGlobals "_law_state" = some (some (.ref f16)))
    (l16 : K.lookup f16 = some ⟨oc16, od16, .func (PySem.W.fnOf "_law_state" "_law_state" (defArgs sState) (defBody sState) (defScope sState) .none kV16 dc16 pm16 an16 cd16 ct16), sl16⟩)
    (c16 : PySem.W.codeIn K cd16 "_law_state" = true)
    (k16 : PySem.W.keepIn K (.ref f16) = true)
    (a17 : PySem.W.nsIn K mainGlobals "_law_digit" = some (some (.ref f17)))
    (l17 : K.lookup f17 = some ⟨oc17, od17, .func (PySem.W.fnOf "_law_digit" "_law_digit" (defArgs sDigit) (defBody sDigit) (defScope sDigit) .none kV17 dc17 pm17 an17 cd17 ct17), sl17⟩)
    (c17 : PySem.W.codeIn K cd17 "_law_digit" = true)
    (k17 : PySem.W.keepIn K (.ref f17) = true)
    (a18 : PySem.W.nsIn K mainGlobals "_law_long" = some (some (.ref f18)))
    (l18 : K.lookup f18 = some ⟨oc18, od18, .func (PySem.W.fnOf "_law_long" "_law_long" (defArgs sLong) (defBody sLong) (defScope sLong) .none kV18 dc18 pm18 an18 cd18 ct18), sl18⟩)
    (c18 : PySem.W.codeIn K cd18 "_law_long" = true)
    (k18 : PySem.W.keepIn K (.ref f18) = true)
    (a19 : PySem.W.nsIn K mainGlobals "_law_names" = some (some (.ref f19)))
    (l19 : K.lookup f19 = some ⟨oc19, od19, .func (PySem.W.fnOf "_law_names" "_law_names" (defArgs sNms) (defBody sNms) (defScope sNms) .none kV19 dc19 pm19 an19 cd19 ct19), sl19⟩)
    (c19 : PySem.W.codeIn K cd19 "_law_names" = true)
    (k19 : PySem.W.keepIn K (.ref f19) = true)
    (a20 : PySem.W.nsIn K mainGlobals "_law_variables" = some (some (.ref f20)))
    (l20 : K.lookup f20 = some ⟨oc20, od20, .func (PySem.W.fnOf "_law_variables" "_law_variables" (defArgs sVrs) (defBody sVrs) (defScope sVrs) .none kV20 dc20 pm20 an20 cd20 ct20), sl20⟩)
    (c20 : PySem.W.codeIn K cd20 "_law_variables" = true)
    (k20 : PySem.W.keepIn K (.ref f20) = true)
    (a21 : PySem.W.nsIn K mainGlobals "_law_conditions" = some (some (.ref f21)))
    (l21 : K.lookup f21 = some ⟨oc21, od21, .func (PySem.W.fnOf "_law_conditions" "_law_conditions" (defArgs sCds) (defBody sCds) (defScope sCds) .none kV21 dc21 pm21 an21 cd21 ct21), sl21⟩)
    (c21 : PySem.W.codeIn K cd21 "_law_conditions" = true)
    (k21 : PySem.W.keepIn K (.ref f21) = true)
    (a22 : PySem.W.nsIn K mainGlobals "_law_row" = some (some (.ref f22)))
    (l22 : K.lookup f22 = some ⟨oc22, od22, .func (PySem.W.fnOf "_law_row" "_law_row" (defArgs sRow) (defBody sRow) (defScope sRow) .none kV22 dc22 pm22 an22 cd22 ct22), sl22⟩)
    (c22 : PySem.W.codeIn K cd22 "_law_row" = true)
    (k22 : PySem.W.keepIn K (.ref f22) = true)
    (a23 : PySem.W.nsIn K mainGlobals "law" = some (some (.ref f23)))
    (l23 : K.lookup f23 = some ⟨oc23, od23, .func (PySem.W.fnOf "law" "law" (defArgs sLaw) (defBody sLaw) (defScope sLaw) .none kV23 dc23 pm23 an23 cd23 ct23), sl23⟩)
    (c23 : PySem.W.codeIn K cd23 "law" = true)
    (k23 : PySem.W.keepIn K (.ref f23) = true)
    (gC : PySem.W.nsIn K mainGlobals "NoName" = some (some (.ref C)))
    (iC : PySem.W.findIn K (.ref C) "__init__" = some (some (.ref fC)))
    (lC : K.lookup fC = some ⟨ocC, odC, .func (PySem.W.fnOf "__init__" "NoName.__init__" (defArgs sN0) (defBody sN0) (defScope sN0) .none kVC dcC pmC anC cdC ctC), slC⟩)
    (cC : PySem.W.codeIn K cdC "NoName.__init__" = true)
    (kC : PySem.W.keepIn K (.ref fC) = true)
    (gB : PySem.W.nsIn K mainGlobals "Bar" = some (some (.ref B)))
    (iB : PySem.W.findIn K (.ref B) "__init__" = some (some (.ref fB)))
    (lB : K.lookup fB = some ⟨ocB, odB, .func (PySem.W.fnOf "__init__" "Bar.__init__" (defArgs sBar) (defBody sBar) (defScope sBar) .none kVB dcB pmB anB cdB ctB), slB⟩)
    (cB : PySem.W.codeIn K cdB "Bar.__init__" = true)
    (kB : PySem.W.keepIn K (.ref fB) = true)
    (gR : PySem.W.nsIn K mainGlobals "Rule" = some (some (.ref R)))
    (iR : PySem.W.findIn K (.ref R) "__init__" = some (some (.ref fR)))
    (lR : K.lookup fR = some ⟨ocR, odR, .func (PySem.W.fnOf "__init__" "Rule.__init__" (defArgs sRul) (defBody sRul) (defScope sRul) .none kVR dcR pmR anR cdR ctR), slR⟩)
    (cR : PySem.W.codeIn K cdR "Rule.__init__" = true)
    (kR : PySem.W.keepIn K (.ref fR) = true)
    (gM : PySem.W.nsIn K mainGlobals "Making" = some (some (.ref M)))
    (iM : PySem.W.findIn K (.ref M) "__init__" = some (some (.ref fM)))
    (lM : K.lookup fM = some ⟨ocM, odM, .func (PySem.W.fnOf "__init__" "Making.__init__" (defArgs sMak) (defBody sMak) (defScope sMak) .none kVM dcM pmM anM cdM ctM), slM⟩)
    (cM : PySem.W.codeIn K cdM "Making.__init__" = true)
    (kM : PySem.W.keepIn K (.ref fM) = true)
    (iBS : PySem.W.findIn K (.ref B) "__str__" = some (some (.ref fBS)))
    (lBS : K.lookup fBS = some ⟨ocBS, odBS, .func (PySem.W.fnOf "__str__" "Bar.__str__" (defArgs sBS) (defBody sBS) (defScope sBS) .none kVBS dcBS pmBS anBS cdBS ctBS), slBS⟩)
    (cBS : PySem.W.codeIn K cdBS "Bar.__str__" = true)
    (kBS : PySem.W.keepIn K (.ref fBS) = true)
    (iRS : PySem.W.findIn K (.ref R) "__str__" = some (some (.ref fRS)))
    (lRS : K.lookup fRS = some ⟨ocRS, odRS, .func (PySem.W.fnOf "__str__" "Rule.__str__" (defArgs sRS) (defBody sRS) (defScope sRS) .none kVRS dcRS pmRS anRS cdRS ctRS), slRS⟩)
    (cRS : PySem.W.codeIn K cdRS "Rule.__str__" = true)
    (kRS : PySem.W.keepIn K (.ref fRS) = true)
    (iMS : PySem.W.findIn K (.ref M) "__str__" = some (some (.ref fMS)))
    (lMS : K.lookup fMS = some ⟨ocMS, odMS, .func (PySem.W.fnOf "__str__" "Making.__str__" (defArgs sMS) (defBody sMS) (defScope sMS) .none kVMS dcMS pmMS anMS cdMS ctMS), slMS⟩)
    (cMS : PySem.W.codeIn K cdMS "Making.__str__" = true)
    (kMS : PySem.W.keepIn K (.ref fMS) = true)
    (gW : PySem.W.nsIn K mainGlobals "WhoError" = some (some (.ref W)))
    (mW : PySem.W.findCls K (.ref W) (.type "type") "__init__" = some (.val (.ref fW)))
    (lW : K.lookup fW = some ⟨ocW, odW, .func (PySem.W.fnOf "__init__" "WhoError.__init__" (defArgs sW0) (defBody sW0) (defScope sW0) (.ref TD) kVW dcW pmW anW cdW ctW), slW⟩)
    (cW : PySem.W.codeIn K cdW "WhoError.__init__" = true)
    (kW : PySem.W.keepIn K (.ref fW) = true)
    (dW : K.lookup TD = some ⟨ocD, odD, .seq #[.str (PySem.Str.ofString "whoerror") tD] nD, slD⟩)
    (rW : PySem.W.readsIn K W (.type "type") = true)
    (sW : PySem.W.specialIn K (.ref W) "__getattribute__" = some (some (.builtin "type.__getattribute__")))
    (xC : K.lookup C = some (excClassObj nm q C N bs (.ref W :: [.type "ValueError", .type "Exception", .type "BaseException", .type "object"]) true sn sub ab col dd m0 m1 m2 m3 m5 "ValueError.__new__"))
    (saC : PySem.W.findIn K (.ref C) "__setattr__" = some (some (.builtin "object.__setattr__")))
    (exC : PySem.W.subIn K (.ref C) (.type "BaseException") = some true)
    (tyC : PySem.W.typeIn K (.ref C) = some (.type "type"))
    (kpC : PySem.W.keepIn K (.ref C) = true)
    (tI : PySem.W.typeIn K (.ref fC) = some (.type "function"))
    (nkC : PySem.W.findIn K (.ref C) "kind" = some none)
    (nnC : PySem.W.findIn K (.ref C) "name" = some none)
    (pgB : PySem.W.plainGet K B Str.empty = true)
    (hdB : PySem.W.hasDictIn K B = true)
    (poB : PySem.W.plainOver K B = true)
    (saB : PySem.W.findIn K (.ref B) "__setattr__" = some (some (.builtin "object.__setattr__")))
    (mkB : PySem.W.makesIn K B = true)
    (fnB : PySem.W.isFn K (.ref fB) = true)
    (kpB : PySem.W.keepIn K (.ref B) = true)
    (fsB : PySem.W.isFn K (.ref fBS) = true)
    (pgR : PySem.W.plainGet K R Str.empty = true)
    (hdR : PySem.W.hasDictIn K R = true)
    (poR : PySem.W.plainOver K R = true)
    (saR : PySem.W.findIn K (.ref R) "__setattr__" = some (some (.builtin "object.__setattr__")))
    (mkR : PySem.W.makesIn K R = true)
    (fnR : PySem.W.isFn K (.ref fR) = true)
    (kpR : PySem.W.keepIn K (.ref R) = true)
    (fsR : PySem.W.isFn K (.ref fRS) = true)
    (pgM : PySem.W.plainGet K M Str.empty = true)
    (hdM : PySem.W.hasDictIn K M = true)
    (poM : PySem.W.plainOver K M = true)
    (saM : PySem.W.findIn K (.ref M) "__setattr__" = some (some (.builtin "object.__setattr__")))
    (mkM : PySem.W.makesIn K M = true)
    (fnM : PySem.W.isFn K (.ref fM) = true)
    (kpM : PySem.W.keepIn K (.ref M) = true)
    (fsM : PySem.W.isFn K (.ref fMS) = true)
    (nB_name : PySem.W.findIn K (.ref B) "name" = some none)
    (nB_variables : PySem.W.findIn K (.ref B) "variables" = some none)
    (nB_conditions : PySem.W.findIn K (.ref B) "conditions" = some none)
    (nR_name : PySem.W.findIn K (.ref R) "name" = some none)
    (nR_variables : PySem.W.findIn K (.ref R) "variables" = some none)
    (nR_conditions : PySem.W.findIn K (.ref R) "conditions" = some none)
    (nR_gives : PySem.W.findIn K (.ref R) "gives" = some none)
    (nR_by : PySem.W.findIn K (.ref R) "by" = some none)
    (nM_maker : PySem.W.findIn K (.ref M) "maker" = some none)
    (nM_made : PySem.W.findIn K (.ref M) "made" = some none)
    (nM_down : PySem.W.findIn K (.ref M) "down" = some none)
    (nM_up : PySem.W.findIn K (.ref M) "up" = some none)
    (z_abs : PySem.W.nsIn K mainGlobals "abs" = some none)
    (z_int : PySem.W.nsIn K mainGlobals "int" = some none)
    (z_len : PySem.W.nsIn K mainGlobals "len" = some none)
    (z_range : PySem.W.nsIn K mainGlobals "range" = some none)
    (z_all : PySem.W.nsIn K mainGlobals "all" = some none)
    (z_tuple : PySem.W.nsIn K mainGlobals "tuple" = some none)
    (z_enumerate : PySem.W.nsIn K mainGlobals "enumerate" = some none)
    (z_isinstance : PySem.W.nsIn K mainGlobals "isinstance" = some none)
    (z_ve : PySem.W.nsIn K mainGlobals "ValueError" = some none)
    (z_max : PySem.W.nsIn K mainGlobals "max" = some none)
    (z_str : PySem.W.nsIn K mainGlobals "str" = some none)
    (z_list : PySem.W.nsIn K mainGlobals "list" = some none)
    (v_LETTERS : PySem.W.nsIn K mainGlobals "LETTERS" = some (some (.str (PySem.Str.ofString "abcdefghijklmnopqrstuvwxyz") t_LETTERS)))
    (v_FIGURES : PySem.W.nsIn K mainGlobals "FIGURES" = some (some (.str (PySem.Str.ofString "0123456789") t_FIGURES)))
    (v_LONGEST_NAME : PySem.W.nsIn K mainGlobals "LONGEST_NAME" = some (some (.int 12 t_LONGEST_NAME)))
    (v_MOST_VARIABLES : PySem.W.nsIn K mainGlobals "MOST_VARIABLES" = some (some (.int 4 t_MOST_VARIABLES)))
    (v_MOST_CONDITIONS : PySem.W.nsIn K mainGlobals "MOST_CONDITIONS" = some (some (.int 3 t_MOST_CONDITIONS))) :
    ∃ fd : FuncData, (∀ (s : Shared) (v : Value), BindsTo s fd ⟨[v], []⟩ [("_law_script", v)]) ∧ ∀ base : Heap, K.In base → base.Ns mainGlobals mg → FnOk l.prog w K mg base CX0 8 fa fd ["_law_script"] (spLaw K) := by
  have e := hfa.symm.trans (PySem.W.mg_of X G a23)
  cases e
  have T : TxB mg := ⟨PySem.W.mg_none_of X G z_abs, PySem.W.mg_none_of X G z_int, PySem.W.mg_none_of X G z_len, PySem.W.mg_none_of X G z_range, PySem.W.mg_none_of X G z_all, PySem.W.mg_none_of X G z_tuple, PySem.W.mg_none_of X G z_enumerate, PySem.W.mg_none_of X G z_isinstance, PySem.W.mg_none_of X G z_ve⟩
  have TN : TxN mg := ⟨⟨_, PySem.W.mg_of X G v_LETTERS⟩, ⟨_, PySem.W.mg_of X G v_FIGURES⟩, ⟨_, PySem.W.mg_of X G v_LONGEST_NAME⟩⟩
  have TP : TxP mg := ⟨⟨_, PySem.W.mg_of X G v_MOST_VARIABLES⟩, ⟨_, PySem.W.mg_of X G v_MOST_CONDITIONS⟩⟩
  have F0 := fun_mk (st := sName) l0 c0 k0
  have D0 : Dn K mg "is_name" sName ["text"] f0 _ := ⟨F0, PySem.W.mg_of X G a0, F0.binds (ps := ["text"]) fun _ _ _ _ _ _ us hl => match us, hl with | [_], _ => rfl⟩
  have F1 := fun_mk (st := sRN) l1 c1 k1
  have D1 : Dn K mg "refuse_no_name" sRN ["texts"] f1 _ := ⟨F1, PySem.W.mg_of X G a1, F1.binds (ps := ["texts"]) fun _ _ _ _ _ _ us hl => match us, hl with | [_], _ => rfl⟩
  have F2 := fun_mk (st := sFT) l2 c2 k2
  have D2 : Dn K mg "first_twice" sFT ["row"] f2 _ := ⟨F2, PySem.W.mg_of X G a2, F2.binds (ps := ["row"]) fun _ _ _ _ _ _ us hl => match us, hl with | [_], _ => rfl⟩
  have F3 := fun_mk (st := sRT) l3 c3 k3
  have D3 : Dn K mg "refuse_twice" sRT ["names"] f3 _ := ⟨F3, PySem.W.mg_of X G a3, F3.binds (ps := ["names"]) fun _ _ _ _ _ _ us hl => match us, hl with | [_], _ => rfl⟩
  have F4 := fun_mk (st := sRC) l4 c4 k4
  have D4 : Dn K mg "refuse_count" sRC ["what", "count", "least", "most"] f4 _ := ⟨F4, PySem.W.mg_of X G a4, F4.binds (ps := ["what", "count", "least", "most"]) fun _ _ _ _ _ _ us hl => match us, hl with | [_, _, _, _], _ => rfl⟩
  have F5 := fun_mk (st := sTT) l5 c5 k5
  have D5 : Dn K mg "tuple_of_tuples" sTT ["rows"] f5 _ := ⟨F5, PySem.W.mg_of X G a5, F5.binds (ps := ["rows"]) fun _ _ _ _ _ _ us hl => match us, hl with | [_], _ => rfl⟩
  have F6 := fun_mk (st := sEO) l6 c6 k6
  have D6 : Dn K mg "ends_of" sEO ["triples"] f6 _ := ⟨F6, PySem.W.mg_of X G a6, F6.binds (ps := ["triples"]) fun _ _ _ _ _ _ us hl => match us, hl with | [_], _ => rfl⟩
  have F7 := fun_mk (st := sTP) l7 c7 k7
  have D7 : Dn K mg "texts_of_pattern" sTP ["name", "variables", "triples"] f7 _ := ⟨F7, PySem.W.mg_of X G a7, F7.binds (ps := ["name", "variables", "triples"]) fun _ _ _ _ _ _ us hl => match us, hl with | [_, _, _], _ => rfl⟩
  have F8 := fun_mk (st := sRV) l8 c8 k8
  have D8 : Dn K mg "refuse_no_variable" sRV ["names", "texts"] f8 _ := ⟨F8, PySem.W.mg_of X G a8, F8.binds (ps := ["names", "texts"]) fun _ _ _ _ _ _ us hl => match us, hl with | [_, _], _ => rfl⟩
  have F9 := fun_mk (st := sRL) l9 c9 k9
  have D9 : Dn K mg "refuse_loose" sRL ["names", "conditions"] f9 _ := ⟨F9, PySem.W.mg_of X G a9, F9.binds (ps := ["names", "conditions"]) fun _ _ _ _ _ _ us hl => match us, hl with | [_, _], _ => rfl⟩
  have F10 := fun_mk (st := sRA) l10 c10 k10
  have D10 : Dn K mg "refuse_apart" sRA ["conditions"] f10 _ := ⟨F10, PySem.W.mg_of X G a10, F10.binds (ps := ["conditions"]) fun _ _ _ _ _ _ us hl => match us, hl with | [_], _ => rfl⟩
  have F11 := fun_mk (st := sCP) l11 c11 k11
  have D11 : Dn K mg "check_pattern" sCP ["name", "variables", "conditions", "given", "hands"] f11 _ := ⟨F11, PySem.W.mg_of X G a11, F11.binds (ps := ["name", "variables", "conditions", "given", "hands"]) fun _ _ _ _ _ _ us hl => match us, hl with | [_, _, _, _, _], _ => rfl⟩
  have F12 := fun_mk (st := sVP) l12 c12 k12
  have D12 : Dn K mg "variable_part" sVP ["name", "sort"] f12 _ := ⟨F12, PySem.W.mg_of X G a12, F12.binds (ps := ["name", "sort"]) fun _ _ _ _ _ _ us hl => match us, hl with | [_, _], _ => rfl⟩
  have F13 := fun_mk (st := sPP) l13 c13 k13
  have D13 : Dn K mg "pattern_parts" sPP ["kind", "pattern"] f13 _ := ⟨F13, PySem.W.mg_of X G a13, F13.binds (ps := ["kind", "pattern"]) fun _ _ _ _ _ _ us hl => match us, hl with | [_, _], _ => rfl⟩
  have F14 := fun_mk (st := sRP) l14 c14 k14
  have D14 : Dn K mg "rule_parts" sRP ["rule"] f14 _ := ⟨F14, PySem.W.mg_of X G a14, F14.binds (ps := ["rule"]) fun _ _ _ _ _ _ us hl => match us, hl with | [_], _ => rfl⟩
  have F15 := fun_mk (st := sMP) l15 c15 k15
  have D15 : Dn K mg "making_parts" sMP ["making"] f15 _ := ⟨F15, PySem.W.mg_of X G a15, F15.binds (ps := ["making"]) fun _ _ _ _ _ _ us hl => match us, hl with | [_], _ => rfl⟩
  have F16 := fun_mk (st := sState) l16 c16 k16
  have D16 : Dn K mg "_law_state" sState ["_law_cell"] f16 _ := ⟨F16, PySem.W.mg_of X G a16, F16.binds (ps := ["_law_cell"]) fun _ _ _ _ _ _ us hl => match us, hl with | [_], _ => rfl⟩
  have F17 := fun_mk (st := sDigit) l17 c17 k17
  have D17 : Dn K mg "_law_digit" sDigit ["_law_state_here", "_law_base"] f17 _ := ⟨F17, PySem.W.mg_of X G a17, F17.binds (ps := ["_law_state_here", "_law_base"]) fun _ _ _ _ _ _ us hl => match us, hl with | [_, _], _ => rfl⟩
  have F18 := fun_mk (st := sLong) l18 c18 k18
  have D18 : Dn K mg "_law_long" sLong ["_law_s"] f18 _ := ⟨F18, PySem.W.mg_of X G a18, F18.binds (ps := ["_law_s"]) fun _ _ _ _ _ _ us hl => match us, hl with | [_], _ => rfl⟩
  have F19 := fun_mk (st := sNms) l19 c19 k19
  have D19 : Dn K mg "_law_names" sNms ["_law_s", "_law_many"] f19 _ := ⟨F19, PySem.W.mg_of X G a19, F19.binds (ps := ["_law_s", "_law_many"]) fun _ _ _ _ _ _ us hl => match us, hl with | [_, _], _ => rfl⟩
  have F20 := fun_mk (st := sVrs) l20 c20 k20
  have D20 : Dn K mg "_law_variables" sVrs ["_law_s"] f20 _ := ⟨F20, PySem.W.mg_of X G a20, F20.binds (ps := ["_law_s"]) fun _ _ _ _ _ _ us hl => match us, hl with | [_], _ => rfl⟩
  have F21 := fun_mk (st := sCds) l21 c21 k21
  have D21 : Dn K mg "_law_conditions" sCds ["_law_s", "_law_names_here"] f21 _ := ⟨F21, PySem.W.mg_of X G a21, F21.binds (ps := ["_law_s", "_law_names_here"]) fun _ _ _ _ _ _ us hl => match us, hl with | [_, _], _ => rfl⟩
  have F22 := fun_mk (st := sRow) l22 c22 k22
  have D22 : Dn K mg "_law_row" sRow ["_law_kind", "_law_name", "_law_variables_here", "_law_conditions_here"] f22 _ := ⟨F22, PySem.W.mg_of X G a22, F22.binds (ps := ["_law_kind", "_law_name", "_law_variables_here", "_law_conditions_here"]) fun _ _ _ _ _ _ us hl => match us, hl with | [_, _, _, _], _ => rfl⟩
  have F23 := fun_mk (st := sLaw) l23 c23 k23
  have FC := fun_mk (st := sN0) lC cC kC
  have bC := FC.binds (ps := ["self", "name"]) fun _ _ _ _ _ _ us hl => match us, hl with | [_, _], _ => rfl
  have FB := fun_mk (st := sBar) lB cB kB
  have bB := FB.binds (ps := ["self", "name", "variables", "conditions"]) fun _ _ _ _ _ _ us hl => match us, hl with | [_, _, _, _], _ => rfl
  have FR := fun_mk (st := sRul) lR cR kR
  have bR := FR.binds (ps := ["self", "name", "variables", "conditions", "gives", "by"]) fun _ _ _ _ _ _ us hl => match us, hl with | [_, _, _, _, _, _], _ => rfl
  have FM := fun_mk (st := sMak) lM cM kM
  have bM := FM.binds (ps := ["self", "maker", "made", "down", "up"]) fun _ _ _ _ _ _ us hl => match us, hl with | [_, _, _, _, _], _ => rfl
  have FBS := fun_mk (st := sBS) lBS cBS kBS
  have bBS := FBS.binds (ps := ["self"]) fun _ _ _ _ _ _ us hl => match us, hl with | [_], _ => rfl
  have FRS := fun_mk (st := sRS) lRS cRS kRS
  have bRS := FRS.binds (ps := ["self"]) fun _ _ _ _ _ _ us hl => match us, hl with | [_], _ => rfl
  have FMS := fun_mk (st := sMS) lMS cMS kMS
  have bMS := FMS.binds (ps := ["self"]) fun _ _ _ _ _ _ us hl => match us, hl with | [_], _ => rfl
  have FW : FunD K "__init__" "WhoError.__init__" (defArgs sW0) (defBody sW0) (defScope sW0) [.str (PySem.Str.ofString "whoerror")] [] fW _ :=
    ⟨⟨_, _, _, _, _, _, _, _, _, _, rfl, lW, cW, .inr ⟨by simp, TD, _, [.str (PySem.Str.ofString "whoerror") tD], nD, rfl, dW, rfl, .cons ⟨_, rfl⟩ .nil⟩, .inl rfl⟩, kW⟩
  obtain ⟨ds, hds, bW⟩ := FW.binds1 (ps := ["self", "kind"]) 2 1 (by simp) (by rfl) (fun T kV doc pm an cdv ct us its hu hi => match us, hu, its, hi with | [_, _], _, [_], _ => ⟨_, rfl, rfl⟩)
  cases hds
  have TW : WhoT K mg W fW _ := ⟨PySem.W.mg_of X G gW, ⟨rW, sW⟩, mW, kW, bW⟩
  have ox : OexC K C := ⟨⟨_, _, _, _, _, _, _, _, _, _, _, _, _, _, _, xC, by rfl⟩, saC, exC, tyC, kpC⟩
  have TE : ErrT K mg "NoName" "name" C fC := ⟨ox, PySem.W.mg_of X G gC, iC, tI, nkC, nnC⟩
  have TB : TxBar K mg B fB := ⟨⟨pgB, hdB, poB, saB⟩, nB_name, nB_variables, nB_conditions, PySem.W.mg_of X G gB, ⟨mkB, iB, fnB, kpB⟩⟩
  have TR : TxRul K mg R fR := ⟨⟨pgR, hdR, poR, saR⟩, nR_name, nR_variables, nR_conditions, nR_gives, nR_by, PySem.W.mg_of X G gR, ⟨mkR, iR, fnR, kpR⟩⟩
  have TM : TxMak K mg M fM := ⟨⟨pgM, hdM, poM, saM⟩, nM_maker, nM_made, nM_down, nM_up, PySem.W.mg_of X G gM, ⟨mkM, iM, fnM, kpM⟩⟩
  have T8 : Tx8 K mg B R M fBS fRS fMS := ⟨PySem.W.mg_none_of X G z_str, PySem.W.mg_none_of X G z_list, iBS, iRS, iMS, fsB, fsR, fsM⟩
  refine ⟨PySem.W.fnOf "law" "law" (defArgs sLaw) (defBody sLaw) (defScope sLaw) .none kV23 dc23 pm23 an23 cd23 ct23, fun s v => .of_eq rfl, fun base _ _ => ?_⟩
  have GI : FnOk l.prog w K mg base CX0 2 fC _ ["self", "name"] (spE1 C "name" "noname") := ok_noname FC TE TW (ok_who FW)
  have GRN : FnOk l.prog w K mg base (L2.CX l.prog w) 4 _ _ ["texts"] (spRN K C) := ok_rn F1 D0 (ok_name F0 T TN) TE bC GI
  have GRT : FnOk l.prog w K mg base CX0 2 _ _ ["names"] (spFT K) := ok_rt F3 T D2
  have GCP : FnOk l.prog w K mg base (L2.CX l.prog w) 5 _ _ ["name", "variables", "conditions", "given", "hands"] (spCP K C) := ok_cp F11 T TP D4 D1 D7 D3 D8 D6 D9 D10 GRN GRT
  have GB : FnOk l.prog w K mg base (L2.CX l.prog w) 6 fB _ ["self", "name", "variables", "conditions"] (spBar K C B) := ok_bar FB T TB D5 D11 GCP
  have GR : FnOk l.prog w K mg base (L2.CX l.prog w) 6 fR _ ["self", "name", "variables", "conditions", "gives", "by"] (spRul K C R) := ok_rul FR T TR D5 D11 GCP
  have GM : FnOk l.prog w K mg base (L2.CX l.prog w) 5 fM _ ["self", "maker", "made", "down", "up"] (spMak K C M) := ok_mak FM T TM D1 D3 GRN GRT
  have GPP : FnOk l.prog w K mg base CX0 2 _ _ ["kind", "pattern"] (spPP K) := ok_pp F13 D12
  have GRP : FnOk l.prog w K mg base CX0 3 _ _ ["rule"] (spRP K R) := ok_rp F14 TR D13 GPP
  have GMP : FnOk l.prog w K mg base CX0 1 _ _ ["making"] (spMP K M) := ok_mp F15 TM
  have GBS : FnOk l.prog w K mg base CX0 3 fBS _ ["self"] (spBS K B) := ok_bs FBS TB D13 GPP
  have GRS : FnOk l.prog w K mg base CX0 4 fRS _ ["self"] (spRS K R) := ok_rs (fR := fR) FRS D14 GRP
  have GMS : FnOk l.prog w K mg base CX0 2 fMS _ ["self"] (spMS K M) := ok_ms (fM := fM) FMS D15 GMP
  have GL : FnOk l.prog w K mg base CX0 2 _ _ ["_law_s"] spLong := ok_long F18 T D17
  have GN : FnOk l.prog w K mg base CX0 3 _ _ ["_law_s", "_law_many"] spNms := ok_nms F19 T D18 GL
  have GV : FnOk l.prog w K mg base CX0 4 _ _ ["_law_s"] (spVrs K) := ok_vrs F20 T D17 D18 D19 GL GN
  have GC : FnOk l.prog w K mg base CX0 3 _ _ ["_law_s", "_law_names_here"] (spCds K) := ok_cds F21 T (PySem.W.mg_none_of X G z_max) D17 D18 GL
  exact ok_law F23 T T8 TB TR TM D16 D17 D18 D19 D20 D21 D22 bB bR bM bBS bRS bMS GL GN GV GC GB GR GM GBS GRS GMS
end Wm
open PySem PySem.W PyProof.Rows in
set_option maxRecDepth 100000 in
set_option maxHeartbeats 0 in
theorem PySem.Challenge.cw_whomay_k08_rows_of_patterns_holds : PySem.Challenge.rw_whomay_k08_rows_of_patterns.Holds := by
  w_on; o_law; k_head; (case hw => w_witness2)
  k_fill
  refine L2.walk_of (n := 63) (k := 8) (x := "_law_script") (CX := fun _ => L2.CX0) (sp := fun w => Wm.spLaw _) (l := PySem.Challenge.rw_whomay_k08_rows_of_patterns) rfl (by decide) rfl ⟨rfl, by decide, by decide⟩ (fun w h Y => PySem.W.kIn_of Y) ?F (fun _ _ a ns hl _ hS => ⟨a, ns, rfl, hS, hl, fun _ => rfl⟩) fun _ _ _ _ _ z => z
  case F =>
    intro w mg fa h KX G hmg
    refine' Wm.all_mk KX G hmg ?a0 ?l0 ?c0 ?k0 ?a1 ?l1 ?c1 ?k1 ?a2 ?l2 ?c2 ?k2 ?a3 ?l3 ?c3 ?k3 ?a4 ?l4 ?c4 ?k4 ?a5 ?l5 ?c5 ?k5 ?a6 ?l6 ?c6 ?k6 ?a7 ?l7 ?c7 ?k7 ?a8 ?l8 ?c8 ?k8 ?a9 ?l9 ?c9 ?k9 ?a10 ?l10 ?c10 ?k10 ?a11 ?l11 ?c11 ?k11 ?a12 ?l12 ?c12 ?k12 ?a13 ?l13 ?c13 ?k13 ?a14 ?l14 ?c14 ?k14 ?a15 ?l15 ?c15 ?k15 ?a16 ?l16 ?c16 ?k16 ?a17 ?l17 ?c17 ?k17 ?a18 ?l18 ?c18 ?k18 ?a19 ?l19 ?c19 ?k19 ?a20 ?l20 ?c20 ?k20 ?a21 ?l21 ?c21 ?k21 ?a22 ?l22 ?c22 ?k22 ?a23 ?l23 ?c23 ?k23 ?gC ?iC ?lC ?cC ?kC ?gB ?iB ?lB ?cB ?kB ?gR ?iR ?lR ?cR ?kR ?gM ?iM ?lM ?cM ?kM ?iBS ?lBS ?cBS ?kBS ?iRS ?lRS ?cRS ?kRS ?iMS ?lMS ?cMS ?kMS ?gW ?mW ?lW ?cW ?kW ?dW ?rW ?sW ?xC ?saC ?exC ?tyC ?kpC ?tI ?nkC ?nnC ?pgB ?hdB ?poB ?saB ?mkB ?fnB ?kpB ?fsB ?pgR ?hdR ?poR ?saR ?mkR ?fnR ?kpR ?fsR ?pgM ?hdM ?poM ?saM ?mkM ?fnM ?kpM ?fsM ?nB_name ?nB_variables ?nB_conditions ?nR_name ?nR_variables ?nR_conditions ?nR_gives ?nR_by ?nM_maker ?nM_made ?nM_down ?nM_up ?z_abs ?z_int ?z_len ?z_range ?z_all ?z_tuple ?z_enumerate ?z_isinstance ?z_ve ?z_max ?z_str ?z_list ?v_LETTERS ?v_FIGURES ?v_LONGEST_NAME ?v_MOST_VARIABLES ?v_MOST_CONDITIONS
    (case a0 => k_is)
    (case l0 => k_is)
    (case c0 => k_is)
    (case k0 => k_is)
    (case a1 => k_is)
    (case l1 => k_is)
    (case c1 => k_is)
    (case k1 => k_is)
    (case a2 => k_is)
    (case l2 => k_is)
    (case c2 => k_is)
    (case k2 => k_is)
    (case a3 => k_is)
    (case l3 => k_is)
    (case c3 => k_is)
    (case k3 => k_is)
    (case a4 => k_is)
    (case l4 => k_is)
    (case c4 => k_is)
    (case k4 => k_is)
    (case a5 => k_is)
    (case l5 => k_is)
    (case c5 => k_is)
    (case k5 => k_is)
    (case a6 => k_is)
    (case l6 => k_is)
    (case c6 => k_is)
    (case k6 => k_is)
    (case a7 => k_is)
    (case l7 => k_is)
    (case c7 => k_is)
    (case k7 => k_is)
    (case a8 => k_is)
    (case l8 => k_is)
    (case c8 => k_is)
    (case k8 => k_is)
    (case a9 => k_is)
    (case l9 => k_is)
    (case c9 => k_is)
    (case k9 => k_is)
    (case a10 => k_is)
    (case l10 => k_is)
    (case c10 => k_is)
    (case k10 => k_is)
    (case a11 => k_is)
    (case l11 => k_is)
    (case c11 => k_is)
    (case k11 => k_is)
    (case a12 => k_is)
    (case l12 => k_is)
    (case c12 => k_is)
    (case k12 => k_is)
    (case a13 => k_is)
    (case l13 => k_is)
    (case c13 => k_is)
    (case k13 => k_is)
    (case a14 => k_is)
    (case l14 => k_is)
    (case c14 => k_is)
    (case k14 => k_is)
    (case a15 => k_is)
    (case l15 => k_is)
    (case c15 => k_is)
    (case k15 => k_is)
    (case a16 => k_is)
    (case l16 => k_is)
    (case c16 => k_is)
    (case k16 => k_is)
    (case a17 => k_is)
    (case l17 => k_is)
    (case c17 => k_is)
    (case k17 => k_is)
    (case a18 => k_is)
    (case l18 => k_is)
    (case c18 => k_is)
    (case k18 => k_is)
    (case a19 => k_is)
    (case l19 => k_is)
    (case c19 => k_is)
    (case k19 => k_is)
    (case a20 => k_is)
    (case l20 => k_is)
    (case c20 => k_is)
    (case k20 => k_is)
    (case a21 => k_is)
    (case l21 => k_is)
    (case c21 => k_is)
    (case k21 => k_is)
    (case a22 => k_is)
    (case l22 => k_is)
    (case c22 => k_is)
    (case k22 => k_is)
    (case a23 => k_is)
    (case l23 => k_is)
    (case c23 => k_is)
    (case k23 => k_is)
    (case gC => k_is)
    (case iC => k_is)
    (case lC => k_is)
    (case cC => k_is)
    (case kC => k_is)
    (case gB => k_is)
    (case iB => k_is)
    (case lB => k_is)
    (case cB => k_is)
    (case kB => k_is)
    (case gR => k_is)
    (case iR => k_is)
    (case lR => k_is)
    (case cR => k_is)
    (case kR => k_is)
    (case gM => k_is)
    (case iM => k_is)
    (case lM => k_is)
    (case cM => k_is)
    (case kM => k_is)
    (case iBS => k_is)
    (case lBS => k_is)
    (case cBS => k_is)
    (case kBS => k_is)
    (case iRS => k_is)
    (case lRS => k_is)
    (case cRS => k_is)
    (case kRS => k_is)
    (case iMS => k_is)
    (case lMS => k_is)
    (case cMS => k_is)
    (case kMS => k_is)
    (case gW => k_is)
    (case mW => k_is)
    (case lW => k_is)
    (case cW => k_is)
    (case kW => k_is)
    (case dW => k_is)
    (case rW => k_is)
    (case sW => k_is)
    (case xC => k_is)
    (case saC => k_is)
    (case exC => k_is)
    (case tyC => k_is)
    (case kpC => k_is)
    (case tI => k_is)
    (case nkC => k_is)
    (case nnC => k_is)
    (case pgB => k_is)
    (case hdB => k_is)
    (case poB => k_is)
    (case saB => k_is)
    (case mkB => k_is)
    (case fnB => k_is)
    (case kpB => k_is)
    (case fsB => k_is)
    (case pgR => k_is)
    (case hdR => k_is)
    (case poR => k_is)
    (case saR => k_is)
    (case mkR => k_is)
    (case fnR => k_is)
    (case kpR => k_is)
    (case fsR => k_is)
    (case pgM => k_is)
    (case hdM => k_is)
    (case poM => k_is)
    (case saM => k_is)
    (case mkM => k_is)
    (case fnM => k_is)
    (case kpM => k_is)
    (case fsM => k_is)
    (case nB_name => k_is)
    (case nB_variables => k_is)
    (case nB_conditions => k_is)
    (case nR_name => k_is)
    (case nR_variables => k_is)
    (case nR_conditions => k_is)
    (case nR_gives => k_is)
    (case nR_by => k_is)
    (case nM_maker => k_is)
    (case nM_made => k_is)
    (case nM_down => k_is)
    (case nM_up => k_is)
    (case z_abs => k_is)
    (case z_int => k_is)
    (case z_len => k_is)
    (case z_range => k_is)
    (case z_all => k_is)
    (case z_tuple => k_is)
    (case z_enumerate => k_is)
    (case z_isinstance => k_is)
    (case z_ve => k_is)
    (case z_max => k_is)
    (case z_str => k_is)
    (case z_list => k_is)
    (case v_LETTERS => k_is)
    (case v_FIGURES => k_is)
    (case v_LONGEST_NAME => k_is)
    (case v_MOST_VARIABLES => k_is)
    (case v_MOST_CONDITIONS => k_is)
