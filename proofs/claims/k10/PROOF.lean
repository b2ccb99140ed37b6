import PyProof.Rows.All
import Wide.All
import OpenK.AllK
import Wide.FinOn
import HandS.ForMost
import HandS.ForExc
import HandS.Walk
import HandS.Star
import HandS.Style
import HandS.TupAny
import HandS.ExcInit
import HandS.ExcIs
import HandS.ExcField
import HandS.Defaults
import HandS.Wide
import HandS.ClsMeth
import KE.KExcIs
import HandS.FStr
import KE.KIsAll
import PySem.Challenge.RW_whomay_k10_refusals_told
set_option Elab.async false
set_option linter.all false
set_option maxRecDepth 100000
set_option maxHeartbeats 4000000
namespace Wm
open PySem L2
def top (i : Nat) : Stmt := PySem.Challenge.pw_whomay_k10_refusals_told.main.body.getD i (.Pass ⟨0, 0, 0, 0⟩)
abbrev sState : Stmt := top 32
abbrev sDigit : Stmt := top 33
/-- the digits' state at p -/
def StOk (H : Hp) (p : Addr) : Prop := ∃ a b c : Int, H p = some (.lst [.int a, .int b, .int c]) ∧ 0 ≤ a ∧ 0 ≤ b ∧ b ≤ 2147483636 ∧ 0 ≤ c ∧ c < 2147483648
/-- all that was tracked is as it was, but at p -/
def But (p : Addr) (H H' : Hp) : Prop := ∀ q o, q ≠ p → H q = some o → H' q = some o
theorem But.refl (p : Addr) (H : Hp) : But p H H := fun _ _ _ h => h
theorem But.trans {p : Addr} {H H1 H2 : Hp} (a : But p H H1) (b : But p H1 H2) : But p H H2 := fun q o n h => b q o n (a q o n h)
theorem But.upd {p : Addr} {H : Hp} {o : HO} : But p H (upd H p o) := fun q o n h => by rw [upd_ne n]; exact h
theorem Same.but {p : Addr} {H H1 : Hp} (a : Same H H1) : But p H H1 := fun q o _ h => a q o h
theorem Same.upd {p : Addr} {H : Hp} {o : HO} (n : H p = none) : Same H (upd H p o) := fun q o h => by rw [upd_ne (ne_of_none h n)]; exact h
theorem But.same {p : Addr} {H0 H H1 : Hp} (n : H0 p = none) (a : Same H0 H) (b : But p H H1) : Same H0 H1 := fun q o h => b q o (ne_of_none h n) (a q o h)
def spState : Sp := fun vs H Q _ => ∃ i : Int, vs = [.int i] ∧ ∀ p H', H p = none → Same H H' → StOk H' p → Q (.ref p) H'
def spDigit : Sp := fun vs H Q _ => ∃ (p : Addr) (n : Int), vs = [.ref p, .int n] ∧ StOk H p ∧ 0 < n ∧ n < 1073741824 ∧ ∀ (d : Int) H', 0 ≤ d → d < n → But p H H' → StOk H' p → Q (.int d) H'
structure TxB (mg : Str → Option Value) : Prop where
  abs : mg "abs" = none
  int : mg "int" = none
  len : mg "len" = none
  range : mg "range" = none
  all : mg "all" = none
  tuple : mg "tuple" = none
  enumerate : mg "enumerate" = none
  isinstance : mg "isinstance" = none
  ve : mg "ValueError" = none
section
variable {P : Program} {w : World} {K : PySem.W.Frag} {mg : Str → Option Value} {base : Heap}
theorem scState : FnScope ["_law_cell"] ["_law_cell"] (defScope sState) := ⟨rfl, rfl, rfl, by decide +kernel, rfl, by decide +kernel, by decide +kernel⟩
theorem ok_state {f : Addr} {fd : FuncData} (F : Fun K "_law_state" "_law_state" sState f fd) (T : TxB mg) : FnOk P w K mg base CX0 1 f fd ["_law_cell"] spState := by
  refine F.ok scState (fun vs H Q E h => ?_) (fun cdv A outer s H vs Q E hr h => ?_)
  · obtain ⟨i, rfl, _⟩ := h
    rfl
  · obtain ⟨i, rfl, k⟩ := h
    refine ⟨_, pss_cons (ps_set (i := 0) scState.nd rfl (Or.inl rfl) (pe_callB call_abs (by rfl) T.abs (by decide +kernel) (pa_cons (pv 0) pa_nil)))
      (pss_one (ps_ret (pe_lst (pa_cons (pe_op op_mul (pv 0) (pe_callTy call_int1 (by rfl) T.int (by decide +kernel) (pa_cons (pe_cmpR op_ge (pv 0) (pe_op op_pow pe_int pe_int) (nomark _)) pa_nil)))
        (pa_cons (pe_op op_add (pe_op op_mod (pv 0) pe_int) pe_int) (pa_cons (pe_op op_mod (pv 0) pe_int) pa_nil)))))), ?_⟩
    refine ⟨_, rfl, _, rfl, ?_⟩
    generalize hj : (if i < 0 then -i else i) = j
    have hj0 : 0 ≤ j := by rw [← hj]; split <;> omega
    refine ⟨_, rfl, _, rfl, _, _, rfl, rfl, ⟨by decide, by decide, by decide⟩, _, _, rfl, rfl, .inr ⟨_, rfl, ?_⟩⟩
    refine ⟨_, _, rfl, rfl, .inr ⟨?_, ?_⟩, _, rfl, _, _, rfl, rfl, (by show (0 : Int) < 2147483629; decide), _, _, rfl, rfl, _, rfl, _, _, rfl, rfl, (by show (0 : Int) < 2147483587; decide), (by show 3 ≤ sizeLine; decide), fun p hp => ?_⟩
    · split <;> decide
    · split <;> decide
    · refine k p _ hp (Same.upd hp) ⟨_, _, _, upd_same, ?_, ?_, ?_, ?_, ?_⟩
      · split
        · omega
        · omega
      · have := Int.emod_nonneg j (show (2147483629 : Int) ≠ 0 by decide); omega
      · have := Int.emod_lt_of_pos j (show (0 : Int) < 2147483629 by decide); omega
      · exact Int.emod_nonneg j (by decide)
      · have := Int.emod_lt_of_pos j (show (0 : Int) < 2147483587 by decide); omega
theorem scDigit : FnScope ["_law_state_here", "_law_base", "_law_found", "_law_more"] ["_law_state_here", "_law_base"] (defScope sDigit) := ⟨rfl, rfl, rfl, by decide +kernel, rfl, by decide +kernel, by decide +kernel⟩
theorem ok_digit {f : Addr} {fd : FuncData} (F : Fun K "_law_digit" "_law_digit" sDigit f fd) : FnOk P w K mg base CX0 1 f fd ["_law_state_here", "_law_base"] spDigit := by
  refine F.ok scDigit (fun vs H Q E h => ?_) (fun cdv A outer s H vs Q E hr h => ?_)
  · obtain ⟨p, n, rfl, _⟩ := h
    rfl
  · obtain ⟨p, n, rfl, ⟨a, b, c, hp, ha, hb, hb2, hc, hc2⟩, hn, hn2, k⟩ := h
    refine ⟨_, pss_cons (ps_if (pt_cmpR op_gt (pe_ix ix_list (pv 0) pe_int (fun _ _ => rfl)) pe_int (nomark _))
        (pss_cons (ps_set (i := 2) scDigit.nd rfl (Or.inl rfl) (pe_op op_mod (pe_ix ix_list (pv 0) pe_int (fun _ _ => rfl)) (pv 1)))
          (pss_cons (ps_asg (pe_op op_fdiv (pe_ix ix_list (pv 0) pe_int (fun _ _ => rfl)) (pv 1)) (pg_sub (pv 0) pe_int set_list)) (pss_one (ps_ret (pv 2))))) pss_nil)
      (pss_cons (ps_set (i := 3) scDigit.nd rfl (Or.inl rfl) (pe_op op_mul (pe_ix ix_list (pv 0) pe_int (fun _ _ => rfl)) (pe_op op_add (pe_op op_fdiv (pe_ix ix_list (pv 0) pe_int (fun _ _ => rfl)) pe_int) pe_int)))
      (pss_cons (ps_asg (pe_op op_add (pe_op op_mod (pe_op op_add (pv 3) (pe_ix ix_list (pv 0) pe_int (fun _ _ => rfl))) pe_int) pe_int) (pg_sub (pv 0) pe_int set_list))
      (pss_one (ps_ret (pe_op op_mod (pe_op op_fdiv (pe_ix ix_list (pv 0) pe_int (fun _ _ => rfl)) pe_int) (pv 1)))))), ?_⟩
    refine ⟨_, rfl, p, _, _, _, rfl, rfl, SqL.of hp, atI_nat (j := 0) rfl, _, _, rfl, rfl, _, rfl, ?_⟩
    refine ite2 (fun h0 => ?_) (fun h0 => ?_)
    · refine ⟨_, rfl, p, _, _, _, rfl, rfl, SqL.of hp, atI_nat (j := 0) rfl, _, rfl, _, _, rfl, rfl, hn, ?_⟩
      refine ⟨_, rfl, p, _, _, _, rfl, rfl, SqL.of hp, atI_nat (j := 0) rfl, _, rfl, _, _, rfl, rfl, ⟨hn, hn2⟩, _, rfl, p, _, _, 0, rfl, rfl, hp, rfl, _, rfl, ?_⟩
      refine k _ _ (Int.emod_nonneg a (by omega)) (Int.emod_lt_of_pos a hn) But.upd ⟨_, _, _, upd_same, ?_, hb, hb2, hc, hc2⟩
      exact Int.ediv_nonneg ha (by omega)
    · refine ⟨_, rfl, p, _, _, _, rfl, rfl, SqL.of hp, atI_nat (j := 1) rfl, _, rfl, p, _, _, _, rfl, rfl, SqL.of hp, atI_nat (j := 1) rfl, _, _, rfl, rfl, ⟨by decide, by decide⟩, _, _, rfl, rfl, _, _, rfl, rfl, .inl ⟨?_, ?_⟩, ?_⟩
      · omega
      · omega
      refine ⟨_, rfl, _, rfl, p, _, _, _, rfl, rfl, SqL.of hp, atI_nat (j := 2) rfl, _, _, rfl, rfl, _, _, rfl, rfl, (by show (0 : Int) < 2147483629; decide), _, _, rfl, rfl, _, rfl, p, _, _, 1, rfl, rfl, hp, rfl, ?_⟩
      generalize hm : (b * (b / 1009 + 69621) + c) % 2147483629 = m
      have hm0 : 0 ≤ m := by rw [← hm]; exact Int.emod_nonneg _ (by decide)
      have hm1 : m < 2147483629 := by rw [← hm]; exact Int.emod_lt_of_pos _ (by decide)
      refine ⟨_, rfl, p, _, _, _, rfl, rfl, SqL.of upd_same, atI_nat (j := 1) rfl, _, _, rfl, rfl, ⟨by decide, by decide⟩, _, rfl, _, _, rfl, rfl, hn, ?_⟩
      exact k _ _ (Int.emod_nonneg _ (by omega)) (Int.emod_lt_of_pos _ hn) But.upd ⟨_, _, _, upd_same, ha, by omega, by omega, hc, hc2⟩
end
end Wm
namespace Wm
open PySem L2
/-- a def of the module's top -/
structure Dn (K : PySem.W.Frag) (mg : Str → Option Value) (x : Str) (st : Stmt) (ps : List Str) (f : Addr) (fd : FuncData) : Prop where
  F : Fun K x x st f fd
  g : mg x = some (.ref f)
  b : Binds K fd ps []
theorem str_at (z : Str) {i : Int} (h0 : 0 ≤ i) (h1 : i < z.length) : ∃ c, z.cps[i.toNat]? = some c := by
  have h : i.toNat < z.cps.size := by
    have e : z.length = z.cps.size := rfl
    omega
  exact ⟨z.cps[i.toNat], Array.getElem?_eq_getElem h⟩
/-- every sign is one of unicode's -/
def okS (z : Str) : Prop := ∀ c ∈ z.cps.toList, c < 1114112
theorem okS_one {c : Nat} (h : c < 1114112) : okS ⟨#[c]⟩ := fun d hd => by
  have e : d = c := by simpa using hd
  rw [e]
  exact h
theorem okS_app {a b : Str} (ha : okS a) (hb : okS b) : okS (a ++ b) := fun c hc => by
  have e : (a ++ b).cps.toList = a.cps.toList ++ b.cps.toList := by
    show (a.cps ++ b.cps).toList = _
    simp
  rw [e] at hc
  rcases List.mem_append.mp hc with h | h
  · exact ha c h
  · exact hb c h
theorem rdItem {z : Str} {i : Int} {n : Nat} {H : Hp} {Q : VK} (hz : z.length = n) (h0 : 0 ≤ i) (h1 : i < n) (hn : n < 1000000) (h : ∀ c, z.cps.toList[i.toNat]? = some c → Q (.str ⟨#[c]⟩) H) : rIxS (.str z) (.int i) H Q := by
  have h2 : i < z.length := by rw [hz]; exact h1
  obtain ⟨c, hc⟩ := str_at z h0 h2
  have hl : z.cps.toList[i.toNat]? = some c := by simpa using hc
  have e : i = ((i.toNat : Nat) : Int) := by omega
  refine ⟨z, i, c, rfl, rfl, by rw [hz]; exact Nat.le_trans (Nat.le_of_lt hn) (by decide), ?_, h c hl⟩
  rw [e]
  exact atI_nat hl
theorem abcOk : ∀ c ∈ (PySem.Str.ofString "abcdefghijklmnopqrstuvwxyz0123456789").cps.toList, c < 1114112 := by decide +kernel
theorem abc36 : (PySem.Str.ofString "abcdefghijklmnopqrstuvwxyz0123456789").length = 36 := by decide +kernel
theorem len_app (a b : Str) : (a ++ b).length = a.length + b.length := by
  show (a.cps ++ b.cps).size = a.cps.size + b.cps.size
  exact Array.size_append
theorem len_one (c : Nat) : (⟨#[c]⟩ : Str).length = 1 := rfl
def spSign : Sp := fun vs H Q _ => ∃ i : Int, vs = [.int i] ∧ ∀ c, c < 1114112 → Q (.str ⟨#[c]⟩) H
def spPlain : Sp := fun vs H Q _ => ∃ (p : Addr) (n : Int), vs = [.ref p, .int n] ∧ StOk H p ∧ 1 ≤ n ∧ n ≤ 15 ∧ ∀ (z : Str) H', z.length ≤ 15 → okS z → But p H H' → StOk H' p → Q (.str z) H'
def spText : Sp := fun vs H Q _ => ∃ (p : Addr), vs = [.ref p] ∧ StOk H p ∧ ∀ (z : Str) H', z.length ≤ 40 → okS z → But p H H' → StOk H' p → Q (.str z) H'
section
variable {P : Program} {w : World} {K : PySem.W.Frag} {mg : Str → Option Value} {base : Heap}
end
end Wm
namespace Wm
open PySem L2
theorem strs_at {zs : List Str} {n : Nat} (h : ∀ z ∈ zs, z.length ≤ n) (ho : ∀ z ∈ zs, ∀ c ∈ z.cps.toList, c < 1114112) {j : Nat} (hj : j < zs.length) : ∃ z, (zs.map V.str)[j]? = some (.str z) ∧ z.length ≤ n ∧ okS z :=
  ⟨zs[j], by simp [hj], h _ (List.getElem_mem hj), ho _ (List.getElem_mem hj)⟩
theorem okS_cut {z : Str} (h : okS z) (lo hi : Option Int) : okS (cutS z lo hi) := fun c hc => by
  have hc' : c ∈ (z.cps.toList.drop (HT.sIx z.length 0 lo)).take (HT.sIx z.length z.length hi - HT.sIx z.length 0 lo) := hc
  exact h c (List.mem_of_mem_drop (List.mem_of_mem_take hc'))
theorem okS_join {a : Str} {ys : List Str} (ha : okS a) (h : ∀ y ∈ ys, okS y) : okS (Txt.join a ys) := by
  have e : Txt.join a ys = Str.join a ys := StrLaws.glued_eq_join a ys
  rw [e]
  clear e
  induction ys with
  | nil => exact fun c hc => (List.not_mem_nil (show c ∈ ([] : List Nat) from hc)).elim
  | cons y r ih =>
    cases r with
    | nil => exact h y List.mem_cons_self
    | cons z r =>
      show okS (y ++ a ++ Str.join a (z :: r))
      exact okS_app (okS_app (h y List.mem_cons_self) ha) (ih fun x hx => h x (List.mem_cons_of_mem _ hx))
theorem rdList {K : PySem.W.Frag} {p : Addr} {xs : List V} {i : Int} {j : Nat} {v : V} {H : Hp} {Q : VK} (hp : H p = some (.lst xs)) (e : i = (j : Int)) (hv : xs[j]? = some v) (h : Q v H) : rIxL K (.ref p) (.int i) H Q :=
  ⟨p, xs, i, v, rfl, rfl, SqL.of hp, at_of e hv, h⟩
theorem But.free {p D : Addr} {H H' : Hp} (b : But p H H') (n : D ≠ p) (h : H' D = none) : H D = none := by
  cases e : H D with
  | none => rfl
  | some o =>
    rw [b D o n e] at h
    cases h
theorem sum_ones : ∀ {ys : List Str}, (∀ y ∈ ys, y.length = 1) → (ys.map (·.length)).sum = ys.length
  | [], _ => rfl
  | y :: ys, h => by
    rw [List.map_cons, List.sum_cons, List.length_cons, h y List.mem_cons_self, sum_ones fun z hz => h z (List.mem_cons_of_mem _ hz)]
    omega
theorem join_len (a : Str) (ys : List Str) : (Txt.join a ys).length ≤ (ys.map (·.length)).sum + ys.length * a.length := by
  show (Builtin.Str.glued a ys).length ≤ _
  rw [StrLaws.glued_eq_join]
  exact StrLaws.join_length_le a ys
section
variable {P : Program} {w : World} {K : PySem.W.Frag} {mg : Str → Option Value} {base : Heap}
end
end Wm
namespace Wm
open PySem PySem.Spec PyProof.Rows L2 ClX
section
variable {X : Cx} {CX : CXT} {k : Nat} {C f : Addr} {fd : FuncData} {ps : List Str} {sp : Sp} {E : XK} {e : Expr} {es : List Expr} {t : TA} {x m : Str} {p1 p2 pos : Pos} {ds : List Value} {dvs : List V}
/-- C.f(e, ..), f a def of the class C -/
theorem pe_clsFn {pl : Sem Bool} {mc : Value} (hg : Gl X x) (hm : X.mg x = some (.ref C)) (r : CRead X.K C mc) (ht : PySem.W.findCls X.K (.ref C) mc m = some (.val (.ref f))) (hk : PySem.W.keepIn X.K (.ref f) = true) (F : FnOk X.prog X.w X.K X.mg X.base CX k f fd ps sp)
    (hr : Room k X.A) (hb : Binds X.K fd ps ds) (hd : Vals dvs ds) (hx : Passes CX X E) (ha : PA X (e :: es) t)
    (hc : eval (.Call (.Attribute (.Name x p1) m p2) (e :: es) [] pos) X.env = (do
      let ov ← eval (.Name x p1) X.env
      standAt p2.atName
      let (f, first) ← holding [ov] (getMethod ov m pl)
      callWith pos f first (backTo pos (starEach (e :: es) X.env)) (backToKw pos (keywordEach [] X.env))) := by rfl)
    (hdb : (x == ("__debug__" : Str)) = false := by decide) (he : starEach (e :: es) X.env = (false, eval e X.env) :: starEach es X.env := by rfl) (hpl : (backTo pos (starEach es X.env)).any (·.1) = false := by rfl) :
    PE X (.Call (.Attribute (.Name x p1) m p2) (e :: es) [] pos) (tCall sp dvs E t) := by
  refine ⟨fun pins s σ H Q I h => ?_⟩
  refine PySem.W.methodCall_KW (ld_glob I hg hm ?_ hdb) hc
  refine PySem.W.method_cls I.kIn r.ga (PySem.W.cls_value I.kIn r.rd ht rfl ?_)
  show wpAny _ _ (callWith pos (Value.ref f) [] (backTo pos (starEach (e :: es) X.env)) []) _ _ _
  refine PySem.W.callWith_K (h₀ := X.base) I.ok.mod.kin hk (thn (ha.run pos pins _ σ H _ (I.tok _) h) fun us s1 ⟨vs, H1, I1, r1, q⟩ => ⟨I1.kIn, ?_⟩) he hpl
  exact run_fn F hr hb hd hx I1 r1 q
/-- xs + ys, both to be read -/
def rCatR (K : PySem.W.Frag) : R2 := fun x y H Q => ∃ l b xs zs, x = .ref l ∧ y = .ref b ∧ SqL K H l xs ∧ SqL K H b zs ∧ xs.length + zs.length ≤ sizeLine ∧ ∀ p, H p = none → Q (.ref p) (upd H p (.lst (xs ++ zs)))
theorem op_catR : OpR X (binaryOp .Add) (rCatR X.K) := by
  intro pins s σ H x y v u Q I rx ry h
  obtain ⟨l, b, xs, zs, rfl, rfl, hH, hB, hz, q⟩ := h
  cases rx
  cases ry
  obtain ⟨its, r, e, hl⟩ := I.list hH
  obtain ⟨its2, r2, e2, hl2⟩ := I.list hB
  have l1 := r.length
  have l2 := r2.length
  obtain ⟨⟨cls, dd, data, sl⟩, ho, hc, n, hd⟩ := e.isList
  obtain ⟨⟨cls2, dd2, data2, sl2⟩, ho2, hc2, n2, hd2⟩ := e2.isList
  simp only at hc hd hc2 hd2
  subst hc hd hc2 hd2
  refine concat_meets ⟨_, ho, rfl⟩ ⟨_, ho2, rfl⟩ noFill_list_add seq_list_add PySem.F.slot_list_add PySem.F.entry_list_add (PySem.F.args_list_add_2 _ _) (list_addW l b its.toArray its2.toArray n n2 dd dd2 sl sl2 (by rw [List.size_toArray, List.size_toArray]; omega)) ⟨ho, ho2, ?_⟩
  have ea : its.toArray ++ its2.toArray = (its ++ its2).toArray := by simp
  rw [ea]
  exact ⟨.ref _, _, I.lnew (t' := s.toks) (r.append r2) (by rw [List.length_append]; omega), rfl, q _ I.fresh⟩
end
end Wm
namespace Wm
open PySem PySem.Spec PyProof.Rows L2 ClX
/-- isinstance(e, c) in an except suite, e the exception that it holds (its class D, its dict at dd) -/
def rIsX (K : PySem.W.Frag) (D a dd : Addr) : List V → Hp → VK → Prop := fun xs H Q => ∃ (c : V) (cv : Value) (b : Bool) (fs : List (Str × V)), xs = [.ref a, c] ∧ H dd = some (.xd fs) ∧ (∀ u, RelV c u → u = cv) ∧ PySem.W.kitOne K (.ref D) cv = some b ∧ Q (.bl b) H
theorem call_isX {X : Cx} {a D dd : Addr} {oe : Obj} {pn : List (Addr × Obj)} (C : ExcC X.K D) (hz : Zc (.ref D) (some dd) oe) (hf : ∃ vs, oe.data = .fields vs) : CallR (X.suite a ((a, oe) :: pn)) (.builtin "isinstance") (rIsX X.K D a dd) := by
  intro pins s σ H xs us Q I r h
  obtain ⟨c, cv, b, fs, rfl, hdd, hcv, e, q⟩ := h
  cases r with
  | cons rx rr =>
    cases rr with
    | cons rt rr =>
      cases rr
      cases rx
      have ec := hcv _ rt
      subst ec
      obtain ⟨hget, _⟩ := I.pin (a, oe) (List.mem_append.mpr (.inl List.mem_cons_self))
      obtain ⟨vs, hv⟩ := hf
      have hx : ObjOk X.prog X.w H s.heap dd (.xd fs) := I.hok dd _ hdd
      obtain ⟨mA, hns, hr⟩ := hx
      obtain ⟨od, ho, hl⟩ := lookIn_ns hns
      have J : PySem.W.InstAt s.heap a oe D (some od) := ⟨hget, hz.1, by unfold PySem.W.notCls; rw [hv] <;> rfl, by rw [hz.2]; exact ho⟩
      have hcl : (PySem.W.clsIn X.K D).isSome = true := by
        obtain ⟨cd, hc, _⟩ := PySem.W.any_some C.hd
        rw [hc]
        rfl
      exact PySem.W.kia_one (PySem.W.kitx_exc hcl C.hg C.hk C.hs C.ha C.hn C.ht C.hm) I.kIn J e (fun z => nomatch z) fun tk => ⟨.bl b, H, I.kept (t' := tk) fun _ _ z => z, rfl, q⟩
/-! ### errors of one field -/
def spWI (K : PySem.W.Frag) : Sp := fun vs H Q _ => ∃ (a C : Addr) (v : V), vs = [.ref a, v] ∧ OexC K C ∧ PySem.W.findIn K (.ref C) "kind" = some none ∧ H a = some (exo a C none) ∧ ∀ dx, H dx = none → dx ≠ a → Q .non (upd (upd H dx (exd dx [("kind", v)])) a (exo a C (some dx)))
/-- the dict of an error of one field -/
def ef1 (f kd : Str) (v : V) : List (Str × V) := [(f, v), ("kind", .str kd)]
def spE1 (C : Addr) (f kd : Str) : Sp := fun vs H Q _ => ∃ (a : Addr) (v : V), vs = [.ref a, v] ∧ H a = some (exo a C none) ∧ ∀ dx H', H dx = none → dx ≠ a → (∀ b o, b ≠ a → H b = some o → H' b = some o) → H' a = some (exo a C (some dx)) → H' dx = some (exd dx (ef1 f kd v)) → Q .non H'
/-- what is known of WhoError -/
structure WhoT (K : PySem.W.Frag) (mg : Str → Option Value) (W f0 : Addr) (fd0 : FuncData) : Prop where
  g : mg "WhoError" = some (.ref W)
  r : CRead K W (.type "type")
  m : PySem.W.findCls K (.ref W) (.type "type") "__init__" = some (.val (.ref f0))
  k : PySem.W.keepIn K (.ref f0) = true
  b : Binds K fd0 ["self", "kind"] []
/-- what is known of an error class of one field -/
structure ErrT (K : PySem.W.Frag) (mg : Str → Option Value) (x f : Str) (C fI : Addr) : Prop where
  o : OexC K C
  g : mg x = some (.ref C)
  iC : PySem.W.findIn K (.ref C) "__init__" = some (some (.ref fI))
  tI : PySem.W.typeIn K (.ref fI) = some (.type "function")
  nk : PySem.W.findIn K (.ref C) "kind" = some none
  nf : PySem.W.findIn K (.ref C) f = some none
end Wm
namespace Wm
open PySem PySem.Spec PyProof.Rows L2 ClX
/-! ### an exception that is kept as a value, not raised -/
/-- C(e, ..) -/
def tMkV (C : Addr) (sp : Sp) (ta : TA) : TE := fun σ H Q => ta σ H fun vs H1 => vs.length ≤ 1000 ∧ ∀ a, H1 a = none → sp (.ref a :: vs) (upd H1 a (exo a C none)) (fun v H2 => v = .non ∧ Q (.ref a) H2) (fun _ _ _ => False)
section
variable {X : Cx} {k : Nat} {C fI : Addr} {fd : FuncData} {ps : List Str} {sp : Sp} {e : Expr} {es : List Expr} {ta : TA} {te : TE} {x : Str} {p pos apos : Pos}
theorem run_oex {pins : List (Addr × Obj)} {σ : L2.St} {H1 : Hp} {s1 : Shared} {Q : VK} {us : List Value} {vs : List V} (T : OexC X.K C) (iC : PySem.W.findIn X.K (.ref C) "__init__" = some (some (.ref fI))) (tI : PySem.W.typeIn X.K (.ref fI) = some (.type "function"))
    (F1 : FnOk X.prog X.w X.K X.mg X.base CX0 k fI fd ps sp) (hr : Room (k + 1) X.A) (hb : Binds X.K fd ps []) (I1 : Inv X pins σ H1 s1) (r1 : Vals vs us) (hz : vs.length ≤ 1000)
    (q1 : ∀ a, H1 a = none → sp (.ref a :: vs) (upd H1 a (exo a C none)) (fun v H2 => v = .non ∧ Q (.ref a) H2) (fun _ _ _ => False)) :
    wpAny (model X.prog X.w) X.A (call (.ref C) us) (EP X pins σ Q) X.xe s1 := by
  obtain ⟨nm, q, N, bs, bm, sn, sub, ab, col, dd, k0, k1, k2, k3, k5, hC, hbm⟩ := T.cls
  obtain ⟨hp, g, dr, tk, os⟩ := s1
  have hsz : hp.objs.size ≤ hp.objs.size + 1 := Nat.le_succ _
  have hn : H1 (hp.objs.size + 1) = none := I1.hok.fresh hsz
  have hq := q1 (hp.objs.size + 1) hn
  have kk : ∀ b o, hp.get? b = some o → ((hp.push (PySem.W.kdv_tup us)).push (PySem.HandSPX.excO C hp.objs.size)).get? b = some o := fun b o e => Heap.get?_push_of_some _ (Heap.get?_push_of_some _ e)
  have hget : ((hp.push (PySem.W.kdv_tup us)).push (PySem.HandSPX.excO C hp.objs.size)).get? (hp.objs.size + 1) = some (PySem.HandSPX.excO C hp.objs.size) := by heap_get
  have I2 : Inv X pins σ (upd H1 (hp.objs.size + 1) (exo (hp.objs.size + 1) C none)) ⟨(hp.push (PySem.W.kdv_tup us)).push (PySem.HandSPX.excO C hp.objs.size), g, dr, tk, os⟩ :=
    I1.laid (t' := tk) (a := hp.objs.size + 1) (o := exo (hp.objs.size + 1) C none) (h' := (hp.push (PySem.W.kdv_tup us)).push (PySem.HandSPX.excO C hp.objs.size)) kk hsz (exo_ok hget)
  have r2 : Vals (V.ref (hp.objs.size + 1) :: vs) (Value.ref (hp.objs.size + 1) :: us) := .cons rfl r1
  have hl : (Value.ref (hp.objs.size + 1) :: us ++ []).length = ps.length := by
    have e := r2.length
    rw [F1.len _ _ _ _ hq] at e
    rw [List.append_nil]
    exact e.symm
  have hus : us.length ≤ sizeLine := by
    rw [← Paired.length r1, sizeLine_eq]
    omega
  have hb2 := hb _ (Value.ref (hp.objs.size + 1) :: us) I2.kIn hl
  rw [List.append_nil] at hb2
  refine wpAny_call (PySem.HandSPX.call_own F.excBase_ValueError (fun Y => PySem.HandSPX.refsVE_contains Y bm hbm) (I1.kIn _ _ hC) (PySem.W.looks_findIn I1.kIn iC) (fun self => PySem.W.bind_fn I1.kIn self tI) hus
    (codeAny_mono (F1.run _ X.stack _ _ ⟨Value.ref (hp.objs.size + 1) :: us, []⟩ (Value.ref (hp.objs.size + 1) :: us) _ _ (fun _ _ _ => False) (hr.make C us []) (I2.env0.make C us []) hb2 r2 hq) fun r s' hq' => ?_))
  cases r with
  | error er => exact hq'.elim
  | ok fl =>
    cases fl with
    | ret u =>
      obtain ⟨v, H', I3, rv, ev, q3⟩ := I2.after hq'
      subst ev
      exact ⟨rv, ⟨V.ref (hp.objs.size + 1), H', I3, rfl, q3⟩⟩
    | next => exact False.elim hq'
    | brk => exact False.elim hq'
    | cont => exact False.elim hq'
theorem pe_oex (T : OexC X.K C) (iC : PySem.W.findIn X.K (.ref C) "__init__" = some (some (.ref fI))) (tI : PySem.W.typeIn X.K (.ref fI) = some (.type "function"))
    (F1 : FnOk X.prog X.w X.K X.mg X.base CX0 k fI fd ps sp) (hr : Room (k + 1) X.A) (hb : Binds X.K fd ps []) (hg : Gl X x) (hm : X.mg x = some (.ref C)) (ha : PA X (e :: es) ta)
    (hdb : (x == ("__debug__" : Str)) = false := by decide) (he : starEach (e :: es) X.env = (false, eval e X.env) :: starEach es X.env := by rfl) (hpl : (backTo pos (starEach es X.env)).any (·.1) = false := by rfl) :
    PE X (.Call (.Name x p) (e :: es) [] pos) (tMkV C sp ta) := by
  refine ⟨fun pins s σ H Q I h => ?_⟩
  refine wpAny_Call_Name_kw (ld_glob I hg hm ?_ hdb)
  refine PySem.W.callWith_K (h₀ := X.base) I.ok.mod.kin T.kC (thn (ha.run pos pins s σ H _ I h) fun us s1 ⟨vs, H1, I1, r1, hz, q1⟩ => ⟨I1.kIn, ?_⟩) he hpl
  exact run_oex T iC tI F1 hr hb I1 r1 hz q1
theorem pe_oex0 (T : OexC X.K C) (iC : PySem.W.findIn X.K (.ref C) "__init__" = some (some (.ref fI))) (tI : PySem.W.typeIn X.K (.ref fI) = some (.type "function"))
    (F1 : FnOk X.prog X.w X.K X.mg X.base CX0 k fI fd ps sp) (hr : Room (k + 1) X.A) (hb : Binds X.K fd ps []) (hg : Gl X x) (hm : X.mg x = some (.ref C))
    (hdb : (x == ("__debug__" : Str)) = false := by decide) : PE X (.Call (.Name x p) [] [] pos) (tMkV C sp tNil) := by
  refine ⟨fun pins s σ H Q I h => ?_⟩
  refine wpAny_Call_Name_kw (ld_glob I hg hm ?_ hdb)
  obtain ⟨hz, q1⟩ := h
  exact PySem.W.callWith_K0 I.kIn T.kC (run_oex (us := []) T iC tI F1 hr hb I .nil hz q1)
/-- e.f, e such an exception -/
def tXfO (K : PySem.W.Frag) (f : Str) (te : TE) : TE := fun σ H Q => te σ H fun x H1 => ∃ (a C dx : Addr) (fs : List (Str × V)) (v : V), x = .ref a ∧ H1 a = some (exo a C (some dx)) ∧ H1 dx = some (exd dx fs) ∧ XfC K C ∧ PySem.W.findIn K (.ref C) f = some none ∧ fs.lookup f = some v ∧ Q v H1
theorem pe_xfO {n : Str} (he : PE X e te) (hb : attributeBase e n X.env (eval e X.env) = eval e X.env := by rfl) : PE X (.Attribute e n pos) (tXfO X.K n te) := by
  refine ⟨fun pins s σ H Q I h => ?_⟩
  refine attr_of hb (thn (he.run pins s σ H _ I h) fun u s1 hh => ?_)
  obtain ⟨x, H1, I1, rx, a, C, dx, fs, v, ex, ea, ed, T, hno, l, q⟩ := hh
  subst ex
  obtain rfl : u = Value.ref a := rx
  obtain ⟨t1, ho⟩ := exo_at I1.hok ea
  obtain ⟨mA, hns, hr⟩ := exd_at I1.hok ed
  obtain ⟨od, hod, hl⟩ := lookIn_ns hns
  obtain ⟨u, hu, ru⟩ := RelO.some_of (v := v) (o := mA n) (by rw [← l]; exact hr n)
  have J : PySem.W.InstAt s1.heap a _ C (some od) := ⟨ho, rfl, rfl, hod⟩
  exact HandSPX.exc_get I1.kIn J T.ga T.gg T.exC (PySem.W.findObj_own T.hdC hno rfl (by rw [hl, hu])) (handed_of ru) ⟨v, H1, I1.tok _, ru, q⟩
theorem canon_bexc : Manifest.canonical "BaseException.__getattribute__" = "object.__getattribute__" := by decide +kernel
/-- e.m() -/
def tXm0 (K : PySem.W.Frag) (m : Str) (g : Addr) (sp : Sp) (te : TE) : TE := fun σ H Q => te σ H fun x H1 => ∃ (a C dx : Addr) (fs : List (Str × V)), x = .ref a ∧ H1 a = some (exo a C (some dx)) ∧ H1 dx = some (exd dx fs) ∧ XfC K C ∧ PySem.W.findIn K (.ref C) m = some (some (.ref g)) ∧ fs.lookup m = none ∧ sp [.ref a] H1 Q E0
theorem pe_xm0 {m : Str} {g : Addr} {pl : Sem Bool} (he : PE X e te) (hfn : PySem.W.isFn X.K (.ref g) = true) (hk : PySem.W.keepIn X.K (.ref g) = true) (G : FnOk X.prog X.w X.K X.mg X.base CX0 k g fd ps sp) (hr : Room k X.A) (hb : Binds X.K fd ps [])
    (ht : eval (.Call (.Attribute e m apos) [] [] pos) X.env = (do
      let ov ← eval e X.env
      standAt apos.atName
      let (f, first) ← holding [ov] (getMethod ov m pl)
      callWith pos f first (backTo pos (starEach [] X.env)) (backToKw pos (keywordEach [] X.env))) := by rfl) :
    PE X (.Call (.Attribute e m apos) [] [] pos) (tXm0 X.K m g sp te) := by
  refine ⟨fun pins s σ H Q I h => ?_⟩
  refine PySem.W.methodCall_KW (pl := pl) (thn (he.run pins s σ H _ I h) fun u s1 ⟨x, H1, I1, rx, a, C, dx, fs, ex, ea, ed, T, hf, l, q⟩ => ?_) ht
  subst ex
  obtain rfl : u = Value.ref a := rx
  obtain ⟨t1, ho⟩ := exo_at I1.hok ea
  obtain ⟨mA, hns, hr'⟩ := exd_at I1.hok ed
  obtain ⟨od, hod, hl⟩ := lookIn_ns hns
  have hn : mA m = none := RelO.none_of (by rw [← l]; exact hr' m)
  have J : PySem.W.InstAt s1.heap a _ C (some od) := ⟨ho, rfl, rfl, hod⟩
  have tf : PySem.W.typeIn X.K (.ref g) = some (.type "function") := beq_iff_eq.mp hfn
  have X1 := I1.kIn
  unfold getMethod specialOf
  refine wpAny_bind (wpAny_bind (J.type.here ((PySem.W.looks_findIn X1 T.ga).here ?_)))
  dsimp only
  rw [canon_bexc, if_neg (by decide)]
  refine wpAny_bind (wpAny_bind (J.type.here ((PySem.W.looks_findIn X1 T.gg).here ?_)))
  refine wpAny_bind (wpAny_bind (J.type.here ((PySem.W.looks_findIn X1 hf).here (wpAny_bind ((PySem.W.looks_typeIn X1 tf).here ?_)))))
  rw [if_neg (by decide +kernel)]
  refine wpAny_bind (wpAny_loadPart J.at_ ?_)
  have hs : PySem.W.shadowIn (some od) m = some false := by
    show (PySem.W.lookIn m od).map (·.isSome) = some false
    rw [hl, hn]
    rfl
  obtain ⟨r, a', b'⟩ := Option.map_eq_some_iff.mp hs
  refine wpAny_bind (wpAny_bind (wpAny_loadPart hod ?_))
  rw [PySem.W.nsLook_of a']
  refine wpAny_pure ?_
  rw [b']
  refine wpAny_bind (wpAny_rule (wpAny_pure ?_))
  exact PySem.W.callWith_K0 (first := [.ref a]) I1.kIn hk (run_fn (us := [.ref a]) (vs := [.ref a]) G hr hb .nil pass0 I1 (.cons rfl .nil) q)
/-- isinstance(e, c), e such an exception -/
def rIsO (K : PySem.W.Frag) : List V → Hp → VK → Prop := fun xs H Q => ∃ (a C dx : Addr) (fs : List (Str × V)) (c : V) (cv : Value) (b : Bool), xs = [.ref a, c] ∧ H a = some (exo a C (some dx)) ∧ H dx = some (exd dx fs) ∧ ExcC K C ∧ (∀ u, RelV c u → u = cv) ∧ PySem.W.kitOne K (.ref C) cv = some b ∧ Q (.bl b) H
theorem call_isO : CallR X (.builtin "isinstance") (rIsO X.K) := by
  intro pins s σ H xs us Q I r h
  obtain ⟨a, C, dx, fs, c, cv, b, rfl, ea, ed, EC, hcv, e, q⟩ := h
  cases r with
  | cons rx rr =>
    cases rr with
    | cons rt rr =>
      cases rr
      cases rx
      have ec := hcv _ rt
      subst ec
      obtain ⟨t1, ho⟩ := exo_at I.hok ea
      obtain ⟨mA, hns, hr'⟩ := exd_at I.hok ed
      obtain ⟨od, hod, hl⟩ := lookIn_ns hns
      have J : PySem.W.InstAt s.heap a _ C (some od) := ⟨ho, rfl, rfl, hod⟩
      have hcl : (PySem.W.clsIn X.K C).isSome = true := by
        obtain ⟨cd, hc, _⟩ := PySem.W.any_some EC.hd
        rw [hc]
        rfl
      exact PySem.W.kia_one (PySem.W.kitx_exc hcl EC.hg EC.hk EC.hs EC.ha EC.hn EC.ht EC.hm) I.kIn J e (fun z => nomatch z) fun tk => ⟨.bl b, H, I.kept (t' := tk) fun _ _ z => z, rfl, q⟩
end
end Wm
namespace Wm
open PySem L2
abbrev sW0 : Stmt := inClass (top 1) 0
abbrev sWT : Stmt := inClass (top 1) 1
/-! ### errors by how many fields they have -/
def efd0 (kd : Str) : List (Str × V) := [("kind", .str kd)]
def efd2 (f g kd : Str) (v u : V) : List (Str × V) := [(g, u), (f, v), ("kind", .str kd)]
def efd3 (f g h kd : Str) (v u y : V) : List (Str × V) := [(h, y), (g, u), (f, v), ("kind", .str kd)]
def Left (C : Addr) (H : Hp) (a : Addr) (fs : List (Str × V)) (Q : VK) : Prop := ∀ dx H', H dx = none → dx ≠ a → (∀ b o, b ≠ a → H b = some o → H' b = some o) → H' a = some (exo a C (some dx)) → H' dx = some (exd dx fs) → Q .non H'
def spX0 (C : Addr) (kd : Str) : Sp := fun vs H Q _ => ∃ a : Addr, vs = [.ref a] ∧ H a = some (exo a C none) ∧ Left C H a (efd0 kd) Q
def spX1 (C : Addr) (f kd : Str) : Sp := fun vs H Q _ => ∃ (a : Addr) (v : V), vs = [.ref a, v] ∧ H a = some (exo a C none) ∧ Left C H a (ef1 f kd v) Q
def spX2 (C : Addr) (f g kd : Str) : Sp := fun vs H Q _ => ∃ (a : Addr) (v u : V), vs = [.ref a, v, u] ∧ H a = some (exo a C none) ∧ Left C H a (efd2 f g kd v u) Q
def spX3 (C : Addr) (f g h kd : Str) : Sp := fun vs H Q _ => ∃ (a : Addr) (v u y : V), vs = [.ref a, v, u, y] ∧ H a = some (exo a C none) ∧ Left C H a (efd3 f g h kd v u y) Q
def spXB (K : PySem.W.Frag) (C : Addr) (f g h kd : Str) : Sp := fun vs H Q _ => ∃ (a d : Addr) (v u : V) (ys : List V), vs = [.ref a, v, u, .ref d] ∧ H a = some (exo a C none) ∧ H d = some (.lst ys) ∧
  ∀ dx l H', H dx = none → dx ≠ a → (∀ b o, b ≠ a → H b = some o → H' b = some o) → H' a = some (exo a C (some dx)) → H' dx = some (exd dx (efd3 f g h kd v u (.ref l))) → H' l = some (.lst ys) → Q .non H'
/-- what the written part tells of an error class with the fields fs -/
structure ErG (K : PySem.W.Frag) (mg : Str → Option Value) (x : Str) (fs : List Str) (fT C fI : Addr) : Prop where
  o : OexC K C
  g : mg x = some (.ref C)
  iC : PySem.W.findIn K (.ref C) "__init__" = some (some (.ref fI))
  tI : PySem.W.typeIn K (.ref fI) = some (.type "function")
  nk : PySem.W.findIn K (.ref C) "kind" = some none
  nf : ∀ f ∈ fs, PySem.W.findIn K (.ref C) f = some none
  xf : XfC K C
  ec : ExcC K C
  tl : PySem.W.findIn K (.ref C) "told" = some (some (.ref fT))
section
variable {P : Program} {w : World} {K : PySem.W.Frag} {mg : Str → Option Value} {base : Heap}
theorem scW0 : FnScope ["self", "kind"] ["self", "kind"] (defScope sW0) := ⟨rfl, rfl, rfl, by decide +kernel, rfl, by decide +kernel, by decide +kernel⟩
theorem ok_who {f : Addr} {fd : FuncData} {dvs : List V} (F : FunD K "__init__" "WhoError.__init__" (defArgs sW0) (defBody sW0) (defScope sW0) dvs [] f fd) : FnOk P w K mg base CX0 1 f fd ["self", "kind"] (spWI K) := by
  refine F.ok scW0 (fun vs H Q E h => ?_) (fun cdv A outer s H vs Q E hr h => ?_)
  · obtain ⟨a, C, v, rfl, _⟩ := h
    rfl
  · obtain ⟨a, C, v, rfl, o, nk, ha, k⟩ := h
    refine ⟨_, pss_one (ps_ost (pv 0) (pv 1)), ?_⟩
    exact ⟨_, rfl, _, rfl, a, C, rfl, o, nk, .inl ⟨ha, fun dx n ne => k dx n ne⟩⟩
theorem scNoName : FnScope ["self", "name"] ["self", "name"] (defScope (inClass (top 2) 0)) := ⟨rfl, rfl, rfl, by decide +kernel, rfl, by decide +kernel, by decide +kernel⟩
theorem ok_NoName {f C f0 W fT : Addr} {fd fd0 : FuncData} (F : Fun K "__init__" "NoName.__init__" (inClass (top 2) 0) f fd) (T : ErG K mg "NoName" ["name"] fT C f) (TW : WhoT K mg W f0 fd0) (G0 : FnOk P w K mg base CX0 1 f0 fd0 ["self", "kind"] (spWI K)) :
    FnOk P w K mg base CX0 2 f fd ["self", "name"] (spX1 C "name" "noname") := by
  refine F.ok scNoName (fun vs H Q E h => ?_) (fun cdv A outer s H vs Q E hr h => ?_)
  · obtain ⟨a, v, rfl, _⟩ := h
    rfl
  · obtain ⟨a, v, rfl, ha, k⟩ := h
    refine ⟨_, (pss_cons (ps_expr (pe_clsFn rfl TW.g TW.r TW.m TW.k G0 hr TW.b .nil pass0 (pa_cons (pv 0) (pa_cons pe_str pa_nil)))) (pss_one (ps_ost (pv 0) (pv 1)))), ?_⟩
    refine ⟨_, rfl, a, C, _, rfl, T.o, T.nk, ha, fun dx n ne => ?_⟩
    refine ⟨_, rfl, _, rfl, a, C, rfl, T.o, (T.nf _ (List.mem_cons_self)), .inr ⟨dx, _, upd_same, (Eq.trans (upd_ne ne) upd_same), by show 1 ≤ 900; decide, ?_⟩⟩
    refine k dx _ n ne (fun b o nb e => ?_) ((upd_ne ne.symm).trans upd_same) upd_same
    have nd : b ≠ dx := ne_of_none e n
    rw [upd_ne nd, upd_ne nb, upd_ne nd]
    exact e
theorem scBadCount : FnScope ["self", "what", "count"] ["self", "what", "count"] (defScope (inClass (top 3) 0)) := ⟨rfl, rfl, rfl, by decide +kernel, rfl, by decide +kernel, by decide +kernel⟩
theorem ok_BadCount {f C f0 W fT : Addr} {fd fd0 : FuncData} (F : Fun K "__init__" "BadCount.__init__" (inClass (top 3) 0) f fd) (T : ErG K mg "BadCount" ["what", "count"] fT C f) (TW : WhoT K mg W f0 fd0) (G0 : FnOk P w K mg base CX0 1 f0 fd0 ["self", "kind"] (spWI K)) :
    FnOk P w K mg base CX0 2 f fd ["self", "what", "count"] (spX2 C "what" "count" "badcount") := by
  refine F.ok scBadCount (fun vs H Q E h => ?_) (fun cdv A outer s H vs Q E hr h => ?_)
  · obtain ⟨a, v, u, rfl, _⟩ := h
    rfl
  · obtain ⟨a, v, u, rfl, ha, k⟩ := h
    refine ⟨_, (pss_cons (ps_expr (pe_clsFn rfl TW.g TW.r TW.m TW.k G0 hr TW.b .nil pass0 (pa_cons (pv 0) (pa_cons pe_str pa_nil)))) (pss_cons (ps_ost (pv 0) (pv 1)) (pss_one (ps_ost (pv 0) (pv 2))))), ?_⟩
    refine ⟨_, rfl, a, C, _, rfl, T.o, T.nk, ha, fun dx n ne => ?_⟩
    refine ⟨_, rfl, _, rfl, a, C, rfl, T.o, (T.nf _ (List.mem_cons_self)), .inr ⟨dx, _, upd_same, (Eq.trans (upd_ne ne) upd_same), by show 1 ≤ 900; decide, ?_⟩⟩
    refine ⟨_, rfl, _, rfl, a, C, rfl, T.o, (T.nf _ (List.mem_cons_of_mem _ (List.mem_cons_self))), .inr ⟨dx, _, ((upd_ne ne.symm).trans upd_same), upd_same, by show 2 ≤ 900; decide, ?_⟩⟩
    refine k dx _ n ne (fun b o nb e => ?_) ((upd_ne ne.symm).trans ((upd_ne ne.symm).trans upd_same)) upd_same
    have nd : b ≠ dx := ne_of_none e n
    rw [upd_ne nd, upd_ne nd, upd_ne nb, upd_ne nd]
    exact e
theorem scTwice : FnScope ["self", "name"] ["self", "name"] (defScope (inClass (top 4) 0)) := ⟨rfl, rfl, rfl, by decide +kernel, rfl, by decide +kernel, by decide +kernel⟩
theorem ok_Twice {f C f0 W fT : Addr} {fd fd0 : FuncData} (F : Fun K "__init__" "Twice.__init__" (inClass (top 4) 0) f fd) (T : ErG K mg "Twice" ["name"] fT C f) (TW : WhoT K mg W f0 fd0) (G0 : FnOk P w K mg base CX0 1 f0 fd0 ["self", "kind"] (spWI K)) :
    FnOk P w K mg base CX0 2 f fd ["self", "name"] (spX1 C "name" "twice") := by
  refine F.ok scTwice (fun vs H Q E h => ?_) (fun cdv A outer s H vs Q E hr h => ?_)
  · obtain ⟨a, v, rfl, _⟩ := h
    rfl
  · obtain ⟨a, v, rfl, ha, k⟩ := h
    refine ⟨_, (pss_cons (ps_expr (pe_clsFn rfl TW.g TW.r TW.m TW.k G0 hr TW.b .nil pass0 (pa_cons (pv 0) (pa_cons pe_str pa_nil)))) (pss_one (ps_ost (pv 0) (pv 1)))), ?_⟩
    refine ⟨_, rfl, a, C, _, rfl, T.o, T.nk, ha, fun dx n ne => ?_⟩
    refine ⟨_, rfl, _, rfl, a, C, rfl, T.o, (T.nf _ (List.mem_cons_self)), .inr ⟨dx, _, upd_same, (Eq.trans (upd_ne ne) upd_same), by show 1 ≤ 900; decide, ?_⟩⟩
    refine k dx _ n ne (fun b o nb e => ?_) ((upd_ne ne.symm).trans upd_same) upd_same
    have nd : b ≠ dx := ne_of_none e n
    rw [upd_ne nd, upd_ne nb, upd_ne nd]
    exact e
theorem scNoVariable : FnScope ["self", "name"] ["self", "name"] (defScope (inClass (top 5) 0)) := ⟨rfl, rfl, rfl, by decide +kernel, rfl, by decide +kernel, by decide +kernel⟩
theorem ok_NoVariable {f C f0 W fT : Addr} {fd fd0 : FuncData} (F : Fun K "__init__" "NoVariable.__init__" (inClass (top 5) 0) f fd) (T : ErG K mg "NoVariable" ["name"] fT C f) (TW : WhoT K mg W f0 fd0) (G0 : FnOk P w K mg base CX0 1 f0 fd0 ["self", "kind"] (spWI K)) :
    FnOk P w K mg base CX0 2 f fd ["self", "name"] (spX1 C "name" "novariable") := by
  refine F.ok scNoVariable (fun vs H Q E h => ?_) (fun cdv A outer s H vs Q E hr h => ?_)
  · obtain ⟨a, v, rfl, _⟩ := h
    rfl
  · obtain ⟨a, v, rfl, ha, k⟩ := h
    refine ⟨_, (pss_cons (ps_expr (pe_clsFn rfl TW.g TW.r TW.m TW.k G0 hr TW.b .nil pass0 (pa_cons (pv 0) (pa_cons pe_str pa_nil)))) (pss_one (ps_ost (pv 0) (pv 1)))), ?_⟩
    refine ⟨_, rfl, a, C, _, rfl, T.o, T.nk, ha, fun dx n ne => ?_⟩
    refine ⟨_, rfl, _, rfl, a, C, rfl, T.o, (T.nf _ (List.mem_cons_self)), .inr ⟨dx, _, upd_same, (Eq.trans (upd_ne ne) upd_same), by show 1 ≤ 900; decide, ?_⟩⟩
    refine k dx _ n ne (fun b o nb e => ?_) ((upd_ne ne.symm).trans upd_same) upd_same
    have nd : b ≠ dx := ne_of_none e n
    rw [upd_ne nd, upd_ne nb, upd_ne nd]
    exact e
theorem scLoose : FnScope ["self", "name"] ["self", "name"] (defScope (inClass (top 6) 0)) := ⟨rfl, rfl, rfl, by decide +kernel, rfl, by decide +kernel, by decide +kernel⟩
theorem ok_Loose {f C f0 W fT : Addr} {fd fd0 : FuncData} (F : Fun K "__init__" "Loose.__init__" (inClass (top 6) 0) f fd) (T : ErG K mg "Loose" ["name"] fT C f) (TW : WhoT K mg W f0 fd0) (G0 : FnOk P w K mg base CX0 1 f0 fd0 ["self", "kind"] (spWI K)) :
    FnOk P w K mg base CX0 2 f fd ["self", "name"] (spX1 C "name" "loose") := by
  refine F.ok scLoose (fun vs H Q E h => ?_) (fun cdv A outer s H vs Q E hr h => ?_)
  · obtain ⟨a, v, rfl, _⟩ := h
    rfl
  · obtain ⟨a, v, rfl, ha, k⟩ := h
    refine ⟨_, (pss_cons (ps_expr (pe_clsFn rfl TW.g TW.r TW.m TW.k G0 hr TW.b .nil pass0 (pa_cons (pv 0) (pa_cons pe_str pa_nil)))) (pss_one (ps_ost (pv 0) (pv 1)))), ?_⟩
    refine ⟨_, rfl, a, C, _, rfl, T.o, T.nk, ha, fun dx n ne => ?_⟩
    refine ⟨_, rfl, _, rfl, a, C, rfl, T.o, (T.nf _ (List.mem_cons_self)), .inr ⟨dx, _, upd_same, (Eq.trans (upd_ne ne) upd_same), by show 1 ≤ 900; decide, ?_⟩⟩
    refine k dx _ n ne (fun b o nb e => ?_) ((upd_ne ne.symm).trans upd_same) upd_same
    have nd : b ≠ dx := ne_of_none e n
    rw [upd_ne nd, upd_ne nb, upd_ne nd]
    exact e
theorem scApart : FnScope ["self", "place"] ["self", "place"] (defScope (inClass (top 7) 0)) := ⟨rfl, rfl, rfl, by decide +kernel, rfl, by decide +kernel, by decide +kernel⟩
theorem ok_Apart {f C f0 W fT : Addr} {fd fd0 : FuncData} (F : Fun K "__init__" "Apart.__init__" (inClass (top 7) 0) f fd) (T : ErG K mg "Apart" ["place"] fT C f) (TW : WhoT K mg W f0 fd0) (G0 : FnOk P w K mg base CX0 1 f0 fd0 ["self", "kind"] (spWI K)) :
    FnOk P w K mg base CX0 2 f fd ["self", "place"] (spX1 C "place" "apart") := by
  refine F.ok scApart (fun vs H Q E h => ?_) (fun cdv A outer s H vs Q E hr h => ?_)
  · obtain ⟨a, v, rfl, _⟩ := h
    rfl
  · obtain ⟨a, v, rfl, ha, k⟩ := h
    refine ⟨_, (pss_cons (ps_expr (pe_clsFn rfl TW.g TW.r TW.m TW.k G0 hr TW.b .nil pass0 (pa_cons (pv 0) (pa_cons pe_str pa_nil)))) (pss_one (ps_ost (pv 0) (pv 1)))), ?_⟩
    refine ⟨_, rfl, a, C, _, rfl, T.o, T.nk, ha, fun dx n ne => ?_⟩
    refine ⟨_, rfl, _, rfl, a, C, rfl, T.o, (T.nf _ (List.mem_cons_self)), .inr ⟨dx, _, upd_same, (Eq.trans (upd_ne ne) upd_same), by show 1 ≤ 900; decide, ?_⟩⟩
    refine k dx _ n ne (fun b o nb e => ?_) ((upd_ne ne.symm).trans upd_same) upd_same
    have nd : b ≠ dx := ne_of_none e n
    rw [upd_ne nd, upd_ne nb, upd_ne nd]
    exact e
theorem scNoSort : FnScope ["self", "name"] ["self", "name"] (defScope (inClass (top 8) 0)) := ⟨rfl, rfl, rfl, by decide +kernel, rfl, by decide +kernel, by decide +kernel⟩
theorem ok_NoSort {f C f0 W fT : Addr} {fd fd0 : FuncData} (F : Fun K "__init__" "NoSort.__init__" (inClass (top 8) 0) f fd) (T : ErG K mg "NoSort" ["name"] fT C f) (TW : WhoT K mg W f0 fd0) (G0 : FnOk P w K mg base CX0 1 f0 fd0 ["self", "kind"] (spWI K)) :
    FnOk P w K mg base CX0 2 f fd ["self", "name"] (spX1 C "name" "nosort") := by
  refine F.ok scNoSort (fun vs H Q E h => ?_) (fun cdv A outer s H vs Q E hr h => ?_)
  · obtain ⟨a, v, rfl, _⟩ := h
    rfl
  · obtain ⟨a, v, rfl, ha, k⟩ := h
    refine ⟨_, (pss_cons (ps_expr (pe_clsFn rfl TW.g TW.r TW.m TW.k G0 hr TW.b .nil pass0 (pa_cons (pv 0) (pa_cons pe_str pa_nil)))) (pss_one (ps_ost (pv 0) (pv 1)))), ?_⟩
    refine ⟨_, rfl, a, C, _, rfl, T.o, T.nk, ha, fun dx n ne => ?_⟩
    refine ⟨_, rfl, _, rfl, a, C, rfl, T.o, (T.nf _ (List.mem_cons_self)), .inr ⟨dx, _, upd_same, (Eq.trans (upd_ne ne) upd_same), by show 1 ≤ 900; decide, ?_⟩⟩
    refine k dx _ n ne (fun b o nb e => ?_) ((upd_ne ne.symm).trans upd_same) upd_same
    have nd : b ≠ dx := ne_of_none e n
    rw [upd_ne nd, upd_ne nb, upd_ne nd]
    exact e
theorem scUpward : FnScope ["self", "maker", "made"] ["self", "maker", "made"] (defScope (inClass (top 9) 0)) := ⟨rfl, rfl, rfl, by decide +kernel, rfl, by decide +kernel, by decide +kernel⟩
theorem ok_Upward {f C f0 W fT : Addr} {fd fd0 : FuncData} (F : Fun K "__init__" "Upward.__init__" (inClass (top 9) 0) f fd) (T : ErG K mg "Upward" ["maker", "made"] fT C f) (TW : WhoT K mg W f0 fd0) (G0 : FnOk P w K mg base CX0 1 f0 fd0 ["self", "kind"] (spWI K)) :
    FnOk P w K mg base CX0 2 f fd ["self", "maker", "made"] (spX2 C "maker" "made" "upward") := by
  refine F.ok scUpward (fun vs H Q E h => ?_) (fun cdv A outer s H vs Q E hr h => ?_)
  · obtain ⟨a, v, u, rfl, _⟩ := h
    rfl
  · obtain ⟨a, v, u, rfl, ha, k⟩ := h
    refine ⟨_, (pss_cons (ps_expr (pe_clsFn rfl TW.g TW.r TW.m TW.k G0 hr TW.b .nil pass0 (pa_cons (pv 0) (pa_cons pe_str pa_nil)))) (pss_cons (ps_ost (pv 0) (pv 1)) (pss_one (ps_ost (pv 0) (pv 2))))), ?_⟩
    refine ⟨_, rfl, a, C, _, rfl, T.o, T.nk, ha, fun dx n ne => ?_⟩
    refine ⟨_, rfl, _, rfl, a, C, rfl, T.o, (T.nf _ (List.mem_cons_self)), .inr ⟨dx, _, upd_same, (Eq.trans (upd_ne ne) upd_same), by show 1 ≤ 900; decide, ?_⟩⟩
    refine ⟨_, rfl, _, rfl, a, C, rfl, T.o, (T.nf _ (List.mem_cons_of_mem _ (List.mem_cons_self))), .inr ⟨dx, _, ((upd_ne ne.symm).trans upd_same), upd_same, by show 2 ≤ 900; decide, ?_⟩⟩
    refine k dx _ n ne (fun b o nb e => ?_) ((upd_ne ne.symm).trans ((upd_ne ne.symm).trans upd_same)) upd_same
    have nd : b ≠ dx := ne_of_none e n
    rw [upd_ne nd, upd_ne nd, upd_ne nb, upd_ne nd]
    exact e
theorem scNoWord : FnScope ["self", "name"] ["self", "name"] (defScope (inClass (top 10) 0)) := ⟨rfl, rfl, rfl, by decide +kernel, rfl, by decide +kernel, by decide +kernel⟩
theorem ok_NoWord {f C f0 W fT : Addr} {fd fd0 : FuncData} (F : Fun K "__init__" "NoWord.__init__" (inClass (top 10) 0) f fd) (T : ErG K mg "NoWord" ["name"] fT C f) (TW : WhoT K mg W f0 fd0) (G0 : FnOk P w K mg base CX0 1 f0 fd0 ["self", "kind"] (spWI K)) :
    FnOk P w K mg base CX0 2 f fd ["self", "name"] (spX1 C "name" "noword") := by
  refine F.ok scNoWord (fun vs H Q E h => ?_) (fun cdv A outer s H vs Q E hr h => ?_)
  · obtain ⟨a, v, rfl, _⟩ := h
    rfl
  · obtain ⟨a, v, rfl, ha, k⟩ := h
    refine ⟨_, (pss_cons (ps_expr (pe_clsFn rfl TW.g TW.r TW.m TW.k G0 hr TW.b .nil pass0 (pa_cons (pv 0) (pa_cons pe_str pa_nil)))) (pss_one (ps_ost (pv 0) (pv 1)))), ?_⟩
    refine ⟨_, rfl, a, C, _, rfl, T.o, T.nk, ha, fun dx n ne => ?_⟩
    refine ⟨_, rfl, _, rfl, a, C, rfl, T.o, (T.nf _ (List.mem_cons_self)), .inr ⟨dx, _, upd_same, (Eq.trans (upd_ne ne) upd_same), by show 1 ≤ 900; decide, ?_⟩⟩
    refine k dx _ n ne (fun b o nb e => ?_) ((upd_ne ne.symm).trans upd_same) upd_same
    have nd : b ≠ dx := ne_of_none e n
    rw [upd_ne nd, upd_ne nb, upd_ne nd]
    exact e
theorem scNoRule : FnScope ["self", "name"] ["self", "name"] (defScope (inClass (top 11) 0)) := ⟨rfl, rfl, rfl, by decide +kernel, rfl, by decide +kernel, by decide +kernel⟩
theorem ok_NoRule {f C f0 W fT : Addr} {fd fd0 : FuncData} (F : Fun K "__init__" "NoRule.__init__" (inClass (top 11) 0) f fd) (T : ErG K mg "NoRule" ["name"] fT C f) (TW : WhoT K mg W f0 fd0) (G0 : FnOk P w K mg base CX0 1 f0 fd0 ["self", "kind"] (spWI K)) :
    FnOk P w K mg base CX0 2 f fd ["self", "name"] (spX1 C "name" "norule") := by
  refine F.ok scNoRule (fun vs H Q E h => ?_) (fun cdv A outer s H vs Q E hr h => ?_)
  · obtain ⟨a, v, rfl, _⟩ := h
    rfl
  · obtain ⟨a, v, rfl, ha, k⟩ := h
    refine ⟨_, (pss_cons (ps_expr (pe_clsFn rfl TW.g TW.r TW.m TW.k G0 hr TW.b .nil pass0 (pa_cons (pv 0) (pa_cons pe_str pa_nil)))) (pss_one (ps_ost (pv 0) (pv 1)))), ?_⟩
    refine ⟨_, rfl, a, C, _, rfl, T.o, T.nk, ha, fun dx n ne => ?_⟩
    refine ⟨_, rfl, _, rfl, a, C, rfl, T.o, (T.nf _ (List.mem_cons_self)), .inr ⟨dx, _, upd_same, (Eq.trans (upd_ne ne) upd_same), by show 1 ≤ 900; decide, ?_⟩⟩
    refine k dx _ n ne (fun b o nb e => ?_) ((upd_ne ne.symm).trans upd_same) upd_same
    have nd : b ≠ dx := ne_of_none e n
    rw [upd_ne nd, upd_ne nb, upd_ne nd]
    exact e
theorem scNoBar : FnScope ["self", "name"] ["self", "name"] (defScope (inClass (top 12) 0)) := ⟨rfl, rfl, rfl, by decide +kernel, rfl, by decide +kernel, by decide +kernel⟩
theorem ok_NoBar {f C f0 W fT : Addr} {fd fd0 : FuncData} (F : Fun K "__init__" "NoBar.__init__" (inClass (top 12) 0) f fd) (T : ErG K mg "NoBar" ["name"] fT C f) (TW : WhoT K mg W f0 fd0) (G0 : FnOk P w K mg base CX0 1 f0 fd0 ["self", "kind"] (spWI K)) :
    FnOk P w K mg base CX0 2 f fd ["self", "name"] (spX1 C "name" "nobar") := by
  refine F.ok scNoBar (fun vs H Q E h => ?_) (fun cdv A outer s H vs Q E hr h => ?_)
  · obtain ⟨a, v, rfl, _⟩ := h
    rfl
  · obtain ⟨a, v, rfl, ha, k⟩ := h
    refine ⟨_, (pss_cons (ps_expr (pe_clsFn rfl TW.g TW.r TW.m TW.k G0 hr TW.b .nil pass0 (pa_cons (pv 0) (pa_cons pe_str pa_nil)))) (pss_one (ps_ost (pv 0) (pv 1)))), ?_⟩
    refine ⟨_, rfl, a, C, _, rfl, T.o, T.nk, ha, fun dx n ne => ?_⟩
    refine ⟨_, rfl, _, rfl, a, C, rfl, T.o, (T.nf _ (List.mem_cons_self)), .inr ⟨dx, _, upd_same, (Eq.trans (upd_ne ne) upd_same), by show 1 ≤ 900; decide, ?_⟩⟩
    refine k dx _ n ne (fun b o nb e => ?_) ((upd_ne ne.symm).trans upd_same) upd_same
    have nd : b ≠ dx := ne_of_none e n
    rw [upd_ne nd, upd_ne nb, upd_ne nd]
    exact e
theorem scNoMaking : FnScope ["self", "maker", "made"] ["self", "maker", "made"] (defScope (inClass (top 13) 0)) := ⟨rfl, rfl, rfl, by decide +kernel, rfl, by decide +kernel, by decide +kernel⟩
theorem ok_NoMaking {f C f0 W fT : Addr} {fd fd0 : FuncData} (F : Fun K "__init__" "NoMaking.__init__" (inClass (top 13) 0) f fd) (T : ErG K mg "NoMaking" ["maker", "made"] fT C f) (TW : WhoT K mg W f0 fd0) (G0 : FnOk P w K mg base CX0 1 f0 fd0 ["self", "kind"] (spWI K)) :
    FnOk P w K mg base CX0 2 f fd ["self", "maker", "made"] (spX2 C "maker" "made" "nomaking") := by
  refine F.ok scNoMaking (fun vs H Q E h => ?_) (fun cdv A outer s H vs Q E hr h => ?_)
  · obtain ⟨a, v, u, rfl, _⟩ := h
    rfl
  · obtain ⟨a, v, u, rfl, ha, k⟩ := h
    refine ⟨_, (pss_cons (ps_expr (pe_clsFn rfl TW.g TW.r TW.m TW.k G0 hr TW.b .nil pass0 (pa_cons (pv 0) (pa_cons pe_str pa_nil)))) (pss_cons (ps_ost (pv 0) (pv 1)) (pss_one (ps_ost (pv 0) (pv 2))))), ?_⟩
    refine ⟨_, rfl, a, C, _, rfl, T.o, T.nk, ha, fun dx n ne => ?_⟩
    refine ⟨_, rfl, _, rfl, a, C, rfl, T.o, (T.nf _ (List.mem_cons_self)), .inr ⟨dx, _, upd_same, (Eq.trans (upd_ne ne) upd_same), by show 1 ≤ 900; decide, ?_⟩⟩
    refine ⟨_, rfl, _, rfl, a, C, rfl, T.o, (T.nf _ (List.mem_cons_of_mem _ (List.mem_cons_self))), .inr ⟨dx, _, ((upd_ne ne.symm).trans upd_same), upd_same, by show 2 ≤ 900; decide, ?_⟩⟩
    refine k dx _ n ne (fun b o nb e => ?_) ((upd_ne ne.symm).trans ((upd_ne ne.symm).trans upd_same)) upd_same
    have nd : b ≠ dx := ne_of_none e n
    rw [upd_ne nd, upd_ne nd, upd_ne nb, upd_ne nd]
    exact e
theorem scNoThing : FnScope ["self", "name"] ["self", "name"] (defScope (inClass (top 14) 0)) := ⟨rfl, rfl, rfl, by decide +kernel, rfl, by decide +kernel, by decide +kernel⟩
theorem ok_NoThing {f C f0 W fT : Addr} {fd fd0 : FuncData} (F : Fun K "__init__" "NoThing.__init__" (inClass (top 14) 0) f fd) (T : ErG K mg "NoThing" ["name"] fT C f) (TW : WhoT K mg W f0 fd0) (G0 : FnOk P w K mg base CX0 1 f0 fd0 ["self", "kind"] (spWI K)) :
    FnOk P w K mg base CX0 2 f fd ["self", "name"] (spX1 C "name" "nothing") := by
  refine F.ok scNoThing (fun vs H Q E h => ?_) (fun cdv A outer s H vs Q E hr h => ?_)
  · obtain ⟨a, v, rfl, _⟩ := h
    rfl
  · obtain ⟨a, v, rfl, ha, k⟩ := h
    refine ⟨_, (pss_cons (ps_expr (pe_clsFn rfl TW.g TW.r TW.m TW.k G0 hr TW.b .nil pass0 (pa_cons (pv 0) (pa_cons pe_str pa_nil)))) (pss_one (ps_ost (pv 0) (pv 1)))), ?_⟩
    refine ⟨_, rfl, a, C, _, rfl, T.o, T.nk, ha, fun dx n ne => ?_⟩
    refine ⟨_, rfl, _, rfl, a, C, rfl, T.o, (T.nf _ (List.mem_cons_self)), .inr ⟨dx, _, upd_same, (Eq.trans (upd_ne ne) upd_same), by show 1 ≤ 900; decide, ?_⟩⟩
    refine k dx _ n ne (fun b o nb e => ?_) ((upd_ne ne.symm).trans upd_same) upd_same
    have nd : b ≠ dx := ne_of_none e n
    rw [upd_ne nd, upd_ne nb, upd_ne nd]
    exact e
theorem scTaken : FnScope ["self", "name"] ["self", "name"] (defScope (inClass (top 15) 0)) := ⟨rfl, rfl, rfl, by decide +kernel, rfl, by decide +kernel, by decide +kernel⟩
theorem ok_Taken {f C f0 W fT : Addr} {fd fd0 : FuncData} (F : Fun K "__init__" "Taken.__init__" (inClass (top 15) 0) f fd) (T : ErG K mg "Taken" ["name"] fT C f) (TW : WhoT K mg W f0 fd0) (G0 : FnOk P w K mg base CX0 1 f0 fd0 ["self", "kind"] (spWI K)) :
    FnOk P w K mg base CX0 2 f fd ["self", "name"] (spX1 C "name" "taken") := by
  refine F.ok scTaken (fun vs H Q E h => ?_) (fun cdv A outer s H vs Q E hr h => ?_)
  · obtain ⟨a, v, rfl, _⟩ := h
    rfl
  · obtain ⟨a, v, rfl, ha, k⟩ := h
    refine ⟨_, (pss_cons (ps_expr (pe_clsFn rfl TW.g TW.r TW.m TW.k G0 hr TW.b .nil pass0 (pa_cons (pv 0) (pa_cons pe_str pa_nil)))) (pss_one (ps_ost (pv 0) (pv 1)))), ?_⟩
    refine ⟨_, rfl, a, C, _, rfl, T.o, T.nk, ha, fun dx n ne => ?_⟩
    refine ⟨_, rfl, _, rfl, a, C, rfl, T.o, (T.nf _ (List.mem_cons_self)), .inr ⟨dx, _, upd_same, (Eq.trans (upd_ne ne) upd_same), by show 1 ≤ 900; decide, ?_⟩⟩
    refine k dx _ n ne (fun b o nb e => ?_) ((upd_ne ne.symm).trans upd_same) upd_same
    have nd : b ≠ dx := ne_of_none e n
    rw [upd_ne nd, upd_ne nb, upd_ne nd]
    exact e
theorem scFull : FnScope ["self"] ["self"] (defScope (inClass (top 16) 0)) := ⟨rfl, rfl, rfl, by decide +kernel, rfl, by decide +kernel, by decide +kernel⟩
theorem ok_Full {f C f0 W fT : Addr} {fd fd0 : FuncData} (F : Fun K "__init__" "Full.__init__" (inClass (top 16) 0) f fd) (T : ErG K mg "Full" [] fT C f) (TW : WhoT K mg W f0 fd0) (G0 : FnOk P w K mg base CX0 1 f0 fd0 ["self", "kind"] (spWI K)) :
    FnOk P w K mg base CX0 2 f fd ["self"] (spX0 C "full") := by
  refine F.ok scFull (fun vs H Q E h => ?_) (fun cdv A outer s H vs Q E hr h => ?_)
  · obtain ⟨a, rfl, _⟩ := h
    rfl
  · obtain ⟨a, rfl, ha, k⟩ := h
    refine ⟨_, (pss_one (ps_expr (pe_clsFn rfl TW.g TW.r TW.m TW.k G0 hr TW.b .nil pass0 (pa_cons (pv 0) (pa_cons pe_str pa_nil))))), ?_⟩
    refine ⟨_, rfl, a, C, _, rfl, T.o, T.nk, ha, fun dx n ne => ?_⟩
    refine k dx _ n ne (fun b o nb e => ?_) upd_same (Eq.trans (upd_ne ne) upd_same)
    have nd : b ≠ dx := ne_of_none e n
    rw [upd_ne nb, upd_ne nd]
    exact e
theorem scAsleep : FnScope ["self", "name"] ["self", "name"] (defScope (inClass (top 17) 0)) := ⟨rfl, rfl, rfl, by decide +kernel, rfl, by decide +kernel, by decide +kernel⟩
theorem ok_Asleep {f C f0 W fT : Addr} {fd fd0 : FuncData} (F : Fun K "__init__" "Asleep.__init__" (inClass (top 17) 0) f fd) (T : ErG K mg "Asleep" ["name"] fT C f) (TW : WhoT K mg W f0 fd0) (G0 : FnOk P w K mg base CX0 1 f0 fd0 ["self", "kind"] (spWI K)) :
    FnOk P w K mg base CX0 2 f fd ["self", "name"] (spX1 C "name" "asleep") := by
  refine F.ok scAsleep (fun vs H Q E h => ?_) (fun cdv A outer s H vs Q E hr h => ?_)
  · obtain ⟨a, v, rfl, _⟩ := h
    rfl
  · obtain ⟨a, v, rfl, ha, k⟩ := h
    refine ⟨_, (pss_cons (ps_expr (pe_clsFn rfl TW.g TW.r TW.m TW.k G0 hr TW.b .nil pass0 (pa_cons (pv 0) (pa_cons pe_str pa_nil)))) (pss_one (ps_ost (pv 0) (pv 1)))), ?_⟩
    refine ⟨_, rfl, a, C, _, rfl, T.o, T.nk, ha, fun dx n ne => ?_⟩
    refine ⟨_, rfl, _, rfl, a, C, rfl, T.o, (T.nf _ (List.mem_cons_self)), .inr ⟨dx, _, upd_same, (Eq.trans (upd_ne ne) upd_same), by show 1 ≤ 900; decide, ?_⟩⟩
    refine k dx _ n ne (fun b o nb e => ?_) ((upd_ne ne.symm).trans upd_same) upd_same
    have nd : b ≠ dx := ne_of_none e n
    rw [upd_ne nd, upd_ne nb, upd_ne nd]
    exact e
theorem scNotHeld : FnScope ["self", "x", "word", "y"] ["self", "x", "word", "y"] (defScope (inClass (top 18) 0)) := ⟨rfl, rfl, rfl, by decide +kernel, rfl, by decide +kernel, by decide +kernel⟩
theorem ok_NotHeld {f C f0 W fT : Addr} {fd fd0 : FuncData} (F : Fun K "__init__" "NotHeld.__init__" (inClass (top 18) 0) f fd) (T : ErG K mg "NotHeld" ["x", "word", "y"] fT C f) (TW : WhoT K mg W f0 fd0) (G0 : FnOk P w K mg base CX0 1 f0 fd0 ["self", "kind"] (spWI K)) :
    FnOk P w K mg base CX0 2 f fd ["self", "x", "word", "y"] (spX3 C "x" "word" "y" "notheld") := by
  refine F.ok scNotHeld (fun vs H Q E h => ?_) (fun cdv A outer s H vs Q E hr h => ?_)
  · obtain ⟨a, v, u, y, rfl, _⟩ := h
    rfl
  · obtain ⟨a, v, u, y, rfl, ha, k⟩ := h
    refine ⟨_, (pss_cons (ps_expr (pe_clsFn rfl TW.g TW.r TW.m TW.k G0 hr TW.b .nil pass0 (pa_cons (pv 0) (pa_cons pe_str pa_nil)))) (pss_cons (ps_ost (pv 0) (pv 1)) (pss_cons (ps_ost (pv 0) (pv 2)) (pss_one (ps_ost (pv 0) (pv 3)))))), ?_⟩
    refine ⟨_, rfl, a, C, _, rfl, T.o, T.nk, ha, fun dx n ne => ?_⟩
    refine ⟨_, rfl, _, rfl, a, C, rfl, T.o, (T.nf _ (List.mem_cons_self)), .inr ⟨dx, _, upd_same, (Eq.trans (upd_ne ne) upd_same), by show 1 ≤ 900; decide, ?_⟩⟩
    refine ⟨_, rfl, _, rfl, a, C, rfl, T.o, (T.nf _ (List.mem_cons_of_mem _ (List.mem_cons_self))), .inr ⟨dx, _, ((upd_ne ne.symm).trans upd_same), upd_same, by show 2 ≤ 900; decide, ?_⟩⟩
    refine ⟨_, rfl, _, rfl, a, C, rfl, T.o, (T.nf _ (List.mem_cons_of_mem _ (List.mem_cons_of_mem _ (List.mem_cons_self)))), .inr ⟨dx, _, ((upd_ne ne.symm).trans ((upd_ne ne.symm).trans upd_same)), upd_same, by show 3 ≤ 900; decide, ?_⟩⟩
    refine k dx _ n ne (fun b o nb e => ?_) ((upd_ne ne.symm).trans ((upd_ne ne.symm).trans ((upd_ne ne.symm).trans upd_same))) upd_same
    have nd : b ≠ dx := ne_of_none e n
    rw [upd_ne nd, upd_ne nd, upd_ne nd, upd_ne nb, upd_ne nd]
    exact e
theorem scNoDeed : FnScope ["self", "word"] ["self", "word"] (defScope (inClass (top 19) 0)) := ⟨rfl, rfl, rfl, by decide +kernel, rfl, by decide +kernel, by decide +kernel⟩
theorem ok_NoDeed {f C f0 W fT : Addr} {fd fd0 : FuncData} (F : Fun K "__init__" "NoDeed.__init__" (inClass (top 19) 0) f fd) (T : ErG K mg "NoDeed" ["word"] fT C f) (TW : WhoT K mg W f0 fd0) (G0 : FnOk P w K mg base CX0 1 f0 fd0 ["self", "kind"] (spWI K)) :
    FnOk P w K mg base CX0 2 f fd ["self", "word"] (spX1 C "word" "nodeed") := by
  refine F.ok scNoDeed (fun vs H Q E h => ?_) (fun cdv A outer s H vs Q E hr h => ?_)
  · obtain ⟨a, v, rfl, _⟩ := h
    rfl
  · obtain ⟨a, v, rfl, ha, k⟩ := h
    refine ⟨_, (pss_cons (ps_expr (pe_clsFn rfl TW.g TW.r TW.m TW.k G0 hr TW.b .nil pass0 (pa_cons (pv 0) (pa_cons pe_str pa_nil)))) (pss_one (ps_ost (pv 0) (pv 1)))), ?_⟩
    refine ⟨_, rfl, a, C, _, rfl, T.o, T.nk, ha, fun dx n ne => ?_⟩
    refine ⟨_, rfl, _, rfl, a, C, rfl, T.o, (T.nf _ (List.mem_cons_self)), .inr ⟨dx, _, upd_same, (Eq.trans (upd_ne ne) upd_same), by show 1 ≤ 900; decide, ?_⟩⟩
    refine k dx _ n ne (fun b o nb e => ?_) ((upd_ne ne.symm).trans upd_same) upd_same
    have nd : b ≠ dx := ne_of_none e n
    rw [upd_ne nd, upd_ne nb, upd_ne nd]
    exact e
theorem scMisfit : FnScope ["self", "name"] ["self", "name"] (defScope (inClass (top 20) 0)) := ⟨rfl, rfl, rfl, by decide +kernel, rfl, by decide +kernel, by decide +kernel⟩
theorem ok_Misfit {f C f0 W fT : Addr} {fd fd0 : FuncData} (F : Fun K "__init__" "Misfit.__init__" (inClass (top 20) 0) f fd) (T : ErG K mg "Misfit" ["name"] fT C f) (TW : WhoT K mg W f0 fd0) (G0 : FnOk P w K mg base CX0 1 f0 fd0 ["self", "kind"] (spWI K)) :
    FnOk P w K mg base CX0 2 f fd ["self", "name"] (spX1 C "name" "misfit") := by
  refine F.ok scMisfit (fun vs H Q E h => ?_) (fun cdv A outer s H vs Q E hr h => ?_)
  · obtain ⟨a, v, rfl, _⟩ := h
    rfl
  · obtain ⟨a, v, rfl, ha, k⟩ := h
    refine ⟨_, (pss_cons (ps_expr (pe_clsFn rfl TW.g TW.r TW.m TW.k G0 hr TW.b .nil pass0 (pa_cons (pv 0) (pa_cons pe_str pa_nil)))) (pss_one (ps_ost (pv 0) (pv 1)))), ?_⟩
    refine ⟨_, rfl, a, C, _, rfl, T.o, T.nk, ha, fun dx n ne => ?_⟩
    refine ⟨_, rfl, _, rfl, a, C, rfl, T.o, (T.nf _ (List.mem_cons_self)), .inr ⟨dx, _, upd_same, (Eq.trans (upd_ne ne) upd_same), by show 1 ≤ 900; decide, ?_⟩⟩
    refine k dx _ n ne (fun b o nb e => ?_) ((upd_ne ne.symm).trans upd_same) upd_same
    have nd : b ≠ dx := ne_of_none e n
    rw [upd_ne nd, upd_ne nb, upd_ne nd]
    exact e
theorem scStands : FnScope ["self", "x", "word", "y"] ["self", "x", "word", "y"] (defScope (inClass (top 21) 0)) := ⟨rfl, rfl, rfl, by decide +kernel, rfl, by decide +kernel, by decide +kernel⟩
theorem ok_Stands {f C f0 W fT : Addr} {fd fd0 : FuncData} (F : Fun K "__init__" "Stands.__init__" (inClass (top 21) 0) f fd) (T : ErG K mg "Stands" ["x", "word", "y"] fT C f) (TW : WhoT K mg W f0 fd0) (G0 : FnOk P w K mg base CX0 1 f0 fd0 ["self", "kind"] (spWI K)) :
    FnOk P w K mg base CX0 2 f fd ["self", "x", "word", "y"] (spX3 C "x" "word" "y" "stands") := by
  refine F.ok scStands (fun vs H Q E h => ?_) (fun cdv A outer s H vs Q E hr h => ?_)
  · obtain ⟨a, v, u, y, rfl, _⟩ := h
    rfl
  · obtain ⟨a, v, u, y, rfl, ha, k⟩ := h
    refine ⟨_, (pss_cons (ps_expr (pe_clsFn rfl TW.g TW.r TW.m TW.k G0 hr TW.b .nil pass0 (pa_cons (pv 0) (pa_cons pe_str pa_nil)))) (pss_cons (ps_ost (pv 0) (pv 1)) (pss_cons (ps_ost (pv 0) (pv 2)) (pss_one (ps_ost (pv 0) (pv 3)))))), ?_⟩
    refine ⟨_, rfl, a, C, _, rfl, T.o, T.nk, ha, fun dx n ne => ?_⟩
    refine ⟨_, rfl, _, rfl, a, C, rfl, T.o, (T.nf _ (List.mem_cons_self)), .inr ⟨dx, _, upd_same, (Eq.trans (upd_ne ne) upd_same), by show 1 ≤ 900; decide, ?_⟩⟩
    refine ⟨_, rfl, _, rfl, a, C, rfl, T.o, (T.nf _ (List.mem_cons_of_mem _ (List.mem_cons_self))), .inr ⟨dx, _, ((upd_ne ne.symm).trans upd_same), upd_same, by show 2 ≤ 900; decide, ?_⟩⟩
    refine ⟨_, rfl, _, rfl, a, C, rfl, T.o, (T.nf _ (List.mem_cons_of_mem _ (List.mem_cons_of_mem _ (List.mem_cons_self)))), .inr ⟨dx, _, ((upd_ne ne.symm).trans ((upd_ne ne.symm).trans upd_same)), upd_same, by show 3 ≤ 900; decide, ?_⟩⟩
    refine k dx _ n ne (fun b o nb e => ?_) ((upd_ne ne.symm).trans ((upd_ne ne.symm).trans ((upd_ne ne.symm).trans upd_same))) upd_same
    have nd : b ≠ dx := ne_of_none e n
    rw [upd_ne nd, upd_ne nd, upd_ne nd, upd_ne nb, upd_ne nd]
    exact e
theorem scCrowded : FnScope ["self", "count"] ["self", "count"] (defScope (inClass (top 22) 0)) := ⟨rfl, rfl, rfl, by decide +kernel, rfl, by decide +kernel, by decide +kernel⟩
theorem ok_Crowded {f C f0 W fT : Addr} {fd fd0 : FuncData} (F : Fun K "__init__" "Crowded.__init__" (inClass (top 22) 0) f fd) (T : ErG K mg "Crowded" ["count"] fT C f) (TW : WhoT K mg W f0 fd0) (G0 : FnOk P w K mg base CX0 1 f0 fd0 ["self", "kind"] (spWI K)) :
    FnOk P w K mg base CX0 2 f fd ["self", "count"] (spX1 C "count" "crowded") := by
  refine F.ok scCrowded (fun vs H Q E h => ?_) (fun cdv A outer s H vs Q E hr h => ?_)
  · obtain ⟨a, v, rfl, _⟩ := h
    rfl
  · obtain ⟨a, v, rfl, ha, k⟩ := h
    refine ⟨_, (pss_cons (ps_expr (pe_clsFn rfl TW.g TW.r TW.m TW.k G0 hr TW.b .nil pass0 (pa_cons (pv 0) (pa_cons pe_str pa_nil)))) (pss_one (ps_ost (pv 0) (pv 1)))), ?_⟩
    refine ⟨_, rfl, a, C, _, rfl, T.o, T.nk, ha, fun dx n ne => ?_⟩
    refine ⟨_, rfl, _, rfl, a, C, rfl, T.o, (T.nf _ (List.mem_cons_self)), .inr ⟨dx, _, upd_same, (Eq.trans (upd_ne ne) upd_same), by show 1 ≤ 900; decide, ?_⟩⟩
    refine k dx _ n ne (fun b o nb e => ?_) ((upd_ne ne.symm).trans upd_same) upd_same
    have nd : b ≠ dx := ne_of_none e n
    rw [upd_ne nd, upd_ne nb, upd_ne nd]
    exact e
theorem scNever : FnScope ["self", "x", "word", "y"] ["self", "x", "word", "y"] (defScope (inClass (top 23) 0)) := ⟨rfl, rfl, rfl, by decide +kernel, rfl, by decide +kernel, by decide +kernel⟩
theorem ok_Never {f C f0 W fT : Addr} {fd fd0 : FuncData} (F : Fun K "__init__" "Never.__init__" (inClass (top 23) 0) f fd) (T : ErG K mg "Never" ["x", "word", "y"] fT C f) (TW : WhoT K mg W f0 fd0) (G0 : FnOk P w K mg base CX0 1 f0 fd0 ["self", "kind"] (spWI K)) :
    FnOk P w K mg base CX0 2 f fd ["self", "x", "word", "y"] (spX3 C "x" "word" "y" "never") := by
  refine F.ok scNever (fun vs H Q E h => ?_) (fun cdv A outer s H vs Q E hr h => ?_)
  · obtain ⟨a, v, u, y, rfl, _⟩ := h
    rfl
  · obtain ⟨a, v, u, y, rfl, ha, k⟩ := h
    refine ⟨_, (pss_cons (ps_expr (pe_clsFn rfl TW.g TW.r TW.m TW.k G0 hr TW.b .nil pass0 (pa_cons (pv 0) (pa_cons pe_str pa_nil)))) (pss_cons (ps_ost (pv 0) (pv 1)) (pss_cons (ps_ost (pv 0) (pv 2)) (pss_one (ps_ost (pv 0) (pv 3)))))), ?_⟩
    refine ⟨_, rfl, a, C, _, rfl, T.o, T.nk, ha, fun dx n ne => ?_⟩
    refine ⟨_, rfl, _, rfl, a, C, rfl, T.o, (T.nf _ (List.mem_cons_self)), .inr ⟨dx, _, upd_same, (Eq.trans (upd_ne ne) upd_same), by show 1 ≤ 900; decide, ?_⟩⟩
    refine ⟨_, rfl, _, rfl, a, C, rfl, T.o, (T.nf _ (List.mem_cons_of_mem _ (List.mem_cons_self))), .inr ⟨dx, _, ((upd_ne ne.symm).trans upd_same), upd_same, by show 2 ≤ 900; decide, ?_⟩⟩
    refine ⟨_, rfl, _, rfl, a, C, rfl, T.o, (T.nf _ (List.mem_cons_of_mem _ (List.mem_cons_of_mem _ (List.mem_cons_self)))), .inr ⟨dx, _, ((upd_ne ne.symm).trans ((upd_ne ne.symm).trans upd_same)), upd_same, by show 3 ≤ 900; decide, ?_⟩⟩
    refine k dx _ n ne (fun b o nb e => ?_) ((upd_ne ne.symm).trans ((upd_ne ne.symm).trans ((upd_ne ne.symm).trans upd_same))) upd_same
    have nd : b ≠ dx := ne_of_none e n
    rw [upd_ne nd, upd_ne nd, upd_ne nd, upd_ne nb, upd_ne nd]
    exact e
theorem scNoCure : FnScope ["self", "x", "word", "y"] ["self", "x", "word", "y"] (defScope (inClass (top 24) 0)) := ⟨rfl, rfl, rfl, by decide +kernel, rfl, by decide +kernel, by decide +kernel⟩
theorem ok_NoCure {f C f0 W fT : Addr} {fd fd0 : FuncData} (F : Fun K "__init__" "NoCure.__init__" (inClass (top 24) 0) f fd) (T : ErG K mg "NoCure" ["x", "word", "y"] fT C f) (TW : WhoT K mg W f0 fd0) (G0 : FnOk P w K mg base CX0 1 f0 fd0 ["self", "kind"] (spWI K)) :
    FnOk P w K mg base CX0 2 f fd ["self", "x", "word", "y"] (spX3 C "x" "word" "y" "nocure") := by
  refine F.ok scNoCure (fun vs H Q E h => ?_) (fun cdv A outer s H vs Q E hr h => ?_)
  · obtain ⟨a, v, u, y, rfl, _⟩ := h
    rfl
  · obtain ⟨a, v, u, y, rfl, ha, k⟩ := h
    refine ⟨_, (pss_cons (ps_expr (pe_clsFn rfl TW.g TW.r TW.m TW.k G0 hr TW.b .nil pass0 (pa_cons (pv 0) (pa_cons pe_str pa_nil)))) (pss_cons (ps_ost (pv 0) (pv 1)) (pss_cons (ps_ost (pv 0) (pv 2)) (pss_one (ps_ost (pv 0) (pv 3)))))), ?_⟩
    refine ⟨_, rfl, a, C, _, rfl, T.o, T.nk, ha, fun dx n ne => ?_⟩
    refine ⟨_, rfl, _, rfl, a, C, rfl, T.o, (T.nf _ (List.mem_cons_self)), .inr ⟨dx, _, upd_same, (Eq.trans (upd_ne ne) upd_same), by show 1 ≤ 900; decide, ?_⟩⟩
    refine ⟨_, rfl, _, rfl, a, C, rfl, T.o, (T.nf _ (List.mem_cons_of_mem _ (List.mem_cons_self))), .inr ⟨dx, _, ((upd_ne ne.symm).trans upd_same), upd_same, by show 2 ≤ 900; decide, ?_⟩⟩
    refine ⟨_, rfl, _, rfl, a, C, rfl, T.o, (T.nf _ (List.mem_cons_of_mem _ (List.mem_cons_of_mem _ (List.mem_cons_self)))), .inr ⟨dx, _, ((upd_ne ne.symm).trans ((upd_ne ne.symm).trans upd_same)), upd_same, by show 3 ≤ 900; decide, ?_⟩⟩
    refine k dx _ n ne (fun b o nb e => ?_) ((upd_ne ne.symm).trans ((upd_ne ne.symm).trans ((upd_ne ne.symm).trans upd_same))) upd_same
    have nd : b ≠ dx := ne_of_none e n
    rw [upd_ne nd, upd_ne nd, upd_ne nd, upd_ne nb, upd_ne nd]
    exact e
theorem scUnlike : FnScope ["self", "what"] ["self", "what"] (defScope (inClass (top 25) 0)) := ⟨rfl, rfl, rfl, by decide +kernel, rfl, by decide +kernel, by decide +kernel⟩
theorem ok_Unlike {f C f0 W fT : Addr} {fd fd0 : FuncData} (F : Fun K "__init__" "Unlike.__init__" (inClass (top 25) 0) f fd) (T : ErG K mg "Unlike" ["what"] fT C f) (TW : WhoT K mg W f0 fd0) (G0 : FnOk P w K mg base CX0 1 f0 fd0 ["self", "kind"] (spWI K)) :
    FnOk P w K mg base CX0 2 f fd ["self", "what"] (spX1 C "what" "unlike") := by
  refine F.ok scUnlike (fun vs H Q E h => ?_) (fun cdv A outer s H vs Q E hr h => ?_)
  · obtain ⟨a, v, rfl, _⟩ := h
    rfl
  · obtain ⟨a, v, rfl, ha, k⟩ := h
    refine ⟨_, (pss_cons (ps_expr (pe_clsFn rfl TW.g TW.r TW.m TW.k G0 hr TW.b .nil pass0 (pa_cons (pv 0) (pa_cons pe_str pa_nil)))) (pss_one (ps_ost (pv 0) (pv 1)))), ?_⟩
    refine ⟨_, rfl, a, C, _, rfl, T.o, T.nk, ha, fun dx n ne => ?_⟩
    refine ⟨_, rfl, _, rfl, a, C, rfl, T.o, (T.nf _ (List.mem_cons_self)), .inr ⟨dx, _, upd_same, (Eq.trans (upd_ne ne) upd_same), by show 1 ≤ 900; decide, ?_⟩⟩
    refine k dx _ n ne (fun b o nb e => ?_) ((upd_ne ne.symm).trans upd_same) upd_same
    have nd : b ≠ dx := ne_of_none e n
    rw [upd_ne nd, upd_ne nb, upd_ne nd]
    exact e
theorem scFreer : FnScope ["self", "name", "row"] ["self", "name", "row"] (defScope (inClass (top 26) 0)) := ⟨rfl, rfl, rfl, by decide +kernel, rfl, by decide +kernel, by decide +kernel⟩
theorem ok_Freer {f C f0 W fT : Addr} {fd fd0 : FuncData} (F : Fun K "__init__" "Freer.__init__" (inClass (top 26) 0) f fd) (T : ErG K mg "Freer" ["name", "row"] fT C f) (TW : WhoT K mg W f0 fd0) (G0 : FnOk P w K mg base CX0 1 f0 fd0 ["self", "kind"] (spWI K)) :
    FnOk P w K mg base CX0 2 f fd ["self", "name", "row"] (spX2 C "name" "row" "freer") := by
  refine F.ok scFreer (fun vs H Q E h => ?_) (fun cdv A outer s H vs Q E hr h => ?_)
  · obtain ⟨a, v, u, rfl, _⟩ := h
    rfl
  · obtain ⟨a, v, u, rfl, ha, k⟩ := h
    refine ⟨_, (pss_cons (ps_expr (pe_clsFn rfl TW.g TW.r TW.m TW.k G0 hr TW.b .nil pass0 (pa_cons (pv 0) (pa_cons pe_str pa_nil)))) (pss_cons (ps_ost (pv 0) (pv 1)) (pss_one (ps_ost (pv 0) (pv 2))))), ?_⟩
    refine ⟨_, rfl, a, C, _, rfl, T.o, T.nk, ha, fun dx n ne => ?_⟩
    refine ⟨_, rfl, _, rfl, a, C, rfl, T.o, (T.nf _ (List.mem_cons_self)), .inr ⟨dx, _, upd_same, (Eq.trans (upd_ne ne) upd_same), by show 1 ≤ 900; decide, ?_⟩⟩
    refine ⟨_, rfl, _, rfl, a, C, rfl, T.o, (T.nf _ (List.mem_cons_of_mem _ (List.mem_cons_self))), .inr ⟨dx, _, ((upd_ne ne.symm).trans upd_same), upd_same, by show 2 ≤ 900; decide, ?_⟩⟩
    refine k dx _ n ne (fun b o nb e => ?_) ((upd_ne ne.symm).trans ((upd_ne ne.symm).trans upd_same)) upd_same
    have nd : b ≠ dx := ne_of_none e n
    rw [upd_ne nd, upd_ne nd, upd_ne nb, upd_ne nd]
    exact e
theorem scBarred : FnScope ["self", "name", "spots", "deeds"] ["self", "name", "spots", "deeds"] (defScope (inClass (top 27) 0)) := ⟨rfl, rfl, rfl, by decide +kernel, rfl, by decide +kernel, by decide +kernel⟩
theorem ok_Barred {f C f0 W fT : Addr} {fd fd0 : FuncData} (F : Fun K "__init__" "Barred.__init__" (inClass (top 27) 0) f fd) (T : ErG K mg "Barred" ["name", "spots", "deeds"] fT C f) (TW : WhoT K mg W f0 fd0) (G0 : FnOk P w K mg base CX0 1 f0 fd0 ["self", "kind"] (spWI K)) (tl : mg "list" = none) :
    FnOk P w K mg base CX0 2 f fd ["self", "name", "spots", "deeds"] (spXB K C "name" "spots" "deeds" "barred") := by
  refine F.ok scBarred (fun vs H Q E h => ?_) (fun cdv A outer s H vs Q E hr h => ?_)
  · obtain ⟨a, d, v, u, ys, rfl, _⟩ := h
    rfl
  · obtain ⟨a, d, v, u, ys, rfl, ha, hd, k⟩ := h
    refine ⟨_, (pss_cons (ps_expr (pe_clsFn rfl TW.g TW.r TW.m TW.k G0 hr TW.b .nil pass0 (pa_cons (pv 0) (pa_cons pe_str pa_nil)))) (pss_cons (ps_ost (pv 0) (pv 1)) (pss_cons (ps_ost (pv 0) (pv 2)) (pss_one (ps_ost (pv 0) (pe_callTy call_list_of (by rfl) tl (by decide +kernel) (pa_cons (pv 3) pa_nil))))))), ?_⟩
    refine ⟨_, rfl, a, C, _, rfl, T.o, T.nk, ha, fun dx n ne => ?_⟩
    refine ⟨_, rfl, _, rfl, a, C, rfl, T.o, (T.nf _ (List.mem_cons_self)), .inr ⟨dx, _, upd_same, (Eq.trans (upd_ne ne) upd_same), by show 1 ≤ 900; decide, ?_⟩⟩
    refine ⟨_, rfl, _, rfl, a, C, rfl, T.o, (T.nf _ (List.mem_cons_of_mem _ (List.mem_cons_self))), .inr ⟨dx, _, ((upd_ne ne.symm).trans upd_same), upd_same, by show 2 ≤ 900; decide, ?_⟩⟩
    have nda : d ≠ a := fun z => by
      rw [z, ha] at hd
      cases hd
    have ndx : d ≠ dx := ne_of_none hd n
    refine ⟨_, rfl, d, ys, rfl, .inl (SqL.of (by rw [upd_ne ndx, upd_ne ndx, upd_ne nda, upd_ne ndx]; exact hd)), fun l hl => ?_⟩
    have nla : a ≠ l := fun z => by
      rw [← z, upd_ne ne.symm, upd_ne ne.symm, upd_same] at hl
      cases hl
    have nld : dx ≠ l := fun z => by
      rw [← z, upd_same] at hl
      cases hl
    refine ⟨_, rfl, a, C, rfl, T.o, (T.nf _ (List.mem_cons_of_mem _ (List.mem_cons_of_mem _ (List.mem_cons_self)))), .inr ⟨dx, _, (upd_ne nla).trans ((upd_ne ne.symm).trans ((upd_ne ne.symm).trans upd_same)), (upd_ne nld).trans upd_same, by show 3 ≤ 900; decide, ?_⟩⟩
    refine k dx l _ n ne (fun b o nb e => ?_) ?_ upd_same ((upd_ne nld.symm).trans upd_same)
    · have nd : b ≠ dx := ne_of_none e n
      have nb' : b ≠ l := fun z => by
        rw [← z, upd_ne nd, upd_ne nd, upd_ne nb, upd_ne nd, e] at hl
        cases hl
      rw [upd_ne nd, upd_ne nb', upd_ne nd, upd_ne nd, upd_ne nb, upd_ne nd]
      exact e
    · rw [upd_ne ne.symm, upd_ne nla, upd_ne ne.symm, upd_ne ne.symm, upd_same]
theorem scNoBack : FnScope ["self"] ["self"] (defScope (inClass (top 28) 0)) := ⟨rfl, rfl, rfl, by decide +kernel, rfl, by decide +kernel, by decide +kernel⟩
theorem ok_NoBack {f C f0 W fT : Addr} {fd fd0 : FuncData} (F : Fun K "__init__" "NoBack.__init__" (inClass (top 28) 0) f fd) (T : ErG K mg "NoBack" [] fT C f) (TW : WhoT K mg W f0 fd0) (G0 : FnOk P w K mg base CX0 1 f0 fd0 ["self", "kind"] (spWI K)) :
    FnOk P w K mg base CX0 2 f fd ["self"] (spX0 C "noback") := by
  refine F.ok scNoBack (fun vs H Q E h => ?_) (fun cdv A outer s H vs Q E hr h => ?_)
  · obtain ⟨a, rfl, _⟩ := h
    rfl
  · obtain ⟨a, rfl, ha, k⟩ := h
    refine ⟨_, (pss_one (ps_expr (pe_clsFn rfl TW.g TW.r TW.m TW.k G0 hr TW.b .nil pass0 (pa_cons (pv 0) (pa_cons pe_str pa_nil))))), ?_⟩
    refine ⟨_, rfl, a, C, _, rfl, T.o, T.nk, ha, fun dx n ne => ?_⟩
    refine k dx _ n ne (fun b o nb e => ?_) upd_same (Eq.trans (upd_ne ne) upd_same)
    have nd : b ≠ dx := ne_of_none e n
    rw [upd_ne nb, upd_ne nd]
    exact e
theorem scBadRow : FnScope ["self", "row"] ["self", "row"] (defScope (inClass (top 29) 0)) := ⟨rfl, rfl, rfl, by decide +kernel, rfl, by decide +kernel, by decide +kernel⟩
theorem ok_BadRow {f C f0 W fT : Addr} {fd fd0 : FuncData} (F : Fun K "__init__" "BadRow.__init__" (inClass (top 29) 0) f fd) (T : ErG K mg "BadRow" ["row"] fT C f) (TW : WhoT K mg W f0 fd0) (G0 : FnOk P w K mg base CX0 1 f0 fd0 ["self", "kind"] (spWI K)) :
    FnOk P w K mg base CX0 2 f fd ["self", "row"] (spX1 C "row" "badrow") := by
  refine F.ok scBadRow (fun vs H Q E h => ?_) (fun cdv A outer s H vs Q E hr h => ?_)
  · obtain ⟨a, v, rfl, _⟩ := h
    rfl
  · obtain ⟨a, v, rfl, ha, k⟩ := h
    refine ⟨_, (pss_cons (ps_expr (pe_clsFn rfl TW.g TW.r TW.m TW.k G0 hr TW.b .nil pass0 (pa_cons (pv 0) (pa_cons pe_str pa_nil)))) (pss_one (ps_ost (pv 0) (pv 1)))), ?_⟩
    refine ⟨_, rfl, a, C, _, rfl, T.o, T.nk, ha, fun dx n ne => ?_⟩
    refine ⟨_, rfl, _, rfl, a, C, rfl, T.o, (T.nf _ (List.mem_cons_self)), .inr ⟨dx, _, upd_same, (Eq.trans (upd_ne ne) upd_same), by show 1 ≤ 900; decide, ?_⟩⟩
    refine k dx _ n ne (fun b o nb e => ?_) ((upd_ne ne.symm).trans upd_same) upd_same
    have nd : b ≠ dx := ne_of_none e n
    rw [upd_ne nd, upd_ne nb, upd_ne nd]
    exact e
end
end Wm
/-! names as the laws draw them: texts of at most six signs -/
namespace Wm
open PySem L2
def lowC (c : Nat) : Prop := 97 ≤ c ∧ c ≤ 122
def figC (c : Nat) : Prop := 48 ≤ c ∧ c ≤ 57
/-- a text of small letters and figures, the first a letter -/
def NmP (z : Str) : Prop := ∃ c cs, z.cps.toList = c :: cs ∧ lowC c ∧ ∀ d ∈ cs, lowC d ∨ figC d
theorem toList_app (a b : Str) : (a ++ b).cps.toList = a.cps.toList ++ b.cps.toList := by
  show (a.cps ++ b.cps).toList = _
  simp
theorem NmP.app {a b : Str} (h : NmP a) (hb : ∀ d ∈ b.cps.toList, lowC d ∨ figC d) : NmP (a ++ b) := by
  obtain ⟨c, cs, e, l, r⟩ := h
  refine ⟨c, cs ++ b.cps.toList, by rw [toList_app, e]; rfl, l, fun d hd => ?_⟩
  rcases List.mem_append.mp hd with h | h
  · exact r d h
  · exact hb d h
theorem NmP.one {c : Nat} (h : lowC c) : NmP ⟨#[c]⟩ := ⟨c, [], rfl, h, fun _ z => nomatch z⟩
theorem NmP.ok {z : Str} (h : NmP z) : ∀ c ∈ z.cps.toList, c < 1114112 := by
  obtain ⟨c, cs, e, l, r⟩ := h
  intro d hd
  rw [e] at hd
  rcases List.mem_cons.mp hd with h | h
  · rw [h]
    exact Nat.lt_of_le_of_lt l.2 (by decide)
  · rcases r d h with q | q
    · exact Nat.lt_of_le_of_lt q.2 (by decide)
    · exact Nat.lt_of_le_of_lt q.2 (by decide)
def ABC36 : Str := PySem.Str.ofString "abcdefghijklmnopqrstuvwxyz0123456789"
theorem abc36_len : ABC36.length = 36 := by decide +kernel
theorem abc_low {i : Nat} {c : Nat} (hi : i < 26) (h : ABC36.cps.toList[i]? = some c) : lowC c := by
  have q : ∀ j : Fin 26, ∀ d ∈ ABC36.cps.toList[j.1]?, 97 ≤ d ∧ d ≤ 122 := by decide +kernel
  exact q ⟨i, hi⟩ c (by rw [h]; exact rfl)
theorem abc_any {i : Nat} {c : Nat} (h : ABC36.cps.toList[i]? = some c) : lowC c ∨ figC c := by
  have q : ∀ d ∈ ABC36.cps.toList, (97 ≤ d ∧ d ≤ 122) ∨ (48 ≤ d ∧ d ≤ 57) := by decide +kernel
  exact q c (List.mem_of_getElem? h)
/-- the text of a number -/
def numS (n : Nat) : Str := PySem.Str.ofString (toString (n : Int))
def numB (n : Nat) : Bool := (numS n).cps.toList.all (fun d => decide (48 ≤ d ∧ d ≤ 57)) && (decide ((numS n).length ≤ 2) && decide (1 ≤ (numS n).length))
theorem num_all : ∀ n : Fin 70, numB n.1 = true := by decide +kernel
theorem num_inj0 : ∀ n m : Fin 70, (numS n.1).cps.toList = (numS m.1).cps.toList → n = m := by decide +kernel
theorem num_sign {n : Nat} (h : n < 70) : (∀ d ∈ (numS n).cps.toList, lowC d ∨ figC d) ∧ (numS n).length ≤ 2 ∧ 1 ≤ (numS n).length := by
  obtain ⟨a, b⟩ := Bool.and_eq_true_iff.mp (num_all ⟨n, h⟩)
  obtain ⟨b, c⟩ := Bool.and_eq_true_iff.mp b
  refine ⟨fun d hd => .inr ?_, of_decide_eq_true b, of_decide_eq_true c⟩
  have q := List.all_eq_true.mp a d hd
  exact of_decide_eq_true (p := 48 ≤ d ∧ d ≤ 57) q
theorem num_inj {n m : Nat} (hn : n < 70) (hm : m < 70) (h : numS n = numS m) : n = m := congrArg Fin.val (num_inj0 ⟨n, hn⟩ ⟨m, hm⟩ (by rw [h]))
/-- the tries for a name: the word, then the word with 1, 2 .. -/
def tryS (z : Str) : Nat → Str
  | 0 => z
  | n + 1 => z ++ numS (n + 1)
theorem app_inj {a b c : Str} (h : a ++ b = a ++ c) : b = c := by
  have e := congrArg (fun z : Str => z.cps.toList) h
  simp only [toList_app] at e
  have q := List.append_cancel_left e
  cases b; cases c
  simp only at q
  congr
  exact Array.toList_inj.mp q
theorem try_inj {z : Str} {n m : Nat} (hn : n < 70) (hm : m < 70) (h : tryS z n = tryS z m) : n = m := by
  have key : ∀ k, k + 1 < 70 → z ≠ z ++ numS (k + 1) := fun k hk e => by
    have l := congrArg (fun z : Str => z.cps.toList.length) e
    simp only [toList_app, List.length_append] at l
    have q := (num_sign hk).2.2
    have q' : 1 ≤ (numS (k + 1)).cps.toList.length := by simpa [PySem.Str.length] using q
    omega
  cases n with
  | zero =>
    cases m with
    | zero => rfl
    | succ m => exact (key m hm h).elim
  | succ n =>
    cases m with
    | zero => exact (key n hn h.symm).elim
    | succ m => exact num_inj hn hm (app_inj h)
theorem holes {α : Type} [BEq α] [LawfulBEq α] {f : Nat → α} : ∀ {n : Nat} {l : List α}, (∀ i j, i < n → j < n → f i = f j → i = j) → (∀ i, i < n → f i ∈ l) → n ≤ l.length
  | 0, _, _, _ => Nat.zero_le _
  | n + 1, l, inj, h => by
    have hm := h n (Nat.lt_succ_self n)
    have q := holes (n := n) (l := l.erase (f n)) (fun i j hi hj => inj i j (by omega) (by omega)) (fun i hi => by
      refine (List.mem_erase_of_ne fun e => ?_).mpr (h i (by omega))
      have := inj i n (by omega) (by omega) e
      omega)
    rw [List.length_erase_of_mem hm] at q
    have := List.length_pos_of_mem hm
    omega
theorem try_end {z : Str} {taken : List Str} {n : Nat} (ht : taken.length ≤ 60) (h : ∀ i, i < n → tryS z i ∈ taken) (hn : n ≤ 61) : n ≤ taken.length :=
  holes (f := tryS z) (fun i j hi hj e => try_inj (by omega) (by omega) e) h
theorem inV_strs {z : Str} {ns : List Str} : inV (.str z) (ns.map V.str) = decide (z ∈ ns) := by
  unfold inV
  rw [List.any_map]
  induction ns with
  | nil => simp
  | cons a r ih =>
    rw [List.any_cons, ih]
    have e : eqV (.str a) (.str z) = decide (a = z) := by
      unfold eqV
      by_cases h : a = z
      · simp [h]
      · simp [h]
    show (eqV (.str a) (.str z) || _) = _
    rw [e]
    by_cases h : a = z
    · simp [h]
    · have h' : ¬ z = a := fun x => h x.symm
      simp [h, h']
end Wm
namespace Wm
open PySem L2
abbrev sNam : Stmt := top 34
abbrev sNms : Stmt := top 35
theorem StOk.upd {p d : Addr} {H : Hp} {o : HO} (n : d ≠ p) (h : StOk H p) : StOk (L2.upd H d o) p := by
  obtain ⟨a, b, c, e, r⟩ := h
  exact ⟨a, b, c, by rw [upd_ne n.symm]; exact e, r⟩
theorem StOk.same {p : Addr} {H H' : Hp} (e : Same H H') (h : StOk H p) : StOk H' p := by
  obtain ⟨a, b, c, q, r⟩ := h
  exact ⟨a, b, c, e _ _ q, r⟩
theorem st_free {p d : Addr} {H : Hp} (h : StOk H p) (n : H d = none) : d ≠ p := by
  obtain ⟨a, b, c, e, _⟩ := h
  exact fun z => by
    rw [z, e] at n
    cases n
theorem but_new {p d : Addr} {H H1 : Hp} {o : HO} (b : But p H H1) (n : d ≠ p) (h0 : H d = none) : But p H (L2.upd H1 d o) := fun q u nq e => by
  rw [upd_ne (ne_of_none e h0)]
  exact b q u nq e
theorem flats (ns : List Str) : (ns.map V.str).all flatV = true := by
  induction ns with
  | nil => rfl
  | cons a r ih => rw [List.map_cons, List.all_cons, ih]; rfl
def spNam : Sp := fun vs H Q _ => ∃ (p ln : Addr) (taken : List Str), vs = [.ref p, .ref ln] ∧ StOk H p ∧ ln ≠ p ∧ H ln = some (.lst (taken.map V.str)) ∧ taken.length ≤ 60 ∧
  ∀ (z : Str) H', NmP z → z.length ≤ 6 → z ∉ taken → But p H H' → StOk H' p → Q (.str z) H'
def spNms : Sp := fun vs H Q _ => ∃ (p : Addr) (n : Int), vs = [.ref p, .int n] ∧ StOk H p ∧ 0 ≤ n ∧ n ≤ 60 ∧
  ∀ (zs : List Str) d H', H d = none → d ≠ p → But p H H' → StOk H' p → H' d = some (.lst (zs.map V.str)) → zs.length = n.toNat → zs.Nodup → (∀ z ∈ zs, NmP z ∧ z.length ≤ 6) → Q (.ref d) H'
/-- how many tries are left -/
def mu7 (σ : L2.St) : Nat := match (σ[7]? : Option (Option V)) with
  | some (some (V.int n)) => 100 - n.toNat
  | _ => 0
theorem log_small {n : Nat} (h : n ≤ 100) : ((n : Int) + 1).natAbs.log2 < 1920 := by
  have e : ((n : Int) + 1).natAbs = n + 1 := by omega
  rw [e]
  have q : (n + 1).log2 ≤ n + 1 := Nat.log2_le_self _
  omega
theorem try_nm {z : Str} (h : NmP z) (hl : z.length ≤ 4) {n : Nat} (hn : n ≤ 60) : NmP (tryS z n) ∧ (tryS z n).length ≤ 6 := by
  cases n with
  | zero => exact ⟨h, by show z.length ≤ 6; omega⟩
  | succ n =>
    have q := num_sign (n := n + 1) (by omega)
    refine ⟨h.app q.1, ?_⟩
    show (z ++ numS (n + 1)).length ≤ 6
    rw [len_app]
    omega
section
variable {P : Program} {w : World} {K : PySem.W.Frag} {mg : Str → Option Value} {base : Heap}
theorem scNam : FnScope ["_law_s", "_law_taken", "_law_some", "_law_kind", "_law_word", "_law_k", "_law_found", "_law_n"] ["_law_s", "_law_taken"] (defScope sNam) := ⟨rfl, rfl, rfl, by decide +kernel, rfl, by decide +kernel, by decide +kernel⟩
theorem ok_nam {f fg : Addr} {fd fdg : FuncData} (F : Fun K "_law_name" "_law_name" sNam f fd) (T : TxB mg) (tstr : mg "str" = none) (D : Dn K mg "_law_digit" sDigit ["_law_state_here", "_law_base"] fg fdg) : FnOk P w K mg base CX0 2 f fd ["_law_s", "_law_taken"] spNam := by
  have G : FnOk P w K mg base CX0 1 fg fdg ["_law_state_here", "_law_base"] spDigit := ok_digit D.F
  refine F.ok scNam (fun vs H Q E h => ?_) (fun cdv A outer s H vs Q E hr h => ?_)
  · obtain ⟨p, ln, tk, rfl, _⟩ := h
    rfl
  · obtain ⟨p, ln, taken, rfl, hS, nlp, hT, hl, k⟩ := h
    refine ⟨_, (pss_cons (ps_set (i := 2) scNam.nd rfl (Or.inl rfl) pe_str)
      (pss_cons (ps_set (i := 3) scNam.nd rfl (Or.inl rfl) (pe_call G hr rfl D.g D.F.kp D.b .nil pass0 (pa_cons (pv 0) (pa_cons pe_int pa_nil))))
      (pss_cons (ps_set (i := 4) scNam.nd rfl (Or.inl rfl) (pe_ix ix_str (pv 2) (pe_call G hr rfl D.g D.F.kp D.b .nil pass0 (pa_cons (pv 0) (pa_cons pe_int pa_nil))) (fun _ _ => rfl)))
      (pss_cons (ps_for PassesOwn.never rfl (pi_range1 rfl T.range (pa_cons (pe_call G hr rfl D.g D.F.kp D.b .nil pass0 (pa_cons (pv 0) (pa_cons pe_int pa_nil))) pa_nil)) (pg_name (i := 5) scNam.nd rfl (Or.inl rfl)) (pss_one (ps_set (i := 4) scNam.nd rfl (Or.inl rfl) (pe_op op_add_str (pv 4) (pe_ix ix_str (pv 2) (pe_call G hr rfl D.g D.F.kp D.b .nil pass0 (pa_cons (pv 0) (pa_cons pe_int pa_nil))) (fun _ _ => rfl))))))
      (pss_cons (ps_if (pt_cmpR op_eq (pv 3) pe_int (nomark _)) (pss_one (ps_set (i := 4) scNam.nd rfl (Or.inl rfl) (pe_ix ix_list (pe_lst (pa_cons pe_str (pa_cons pe_str (pa_cons pe_str (pa_cons pe_str pa_nil))))) (pe_call G hr rfl D.g D.F.kp D.b .nil pass0 (pa_cons (pv 0) (pa_cons pe_int pa_nil))) (fun _ _ => rfl)))) pss_nil)
      (pss_cons (ps_set (i := 6) scNam.nd rfl (Or.inl rfl) (pv 4))
      (pss_cons (ps_set (i := 7) scNam.nd rfl (Or.inl rfl) pe_int)
      (pss_cons (ps_while PassesOwn.never (pt_cmpR op_in_seq (pv 6) (pv 1) (by rfl)) (pss_cons (ps_set (i := 7) scNam.nd rfl (Or.inl rfl) (pe_op op_add (pv 7) pe_int))
      (pss_one (ps_set (i := 6) scNam.nd rfl (Or.inl rfl) (pe_op op_add_str (pv 4) (pe_callTy call_str_int (by rfl) tstr (by decide +kernel) (pa_cons (pv 7) pa_nil)))))))
      (pss_one (ps_ret (pv 6))))))))))), ?_⟩
    refine ⟨_, rfl, p, _, rfl, hS, by decide, by decide, fun d1 H1 a1 b1 B1 S1 => ?_⟩
    refine ⟨_, rfl, _, rfl, p, _, rfl, S1, by decide, by decide, fun d2 H2 a2 b2 B2 S2 => ?_⟩
    refine rdItem abc36_len a2 (by omega) (by decide) fun c hc => ?_
    have hc' : lowC c := abc_low (by omega) hc
    refine ⟨_, rfl, p, _, rfl, S2, by decide, by decide, fun d3 H3 a3 b3 B3 S3 => ?_⟩
    refine ⟨d3, rfl, by omega, by omega, ?_⟩
    refine for_range (n := d3.toNat) (fun i σ H' => ∃ (z : Str) (v : Option V), σ = [some (.ref p), some (.ref ln), some (.str ABC36), some (.int d1), some (.str z), v, none, none] ∧ z.length ≤ i + 1 ∧ NmP z ∧ But p H H' ∧ StOk H' p)
      ⟨⟨#[c]⟩, none, rfl, Nat.le_refl _, NmP.one hc', (B1.trans B2).trans B3, S3⟩ ?_ ?_
    · rintro i σ H' hi ⟨z, v, rfl, hz, hp, B, S⟩
      refine ⟨_, rfl, _, rfl, _, rfl, p, _, rfl, S, by decide, by decide, fun d5 H5 a5 b5 B5 S5 => ?_⟩
      refine rdItem abc36_len a5 (by omega) (by decide) fun c hc => ?_
      refine ⟨_, _, rfl, rfl, ?_, ?_⟩
      · rw [len_one]
        exact Nat.le_trans (show z.length + 1 ≤ 100 by omega) (by decide)
      · refine ⟨_, _, rfl, ?_, hp.app (fun d hd => ?_), B.trans B5, S5⟩
        · rw [len_app, len_one]
          omega
        · have e : d = c := by simpa using hd
          rw [e]
          exact abc_any hc
    · rintro σ H4 ⟨z, v, rfl, hz, hp, B, S⟩
      refine ⟨_, rfl, rfl, _, rfl, ?_⟩
      refine ite2 (fun _ => ?_) (fun _ => ?_)
      · refine ⟨by show 4 ≤ sizeLine; decide, fun l nl => ?_⟩
        have nlq := st_free S nl
        refine ⟨_, rfl, p, _, rfl, S.upd nlq, by decide, by decide, fun d6 H6 a6 b6 B6 S6 => ?_⟩
        have hq : ∀ z ∈ (["m1", "m2", "m3", "m10"] : List Str), (∃ c cs, z.cps.toList = c :: cs ∧ (97 ≤ c ∧ c ≤ 122) ∧ ∀ d ∈ cs, (97 ≤ d ∧ d ≤ 122) ∨ (48 ≤ d ∧ d ≤ 57)) ∧ z.length ≤ 4 := by
          intro z hz
          rcases List.mem_cons.mp hz with e | hz
          · rw [e]; exact ⟨⟨109, [49], by decide +kernel, by decide, by decide⟩, by decide +kernel⟩
          rcases List.mem_cons.mp hz with e | hz
          · rw [e]; exact ⟨⟨109, [50], by decide +kernel, by decide, by decide⟩, by decide +kernel⟩
          rcases List.mem_cons.mp hz with e | hz
          · rw [e]; exact ⟨⟨109, [51], by decide +kernel, by decide, by decide⟩, by decide +kernel⟩
          rcases List.mem_cons.mp hz with e | hz
          · rw [e]; exact ⟨⟨109, [49, 48], by decide +kernel, by decide, by decide⟩, by decide +kernel⟩
          cases hz
        have hj : d6.toNat < (["m1", "m2", "m3", "m10"] : List Str).length := by show _ < 4; omega
        refine rdList (B6 l _ nlq upd_same) (j := d6.toNat) (v := .str ((["m1", "m2", "m3", "m10"] : List Str)[d6.toNat])) (by omega) ?_ ?_
        · have e : ((["m1", "m2", "m3", "m10"] : List Str).map V.str)[d6.toNat]? = some (.str ((["m1", "m2", "m3", "m10"] : List Str)[d6.toNat])) := by
            rw [List.getElem?_map, List.getElem?_eq_getElem hj]
            rfl
          exact e
        · have hh := hq _ (List.getElem_mem hj)
          generalize (["m1", "m2", "m3", "m10"] : List Str)[d6.toNat] = zz at hh
          have hzz : NmP zz := hh.1
          have hzl : zz.length ≤ 4 := hh.2
          have BB : But p H H6 := (but_new B nlq ((B.free nlq nl))).trans B6
          have SS : StOk H6 p := S6
          clear hh hq hj B6 S6 B S hz hp nl
          revert zz
          intro zz hzz hzl
          refine ⟨_, rfl, ?_⟩
          have hTT : H6 ln = some (.lst (taken.map V.str)) := BB ln _ nlp hT
          refine while_by (fun σ H' => H' = H6 ∧ ∃ n : Nat, σ = [some (.ref p), some (.ref ln), some (.str ABC36), some (.int d1), some (.str zz), v, some (.str (tryS zz n)), some (.int (n : Int))] ∧ n ≤ 60 ∧ ∀ i, i < n → tryS zz i ∈ taken) (fun σ _ => mu7 σ)
            ⟨rfl, 0, rfl, Nat.zero_le _, fun i hi => absurd hi (Nat.not_lt_zero i)⟩ ?_ ?_
          · rintro σ H' ⟨rfl, n, rfl, hn, hall⟩
            refine ⟨_, rfl, _, rfl, ln, _, rfl, .inl (SqL.of hTT), rfl, flats taken, _, rfl, ?_⟩
            show if inV (.str (tryS zz n)) (taken.map V.str) = true then _ else _
            rw [inV_strs]
            by_cases hm : tryS zz n ∈ taken
            · rw [decide_eq_true hm]
              refine iteT ?_
              have hall' : ∀ i, i < n + 1 → tryS zz i ∈ taken := fun i hi => by
                by_cases e : i = n
                · rw [e]
                  exact hm
                · exact hall i (by omega)
              have hle := try_end hl hall' (by omega)
              refine ⟨_, rfl, _, _, rfl, rfl, ?_⟩
              refine ⟨_, rfl, _, rfl, _, rfl, log_small (by omega), _, _, rfl, rfl, ?_, ?_⟩
              · have q := num_sign (n := n + 1) (by omega)
                exact Nat.le_trans (show zz.length + (numS (n + 1)).length ≤ 100 by omega) (by decide)
              · refine ⟨⟨rfl, n + 1, rfl, by omega, hall'⟩, ?_⟩
                show 100 - ((n : Int) + 1).toNat < 100 - (n : Int).toNat
                omega
            · rw [decide_eq_false hm]
              refine iteF ?_
              exact ⟨_, rfl, k _ _ (try_nm hzz hzl hn).1 (try_nm hzz hzl hn).2 hm BB SS⟩
          · intro σ H' Q1 Q2 f h
            obtain ⟨x, e1, y, e2, p', xs, e3, a, b, c, bb, e4, q⟩ := h
            exact ⟨x, e1, y, e2, p', xs, e3, a, b, c, bb, e4, f _ _ q⟩
      · have hzz : NmP z := hp
        have hzl : z.length ≤ 4 := by omega
        have BB : But p H H4 := B
        have SS : StOk H4 p := S
        refine ⟨_, rfl, ?_⟩
        have hTT : H4 ln = some (.lst (taken.map V.str)) := BB ln _ nlp hT
        refine while_by (fun σ H' => H' = H4 ∧ ∃ n : Nat, σ = [some (.ref p), some (.ref ln), some (.str ABC36), some (.int d1), some (.str z), v, some (.str (tryS z n)), some (.int (n : Int))] ∧ n ≤ 60 ∧ ∀ i, i < n → tryS z i ∈ taken) (fun σ _ => mu7 σ)
          ⟨rfl, 0, rfl, Nat.zero_le _, fun i hi => absurd hi (Nat.not_lt_zero i)⟩ ?_ ?_
        · rintro σ H' ⟨rfl, n, rfl, hn, hall⟩
          refine ⟨_, rfl, _, rfl, ln, _, rfl, .inl (SqL.of hTT), rfl, flats taken, _, rfl, ?_⟩
          show if inV (.str (tryS z n)) (taken.map V.str) = true then _ else _
          rw [inV_strs]
          by_cases hm : tryS z n ∈ taken
          · rw [decide_eq_true hm]
            refine iteT ?_
            have hall' : ∀ i, i < n + 1 → tryS z i ∈ taken := fun i hi => by
              by_cases e : i = n
              · rw [e]
                exact hm
              · exact hall i (by omega)
            have hle := try_end hl hall' (by omega)
            refine ⟨_, rfl, _, _, rfl, rfl, ?_⟩
            refine ⟨_, rfl, _, rfl, _, rfl, log_small (by omega), _, _, rfl, rfl, ?_, ?_⟩
            · have q := num_sign (n := n + 1) (by omega)
              exact Nat.le_trans (show z.length + (numS (n + 1)).length ≤ 100 by omega) (by decide)
            · refine ⟨⟨rfl, n + 1, rfl, by omega, hall'⟩, ?_⟩
              show 100 - ((n : Int) + 1).toNat < 100 - (n : Int).toNat
              omega
          · rw [decide_eq_false hm]
            refine iteF ?_
            exact ⟨_, rfl, k _ _ (try_nm hzz hzl hn).1 (try_nm hzz hzl hn).2 hm BB SS⟩
        · intro σ H' Q1 Q2 f h
          obtain ⟨x, e1, y, e2, p', xs, e3, a, b, c, bb, e4, q⟩ := h
          exact ⟨x, e1, y, e2, p', xs, e3, a, b, c, bb, e4, f _ _ q⟩
theorem scNms : FnScope ["_law_s", "_law_many", "_law_found", "_law_k"] ["_law_s", "_law_many"] (defScope sNms) := ⟨rfl, rfl, rfl, by decide +kernel, rfl, by decide +kernel, by decide +kernel⟩
theorem ok_nms {f fL : Addr} {fd dL : FuncData} (F : Fun K "_law_names" "_law_names" sNms f fd) (T : TxB mg) (D : Dn K mg "_law_name" sNam ["_law_s", "_law_taken"] fL dL) (G : FnOk P w K mg base CX0 2 fL dL ["_law_s", "_law_taken"] spNam) : FnOk P w K mg base CX0 3 f fd ["_law_s", "_law_many"] spNms := by
  refine F.ok scNms (fun vs H Q E h => ?_) (fun cdv A outer s H vs Q E hr h => ?_)
  · obtain ⟨p, n, rfl, _⟩ := h
    rfl
  · obtain ⟨p, n, rfl, hS, n0, n6, k⟩ := h
    refine ⟨_, (pss_cons (ps_set (i := 2) scNms.nd rfl (Or.inl rfl) (pe_lst pa_nil))
      (pss_cons (ps_for PassesOwn.never rfl (pi_range1 rfl T.range (pa_cons (pv 1) pa_nil)) (pg_name (i := 3) scNms.nd rfl (Or.inl rfl)) (pss_one (ps_expr (pe_bm PySem.F.plainAttrs_list PySem.F.slot_list_append PySem.F.type_list_append mt_append (pv 2) (pa_cons (pe_call G hr rfl D.g D.F.kp D.b .nil pass0 (pa_cons (pv 0) (pa_cons (pv 2) pa_nil))) pa_nil)))))
      (pss_one (ps_ret (pv 2))))), ?_⟩
    refine ⟨Nat.zero_le _, fun d hd => ?_⟩
    have ndp := st_free hS hd
    refine ⟨_, rfl, n, rfl, by omega, by omega, ?_⟩
    refine for_range (n := n.toNat) (fun i σ H' => (∃ u, σ = [some (.ref p), some (.int n), some (.ref d), u]) ∧ ∃ zs : List Str, H' d = some (.lst (zs.map V.str)) ∧ zs.Nodup ∧ (∀ z ∈ zs, NmP z ∧ z.length ≤ 6) ∧ zs.length = i ∧ But p H H' ∧ StOk H' p)
      ⟨⟨none, rfl⟩, [], upd_same, List.nodup_nil, fun z hz => (List.not_mem_nil hz).elim, rfl, but_new (But.refl p H) ndp hd, hS.upd ndp⟩ ?_ ?_
    · rintro i σ H1 hi ⟨⟨u, rfl⟩, zs, hl, nd, nm, len, B, S⟩
      refine ⟨_, rfl, .inl ⟨rfl, _, SqL.of hl⟩, _, rfl, _, rfl, p, d, zs, rfl, S, ndp, hl, by omega, fun z H2 hz hz6 hm B2 S2 => ?_⟩
      have hl2 := B2 d _ ndp hl
      refine ⟨d, _, _, rfl, rfl, hl2, ?_, ?_⟩
      · rw [List.length_map]
        exact Nat.lt_of_le_of_lt (show _ ≤ 1000 by omega) (by decide)
      · refine ⟨⟨_, rfl⟩, zs ++ [z], ?_, ?_, ?_, ?_, but_new (B.trans B2) ndp hd, S2.upd ndp⟩
        · rw [upd_same, List.map_append]
          rfl
        · rw [List.nodup_append]
          exact ⟨nd, (by simp : [z].Nodup), fun a ha b hb e => by
            have eb : b = z := by simpa using hb
            rw [e, eb] at ha
            exact hm ha⟩
        · intro y hy
          rcases List.mem_append.mp hy with hy | hy
          · exact nm y hy
          · rw [List.mem_singleton.mp hy]
            exact ⟨hz, hz6⟩
        · rw [List.length_append, List.length_singleton]
          omega
    · rintro σ H1 ⟨⟨u, rfl⟩, zs, hl, nd, nm, len, B, S⟩
      exact ⟨_, rfl, k zs d H1 hd ndp B S hl len nd nm⟩
end
end Wm
namespace Wm
open PySem L2
abbrev sOne : Stmt := top 36
abbrev sOth : Stmt := top 37
/-- all that is known of an error class at the place j of the row of kinds -/
structure Cla (P : Program) (w : World) (K : PySem.W.Frag) (mg : Str → Option Value) (base : Heap) (x : Str) (fs ps : List Str) (fT C : Addr) (sp : Sp) : Prop where
  ex : ∃ (f : Addr) (fd : FuncData), ErG K mg x fs fT C f ∧ FnOk P w K mg base CX0 2 f fd ps sp ∧ Binds K fd ps []
/-- an error at e, of the class C, with the fields fs -/
structure ExAt (H : Hp) (e C : Addr) (fs : List (Str × V)) : Prop where
  ex : ∃ dx, H e = some (exo e C (some dx)) ∧ H dx = some (exd dx fs)
theorem ExAt.same {H H' : Hp} {e C : Addr} {fs : List (Str × V)} (s : Same H H') (h : ExAt H e C fs) : ExAt H' e C fs := by
  obtain ⟨dx, a, b⟩ := h.ex
  exact ⟨dx, s _ _ a, s _ _ b⟩
def kdL : List Str := ["noname", "twice", "novariable", "loose", "nosort", "noword", "norule", "nobar", "nothing", "taken", "asleep", "misfit", "apart", "crowded", "badrow", "nodeed", "unlike", "badcount", "upward", "nomaking", "freer", "notheld", "stands", "never", "nocure", "barred", "full", "noback"]
def kd (k : Nat) : Str := kdL.getD k ""
/-- the fields of the error of the kind k, made of a, b, c, n and the rows -/
def FsOk (H : Hp) (a b c : Str) (n : Int) (ys : List V) (fs : List (Str × V)) : Nat → Prop
  | 12 => fs = ef1 "place" "apart" (.int n)
  | 13 => fs = ef1 "count" "crowded" (.int n)
  | 14 => fs = ef1 "row" "badrow" (.int n)
  | 15 => fs = ef1 "word" "nodeed" (.str a)
  | 16 => fs = ef1 "what" "unlike" (.str a)
  | 17 => fs = efd2 "what" "count" "badcount" (.str a) (.int n)
  | 18 => fs = efd2 "maker" "made" "upward" (.str a) (.str b)
  | 19 => fs = efd2 "maker" "made" "nomaking" (.str a) (.str b)
  | 20 => ∃ t, fs = efd2 "name" "row" "freer" (.str a) (.ref t) ∧ H t = some (.tup [.str b, .str c])
  | 21 => fs = efd3 "x" "word" "y" "notheld" (.str a) (.str b) (.str c)
  | 22 => fs = efd3 "x" "word" "y" "stands" (.str a) (.str b) (.str c)
  | 23 => fs = efd3 "x" "word" "y" "never" (.str a) (.str b) (.str c)
  | 24 => fs = efd3 "x" "word" "y" "nocure" (.str a) (.str b) (.str c)
  | 25 => ∃ t l, fs = efd3 "name" "spots" "deeds" "barred" (.str a) (.ref t) (.ref l) ∧ H t = some (.tup [.str b, .str c]) ∧ H l = some (.lst ys)
  | 26 => fs = efd0 "full"
  | 27 => fs = efd0 "noback"
  | k => fs = ef1 "name" (kd k) (.str a)
def Kind (H : Hp) (cl : Nat → Addr) (e : Addr) (k : Nat) (a b c : Str) (n : Int) (ys : List V) : Prop := ∃ fs, ExAt H e (cl k) fs ∧ FsOk H a b c n ys fs k
theorem left_same {H H' : Hp} {e : Addr} {x : HO} (he : H e = none) (fr : ∀ b o, b ≠ e → upd H e x b = some o → H' b = some o) : Same H H' := fun q o h => by
  have n := ne_of_none h he
  exact fr q o n (by rw [upd_ne n]; exact h)
theorem int_is {k j : Int} (h : decide (V.int k = V.int j) = true) : k = j := V.int.inj (of_decide_eq_true h)
theorem int_not {k j : Int} (h : ¬ decide (V.int k = V.int j) = true) : ¬ k = j := fun e => h (by rw [e]; exact decide_eq_true rfl)
def spOne (cl : Nat → Addr) : Sp := fun vs H Q _ => ∃ (k : Nat) (a : Str), vs = [.int k, .str a] ∧ k < 12 ∧ ∀ e H', Same H H' → ExAt H' e (cl k) (ef1 "name" (kd k) (.str a)) → Q (.ref e) H'
def spOth (cl : Nat → Addr) : Sp := fun vs H Q _ => ∃ (k : Nat) (a b c : Str) (n : Int) (rw : Addr) (ys : List V), vs = [.int k, .str a, .str b, .str c, .int n, .ref rw] ∧ 12 ≤ k ∧ k < 28 ∧ H rw = some (.lst ys) ∧ ∀ e H', Same H H' → Kind H' cl e k a b c n ys → Q (.ref e) H'
section
variable {P : Program} {w : World} {K : PySem.W.Frag} {mg : Str → Option Value} {base : Heap}
theorem scOne : FnScope ["_law_k", "_law_a"] ["_law_k", "_law_a"] (defScope sOne) := ⟨rfl, rfl, rfl, by decide +kernel, rfl, by decide +kernel, by decide +kernel⟩
theorem ok_one {f fT : Addr} {fd : FuncData} {cl : Nat → Addr} (F : Fun K "_law_one" "_law_one" sOne f fd) (c0 : Cla P w K mg base "NoName" ["name"] ["self", "name"] fT (cl 0) (spX1 (cl 0) "name" "noname")) (c1 : Cla P w K mg base "Twice" ["name"] ["self", "name"] fT (cl 1) (spX1 (cl 1) "name" "twice")) (c2 : Cla P w K mg base "NoVariable" ["name"] ["self", "name"] fT (cl 2) (spX1 (cl 2) "name" "novariable")) (c3 : Cla P w K mg base "Loose" ["name"] ["self", "name"] fT (cl 3) (spX1 (cl 3) "name" "loose")) (c4 : Cla P w K mg base "NoSort" ["name"] ["self", "name"] fT (cl 4) (spX1 (cl 4) "name" "nosort")) (c5 : Cla P w K mg base "NoWord" ["name"] ["self", "name"] fT (cl 5) (spX1 (cl 5) "name" "noword")) (c6 : Cla P w K mg base "NoRule" ["name"] ["self", "name"] fT (cl 6) (spX1 (cl 6) "name" "norule")) (c7 : Cla P w K mg base "NoBar" ["name"] ["self", "name"] fT (cl 7) (spX1 (cl 7) "name" "nobar")) (c8 : Cla P w K mg base "NoThing" ["name"] ["self", "name"] fT (cl 8) (spX1 (cl 8) "name" "nothing")) (c9 : Cla P w K mg base "Taken" ["name"] ["self", "name"] fT (cl 9) (spX1 (cl 9) "name" "taken")) (c10 : Cla P w K mg base "Asleep" ["name"] ["self", "name"] fT (cl 10) (spX1 (cl 10) "name" "asleep")) (c11 : Cla P w K mg base "Misfit" ["name"] ["self", "name"] fT (cl 11) (spX1 (cl 11) "name" "misfit")) : FnOk P w K mg base CX0 4 f fd ["_law_k", "_law_a"] (spOne cl) := by
  refine F.ok scOne (fun vs H Q E h => ?_) (fun cdv A outer s H vs Q E hr h => ?_)
  · obtain ⟨k, a, rfl, _⟩ := h
    rfl
  · obtain ⟨k, a, rfl, hk, kk⟩ := h
    obtain ⟨f0, d0, T0, G0, b0⟩ := c0.ex
    obtain ⟨f1, d1, T1, G1, b1⟩ := c1.ex
    obtain ⟨f2, d2, T2, G2, b2⟩ := c2.ex
    obtain ⟨f3, d3, T3, G3, b3⟩ := c3.ex
    obtain ⟨f4, d4, T4, G4, b4⟩ := c4.ex
    obtain ⟨f5, d5, T5, G5, b5⟩ := c5.ex
    obtain ⟨f6, d6, T6, G6, b6⟩ := c6.ex
    obtain ⟨f7, d7, T7, G7, b7⟩ := c7.ex
    obtain ⟨f8, d8, T8, G8, b8⟩ := c8.ex
    obtain ⟨f9, d9, T9, G9, b9⟩ := c9.ex
    obtain ⟨f10, d10, T10, G10, b10⟩ := c10.ex
    obtain ⟨f11, d11, T11, G11, b11⟩ := c11.ex
    refine ⟨_, (pss_cons (ps_if (pt_cmpR op_eq (pv 0) pe_int (nomark _)) (pss_one (ps_ret (pe_oex T0.o T0.iC T0.tI G0 hr b0 rfl T0.g (pa_cons (pv 1) pa_nil)))) pss_nil)
      (pss_cons (ps_if (pt_cmpR op_eq (pv 0) pe_int (nomark _)) (pss_one (ps_ret (pe_oex T1.o T1.iC T1.tI G1 hr b1 rfl T1.g (pa_cons (pv 1) pa_nil)))) pss_nil)
      (pss_cons (ps_if (pt_cmpR op_eq (pv 0) pe_int (nomark _)) (pss_one (ps_ret (pe_oex T2.o T2.iC T2.tI G2 hr b2 rfl T2.g (pa_cons (pv 1) pa_nil)))) pss_nil)
      (pss_cons (ps_if (pt_cmpR op_eq (pv 0) pe_int (nomark _)) (pss_one (ps_ret (pe_oex T3.o T3.iC T3.tI G3 hr b3 rfl T3.g (pa_cons (pv 1) pa_nil)))) pss_nil)
      (pss_cons (ps_if (pt_cmpR op_eq (pv 0) pe_int (nomark _)) (pss_one (ps_ret (pe_oex T4.o T4.iC T4.tI G4 hr b4 rfl T4.g (pa_cons (pv 1) pa_nil)))) pss_nil)
      (pss_cons (ps_if (pt_cmpR op_eq (pv 0) pe_int (nomark _)) (pss_one (ps_ret (pe_oex T5.o T5.iC T5.tI G5 hr b5 rfl T5.g (pa_cons (pv 1) pa_nil)))) pss_nil)
      (pss_cons (ps_if (pt_cmpR op_eq (pv 0) pe_int (nomark _)) (pss_one (ps_ret (pe_oex T6.o T6.iC T6.tI G6 hr b6 rfl T6.g (pa_cons (pv 1) pa_nil)))) pss_nil)
      (pss_cons (ps_if (pt_cmpR op_eq (pv 0) pe_int (nomark _)) (pss_one (ps_ret (pe_oex T7.o T7.iC T7.tI G7 hr b7 rfl T7.g (pa_cons (pv 1) pa_nil)))) pss_nil)
      (pss_cons (ps_if (pt_cmpR op_eq (pv 0) pe_int (nomark _)) (pss_one (ps_ret (pe_oex T8.o T8.iC T8.tI G8 hr b8 rfl T8.g (pa_cons (pv 1) pa_nil)))) pss_nil)
      (pss_cons (ps_if (pt_cmpR op_eq (pv 0) pe_int (nomark _)) (pss_one (ps_ret (pe_oex T9.o T9.iC T9.tI G9 hr b9 rfl T9.g (pa_cons (pv 1) pa_nil)))) pss_nil)
      (pss_cons (ps_if (pt_cmpR op_eq (pv 0) pe_int (nomark _)) (pss_one (ps_ret (pe_oex T10.o T10.iC T10.tI G10 hr b10 rfl T10.g (pa_cons (pv 1) pa_nil)))) pss_nil)
      (pss_one (ps_ret (pe_oex T11.o T11.iC T11.tI G11 hr b11 rfl T11.g (pa_cons (pv 1) pa_nil))))))))))))))), ?_⟩
    refine ⟨_, rfl, rfl, _, rfl, ite2 (fun h => ?_) (fun h0 => ?_)⟩
    · have e : k = 0 := by have := int_is h; omega
      subst e
      exact ⟨_, rfl, by show 1 ≤ 1000; decide, fun e he => ⟨e, _, rfl, upd_same, fun dx H' n ne fr ha hd => ⟨rfl, kk e H' (left_same he fr) ⟨dx, ha, hd⟩⟩⟩⟩
    have i0 := int_not h0
    refine ⟨_, rfl, rfl, _, rfl, ite2 (fun h => ?_) (fun h1 => ?_)⟩
    · have e : k = 1 := by have := int_is h; omega
      subst e
      exact ⟨_, rfl, by show 1 ≤ 1000; decide, fun e he => ⟨e, _, rfl, upd_same, fun dx H' n ne fr ha hd => ⟨rfl, kk e H' (left_same he fr) ⟨dx, ha, hd⟩⟩⟩⟩
    have i1 := int_not h1
    refine ⟨_, rfl, rfl, _, rfl, ite2 (fun h => ?_) (fun h2 => ?_)⟩
    · have e : k = 2 := by have := int_is h; omega
      subst e
      exact ⟨_, rfl, by show 1 ≤ 1000; decide, fun e he => ⟨e, _, rfl, upd_same, fun dx H' n ne fr ha hd => ⟨rfl, kk e H' (left_same he fr) ⟨dx, ha, hd⟩⟩⟩⟩
    have i2 := int_not h2
    refine ⟨_, rfl, rfl, _, rfl, ite2 (fun h => ?_) (fun h3 => ?_)⟩
    · have e : k = 3 := by have := int_is h; omega
      subst e
      exact ⟨_, rfl, by show 1 ≤ 1000; decide, fun e he => ⟨e, _, rfl, upd_same, fun dx H' n ne fr ha hd => ⟨rfl, kk e H' (left_same he fr) ⟨dx, ha, hd⟩⟩⟩⟩
    have i3 := int_not h3
    refine ⟨_, rfl, rfl, _, rfl, ite2 (fun h => ?_) (fun h4 => ?_)⟩
    · have e : k = 4 := by have := int_is h; omega
      subst e
      exact ⟨_, rfl, by show 1 ≤ 1000; decide, fun e he => ⟨e, _, rfl, upd_same, fun dx H' n ne fr ha hd => ⟨rfl, kk e H' (left_same he fr) ⟨dx, ha, hd⟩⟩⟩⟩
    have i4 := int_not h4
    refine ⟨_, rfl, rfl, _, rfl, ite2 (fun h => ?_) (fun h5 => ?_)⟩
    · have e : k = 5 := by have := int_is h; omega
      subst e
      exact ⟨_, rfl, by show 1 ≤ 1000; decide, fun e he => ⟨e, _, rfl, upd_same, fun dx H' n ne fr ha hd => ⟨rfl, kk e H' (left_same he fr) ⟨dx, ha, hd⟩⟩⟩⟩
    have i5 := int_not h5
    refine ⟨_, rfl, rfl, _, rfl, ite2 (fun h => ?_) (fun h6 => ?_)⟩
    · have e : k = 6 := by have := int_is h; omega
      subst e
      exact ⟨_, rfl, by show 1 ≤ 1000; decide, fun e he => ⟨e, _, rfl, upd_same, fun dx H' n ne fr ha hd => ⟨rfl, kk e H' (left_same he fr) ⟨dx, ha, hd⟩⟩⟩⟩
    have i6 := int_not h6
    refine ⟨_, rfl, rfl, _, rfl, ite2 (fun h => ?_) (fun h7 => ?_)⟩
    · have e : k = 7 := by have := int_is h; omega
      subst e
      exact ⟨_, rfl, by show 1 ≤ 1000; decide, fun e he => ⟨e, _, rfl, upd_same, fun dx H' n ne fr ha hd => ⟨rfl, kk e H' (left_same he fr) ⟨dx, ha, hd⟩⟩⟩⟩
    have i7 := int_not h7
    refine ⟨_, rfl, rfl, _, rfl, ite2 (fun h => ?_) (fun h8 => ?_)⟩
    · have e : k = 8 := by have := int_is h; omega
      subst e
      exact ⟨_, rfl, by show 1 ≤ 1000; decide, fun e he => ⟨e, _, rfl, upd_same, fun dx H' n ne fr ha hd => ⟨rfl, kk e H' (left_same he fr) ⟨dx, ha, hd⟩⟩⟩⟩
    have i8 := int_not h8
    refine ⟨_, rfl, rfl, _, rfl, ite2 (fun h => ?_) (fun h9 => ?_)⟩
    · have e : k = 9 := by have := int_is h; omega
      subst e
      exact ⟨_, rfl, by show 1 ≤ 1000; decide, fun e he => ⟨e, _, rfl, upd_same, fun dx H' n ne fr ha hd => ⟨rfl, kk e H' (left_same he fr) ⟨dx, ha, hd⟩⟩⟩⟩
    have i9 := int_not h9
    refine ⟨_, rfl, rfl, _, rfl, ite2 (fun h => ?_) (fun h10 => ?_)⟩
    · have e : k = 10 := by have := int_is h; omega
      subst e
      exact ⟨_, rfl, by show 1 ≤ 1000; decide, fun e he => ⟨e, _, rfl, upd_same, fun dx H' n ne fr ha hd => ⟨rfl, kk e H' (left_same he fr) ⟨dx, ha, hd⟩⟩⟩⟩
    have i10 := int_not h10
    have e : k = 11 := by omega
    subst e
    exact ⟨_, rfl, by show 1 ≤ 1000; decide, fun e he => ⟨e, _, rfl, upd_same, fun dx H' n ne fr ha hd => ⟨rfl, kk e H' (left_same he fr) ⟨dx, ha, hd⟩⟩⟩⟩
theorem scOth : FnScope ["_law_k", "_law_a", "_law_b", "_law_c", "_law_n", "_law_rows"] ["_law_k", "_law_a", "_law_b", "_law_c", "_law_n", "_law_rows"] (defScope sOth) := ⟨rfl, rfl, rfl, by decide +kernel, rfl, by decide +kernel, by decide +kernel⟩
theorem ok_oth {f fT : Addr} {fd : FuncData} {cl : Nat → Addr} (F : Fun K "_law_other" "_law_other" sOth f fd) (c12 : Cla P w K mg base "Apart" ["place"] ["self", "place"] fT (cl 12) (spX1 (cl 12) "place" "apart")) (c13 : Cla P w K mg base "Crowded" ["count"] ["self", "count"] fT (cl 13) (spX1 (cl 13) "count" "crowded")) (c14 : Cla P w K mg base "BadRow" ["row"] ["self", "row"] fT (cl 14) (spX1 (cl 14) "row" "badrow")) (c15 : Cla P w K mg base "NoDeed" ["word"] ["self", "word"] fT (cl 15) (spX1 (cl 15) "word" "nodeed")) (c16 : Cla P w K mg base "Unlike" ["what"] ["self", "what"] fT (cl 16) (spX1 (cl 16) "what" "unlike")) (c17 : Cla P w K mg base "BadCount" ["what", "count"] ["self", "what", "count"] fT (cl 17) (spX2 (cl 17) "what" "count" "badcount")) (c18 : Cla P w K mg base "Upward" ["maker", "made"] ["self", "maker", "made"] fT (cl 18) (spX2 (cl 18) "maker" "made" "upward")) (c19 : Cla P w K mg base "NoMaking" ["maker", "made"] ["self", "maker", "made"] fT (cl 19) (spX2 (cl 19) "maker" "made" "nomaking")) (c20 : Cla P w K mg base "Freer" ["name", "row"] ["self", "name", "row"] fT (cl 20) (spX2 (cl 20) "name" "row" "freer")) (c21 : Cla P w K mg base "NotHeld" ["x", "word", "y"] ["self", "x", "word", "y"] fT (cl 21) (spX3 (cl 21) "x" "word" "y" "notheld")) (c22 : Cla P w K mg base "Stands" ["x", "word", "y"] ["self", "x", "word", "y"] fT (cl 22) (spX3 (cl 22) "x" "word" "y" "stands")) (c23 : Cla P w K mg base "Never" ["x", "word", "y"] ["self", "x", "word", "y"] fT (cl 23) (spX3 (cl 23) "x" "word" "y" "never")) (c24 : Cla P w K mg base "NoCure" ["x", "word", "y"] ["self", "x", "word", "y"] fT (cl 24) (spX3 (cl 24) "x" "word" "y" "nocure")) (c25 : Cla P w K mg base "Barred" ["name", "spots", "deeds"] ["self", "name", "spots", "deeds"] fT (cl 25) (spXB K (cl 25) "name" "spots" "deeds" "barred")) (c26 : Cla P w K mg base "Full" [] ["self"] fT (cl 26) (spX0 (cl 26) "full")) (c27 : Cla P w K mg base "NoBack" [] ["self"] fT (cl 27) (spX0 (cl 27) "noback")) : FnOk P w K mg base CX0 4 f fd ["_law_k", "_law_a", "_law_b", "_law_c", "_law_n", "_law_rows"] (spOth cl) := by
  refine F.ok scOth (fun vs H Q E h => ?_) (fun cdv A outer s H vs Q E hr h => ?_)
  · obtain ⟨k, a, b, c, n, rw, ys, rfl, _⟩ := h
    rfl
  · obtain ⟨k, a, b, c, n, rw, ys, rfl, hk, hk2, hrw, kk⟩ := h
    obtain ⟨f12, d12, T12, G12, b12⟩ := c12.ex
    obtain ⟨f13, d13, T13, G13, b13⟩ := c13.ex
    obtain ⟨f14, d14, T14, G14, b14⟩ := c14.ex
    obtain ⟨f15, d15, T15, G15, b15⟩ := c15.ex
    obtain ⟨f16, d16, T16, G16, b16⟩ := c16.ex
    obtain ⟨f17, d17, T17, G17, b17⟩ := c17.ex
    obtain ⟨f18, d18, T18, G18, b18⟩ := c18.ex
    obtain ⟨f19, d19, T19, G19, b19⟩ := c19.ex
    obtain ⟨f20, d20, T20, G20, b20⟩ := c20.ex
    obtain ⟨f21, d21, T21, G21, b21⟩ := c21.ex
    obtain ⟨f22, d22, T22, G22, b22⟩ := c22.ex
    obtain ⟨f23, d23, T23, G23, b23⟩ := c23.ex
    obtain ⟨f24, d24, T24, G24, b24⟩ := c24.ex
    obtain ⟨f25, d25, T25, G25, b25⟩ := c25.ex
    obtain ⟨f26, d26, T26, G26, b26⟩ := c26.ex
    obtain ⟨f27, d27, T27, G27, b27⟩ := c27.ex
    refine ⟨_, (pss_cons (ps_if (pt_cmpR op_eq (pv 0) pe_int (nomark _)) (pss_one (ps_ret (pe_oex T12.o T12.iC T12.tI G12 hr b12 rfl T12.g (pa_cons (pv 4) pa_nil)))) pss_nil)
      (pss_cons (ps_if (pt_cmpR op_eq (pv 0) pe_int (nomark _)) (pss_one (ps_ret (pe_oex T13.o T13.iC T13.tI G13 hr b13 rfl T13.g (pa_cons (pv 4) pa_nil)))) pss_nil)
      (pss_cons (ps_if (pt_cmpR op_eq (pv 0) pe_int (nomark _)) (pss_one (ps_ret (pe_oex T14.o T14.iC T14.tI G14 hr b14 rfl T14.g (pa_cons (pv 4) pa_nil)))) pss_nil)
      (pss_cons (ps_if (pt_cmpR op_eq (pv 0) pe_int (nomark _)) (pss_one (ps_ret (pe_oex T15.o T15.iC T15.tI G15 hr b15 rfl T15.g (pa_cons (pv 1) pa_nil)))) pss_nil)
      (pss_cons (ps_if (pt_cmpR op_eq (pv 0) pe_int (nomark _)) (pss_one (ps_ret (pe_oex T16.o T16.iC T16.tI G16 hr b16 rfl T16.g (pa_cons (pv 1) pa_nil)))) pss_nil)
      (pss_cons (ps_if (pt_cmpR op_eq (pv 0) pe_int (nomark _)) (pss_one (ps_ret (pe_oex T17.o T17.iC T17.tI G17 hr b17 rfl T17.g (pa_cons (pv 1) (pa_cons (pv 4) pa_nil))))) pss_nil)
      (pss_cons (ps_if (pt_cmpR op_eq (pv 0) pe_int (nomark _)) (pss_one (ps_ret (pe_oex T18.o T18.iC T18.tI G18 hr b18 rfl T18.g (pa_cons (pv 1) (pa_cons (pv 2) pa_nil))))) pss_nil)
      (pss_cons (ps_if (pt_cmpR op_eq (pv 0) pe_int (nomark _)) (pss_one (ps_ret (pe_oex T19.o T19.iC T19.tI G19 hr b19 rfl T19.g (pa_cons (pv 1) (pa_cons (pv 2) pa_nil))))) pss_nil)
      (pss_cons (ps_if (pt_cmpR op_eq (pv 0) pe_int (nomark _)) (pss_one (ps_ret (pe_oex T20.o T20.iC T20.tI G20 hr b20 rfl T20.g (pa_cons (pv 1) (pa_cons (pe_tup (pa_cons (pv 2) (pa_cons (pv 3) pa_nil))) pa_nil))))) pss_nil)
      (pss_cons (ps_if (pt_cmpR op_eq (pv 0) pe_int (nomark _)) (pss_one (ps_ret (pe_oex T21.o T21.iC T21.tI G21 hr b21 rfl T21.g (pa_cons (pv 1) (pa_cons (pv 2) (pa_cons (pv 3) pa_nil)))))) pss_nil)
      (pss_cons (ps_if (pt_cmpR op_eq (pv 0) pe_int (nomark _)) (pss_one (ps_ret (pe_oex T22.o T22.iC T22.tI G22 hr b22 rfl T22.g (pa_cons (pv 1) (pa_cons (pv 2) (pa_cons (pv 3) pa_nil)))))) pss_nil)
      (pss_cons (ps_if (pt_cmpR op_eq (pv 0) pe_int (nomark _)) (pss_one (ps_ret (pe_oex T23.o T23.iC T23.tI G23 hr b23 rfl T23.g (pa_cons (pv 1) (pa_cons (pv 2) (pa_cons (pv 3) pa_nil)))))) pss_nil)
      (pss_cons (ps_if (pt_cmpR op_eq (pv 0) pe_int (nomark _)) (pss_one (ps_ret (pe_oex T24.o T24.iC T24.tI G24 hr b24 rfl T24.g (pa_cons (pv 1) (pa_cons (pv 2) (pa_cons (pv 3) pa_nil)))))) pss_nil)
      (pss_cons (ps_if (pt_cmpR op_eq (pv 0) pe_int (nomark _)) (pss_one (ps_ret (pe_oex T25.o T25.iC T25.tI G25 hr b25 rfl T25.g (pa_cons (pv 1) (pa_cons (pe_tup (pa_cons (pv 2) (pa_cons (pv 3) pa_nil))) (pa_cons (pv 5) pa_nil)))))) pss_nil)
      (pss_one (ps_ret (pe_ix ix_list (pe_lst (pa_cons (pe_oex0 T26.o T26.iC T26.tI G26 hr b26 rfl T26.g) (pa_cons (pe_oex0 T27.o T27.iC T27.tI G27 hr b27 rfl T27.g) pa_nil))) (pe_op op_sub (pv 0) pe_int) (fun _ _ => rfl)))))))))))))))))), ?_⟩
    refine ⟨_, rfl, rfl, _, rfl, ite2 (fun h => ?_) (fun h12 => ?_)⟩
    · have e : k = 12 := by have := int_is h; omega
      subst e
      exact ⟨_, rfl, by show 1 ≤ 1000; decide, fun e he => ⟨e, _, rfl, upd_same, fun dx H' n ne fr ha hd => ⟨rfl, kk e H' (left_same he fr) ⟨_, ⟨dx, ha, hd⟩, rfl⟩⟩⟩⟩
    have i12 := int_not h12
    refine ⟨_, rfl, rfl, _, rfl, ite2 (fun h => ?_) (fun h13 => ?_)⟩
    · have e : k = 13 := by have := int_is h; omega
      subst e
      exact ⟨_, rfl, by show 1 ≤ 1000; decide, fun e he => ⟨e, _, rfl, upd_same, fun dx H' n ne fr ha hd => ⟨rfl, kk e H' (left_same he fr) ⟨_, ⟨dx, ha, hd⟩, rfl⟩⟩⟩⟩
    have i13 := int_not h13
    refine ⟨_, rfl, rfl, _, rfl, ite2 (fun h => ?_) (fun h14 => ?_)⟩
    · have e : k = 14 := by have := int_is h; omega
      subst e
      exact ⟨_, rfl, by show 1 ≤ 1000; decide, fun e he => ⟨e, _, rfl, upd_same, fun dx H' n ne fr ha hd => ⟨rfl, kk e H' (left_same he fr) ⟨_, ⟨dx, ha, hd⟩, rfl⟩⟩⟩⟩
    have i14 := int_not h14
    refine ⟨_, rfl, rfl, _, rfl, ite2 (fun h => ?_) (fun h15 => ?_)⟩
    · have e : k = 15 := by have := int_is h; omega
      subst e
      exact ⟨_, rfl, by show 1 ≤ 1000; decide, fun e he => ⟨e, _, rfl, upd_same, fun dx H' n ne fr ha hd => ⟨rfl, kk e H' (left_same he fr) ⟨_, ⟨dx, ha, hd⟩, rfl⟩⟩⟩⟩
    have i15 := int_not h15
    refine ⟨_, rfl, rfl, _, rfl, ite2 (fun h => ?_) (fun h16 => ?_)⟩
    · have e : k = 16 := by have := int_is h; omega
      subst e
      exact ⟨_, rfl, by show 1 ≤ 1000; decide, fun e he => ⟨e, _, rfl, upd_same, fun dx H' n ne fr ha hd => ⟨rfl, kk e H' (left_same he fr) ⟨_, ⟨dx, ha, hd⟩, rfl⟩⟩⟩⟩
    have i16 := int_not h16
    refine ⟨_, rfl, rfl, _, rfl, ite2 (fun h => ?_) (fun h17 => ?_)⟩
    · have e : k = 17 := by have := int_is h; omega
      subst e
      exact ⟨_, rfl, _, rfl, by show 2 ≤ 1000; decide, fun e he => ⟨e, _, _, rfl, upd_same, fun dx H' n ne fr ha hd => ⟨rfl, kk e H' (left_same he fr) ⟨_, ⟨dx, ha, hd⟩, rfl⟩⟩⟩⟩
    have i17 := int_not h17
    refine ⟨_, rfl, rfl, _, rfl, ite2 (fun h => ?_) (fun h18 => ?_)⟩
    · have e : k = 18 := by have := int_is h; omega
      subst e
      exact ⟨_, rfl, _, rfl, by show 2 ≤ 1000; decide, fun e he => ⟨e, _, _, rfl, upd_same, fun dx H' n ne fr ha hd => ⟨rfl, kk e H' (left_same he fr) ⟨_, ⟨dx, ha, hd⟩, rfl⟩⟩⟩⟩
    have i18 := int_not h18
    refine ⟨_, rfl, rfl, _, rfl, ite2 (fun h => ?_) (fun h19 => ?_)⟩
    · have e : k = 19 := by have := int_is h; omega
      subst e
      exact ⟨_, rfl, _, rfl, by show 2 ≤ 1000; decide, fun e he => ⟨e, _, _, rfl, upd_same, fun dx H' n ne fr ha hd => ⟨rfl, kk e H' (left_same he fr) ⟨_, ⟨dx, ha, hd⟩, rfl⟩⟩⟩⟩
    have i19 := int_not h19
    refine ⟨_, rfl, rfl, _, rfl, ite2 (fun h => ?_) (fun h20 => ?_)⟩
    · have e : k = 20 := by have := int_is h; omega
      subst e
      refine ⟨_, rfl, _, rfl, _, rfl, by show 2 ≤ sizeLine; decide, fun t ht => ?_⟩
      refine ⟨by show 2 ≤ 1000; decide, fun e he => ⟨e, _, _, rfl, upd_same, fun dx H' n ne fr ha hd => ⟨rfl, ?_⟩⟩⟩
      have S := left_same he fr
      exact kk e H' ((Same.upd ht).trans S) ⟨_, ⟨dx, ha, hd⟩, t, rfl, S _ _ upd_same⟩
    have i20 := int_not h20
    refine ⟨_, rfl, rfl, _, rfl, ite2 (fun h => ?_) (fun h21 => ?_)⟩
    · have e : k = 21 := by have := int_is h; omega
      subst e
      exact ⟨_, rfl, _, rfl, _, rfl, by show 3 ≤ 1000; decide, fun e he => ⟨e, _, _, _, rfl, upd_same, fun dx H' n ne fr ha hd => ⟨rfl, kk e H' (left_same he fr) ⟨_, ⟨dx, ha, hd⟩, rfl⟩⟩⟩⟩
    have i21 := int_not h21
    refine ⟨_, rfl, rfl, _, rfl, ite2 (fun h => ?_) (fun h22 => ?_)⟩
    · have e : k = 22 := by have := int_is h; omega
      subst e
      exact ⟨_, rfl, _, rfl, _, rfl, by show 3 ≤ 1000; decide, fun e he => ⟨e, _, _, _, rfl, upd_same, fun dx H' n ne fr ha hd => ⟨rfl, kk e H' (left_same he fr) ⟨_, ⟨dx, ha, hd⟩, rfl⟩⟩⟩⟩
    have i22 := int_not h22
    refine ⟨_, rfl, rfl, _, rfl, ite2 (fun h => ?_) (fun h23 => ?_)⟩
    · have e : k = 23 := by have := int_is h; omega
      subst e
      exact ⟨_, rfl, _, rfl, _, rfl, by show 3 ≤ 1000; decide, fun e he => ⟨e, _, _, _, rfl, upd_same, fun dx H' n ne fr ha hd => ⟨rfl, kk e H' (left_same he fr) ⟨_, ⟨dx, ha, hd⟩, rfl⟩⟩⟩⟩
    have i23 := int_not h23
    refine ⟨_, rfl, rfl, _, rfl, ite2 (fun h => ?_) (fun h24 => ?_)⟩
    · have e : k = 24 := by have := int_is h; omega
      subst e
      exact ⟨_, rfl, _, rfl, _, rfl, by show 3 ≤ 1000; decide, fun e he => ⟨e, _, _, _, rfl, upd_same, fun dx H' n ne fr ha hd => ⟨rfl, kk e H' (left_same he fr) ⟨_, ⟨dx, ha, hd⟩, rfl⟩⟩⟩⟩
    have i24 := int_not h24
    refine ⟨_, rfl, rfl, _, rfl, ite2 (fun h => ?_) (fun h25 => ?_)⟩
    · have e : k = 25 := by have := int_is h; omega
      subst e
      refine ⟨_, rfl, _, rfl, _, rfl, by show 2 ≤ sizeLine; decide, fun t ht => ?_⟩
      refine ⟨_, rfl, by show 3 ≤ 1000; decide, fun e he => ⟨e, rw, _, _, ys, rfl, upd_same, ?_, fun dx l H' n ne fr ha hd hl => ⟨rfl, ?_⟩⟩⟩
      · have q := (Same.upd (o := .tup [.str b, .str c]) ht) _ _ hrw
        rw [upd_ne (ne_of_none q he)]
        exact q
      have S := left_same he fr
      exact kk e H' ((Same.upd ht).trans S) ⟨_, ⟨dx, ha, hd⟩, t, l, rfl, S _ _ upd_same, hl⟩
    have i25 := int_not h25
    refine ⟨by show 0 ≤ 1000; decide, fun e1 he1 => ⟨e1, rfl, upd_same, fun dx1 H1 n1 ne1 fr1 ha1 hd1 => ⟨rfl, ?_⟩⟩⟩
    have S1 := left_same he1 fr1
    refine ⟨by show 0 ≤ 1000; decide, fun e2 he2 => ⟨e2, rfl, upd_same, fun dx2 H2 n2 ne2 fr2 ha2 hd2 => ⟨rfl, ?_⟩⟩⟩
    have S2 := left_same he2 fr2
    refine ⟨by show 2 ≤ sizeLine; decide, fun l hl => ?_⟩
    have S3 := Same.upd (o := .lst [.ref e1, .ref e2]) hl
    refine ⟨_, rfl, _, _, rfl, rfl, ?_⟩
    rcases (show k = 26 ∨ k = 27 by omega) with e | e
    · subst e
      refine rdList upd_same (j := 0) (v := .ref e1) (by decide) rfl ?_
      exact kk e1 _ ((S1.trans S2).trans S3) ⟨_, ⟨dx1, S3 _ _ (S2 _ _ ha1), S3 _ _ (S2 _ _ hd1)⟩, rfl⟩
    · subst e
      refine rdList upd_same (j := 1) (v := .ref e2) (by decide) rfl ?_
      exact kk e2 _ ((S1.trans S2).trans S3) ⟨_, ⟨dx2, S3 _ _ ha2, S3 _ _ hd2⟩, rfl⟩
end
end Wm
namespace Wm
open PySem L2
abbrev sKnd : Stmt := top 38
/-- what all classes have alike -/
structure AllC (K : PySem.W.Frag) (cl : Nat → Addr) (fT W : Addr) : Prop where
  ec : ∀ k, k < 28 → ExcC K (cl k)
  xf : ∀ k, k < 28 → XfC K (cl k)
  nk : ∀ k, k < 28 → PySem.W.findIn K (.ref (cl k)) "kind" = some none
  tl : ∀ k, k < 28 → PySem.W.findIn K (.ref (cl k)) "told" = some (some (.ref fT))
  kit : ∀ i j, i < 28 → j < 28 → PySem.W.kitOne K (.ref (cl i)) (.ref (cl j)) = some (decide (i = j))
  kw : ∀ k, k < 28 → PySem.W.kitOne K (.ref (cl k)) (.ref W) = some true
  kv : ∀ k, k < 28 → PySem.W.kitOne K (.ref (cl k)) (.type "ValueError") = some true
theorem fs_look {H : Hp} {a b c : Str} {n : Int} {ys : List V} {fs : List (Str × V)} : ∀ {k : Nat}, k < 28 → FsOk H a b c n ys fs k → fs.lookup ("kind" : Str) = some (.str (kd k)) ∧ fs.lookup ("told" : Str) = none
  | 0, _, h => by
    have e : fs = _ := h
    subst e
    exact ⟨by kernel_rfl, by kernel_rfl⟩
  | 1, _, h => by
    have e : fs = _ := h
    subst e
    exact ⟨by kernel_rfl, by kernel_rfl⟩
  | 2, _, h => by
    have e : fs = _ := h
    subst e
    exact ⟨by kernel_rfl, by kernel_rfl⟩
  | 3, _, h => by
    have e : fs = _ := h
    subst e
    exact ⟨by kernel_rfl, by kernel_rfl⟩
  | 4, _, h => by
    have e : fs = _ := h
    subst e
    exact ⟨by kernel_rfl, by kernel_rfl⟩
  | 5, _, h => by
    have e : fs = _ := h
    subst e
    exact ⟨by kernel_rfl, by kernel_rfl⟩
  | 6, _, h => by
    have e : fs = _ := h
    subst e
    exact ⟨by kernel_rfl, by kernel_rfl⟩
  | 7, _, h => by
    have e : fs = _ := h
    subst e
    exact ⟨by kernel_rfl, by kernel_rfl⟩
  | 8, _, h => by
    have e : fs = _ := h
    subst e
    exact ⟨by kernel_rfl, by kernel_rfl⟩
  | 9, _, h => by
    have e : fs = _ := h
    subst e
    exact ⟨by kernel_rfl, by kernel_rfl⟩
  | 10, _, h => by
    have e : fs = _ := h
    subst e
    exact ⟨by kernel_rfl, by kernel_rfl⟩
  | 11, _, h => by
    have e : fs = _ := h
    subst e
    exact ⟨by kernel_rfl, by kernel_rfl⟩
  | 12, _, h => by
    have e : fs = _ := h
    subst e
    exact ⟨by kernel_rfl, by kernel_rfl⟩
  | 13, _, h => by
    have e : fs = _ := h
    subst e
    exact ⟨by kernel_rfl, by kernel_rfl⟩
  | 14, _, h => by
    have e : fs = _ := h
    subst e
    exact ⟨by kernel_rfl, by kernel_rfl⟩
  | 15, _, h => by
    have e : fs = _ := h
    subst e
    exact ⟨by kernel_rfl, by kernel_rfl⟩
  | 16, _, h => by
    have e : fs = _ := h
    subst e
    exact ⟨by kernel_rfl, by kernel_rfl⟩
  | 17, _, h => by
    have e : fs = _ := h
    subst e
    exact ⟨by kernel_rfl, by kernel_rfl⟩
  | 18, _, h => by
    have e : fs = _ := h
    subst e
    exact ⟨by kernel_rfl, by kernel_rfl⟩
  | 19, _, h => by
    have e : fs = _ := h
    subst e
    exact ⟨by kernel_rfl, by kernel_rfl⟩
  | 20, _, h => by
    obtain ⟨t, e, _⟩ := (h : ∃ t, fs = efd2 "name" "row" "freer" (.str a) (.ref t) ∧ H t = some (.tup [.str b, .str c]))
    subst e
    exact ⟨by kernel_rfl, by kernel_rfl⟩
  | 21, _, h => by
    have e : fs = _ := h
    subst e
    exact ⟨by kernel_rfl, by kernel_rfl⟩
  | 22, _, h => by
    have e : fs = _ := h
    subst e
    exact ⟨by kernel_rfl, by kernel_rfl⟩
  | 23, _, h => by
    have e : fs = _ := h
    subst e
    exact ⟨by kernel_rfl, by kernel_rfl⟩
  | 24, _, h => by
    have e : fs = _ := h
    subst e
    exact ⟨by kernel_rfl, by kernel_rfl⟩
  | 25, _, h => by
    obtain ⟨t, l, e, _⟩ := (h : ∃ t l, fs = efd3 "name" "spots" "deeds" "barred" (.str a) (.ref t) (.ref l) ∧ H t = some (.tup [.str b, .str c]) ∧ H l = some (.lst ys))
    subst e
    exact ⟨by kernel_rfl, by kernel_rfl⟩
  | 26, _, h => by
    have e : fs = _ := h
    subst e
    exact ⟨by kernel_rfl, by kernel_rfl⟩
  | 27, _, h => by
    have e : fs = _ := h
    subst e
    exact ⟨by kernel_rfl, by kernel_rfl⟩
  | k + 28, h, _ => absurd h (by omega)
theorem kd_len {k : Nat} (h : k < 28) : (kd k).length ≤ 20 := by
  have q : ∀ i : Fin 28, (kd i.1).length ≤ 20 := by decide +kernel
  exact q ⟨k, h⟩
def spTld (K : PySem.W.Frag) : Sp := fun vs H Q _ => ∃ (a C : Addr) (fs : List (Str × V)) (z : Str), vs = [.ref a] ∧ ExAt H a C fs ∧ XfC K C ∧ PySem.W.findIn K (.ref C) "kind" = some none ∧ fs.lookup ("kind" : Str) = some (.str z) ∧ z.length ≤ 20 ∧ Q (.str (Str.empty ++ PySem.Str.ofString "refused " ++ z)) H
def spKnd (cl : Nat → Addr) : Sp := fun vs H Q _ => ∃ (e : Addr) (k : Nat) (fs : List (Str × V)), vs = [.ref e] ∧ k < 28 ∧ ExAt H e (cl k) fs ∧ ∀ d H', Same H H' → H' d = some (.lst ((List.range 28).map fun j => V.bl (decide (k = j)))) → Q (.ref d) H'
theorem ext_step {H Hi : Hp} {d l : Addr} {xs ys : List V} (S : Same H Hi) (hd0 : H d = none) (hl : Hi l = none) : Same H (upd (upd Hi l (.lst ys)) d (.lst (xs ++ ys))) := fun q o e => by
  rw [upd_ne (ne_of_none e hd0), upd_ne (ne_of_none (S q o e) hl)]
  exact S q o e
section
variable {P : Program} {w : World} {K : PySem.W.Frag} {mg : Str → Option Value} {base : Heap}
theorem scTld : FnScope ["self"] ["self"] (defScope sWT) := ⟨rfl, rfl, rfl, by decide +kernel, rfl, by decide +kernel, by decide +kernel⟩
theorem ok_tld {f : Addr} {fd : FuncData} (F : Fun K "told" "WhoError.told" sWT f fd) : FnOk P w K mg base CX0 1 f fd ["self"] (spTld K) := by
  refine F.ok scTld (fun vs H Q E h => ?_) (fun cdv A outer s H vs Q E hr h => ?_)
  · obtain ⟨a, C, fs, z, rfl, _⟩ := h
    rfl
  · obtain ⟨a, C, fs, z, rfl, he, xf, nk, l, hz, q⟩ := h
    obtain ⟨dx, ha, hd⟩ := he.ex
    refine ⟨_, pss_one (ps_ret (pe_joined (PJ.cons pe_str (PJ.cons (pe_fmt (pe_xfO (pv 0))) PJ.nil)))), ?_⟩
    refine ⟨_, rfl, by decide +kernel, _, rfl, a, C, dx, fs, _, rfl, ha, hd, xf, nk, l, .inl ⟨_, rfl, Nat.le_trans hz (by decide), _, rfl, ?_, q⟩⟩
    rw [len_app]
    have e : (Str.empty ++ PySem.Str.ofString "refused ").length = 8 := by decide +kernel
    rw [e]
    exact Nat.le_trans (show 8 + z.length ≤ 100 by omega) (by decide)
theorem scKnd : FnScope ["_law_e", "_law_found"] ["_law_e"] (defScope sKnd) := ⟨rfl, rfl, rfl, by decide +kernel, rfl, by decide +kernel, by decide +kernel⟩
theorem ok_knd {f fT W : Addr} {fd : FuncData} {cl : Nat → Addr} (F : Fun K "_law_kinds" "_law_kinds" sKnd f fd) (T : TxB mg) (C : AllC K cl fT W) (g0 : mg "NoName" = some (.ref (cl 0))) (g1 : mg "Twice" = some (.ref (cl 1))) (g2 : mg "NoVariable" = some (.ref (cl 2))) (g3 : mg "Loose" = some (.ref (cl 3))) (g4 : mg "NoSort" = some (.ref (cl 4))) (g5 : mg "NoWord" = some (.ref (cl 5))) (g6 : mg "NoRule" = some (.ref (cl 6))) (g7 : mg "NoBar" = some (.ref (cl 7))) (g8 : mg "NoThing" = some (.ref (cl 8))) (g9 : mg "Taken" = some (.ref (cl 9))) (g10 : mg "Asleep" = some (.ref (cl 10))) (g11 : mg "Misfit" = some (.ref (cl 11))) (g12 : mg "Apart" = some (.ref (cl 12))) (g13 : mg "Crowded" = some (.ref (cl 13))) (g14 : mg "BadRow" = some (.ref (cl 14))) (g15 : mg "NoDeed" = some (.ref (cl 15))) (g16 : mg "Unlike" = some (.ref (cl 16))) (g17 : mg "BadCount" = some (.ref (cl 17))) (g18 : mg "Upward" = some (.ref (cl 18))) (g19 : mg "NoMaking" = some (.ref (cl 19))) (g20 : mg "Freer" = some (.ref (cl 20))) (g21 : mg "NotHeld" = some (.ref (cl 21))) (g22 : mg "Stands" = some (.ref (cl 22))) (g23 : mg "Never" = some (.ref (cl 23))) (g24 : mg "NoCure" = some (.ref (cl 24))) (g25 : mg "Barred" = some (.ref (cl 25))) (g26 : mg "Full" = some (.ref (cl 26))) (g27 : mg "NoBack" = some (.ref (cl 27))) : FnOk P w K mg base CX0 1 f fd ["_law_e"] (spKnd cl) := by
  refine F.ok scKnd (fun vs H Q E h => ?_) (fun cdv A outer s H vs Q E hr h => ?_)
  · obtain ⟨e, k, fs, rfl, _⟩ := h
    rfl
  · obtain ⟨e, k, fs, rfl, hk, he, kk⟩ := h
    obtain ⟨dx, ha, hd⟩ := he.ex
    have ec := C.ec k hk
    refine ⟨_, (pss_cons (ps_set (i := 1) scKnd.nd rfl (Or.inl rfl) (pe_lst (pa_cons (pe_callB call_isO (by rfl) T.isinstance (by decide +kernel) (pa_cons (pv 0) (pa_cons (pe_glob (v := .ref (cl 0)) (by rfl) g0 rfl) pa_nil)))
        (pa_cons (pe_callB call_isO (by rfl) T.isinstance (by decide +kernel) (pa_cons (pv 0) (pa_cons (pe_glob (v := .ref (cl 1)) (by rfl) g1 rfl) pa_nil)))
        (pa_cons (pe_callB call_isO (by rfl) T.isinstance (by decide +kernel) (pa_cons (pv 0) (pa_cons (pe_glob (v := .ref (cl 2)) (by rfl) g2 rfl) pa_nil)))
        (pa_cons (pe_callB call_isO (by rfl) T.isinstance (by decide +kernel) (pa_cons (pv 0) (pa_cons (pe_glob (v := .ref (cl 3)) (by rfl) g3 rfl) pa_nil)))
        pa_nil))))))
      (pss_cons (ps_aug (i := 1) scKnd.nd rfl (Or.inl rfl) (pe_lst (pa_cons (pe_callB call_isO (by rfl) T.isinstance (by decide +kernel) (pa_cons (pv 0) (pa_cons (pe_glob (v := .ref (cl 4)) (by rfl) g4 rfl) pa_nil)))
        (pa_cons (pe_callB call_isO (by rfl) T.isinstance (by decide +kernel) (pa_cons (pv 0) (pa_cons (pe_glob (v := .ref (cl 5)) (by rfl) g5 rfl) pa_nil)))
        (pa_cons (pe_callB call_isO (by rfl) T.isinstance (by decide +kernel) (pa_cons (pv 0) (pa_cons (pe_glob (v := .ref (cl 6)) (by rfl) g6 rfl) pa_nil)))
        (pa_cons (pe_callB call_isO (by rfl) T.isinstance (by decide +kernel) (pa_cons (pv 0) (pa_cons (pe_glob (v := .ref (cl 7)) (by rfl) g7 rfl) pa_nil)))
        pa_nil))))) iop_ext)
      (pss_cons (ps_aug (i := 1) scKnd.nd rfl (Or.inl rfl) (pe_lst (pa_cons (pe_callB call_isO (by rfl) T.isinstance (by decide +kernel) (pa_cons (pv 0) (pa_cons (pe_glob (v := .ref (cl 8)) (by rfl) g8 rfl) pa_nil)))
        (pa_cons (pe_callB call_isO (by rfl) T.isinstance (by decide +kernel) (pa_cons (pv 0) (pa_cons (pe_glob (v := .ref (cl 9)) (by rfl) g9 rfl) pa_nil)))
        (pa_cons (pe_callB call_isO (by rfl) T.isinstance (by decide +kernel) (pa_cons (pv 0) (pa_cons (pe_glob (v := .ref (cl 10)) (by rfl) g10 rfl) pa_nil)))
        (pa_cons (pe_callB call_isO (by rfl) T.isinstance (by decide +kernel) (pa_cons (pv 0) (pa_cons (pe_glob (v := .ref (cl 11)) (by rfl) g11 rfl) pa_nil)))
        pa_nil))))) iop_ext)
      (pss_cons (ps_aug (i := 1) scKnd.nd rfl (Or.inl rfl) (pe_lst (pa_cons (pe_callB call_isO (by rfl) T.isinstance (by decide +kernel) (pa_cons (pv 0) (pa_cons (pe_glob (v := .ref (cl 12)) (by rfl) g12 rfl) pa_nil)))
        (pa_cons (pe_callB call_isO (by rfl) T.isinstance (by decide +kernel) (pa_cons (pv 0) (pa_cons (pe_glob (v := .ref (cl 13)) (by rfl) g13 rfl) pa_nil)))
        (pa_cons (pe_callB call_isO (by rfl) T.isinstance (by decide +kernel) (pa_cons (pv 0) (pa_cons (pe_glob (v := .ref (cl 14)) (by rfl) g14 rfl) pa_nil)))
        (pa_cons (pe_callB call_isO (by rfl) T.isinstance (by decide +kernel) (pa_cons (pv 0) (pa_cons (pe_glob (v := .ref (cl 15)) (by rfl) g15 rfl) pa_nil)))
        pa_nil))))) iop_ext)
      (pss_cons (ps_aug (i := 1) scKnd.nd rfl (Or.inl rfl) (pe_lst (pa_cons (pe_callB call_isO (by rfl) T.isinstance (by decide +kernel) (pa_cons (pv 0) (pa_cons (pe_glob (v := .ref (cl 16)) (by rfl) g16 rfl) pa_nil)))
        (pa_cons (pe_callB call_isO (by rfl) T.isinstance (by decide +kernel) (pa_cons (pv 0) (pa_cons (pe_glob (v := .ref (cl 17)) (by rfl) g17 rfl) pa_nil)))
        (pa_cons (pe_callB call_isO (by rfl) T.isinstance (by decide +kernel) (pa_cons (pv 0) (pa_cons (pe_glob (v := .ref (cl 18)) (by rfl) g18 rfl) pa_nil)))
        (pa_cons (pe_callB call_isO (by rfl) T.isinstance (by decide +kernel) (pa_cons (pv 0) (pa_cons (pe_glob (v := .ref (cl 19)) (by rfl) g19 rfl) pa_nil)))
        pa_nil))))) iop_ext)
      (pss_cons (ps_aug (i := 1) scKnd.nd rfl (Or.inl rfl) (pe_lst (pa_cons (pe_callB call_isO (by rfl) T.isinstance (by decide +kernel) (pa_cons (pv 0) (pa_cons (pe_glob (v := .ref (cl 20)) (by rfl) g20 rfl) pa_nil)))
        (pa_cons (pe_callB call_isO (by rfl) T.isinstance (by decide +kernel) (pa_cons (pv 0) (pa_cons (pe_glob (v := .ref (cl 21)) (by rfl) g21 rfl) pa_nil)))
        (pa_cons (pe_callB call_isO (by rfl) T.isinstance (by decide +kernel) (pa_cons (pv 0) (pa_cons (pe_glob (v := .ref (cl 22)) (by rfl) g22 rfl) pa_nil)))
        (pa_cons (pe_callB call_isO (by rfl) T.isinstance (by decide +kernel) (pa_cons (pv 0) (pa_cons (pe_glob (v := .ref (cl 23)) (by rfl) g23 rfl) pa_nil)))
        pa_nil))))) iop_ext)
      (pss_one (ps_ret (pe_op op_cat (pv 1) (pe_lst (pa_cons (pe_callB call_isO (by rfl) T.isinstance (by decide +kernel) (pa_cons (pv 0) (pa_cons (pe_glob (v := .ref (cl 24)) (by rfl) g24 rfl) pa_nil)))
        (pa_cons (pe_callB call_isO (by rfl) T.isinstance (by decide +kernel) (pa_cons (pv 0) (pa_cons (pe_glob (v := .ref (cl 25)) (by rfl) g25 rfl) pa_nil)))
        (pa_cons (pe_callB call_isO (by rfl) T.isinstance (by decide +kernel) (pa_cons (pv 0) (pa_cons (pe_glob (v := .ref (cl 26)) (by rfl) g26 rfl) pa_nil)))
        (pa_cons (pe_callB call_isO (by rfl) T.isinstance (by decide +kernel) (pa_cons (pv 0) (pa_cons (pe_glob (v := .ref (cl 27)) (by rfl) g27 rfl) pa_nil)))
        pa_nil)))))))))))))), ?_⟩
    have S0 : Same H H := fun _ _ z => z
    refine ⟨_, rfl, e, cl k, dx, fs, _, _, _, rfl, S0 _ _ ha, S0 _ _ hd, ec, (fun _ z => z), C.kit k 0 hk (by decide), _, rfl, e, cl k, dx, fs, _, _, _, rfl, S0 _ _ ha, S0 _ _ hd, ec, (fun _ z => z), C.kit k 1 hk (by decide), _, rfl, e, cl k, dx, fs, _, _, _, rfl, S0 _ _ ha, S0 _ _ hd, ec, (fun _ z => z), C.kit k 2 hk (by decide), _, rfl, e, cl k, dx, fs, _, _, _, rfl, S0 _ _ ha, S0 _ _ hd, ec, (fun _ z => z), C.kit k 3 hk (by decide), by show 4 ≤ sizeLine; decide, fun d hd0 => ?_⟩
    have S1 : Same H (upd H d _) := Same.upd (o := .lst [.bl (decide (k = 0)), .bl (decide (k = 1)), .bl (decide (k = 2)), .bl (decide (k = 3))]) hd0
    refine ⟨_, rfl, _, rfl, e, cl k, dx, fs, _, _, _, rfl, S1 _ _ ha, S1 _ _ hd, ec, (fun _ z => z), C.kit k 4 hk (by decide), _, rfl, e, cl k, dx, fs, _, _, _, rfl, S1 _ _ ha, S1 _ _ hd, ec, (fun _ z => z), C.kit k 5 hk (by decide), _, rfl, e, cl k, dx, fs, _, _, _, rfl, S1 _ _ ha, S1 _ _ hd, ec, (fun _ z => z), C.kit k 6 hk (by decide), _, rfl, e, cl k, dx, fs, _, _, _, rfl, S1 _ _ ha, S1 _ _ hd, ec, (fun _ z => z), C.kit k 7 hk (by decide), by show 4 ≤ sizeLine; decide, fun l1 hl1 => ?_⟩
    have nd1 : d ≠ l1 := fun z => by
      rw [← z, upd_same] at hl1
      cases hl1
    refine ⟨d, l1, _, _, rfl, rfl, (upd_ne nd1).trans upd_same, upd_same, by show 8 ≤ sizeLine; decide, ?_⟩
    have S2 := ext_step S1 hd0 hl1 (xs := [.bl (decide (k = 0)), .bl (decide (k = 1)), .bl (decide (k = 2)), .bl (decide (k = 3))]) (ys := [.bl (decide (k = 4)), .bl (decide (k = 5)), .bl (decide (k = 6)), .bl (decide (k = 7))])
    refine ⟨_, rfl, _, rfl, e, cl k, dx, fs, _, _, _, rfl, S2 _ _ ha, S2 _ _ hd, ec, (fun _ z => z), C.kit k 8 hk (by decide), _, rfl, e, cl k, dx, fs, _, _, _, rfl, S2 _ _ ha, S2 _ _ hd, ec, (fun _ z => z), C.kit k 9 hk (by decide), _, rfl, e, cl k, dx, fs, _, _, _, rfl, S2 _ _ ha, S2 _ _ hd, ec, (fun _ z => z), C.kit k 10 hk (by decide), _, rfl, e, cl k, dx, fs, _, _, _, rfl, S2 _ _ ha, S2 _ _ hd, ec, (fun _ z => z), C.kit k 11 hk (by decide), by show 4 ≤ sizeLine; decide, fun l2 hl2 => ?_⟩
    have nd2 : d ≠ l2 := fun z => by
      rw [← z, upd_same] at hl2
      cases hl2
    refine ⟨d, l2, _, _, rfl, rfl, (upd_ne nd2).trans upd_same, upd_same, by show 12 ≤ sizeLine; decide, ?_⟩
    have S3 := ext_step S2 hd0 hl2 (xs := [.bl (decide (k = 0)), .bl (decide (k = 1)), .bl (decide (k = 2)), .bl (decide (k = 3)), .bl (decide (k = 4)), .bl (decide (k = 5)), .bl (decide (k = 6)), .bl (decide (k = 7))]) (ys := [.bl (decide (k = 8)), .bl (decide (k = 9)), .bl (decide (k = 10)), .bl (decide (k = 11))])
    refine ⟨_, rfl, _, rfl, e, cl k, dx, fs, _, _, _, rfl, S3 _ _ ha, S3 _ _ hd, ec, (fun _ z => z), C.kit k 12 hk (by decide), _, rfl, e, cl k, dx, fs, _, _, _, rfl, S3 _ _ ha, S3 _ _ hd, ec, (fun _ z => z), C.kit k 13 hk (by decide), _, rfl, e, cl k, dx, fs, _, _, _, rfl, S3 _ _ ha, S3 _ _ hd, ec, (fun _ z => z), C.kit k 14 hk (by decide), _, rfl, e, cl k, dx, fs, _, _, _, rfl, S3 _ _ ha, S3 _ _ hd, ec, (fun _ z => z), C.kit k 15 hk (by decide), by show 4 ≤ sizeLine; decide, fun l3 hl3 => ?_⟩
    have nd3 : d ≠ l3 := fun z => by
      rw [← z, upd_same] at hl3
      cases hl3
    refine ⟨d, l3, _, _, rfl, rfl, (upd_ne nd3).trans upd_same, upd_same, by show 16 ≤ sizeLine; decide, ?_⟩
    have S4 := ext_step S3 hd0 hl3 (xs := [.bl (decide (k = 0)), .bl (decide (k = 1)), .bl (decide (k = 2)), .bl (decide (k = 3)), .bl (decide (k = 4)), .bl (decide (k = 5)), .bl (decide (k = 6)), .bl (decide (k = 7)), .bl (decide (k = 8)), .bl (decide (k = 9)), .bl (decide (k = 10)), .bl (decide (k = 11))]) (ys := [.bl (decide (k = 12)), .bl (decide (k = 13)), .bl (decide (k = 14)), .bl (decide (k = 15))])
    refine ⟨_, rfl, _, rfl, e, cl k, dx, fs, _, _, _, rfl, S4 _ _ ha, S4 _ _ hd, ec, (fun _ z => z), C.kit k 16 hk (by decide), _, rfl, e, cl k, dx, fs, _, _, _, rfl, S4 _ _ ha, S4 _ _ hd, ec, (fun _ z => z), C.kit k 17 hk (by decide), _, rfl, e, cl k, dx, fs, _, _, _, rfl, S4 _ _ ha, S4 _ _ hd, ec, (fun _ z => z), C.kit k 18 hk (by decide), _, rfl, e, cl k, dx, fs, _, _, _, rfl, S4 _ _ ha, S4 _ _ hd, ec, (fun _ z => z), C.kit k 19 hk (by decide), by show 4 ≤ sizeLine; decide, fun l4 hl4 => ?_⟩
    have nd4 : d ≠ l4 := fun z => by
      rw [← z, upd_same] at hl4
      cases hl4
    refine ⟨d, l4, _, _, rfl, rfl, (upd_ne nd4).trans upd_same, upd_same, by show 20 ≤ sizeLine; decide, ?_⟩
    have S5 := ext_step S4 hd0 hl4 (xs := [.bl (decide (k = 0)), .bl (decide (k = 1)), .bl (decide (k = 2)), .bl (decide (k = 3)), .bl (decide (k = 4)), .bl (decide (k = 5)), .bl (decide (k = 6)), .bl (decide (k = 7)), .bl (decide (k = 8)), .bl (decide (k = 9)), .bl (decide (k = 10)), .bl (decide (k = 11)), .bl (decide (k = 12)), .bl (decide (k = 13)), .bl (decide (k = 14)), .bl (decide (k = 15))]) (ys := [.bl (decide (k = 16)), .bl (decide (k = 17)), .bl (decide (k = 18)), .bl (decide (k = 19))])
    refine ⟨_, rfl, _, rfl, e, cl k, dx, fs, _, _, _, rfl, S5 _ _ ha, S5 _ _ hd, ec, (fun _ z => z), C.kit k 20 hk (by decide), _, rfl, e, cl k, dx, fs, _, _, _, rfl, S5 _ _ ha, S5 _ _ hd, ec, (fun _ z => z), C.kit k 21 hk (by decide), _, rfl, e, cl k, dx, fs, _, _, _, rfl, S5 _ _ ha, S5 _ _ hd, ec, (fun _ z => z), C.kit k 22 hk (by decide), _, rfl, e, cl k, dx, fs, _, _, _, rfl, S5 _ _ ha, S5 _ _ hd, ec, (fun _ z => z), C.kit k 23 hk (by decide), by show 4 ≤ sizeLine; decide, fun l5 hl5 => ?_⟩
    have nd5 : d ≠ l5 := fun z => by
      rw [← z, upd_same] at hl5
      cases hl5
    refine ⟨d, l5, _, _, rfl, rfl, (upd_ne nd5).trans upd_same, upd_same, by show 24 ≤ sizeLine; decide, ?_⟩
    have S6 := ext_step S5 hd0 hl5 (xs := [.bl (decide (k = 0)), .bl (decide (k = 1)), .bl (decide (k = 2)), .bl (decide (k = 3)), .bl (decide (k = 4)), .bl (decide (k = 5)), .bl (decide (k = 6)), .bl (decide (k = 7)), .bl (decide (k = 8)), .bl (decide (k = 9)), .bl (decide (k = 10)), .bl (decide (k = 11)), .bl (decide (k = 12)), .bl (decide (k = 13)), .bl (decide (k = 14)), .bl (decide (k = 15)), .bl (decide (k = 16)), .bl (decide (k = 17)), .bl (decide (k = 18)), .bl (decide (k = 19))]) (ys := [.bl (decide (k = 20)), .bl (decide (k = 21)), .bl (decide (k = 22)), .bl (decide (k = 23))])
    refine ⟨_, rfl, _, rfl, e, cl k, dx, fs, _, _, _, rfl, S6 _ _ ha, S6 _ _ hd, ec, (fun _ z => z), C.kit k 24 hk (by decide), _, rfl, e, cl k, dx, fs, _, _, _, rfl, S6 _ _ ha, S6 _ _ hd, ec, (fun _ z => z), C.kit k 25 hk (by decide), _, rfl, e, cl k, dx, fs, _, _, _, rfl, S6 _ _ ha, S6 _ _ hd, ec, (fun _ z => z), C.kit k 26 hk (by decide), _, rfl, e, cl k, dx, fs, _, _, _, rfl, S6 _ _ ha, S6 _ _ hd, ec, (fun _ z => z), C.kit k 27 hk (by decide), by show 4 ≤ sizeLine; decide, fun l hl => ?_⟩
    have nd : d ≠ l := fun z => by
      rw [← z, upd_same] at hl
      cases hl
    refine ⟨d, l, _, _, rfl, rfl, (upd_ne nd).trans upd_same, upd_same, by show 28 ≤ sizeLine; decide, fun p hp => ?_⟩
    refine kk p _ ((S6.trans (Same.upd hl)).trans (Same.upd hp)) ?_
    rw [upd_same]
    rfl
end
end Wm
namespace Wm
open PySem L2
abbrev sFld : Stmt := top 39
abbrev sTxt : Stmt := top 40
abbrev sDue : Stmt := top 41
def fldL : Nat → List Str
  | 0 => ["name"]
  | 1 => ["name"]
  | 2 => ["name"]
  | 3 => ["name"]
  | 4 => ["name"]
  | 5 => ["name"]
  | 6 => ["name"]
  | 7 => ["name"]
  | 8 => ["name"]
  | 9 => ["name"]
  | 10 => ["name"]
  | 11 => ["name"]
  | 12 => ["place"]
  | 13 => ["count"]
  | 14 => ["row"]
  | 15 => ["word"]
  | 16 => ["what"]
  | 17 => ["what", "count"]
  | 18 => ["maker", "made"]
  | 19 => ["maker", "made"]
  | 20 => ["name", "row"]
  | 21 => ["x", "word", "y"]
  | 22 => ["x", "word", "y"]
  | 23 => ["x", "word", "y"]
  | 24 => ["x", "word", "y"]
  | 25 => ["name", "spots", "deeds"]
  | 26 => []
  | 27 => []
  | _ => []
def NfC (K : PySem.W.Frag) (cl : Nat → Addr) : Prop := ∀ j f, j < 28 → f ∈ fldL j → PySem.W.findIn K (.ref (cl j)) f = some none
def datK (a b c : Str) (n : Int) (rs : List PyData) : Nat → PyData
  | 12 => .list [.int n]
  | 13 => .list [.int n]
  | 14 => .list [.int n]
  | 15 => .list [.str a]
  | 16 => .list [.str a]
  | 17 => .tuple [.str a, .int n]
  | 18 => .tuple [.str a, .str b]
  | 19 => .tuple [.str a, .str b]
  | 20 => .tuple [.str a, .tuple [.str b, .str c]]
  | 21 => .tuple [.str a, .str b, .str c]
  | 22 => .tuple [.str a, .str b, .str c]
  | 23 => .tuple [.str a, .str b, .str c]
  | 24 => .tuple [.str a, .str b, .str c]
  | 25 => .tuple [.str a, .tuple [.str b, .str c], .list rs]
  | 26 => .tuple []
  | 27 => .tuple []
  | _ => .tuple [.str a]
theorem same_seqT {K : PySem.W.Frag} {H H' : Hp} {a : Addr} {xs : List V} (e : Same H H') (h : SqT K H a xs) : SqT K H' a xs := by
  rcases h with (h | ⟨o, h⟩) | h
  · exact .inl (.inl (e _ _ h))
  · exact .inl (.inr ⟨o, e _ _ h⟩)
  · exact .inr h
mutual
theorem dp_same {K : PySem.W.Frag} {H H' : Hp} (e : Same H H') : ∀ {v : V} {d : PyData}, Dp K H v d → Dp K H' v d
  | _, _, .non => .non
  | _, _, .bl b => .bl b
  | _, _, .int i => .int i
  | _, _, .str z => .str z
  | _, _, .lst h r => .lst (e.seq h) (dpAll_same e r)
  | _, _, .tup h r => .tup (same_seqT e h) (dpAll_same e r)
theorem dpAll_same {K : PySem.W.Frag} {H H' : Hp} (e : Same H H') : ∀ {vs : List V} {ds : List PyData}, DpAll K H vs ds → DpAll K H' vs ds
  | _, _, .nil => .nil
  | _, _, .cons h r => .cons (dp_same e h) (dpAll_same e r)
end
theorem fs_low {H : Hp} {a b c : Str} {n : Int} {ys : List V} {fs : List (Str × V)} : ∀ {k : Nat}, k < 12 → FsOk H a b c n ys fs k → fs = ef1 "name" (kd k) (.str a) ∧ ("name" : Str) ∈ fldL k
  | 0, _, h => ⟨h, List.mem_cons_self⟩
  | 1, _, h => ⟨h, List.mem_cons_self⟩
  | 2, _, h => ⟨h, List.mem_cons_self⟩
  | 3, _, h => ⟨h, List.mem_cons_self⟩
  | 4, _, h => ⟨h, List.mem_cons_self⟩
  | 5, _, h => ⟨h, List.mem_cons_self⟩
  | 6, _, h => ⟨h, List.mem_cons_self⟩
  | 7, _, h => ⟨h, List.mem_cons_self⟩
  | 8, _, h => ⟨h, List.mem_cons_self⟩
  | 9, _, h => ⟨h, List.mem_cons_self⟩
  | 10, _, h => ⟨h, List.mem_cons_self⟩
  | 11, _, h => ⟨h, List.mem_cons_self⟩
  | k + 12, h, _ => absurd h (by omega)
theorem dat_low {a b c : Str} {n : Int} {rs : List PyData} : ∀ {k : Nat}, k < 12 → datK a b c n rs k = .tuple [.str a]
  | 0, _ => rfl
  | 1, _ => rfl
  | 2, _ => rfl
  | 3, _ => rfl
  | 4, _ => rfl
  | 5, _ => rfl
  | 6, _ => rfl
  | 7, _ => rfl
  | 8, _ => rfl
  | 9, _ => rfl
  | 10, _ => rfl
  | 11, _ => rfl
  | k + 12, h => absurd h (by omega)
theorem lk1 (f kd : Str) (v : V) : (ef1 f kd v).lookup f = some v := by
  unfold ef1
  rw [lookup_put, if_pos rfl]
theorem lk2b (f g kd : Str) (v u : V) : (efd2 f g kd v u).lookup g = some u := by
  unfold efd2
  rw [lookup_put, if_pos rfl]
theorem lk2a {f g kd : Str} {v u : V} (h : ¬ f = g) : (efd2 f g kd v u).lookup f = some v := by
  unfold efd2
  rw [lookup_put, if_neg h, lookup_put, if_pos rfl]
theorem lk3c (f g h kd : Str) (v u y : V) : (efd3 f g h kd v u y).lookup h = some y := by
  unfold efd3
  rw [lookup_put, if_pos rfl]
theorem lk3b {f g h kd : Str} {v u y : V} (e : ¬ g = h) : (efd3 f g h kd v u y).lookup g = some u := by
  unfold efd3
  rw [lookup_put, if_neg e, lookup_put, if_pos rfl]
theorem lk3a {f g h kd : Str} {v u y : V} (e : ¬ f = h) (e' : ¬ f = g) : (efd3 f g h kd v u y).lookup f = some v := by
  unfold efd3
  rw [lookup_put, if_neg e, lookup_put, if_neg e', lookup_put, if_pos rfl]
def spTxt (K : PySem.W.Frag) (cl : Nat → Addr) : Sp := fun vs H Q _ => ∃ (k : Nat) (e : Addr) (a : Str), vs = [.int k, .ref e] ∧ ((k = 15 ∧ ExAt H e (cl 15) (ef1 "word" "nodeed" (.str a))) ∨ (k = 16 ∧ ExAt H e (cl 16) (ef1 "what" "unlike" (.str a)))) ∧ Q (.str a) H
def spFld (K : PySem.W.Frag) (cl : Nat → Addr) : Sp := fun vs H Q _ => ∃ (k : Nat) (e : Addr) (a b c : Str) (n : Int) (ys : List V) (rs : List PyData), vs = [.int k, .ref e] ∧ k < 28 ∧ Kind H cl e k a b c n ys ∧ DpAll K H ys rs ∧ ∀ r H', Same H H' → Dp K H' (.ref r) (datK a b c n rs k) → Q (.ref r) H'
def spDue (K : PySem.W.Frag) : Sp := fun vs H Q _ => ∃ (k : Nat) (rw : Addr) (a b c : Str) (n : Int) (ys : List V) (rs : List PyData), vs = [.int k, .str a, .str b, .str c, .int n, .ref rw] ∧ k < 28 ∧ H rw = some (.lst ys) ∧ DpAll K H ys rs ∧ ∀ r H', Same H H' → Dp K H' (.ref r) (datK a b c n rs k) → Q (.ref r) H'
theorem lt_is {k : Nat} {j : Int} (h : decide ((k : Int) < j) = true) : (k : Int) < j := of_decide_eq_true h
theorem lt_not {k : Nat} {j : Int} (h : ¬ decide ((k : Int) < j) = true) : ¬ (k : Int) < j := fun e => h (decide_eq_true e)
section
variable {P : Program} {w : World} {K : PySem.W.Frag} {mg : Str → Option Value} {base : Heap}
theorem scTxt : FnScope ["_law_k", "_law_e"] ["_law_k", "_law_e"] (defScope sTxt) := ⟨rfl, rfl, rfl, by decide +kernel, rfl, by decide +kernel, by decide +kernel⟩
theorem ok_txt {f fT W : Addr} {fd : FuncData} {cl : Nat → Addr} (F : Fun K "_law_text" "_law_text" sTxt f fd) (C : AllC K cl fT W) (NF : NfC K cl) : FnOk P w K mg base CX0 1 f fd ["_law_k", "_law_e"] (spTxt K cl) := by
  refine F.ok scTxt (fun vs H Q E h => ?_) (fun cdv A outer s H vs Q E hr h => ?_)
  · obtain ⟨k, e, a, rfl, _⟩ := h
    rfl
  · obtain ⟨k, e, a, rfl, h, q⟩ := h
    refine ⟨_, (pss_cons (ps_if (pt_cmpR op_eq (pv 0) pe_int (nomark _)) (pss_one (ps_ret (pe_xfO (pv 1)))) pss_nil) (pss_one (ps_ret (pe_xfO (pv 1))))), ?_⟩
    refine ⟨_, rfl, rfl, _, rfl, ite2 (fun h1 => ?_) (fun h1 => ?_)⟩
    · have e1 := int_is h1
      rcases h with ⟨ek, h⟩ | ⟨ek, h⟩
      · obtain ⟨dx, ha, hd⟩ := h.ex
        exact ⟨_, rfl, e, cl 15, dx, _, _, rfl, ha, hd, C.xf 15 (by decide), NF 15 _ (by decide) List.mem_cons_self, lk1 _ _ _, q⟩
      · omega
    · have e1 := int_not h1
      rcases h with ⟨ek, h⟩ | ⟨ek, h⟩
      · omega
      · obtain ⟨dx, ha, hd⟩ := h.ex
        exact ⟨_, rfl, e, cl 16, dx, _, _, rfl, ha, hd, C.xf 16 (by decide), NF 16 _ (by decide) List.mem_cons_self, lk1 _ _ _, q⟩
theorem scFld : FnScope ["_law_k", "_law_e"] ["_law_k", "_law_e"] (defScope sFld) := ⟨rfl, rfl, rfl, by decide +kernel, rfl, by decide +kernel, by decide +kernel⟩
theorem ok_fld {f fX fT W : Addr} {fd dX : FuncData} {cl : Nat → Addr} (F : Fun K "_law_fields" "_law_fields" sFld f fd) (D : Dn K mg "_law_text" sTxt ["_law_k", "_law_e"] fX dX) (C : AllC K cl fT W) (NF : NfC K cl) : FnOk P w K mg base CX0 2 f fd ["_law_k", "_law_e"] (spFld K cl) := by
  have GX : FnOk P w K mg base CX0 1 fX dX _ (spTxt K cl) := ok_txt D.F C NF
  refine F.ok scFld (fun vs H Q E h => ?_) (fun cdv A outer s H vs Q E hr h => ?_)
  · obtain ⟨k, e, a, b, c, n, ys, rs, rfl, _⟩ := h
    rfl
  · obtain ⟨k, e, a, b, c, n, ys, rs, rfl, hk, ⟨fs, he, hf⟩, hys, kk⟩ := h
    obtain ⟨dx, ha, hd⟩ := he.ex
    refine ⟨_, (pss_cons (ps_if (pt_cmpR op_lt (pv 0) pe_int (nomark _)) (pss_one (ps_ret (pe_tup (pa_cons (pe_xfO (pv 1)) pa_nil)))) pss_nil)
      (pss_cons (ps_if (pt_cmpR op_lt (pv 0) pe_int (nomark _)) (pss_one (ps_ret (pe_slice sl_list (pe_ifExp (pt_cmpR op_eq (pv 0) pe_int (nomark _)) (pe_lst (pa_cons (pe_xfO (pv 1)) pa_nil)) (pe_ifExp (pt_cmpR op_eq (pv 0) pe_int (nomark _)) (pe_lst (pa_cons (pe_xfO (pv 1)) pa_nil)) (pe_ifExp (pt_cmpR op_eq (pv 0) pe_int (nomark _)) (pe_lst (pa_cons (pe_xfO (pv 1)) pa_nil)) (pe_lst (pa_cons (pe_call GX hr rfl D.g D.F.kp D.b .nil pass0 (pa_cons (pv 0) (pa_cons (pv 1) pa_nil))) pa_nil))))) (po_some pe_int) (po_some pe_int)))) pss_nil)
      (pss_cons (ps_if (pt_cmpR op_eq (pv 0) pe_int (nomark _)) (pss_one (ps_ret (pe_tup (pa_cons (pe_xfO (pv 1)) (pa_cons (pe_xfO (pv 1)) pa_nil))))) pss_nil)
      (pss_cons (ps_if (pt_cmpR op_lt (pv 0) pe_int (nomark _)) (pss_one (ps_ret (pe_tup (pa_cons (pe_xfO (pv 1)) (pa_cons (pe_xfO (pv 1)) pa_nil))))) pss_nil)
      (pss_cons (ps_if (pt_cmpR op_eq (pv 0) pe_int (nomark _)) (pss_one (ps_ret (pe_tup (pa_cons (pe_xfO (pv 1)) (pa_cons (pe_xfO (pv 1)) pa_nil))))) pss_nil)
      (pss_cons (ps_if (pt_cmpR op_lt (pv 0) pe_int (nomark _)) (pss_one (ps_ret (pe_tup (pa_cons (pe_xfO (pv 1)) (pa_cons (pe_xfO (pv 1)) (pa_cons (pe_xfO (pv 1)) pa_nil)))))) pss_nil)
      (pss_cons (ps_if (pt_cmpR op_eq (pv 0) pe_int (nomark _)) (pss_one (ps_ret (pe_tup (pa_cons (pe_xfO (pv 1)) (pa_cons (pe_xfO (pv 1)) (pa_cons (pe_xfO (pv 1)) pa_nil)))))) pss_nil)
      (pss_one (ps_ret (pe_tup pa_nil)))))))))), ?_⟩
    refine ⟨_, rfl, _, _, rfl, rfl, _, rfl, ite2 (fun h => ?_) (fun h => ?_)⟩
    · have h0 := lt_is h
      obtain ⟨rfl, hm⟩ := fs_low (by omega) hf
      refine ⟨_, rfl, e, cl k, dx, _, _, rfl, ha, hd, C.xf k hk, NF k _ hk hm, lk1 _ _ _, by show 1 ≤ sizeLine; decide, fun t ht => kk t _ (Same.upd ht) ?_⟩
      rw [dat_low (by omega)]
      exact .tup (SqT.of upd_same) (.cons (.str _) .nil)
    have i0 := lt_not h
    refine ⟨_, rfl, _, _, rfl, rfl, _, rfl, ite2 (fun h => ?_) (fun h => ?_)⟩
    · have h0 := lt_is h
      refine ⟨_, rfl, rfl, _, rfl, ite2 (fun h => ?_) (fun h => ?_)⟩
      · have e1 : k = 12 := by have := int_is h; omega
        subst e1
        obtain rfl : fs = _ := hf
        refine ⟨_, rfl, e, cl 12, dx, _, _, rfl, ha, hd, C.xf 12 (by decide), NF 12 _ (by decide) List.mem_cons_self, lk1 _ _ _, by show 1 ≤ sizeLine; decide, fun l hl => ⟨_, rfl, _, rfl, l, _, rfl, SqL.of upd_same, fun p hp => ?_⟩⟩
        exact kk p _ ((Same.upd hl).trans (Same.upd hp)) (.lst (SqL.of upd_same) (.cons (.int _) .nil))
      have i12 := int_not h
      refine ⟨_, rfl, rfl, _, rfl, ite2 (fun h => ?_) (fun h => ?_)⟩
      · have e1 : k = 13 := by have := int_is h; omega
        subst e1
        obtain rfl : fs = _ := hf
        refine ⟨_, rfl, e, cl 13, dx, _, _, rfl, ha, hd, C.xf 13 (by decide), NF 13 _ (by decide) List.mem_cons_self, lk1 _ _ _, by show 1 ≤ sizeLine; decide, fun l hl => ⟨_, rfl, _, rfl, l, _, rfl, SqL.of upd_same, fun p hp => ?_⟩⟩
        exact kk p _ ((Same.upd hl).trans (Same.upd hp)) (.lst (SqL.of upd_same) (.cons (.int _) .nil))
      have i13 := int_not h
      refine ⟨_, rfl, rfl, _, rfl, ite2 (fun h => ?_) (fun h => ?_)⟩
      · have e1 : k = 14 := by have := int_is h; omega
        subst e1
        obtain rfl : fs = _ := hf
        refine ⟨_, rfl, e, cl 14, dx, _, _, rfl, ha, hd, C.xf 14 (by decide), NF 14 _ (by decide) List.mem_cons_self, lk1 _ _ _, by show 1 ≤ sizeLine; decide, fun l hl => ⟨_, rfl, _, rfl, l, _, rfl, SqL.of upd_same, fun p hp => ?_⟩⟩
        exact kk p _ ((Same.upd hl).trans (Same.upd hp)) (.lst (SqL.of upd_same) (.cons (.int _) .nil))
      have i14 := int_not h
      have h1 : (k = 15 ∧ ExAt H e (cl 15) (ef1 "word" "nodeed" (.str a))) ∨ (k = 16 ∧ ExAt H e (cl 16) (ef1 "what" "unlike" (.str a))) := by
        rcases (show k = 15 ∨ k = 16 by omega) with e1 | e1
        · subst e1
          obtain rfl : fs = _ := hf
          exact .inl ⟨rfl, he⟩
        · subst e1
          obtain rfl : fs = _ := hf
          exact .inr ⟨rfl, he⟩
      have h2 : datK a b c n rs k = .list [.str a] := by
        rcases (show k = 15 ∨ k = 16 by omega) with e1 | e1
        · subst e1; rfl
        · subst e1; rfl
      refine ⟨_, rfl, _, rfl, k, e, a, rfl, h1, by show 1 ≤ sizeLine; decide, fun l hl => ⟨_, rfl, _, rfl, l, _, rfl, SqL.of upd_same, fun p hp => ?_⟩⟩
      refine kk p _ ((Same.upd hl).trans (Same.upd hp)) ?_
      rw [h2]
      exact .lst (SqL.of upd_same) (.cons (.str _) .nil)
    have i1 := lt_not h
    refine ⟨_, rfl, rfl, _, rfl, ite2 (fun h => ?_) (fun h => ?_)⟩
    · have e1 : k = 17 := by have := int_is h; omega
      subst e1
      obtain rfl : fs = _ := hf
      exact ⟨_, rfl, e, cl 17, dx, _, _, rfl, ha, hd, C.xf 17 (by decide), NF 17 _ (by decide) List.mem_cons_self, lk2a (by decide +kernel), _, rfl, e, cl 17, dx, _, _, rfl, ha, hd, C.xf 17 (by decide), NF 17 _ (by decide) (List.mem_cons_of_mem _ (List.mem_cons_self)), lk2b _ _ _ _ _, by show 2 ≤ sizeLine; decide, fun t ht => kk t _ (Same.upd ht) (.tup (SqT.of upd_same) (.cons (.str _) (.cons (.int _) .nil)))⟩
    have i2 := int_not h
    refine ⟨_, rfl, _, _, rfl, rfl, _, rfl, ite2 (fun h => ?_) (fun h => ?_)⟩
    · have h0 := lt_is h
      rcases (show k = 18 ∨ k = 19 by omega) with e1 | e1
      · subst e1
        obtain rfl : fs = _ := hf
        exact ⟨_, rfl, e, cl 18, dx, _, _, rfl, ha, hd, C.xf 18 (by decide), NF 18 _ (by decide) List.mem_cons_self, lk2a (by decide +kernel), _, rfl, e, cl 18, dx, _, _, rfl, ha, hd, C.xf 18 (by decide), NF 18 _ (by decide) (List.mem_cons_of_mem _ (List.mem_cons_self)), lk2b _ _ _ _ _, by show 2 ≤ sizeLine; decide, fun t ht => kk t _ (Same.upd ht) (.tup (SqT.of upd_same) (.cons (.str _) (.cons (.str _) .nil)))⟩
      · subst e1
        obtain rfl : fs = _ := hf
        exact ⟨_, rfl, e, cl 19, dx, _, _, rfl, ha, hd, C.xf 19 (by decide), NF 19 _ (by decide) List.mem_cons_self, lk2a (by decide +kernel), _, rfl, e, cl 19, dx, _, _, rfl, ha, hd, C.xf 19 (by decide), NF 19 _ (by decide) (List.mem_cons_of_mem _ (List.mem_cons_self)), lk2b _ _ _ _ _, by show 2 ≤ sizeLine; decide, fun t ht => kk t _ (Same.upd ht) (.tup (SqT.of upd_same) (.cons (.str _) (.cons (.str _) .nil)))⟩
    have i3 := lt_not h
    refine ⟨_, rfl, rfl, _, rfl, ite2 (fun h => ?_) (fun h => ?_)⟩
    · have e1 : k = 20 := by have := int_is h; omega
      subst e1
      obtain ⟨t0, rfl, ht0⟩ := (hf : ∃ t, fs = efd2 "name" "row" "freer" (.str a) (.ref t) ∧ H t = some (.tup [.str b, .str c]))
      exact ⟨_, rfl, e, cl 20, dx, _, _, rfl, ha, hd, C.xf 20 (by decide), NF 20 _ (by decide) List.mem_cons_self, lk2a (by decide +kernel), _, rfl, e, cl 20, dx, _, _, rfl, ha, hd, C.xf 20 (by decide), NF 20 _ (by decide) (List.mem_cons_of_mem _ (List.mem_cons_self)), lk2b _ _ _ _ _, by show 2 ≤ sizeLine; decide, fun t ht => kk t _ (Same.upd ht) (.tup (SqT.of upd_same) (.cons (.str _) (.cons (.tup (SqT.of (Same.upd ht _ _ ht0)) (.cons (.str _) (.cons (.str _) .nil))) .nil)))⟩
    have i4 := int_not h
    refine ⟨_, rfl, _, _, rfl, rfl, _, rfl, ite2 (fun h => ?_) (fun h => ?_)⟩
    · have h0 := lt_is h
      rcases (show k = 21 ∨ k = 22 ∨ k = 23 ∨ k = 24 by omega) with e1 | e1 | e1 | e1
      · subst e1
        obtain rfl : fs = _ := hf
        exact ⟨_, rfl, e, cl 21, dx, _, _, rfl, ha, hd, C.xf 21 (by decide), NF 21 _ (by decide) List.mem_cons_self, lk3a (by decide +kernel) (by decide +kernel), _, rfl, e, cl 21, dx, _, _, rfl, ha, hd, C.xf 21 (by decide), NF 21 _ (by decide) (List.mem_cons_of_mem _ (List.mem_cons_self)), lk3b (by decide +kernel), _, rfl, e, cl 21, dx, _, _, rfl, ha, hd, C.xf 21 (by decide), NF 21 _ (by decide) (List.mem_cons_of_mem _ ((List.mem_cons_of_mem _ (List.mem_cons_self)))), lk3c _ _ _ _ _ _ _, by show 3 ≤ sizeLine; decide, fun t ht => kk t _ (Same.upd ht) (.tup (SqT.of upd_same) (.cons (.str _) (.cons (.str _) (.cons (.str _) .nil))))⟩
      · subst e1
        obtain rfl : fs = _ := hf
        exact ⟨_, rfl, e, cl 22, dx, _, _, rfl, ha, hd, C.xf 22 (by decide), NF 22 _ (by decide) List.mem_cons_self, lk3a (by decide +kernel) (by decide +kernel), _, rfl, e, cl 22, dx, _, _, rfl, ha, hd, C.xf 22 (by decide), NF 22 _ (by decide) (List.mem_cons_of_mem _ (List.mem_cons_self)), lk3b (by decide +kernel), _, rfl, e, cl 22, dx, _, _, rfl, ha, hd, C.xf 22 (by decide), NF 22 _ (by decide) (List.mem_cons_of_mem _ ((List.mem_cons_of_mem _ (List.mem_cons_self)))), lk3c _ _ _ _ _ _ _, by show 3 ≤ sizeLine; decide, fun t ht => kk t _ (Same.upd ht) (.tup (SqT.of upd_same) (.cons (.str _) (.cons (.str _) (.cons (.str _) .nil))))⟩
      · subst e1
        obtain rfl : fs = _ := hf
        exact ⟨_, rfl, e, cl 23, dx, _, _, rfl, ha, hd, C.xf 23 (by decide), NF 23 _ (by decide) List.mem_cons_self, lk3a (by decide +kernel) (by decide +kernel), _, rfl, e, cl 23, dx, _, _, rfl, ha, hd, C.xf 23 (by decide), NF 23 _ (by decide) (List.mem_cons_of_mem _ (List.mem_cons_self)), lk3b (by decide +kernel), _, rfl, e, cl 23, dx, _, _, rfl, ha, hd, C.xf 23 (by decide), NF 23 _ (by decide) (List.mem_cons_of_mem _ ((List.mem_cons_of_mem _ (List.mem_cons_self)))), lk3c _ _ _ _ _ _ _, by show 3 ≤ sizeLine; decide, fun t ht => kk t _ (Same.upd ht) (.tup (SqT.of upd_same) (.cons (.str _) (.cons (.str _) (.cons (.str _) .nil))))⟩
      · subst e1
        obtain rfl : fs = _ := hf
        exact ⟨_, rfl, e, cl 24, dx, _, _, rfl, ha, hd, C.xf 24 (by decide), NF 24 _ (by decide) List.mem_cons_self, lk3a (by decide +kernel) (by decide +kernel), _, rfl, e, cl 24, dx, _, _, rfl, ha, hd, C.xf 24 (by decide), NF 24 _ (by decide) (List.mem_cons_of_mem _ (List.mem_cons_self)), lk3b (by decide +kernel), _, rfl, e, cl 24, dx, _, _, rfl, ha, hd, C.xf 24 (by decide), NF 24 _ (by decide) (List.mem_cons_of_mem _ ((List.mem_cons_of_mem _ (List.mem_cons_self)))), lk3c _ _ _ _ _ _ _, by show 3 ≤ sizeLine; decide, fun t ht => kk t _ (Same.upd ht) (.tup (SqT.of upd_same) (.cons (.str _) (.cons (.str _) (.cons (.str _) .nil))))⟩
    have i5 := lt_not h
    refine ⟨_, rfl, rfl, _, rfl, ite2 (fun h => ?_) (fun h => ?_)⟩
    · have e1 : k = 25 := by have := int_is h; omega
      subst e1
      obtain ⟨t0, l0, rfl, ht0, hl0⟩ := (hf : ∃ t l, fs = efd3 "name" "spots" "deeds" "barred" (.str a) (.ref t) (.ref l) ∧ H t = some (.tup [.str b, .str c]) ∧ H l = some (.lst ys))
      refine ⟨_, rfl, e, cl 25, dx, _, _, rfl, ha, hd, C.xf 25 (by decide), NF 25 _ (by decide) List.mem_cons_self, lk3a (by decide +kernel) (by decide +kernel), _, rfl, e, cl 25, dx, _, _, rfl, ha, hd, C.xf 25 (by decide), NF 25 _ (by decide) (List.mem_cons_of_mem _ (List.mem_cons_self)), lk3b (by decide +kernel), _, rfl, e, cl 25, dx, _, _, rfl, ha, hd, C.xf 25 (by decide), NF 25 _ (by decide) (List.mem_cons_of_mem _ ((List.mem_cons_of_mem _ (List.mem_cons_self)))), lk3c _ _ _ _ _ _ _, by show 3 ≤ sizeLine; decide, fun t ht => kk t _ (Same.upd ht) ?_⟩
      exact .tup (SqT.of upd_same) (.cons (.str _) (.cons (.tup (SqT.of (Same.upd ht _ _ ht0)) (.cons (.str _) (.cons (.str _) .nil))) (.cons (.lst (SqL.of (Same.upd ht _ _ hl0)) (dpAll_same (Same.upd ht) hys)) .nil)))
    have i6 := int_not h
    have h2 : datK a b c n rs k = .tuple [] := by
      rcases (show k = 26 ∨ k = 27 by omega) with e1 | e1
      · subst e1; rfl
      · subst e1; rfl
    refine ⟨by show 0 ≤ sizeLine; decide, fun t ht => kk t _ (Same.upd ht) ?_⟩
    rw [h2]
    exact .tup (SqT.of upd_same) .nil
theorem scDue : FnScope ["_law_k", "_law_a", "_law_b", "_law_c", "_law_n", "_law_rows"] ["_law_k", "_law_a", "_law_b", "_law_c", "_law_n", "_law_rows"] (defScope sDue) := ⟨rfl, rfl, rfl, by decide +kernel, rfl, by decide +kernel, by decide +kernel⟩
theorem ok_due {f : Addr} {fd : FuncData} (F : Fun K "_law_due" "_law_due" sDue f fd) : FnOk P w K mg base CX0 1 f fd ["_law_k", "_law_a", "_law_b", "_law_c", "_law_n", "_law_rows"] (spDue K) := by
  refine F.ok scDue (fun vs H Q E h => ?_) (fun cdv A outer s H vs Q E hr h => ?_)
  · obtain ⟨k, rw, a, b, c, n, ys, rs, rfl, _⟩ := h
    rfl
  · obtain ⟨k, rw, a, b, c, n, ys, rs, rfl, hk, hrw, hys, kk⟩ := h
    refine ⟨_, (pss_cons (ps_if (pt_cmpR op_lt (pv 0) pe_int (nomark _)) (pss_one (ps_ret (pe_tup (pa_cons (pv 1) pa_nil)))) pss_nil)
      (pss_cons (ps_if (pt_cmpR op_lt (pv 0) pe_int (nomark _)) (pss_one (ps_ret (pe_lst (pa_cons (pe_ix ix_list (pe_lst (pa_cons (pv 4) (pa_cons (pv 4) (pa_cons (pv 4) (pa_cons (pv 1) (pa_cons (pv 1) pa_nil)))))) (pe_op op_sub (pv 0) pe_int) (fun _ _ => rfl)) pa_nil)))) pss_nil)
      (pss_cons (ps_if (pt_cmpR op_eq (pv 0) pe_int (nomark _)) (pss_one (ps_ret (pe_tup (pa_cons (pv 1) (pa_cons (pv 4) pa_nil))))) pss_nil)
      (pss_cons (ps_if (pt_cmpR op_lt (pv 0) pe_int (nomark _)) (pss_one (ps_ret (pe_tup (pa_cons (pv 1) (pa_cons (pv 2) pa_nil))))) pss_nil)
      (pss_cons (ps_if (pt_cmpR op_eq (pv 0) pe_int (nomark _)) (pss_one (ps_ret (pe_tup (pa_cons (pv 1) (pa_cons (pe_tup (pa_cons (pv 2) (pa_cons (pv 3) pa_nil))) pa_nil))))) pss_nil)
      (pss_cons (ps_if (pt_cmpR op_lt (pv 0) pe_int (nomark _)) (pss_one (ps_ret (pe_tup (pa_cons (pv 1) (pa_cons (pv 2) (pa_cons (pv 3) pa_nil)))))) pss_nil)
      (pss_one (ps_ret (pe_ix ix_list (pe_lst (pa_cons (pe_tup (pa_cons (pv 1) (pa_cons (pe_tup (pa_cons (pv 2) (pa_cons (pv 3) pa_nil))) (pa_cons (pv 5) pa_nil)))) (pa_cons (pe_tup pa_nil) (pa_cons (pe_tup pa_nil) pa_nil)))) (pe_op op_sub (pv 0) pe_int) (fun _ _ => rfl)))))))))), ?_⟩
    refine ⟨_, rfl, _, _, rfl, rfl, _, rfl, ite2 (fun h => ?_) (fun h => ?_)⟩
    · have h0 := lt_is h
      refine ⟨_, rfl, by show 1 ≤ sizeLine; decide, fun t ht => kk t _ (Same.upd ht) ?_⟩
      rw [dat_low (by omega)]
      exact .tup (SqT.of upd_same) (.cons (.str _) .nil)
    have i0 := lt_not h
    refine ⟨_, rfl, _, _, rfl, rfl, _, rfl, ite2 (fun h => ?_) (fun h => ?_)⟩
    · have h0 := lt_is h
      refine ⟨_, rfl, _, rfl, _, rfl, _, rfl, _, rfl, by show 5 ≤ sizeLine; decide, fun l hl => ⟨_, rfl, _, _, rfl, rfl, ?_⟩⟩
      rcases (show k = 12 ∨ k = 13 ∨ k = 14 ∨ k = 15 ∨ k = 16 by omega) with e1 | e1 | e1 | e1 | e1
      · subst e1
        refine rdList upd_same (j := 0) (v := .int n) (by decide) rfl ?_
        exact ⟨by show 1 ≤ sizeLine; decide, fun p hp => kk p _ ((Same.upd hl).trans (Same.upd hp)) (.lst (SqL.of upd_same) (.cons (.int _) .nil))⟩
      · subst e1
        refine rdList upd_same (j := 1) (v := .int n) (by decide) rfl ?_
        exact ⟨by show 1 ≤ sizeLine; decide, fun p hp => kk p _ ((Same.upd hl).trans (Same.upd hp)) (.lst (SqL.of upd_same) (.cons (.int _) .nil))⟩
      · subst e1
        refine rdList upd_same (j := 2) (v := .int n) (by decide) rfl ?_
        exact ⟨by show 1 ≤ sizeLine; decide, fun p hp => kk p _ ((Same.upd hl).trans (Same.upd hp)) (.lst (SqL.of upd_same) (.cons (.int _) .nil))⟩
      · subst e1
        refine rdList upd_same (j := 3) (v := .str a) (by decide) rfl ?_
        exact ⟨by show 1 ≤ sizeLine; decide, fun p hp => kk p _ ((Same.upd hl).trans (Same.upd hp)) (.lst (SqL.of upd_same) (.cons (.str _) .nil))⟩
      · subst e1
        refine rdList upd_same (j := 4) (v := .str a) (by decide) rfl ?_
        exact ⟨by show 1 ≤ sizeLine; decide, fun p hp => kk p _ ((Same.upd hl).trans (Same.upd hp)) (.lst (SqL.of upd_same) (.cons (.str _) .nil))⟩
    have i1 := lt_not h
    refine ⟨_, rfl, rfl, _, rfl, ite2 (fun h => ?_) (fun h => ?_)⟩
    · have e1 : k = 17 := by have := int_is h; omega
      subst e1
      exact ⟨_, rfl, _, rfl, by show 2 ≤ sizeLine; decide, fun t ht => kk t _ (Same.upd ht) (.tup (SqT.of upd_same) (.cons (.str _) (.cons (.int _) .nil)))⟩
    have i2 := int_not h
    refine ⟨_, rfl, _, _, rfl, rfl, _, rfl, ite2 (fun h => ?_) (fun h => ?_)⟩
    · have h0 := lt_is h
      have h2 : datK a b c n rs k = .tuple [.str a, .str b] := by
        rcases (show k = 18 ∨ k = 19 by omega) with e1 | e1
        · subst e1; rfl
        · subst e1; rfl
      refine ⟨_, rfl, _, rfl, by show 2 ≤ sizeLine; decide, fun t ht => kk t _ (Same.upd ht) ?_⟩
      rw [h2]
      exact .tup (SqT.of upd_same) (.cons (.str _) (.cons (.str _) .nil))
    have i3 := lt_not h
    refine ⟨_, rfl, rfl, _, rfl, ite2 (fun h => ?_) (fun h => ?_)⟩
    · have e1 : k = 20 := by have := int_is h; omega
      subst e1
      refine ⟨_, rfl, _, rfl, _, rfl, by show 2 ≤ sizeLine; decide, fun t0 ht0 => ⟨by show 2 ≤ sizeLine; decide, fun t ht => kk t _ ((Same.upd ht0).trans (Same.upd ht)) ?_⟩⟩
      exact .tup (SqT.of upd_same) (.cons (.str _) (.cons (.tup (SqT.of (Same.upd ht _ _ upd_same)) (.cons (.str _) (.cons (.str _) .nil))) .nil))
    have i4 := int_not h
    refine ⟨_, rfl, _, _, rfl, rfl, _, rfl, ite2 (fun h => ?_) (fun h => ?_)⟩
    · have h0 := lt_is h
      have h2 : datK a b c n rs k = .tuple [.str a, .str b, .str c] := by
        rcases (show k = 21 ∨ k = 22 ∨ k = 23 ∨ k = 24 by omega) with e1 | e1 | e1 | e1
        · subst e1; rfl
        · subst e1; rfl
        · subst e1; rfl
        · subst e1; rfl
      refine ⟨_, rfl, _, rfl, _, rfl, by show 3 ≤ sizeLine; decide, fun t ht => kk t _ (Same.upd ht) ?_⟩
      rw [h2]
      exact .tup (SqT.of upd_same) (.cons (.str _) (.cons (.str _) (.cons (.str _) .nil)))
    have i5 := lt_not h
    refine ⟨_, rfl, _, rfl, _, rfl, by show 2 ≤ sizeLine; decide, fun t0 ht0 => ⟨_, rfl, by show 3 ≤ sizeLine; decide, fun t1 ht1 => ⟨by show 0 ≤ sizeLine; decide, fun t2 ht2 => ⟨by show 0 ≤ sizeLine; decide, fun t3 ht3 => ⟨by show 3 ≤ sizeLine; decide, fun l hl => ⟨_, rfl, _, _, rfl, rfl, ?_⟩⟩⟩⟩⟩⟩
    have S0 := Same.upd (o := .tup [.str b, .str c]) ht0
    have S1 := Same.upd (o := .tup [.str a, .ref t0, .ref rw]) ht1
    have S2 := Same.upd (o := .tup []) ht2
    have S3 := Same.upd (o := .tup []) ht3
    have S4 := Same.upd (o := .lst [.ref t1, .ref t2, .ref t3]) hl
    have S := (((S0.trans S1).trans S2).trans S3).trans S4
    rcases (show k = 25 ∨ k = 26 ∨ k = 27 by omega) with e1 | e1 | e1
    · subst e1
      refine rdList upd_same (j := 0) (v := .ref t1) (by decide) rfl (kk t1 _ S ?_)
      exact .tup (SqT.of (S4 _ _ (S3 _ _ (S2 _ _ upd_same)))) (.cons (.str _) (.cons (.tup (SqT.of (S4 _ _ (S3 _ _ (S2 _ _ (S1 _ _ upd_same))))) (.cons (.str _) (.cons (.str _) .nil))) (.cons (.lst (SqL.of (S _ _ hrw)) (dpAll_same S hys)) .nil)))
    · subst e1
      exact rdList upd_same (j := 1) (v := .ref t2) (by decide) rfl (kk t2 _ S (.tup (SqT.of (S4 _ _ (S3 _ _ upd_same))) .nil))
    · subst e1
      exact rdList upd_same (j := 2) (v := .ref t3) (by decide) rfl (kk t3 _ S (.tup (SqT.of (S4 _ _ upd_same)) .nil))
end
end Wm
namespace Wm
open PySem L2
abbrev sCel : Stmt := top 31
abbrev sLaw : Stmt := top 42
def spLaw (K : PySem.W.Frag) : Sp := fun vs H Q _ => ∃ (a : Addr) (ns : List Int), vs = [.ref a] ∧ SqL K H a (ns.map V.int) ∧ ns.length ≤ 63 ∧ ∀ H', Q (.bl true) H'
def spCel (K : PySem.W.Frag) : Sp := fun vs H Q _ => ∃ (a : Addr) (ns : List Int) (j : Nat), vs = [.ref a, .int j] ∧ SqL K H a (ns.map V.int) ∧ ∀ i : Int, Q (.int i) H
theorem eqv_self {d : PyData} (h : SeqAt.shaped d = true) : PyData.eqv d d = true := SeqAt.eqv_refl d (SeqAt.canLay_of_shaped h)
theorem strOk_of {z : Str} (h : okS z) : PyData.strOk z = true := by
  unfold PyData.strOk
  rw [Array.all_eq_true_iff_forall_mem]
  intro c hc
  exact decide_eq_true (h c (by simpa using hc))
def rowD (a b c : Str) : PyData := .tuple [.str "make", .str a, .str b, .str c]
theorem shaped_dat {a b c : Str} {n : Int} {m : Nat} (ha : okS a) (hb : okS b) (hc : okS c) (hm : m ≤ 2) : ∀ {k : Nat}, k < 28 → SeqAt.shaped (datK a b c n (List.replicate m (rowD a b c)) k) = true := by
  have a1 := strOk_of ha
  have b1 := strOk_of hb
  have c1 := strOk_of hc
  have m1 : PyData.strOk "make" = true := by decide +kernel
  intro k hk
  by_cases h12 : k < 12
  · rw [dat_low h12]
    simp [SeqAt.shaped, PyData.canLay0, PyData.canLayAll0, PyData.depth, PyData.depthAll, a1]
  by_cases h25 : k = 25
  · subst h25
    rcases (show m = 0 ∨ m = 1 ∨ m = 2 by omega) with e | e | e <;> subst e <;>
      simp [datK, rowD, SeqAt.shaped, PyData.canLay0, PyData.canLayAll0, PyData.depth, PyData.depthAll, a1, b1, c1, m1, List.replicate]
  rcases (show k = 12 ∨ k = 13 ∨ k = 14 ∨ k = 15 ∨ k = 16 ∨ k = 17 ∨ k = 18 ∨ k = 19 ∨ k = 20 ∨ k = 21 ∨ k = 22 ∨ k = 23 ∨ k = 24 ∨ k = 26 ∨ k = 27 by omega) with e | e | e | e | e | e | e | e | e | e | e | e | e | e | e <;> subst e <;>
    simp [datK, SeqAt.shaped, PyData.canLay0, PyData.canLayAll0, PyData.depth, PyData.depthAll, a1, b1, c1]
theorem fs_of_low {H : Hp} {a b c : Str} {n : Int} {ys : List V} : ∀ {k : Nat}, k < 12 → FsOk H a b c n ys (ef1 "name" (kd k) (.str a)) k
  | 0, _ => rfl
  | 1, _ => rfl
  | 2, _ => rfl
  | 3, _ => rfl
  | 4, _ => rfl
  | 5, _ => rfl
  | 6, _ => rfl
  | 7, _ => rfl
  | 8, _ => rfl
  | 9, _ => rfl
  | 10, _ => rfl
  | 11, _ => rfl
  | k + 12, h => absurd h (by omega)
theorem fs_same {H H' : Hp} {a b c : Str} {n : Int} {ys : List V} {fs : List (Str × V)} (s : Same H H') : ∀ {k : Nat}, k < 28 → FsOk H a b c n ys fs k → FsOk H' a b c n ys fs k
  | 0, _, h => h
  | 1, _, h => h
  | 2, _, h => h
  | 3, _, h => h
  | 4, _, h => h
  | 5, _, h => h
  | 6, _, h => h
  | 7, _, h => h
  | 8, _, h => h
  | 9, _, h => h
  | 10, _, h => h
  | 11, _, h => h
  | 12, _, h => h
  | 13, _, h => h
  | 14, _, h => h
  | 15, _, h => h
  | 16, _, h => h
  | 17, _, h => h
  | 18, _, h => h
  | 19, _, h => h
  | 20, _, ⟨t, e, ht⟩ => ⟨t, e, s _ _ ht⟩
  | 21, _, h => h
  | 22, _, h => h
  | 23, _, h => h
  | 24, _, h => h
  | 25, _, ⟨t, l, e, ht, hl⟩ => ⟨t, l, e, s _ _ ht, s _ _ hl⟩
  | 26, _, h => h
  | 27, _, h => h
  | k + 28, h, _ => absurd h (by omega)
def bL (k : Nat) : List Bool := (List.range 28).map fun j => decide (k = j)
theorem bL_V (k : Nat) : ((List.range 28).map fun j => V.bl (decide (k = j))) = (bL k).map V.bl := by
  unfold bL
  rw [List.map_map]
  rfl
def b2i (b : Bool) : Int := if b = true then 1 else 0
theorem bL_sum {k : Nat} (h : k < 28) : ((bL k).map b2i).sum = 1 := by
  have q : ∀ i : Fin 28, ((bL i.1).map b2i).sum = 1 := by decide +kernel
  exact q ⟨k, h⟩
theorem bL_at {k : Nat} (h : k < 28) : (bL k)[k]? = some true := by
  have q : ∀ i : Fin 28, (bL i.1)[i.1]? = some true := by decide +kernel
  exact q ⟨k, h⟩
theorem kd_at {k : Nat} (h : k < 28) : (kdL.map V.str)[k]? = some (.str (kd k)) := by
  have hl : k < kdL.length := h
  rw [List.getElem?_map, List.getElem?_eq_getElem hl]
  show some (V.str kdL[k]) = some (V.str (kdL.getD k ""))
  rw [List.getD_eq_getElem?_getD, List.getElem?_eq_getElem hl]
  rfl
theorem empty_app (z : Str) : Str.empty ++ z = z := by
  have e : (Str.empty ++ z).cps.toList = z.cps.toList := by
    rw [toList_app]
    rfl
  cases z with
  | mk zc =>
    have q : (Str.empty ++ ⟨zc⟩ : Str).cps = zc := Array.toList_inj.mp e
    cases h : (Str.empty ++ (⟨zc⟩ : Str)) with
    | mk c =>
      rw [h] at q
      simp only at q
      rw [q]
theorem repl_flat (m : Nat) (x : V) : (List.replicate m [x]).flatten = List.replicate m x := by
  induction m with
  | zero => rfl
  | succ m ih => rw [List.replicate_succ, List.flatten_cons, ih, List.replicate_succ]; rfl
theorem dp_repl {K : PySem.W.Frag} {H : Hp} {v : V} {d : PyData} (h : Dp K H v d) : ∀ m : Nat, DpAll K H (List.replicate m v) (List.replicate m d)
  | 0 => .nil
  | m + 1 => .cons h (dp_repl h m)
section
variable {P : Program} {w : World} {K : PySem.W.Frag} {mg : Str → Option Value} {base : Heap}
theorem scCel : FnScope ["_law_script", "_law_k"] ["_law_script", "_law_k"] (defScope sCel) := ⟨rfl, rfl, rfl, by decide +kernel, rfl, by decide +kernel, by decide +kernel⟩
theorem ok_cel {f : Addr} {fd : FuncData} (F : Fun K "_law_cell_at" "_law_cell_at" sCel f fd) (T : TxB mg) : FnOk P w K mg base CX0 1 f fd ["_law_script", "_law_k"] (spCel K) := by
  refine F.ok scCel (fun vs H Q E h => ?_) (fun cdv A outer s H vs Q E hr h => ?_)
  · obtain ⟨a, ns, j, rfl, _⟩ := h
    rfl
  · obtain ⟨a, ns, j, rfl, hS, k⟩ := h
    refine ⟨_, (pss_cons (ps_if (pt_cmpR op_lt (pv 1) (pe_callB call_len_seq (by rfl) T.len (by decide +kernel) (pa_cons (pv 0) pa_nil)) (nomark _)) (pss_one (ps_ret (pe_ix ix_list (pv 0) (pv 1) (fun _ _ => rfl)))) pss_nil)
      (pss_one (ps_ret pe_int))), ?_⟩
    refine ⟨_, rfl, _, rfl, a, _, rfl, .inl hS, _, _, rfl, rfl, _, rfl, ite2 (fun h => ?_) (fun h => ?_)⟩
    · have h1 := of_decide_eq_true h
      rw [List.length_map] at h1
      have hj : j < ns.length := by omega
      refine ⟨_, rfl, _, rfl, a, _, _, .int ns[j], rfl, rfl, hS, atI_nat (j := j) ?_, k _⟩
      rw [List.getElem?_map, List.getElem?_eq_getElem hj]
      rfl
    · exact k 0
theorem scLaw : FnScope ["_law_script", "_law_words", "_law_at", "_law_s", "_law_k", "_law_a", "_law_b", "_law_c", "_law_n", "_law_rows", "_law_e", "_law_kinds_here", "_law_one_here"] ["_law_script"] (defScope sLaw) := ⟨rfl, rfl, rfl, by decide +kernel, rfl, by decide +kernel, by decide +kernel⟩
theorem ok_law {f fC fS fG fN fO fR fK fF fU fT W : Addr} {fd dC dS dG dN dO dR dK dF dU dT : FuncData} {cl : Nat → Addr} (F : Fun K "law" "law" sLaw f fd) (T : TxB mg) (tsum : mg "sum" = none)
    (DC : Dn K mg "_law_cell_at" sCel ["_law_script", "_law_k"] fC dC) (DS : Dn K mg "_law_state" sState ["_law_cell"] fS dS) (DG : Dn K mg "_law_digit" sDigit ["_law_state_here", "_law_base"] fG dG) (DN : Dn K mg "_law_names" sNms ["_law_s", "_law_many"] fN dN)
    (DO : Dn K mg "_law_one" sOne ["_law_k", "_law_a"] fO dO) (DR : Dn K mg "_law_other" sOth ["_law_k", "_law_a", "_law_b", "_law_c", "_law_n", "_law_rows"] fR dR) (DK : Dn K mg "_law_kinds" sKnd ["_law_e"] fK dK) (DF : Dn K mg "_law_fields" sFld ["_law_k", "_law_e"] fF dF) (DU : Dn K mg "_law_due" sDue ["_law_k", "_law_a", "_law_b", "_law_c", "_law_n", "_law_rows"] fU dU)
    (GN : FnOk P w K mg base CX0 3 fN dN ["_law_s", "_law_many"] spNms) (GO : FnOk P w K mg base CX0 4 fO dO ["_law_k", "_law_a"] (spOne cl)) (GR : FnOk P w K mg base CX0 4 fR dR ["_law_k", "_law_a", "_law_b", "_law_c", "_law_n", "_law_rows"] (spOth cl)) (GK : FnOk P w K mg base CX0 1 fK dK ["_law_e"] (spKnd cl)) (GF : FnOk P w K mg base CX0 2 fF dF ["_law_k", "_law_e"] (spFld K cl))
    (GTl : FnOk P w K mg base CX0 1 fT dT ["self"] (spTld K)) (bT : Binds K dT ["self"] []) (fnT : PySem.W.isFn K (.ref fT) = true) (kpT : PySem.W.keepIn K (.ref fT) = true) (gW : mg "WhoError" = some (.ref W)) (C : AllC K cl fT W) :
    FnOk P w K mg base CX0 5 f fd ["_law_script"] (spLaw K) := by
  have GC : FnOk P w K mg base CX0 1 fC dC _ (spCel K) := ok_cel DC.F T
  have GS : FnOk P w K mg base CX0 1 fS dS _ spState := ok_state DS.F T
  have GG : FnOk P w K mg base CX0 1 fG dG _ spDigit := ok_digit DG.F
  have GU : FnOk P w K mg base CX0 1 fU dU _ (spDue K) := ok_due DU.F
  refine F.ok scLaw (fun vs H Q E h => ?_) (fun cdv A outer s H vs Q E hr h => ?_)
  · obtain ⟨a, ns, rfl, _⟩ := h
    rfl
  · obtain ⟨a, ns, rfl, hA, hl, kk⟩ := h
    have hr1 : Room 1 _ := hr.mono (by decide)
    have hr2 : Room 2 _ := hr.mono (by decide)
    have hr3 : Room 3 _ := hr.mono (by decide)
    refine ⟨_, (pss_cons (ps_set (i := 1) scLaw.nd rfl (Or.inl rfl) (pe_lst (pa_cons pe_str (pa_cons pe_str (pa_cons pe_str (pa_cons pe_str (pa_cons pe_str (pa_cons pe_str (pa_cons pe_str (pa_cons pe_str (pa_cons pe_str (pa_cons pe_str pa_nil))))))))))))
      (pss_cons (ps_set (i := 1) scLaw.nd rfl (Or.inl rfl) (pe_op op_cat (pv 1) (pe_lst (pa_cons pe_str (pa_cons pe_str (pa_cons pe_str (pa_cons pe_str (pa_cons pe_str (pa_cons pe_str (pa_cons pe_str (pa_cons pe_str (pa_cons pe_str pa_nil))))))))))))
      (pss_cons (ps_set (i := 1) scLaw.nd rfl (Or.inl rfl) (pe_op op_cat (pv 1) (pe_lst (pa_cons pe_str (pa_cons pe_str (pa_cons pe_str (pa_cons pe_str (pa_cons pe_str (pa_cons pe_str (pa_cons pe_str (pa_cons pe_str (pa_cons pe_str pa_nil))))))))))))
      (pss_cons (ps_for PassesOwn.never rfl (pi_range1 rfl T.range (pa_cons pe_int pa_nil)) (pg_name (i := 2) scLaw.nd rfl (Or.inl rfl)) (pss_cons (ps_set (i := 3) scLaw.nd rfl (Or.inl rfl) (pe_call GS hr1 rfl DS.g DS.F.kp DS.b .nil pass0 (pa_cons (pe_call GC hr1 rfl DC.g DC.F.kp DC.b .nil pass0 (pa_cons (pv 0) (pa_cons (pv 2) pa_nil))) pa_nil)))
      (pss_cons (ps_set (i := 4) scLaw.nd rfl (Or.inl rfl) (pe_op op_mod (pe_op op_add (pv 2) (pe_call GG hr1 rfl DG.g DG.F.kp DG.b .nil pass0 (pa_cons (pv 3) (pa_cons pe_int pa_nil)))) pe_int))
      (pss_cons (ps_asg (pe_call GN hr3 rfl DN.g DN.F.kp DN.b .nil pass0 (pa_cons (pv 3) (pa_cons pe_int pa_nil))) (pg_lst rfl (pgs_cons (pg_name (i := 5) scLaw.nd rfl (Or.inl rfl)) (pgs_cons (pg_name (i := 6) scLaw.nd rfl (Or.inl rfl)) (pgs_cons (pg_name (i := 7) scLaw.nd rfl (Or.inl rfl)) pgs_nil)))))
      (pss_cons (ps_set (i := 8) scLaw.nd rfl (Or.inl rfl) (pe_call GG hr1 rfl DG.g DG.F.kp DG.b .nil pass0 (pa_cons (pv 3) (pa_cons pe_int pa_nil))))
      (pss_cons (ps_set (i := 9) scLaw.nd rfl (Or.inl rfl) (pe_op op_rep (pe_lst (pa_cons (pe_tup (pa_cons pe_str (pa_cons (pv 5) (pa_cons (pv 6) (pa_cons (pv 7) pa_nil))))) pa_nil)) (pe_call GG hr1 rfl DG.g DG.F.kp DG.b .nil pass0 (pa_cons (pv 3) (pa_cons pe_int pa_nil)))))
      (pss_cons (ps_if (pt_cmpR op_lt (pv 4) pe_int (nomark _)) (pss_one (ps_set (i := 10) scLaw.nd rfl (Or.inl rfl) (pe_call GO hr rfl DO.g DO.F.kp DO.b .nil pass0 (pa_cons (pv 4) (pa_cons (pv 5) pa_nil))))) (pss_one (ps_set (i := 10) scLaw.nd rfl (Or.inl rfl) (pe_call GR hr rfl DR.g DR.F.kp DR.b .nil pass0 (pa_cons (pv 4) (pa_cons (pv 5) (pa_cons (pv 6) (pa_cons (pv 7) (pa_cons (pv 8) (pa_cons (pv 9) pa_nil))))))))))
      (pss_cons (ps_set (i := 11) scLaw.nd rfl (Or.inl rfl) (pe_call GK hr1 rfl DK.g DK.F.kp DK.b .nil pass0 (pa_cons (pv 10) pa_nil)))
      (pss_cons (ps_if (PW.pt (pw_or (pt_cmpR op_ne (pe_xm0 (pv 10) fnT kpT GTl hr1 bT) (pe_op op_add_str pe_str (pe_ix ix_list (pv 1) (pv 4) (fun _ _ => rfl))) (nomark _)) (pw_or (pt_not (pt_val (pe_callB call_isO (by rfl) T.isinstance (by decide +kernel) (pa_cons (pv 10) (pa_cons (pe_glob (v := .ref W) (by rfl) gW rfl) pa_nil))))) (pw_or1 (pt_not (pt_val (pe_callB call_isO (by rfl) T.isinstance (by decide +kernel) (pa_cons (pv 10) (pa_cons (pe_bltn (v := .ty "ValueError") (by rfl) T.ve (by decide +kernel) rfl) pa_nil))))))))) (pss_one (ps_ret pe_bl)) pss_nil)
      (pss_cons (ps_if (PW.pt (pw_or (pt_cmpR op_ne (pe_callB (cr_sum rfl) (by rfl) tsum (by decide +kernel) (pa_cons (pe_lc (own := [("_law_one_here", 12)]) (g := gName 12) rfl scLaw.nd (pi_list (pv 11)) (blkOk_by (N := ["_law_script", "_law_words", "_law_at", "_law_s", "_law_k", "_law_a", "_law_b", "_law_c", "_law_n", "_law_rows", "_law_e", "_law_kinds_here", "_law_one_here"]) (sc := defScope sLaw) (by decide +kernel)) (fun _ _ _ _ _ => (pg_name (i := 12) scLaw.nd rfl (Or.inl rfl))) (fun _ _ _ _ _ => pts_nil) (fun _ _ _ _ _ => (pe_callTy call_int1 (by rfl) T.int (by decide +kernel) (pa_cons (pv 12) pa_nil)))) pa_nil)) pe_int (nomark _)) (pw_or1 (pt_cmpR op_notBl (pe_ix ix_list (pv 11) (pv 4) (fun _ _ => rfl)) pe_bl (nomark _))))) (pss_one (ps_ret pe_bl)) pss_nil)
      (pss_one (ps_if (pt_cmpR (op_neD hr.units) (pe_call GF hr2 rfl DF.g DF.F.kp DF.b .nil pass0 (pa_cons (pv 4) (pa_cons (pv 10) pa_nil))) (pe_call GU hr1 rfl DU.g DU.F.kp DU.b .nil pass0 (pa_cons (pv 4) (pa_cons (pv 5) (pa_cons (pv 6) (pa_cons (pv 7) (pa_cons (pv 8) (pa_cons (pv 9) pa_nil))))))) (nomark _)) (pss_one (ps_ret pe_bl)) pss_nil))))))))))))
      (pss_one (ps_ret pe_bl)))))), ?_⟩
    refine ⟨by show 10 ≤ sizeLine; decide, fun w0 hw0 => ?_⟩
    refine ⟨_, rfl, by show 9 ≤ sizeLine; decide, fun w1 hw1 => ?_⟩
    have n01 : w0 ≠ w1 := fun z => by
      rw [← z, upd_same] at hw1
      cases hw1
    refine ⟨w0, w1, _, _, rfl, rfl, (upd_ne n01).trans upd_same, upd_same, by show 19 ≤ sizeLine; decide, fun w2 hw2 => ?_⟩
    refine ⟨_, rfl, by show 9 ≤ sizeLine; decide, fun w3 hw3 => ?_⟩
    have n23 : w2 ≠ w3 := fun z => by
      rw [← z, upd_same] at hw3
      cases hw3
    refine ⟨w2, w3, _, _, rfl, rfl, (upd_ne n23).trans upd_same, upd_same, by show 28 ≤ sizeLine; decide, fun wl hwl => ?_⟩
    dsimp only [List.set_cons_succ, List.set_cons_zero]
    have S0 := ((((Same.upd hw0).trans (Same.upd hw1)).trans (Same.upd hw2)).trans (Same.upd hw3)).trans (Same.upd (o := .lst (kdL.map V.str)) hwl)
    generalize hH0 : upd _ wl _ = H0
    have hW0 : H0 wl = some (.lst (kdL.map V.str)) := by
      rw [← hH0, upd_same]
      rfl
    have SH : Same H H0 := by
      rw [← hH0]
      exact S0
    clear S0 hH0
    refine ⟨28, rfl, by decide, by decide, ?_⟩
    refine for_range (n := 28) (fun i σ H' => (∃ u2 u3 u4 u5 u6 u7 u8 u9 u10 u11 u12, σ = [some (.ref a), some (.ref wl), u2, u3, u4, u5, u6, u7, u8, u9, u10, u11, u12]) ∧ Same H0 H')
      ⟨⟨none, none, none, none, none, none, none, none, none, none, none, rfl⟩, fun _ _ z => z⟩ ?_ (fun σ H' _ => kk H')
    rintro i σ H1 hi ⟨⟨u2, u3, u4, u5, u6, u7, u8, u9, u10, u11, u12, rfl⟩, hS1⟩
    dsimp only [gName, List.set_cons_succ, List.set_cons_zero]
    have hat : (0 : Int) + (i : Int) = ((i : Nat) : Int) := by omega
    rw [hat]
    refine ⟨_, rfl, _, rfl, a, ns, i, rfl, (SH.trans hS1).seq hA, fun ci => ⟨ci, rfl, fun p H2 hp S2 st2 => ?_⟩⟩
    dsimp only [List.set_cons_succ, List.set_cons_zero]
    have p0 : H0 p = none := hS1.free hp
    refine ⟨_, rfl, _, rfl, p, _, rfl, st2, by decide, by decide, fun dg H3 g0 g1 B3 st3 => ⟨_, _, rfl, rfl, _, _, rfl, rfl, (by show (0 : Int) < 28; decide), ?_⟩⟩
    dsimp only [List.set_cons_succ, List.set_cons_zero]
    obtain ⟨k, hk⟩ : ∃ k : Nat, ((i : Int) + dg) % 28 = (k : Int) := ⟨(((i : Int) + dg) % 28).toNat, by have := Int.emod_nonneg ((i : Int) + dg) (show (28 : Int) ≠ 0 by decide); omega⟩
    have hk28 : k < 28 := by have := Int.emod_lt_of_pos ((i : Int) + dg) (show (0 : Int) < 28 by decide); omega
    rw [hk]
    refine ⟨_, rfl, p, 3, rfl, st3, by decide, by decide, fun zs nl H4 hnl nlp B4 st4 hl4 len4 nd4 nm4 => ?_⟩
    obtain ⟨za, zb, zc, rfl⟩ : ∃ x y z, zs = [x, y, z] := by
      match zs, len4 with
      | [x, y, z], _ => exact ⟨x, y, z, rfl⟩
    refine ⟨nl, _, rfl, SqL.of hl4, rfl, _, _, rfl, _, _, rfl, _, _, rfl, rfl, ?_⟩
    dsimp only [gName, gNil, List.set_cons_succ, List.set_cons_zero]
    refine ⟨_, rfl, p, _, rfl, st4, by decide, by decide, fun n H5 g2 g3 B5 st5 => ?_⟩
    dsimp only [List.set_cons_succ, List.set_cons_zero]
    refine ⟨_, rfl, _, rfl, _, rfl, by show 4 ≤ sizeLine; decide, fun tt htt => ⟨by show 1 ≤ sizeLine; decide, fun tl htl => ?_⟩⟩
    have ntp := st_free st5 htt
    have nlp2 := st_free (st5.upd ntp) htl
    refine ⟨_, rfl, p, _, rfl, (st5.upd ntp).upd nlp2, by decide, by decide, fun m H6 g4 g5 B6 st6 => ?_⟩
    have htl6 := B6 tl _ nlp2 upd_same
    have ntl : tt ≠ tl := fun z => by
      rw [← z, upd_same] at htl
      cases htl
    have htt6 := B6 tt (.tup [.str "make", .str za, .str zb, .str zc]) ntp (by rw [upd_ne ntl, upd_same])
    refine ⟨tl, m, _, rfl, rfl, htl6, by omega, by omega, ?_, fun rw hrw => ?_⟩
    · show 1 * m.toNat ≤ sizeLine
      exact Nat.le_trans (show _ ≤ 100 by omega) (by decide)
    dsimp only [List.set_cons_succ, List.set_cons_zero]
    rw [repl_flat]
    have S57 : Same H0 (upd H6 rw (.lst (List.replicate m.toNat (.ref tt)))) := by
      have q5 : Same H0 H5 := But.same p0 (hS1.trans S2) ((B3.trans B4).trans B5)
      have q6 : Same H0 H6 := But.same p0 ((q5.trans (Same.upd htt)).trans (Same.upd htl)) B6
      exact q6.trans (Same.upd hrw)
    have hm2 : m.toNat ≤ 2 := by omega
    have hrw7 : upd H6 rw (.lst (List.replicate m.toNat (.ref tt))) rw = some (.lst (List.replicate m.toNat (.ref tt))) := upd_same
    have htt7 := (Same.upd (o := .lst (List.replicate m.toNat (.ref tt))) hrw) _ _ htt6
    generalize upd H6 rw (.lst (List.replicate m.toNat (.ref tt))) = H7 at S57 hrw7 htt7
    have dp7 : DpAll K H7 (List.replicate m.toNat (.ref tt)) (List.replicate m.toNat (rowD za zb zc)) := dp_repl (.tup (SqT.of htt7) (.cons (.str _) (.cons (.str _) (.cons (.str _) (.cons (.str _) .nil))))) _
    have oa : okS za := (nm4 za (by simp)).1.ok
    have ob : okS zb := (nm4 zb (by simp)).1.ok
    have oc : okS zc := (nm4 zc (by simp)).1.ok
    have sh := shaped_dat (n := n) oa ob oc hm2 hk28
    refine ⟨_, rfl, _, _, rfl, rfl, _, rfl, ite2 (fun h => ?_) (fun h => ?_)⟩
    · have h12 := lt_is h
      refine ⟨_, rfl, _, rfl, k, za, rfl, by omega, fun e H8 S8 hE => ?_⟩
      have KD : Kind H8 cl e k za zb zc n (List.replicate m.toNat (.ref tt)) := ⟨_, hE, fs_of_low (by omega)⟩
      dsimp only [List.set_cons_succ, List.set_cons_zero]
      obtain ⟨fs, hE, hF⟩ := KD
      obtain ⟨lkK, lkT⟩ := fs_look hk28 hF
      refine ⟨_, rfl, e, k, fs, rfl, hk28, hE, fun kl H9 S9 hkl => ?_⟩
      rw [bL_V] at hkl
      dsimp only [List.set_cons_succ, List.set_cons_zero]
      have hE9 := hE.same S9
      obtain ⟨dx, ha, hd⟩ := hE9.ex
      have S09 : Same H0 H9 := (S57.trans S8).trans S9
      refine ⟨_, rfl, e, cl k, dx, fs, rfl, ha, hd, C.xf k hk28, C.tl k hk28, lkT, e, cl k, fs, _, rfl, hE9, C.xf k hk28, C.nk k hk28, lkK, kd_len hk28, ?_⟩
      refine ⟨_, rfl, _, rfl, rdList (S09 _ _ hW0) (j := k) rfl (kd_at hk28) ?_⟩
      refine ⟨_, _, rfl, rfl, ?_, rfl, _, rfl, ?_⟩
      · have q := kd_len hk28
        have e8 : (PySem.Str.ofString "refused ").length = 8 := by decide +kernel
        exact Nat.le_trans (show (PySem.Str.ofString "refused ").length + (kd k).length ≤ 100 by omega) (by decide)
      rw [empty_app]
      refine ite2 (fun q => absurd q (by simp)) (fun _ => ?_)
      refine ⟨_, rfl, e, cl k, dx, fs, _, _, _, rfl, ha, hd, C.ec k hk28, (fun _ z => z), C.kw k hk28, true, rfl, ?_⟩
      refine iteF ?_
      refine ⟨_, rfl, e, cl k, dx, fs, _, _, _, rfl, ha, hd, C.ec k hk28, (fun _ z => z), C.kv k hk28, true, rfl, ?_⟩
      refine iteF ?_
      refine ⟨_, rfl, kl, rfl, ⟨_, SqL.of hkl⟩, fun D hD => ?_⟩
      refine lc_list (K := K) (a := kl) (xs := (bL k).map V.bl) (fun j H' => H' D = some (.lst ((((bL k).take j).map b2i).map V.int)) ∧ Same H9 H')
        ⟨upd_same, Same.upd hD⟩ (fun j H' _ p => SqL.of (p.2 _ _ hkl)) ?_ ?_
      · rintro j x H' hx ⟨hj, sj⟩
        obtain ⟨b, hb, rfl⟩ : ∃ b, (bL k)[j]? = some b ∧ V.bl b = x := by
          rw [List.getElem?_map] at hx
          exact Option.map_eq_some_iff.mp hx
        refine ⟨rfl, ⟨_, rfl, .inr ⟨b, rfl, _, hj, ?_, ?_, ?_⟩⟩⟩
        · rw [List.length_map, List.length_map, List.length_take]
          exact Nat.lt_of_le_of_lt (show min j (bL k).length ≤ 28 from Nat.min_le_right _ _) (by decide)
        · rw [upd_same, List.take_add_one, hb, List.map_append, List.map_append]
          rfl
        · intro q o z
          have nq : q ≠ D := ne_of_none z hD
          rw [upd_ne nq]
          exact sj q o z
      · rintro H10 ⟨hj, s10⟩
        rw [List.length_map, List.take_length] at hj
        refine ⟨D, _, rfl, SqL.of hj, rfl, _, rfl, ?_⟩
        rw [bL_sum hk28]
        refine ite2 (fun q => absurd q (by simp)) (fun _ => ?_)
        refine ⟨_, rfl, _, rfl, rdList (s10 _ _ hkl) (j := k) (v := .bl true) rfl ?_ ?_⟩
        · rw [List.getElem?_map, bL_at hk28]
          rfl
        refine ⟨_, _, rfl, rfl, _, rfl, ?_⟩
        refine ite2 (fun q => absurd q (by simp)) (fun _ => ?_)
        have S810 : Same H8 H10 := S9.trans s10
        have S710 : Same H7 H10 := S8.trans S810
        have KD10 : Kind H10 cl e k za zb zc n (List.replicate m.toNat (.ref tt)) := ⟨fs, hE.same S810, fs_same S810 hk28 hF⟩
        refine ⟨_, rfl, _, rfl, k, e, za, zb, zc, n, _, _, rfl, hk28, KD10, dpAll_same S710 dp7, fun r1 H11 S11 dp11 => ?_⟩
        refine ⟨_, rfl, _, rfl, _, rfl, _, rfl, _, rfl, _, rfl, k, rw, za, zb, zc, n, _, _, rfl, hk28, S11 _ _ (S710 _ _ hrw7), dpAll_same (S710.trans S11) dp7, fun r2 H12 S12 dp12 => ?_⟩
        refine ⟨_, _, dp_same S12 dp11, dp12, sh, sh, _, rfl, ?_⟩
        rw [eqv_self sh]
        refine iteF ?_
        exact ⟨⟨_, _, _, _, _, _, _, _, _, _, _, rfl⟩, (S09.trans s10).trans (S11.trans S12)⟩
    · have h12 := lt_not h
      refine ⟨_, rfl, _, rfl, _, rfl, _, rfl, _, rfl, _, rfl, k, za, zb, zc, n, rw, _, rfl, by omega, hk28, hrw7, fun e H8 S8 KD => ?_⟩
      dsimp only [List.set_cons_succ, List.set_cons_zero]
      obtain ⟨fs, hE, hF⟩ := KD
      obtain ⟨lkK, lkT⟩ := fs_look hk28 hF
      refine ⟨_, rfl, e, k, fs, rfl, hk28, hE, fun kl H9 S9 hkl => ?_⟩
      rw [bL_V] at hkl
      dsimp only [List.set_cons_succ, List.set_cons_zero]
      have hE9 := hE.same S9
      obtain ⟨dx, ha, hd⟩ := hE9.ex
      have S09 : Same H0 H9 := (S57.trans S8).trans S9
      refine ⟨_, rfl, e, cl k, dx, fs, rfl, ha, hd, C.xf k hk28, C.tl k hk28, lkT, e, cl k, fs, _, rfl, hE9, C.xf k hk28, C.nk k hk28, lkK, kd_len hk28, ?_⟩
      refine ⟨_, rfl, _, rfl, rdList (S09 _ _ hW0) (j := k) rfl (kd_at hk28) ?_⟩
      refine ⟨_, _, rfl, rfl, ?_, rfl, _, rfl, ?_⟩
      · have q := kd_len hk28
        have e8 : (PySem.Str.ofString "refused ").length = 8 := by decide +kernel
        exact Nat.le_trans (show (PySem.Str.ofString "refused ").length + (kd k).length ≤ 100 by omega) (by decide)
      rw [empty_app]
      refine ite2 (fun q => absurd q (by simp)) (fun _ => ?_)
      refine ⟨_, rfl, e, cl k, dx, fs, _, _, _, rfl, ha, hd, C.ec k hk28, (fun _ z => z), C.kw k hk28, true, rfl, ?_⟩
      refine iteF ?_
      refine ⟨_, rfl, e, cl k, dx, fs, _, _, _, rfl, ha, hd, C.ec k hk28, (fun _ z => z), C.kv k hk28, true, rfl, ?_⟩
      refine iteF ?_
      refine ⟨_, rfl, kl, rfl, ⟨_, SqL.of hkl⟩, fun D hD => ?_⟩
      refine lc_list (K := K) (a := kl) (xs := (bL k).map V.bl) (fun j H' => H' D = some (.lst ((((bL k).take j).map b2i).map V.int)) ∧ Same H9 H')
        ⟨upd_same, Same.upd hD⟩ (fun j H' _ p => SqL.of (p.2 _ _ hkl)) ?_ ?_
      · rintro j x H' hx ⟨hj, sj⟩
        obtain ⟨b, hb, rfl⟩ : ∃ b, (bL k)[j]? = some b ∧ V.bl b = x := by
          rw [List.getElem?_map] at hx
          exact Option.map_eq_some_iff.mp hx
        refine ⟨rfl, ⟨_, rfl, .inr ⟨b, rfl, _, hj, ?_, ?_, ?_⟩⟩⟩
        · rw [List.length_map, List.length_map, List.length_take]
          exact Nat.lt_of_le_of_lt (show min j (bL k).length ≤ 28 from Nat.min_le_right _ _) (by decide)
        · rw [upd_same, List.take_add_one, hb, List.map_append, List.map_append]
          rfl
        · intro q o z
          have nq : q ≠ D := ne_of_none z hD
          rw [upd_ne nq]
          exact sj q o z
      · rintro H10 ⟨hj, s10⟩
        rw [List.length_map, List.take_length] at hj
        refine ⟨D, _, rfl, SqL.of hj, rfl, _, rfl, ?_⟩
        rw [bL_sum hk28]
        refine ite2 (fun q => absurd q (by simp)) (fun _ => ?_)
        refine ⟨_, rfl, _, rfl, rdList (s10 _ _ hkl) (j := k) (v := .bl true) rfl ?_ ?_⟩
        · rw [List.getElem?_map, bL_at hk28]
          rfl
        refine ⟨_, _, rfl, rfl, _, rfl, ?_⟩
        refine ite2 (fun q => absurd q (by simp)) (fun _ => ?_)
        have S810 : Same H8 H10 := S9.trans s10
        have S710 : Same H7 H10 := S8.trans S810
        have KD10 : Kind H10 cl e k za zb zc n (List.replicate m.toNat (.ref tt)) := ⟨fs, hE.same S810, fs_same S810 hk28 hF⟩
        refine ⟨_, rfl, _, rfl, k, e, za, zb, zc, n, _, _, rfl, hk28, KD10, dpAll_same S710 dp7, fun r1 H11 S11 dp11 => ?_⟩
        refine ⟨_, rfl, _, rfl, _, rfl, _, rfl, _, rfl, _, rfl, k, rw, za, zb, zc, n, _, _, rfl, hk28, S11 _ _ (S710 _ _ hrw7), dpAll_same (S710.trans S11) dp7, fun r2 H12 S12 dp12 => ?_⟩
        refine ⟨_, _, dp_same S12 dp11, dp12, sh, sh, _, rfl, ?_⟩
        rw [eqv_self sh]
        refine iteF ?_
        exact ⟨⟨_, _, _, _, _, _, _, _, _, _, _, rfl⟩, (S09.trans s10).trans (S11.trans S12)⟩
end
end Wm
namespace Wm
open PySem L2
/-- what is asked of an error class in the written part -/
def clsB (K : PySem.W.Frag) (C fI fT : Addr) (fs : List Str) : Bool :=
  decide (PySem.W.findIn K (.ref C) "__setattr__" = some (some (.builtin "object.__setattr__"))) && (decide (PySem.W.subIn K (.ref C) (.type "BaseException") = some true) && (decide (PySem.W.typeIn K (.ref C) = some (.type "type")) && (PySem.W.keepIn K (.ref C) &&
  (decide (PySem.W.typeIn K (.ref fI) = some (.type "function")) && (decide (PySem.W.findIn K (.ref C) "kind" = some none) && (fs.all (fun f => decide (PySem.W.findIn K (.ref C) f = some none)) && (decide (PySem.W.findIn K (.ref C) "__getattribute__" = some (some (.builtin "BaseException.__getattribute__"))) &&
  (decide (PySem.W.findIn K (.ref C) "__getattr__" = some none) && (PySem.W.hasDictIn K C && (decide (PySem.W.findIn K (.ref C) "__class__" = some (some (.builtin "object.__class__"))) && (decide (PySem.W.mroIn K C (.type "object") = some true) && decide (PySem.W.findIn K (.ref C) "told" = some (some (.ref fT))))))))))))))
theorem clsB_ok {K : PySem.W.Frag} {mg : Str → Option Value} {x : Str} {fs : List Str} {C fI fT : Addr} (h : clsB K C fI fT fs = true) (hc : ∃ nm q N bs bm sn sub ab col dd k0 k1 k2 k3 k5, K.lookup C = some (excClassObj nm q C N bs bm true sn sub ab col dd k0 k1 k2 k3 k5 "ValueError.__new__") ∧ PySem.HandSPX.refsVE bm = true)
    (g : mg x = some (.ref C)) (i : PySem.W.findIn K (.ref C) "__init__" = some (some (.ref fI))) (hn : PySem.W.specialIn K (.builtin "object.__class__") "__get__" = some (some (.builtin "getset_descriptor.__get__"))) (ht : PySem.W.takesIn K (.builtin "object.__class__") = some true) : ErG K mg x fs fT C fI := by
  unfold clsB at h
  obtain ⟨h1, h⟩ := Bool.and_eq_true_iff.mp h
  obtain ⟨h2, h⟩ := Bool.and_eq_true_iff.mp h
  obtain ⟨h3, h⟩ := Bool.and_eq_true_iff.mp h
  obtain ⟨h4, h⟩ := Bool.and_eq_true_iff.mp h
  obtain ⟨h5, h⟩ := Bool.and_eq_true_iff.mp h
  obtain ⟨h6, h⟩ := Bool.and_eq_true_iff.mp h
  obtain ⟨h7, h⟩ := Bool.and_eq_true_iff.mp h
  obtain ⟨h8, h⟩ := Bool.and_eq_true_iff.mp h
  obtain ⟨h9, h⟩ := Bool.and_eq_true_iff.mp h
  obtain ⟨h10, h⟩ := Bool.and_eq_true_iff.mp h
  obtain ⟨h11, h⟩ := Bool.and_eq_true_iff.mp h
  obtain ⟨h12, h13⟩ := Bool.and_eq_true_iff.mp h
  exact ⟨⟨hc, of_decide_eq_true h1, of_decide_eq_true h2, of_decide_eq_true h3, h4⟩, g, i, of_decide_eq_true h5, of_decide_eq_true h6, fun f hf => of_decide_eq_true (List.all_eq_true.mp h7 f hf),
    ⟨of_decide_eq_true h8, of_decide_eq_true h9, of_decide_eq_true h2, h10⟩, ⟨of_decide_eq_true h8, of_decide_eq_true h9, of_decide_eq_true h2, h10, of_decide_eq_true h11, hn, ht, of_decide_eq_true h12⟩, of_decide_eq_true h13⟩
theorem range_all {n : Nat} {p : Nat → Bool} (h : (List.range n).all p = true) : ∀ k, k < n → p k = true := fun k hk => List.all_eq_true.mp h k (List.mem_range.mpr hk)
theorem ErG.toE {K : PySem.W.Frag} {mg : Str → Option Value} {x : Str} {fs : List Str} {C fI fT : Addr} (h : ErG K mg x fs fT C fI) : True := trivial
theorem all_mk {l : PySem.W.OpenLaw} {w : World} {K : PySem.W.Frag} {h : Heap} {mg : Str → Option Value} {fa f0 f1 f2 f3 f4 f5 f6 f7 f8 f9 f10 f11 fW fT W TD C0 fe0 C1 fe1 C2 fe2 C3 fe3 C4 fe4 C5 fe5 C6 fe6 C7 fe7 C8 fe8 C9 fe9 C10 fe10 C11 fe11 C12 fe12 C13 fe13 C14 fe14 C15 fe15 C16 fe16 C17 fe17 C18 fe18 C19 fe19 C20 fe20 C21 fe21 C22 fe22 C23 fe23 C24 fe24 C25 fe25 C26 fe26 C27 fe27 : Addr} (X : K.In h) (G : h.Ns mainGlobals mg) (hfa : mg "law" = some (.ref fa))
    {od0 an0 : Option Addr} {sl0 : Array (Option Value)} {oc0 kV0 dc0 pm0 cd0 ct0 : Value} {od1 an1 : Option Addr} {sl1 : Array (Option Value)} {oc1 kV1 dc1 pm1 cd1 ct1 : Value} {od2 an2 : Option Addr} {sl2 : Array (Option Value)} {oc2 kV2 dc2 pm2 cd2 ct2 : Value} {od3 an3 : Option Addr} {sl3 : Array (Option Value)} {oc3 kV3 dc3 pm3 cd3 ct3 : Value} {od4 an4 : Option Addr} {sl4 : Array (Option Value)} {oc4 kV4 dc4 pm4 cd4 ct4 : Value} {od5 an5 : Option Addr} {sl5 : Array (Option Value)} {oc5 kV5 dc5 pm5 cd5 ct5 : Value} {od6 an6 : Option Addr} {sl6 : Array (Option Value)} {oc6 kV6 dc6 pm6 cd6 ct6 : Value} {od7 an7 : Option Addr} {sl7 : Array (Option Value)} {oc7 kV7 dc7 pm7 cd7 ct7 : Value} {od8 an8 : Option Addr} {sl8 : Array (Option Value)} {oc8 kV8 dc8 pm8 cd8 ct8 : Value} {od9 an9 : Option Addr} {sl9 : Array (Option Value)} {oc9 kV9 dc9 pm9 cd9 ct9 : Value} {od10 an10 : Option Addr} {sl10 : Array (Option Value)} {oc10 kV10 dc10 pm10 cd10 ct10 : Value} {od11 an11 : Option Addr} {sl11 : Array (Option Value)} {oc11 kV11 dc11 pm11 cd11 ct11 : Value} {odW anW : Option Addr} {slW : Array (Option Value)} {ocW kVW dcW pmW cdW ctW : Value} {ocD : Value} {odD : Option Addr} {tD : Tok} {nD : Nat} {slD : Array (Option Value)} {odT anT : Option Addr} {slT : Array (Option Value)} {ocT kVT dcT pmT cdT ctT : Value} {ode0 ane0 : Option Addr} {sle0 : Array (Option Value)} {oce0 kVe0 dce0 pme0 cde0 cte0 : Value} {nmC0 qC0 : Str} {NC0 : Addr} {bsC0 : List Value} {snC0 : List Str} {subC0 : List Value} {abC0 : Bool} {colC0 : Option Bool} {ddC0 : Option Addr} {m0C0 m1C0 m2C0 m3C0 m5C0 : Option Value} {ode1 ane1 : Option Addr} {sle1 : Array (Option Value)} {oce1 kVe1 dce1 pme1 cde1 cte1 : Value} {nmC1 qC1 : Str} {NC1 : Addr} {bsC1 : List Value} {snC1 : List Str} {subC1 : List Value} {abC1 : Bool} {colC1 : Option Bool} {ddC1 : Option Addr} {m0C1 m1C1 m2C1 m3C1 m5C1 : Option Value} {ode2 ane2 : Option Addr} {sle2 : Array (Option Value)} {oce2 kVe2 dce2 pme2 cde2 cte2 : Value} {nmC2 qC2 : Str} {NC2 : Addr} {bsC2 : List Value} {snC2 : List Str} {subC2 : List Value} {abC2 : Bool} {colC2 : Option Bool} {ddC2 : Option Addr} {m0C2 m1C2 m2C2 m3C2 m5C2 : Option Value} {ode3 ane3 : Option Addr} {sle3 : Array (Option Value)} {oce3 kVe3 dce3 pme3 cde3 cte3 : Value} {nmC3 qC3 : Str} {NC3 : Addr} {bsC3 : List Value} {snC3 : List Str} {subC3 : List Value} {abC3 : Bool} {colC3 : Option Bool} {ddC3 : Option Addr} {m0C3 m1C3 m2C3 m3C3 m5C3 : Option Value} {ode4 ane4 : Option Addr} {sle4 : Array (Option Value)} {oce4 kVe4 dce4 pme4 cde4 cte4 : Value} {nmC4 qC4 : Str} {NC4 : Addr} {bsC4 : List Value} {snC4 : List Str} {subC4 : List Value} {abC4 : Bool} {colC4 : Option Bool} {ddC4 : Option Addr} {m0C4 m1C4 m2C4 m3C4 m5C4 : Option Value} {ode5 ane5 : Option Addr} {sle5 : Array (Option Value)} {oce5 kVe5 dce5 pme5 cde5 cte5 : Value} {nmC5 qC5 : Str} {NC5 : Addr} {bsC5 : List Value} {snC5 : List Str} {subC5 : List Value} {abC5 : Bool} {colC5 : Option Bool} {ddC5 : Option Addr} {m0C5 m1C5 m2C5 m3C5 m5C5 : Option Value} {ode6 ane6 : Option Addr} {sle6 : Array (Option Value)} {oce6 kVe6 dce6 pme6 cde6 cte6 : Value} {nmC6 qC6 : Str} {NC6 : Addr} {bsC6 : List Value} {snC6 : List Str} {subC6 : List Value} {abC6 : Bool} {colC6 : Option Bool} {ddC6 : Option Addr} {m0C6 m1C6 m2C6 m3C6 m5C6 : Option Value} {ode7 ane7 : Option Addr} {sle7 : Array (Option Value)} {oce7 kVe7 dce7 pme7 cde7 cte7 : Value} {nmC7 qC7 : Str} {NC7 : Addr} {bsC7 : List Value} {snC7 : List Str} {subC7 : List Value} {abC7 : Bool} {colC7 : Option Bool} {ddC7 : Option Addr} {m0C7 m1C7 m2C7 m3C7 m5C7 : Option Value} {ode8 ane8 : Option Addr} {sle8 : Array (Option Value)} {oce8 kVe8 dce8 pme8 cde8 cte8 : Value} {nmC8 qC8 : Str} {NC8 : Addr} {bsC8 : List Value} {snC8 : List Str} {subC8 : List Value} {abC8 : Bool} {colC8 : Option Bool} {ddC8 : Option Addr} {m0C8 m1C8 m2C8 m3C8 m5C8 : Option Value} {ode9 ane9 : Option Addr} {sle9 : Array (Option Value)} {oce9 kVe9 dce9 pme9 cde9 cte9 : Value} {nmC9 qC9 : Str} {NC9 : Addr} {bsC9 : List Value} {snC9 : List Str} {subC9 : List Value} {abC9 : Bool} {colC9 : Option Bool} {ddC9 : Option Addr} {m0C9 m1C9 m2C9 m3C9 m5C9 : Option Value} {ode10 ane10 : Option Addr} {sle10 : Array (Option Value)} {oce10 kVe10 dce10 pme10 cde10 cte10 : Value} {nmC10 qC10 : Str} {NC10 : Addr} {bsC10 : List Value} {snC10 : List Str} {subC10 : List Value} {abC10 : Bool} {colC10 : Option Bool} {ddC10 : Option Addr} {m0C10 m1C10 m2C10 m3C10 m5C10 : Option Value} {ode11 ane11 : Option Addr} {sle11 : Array (Option Value)} {oce11 kVe11 dce11 pme11 cde11 cte11 : Value} {nmC11 qC11 : Str} {NC11 : Addr} {bsC11 : List Value} {snC11 : List Str} {subC11 : List Value} {abC11 : Bool} {colC11 : Option Bool} {ddC11 : Option Addr} {m0C11 m1C11 m2C11 m3C11 m5C11 : Option Value} {ode12 ane12 : Option Addr} {sle12 : Array (Option Value)} {oce12 kVe12 dce12 pme12 cde12 cte12 : Value} {nmC12 qC12 : Str} {NC12 : Addr} {bsC12 : List Value} {snC12 : List Str} {subC12 : List Value} {abC12 : Bool} {colC12 : Option Bool} {ddC12 : Option Addr} {m0C12 m1C12 m2C12 m3C12 m5C12 : Option Value} {ode13 ane13 : Option Addr} {sle13 : Array (Option Value)} {oce13 kVe13 dce13 pme13 cde13 cte13 : Value} {nmC13 qC13 : Str} {NC13 : Addr} {bsC13 : List Value} {snC13 : List Str} {subC13 : List Value} {abC13 : Bool} {colC13 : Option Bool} {ddC13 : Option Addr} {m0C13 m1C13 m2C13 m3C13 m5C13 : Option Value} {ode14 ane14 : Option Addr} {sle14 : Array (Option Value)} {oce14 kVe14 dce14 pme14 cde14 cte14 : Value} {nmC14 qC14 : Str} {NC14 : Addr} {bsC14 : List Value} {snC14 : List Str} {subC14 : List Value} {abC14 : Bool} {colC14 : Option Bool} {ddC14 : Option Addr} {m0C14 m1C14 m2C14 m3C14 m5C14 : Option Value} {ode15 ane15 : Option Addr} {sle15 : Array (Option Value)} {oce15 kVe15 dce15 pme15 cde15 cte15 : Value} {nmC15 qC15 : Str} {NC15 : Addr} {bsC15 : List Value} {snC15 : List Str} {subC15 : List Value} {abC15 : Bool} {colC15 : Option Bool} {ddC15 : Option Addr} {m0C15 m1C15 m2C15 m3C15 m5C15 : Option Value} {ode16 ane16 : Option Addr} {sle16 : Array (Option Value)} {oce16 kVe16 dce16 pme16 cde16 cte16 : Value} {nmC16 qC16 : Str} {NC16 : Addr} {bsC16 : List Value} {snC16 : List Str} {subC16 : List Value} {abC16 : Bool} {colC16 : Option Bool} {ddC16 : Option Addr} {m0C16 m1C16 m2C16 m3C16 m5C16 : Option Value} {ode17 ane17 : Option Addr} {sle17 : Array (Option Value)} {oce17 kVe17 dce17 pme17 cde17 cte17 : Value} {nmC17 qC17 : Str} {NC17 : Addr} {bsC17 : List Value} {snC17 : List Str} {subC17 : List Value} {abC17 : Bool} {colC17 : Option Bool} {ddC17 : Option Addr} {m0C17 m1C17 m2C17 m3C17 m5C17 : Option Value} {ode18 ane18 : Option Addr} {sle18 : Array (Option Value)} {oce18 kVe18 dce18 pme18 cde18 cte18 : Value} {nmC18 qC18 : Str} {NC18 : Addr} {bsC18 : List Value} {snC18 : List Str} {subC18 : List Value} {abC18 : Bool} {colC18 : Option Bool} {ddC18 : Option Addr} {m0C18 m1C18 m2C18 m3C18 m5C18 : Option Value} {ode19 ane19 : Option Addr} {sle19 : Array (Option Value)} {oce19 kVe19 dce19 pme19 cde19 cte19 : Value} {nmC19 qC19 : Str} {NC19 : Addr} {bsC19 : List Value} {snC19 : List Str} {subC19 : List Value} {abC19 : Bool} {colC19 : Option Bool} {ddC19 : Option Addr} {m0C19 m1C19 m2C19 m3C19 m5C19 : Option Value} {ode20 ane20 : Option Addr} {sle20 : Array (Option Value)} {oce20 kVe20 dce20 pme20 cde20 cte20 : Value} {nmC20 qC20 : Str} {NC20 : Addr} {bsC20 : List Value} {snC20 : List Str} {subC20 : List Value} {abC20 : Bool} {colC20 : Option Bool} {ddC20 : Option Addr} {m0C20 m1C20 m2C20 m3C20 m5C20 : Option Value} {ode21 ane21 : Option Addr} {sle21 : Array (Option Value)} {oce21 kVe21 dce21 pme21 cde21 cte21 : Value} {nmC21 qC21 : Str} {NC21 : Addr} {bsC21 : List Value} {snC21 : List Str} {subC21 : List Value} {abC21 : Bool} {colC21 : Option Bool} {ddC21 : Option Addr} {m0C21 m1C21 m2C21 m3C21 m5C21 : Option Value} {ode22 ane22 : Option Addr} {sle22 : Array (Option Value)} {oce22 kVe22 dce22 pme22 cde22 cte22 : Value} {nmC22 qC22 : Str} {NC22 : Addr} {bsC22 : List Value} {snC22 : List Str} {subC22 : List Value} {abC22 : Bool} {colC22 : Option Bool} {ddC22 : Option Addr} {m0C22 m1C22 m2C22 m3C22 m5C22 : Option Value} {ode23 ane23 : Option Addr} {sle23 : Array (Option Value)} {oce23 kVe23 dce23 pme23 cde23 cte23 : Value} {nmC23 qC23 : Str} {NC23 : Addr} {bsC23 : List Value} {snC23 : List Str} {subC23 : List Value} {abC23 : Bool} {colC23 : Option Bool} {ddC23 : Option Addr} {m0C23 m1C23 m2C23 m3C23 m5C23 : Option Value} {ode24 ane24 : Option Addr} {sle24 : Array (Option Value)} {oce24 kVe24 dce24 pme24 cde24 cte24 : Value} {nmC24 qC24 : Str} {NC24 : Addr} {bsC24 : List Value} {snC24 : List Str} {subC24 : List Value} {abC24 : Bool} {colC24 : Option Bool} {ddC24 : Option Addr} {m0C24 m1C24 m2C24 m3C24 m5C24 : Option Value} {ode25 ane25 : Option Addr} {sle25 : Array (Option Value)} {oce25 kVe25 dce25 pme25 cde25 cte25 : Value} {nmC25 qC25 : Str} {NC25 : Addr} {bsC25 : List Value} {snC25 : List Str} {subC25 : List Value} {abC25 : Bool} {colC25 : Option Bool} {ddC25 : Option Addr} {m0C25 m1C25 m2C25 m3C25 m5C25 : Option Value} {ode26 ane26 : Option Addr} {sle26 : Array (Option Value)} {oce26 kVe26 dce26 pme26 cde26 cte26 : Value} {nmC26 qC26 : Str} {NC26 : Addr} {bsC26 : List Value} {snC26 : List Str} {subC26 : List Value} {abC26 : Bool} {colC26 : Option Bool} {ddC26 : Option Addr} {m0C26 m1C26 m2C26 m3C26 m5C26 : Option Value} {ode27 ane27 : Option Addr} {sle27 : Array (Option Value)} {oce27 kVe27 dce27 pme27 cde27 cte27 : Value} {nmC27 qC27 : Str} {NC27 : Addr} {bsC27 : List Value} {snC27 : List Str} {subC27 : List Value} {abC27 : Bool} {colC27 : Option Bool} {ddC27 : Option Addr} {m0C27 m1C27 m2C27 m3C27 m5C27 : Option Value}
    (a0 : PySem.W.nsIn K mainGlobals "_law_cell_at" = some (some (.ref f0)))
    (l0 : K.lookup f0 = some ⟨oc0, od0, .func (PySem.W.fnOf "_law_cell_at" "_law_cell_at" (defArgs sCel) (defBody sCel) (defScope sCel) .none kV0 dc0 pm0 an0 cd0 ct0), sl0⟩)
    (c0 : PySem.W.codeIn K cd0 "_law_cell_at" = true)
    (k0 : PySem.W.keepIn K (.ref f0) = true)
    (a1 : PySem.W.nsIn K mainGlobals "_law_state" = some (some (.ref f1)))
    (l1 : K.lookup f1 = some ⟨oc1, od1, .func (PySem.W.fnOf "_law_state" "_law_state" (defArgs sState) (defBody sState) (defScope sState) .none kV1 dc1 pm1 an1 cd1 ct1), sl1⟩)
    (c1 : PySem.W.codeIn K cd1 "_law_state" = true)
    (k1 : PySem.W.keepIn K (.ref f1) = true)
    (a2 : PySem.W.nsIn K mainGlobals "_law_digit" = some (some (.ref f2)))
    (l2 : K.lookup f2 = some ⟨oc2, od2, .func (PySem.W.fnOf "_law_digit" "_law_digit" (defArgs sDigit) (defBody sDigit) (defScope sDigit) .none kV2 dc2 pm2 an2 cd2 ct2), sl2⟩)
    (c2 : PySem.W.codeIn K cd2 "_law_digit" = true)
    (k2 : PySem.W.keepIn K (.ref f2) = true)
    (a3 : PySem.W.nsIn K mainGlobals "_law_name" = some (some (.ref f3)))
    (l3 : K.lookup f3 = some ⟨oc3, od3, .func (PySem.W.fnOf "_law_name" "_law_name" (defArgs sNam) (defBody sNam) (defScope sNam) .none kV3 dc3 pm3 an3 cd3 ct3), sl3⟩)
    (c3 : PySem.W.codeIn K cd3 "_law_name" = true)
    (k3 : PySem.W.keepIn K (.ref f3) = true)
    (a4 : PySem.W.nsIn K mainGlobals "_law_names" = some (some (.ref f4)))
    (l4 : K.lookup f4 = some ⟨oc4, od4, .func (PySem.W.fnOf "_law_names" "_law_names" (defArgs sNms) (defBody sNms) (defScope sNms) .none kV4 dc4 pm4 an4 cd4 ct4), sl4⟩)
    (c4 : PySem.W.codeIn K cd4 "_law_names" = true)
    (k4 : PySem.W.keepIn K (.ref f4) = true)
    (a5 : PySem.W.nsIn K mainGlobals "_law_one" = some (some (.ref f5)))
    (l5 : K.lookup f5 = some ⟨oc5, od5, .func (PySem.W.fnOf "_law_one" "_law_one" (defArgs sOne) (defBody sOne) (defScope sOne) .none kV5 dc5 pm5 an5 cd5 ct5), sl5⟩)
    (c5 : PySem.W.codeIn K cd5 "_law_one" = true)
    (k5 : PySem.W.keepIn K (.ref f5) = true)
    (a6 : PySem.W.nsIn K mainGlobals "_law_other" = some (some (.ref f6)))
    (l6 : K.lookup f6 = some ⟨oc6, od6, .func (PySem.W.fnOf "_law_other" "_law_other" (defArgs sOth) (defBody sOth) (defScope sOth) .none kV6 dc6 pm6 an6 cd6 ct6), sl6⟩)
    (c6 : PySem.W.codeIn K cd6 "_law_other" = true)
    (k6 : PySem.W.keepIn K (.ref f6) = true)
    (a7 : PySem.W.nsIn K mainGlobals "_law_kinds" = some (some (.ref f7)))
    (l7 : K.lookup f7 = some ⟨oc7, od7, .func (PySem.W.fnOf "_law_kinds" "_law_kinds" (defArgs sKnd) (defBody sKnd) (defScope sKnd) .none kV7 dc7 pm7 an7 cd7 ct7), sl7⟩)
    (c7 : PySem.W.codeIn K cd7 "_law_kinds" = true)
    (k7 : PySem.W.keepIn K (.ref f7) = true)
    (a8 : PySem.W.nsIn K mainGlobals "_law_fields" = some (some (.ref f8)))
    (l8 : K.lookup f8 = some ⟨oc8, od8, .func (PySem.W.fnOf "_law_fields" "_law_fields" (defArgs sFld) (defBody sFld) (defScope sFld) .none kV8 dc8 pm8 an8 cd8 ct8), sl8⟩)
    (c8 : PySem.W.codeIn K cd8 "_law_fields" = true)
    (k8 : PySem.W.keepIn K (.ref f8) = true)
    (a9 : PySem.W.nsIn K mainGlobals "_law_text" = some (some (.ref f9)))
    (l9 : K.lookup f9 = some ⟨oc9, od9, .func (PySem.W.fnOf "_law_text" "_law_text" (defArgs sTxt) (defBody sTxt) (defScope sTxt) .none kV9 dc9 pm9 an9 cd9 ct9), sl9⟩)
    (c9 : PySem.W.codeIn K cd9 "_law_text" = true)
    (k9 : PySem.W.keepIn K (.ref f9) = true)
    (a10 : PySem.W.nsIn K mainGlobals "_law_due" = some (some (.ref f10)))
    (l10 : K.lookup f10 = some ⟨oc10, od10, .func (PySem.W.fnOf "_law_due" "_law_due" (defArgs sDue) (defBody sDue) (defScope sDue) .none kV10 dc10 pm10 an10 cd10 ct10), sl10⟩)
    (c10 : PySem.W.codeIn K cd10 "_law_due" = true)
    (k10 : PySem.W.keepIn K (.ref f10) = true)
    (a11 : PySem.W.nsIn K mainGlobals "law" = some (some (.ref f11)))
    (l11 : K.lookup f11 = some ⟨oc11, od11, .func (PySem.W.fnOf "law" "law" (defArgs sLaw) (defBody sLaw) (defScope sLaw) .none kV11 dc11 pm11 an11 cd11 ct11), sl11⟩)
    (c11 : PySem.W.codeIn K cd11 "law" = true)
    (k11 : PySem.W.keepIn K (.ref f11) = true)
    (gW : PySem.W.nsIn K mainGlobals "WhoError" = some (some (.ref W)))
    (mW : PySem.W.findCls K (.ref W) (.type "type") "__init__" = some (.val (.ref fW)))
    (lW : K.lookup fW = some ⟨ocW, odW, .func (PySem.W.fnOf "__init__" "WhoError.__init__" (defArgs sW0) (defBody sW0) (defScope sW0) (.ref TD) kVW dcW pmW anW cdW ctW), slW⟩)
    (cW : PySem.W.codeIn K cdW "WhoError.__init__" = true)
    (kW : PySem.W.keepIn K (.ref fW) = true)
    (dW : K.lookup TD = some ⟨ocD, odD, .seq #[.str (PySem.Str.ofString "whoerror") tD] nD, slD⟩)
    (rW : PySem.W.readsIn K W (.type "type") = true)
    (sW : PySem.W.specialIn K (.ref W) "__getattribute__" = some (some (.builtin "type.__getattribute__")))
    (tW : PySem.W.findIn K (.ref W) "told" = some (some (.ref fT)))
    (lT : K.lookup fT = some ⟨ocT, odT, .func (PySem.W.fnOf "told" "WhoError.told" (defArgs sWT) (defBody sWT) (defScope sWT) .none kVT dcT pmT anT cdT ctT), slT⟩)
    (cT : PySem.W.codeIn K cdT "WhoError.told" = true)
    (kT : PySem.W.keepIn K (.ref fT) = true)
    (fnT : PySem.W.isFn K (.ref fT) = true)
    (hn : PySem.W.specialIn K (.builtin "object.__class__") "__get__" = some (some (.builtin "getset_descriptor.__get__")))
    (ht : PySem.W.takesIn K (.builtin "object.__class__") = some true)
    (gC0 : PySem.W.nsIn K mainGlobals "NoName" = some (some (.ref C0)))
    (iC0 : PySem.W.findIn K (.ref C0) "__init__" = some (some (.ref fe0)))
    (le0 : K.lookup fe0 = some ⟨oce0, ode0, .func (PySem.W.fnOf "__init__" "NoName.__init__" (defArgs (inClass (top 2) 0)) (defBody (inClass (top 2) 0)) (defScope (inClass (top 2) 0)) .none kVe0 dce0 pme0 ane0 cde0 cte0), sle0⟩)
    (ce0 : PySem.W.codeIn K cde0 "NoName.__init__" = true)
    (ke0 : PySem.W.keepIn K (.ref fe0) = true)
    (xC0 : K.lookup C0 = some (excClassObj nmC0 qC0 C0 NC0 bsC0 (.ref W :: [.type "ValueError", .type "Exception", .type "BaseException", .type "object"]) true snC0 subC0 abC0 colC0 ddC0 m0C0 m1C0 m2C0 m3C0 m5C0 "ValueError.__new__"))
    (bC0 : clsB K C0 fe0 fT ["name"] = true)
    (gC1 : PySem.W.nsIn K mainGlobals "Twice" = some (some (.ref C1)))
    (iC1 : PySem.W.findIn K (.ref C1) "__init__" = some (some (.ref fe1)))
    (le1 : K.lookup fe1 = some ⟨oce1, ode1, .func (PySem.W.fnOf "__init__" "Twice.__init__" (defArgs (inClass (top 4) 0)) (defBody (inClass (top 4) 0)) (defScope (inClass (top 4) 0)) .none kVe1 dce1 pme1 ane1 cde1 cte1), sle1⟩)
    (ce1 : PySem.W.codeIn K cde1 "Twice.__init__" = true)
    (ke1 : PySem.W.keepIn K (.ref fe1) = true)
    (xC1 : K.lookup C1 = some (excClassObj nmC1 qC1 C1 NC1 bsC1 (.ref W :: [.type "ValueError", .type "Exception", .type "BaseException", .type "object"]) true snC1 subC1 abC1 colC1 ddC1 m0C1 m1C1 m2C1 m3C1 m5C1 "ValueError.__new__"))
    (bC1 : clsB K C1 fe1 fT ["name"] = true)
    (gC2 : PySem.W.nsIn K mainGlobals "NoVariable" = some (some (.ref C2)))
    (iC2 : PySem.W.findIn K (.ref C2) "__init__" = some (some (.ref fe2)))
    (le2 : K.lookup fe2 = some ⟨oce2, ode2, .func (PySem.W.fnOf "__init__" "NoVariable.__init__" (defArgs (inClass (top 5) 0)) (defBody (inClass (top 5) 0)) (defScope (inClass (top 5) 0)) .none kVe2 dce2 pme2 ane2 cde2 cte2), sle2⟩)
    (ce2 : PySem.W.codeIn K cde2 "NoVariable.__init__" = true)
    (ke2 : PySem.W.keepIn K (.ref fe2) = true)
    (xC2 : K.lookup C2 = some (excClassObj nmC2 qC2 C2 NC2 bsC2 (.ref W :: [.type "ValueError", .type "Exception", .type "BaseException", .type "object"]) true snC2 subC2 abC2 colC2 ddC2 m0C2 m1C2 m2C2 m3C2 m5C2 "ValueError.__new__"))
    (bC2 : clsB K C2 fe2 fT ["name"] = true)
    (gC3 : PySem.W.nsIn K mainGlobals "Loose" = some (some (.ref C3)))
    (iC3 : PySem.W.findIn K (.ref C3) "__init__" = some (some (.ref fe3)))
    (le3 : K.lookup fe3 = some ⟨oce3, ode3, .func (PySem.W.fnOf "__init__" "Loose.__init__" (defArgs (inClass (top 6) 0)) (defBody (inClass (top 6) 0)) (defScope (inClass (top 6) 0)) .none kVe3 dce3 pme3 ane3 cde3 cte3), sle3⟩)
    (ce3 : PySem.W.codeIn K cde3 "Loose.__init__" = true)
    (ke3 : PySem.W.keepIn K (.ref fe3) = true)
    (xC3 : K.lookup C3 = some (excClassObj nmC3 qC3 C3 NC3 bsC3 (.ref W :: [.type "ValueError", .type "Exception", .type "BaseException", .type "object"]) true snC3 subC3 abC3 colC3 ddC3 m0C3 m1C3 m2C3 m3C3 m5C3 "ValueError.__new__"))
    (bC3 : clsB K C3 fe3 fT ["name"] = true)
    (gC4 : PySem.W.nsIn K mainGlobals "NoSort" = some (some (.ref C4)))
    (iC4 : PySem.W.findIn K (.ref C4) "__init__" = some (some (.ref fe4)))
    (le4 : K.lookup fe4 = some ⟨oce4, ode4, .func (PySem.W.fnOf "__init__" "NoSort.__init__" (defArgs (inClass (top 8) 0)) (defBody (inClass (top 8) 0)) (defScope (inClass (top 8) 0)) .none kVe4 dce4 pme4 ane4 cde4 cte4), sle4⟩)
    (ce4 : PySem.W.codeIn K cde4 "NoSort.__init__" = true)
    (ke4 : PySem.W.keepIn K (.ref fe4) = true)
    (xC4 : K.lookup C4 = some (excClassObj nmC4 qC4 C4 NC4 bsC4 (.ref W :: [.type "ValueError", .type "Exception", .type "BaseException", .type "object"]) true snC4 subC4 abC4 colC4 ddC4 m0C4 m1C4 m2C4 m3C4 m5C4 "ValueError.__new__"))
    (bC4 : clsB K C4 fe4 fT ["name"] = true)
    (gC5 : PySem.W.nsIn K mainGlobals "NoWord" = some (some (.ref C5)))
    (iC5 : PySem.W.findIn K (.ref C5) "__init__" = some (some (.ref fe5)))
    (le5 : K.lookup fe5 = some ⟨oce5, ode5, .func (PySem.W.fnOf "__init__" "NoWord.__init__" (defArgs (inClass (top 10) 0)) (defBody (inClass (top 10) 0)) (defScope (inClass (top 10) 0)) .none kVe5 dce5 pme5 ane5 cde5 cte5), sle5⟩)
    (ce5 : PySem.W.codeIn K cde5 "NoWord.__init__" = true)
    (ke5 : PySem.W.keepIn K (.ref fe5) = true)
    (xC5 : K.lookup C5 = some (excClassObj nmC5 qC5 C5 NC5 bsC5 (.ref W :: [.type "ValueError", .type "Exception", .type "BaseException", .type "object"]) true snC5 subC5 abC5 colC5 ddC5 m0C5 m1C5 m2C5 m3C5 m5C5 "ValueError.__new__"))
    (bC5 : clsB K C5 fe5 fT ["name"] = true)
    (gC6 : PySem.W.nsIn K mainGlobals "NoRule" = some (some (.ref C6)))
    (iC6 : PySem.W.findIn K (.ref C6) "__init__" = some (some (.ref fe6)))
    (le6 : K.lookup fe6 = some ⟨oce6, ode6, .func (PySem.W.fnOf "__init__" "NoRule.__init__" (defArgs (inClass (top 11) 0)) (defBody (inClass (top 11) 0)) (defScope (inClass (top 11) 0)) .none kVe6 dce6 pme6 ane6 cde6 cte6), sle6⟩)
    (ce6 : PySem.W.codeIn K cde6 "NoRule.__init__" = true)
    (ke6 : PySem.W.keepIn K (.ref fe6) = true)
    (xC6 : K.lookup C6 = some (excClassObj nmC6 qC6 C6 NC6 bsC6 (.ref W :: [.type "ValueError", .type "Exception", .type "BaseException", .type "object"]) true snC6 subC6 abC6 colC6 ddC6 m0C6 m1C6 m2C6 m3C6 m5C6 "ValueError.__new__"))
    (bC6 : clsB K C6 fe6 fT ["name"] = true)
    (gC7 : PySem.W.nsIn K mainGlobals "NoBar" = some (some (.ref C7)))
    (iC7 : PySem.W.findIn K (.ref C7) "__init__" = some (some (.ref fe7)))
    (le7 : K.lookup fe7 = some ⟨oce7, ode7, .func (PySem.W.fnOf "__init__" "NoBar.__init__" (defArgs (inClass (top 12) 0)) (defBody (inClass (top 12) 0)) (defScope (inClass (top 12) 0)) .none kVe7 dce7 pme7 ane7 cde7 cte7), sle7⟩)
    (ce7 : PySem.W.codeIn K cde7 "NoBar.__init__" = true)
    (ke7 : PySem.W.keepIn K (.ref fe7) = true)
    (xC7 : K.lookup C7 = some (excClassObj nmC7 qC7 C7 NC7 bsC7 (.ref W :: [.type "ValueError", .type "Exception", .type "BaseException", .type "object"]) true snC7 subC7 abC7 colC7 ddC7 m0C7 m1C7 m2C7 m3C7 m5C7 "ValueError.__new__"))
    (bC7 : clsB K C7 fe7 fT ["name"] = true)
    (gC8 : PySem.W.nsIn K mainGlobals "NoThing" = some (some (.ref C8)))
    (iC8 : PySem.W.findIn K (.ref C8) "__init__" = some (some (.ref fe8)))
    (le8 : K.lookup fe8 = some ⟨oce8, ode8, .func (PySem.W.fnOf "__init__" "NoThing.__init__" (defArgs (inClass (top 14) 0)) (defBody (inClass (top 14) 0)) (defScope (inClass (top 14) 0)) .none kVe8 dce8 pme8 ane8 cde8 cte8), sle8⟩)
    (ce8 : PySem.W.codeIn K cde8 "NoThing.__init__" = true)
    (ke8 : PySem.W.keepIn K (.ref fe8) = true)
    (xC8 : K.lookup C8 = some (excClassObj nmC8 qC8 C8 NC8 bsC8 (.ref W :: [.type "ValueError", .type "Exception", .type "BaseException", .type "object"]) true snC8 subC8 abC8 colC8 ddC8 m0C8 m1C8 m2C8 m3C8 m5C8 "ValueError.__new__"))
    (bC8 : clsB K C8 fe8 fT ["name"] = true)
    (gC9 : PySem.W.nsIn K mainGlobals "Taken" = some (some (.ref C9)))
    (iC9 : PySem.W.findIn K (.ref C9) "__init__" = some (some (.ref fe9)))
    (le9 : K.lookup fe9 = some ⟨oce9, ode9, .func (PySem.W.fnOf "__init__" "Taken.__init__" (defArgs (inClass (top 15) 0)) (defBody (inClass (top 15) 0)) (defScope (inClass (top 15) 0)) .none kVe9 dce9 pme9 ane9 cde9 cte9), sle9⟩)
    (ce9 : PySem.W.codeIn K cde9 "Taken.__init__" = true)
    (ke9 : PySem.W.keepIn K (.ref fe9) = true)
    (xC9 : K.lookup C9 = some (excClassObj nmC9 qC9 C9 NC9 bsC9 (.ref W :: [.type "ValueError", .type "Exception", .type "BaseException", .type "object"]) true snC9 subC9 abC9 colC9 ddC9 m0C9 m1C9 m2C9 m3C9 m5C9 "ValueError.__new__"))
    (bC9 : clsB K C9 fe9 fT ["name"] = true)
    (gC10 : PySem.W.nsIn K mainGlobals "Asleep" = some (some (.ref C10)))
    (iC10 : PySem.W.findIn K (.ref C10) "__init__" = some (some (.ref fe10)))
    (le10 : K.lookup fe10 = some ⟨oce10, ode10, .func (PySem.W.fnOf "__init__" "Asleep.__init__" (defArgs (inClass (top 17) 0)) (defBody (inClass (top 17) 0)) (defScope (inClass (top 17) 0)) .none kVe10 dce10 pme10 ane10 cde10 cte10), sle10⟩)
    (ce10 : PySem.W.codeIn K cde10 "Asleep.__init__" = true)
    (ke10 : PySem.W.keepIn K (.ref fe10) = true)
    (xC10 : K.lookup C10 = some (excClassObj nmC10 qC10 C10 NC10 bsC10 (.ref W :: [.type "ValueError", .type "Exception", .type "BaseException", .type "object"]) true snC10 subC10 abC10 colC10 ddC10 m0C10 m1C10 m2C10 m3C10 m5C10 "ValueError.__new__"))
    (bC10 : clsB K C10 fe10 fT ["name"] = true)
    (gC11 : PySem.W.nsIn K mainGlobals "Misfit" = some (some (.ref C11)))
    (iC11 : PySem.W.findIn K (.ref C11) "__init__" = some (some (.ref fe11)))
    (le11 : K.lookup fe11 = some ⟨oce11, ode11, .func (PySem.W.fnOf "__init__" "Misfit.__init__" (defArgs (inClass (top 20) 0)) (defBody (inClass (top 20) 0)) (defScope (inClass (top 20) 0)) .none kVe11 dce11 pme11 ane11 cde11 cte11), sle11⟩)
    (ce11 : PySem.W.codeIn K cde11 "Misfit.__init__" = true)
    (ke11 : PySem.W.keepIn K (.ref fe11) = true)
    (xC11 : K.lookup C11 = some (excClassObj nmC11 qC11 C11 NC11 bsC11 (.ref W :: [.type "ValueError", .type "Exception", .type "BaseException", .type "object"]) true snC11 subC11 abC11 colC11 ddC11 m0C11 m1C11 m2C11 m3C11 m5C11 "ValueError.__new__"))
    (bC11 : clsB K C11 fe11 fT ["name"] = true)
    (gC12 : PySem.W.nsIn K mainGlobals "Apart" = some (some (.ref C12)))
    (iC12 : PySem.W.findIn K (.ref C12) "__init__" = some (some (.ref fe12)))
    (le12 : K.lookup fe12 = some ⟨oce12, ode12, .func (PySem.W.fnOf "__init__" "Apart.__init__" (defArgs (inClass (top 7) 0)) (defBody (inClass (top 7) 0)) (defScope (inClass (top 7) 0)) .none kVe12 dce12 pme12 ane12 cde12 cte12), sle12⟩)
    (ce12 : PySem.W.codeIn K cde12 "Apart.__init__" = true)
    (ke12 : PySem.W.keepIn K (.ref fe12) = true)
    (xC12 : K.lookup C12 = some (excClassObj nmC12 qC12 C12 NC12 bsC12 (.ref W :: [.type "ValueError", .type "Exception", .type "BaseException", .type "object"]) true snC12 subC12 abC12 colC12 ddC12 m0C12 m1C12 m2C12 m3C12 m5C12 "ValueError.__new__"))
    (bC12 : clsB K C12 fe12 fT ["place"] = true)
    (gC13 : PySem.W.nsIn K mainGlobals "Crowded" = some (some (.ref C13)))
    (iC13 : PySem.W.findIn K (.ref C13) "__init__" = some (some (.ref fe13)))
    (le13 : K.lookup fe13 = some ⟨oce13, ode13, .func (PySem.W.fnOf "__init__" "Crowded.__init__" (defArgs (inClass (top 22) 0)) (defBody (inClass (top 22) 0)) (defScope (inClass (top 22) 0)) .none kVe13 dce13 pme13 ane13 cde13 cte13), sle13⟩)
    (ce13 : PySem.W.codeIn K cde13 "Crowded.__init__" = true)
    (ke13 : PySem.W.keepIn K (.ref fe13) = true)
    (xC13 : K.lookup C13 = some (excClassObj nmC13 qC13 C13 NC13 bsC13 (.ref W :: [.type "ValueError", .type "Exception", .type "BaseException", .type "object"]) true snC13 subC13 abC13 colC13 ddC13 m0C13 m1C13 m2C13 m3C13 m5C13 "ValueError.__new__"))
    (bC13 : clsB K C13 fe13 fT ["count"] = true)
    (gC14 : PySem.W.nsIn K mainGlobals "BadRow" = some (some (.ref C14)))
    (iC14 : PySem.W.findIn K (.ref C14) "__init__" = some (some (.ref fe14)))
    (le14 : K.lookup fe14 = some ⟨oce14, ode14, .func (PySem.W.fnOf "__init__" "BadRow.__init__" (defArgs (inClass (top 29) 0)) (defBody (inClass (top 29) 0)) (defScope (inClass (top 29) 0)) .none kVe14 dce14 pme14 ane14 cde14 cte14), sle14⟩)
    (ce14 : PySem.W.codeIn K cde14 "BadRow.__init__" = true)
    (ke14 : PySem.W.keepIn K (.ref fe14) = true)
    (xC14 : K.lookup C14 = some (excClassObj nmC14 qC14 C14 NC14 bsC14 (.ref W :: [.type "ValueError", .type "Exception", .type "BaseException", .type "object"]) true snC14 subC14 abC14 colC14 ddC14 m0C14 m1C14 m2C14 m3C14 m5C14 "ValueError.__new__"))
    (bC14 : clsB K C14 fe14 fT ["row"] = true)
    (gC15 : PySem.W.nsIn K mainGlobals "NoDeed" = some (some (.ref C15)))
    (iC15 : PySem.W.findIn K (.ref C15) "__init__" = some (some (.ref fe15)))
    (le15 : K.lookup fe15 = some ⟨oce15, ode15, .func (PySem.W.fnOf "__init__" "NoDeed.__init__" (defArgs (inClass (top 19) 0)) (defBody (inClass (top 19) 0)) (defScope (inClass (top 19) 0)) .none kVe15 dce15 pme15 ane15 cde15 cte15), sle15⟩)
    (ce15 : PySem.W.codeIn K cde15 "NoDeed.__init__" = true)
    (ke15 : PySem.W.keepIn K (.ref fe15) = true)
    (xC15 : K.lookup C15 = some (excClassObj nmC15 qC15 C15 NC15 bsC15 (.ref W :: [.type "ValueError", .type "Exception", .type "BaseException", .type "object"]) true snC15 subC15 abC15 colC15 ddC15 m0C15 m1C15 m2C15 m3C15 m5C15 "ValueError.__new__"))
    (bC15 : clsB K C15 fe15 fT ["word"] = true)
    (gC16 : PySem.W.nsIn K mainGlobals "Unlike" = some (some (.ref C16)))
    (iC16 : PySem.W.findIn K (.ref C16) "__init__" = some (some (.ref fe16)))
    (le16 : K.lookup fe16 = some ⟨oce16, ode16, .func (PySem.W.fnOf "__init__" "Unlike.__init__" (defArgs (inClass (top 25) 0)) (defBody (inClass (top 25) 0)) (defScope (inClass (top 25) 0)) .none kVe16 dce16 pme16 ane16 cde16 cte16), sle16⟩)
    (ce16 : PySem.W.codeIn K cde16 "Unlike.__init__" = true)
    (ke16 : PySem.W.keepIn K (.ref fe16) = true)
    (xC16 : K.lookup C16 = some (excClassObj nmC16 qC16 C16 NC16 bsC16 (.ref W :: [.type "ValueError", .type "Exception", .type "BaseException", .type "object"]) true snC16 subC16 abC16 colC16 ddC16 m0C16 m1C16 m2C16 m3C16 m5C16 "ValueError.__new__"))
    (bC16 : clsB K C16 fe16 fT ["what"] = true)
    (gC17 : PySem.W.nsIn K mainGlobals "BadCount" = some (some (.ref C17)))
    (iC17 : PySem.W.findIn K (.ref C17) "__init__" = some (some (.ref fe17)))
    (le17 : K.lookup fe17 = some ⟨oce17, ode17, .func (PySem.W.fnOf "__init__" "BadCount.__init__" (defArgs (inClass (top 3) 0)) (defBody (inClass (top 3) 0)) (defScope (inClass (top 3) 0)) .none kVe17 dce17 pme17 ane17 cde17 cte17), sle17⟩)
    (ce17 : PySem.W.codeIn K cde17 "BadCount.__init__" = true)
    (ke17 : PySem.W.keepIn K (.ref fe17) = true)
    (xC17 : K.lookup C17 = some (excClassObj nmC17 qC17 C17 NC17 bsC17 (.ref W :: [.type "ValueError", .type "Exception", .type "BaseException", .type "object"]) true snC17 subC17 abC17 colC17 ddC17 m0C17 m1C17 m2C17 m3C17 m5C17 "ValueError.__new__"))
    (bC17 : clsB K C17 fe17 fT ["what", "count"] = true)
    (gC18 : PySem.W.nsIn K mainGlobals "Upward" = some (some (.ref C18)))
    (iC18 : PySem.W.findIn K (.ref C18) "__init__" = some (some (.ref fe18)))
    (le18 : K.lookup fe18 = some ⟨oce18, ode18, .func (PySem.W.fnOf "__init__" "Upward.__init__" (defArgs (inClass (top 9) 0)) (defBody (inClass (top 9) 0)) (defScope (inClass (top 9) 0)) .none kVe18 dce18 pme18 ane18 cde18 cte18), sle18⟩)
    (ce18 : PySem.W.codeIn K cde18 "Upward.__init__" = true)
    (ke18 : PySem.W.keepIn K (.ref fe18) = true)
    (xC18 : K.lookup C18 = some (excClassObj nmC18 qC18 C18 NC18 bsC18 (.ref W :: [.type "ValueError", .type "Exception", .type "BaseException", .type "object"]) true snC18 subC18 abC18 colC18 ddC18 m0C18 m1C18 m2C18 m3C18 m5C18 "ValueError.__new__"))
    (bC18 : clsB K C18 fe18 fT ["maker", "made"] = true)
    (gC19 : PySem.W.nsIn K mainGlobals "NoMaking" = some (some (.ref C19)))
    (iC19 : PySem.W.findIn K (.ref C19) "__init__" = some (some (.ref fe19)))
    (le19 : K.lookup fe19 = some ⟨oce19, ode19, .func (PySem.W.fnOf "__init__" "NoMaking.__init__" (defArgs (inClass (top 13) 0)) (defBody (inClass (top 13) 0)) (defScope (inClass (top 13) 0)) .none kVe19 dce19 pme19 ane19 cde19 cte19), sle19⟩)
    (ce19 : PySem.W.codeIn K cde19 "NoMaking.__init__" = true)
    (ke19 : PySem.W.keepIn K (.ref fe19) = true)
    (xC19 : K.lookup C19 = some (excClassObj nmC19 qC19 C19 NC19 bsC19 (.ref W :: [.type "ValueError", .type "Exception", .type "BaseException", .type "object"]) true snC19 subC19 abC19 colC19 ddC19 m0C19 m1C19 m2C19 m3C19 m5C19 "ValueError.__new__"))
    (bC19 : clsB K C19 fe19 fT ["maker", "made"] = true)
    (gC20 : PySem.W.nsIn K mainGlobals "Freer" = some (some (.ref C20)))
    (iC20 : PySem.W.findIn K (.ref C20) "__init__" = some (some (.ref fe20)))
    (le20 : K.lookup fe20 = some ⟨oce20, ode20, .func (PySem.W.fnOf "__init__" "Freer.__init__" (defArgs (inClass (top 26) 0)) (defBody (inClass (top 26) 0)) (defScope (inClass (top 26) 0)) .none kVe20 dce20 pme20 ane20 cde20 cte20), sle20⟩)
    (ce20 : PySem.W.codeIn K cde20 "Freer.__init__" = true)
    (ke20 : PySem.W.keepIn K (.ref fe20) = true)
    (xC20 : K.lookup C20 = some (excClassObj nmC20 qC20 C20 NC20 bsC20 (.ref W :: [.type "ValueError", .type "Exception", .type "BaseException", .type "object"]) true snC20 subC20 abC20 colC20 ddC20 m0C20 m1C20 m2C20 m3C20 m5C20 "ValueError.__new__"))
    (bC20 : clsB K C20 fe20 fT ["name", "row"] = true)
    (gC21 : PySem.W.nsIn K mainGlobals "NotHeld" = some (some (.ref C21)))
    (iC21 : PySem.W.findIn K (.ref C21) "__init__" = some (some (.ref fe21)))
    (le21 : K.lookup fe21 = some ⟨oce21, ode21, .func (PySem.W.fnOf "__init__" "NotHeld.__init__" (defArgs (inClass (top 18) 0)) (defBody (inClass (top 18) 0)) (defScope (inClass (top 18) 0)) .none kVe21 dce21 pme21 ane21 cde21 cte21), sle21⟩)
    (ce21 : PySem.W.codeIn K cde21 "NotHeld.__init__" = true)
    (ke21 : PySem.W.keepIn K (.ref fe21) = true)
    (xC21 : K.lookup C21 = some (excClassObj nmC21 qC21 C21 NC21 bsC21 (.ref W :: [.type "ValueError", .type "Exception", .type "BaseException", .type "object"]) true snC21 subC21 abC21 colC21 ddC21 m0C21 m1C21 m2C21 m3C21 m5C21 "ValueError.__new__"))
    (bC21 : clsB K C21 fe21 fT ["x", "word", "y"] = true)
    (gC22 : PySem.W.nsIn K mainGlobals "Stands" = some (some (.ref C22)))
    (iC22 : PySem.W.findIn K (.ref C22) "__init__" = some (some (.ref fe22)))
    (le22 : K.lookup fe22 = some ⟨oce22, ode22, .func (PySem.W.fnOf "__init__" "Stands.__init__" (defArgs (inClass (top 21) 0)) (defBody (inClass (top 21) 0)) (defScope (inClass (top 21) 0)) .none kVe22 dce22 pme22 ane22 cde22 cte22), sle22⟩)
    (ce22 : PySem.W.codeIn K cde22 "Stands.__init__" = true)
    (ke22 : PySem.W.keepIn K (.ref fe22) = true)
    (xC22 : K.lookup C22 = some (excClassObj nmC22 qC22 C22 NC22 bsC22 (.ref W :: [.type "ValueError", .type "Exception", .type "BaseException", .type "object"]) true snC22 subC22 abC22 colC22 ddC22 m0C22 m1C22 m2C22 m3C22 m5C22 "ValueError.__new__"))
    (bC22 : clsB K C22 fe22 fT ["x", "word", "y"] = true)
    (gC23 : PySem.W.nsIn K mainGlobals "Never" = some (some (.ref C23)))
    (iC23 : PySem.W.findIn K (.ref C23) "__init__" = some (some (.ref fe23)))
    (le23 : K.lookup fe23 = some ⟨oce23, ode23, .func (PySem.W.fnOf "__init__" "Never.__init__" (defArgs (inClass (top 23) 0)) (defBody (inClass (top 23) 0)) (defScope (inClass (top 23) 0)) .none kVe23 dce23 pme23 ane23 cde23 cte23), sle23⟩)
    (ce23 : PySem.W.codeIn K cde23 "Never.__init__" = true)
    (ke23 : PySem.W.keepIn K (.ref fe23) = true)
    (xC23 : K.lookup C23 = some (excClassObj nmC23 qC23 C23 NC23 bsC23 (.ref W :: [.type "ValueError", .type "Exception", .type "BaseException", .type "object"]) true snC23 subC23 abC23 colC23 ddC23 m0C23 m1C23 m2C23 m3C23 m5C23 "ValueError.__new__"))
    (bC23 : clsB K C23 fe23 fT ["x", "word", "y"] = true)
    (gC24 : PySem.W.nsIn K mainGlobals "NoCure" = some (some (.ref C24)))
    (iC24 : PySem.W.findIn K (.ref C24) "__init__" = some (some (.ref fe24)))
    (le24 : K.lookup fe24 = some ⟨oce24, ode24, .func (PySem.W.fnOf "__init__" "NoCure.__init__" (defArgs (inClass (top 24) 0)) (defBody (inClass (top 24) 0)) (defScope (inClass (top 24) 0)) .none kVe24 dce24 pme24 ane24 cde24 cte24), sle24⟩)
    (ce24 : PySem.W.codeIn K cde24 "NoCure.__init__" = true)
    (ke24 : PySem.W.keepIn K (.ref fe24) = true)
    (xC24 : K.lookup C24 = some (excClassObj nmC24 qC24 C24 NC24 bsC24 (.ref W :: [.type "ValueError", .type "Exception", .type "BaseException", .type "object"]) true snC24 subC24 abC24 colC24 ddC24 m0C24 m1C24 m2C24 m3C24 m5C24 "ValueError.__new__"))
    (bC24 : clsB K C24 fe24 fT ["x", "word", "y"] = true)
    (gC25 : PySem.W.nsIn K mainGlobals "Barred" = some (some (.ref C25)))
    (iC25 : PySem.W.findIn K (.ref C25) "__init__" = some (some (.ref fe25)))
    (le25 : K.lookup fe25 = some ⟨oce25, ode25, .func (PySem.W.fnOf "__init__" "Barred.__init__" (defArgs (inClass (top 27) 0)) (defBody (inClass (top 27) 0)) (defScope (inClass (top 27) 0)) .none kVe25 dce25 pme25 ane25 cde25 cte25), sle25⟩)
    (ce25 : PySem.W.codeIn K cde25 "Barred.__init__" = true)
    (ke25 : PySem.W.keepIn K (.ref fe25) = true)
    (xC25 : K.lookup C25 = some (excClassObj nmC25 qC25 C25 NC25 bsC25 (.ref W :: [.type "ValueError", .type "Exception", .type "BaseException", .type "object"]) true snC25 subC25 abC25 colC25 ddC25 m0C25 m1C25 m2C25 m3C25 m5C25 "ValueError.__new__"))
    (bC25 : clsB K C25 fe25 fT ["name", "spots", "deeds"] = true)
    (gC26 : PySem.W.nsIn K mainGlobals "Full" = some (some (.ref C26)))
    (iC26 : PySem.W.findIn K (.ref C26) "__init__" = some (some (.ref fe26)))
    (le26 : K.lookup fe26 = some ⟨oce26, ode26, .func (PySem.W.fnOf "__init__" "Full.__init__" (defArgs (inClass (top 16) 0)) (defBody (inClass (top 16) 0)) (defScope (inClass (top 16) 0)) .none kVe26 dce26 pme26 ane26 cde26 cte26), sle26⟩)
    (ce26 : PySem.W.codeIn K cde26 "Full.__init__" = true)
    (ke26 : PySem.W.keepIn K (.ref fe26) = true)
    (xC26 : K.lookup C26 = some (excClassObj nmC26 qC26 C26 NC26 bsC26 (.ref W :: [.type "ValueError", .type "Exception", .type "BaseException", .type "object"]) true snC26 subC26 abC26 colC26 ddC26 m0C26 m1C26 m2C26 m3C26 m5C26 "ValueError.__new__"))
    (bC26 : clsB K C26 fe26 fT [] = true)
    (gC27 : PySem.W.nsIn K mainGlobals "NoBack" = some (some (.ref C27)))
    (iC27 : PySem.W.findIn K (.ref C27) "__init__" = some (some (.ref fe27)))
    (le27 : K.lookup fe27 = some ⟨oce27, ode27, .func (PySem.W.fnOf "__init__" "NoBack.__init__" (defArgs (inClass (top 28) 0)) (defBody (inClass (top 28) 0)) (defScope (inClass (top 28) 0)) .none kVe27 dce27 pme27 ane27 cde27 cte27), sle27⟩)
    (ce27 : PySem.W.codeIn K cde27 "NoBack.__init__" = true)
    (ke27 : PySem.W.keepIn K (.ref fe27) = true)
    (xC27 : K.lookup C27 = some (excClassObj nmC27 qC27 C27 NC27 bsC27 (.ref W :: [.type "ValueError", .type "Exception", .type "BaseException", .type "object"]) true snC27 subC27 abC27 colC27 ddC27 m0C27 m1C27 m2C27 m3C27 m5C27 "ValueError.__new__"))
    (bC27 : clsB K C27 fe27 fT [] = true)
    (kitA : ((List.range 28).all fun i => (List.range 28).all fun j => decide (PySem.W.kitOne K (.ref (([C0, C1, C2, C3, C4, C5, C6, C7, C8, C9, C10, C11, C12, C13, C14, C15, C16, C17, C18, C19, C20, C21, C22, C23, C24, C25, C26, C27] : List Addr).getD i 0)) (.ref (([C0, C1, C2, C3, C4, C5, C6, C7, C8, C9, C10, C11, C12, C13, C14, C15, C16, C17, C18, C19, C20, C21, C22, C23, C24, C25, C26, C27] : List Addr).getD j 0)) = some (decide (i = j)))) = true)
    (kwA : ((List.range 28).all fun i => decide (PySem.W.kitOne K (.ref (([C0, C1, C2, C3, C4, C5, C6, C7, C8, C9, C10, C11, C12, C13, C14, C15, C16, C17, C18, C19, C20, C21, C22, C23, C24, C25, C26, C27] : List Addr).getD i 0)) (.ref W) = some true)) = true)
    (kvA : ((List.range 28).all fun i => decide (PySem.W.kitOne K (.ref (([C0, C1, C2, C3, C4, C5, C6, C7, C8, C9, C10, C11, C12, C13, C14, C15, C16, C17, C18, C19, C20, C21, C22, C23, C24, C25, C26, C27] : List Addr).getD i 0)) (.type "ValueError") = some true)) = true)
    (z_abs : PySem.W.nsIn K mainGlobals "abs" = some none)
    (z_int : PySem.W.nsIn K mainGlobals "int" = some none)
    (z_len : PySem.W.nsIn K mainGlobals "len" = some none)
    (z_range : PySem.W.nsIn K mainGlobals "range" = some none)
    (z_all : PySem.W.nsIn K mainGlobals "all" = some none)
    (z_tuple : PySem.W.nsIn K mainGlobals "tuple" = some none)
    (z_enumerate : PySem.W.nsIn K mainGlobals "enumerate" = some none)
    (z_isinstance : PySem.W.nsIn K mainGlobals "isinstance" = some none)
    (z_ve : PySem.W.nsIn K mainGlobals "ValueError" = some none)
    (z_list : PySem.W.nsIn K mainGlobals "list" = some none)
    (z_str : PySem.W.nsIn K mainGlobals "str" = some none)
    (z_sum : PySem.W.nsIn K mainGlobals "sum" = some none) :
    ∃ fd : FuncData, (∀ (s : Shared) (v : Value), BindsTo s fd ⟨[v], []⟩ [("_law_script", v)]) ∧ ∀ base : Heap, K.In base → base.Ns mainGlobals mg → FnOk l.prog w K mg base CX0 5 fa fd ["_law_script"] (spLaw K) := by
  have e := hfa.symm.trans (PySem.W.mg_of X G a11)
  cases e
  have T : TxB mg := ⟨PySem.W.mg_none_of X G z_abs, PySem.W.mg_none_of X G z_int, PySem.W.mg_none_of X G z_len, PySem.W.mg_none_of X G z_range, PySem.W.mg_none_of X G z_all, PySem.W.mg_none_of X G z_tuple, PySem.W.mg_none_of X G z_enumerate, PySem.W.mg_none_of X G z_isinstance, PySem.W.mg_none_of X G z_ve⟩
  have tl := PySem.W.mg_none_of X G z_list
  have tstr := PySem.W.mg_none_of X G z_str
  have tsum := PySem.W.mg_none_of X G z_sum
  have F0 := fun_mk (st := sCel) l0 c0 k0
  have D0 : Dn K mg "_law_cell_at" sCel ["_law_script", "_law_k"] f0 _ := ⟨F0, PySem.W.mg_of X G a0, F0.binds (ps := ["_law_script", "_law_k"]) fun _ _ _ _ _ _ us hl => match us, hl with | [_, _], _ => rfl⟩
  have F1 := fun_mk (st := sState) l1 c1 k1
  have D1 : Dn K mg "_law_state" sState ["_law_cell"] f1 _ := ⟨F1, PySem.W.mg_of X G a1, F1.binds (ps := ["_law_cell"]) fun _ _ _ _ _ _ us hl => match us, hl with | [_], _ => rfl⟩
  have F2 := fun_mk (st := sDigit) l2 c2 k2
  have D2 : Dn K mg "_law_digit" sDigit ["_law_state_here", "_law_base"] f2 _ := ⟨F2, PySem.W.mg_of X G a2, F2.binds (ps := ["_law_state_here", "_law_base"]) fun _ _ _ _ _ _ us hl => match us, hl with | [_, _], _ => rfl⟩
  have F3 := fun_mk (st := sNam) l3 c3 k3
  have D3 : Dn K mg "_law_name" sNam ["_law_s", "_law_taken"] f3 _ := ⟨F3, PySem.W.mg_of X G a3, F3.binds (ps := ["_law_s", "_law_taken"]) fun _ _ _ _ _ _ us hl => match us, hl with | [_, _], _ => rfl⟩
  have F4 := fun_mk (st := sNms) l4 c4 k4
  have D4 : Dn K mg "_law_names" sNms ["_law_s", "_law_many"] f4 _ := ⟨F4, PySem.W.mg_of X G a4, F4.binds (ps := ["_law_s", "_law_many"]) fun _ _ _ _ _ _ us hl => match us, hl with | [_, _], _ => rfl⟩
  have F5 := fun_mk (st := sOne) l5 c5 k5
  have D5 : Dn K mg "_law_one" sOne ["_law_k", "_law_a"] f5 _ := ⟨F5, PySem.W.mg_of X G a5, F5.binds (ps := ["_law_k", "_law_a"]) fun _ _ _ _ _ _ us hl => match us, hl with | [_, _], _ => rfl⟩
  have F6 := fun_mk (st := sOth) l6 c6 k6
  have D6 : Dn K mg "_law_other" sOth ["_law_k", "_law_a", "_law_b", "_law_c", "_law_n", "_law_rows"] f6 _ := ⟨F6, PySem.W.mg_of X G a6, F6.binds (ps := ["_law_k", "_law_a", "_law_b", "_law_c", "_law_n", "_law_rows"]) fun _ _ _ _ _ _ us hl => match us, hl with | [_, _, _, _, _, _], _ => rfl⟩
  have F7 := fun_mk (st := sKnd) l7 c7 k7
  have D7 : Dn K mg "_law_kinds" sKnd ["_law_e"] f7 _ := ⟨F7, PySem.W.mg_of X G a7, F7.binds (ps := ["_law_e"]) fun _ _ _ _ _ _ us hl => match us, hl with | [_], _ => rfl⟩
  have F8 := fun_mk (st := sFld) l8 c8 k8
  have D8 : Dn K mg "_law_fields" sFld ["_law_k", "_law_e"] f8 _ := ⟨F8, PySem.W.mg_of X G a8, F8.binds (ps := ["_law_k", "_law_e"]) fun _ _ _ _ _ _ us hl => match us, hl with | [_, _], _ => rfl⟩
  have F9 := fun_mk (st := sTxt) l9 c9 k9
  have D9 : Dn K mg "_law_text" sTxt ["_law_k", "_law_e"] f9 _ := ⟨F9, PySem.W.mg_of X G a9, F9.binds (ps := ["_law_k", "_law_e"]) fun _ _ _ _ _ _ us hl => match us, hl with | [_, _], _ => rfl⟩
  have F10 := fun_mk (st := sDue) l10 c10 k10
  have D10 : Dn K mg "_law_due" sDue ["_law_k", "_law_a", "_law_b", "_law_c", "_law_n", "_law_rows"] f10 _ := ⟨F10, PySem.W.mg_of X G a10, F10.binds (ps := ["_law_k", "_law_a", "_law_b", "_law_c", "_law_n", "_law_rows"]) fun _ _ _ _ _ _ us hl => match us, hl with | [_, _, _, _, _, _], _ => rfl⟩
  have F11 := fun_mk (st := sLaw) l11 c11 k11
  have FT := fun_mk (st := sWT) lT cT kT
  have bT := FT.binds (ps := ["self"]) fun _ _ _ _ _ _ us hl => match us, hl with | [_], _ => rfl
  have FW : FunD K "__init__" "WhoError.__init__" (defArgs sW0) (defBody sW0) (defScope sW0) [.str (PySem.Str.ofString "whoerror")] [] fW _ :=
    ⟨⟨_, _, _, _, _, _, _, _, _, _, rfl, lW, cW, .inr ⟨by simp, TD, _, [.str (PySem.Str.ofString "whoerror") tD], nD, rfl, dW, rfl, .cons ⟨_, rfl⟩ .nil⟩, .inl rfl⟩, kW⟩
  obtain ⟨ds, hds, bW⟩ := FW.binds1 (ps := ["self", "kind"]) 2 1 (by simp) (by rfl) (fun T kV doc pm an cdv ct us its hu hi => match us, hu, its, hi with | [_, _], _, [_], _ => ⟨_, rfl, rfl⟩)
  cases hds
  have TW : WhoT K mg W fW _ := ⟨PySem.W.mg_of X G gW, ⟨rW, sW⟩, mW, kW, bW⟩
  have E0 : ErG K mg "NoName" ["name"] fT C0 fe0 := clsB_ok bC0 ⟨_, _, _, _, _, _, _, _, _, _, _, _, _, _, _, xC0, by rfl⟩ (PySem.W.mg_of X G gC0) iC0 hn ht
  have Fe0 := fun_mk (st := inClass (top 2) 0) le0 ce0 ke0
  have be0 := Fe0.binds (ps := ["self", "name"]) fun _ _ _ _ _ _ us hl => match us, hl with | [_, _], _ => rfl
  have E1 : ErG K mg "Twice" ["name"] fT C1 fe1 := clsB_ok bC1 ⟨_, _, _, _, _, _, _, _, _, _, _, _, _, _, _, xC1, by rfl⟩ (PySem.W.mg_of X G gC1) iC1 hn ht
  have Fe1 := fun_mk (st := inClass (top 4) 0) le1 ce1 ke1
  have be1 := Fe1.binds (ps := ["self", "name"]) fun _ _ _ _ _ _ us hl => match us, hl with | [_, _], _ => rfl
  have E2 : ErG K mg "NoVariable" ["name"] fT C2 fe2 := clsB_ok bC2 ⟨_, _, _, _, _, _, _, _, _, _, _, _, _, _, _, xC2, by rfl⟩ (PySem.W.mg_of X G gC2) iC2 hn ht
  have Fe2 := fun_mk (st := inClass (top 5) 0) le2 ce2 ke2
  have be2 := Fe2.binds (ps := ["self", "name"]) fun _ _ _ _ _ _ us hl => match us, hl with | [_, _], _ => rfl
  have E3 : ErG K mg "Loose" ["name"] fT C3 fe3 := clsB_ok bC3 ⟨_, _, _, _, _, _, _, _, _, _, _, _, _, _, _, xC3, by rfl⟩ (PySem.W.mg_of X G gC3) iC3 hn ht
  have Fe3 := fun_mk (st := inClass (top 6) 0) le3 ce3 ke3
  have be3 := Fe3.binds (ps := ["self", "name"]) fun _ _ _ _ _ _ us hl => match us, hl with | [_, _], _ => rfl
  have E4 : ErG K mg "NoSort" ["name"] fT C4 fe4 := clsB_ok bC4 ⟨_, _, _, _, _, _, _, _, _, _, _, _, _, _, _, xC4, by rfl⟩ (PySem.W.mg_of X G gC4) iC4 hn ht
  have Fe4 := fun_mk (st := inClass (top 8) 0) le4 ce4 ke4
  have be4 := Fe4.binds (ps := ["self", "name"]) fun _ _ _ _ _ _ us hl => match us, hl with | [_, _], _ => rfl
  have E5 : ErG K mg "NoWord" ["name"] fT C5 fe5 := clsB_ok bC5 ⟨_, _, _, _, _, _, _, _, _, _, _, _, _, _, _, xC5, by rfl⟩ (PySem.W.mg_of X G gC5) iC5 hn ht
  have Fe5 := fun_mk (st := inClass (top 10) 0) le5 ce5 ke5
  have be5 := Fe5.binds (ps := ["self", "name"]) fun _ _ _ _ _ _ us hl => match us, hl with | [_, _], _ => rfl
  have E6 : ErG K mg "NoRule" ["name"] fT C6 fe6 := clsB_ok bC6 ⟨_, _, _, _, _, _, _, _, _, _, _, _, _, _, _, xC6, by rfl⟩ (PySem.W.mg_of X G gC6) iC6 hn ht
  have Fe6 := fun_mk (st := inClass (top 11) 0) le6 ce6 ke6
  have be6 := Fe6.binds (ps := ["self", "name"]) fun _ _ _ _ _ _ us hl => match us, hl with | [_, _], _ => rfl
  have E7 : ErG K mg "NoBar" ["name"] fT C7 fe7 := clsB_ok bC7 ⟨_, _, _, _, _, _, _, _, _, _, _, _, _, _, _, xC7, by rfl⟩ (PySem.W.mg_of X G gC7) iC7 hn ht
  have Fe7 := fun_mk (st := inClass (top 12) 0) le7 ce7 ke7
  have be7 := Fe7.binds (ps := ["self", "name"]) fun _ _ _ _ _ _ us hl => match us, hl with | [_, _], _ => rfl
  have E8 : ErG K mg "NoThing" ["name"] fT C8 fe8 := clsB_ok bC8 ⟨_, _, _, _, _, _, _, _, _, _, _, _, _, _, _, xC8, by rfl⟩ (PySem.W.mg_of X G gC8) iC8 hn ht
  have Fe8 := fun_mk (st := inClass (top 14) 0) le8 ce8 ke8
  have be8 := Fe8.binds (ps := ["self", "name"]) fun _ _ _ _ _ _ us hl => match us, hl with | [_, _], _ => rfl
  have E9 : ErG K mg "Taken" ["name"] fT C9 fe9 := clsB_ok bC9 ⟨_, _, _, _, _, _, _, _, _, _, _, _, _, _, _, xC9, by rfl⟩ (PySem.W.mg_of X G gC9) iC9 hn ht
  have Fe9 := fun_mk (st := inClass (top 15) 0) le9 ce9 ke9
  have be9 := Fe9.binds (ps := ["self", "name"]) fun _ _ _ _ _ _ us hl => match us, hl with | [_, _], _ => rfl
  have E10 : ErG K mg "Asleep" ["name"] fT C10 fe10 := clsB_ok bC10 ⟨_, _, _, _, _, _, _, _, _, _, _, _, _, _, _, xC10, by rfl⟩ (PySem.W.mg_of X G gC10) iC10 hn ht
  have Fe10 := fun_mk (st := inClass (top 17) 0) le10 ce10 ke10
  have be10 := Fe10.binds (ps := ["self", "name"]) fun _ _ _ _ _ _ us hl => match us, hl with | [_, _], _ => rfl
  have E11 : ErG K mg "Misfit" ["name"] fT C11 fe11 := clsB_ok bC11 ⟨_, _, _, _, _, _, _, _, _, _, _, _, _, _, _, xC11, by rfl⟩ (PySem.W.mg_of X G gC11) iC11 hn ht
  have Fe11 := fun_mk (st := inClass (top 20) 0) le11 ce11 ke11
  have be11 := Fe11.binds (ps := ["self", "name"]) fun _ _ _ _ _ _ us hl => match us, hl with | [_, _], _ => rfl
  have E12 : ErG K mg "Apart" ["place"] fT C12 fe12 := clsB_ok bC12 ⟨_, _, _, _, _, _, _, _, _, _, _, _, _, _, _, xC12, by rfl⟩ (PySem.W.mg_of X G gC12) iC12 hn ht
  have Fe12 := fun_mk (st := inClass (top 7) 0) le12 ce12 ke12
  have be12 := Fe12.binds (ps := ["self", "place"]) fun _ _ _ _ _ _ us hl => match us, hl with | [_, _], _ => rfl
  have E13 : ErG K mg "Crowded" ["count"] fT C13 fe13 := clsB_ok bC13 ⟨_, _, _, _, _, _, _, _, _, _, _, _, _, _, _, xC13, by rfl⟩ (PySem.W.mg_of X G gC13) iC13 hn ht
  have Fe13 := fun_mk (st := inClass (top 22) 0) le13 ce13 ke13
  have be13 := Fe13.binds (ps := ["self", "count"]) fun _ _ _ _ _ _ us hl => match us, hl with | [_, _], _ => rfl
  have E14 : ErG K mg "BadRow" ["row"] fT C14 fe14 := clsB_ok bC14 ⟨_, _, _, _, _, _, _, _, _, _, _, _, _, _, _, xC14, by rfl⟩ (PySem.W.mg_of X G gC14) iC14 hn ht
  have Fe14 := fun_mk (st := inClass (top 29) 0) le14 ce14 ke14
  have be14 := Fe14.binds (ps := ["self", "row"]) fun _ _ _ _ _ _ us hl => match us, hl with | [_, _], _ => rfl
  have E15 : ErG K mg "NoDeed" ["word"] fT C15 fe15 := clsB_ok bC15 ⟨_, _, _, _, _, _, _, _, _, _, _, _, _, _, _, xC15, by rfl⟩ (PySem.W.mg_of X G gC15) iC15 hn ht
  have Fe15 := fun_mk (st := inClass (top 19) 0) le15 ce15 ke15
  have be15 := Fe15.binds (ps := ["self", "word"]) fun _ _ _ _ _ _ us hl => match us, hl with | [_, _], _ => rfl
  have E16 : ErG K mg "Unlike" ["what"] fT C16 fe16 := clsB_ok bC16 ⟨_, _, _, _, _, _, _, _, _, _, _, _, _, _, _, xC16, by rfl⟩ (PySem.W.mg_of X G gC16) iC16 hn ht
  have Fe16 := fun_mk (st := inClass (top 25) 0) le16 ce16 ke16
  have be16 := Fe16.binds (ps := ["self", "what"]) fun _ _ _ _ _ _ us hl => match us, hl with | [_, _], _ => rfl
  have E17 : ErG K mg "BadCount" ["what", "count"] fT C17 fe17 := clsB_ok bC17 ⟨_, _, _, _, _, _, _, _, _, _, _, _, _, _, _, xC17, by rfl⟩ (PySem.W.mg_of X G gC17) iC17 hn ht
  have Fe17 := fun_mk (st := inClass (top 3) 0) le17 ce17 ke17
  have be17 := Fe17.binds (ps := ["self", "what", "count"]) fun _ _ _ _ _ _ us hl => match us, hl with | [_, _, _], _ => rfl
  have E18 : ErG K mg "Upward" ["maker", "made"] fT C18 fe18 := clsB_ok bC18 ⟨_, _, _, _, _, _, _, _, _, _, _, _, _, _, _, xC18, by rfl⟩ (PySem.W.mg_of X G gC18) iC18 hn ht
  have Fe18 := fun_mk (st := inClass (top 9) 0) le18 ce18 ke18
  have be18 := Fe18.binds (ps := ["self", "maker", "made"]) fun _ _ _ _ _ _ us hl => match us, hl with | [_, _, _], _ => rfl
  have E19 : ErG K mg "NoMaking" ["maker", "made"] fT C19 fe19 := clsB_ok bC19 ⟨_, _, _, _, _, _, _, _, _, _, _, _, _, _, _, xC19, by rfl⟩ (PySem.W.mg_of X G gC19) iC19 hn ht
  have Fe19 := fun_mk (st := inClass (top 13) 0) le19 ce19 ke19
  have be19 := Fe19.binds (ps := ["self", "maker", "made"]) fun _ _ _ _ _ _ us hl => match us, hl with | [_, _, _], _ => rfl
  have E20 : ErG K mg "Freer" ["name", "row"] fT C20 fe20 := clsB_ok bC20 ⟨_, _, _, _, _, _, _, _, _, _, _, _, _, _, _, xC20, by rfl⟩ (PySem.W.mg_of X G gC20) iC20 hn ht
  have Fe20 := fun_mk (st := inClass (top 26) 0) le20 ce20 ke20
  have be20 := Fe20.binds (ps := ["self", "name", "row"]) fun _ _ _ _ _ _ us hl => match us, hl with | [_, _, _], _ => rfl
  have E21 : ErG K mg "NotHeld" ["x", "word", "y"] fT C21 fe21 := clsB_ok bC21 ⟨_, _, _, _, _, _, _, _, _, _, _, _, _, _, _, xC21, by rfl⟩ (PySem.W.mg_of X G gC21) iC21 hn ht
  have Fe21 := fun_mk (st := inClass (top 18) 0) le21 ce21 ke21
  have be21 := Fe21.binds (ps := ["self", "x", "word", "y"]) fun _ _ _ _ _ _ us hl => match us, hl with | [_, _, _, _], _ => rfl
  have E22 : ErG K mg "Stands" ["x", "word", "y"] fT C22 fe22 := clsB_ok bC22 ⟨_, _, _, _, _, _, _, _, _, _, _, _, _, _, _, xC22, by rfl⟩ (PySem.W.mg_of X G gC22) iC22 hn ht
  have Fe22 := fun_mk (st := inClass (top 21) 0) le22 ce22 ke22
  have be22 := Fe22.binds (ps := ["self", "x", "word", "y"]) fun _ _ _ _ _ _ us hl => match us, hl with | [_, _, _, _], _ => rfl
  have E23 : ErG K mg "Never" ["x", "word", "y"] fT C23 fe23 := clsB_ok bC23 ⟨_, _, _, _, _, _, _, _, _, _, _, _, _, _, _, xC23, by rfl⟩ (PySem.W.mg_of X G gC23) iC23 hn ht
  have Fe23 := fun_mk (st := inClass (top 23) 0) le23 ce23 ke23
  have be23 := Fe23.binds (ps := ["self", "x", "word", "y"]) fun _ _ _ _ _ _ us hl => match us, hl with | [_, _, _, _], _ => rfl
  have E24 : ErG K mg "NoCure" ["x", "word", "y"] fT C24 fe24 := clsB_ok bC24 ⟨_, _, _, _, _, _, _, _, _, _, _, _, _, _, _, xC24, by rfl⟩ (PySem.W.mg_of X G gC24) iC24 hn ht
  have Fe24 := fun_mk (st := inClass (top 24) 0) le24 ce24 ke24
  have be24 := Fe24.binds (ps := ["self", "x", "word", "y"]) fun _ _ _ _ _ _ us hl => match us, hl with | [_, _, _, _], _ => rfl
  have E25 : ErG K mg "Barred" ["name", "spots", "deeds"] fT C25 fe25 := clsB_ok bC25 ⟨_, _, _, _, _, _, _, _, _, _, _, _, _, _, _, xC25, by rfl⟩ (PySem.W.mg_of X G gC25) iC25 hn ht
  have Fe25 := fun_mk (st := inClass (top 27) 0) le25 ce25 ke25
  have be25 := Fe25.binds (ps := ["self", "name", "spots", "deeds"]) fun _ _ _ _ _ _ us hl => match us, hl with | [_, _, _, _], _ => rfl
  have E26 : ErG K mg "Full" [] fT C26 fe26 := clsB_ok bC26 ⟨_, _, _, _, _, _, _, _, _, _, _, _, _, _, _, xC26, by rfl⟩ (PySem.W.mg_of X G gC26) iC26 hn ht
  have Fe26 := fun_mk (st := inClass (top 16) 0) le26 ce26 ke26
  have be26 := Fe26.binds (ps := ["self"]) fun _ _ _ _ _ _ us hl => match us, hl with | [_], _ => rfl
  have E27 : ErG K mg "NoBack" [] fT C27 fe27 := clsB_ok bC27 ⟨_, _, _, _, _, _, _, _, _, _, _, _, _, _, _, xC27, by rfl⟩ (PySem.W.mg_of X G gC27) iC27 hn ht
  have Fe27 := fun_mk (st := inClass (top 28) 0) le27 ce27 ke27
  have be27 := Fe27.binds (ps := ["self"]) fun _ _ _ _ _ _ us hl => match us, hl with | [_], _ => rfl
  let cl : Nat → Addr := fun k => ([C0, C1, C2, C3, C4, C5, C6, C7, C8, C9, C10, C11, C12, C13, C14, C15, C16, C17, C18, C19, C20, C21, C22, C23, C24, C25, C26, C27] : List Addr).getD k 0
  have AC : AllC K cl fT W := by
    refine ⟨fun k hk => ?_, fun k hk => ?_, fun k hk => ?_, fun k hk => ?_, fun i j hi hj => of_decide_eq_true (range_all (range_all kitA i hi) j hj), fun k hk => of_decide_eq_true (range_all kwA k hk), fun k hk => of_decide_eq_true (range_all kvA k hk)⟩
    · exact match k, hk with
        | 0, _ => E0.ec
        | 1, _ => E1.ec
        | 2, _ => E2.ec
        | 3, _ => E3.ec
        | 4, _ => E4.ec
        | 5, _ => E5.ec
        | 6, _ => E6.ec
        | 7, _ => E7.ec
        | 8, _ => E8.ec
        | 9, _ => E9.ec
        | 10, _ => E10.ec
        | 11, _ => E11.ec
        | 12, _ => E12.ec
        | 13, _ => E13.ec
        | 14, _ => E14.ec
        | 15, _ => E15.ec
        | 16, _ => E16.ec
        | 17, _ => E17.ec
        | 18, _ => E18.ec
        | 19, _ => E19.ec
        | 20, _ => E20.ec
        | 21, _ => E21.ec
        | 22, _ => E22.ec
        | 23, _ => E23.ec
        | 24, _ => E24.ec
        | 25, _ => E25.ec
        | 26, _ => E26.ec
        | 27, _ => E27.ec
        | k + 28, h => absurd h (by omega)
    · exact match k, hk with
        | 0, _ => E0.xf
        | 1, _ => E1.xf
        | 2, _ => E2.xf
        | 3, _ => E3.xf
        | 4, _ => E4.xf
        | 5, _ => E5.xf
        | 6, _ => E6.xf
        | 7, _ => E7.xf
        | 8, _ => E8.xf
        | 9, _ => E9.xf
        | 10, _ => E10.xf
        | 11, _ => E11.xf
        | 12, _ => E12.xf
        | 13, _ => E13.xf
        | 14, _ => E14.xf
        | 15, _ => E15.xf
        | 16, _ => E16.xf
        | 17, _ => E17.xf
        | 18, _ => E18.xf
        | 19, _ => E19.xf
        | 20, _ => E20.xf
        | 21, _ => E21.xf
        | 22, _ => E22.xf
        | 23, _ => E23.xf
        | 24, _ => E24.xf
        | 25, _ => E25.xf
        | 26, _ => E26.xf
        | 27, _ => E27.xf
        | k + 28, h => absurd h (by omega)
    · exact match k, hk with
        | 0, _ => E0.nk
        | 1, _ => E1.nk
        | 2, _ => E2.nk
        | 3, _ => E3.nk
        | 4, _ => E4.nk
        | 5, _ => E5.nk
        | 6, _ => E6.nk
        | 7, _ => E7.nk
        | 8, _ => E8.nk
        | 9, _ => E9.nk
        | 10, _ => E10.nk
        | 11, _ => E11.nk
        | 12, _ => E12.nk
        | 13, _ => E13.nk
        | 14, _ => E14.nk
        | 15, _ => E15.nk
        | 16, _ => E16.nk
        | 17, _ => E17.nk
        | 18, _ => E18.nk
        | 19, _ => E19.nk
        | 20, _ => E20.nk
        | 21, _ => E21.nk
        | 22, _ => E22.nk
        | 23, _ => E23.nk
        | 24, _ => E24.nk
        | 25, _ => E25.nk
        | 26, _ => E26.nk
        | 27, _ => E27.nk
        | k + 28, h => absurd h (by omega)
    · exact match k, hk with
        | 0, _ => E0.tl
        | 1, _ => E1.tl
        | 2, _ => E2.tl
        | 3, _ => E3.tl
        | 4, _ => E4.tl
        | 5, _ => E5.tl
        | 6, _ => E6.tl
        | 7, _ => E7.tl
        | 8, _ => E8.tl
        | 9, _ => E9.tl
        | 10, _ => E10.tl
        | 11, _ => E11.tl
        | 12, _ => E12.tl
        | 13, _ => E13.tl
        | 14, _ => E14.tl
        | 15, _ => E15.tl
        | 16, _ => E16.tl
        | 17, _ => E17.tl
        | 18, _ => E18.tl
        | 19, _ => E19.tl
        | 20, _ => E20.tl
        | 21, _ => E21.tl
        | 22, _ => E22.tl
        | 23, _ => E23.tl
        | 24, _ => E24.tl
        | 25, _ => E25.tl
        | 26, _ => E26.tl
        | 27, _ => E27.tl
        | k + 28, h => absurd h (by omega)
  have NF : NfC K cl := fun j f hj => match j, hj with
        | 0, _ => E0.nf f
        | 1, _ => E1.nf f
        | 2, _ => E2.nf f
        | 3, _ => E3.nf f
        | 4, _ => E4.nf f
        | 5, _ => E5.nf f
        | 6, _ => E6.nf f
        | 7, _ => E7.nf f
        | 8, _ => E8.nf f
        | 9, _ => E9.nf f
        | 10, _ => E10.nf f
        | 11, _ => E11.nf f
        | 12, _ => E12.nf f
        | 13, _ => E13.nf f
        | 14, _ => E14.nf f
        | 15, _ => E15.nf f
        | 16, _ => E16.nf f
        | 17, _ => E17.nf f
        | 18, _ => E18.nf f
        | 19, _ => E19.nf f
        | 20, _ => E20.nf f
        | 21, _ => E21.nf f
        | 22, _ => E22.nf f
        | 23, _ => E23.nf f
        | 24, _ => E24.nf f
        | 25, _ => E25.nf f
        | 26, _ => E26.nf f
        | 27, _ => E27.nf f
        | k + 28, h => absurd h (by omega)
  refine ⟨PySem.W.fnOf "law" "law" (defArgs sLaw) (defBody sLaw) (defScope sLaw) .none kV11 dc11 pm11 an11 cd11 ct11, fun s v => .of_eq rfl, fun base _ _ => ?_⟩
  have GW : FnOk l.prog w K mg base CX0 1 fW _ ["self", "kind"] (spWI K) := ok_who FW
  have c0 : Cla l.prog w K mg base "NoName" ["name"] ["self", "name"] fT (cl 0) (spX1 (cl 0) "name" "noname") := ⟨fe0, _, E0, ok_NoName Fe0 E0 TW GW, be0⟩
  have c1 : Cla l.prog w K mg base "Twice" ["name"] ["self", "name"] fT (cl 1) (spX1 (cl 1) "name" "twice") := ⟨fe1, _, E1, ok_Twice Fe1 E1 TW GW, be1⟩
  have c2 : Cla l.prog w K mg base "NoVariable" ["name"] ["self", "name"] fT (cl 2) (spX1 (cl 2) "name" "novariable") := ⟨fe2, _, E2, ok_NoVariable Fe2 E2 TW GW, be2⟩
  have c3 : Cla l.prog w K mg base "Loose" ["name"] ["self", "name"] fT (cl 3) (spX1 (cl 3) "name" "loose") := ⟨fe3, _, E3, ok_Loose Fe3 E3 TW GW, be3⟩
  have c4 : Cla l.prog w K mg base "NoSort" ["name"] ["self", "name"] fT (cl 4) (spX1 (cl 4) "name" "nosort") := ⟨fe4, _, E4, ok_NoSort Fe4 E4 TW GW, be4⟩
  have c5 : Cla l.prog w K mg base "NoWord" ["name"] ["self", "name"] fT (cl 5) (spX1 (cl 5) "name" "noword") := ⟨fe5, _, E5, ok_NoWord Fe5 E5 TW GW, be5⟩
  have c6 : Cla l.prog w K mg base "NoRule" ["name"] ["self", "name"] fT (cl 6) (spX1 (cl 6) "name" "norule") := ⟨fe6, _, E6, ok_NoRule Fe6 E6 TW GW, be6⟩
  have c7 : Cla l.prog w K mg base "NoBar" ["name"] ["self", "name"] fT (cl 7) (spX1 (cl 7) "name" "nobar") := ⟨fe7, _, E7, ok_NoBar Fe7 E7 TW GW, be7⟩
  have c8 : Cla l.prog w K mg base "NoThing" ["name"] ["self", "name"] fT (cl 8) (spX1 (cl 8) "name" "nothing") := ⟨fe8, _, E8, ok_NoThing Fe8 E8 TW GW, be8⟩
  have c9 : Cla l.prog w K mg base "Taken" ["name"] ["self", "name"] fT (cl 9) (spX1 (cl 9) "name" "taken") := ⟨fe9, _, E9, ok_Taken Fe9 E9 TW GW, be9⟩
  have c10 : Cla l.prog w K mg base "Asleep" ["name"] ["self", "name"] fT (cl 10) (spX1 (cl 10) "name" "asleep") := ⟨fe10, _, E10, ok_Asleep Fe10 E10 TW GW, be10⟩
  have c11 : Cla l.prog w K mg base "Misfit" ["name"] ["self", "name"] fT (cl 11) (spX1 (cl 11) "name" "misfit") := ⟨fe11, _, E11, ok_Misfit Fe11 E11 TW GW, be11⟩
  have c12 : Cla l.prog w K mg base "Apart" ["place"] ["self", "place"] fT (cl 12) (spX1 (cl 12) "place" "apart") := ⟨fe12, _, E12, ok_Apart Fe12 E12 TW GW, be12⟩
  have c13 : Cla l.prog w K mg base "Crowded" ["count"] ["self", "count"] fT (cl 13) (spX1 (cl 13) "count" "crowded") := ⟨fe13, _, E13, ok_Crowded Fe13 E13 TW GW, be13⟩
  have c14 : Cla l.prog w K mg base "BadRow" ["row"] ["self", "row"] fT (cl 14) (spX1 (cl 14) "row" "badrow") := ⟨fe14, _, E14, ok_BadRow Fe14 E14 TW GW, be14⟩
  have c15 : Cla l.prog w K mg base "NoDeed" ["word"] ["self", "word"] fT (cl 15) (spX1 (cl 15) "word" "nodeed") := ⟨fe15, _, E15, ok_NoDeed Fe15 E15 TW GW, be15⟩
  have c16 : Cla l.prog w K mg base "Unlike" ["what"] ["self", "what"] fT (cl 16) (spX1 (cl 16) "what" "unlike") := ⟨fe16, _, E16, ok_Unlike Fe16 E16 TW GW, be16⟩
  have c17 : Cla l.prog w K mg base "BadCount" ["what", "count"] ["self", "what", "count"] fT (cl 17) (spX2 (cl 17) "what" "count" "badcount") := ⟨fe17, _, E17, ok_BadCount Fe17 E17 TW GW, be17⟩
  have c18 : Cla l.prog w K mg base "Upward" ["maker", "made"] ["self", "maker", "made"] fT (cl 18) (spX2 (cl 18) "maker" "made" "upward") := ⟨fe18, _, E18, ok_Upward Fe18 E18 TW GW, be18⟩
  have c19 : Cla l.prog w K mg base "NoMaking" ["maker", "made"] ["self", "maker", "made"] fT (cl 19) (spX2 (cl 19) "maker" "made" "nomaking") := ⟨fe19, _, E19, ok_NoMaking Fe19 E19 TW GW, be19⟩
  have c20 : Cla l.prog w K mg base "Freer" ["name", "row"] ["self", "name", "row"] fT (cl 20) (spX2 (cl 20) "name" "row" "freer") := ⟨fe20, _, E20, ok_Freer Fe20 E20 TW GW, be20⟩
  have c21 : Cla l.prog w K mg base "NotHeld" ["x", "word", "y"] ["self", "x", "word", "y"] fT (cl 21) (spX3 (cl 21) "x" "word" "y" "notheld") := ⟨fe21, _, E21, ok_NotHeld Fe21 E21 TW GW, be21⟩
  have c22 : Cla l.prog w K mg base "Stands" ["x", "word", "y"] ["self", "x", "word", "y"] fT (cl 22) (spX3 (cl 22) "x" "word" "y" "stands") := ⟨fe22, _, E22, ok_Stands Fe22 E22 TW GW, be22⟩
  have c23 : Cla l.prog w K mg base "Never" ["x", "word", "y"] ["self", "x", "word", "y"] fT (cl 23) (spX3 (cl 23) "x" "word" "y" "never") := ⟨fe23, _, E23, ok_Never Fe23 E23 TW GW, be23⟩
  have c24 : Cla l.prog w K mg base "NoCure" ["x", "word", "y"] ["self", "x", "word", "y"] fT (cl 24) (spX3 (cl 24) "x" "word" "y" "nocure") := ⟨fe24, _, E24, ok_NoCure Fe24 E24 TW GW, be24⟩
  have c25 : Cla l.prog w K mg base "Barred" ["name", "spots", "deeds"] ["self", "name", "spots", "deeds"] fT (cl 25) (spXB K (cl 25) "name" "spots" "deeds" "barred") := ⟨fe25, _, E25, ok_Barred Fe25 E25 TW GW tl, be25⟩
  have c26 : Cla l.prog w K mg base "Full" [] ["self"] fT (cl 26) (spX0 (cl 26) "full") := ⟨fe26, _, E26, ok_Full Fe26 E26 TW GW, be26⟩
  have c27 : Cla l.prog w K mg base "NoBack" [] ["self"] fT (cl 27) (spX0 (cl 27) "noback") := ⟨fe27, _, E27, ok_NoBack Fe27 E27 TW GW, be27⟩
  have GNm : FnOk l.prog w K mg base CX0 2 _ _ ["_law_s", "_law_taken"] spNam := ok_nam F3 T tstr D2
  have GN : FnOk l.prog w K mg base CX0 3 _ _ ["_law_s", "_law_many"] spNms := ok_nms F4 T D3 GNm
  have GO : FnOk l.prog w K mg base CX0 4 _ _ ["_law_k", "_law_a"] (spOne cl) := ok_one F5 c0 c1 c2 c3 c4 c5 c6 c7 c8 c9 c10 c11
  have GR : FnOk l.prog w K mg base CX0 4 _ _ ["_law_k", "_law_a", "_law_b", "_law_c", "_law_n", "_law_rows"] (spOth cl) := ok_oth F6 c12 c13 c14 c15 c16 c17 c18 c19 c20 c21 c22 c23 c24 c25 c26 c27
  have GK : FnOk l.prog w K mg base CX0 1 _ _ ["_law_e"] (spKnd cl) := ok_knd F7 T AC E0.g E1.g E2.g E3.g E4.g E5.g E6.g E7.g E8.g E9.g E10.g E11.g E12.g E13.g E14.g E15.g E16.g E17.g E18.g E19.g E20.g E21.g E22.g E23.g E24.g E25.g E26.g E27.g
  have GF : FnOk l.prog w K mg base CX0 2 _ _ ["_law_k", "_law_e"] (spFld K cl) := ok_fld F8 D9 AC NF
  have GTl : FnOk l.prog w K mg base CX0 1 fT _ ["self"] (spTld K) := ok_tld FT
  exact ok_law F11 T tsum D0 D1 D2 D4 D5 D6 D7 D8 D10 GN GO GR GK GF GTl bT fnT kT TW.g AC
end Wm
open PySem PySem.W PyProof.Rows in
set_option maxRecDepth 100000 in
set_option maxHeartbeats 0 in
theorem PySem.Challenge.cw_whomay_k10_refusals_told_holds : PySem.Challenge.rw_whomay_k10_refusals_told.Holds := by
  w_on; o_law; k_head; (case hw => w_witness2)
  k_fill
  refine L2.walk_of (n := 63) (k := 5) (x := "_law_script") (CX := fun _ => L2.CX0) (sp := fun w => Wm.spLaw _) (l := PySem.Challenge.rw_whomay_k10_refusals_told) rfl (by decide) rfl ⟨rfl, by decide, by decide⟩ (fun w h Y => PySem.W.kIn_of Y) ?F (fun _ _ a ns hl _ hS => ⟨a, ns, rfl, hS, hl, fun _ => rfl⟩) fun _ _ _ _ _ z => z
  case F =>
    intro w mg fa h KX G hmg
    refine' Wm.all_mk KX G hmg ?a0 ?l0 ?c0 ?k0 ?a1 ?l1 ?c1 ?k1 ?a2 ?l2 ?c2 ?k2 ?a3 ?l3 ?c3 ?k3 ?a4 ?l4 ?c4 ?k4 ?a5 ?l5 ?c5 ?k5 ?a6 ?l6 ?c6 ?k6 ?a7 ?l7 ?c7 ?k7 ?a8 ?l8 ?c8 ?k8 ?a9 ?l9 ?c9 ?k9 ?a10 ?l10 ?c10 ?k10 ?a11 ?l11 ?c11 ?k11 ?gW ?mW ?lW ?cW ?kW ?dW ?rW ?sW ?tW ?lT ?cT ?kT ?fnT ?hn ?ht ?gC0 ?iC0 ?le0 ?ce0 ?ke0 ?xC0 ?bC0 ?gC1 ?iC1 ?le1 ?ce1 ?ke1 ?xC1 ?bC1 ?gC2 ?iC2 ?le2 ?ce2 ?ke2 ?xC2 ?bC2 ?gC3 ?iC3 ?le3 ?ce3 ?ke3 ?xC3 ?bC3 ?gC4 ?iC4 ?le4 ?ce4 ?ke4 ?xC4 ?bC4 ?gC5 ?iC5 ?le5 ?ce5 ?ke5 ?xC5 ?bC5 ?gC6 ?iC6 ?le6 ?ce6 ?ke6 ?xC6 ?bC6 ?gC7 ?iC7 ?le7 ?ce7 ?ke7 ?xC7 ?bC7 ?gC8 ?iC8 ?le8 ?ce8 ?ke8 ?xC8 ?bC8 ?gC9 ?iC9 ?le9 ?ce9 ?ke9 ?xC9 ?bC9 ?gC10 ?iC10 ?le10 ?ce10 ?ke10 ?xC10 ?bC10 ?gC11 ?iC11 ?le11 ?ce11 ?ke11 ?xC11 ?bC11 ?gC12 ?iC12 ?le12 ?ce12 ?ke12 ?xC12 ?bC12 ?gC13 ?iC13 ?le13 ?ce13 ?ke13 ?xC13 ?bC13 ?gC14 ?iC14 ?le14 ?ce14 ?ke14 ?xC14 ?bC14 ?gC15 ?iC15 ?le15 ?ce15 ?ke15 ?xC15 ?bC15 ?gC16 ?iC16 ?le16 ?ce16 ?ke16 ?xC16 ?bC16 ?gC17 ?iC17 ?le17 ?ce17 ?ke17 ?xC17 ?bC17 ?gC18 ?iC18 ?le18 ?ce18 ?ke18 ?xC18 ?bC18 ?gC19 ?iC19 ?le19 ?ce19 ?ke19 ?xC19 ?bC19 ?gC20 ?iC20 ?le20 ?ce20 ?ke20 ?xC20 ?bC20 ?gC21 ?iC21 ?le21 ?ce21 ?ke21 ?xC21 ?bC21 ?gC22 ?iC22 ?le22 ?ce22 ?ke22 ?xC22 ?bC22 ?gC23 ?iC23 ?le23 ?ce23 ?ke23 ?xC23 ?bC23 ?gC24 ?iC24 ?le24 ?ce24 ?ke24 ?xC24 ?bC24 ?gC25 ?iC25 ?le25 ?ce25 ?ke25 ?xC25 ?bC25 ?gC26 ?iC26 ?le26 ?ce26 ?ke26 ?xC26 ?bC26 ?gC27 ?iC27 ?le27 ?ce27 ?ke27 ?xC27 ?bC27 ?kitA ?kwA ?kvA ?z_abs ?z_int ?z_len ?z_range ?z_all ?z_tuple ?z_enumerate ?z_isinstance ?z_ve ?z_list ?z_str ?z_sum
    (case a0 => k_is)
    (case l0 => k_is)
    (case c0 => k_is)
    (case k0 => k_is)
    (case a1 => k_is)
    (case l1 => k_is)
    (case c1 => k_is)
    (case k1 => k_is)
    (case a2 => k_is)
    (case l2 => k_is)
    (case c2 => k_is)
    (case k2 => k_is)
    (case a3 => k_is)
    (case l3 => k_is)
    (case c3 => k_is)
    (case k3 => k_is)
    (case a4 => k_is)
    (case l4 => k_is)
    (case c4 => k_is)
    (case k4 => k_is)
    (case a5 => k_is)
    (case l5 => k_is)
    (case c5 => k_is)
    (case k5 => k_is)
    (case a6 => k_is)
    (case l6 => k_is)
    (case c6 => k_is)
    (case k6 => k_is)
    (case a7 => k_is)
    (case l7 => k_is)
    (case c7 => k_is)
    (case k7 => k_is)
    (case a8 => k_is)
    (case l8 => k_is)
    (case c8 => k_is)
    (case k8 => k_is)
    (case a9 => k_is)
    (case l9 => k_is)
    (case c9 => k_is)
    (case k9 => k_is)
    (case a10 => k_is)
    (case l10 => k_is)
    (case c10 => k_is)
    (case k10 => k_is)
    (case a11 => k_is)
    (case l11 => k_is)
    (case c11 => k_is)
    (case k11 => k_is)
    (case gW => k_is)
    (case mW => k_is)
    (case lW => k_is)
    (case cW => k_is)
    (case kW => k_is)
    (case dW => k_is)
    (case rW => k_is)
    (case sW => k_is)
    (case tW => k_is)
    (case lT => k_is)
    (case cT => k_is)
    (case kT => k_is)
    (case fnT => k_is)
    (case hn => k_is)
    (case ht => k_is)
    (case gC0 => k_is)
    (case iC0 => k_is)
    (case le0 => k_is)
    (case ce0 => k_is)
    (case ke0 => k_is)
    (case xC0 => k_is)
    (case bC0 => first | decide +kernel | rfl)
    (case gC1 => k_is)
    (case iC1 => k_is)
    (case le1 => k_is)
    (case ce1 => k_is)
    (case ke1 => k_is)
    (case xC1 => k_is)
    (case bC1 => first | decide +kernel | rfl)
    (case gC2 => k_is)
    (case iC2 => k_is)
    (case le2 => k_is)
    (case ce2 => k_is)
    (case ke2 => k_is)
    (case xC2 => k_is)
    (case bC2 => first | decide +kernel | rfl)
    (case gC3 => k_is)
    (case iC3 => k_is)
    (case le3 => k_is)
    (case ce3 => k_is)
    (case ke3 => k_is)
    (case xC3 => k_is)
    (case bC3 => first | decide +kernel | rfl)
    (case gC4 => k_is)
    (case iC4 => k_is)
    (case le4 => k_is)
    (case ce4 => k_is)
    (case ke4 => k_is)
    (case xC4 => k_is)
    (case bC4 => first | decide +kernel | rfl)
    (case gC5 => k_is)
    (case iC5 => k_is)
    (case le5 => k_is)
    (case ce5 => k_is)
    (case ke5 => k_is)
    (case xC5 => k_is)
    (case bC5 => first | decide +kernel | rfl)
    (case gC6 => k_is)
    (case iC6 => k_is)
    (case le6 => k_is)
    (case ce6 => k_is)
    (case ke6 => k_is)
    (case xC6 => k_is)
    (case bC6 => first | decide +kernel | rfl)
    (case gC7 => k_is)
    (case iC7 => k_is)
    (case le7 => k_is)
    (case ce7 => k_is)
    (case ke7 => k_is)
    (case xC7 => k_is)
    (case bC7 => first | decide +kernel | rfl)
    (case gC8 => k_is)
    (case iC8 => k_is)
    (case le8 => k_is)
    (case ce8 => k_is)
    (case ke8 => k_is)
    (case xC8 => k_is)
    (case bC8 => first | decide +kernel | rfl)
    (case gC9 => k_is)
    (case iC9 => k_is)
    (case le9 => k_is)
    (case ce9 => k_is)
    (case ke9 => k_is)
    (case xC9 => k_is)
    (case bC9 => first | decide +kernel | rfl)
    (case gC10 => k_is)
    (case iC10 => k_is)
    (case le10 => k_is)
    (case ce10 => k_is)
    (case ke10 => k_is)
    (case xC10 => k_is)
    (case bC10 => first | decide +kernel | rfl)
    (case gC11 => k_is)
    (case iC11 => k_is)
    (case le11 => k_is)
    (case ce11 => k_is)
    (case ke11 => k_is)
    (case xC11 => k_is)
    (case bC11 => first | decide +kernel | rfl)
    (case gC12 => k_is)
    (case iC12 => k_is)
    (case le12 => k_is)
    (case ce12 => k_is)
    (case ke12 => k_is)
    (case xC12 => k_is)
    (case bC12 => first | decide +kernel | rfl)
    (case gC13 => k_is)
    (case iC13 => k_is)
    (case le13 => k_is)
    (case ce13 => k_is)
    (case ke13 => k_is)
    (case xC13 => k_is)
    (case bC13 => first | decide +kernel | rfl)
    (case gC14 => k_is)
    (case iC14 => k_is)
    (case le14 => k_is)
    (case ce14 => k_is)
    (case ke14 => k_is)
    (case xC14 => k_is)
    (case bC14 => first | decide +kernel | rfl)
    (case gC15 => k_is)
    (case iC15 => k_is)
    (case le15 => k_is)
    (case ce15 => k_is)
    (case ke15 => k_is)
    (case xC15 => k_is)
    (case bC15 => first | decide +kernel | rfl)
    (case gC16 => k_is)
    (case iC16 => k_is)
    (case le16 => k_is)
    (case ce16 => k_is)
    (case ke16 => k_is)
    (case xC16 => k_is)
    (case bC16 => first | decide +kernel | rfl)
    (case gC17 => k_is)
    (case iC17 => k_is)
    (case le17 => k_is)
    (case ce17 => k_is)
    (case ke17 => k_is)
    (case xC17 => k_is)
    (case bC17 => first | decide +kernel | rfl)
    (case gC18 => k_is)
    (case iC18 => k_is)
    (case le18 => k_is)
    (case ce18 => k_is)
    (case ke18 => k_is)
    (case xC18 => k_is)
    (case bC18 => first | decide +kernel | rfl)
    (case gC19 => k_is)
    (case iC19 => k_is)
    (case le19 => k_is)
    (case ce19 => k_is)
    (case ke19 => k_is)
    (case xC19 => k_is)
    (case bC19 => first | decide +kernel | rfl)
    (case gC20 => k_is)
    (case iC20 => k_is)
    (case le20 => k_is)
    (case ce20 => k_is)
    (case ke20 => k_is)
    (case xC20 => k_is)
    (case bC20 => first | decide +kernel | rfl)
    (case gC21 => k_is)
    (case iC21 => k_is)
    (case le21 => k_is)
    (case ce21 => k_is)
    (case ke21 => k_is)
    (case xC21 => k_is)
    (case bC21 => first | decide +kernel | rfl)
    (case gC22 => k_is)
    (case iC22 => k_is)
    (case le22 => k_is)
    (case ce22 => k_is)
    (case ke22 => k_is)
    (case xC22 => k_is)
    (case bC22 => first | decide +kernel | rfl)
    (case gC23 => k_is)
    (case iC23 => k_is)
    (case le23 => k_is)
    (case ce23 => k_is)
    (case ke23 => k_is)
    (case xC23 => k_is)
    (case bC23 => first | decide +kernel | rfl)
    (case gC24 => k_is)
    (case iC24 => k_is)
    (case le24 => k_is)
    (case ce24 => k_is)
    (case ke24 => k_is)
    (case xC24 => k_is)
    (case bC24 => first | decide +kernel | rfl)
    (case gC25 => k_is)
    (case iC25 => k_is)
    (case le25 => k_is)
    (case ce25 => k_is)
    (case ke25 => k_is)
    (case xC25 => k_is)
    (case bC25 => first | decide +kernel | rfl)
    (case gC26 => k_is)
    (case iC26 => k_is)
    (case le26 => k_is)
    (case ce26 => k_is)
    (case ke26 => k_is)
    (case xC26 => k_is)
    (case bC26 => first | decide +kernel | rfl)
    (case gC27 => k_is)
    (case iC27 => k_is)
    (case le27 => k_is)
    (case ce27 => k_is)
    (case ke27 => k_is)
    (case xC27 => k_is)
    (case bC27 => first | decide +kernel | rfl)
    (case kitA => first | decide +kernel | rfl)
    (case kwA => first | decide +kernel | rfl)
    (case kvA => first | decide +kernel | rfl)
    (case z_abs => k_is)
    (case z_int => k_is)
    (case z_len => k_is)
    (case z_range => k_is)
    (case z_all => k_is)
    (case z_tuple => k_is)
    (case z_enumerate => k_is)
    (case z_isinstance => k_is)
    (case z_ve => k_is)
    (case z_list => k_is)
    (case z_str => k_is)
    (case z_sum => k_is)
