import PyProof.Rows.All
import Wide.All
import OpenK.AllK
import Wide.FinOn
import HandS.ForMost
import HandS.ForExc
import HandS.Walk
import HandS.Star
import HandS.Style
import HandS.TupAny
import HandS.ExcInit
import HandS.ExcIs
import HandS.ExcField
import HandS.Defaults
import HandS.Wide
import HandS.ClsMeth
import KE.KExcIs
import KE.GoesEnum
import KE.KIsAll
import PySem.Challenge.RW_whomay_k01_names
set_option Elab.async false
set_option linter.all false
set_option maxRecDepth 100000
set_option maxHeartbeats 4000000
namespace Wm
open PySem L2
def top (i : Nat) : Stmt := PySem.Challenge.pw_whomay_k01_names.main.body.getD i (.Pass ⟨0, 0, 0, 0⟩)
abbrev sState : Stmt := top 35
abbrev sDigit : Stmt := top 36
/-- the digits' state at p -/
def StOk (H : Hp) (p : Addr) : Prop := ∃ a b c : Int, H p = some (.lst [.int a, .int b, .int c]) ∧ 0 ≤ a ∧ 0 ≤ b ∧ b ≤ 2147483636 ∧ 0 ≤ c ∧ c < 2147483648
/-- all that was tracked is as it was, but at p -/
def But (p : Addr) (H H' : Hp) : Prop := ∀ q o, q ≠ p → H q = some o → H' q = some o
theorem But.refl (p : Addr) (H : Hp) : But p H H := fun _ _ _ h => h
theorem But.trans {p : Addr} {H H1 H2 : Hp} (a : But p H H1) (b : But p H1 H2) : But p H H2 := fun q o n h => b q o n (a q o n h)
theorem But.upd {p : Addr} {H : Hp} {o : HO} : But p H (upd H p o) := fun q o n h => by rw [upd_ne n]; exact h
theorem Same.but {p : Addr} {H H1 : Hp} (a : Same H H1) : But p H H1 := fun q o _ h => a q o h
theorem Same.upd {p : Addr} {H : Hp} {o : HO} (n : H p = none) : Same H (upd H p o) := fun q o h => by rw [upd_ne (ne_of_none h n)]; exact h
theorem But.same {p : Addr} {H0 H H1 : Hp} (n : H0 p = none) (a : Same H0 H) (b : But p H H1) : Same H0 H1 := fun q o h => b q o (ne_of_none h n) (a q o h)
def spState : Sp := fun vs H Q _ => ∃ i : Int, vs = [.int i] ∧ ∀ p H', H p = none → Same H H' → StOk H' p → Q (.ref p) H'
def spDigit : Sp := fun vs H Q _ => ∃ (p : Addr) (n : Int), vs = [.ref p, .int n] ∧ StOk H p ∧ 0 < n ∧ n < 1073741824 ∧ ∀ (d : Int) H', 0 ≤ d → d < n → But p H H' → StOk H' p → Q (.int d) H'
structure TxB (mg : Str → Option Value) : Prop where
  abs : mg "abs" = none
  int : mg "int" = none
  len : mg "len" = none
  range : mg "range" = none
  all : mg "all" = none
  tuple : mg "tuple" = none
  enumerate : mg "enumerate" = none
  isinstance : mg "isinstance" = none
  ve : mg "ValueError" = none
section
variable {P : Program} {w : World} {K : PySem.W.Frag} {mg : Str → Option Value} {base : Heap}
theorem scState : FnScope ["_law_cell"] ["_law_cell"] (defScope sState) := ⟨rfl, rfl, rfl, by decide +kernel, rfl, by decide +kernel, by decide +kernel⟩
theorem ok_state {f : Addr} {fd : FuncData} (F : Fun K "_law_state" "_law_state" sState f fd) (T : TxB mg) : FnOk P w K mg base CX0 1 f fd ["_law_cell"] spState := by
  refine F.ok scState (fun vs H Q E h => ?_) (fun cdv A outer s H vs Q E hr h => ?_)
  · obtain ⟨i, rfl, _⟩ := h
    rfl
  · obtain ⟨i, rfl, k⟩ := h
    refine ⟨_, pss_cons (ps_set (i := 0) scState.nd rfl (Or.inl rfl) (pe_callB call_abs (by rfl) T.abs (by decide +kernel) (pa_cons (pv 0) pa_nil)))
      (pss_one (ps_ret (pe_lst (pa_cons (pe_op op_mul (pv 0) (pe_callTy call_int1 (by rfl) T.int (by decide +kernel) (pa_cons (pe_cmpR op_ge (pv 0) (pe_op op_pow pe_int pe_int) (nomark _)) pa_nil)))
        (pa_cons (pe_op op_add (pe_op op_mod (pv 0) pe_int) pe_int) (pa_cons (pe_op op_mod (pv 0) pe_int) pa_nil)))))), ?_⟩
    refine ⟨_, rfl, _, rfl, ?_⟩
    generalize hj : (if i < 0 then -i else i) = j
    have hj0 : 0 ≤ j := by rw [← hj]; split <;> omega
    refine ⟨_, rfl, _, rfl, _, _, rfl, rfl, ⟨by decide, by decide, by decide⟩, _, _, rfl, rfl, .inr ⟨_, rfl, ?_⟩⟩
    refine ⟨_, _, rfl, rfl, .inr ⟨?_, ?_⟩, _, rfl, _, _, rfl, rfl, (by show (0 : Int) < 2147483629; decide), _, _, rfl, rfl, _, rfl, _, _, rfl, rfl, (by show (0 : Int) < 2147483587; decide), (by show 3 ≤ sizeLine; decide), fun p hp => ?_⟩
    · split <;> decide
    · split <;> decide
    · refine k p _ hp (Same.upd hp) ⟨_, _, _, upd_same, ?_, ?_, ?_, ?_, ?_⟩
      · split
        · omega
        · omega
      · have := Int.emod_nonneg j (show (2147483629 : Int) ≠ 0 by decide); omega
      · have := Int.emod_lt_of_pos j (show (0 : Int) < 2147483629 by decide); omega
      · exact Int.emod_nonneg j (by decide)
      · have := Int.emod_lt_of_pos j (show (0 : Int) < 2147483587 by decide); omega
theorem scDigit : FnScope ["_law_state_here", "_law_base", "_law_found", "_law_more"] ["_law_state_here", "_law_base"] (defScope sDigit) := ⟨rfl, rfl, rfl, by decide +kernel, rfl, by decide +kernel, by decide +kernel⟩
theorem ok_digit {f : Addr} {fd : FuncData} (F : Fun K "_law_digit" "_law_digit" sDigit f fd) : FnOk P w K mg base CX0 1 f fd ["_law_state_here", "_law_base"] spDigit := by
  refine F.ok scDigit (fun vs H Q E h => ?_) (fun cdv A outer s H vs Q E hr h => ?_)
  · obtain ⟨p, n, rfl, _⟩ := h
    rfl
  · obtain ⟨p, n, rfl, ⟨a, b, c, hp, ha, hb, hb2, hc, hc2⟩, hn, hn2, k⟩ := h
    refine ⟨_, pss_cons (ps_if (pt_cmpR op_gt (pe_ix ix_list (pv 0) pe_int (fun _ _ => rfl)) pe_int (nomark _))
        (pss_cons (ps_set (i := 2) scDigit.nd rfl (Or.inl rfl) (pe_op op_mod (pe_ix ix_list (pv 0) pe_int (fun _ _ => rfl)) (pv 1)))
          (pss_cons (ps_asg (pe_op op_fdiv (pe_ix ix_list (pv 0) pe_int (fun _ _ => rfl)) (pv 1)) (pg_sub (pv 0) pe_int set_list)) (pss_one (ps_ret (pv 2))))) pss_nil)
      (pss_cons (ps_set (i := 3) scDigit.nd rfl (Or.inl rfl) (pe_op op_mul (pe_ix ix_list (pv 0) pe_int (fun _ _ => rfl)) (pe_op op_add (pe_op op_fdiv (pe_ix ix_list (pv 0) pe_int (fun _ _ => rfl)) pe_int) pe_int)))
      (pss_cons (ps_asg (pe_op op_add (pe_op op_mod (pe_op op_add (pv 3) (pe_ix ix_list (pv 0) pe_int (fun _ _ => rfl))) pe_int) pe_int) (pg_sub (pv 0) pe_int set_list))
      (pss_one (ps_ret (pe_op op_mod (pe_op op_fdiv (pe_ix ix_list (pv 0) pe_int (fun _ _ => rfl)) pe_int) (pv 1)))))), ?_⟩
    refine ⟨_, rfl, p, _, _, _, rfl, rfl, SqL.of hp, atI_nat (j := 0) rfl, _, _, rfl, rfl, _, rfl, ?_⟩
    refine ite2 (fun h0 => ?_) (fun h0 => ?_)
    · refine ⟨_, rfl, p, _, _, _, rfl, rfl, SqL.of hp, atI_nat (j := 0) rfl, _, rfl, _, _, rfl, rfl, hn, ?_⟩
      refine ⟨_, rfl, p, _, _, _, rfl, rfl, SqL.of hp, atI_nat (j := 0) rfl, _, rfl, _, _, rfl, rfl, ⟨hn, hn2⟩, _, rfl, p, _, _, 0, rfl, rfl, hp, rfl, _, rfl, ?_⟩
      refine k _ _ (Int.emod_nonneg a (by omega)) (Int.emod_lt_of_pos a hn) But.upd ⟨_, _, _, upd_same, ?_, hb, hb2, hc, hc2⟩
      exact Int.ediv_nonneg ha (by omega)
    · refine ⟨_, rfl, p, _, _, _, rfl, rfl, SqL.of hp, atI_nat (j := 1) rfl, _, rfl, p, _, _, _, rfl, rfl, SqL.of hp, atI_nat (j := 1) rfl, _, _, rfl, rfl, ⟨by decide, by decide⟩, _, _, rfl, rfl, _, _, rfl, rfl, .inl ⟨?_, ?_⟩, ?_⟩
      · omega
      · omega
      refine ⟨_, rfl, _, rfl, p, _, _, _, rfl, rfl, SqL.of hp, atI_nat (j := 2) rfl, _, _, rfl, rfl, _, _, rfl, rfl, (by show (0 : Int) < 2147483629; decide), _, _, rfl, rfl, _, rfl, p, _, _, 1, rfl, rfl, hp, rfl, ?_⟩
      generalize hm : (b * (b / 1009 + 69621) + c) % 2147483629 = m
      have hm0 : 0 ≤ m := by rw [← hm]; exact Int.emod_nonneg _ (by decide)
      have hm1 : m < 2147483629 := by rw [← hm]; exact Int.emod_lt_of_pos _ (by decide)
      refine ⟨_, rfl, p, _, _, _, rfl, rfl, SqL.of upd_same, atI_nat (j := 1) rfl, _, _, rfl, rfl, ⟨by decide, by decide⟩, _, rfl, _, _, rfl, rfl, hn, ?_⟩
      exact k _ _ (Int.emod_nonneg _ (by omega)) (Int.emod_lt_of_pos _ hn) But.upd ⟨_, _, _, upd_same, ha, by omega, by omega, hc, hc2⟩
end
end Wm
namespace Wm
open PySem L2
abbrev sSign : Stmt := top 37
abbrev sPlain : Stmt := top 38
abbrev sText : Stmt := top 39
abbrev sLName : Stmt := top 40
/-- a def of the module's top -/
structure Dn (K : PySem.W.Frag) (mg : Str → Option Value) (x : Str) (st : Stmt) (ps : List Str) (f : Addr) (fd : FuncData) : Prop where
  F : Fun K x x st f fd
  g : mg x = some (.ref f)
  b : Binds K fd ps []
theorem str_at (z : Str) {i : Int} (h0 : 0 ≤ i) (h1 : i < z.length) : ∃ c, z.cps[i.toNat]? = some c := by
  have h : i.toNat < z.cps.size := by
    have e : z.length = z.cps.size := rfl
    omega
  exact ⟨z.cps[i.toNat], Array.getElem?_eq_getElem h⟩
/-- every sign is one of unicode's -/
def okS (z : Str) : Prop := ∀ c ∈ z.cps.toList, c < 1114112
theorem okS_one {c : Nat} (h : c < 1114112) : okS ⟨#[c]⟩ := fun d hd => by
  have e : d = c := by simpa using hd
  rw [e]
  exact h
theorem okS_app {a b : Str} (ha : okS a) (hb : okS b) : okS (a ++ b) := fun c hc => by
  have e : (a ++ b).cps.toList = a.cps.toList ++ b.cps.toList := by
    show (a.cps ++ b.cps).toList = _
    simp
  rw [e] at hc
  rcases List.mem_append.mp hc with h | h
  · exact ha c h
  · exact hb c h
theorem rdItem {z : Str} {i : Int} {n : Nat} {H : Hp} {Q : VK} (hz : z.length = n) (h0 : 0 ≤ i) (h1 : i < n) (hn : n < 1000000) (h : ∀ c, z.cps.toList[i.toNat]? = some c → Q (.str ⟨#[c]⟩) H) : rIxS (.str z) (.int i) H Q := by
  have h2 : i < z.length := by rw [hz]; exact h1
  obtain ⟨c, hc⟩ := str_at z h0 h2
  have hl : z.cps.toList[i.toNat]? = some c := by simpa using hc
  have e : i = ((i.toNat : Nat) : Int) := by omega
  refine ⟨z, i, c, rfl, rfl, by rw [hz]; exact Nat.le_trans (Nat.le_of_lt hn) (by decide), ?_, h c hl⟩
  rw [e]
  exact atI_nat hl
theorem sg94 : ∀ c ∈ (PySem.Str.ofString " !\"#$&'()*+,-./0123456789:;<=>?@ABCDEFGHIJKLMNOPQRSTUVWXYZ[\\]^_`" ++ PySem.Str.ofString "abcdefghijklmnopqrstuvwxyz{|}~").cps.toList, c < 1114112 := by decide +kernel
theorem abcOk : ∀ c ∈ (PySem.Str.ofString "abcdefghijklmnopqrstuvwxyz0123456789").cps.toList, c < 1114112 := by decide +kernel
theorem abc36 : (PySem.Str.ofString "abcdefghijklmnopqrstuvwxyz0123456789").length = 36 := by decide +kernel
theorem len_app (a b : Str) : (a ++ b).length = a.length + b.length := by
  show (a.cps ++ b.cps).size = a.cps.size + b.cps.size
  exact Array.size_append
theorem len_one (c : Nat) : (⟨#[c]⟩ : Str).length = 1 := rfl
def spSign : Sp := fun vs H Q _ => ∃ i : Int, vs = [.int i] ∧ ∀ c, c < 1114112 → Q (.str ⟨#[c]⟩) H
def spPlain : Sp := fun vs H Q _ => ∃ (p : Addr) (n : Int), vs = [.ref p, .int n] ∧ StOk H p ∧ 1 ≤ n ∧ n ≤ 15 ∧ ∀ (z : Str) H', z.length ≤ 15 → okS z → But p H H' → StOk H' p → Q (.str z) H'
def spText : Sp := fun vs H Q _ => ∃ (p : Addr), vs = [.ref p] ∧ StOk H p ∧ ∀ (z : Str) H', z.length ≤ 40 → okS z → But p H H' → StOk H' p → Q (.str z) H'
section
variable {P : Program} {w : World} {K : PySem.W.Frag} {mg : Str → Option Value} {base : Heap}
theorem scSign : FnScope ["_law_x", "_law_some"] ["_law_x"] (defScope sSign) := ⟨rfl, rfl, rfl, by decide +kernel, rfl, by decide +kernel, by decide +kernel⟩
theorem ok_sign {f : Addr} {fd : FuncData} (F : Fun K "_law_sign" "_law_sign" sSign f fd) : FnOk P w K mg base CX0 1 f fd ["_law_x"] spSign := by
  refine F.ok scSign (fun vs H Q E h => ?_) (fun cdv A outer s H vs Q E hr h => ?_)
  · obtain ⟨i, rfl, _⟩ := h
    rfl
  · obtain ⟨i, rfl, k⟩ := h
    refine ⟨_, pss_cons (ps_set (i := 1) scSign.nd rfl (Or.inl rfl) pe_str) (pss_cons (ps_set (i := 1) scSign.nd rfl (Or.inl rfl) (pe_op op_add_str (pv 1) pe_str))
      (pss_one (ps_ret (pe_ix ix_str (pv 1) (pe_op op_mod (pv 0) pe_int) (fun _ _ => rfl))))), ?_⟩
    refine ⟨_, rfl, _, _, rfl, rfl, (by decide +kernel), _, rfl, _, rfl, _, _, rfl, rfl, (by show (0 : Int) < 94; decide), ?_⟩
    have h0 : 0 ≤ i % 94 := Int.emod_nonneg i (by decide)
    have h1 : i % 94 < 94 := Int.emod_lt_of_pos i (by decide)
    exact rdItem (n := 94) (by decide +kernel) h0 (by omega) (by decide) fun c hc => k c (sg94 c (List.mem_of_getElem? hc))
theorem scPlain : FnScope ["_law_s", "_law_many", "_law_some", "_law_word", "_law_k"] ["_law_s", "_law_many"] (defScope sPlain) := ⟨rfl, rfl, rfl, by decide +kernel, rfl, by decide +kernel, by decide +kernel⟩
theorem ok_plain {f fg : Addr} {fd fdg : FuncData} (F : Fun K "_law_plain" "_law_plain" sPlain f fd) (T : TxB mg) (D : Dn K mg "_law_digit" sDigit ["_law_state_here", "_law_base"] fg fdg) : FnOk P w K mg base CX0 2 f fd ["_law_s", "_law_many"] spPlain := by
  have G : FnOk P w K mg base CX0 1 fg fdg ["_law_state_here", "_law_base"] spDigit := ok_digit D.F
  refine F.ok scPlain (fun vs H Q E h => ?_) (fun cdv A outer s H vs Q E hr h => ?_)
  · obtain ⟨p, n, rfl, _⟩ := h
    rfl
  · obtain ⟨p, n, rfl, hS, hn, hn2, k⟩ := h
    refine ⟨_, pss_cons (ps_set (i := 2) scPlain.nd rfl (Or.inl rfl) pe_str) (pss_cons (ps_set (i := 3) scPlain.nd rfl (Or.inl rfl) (pe_ix ix_str (pv 2) (pe_call G hr rfl D.g D.F.kp D.b .nil pass0 (pa_cons (pv 0) (pa_cons pe_int pa_nil))) (fun _ _ => rfl)))
      (pss_cons (ps_for PassesOwn.never rfl (pi_range1 rfl T.range (pa_cons (pe_op op_sub (pv 1) pe_int) pa_nil)) (pg_name (i := 4) scPlain.nd rfl (Or.inl rfl))
        (pss_one (ps_set (i := 3) scPlain.nd rfl (Or.inl rfl) (pe_op op_add_str (pv 3) (pe_ix ix_str (pv 2) (pe_call G hr rfl D.g D.F.kp D.b .nil pass0 (pa_cons (pv 0) (pa_cons pe_int pa_nil))) (fun _ _ => rfl))))))
      (pss_one (ps_ret (pv 3))))), ?_⟩
    refine ⟨_, rfl, _, rfl, p, _, rfl, hS, by decide, by decide, fun d H1 d0 d1 B1 S1 => ?_⟩
    refine rdItem abc36 d0 (by omega) (by decide) fun c hc => ?_
    refine ⟨_, rfl, _, _, rfl, rfl, n - 1, rfl, by omega, by omega, ?_⟩
    refine for_range (n := (n - 1).toNat) (fun i σ H' => ∃ (z : Str) (v : Option V), σ = [some (.ref p), some (.int n), some (.str (PySem.Str.ofString "abcdefghijklmnopqrstuvwxyz0123456789")), some (.str z), v] ∧ z.length ≤ i + 1 ∧ okS z ∧ But p H H' ∧ StOk H' p)
      ⟨⟨#[c]⟩, none, rfl, Nat.le_refl _, okS_one (abcOk c (List.mem_of_getElem? hc)), B1, S1⟩ ?_ ?_
    · rintro i σ H' hi ⟨z, v, rfl, hz, ho, B, S⟩
      refine ⟨_, rfl, _, rfl, _, rfl, p, _, rfl, S, by decide, by decide, fun d H2 d0 d1 B2 S2 => ?_⟩
      refine rdItem abc36 d0 (by omega) (by decide) fun c hc => ?_
      refine ⟨_, _, rfl, rfl, ?_, ?_⟩
      · rw [len_one]
        exact Nat.le_trans (show z.length + 1 ≤ 100 by omega) (by decide)
      · refine ⟨_, _, rfl, ?_, okS_app ho (okS_one (abcOk c (List.mem_of_getElem? hc))), B.trans B2, S2⟩
        rw [len_app, len_one]
        omega
    · rintro σ H' ⟨z, v, rfl, hz, ho, B, S⟩
      exact ⟨_, rfl, k z H' (by omega) ho B S⟩
end
end Wm
namespace Wm
open PySem L2
theorem strs_at {zs : List Str} {n : Nat} (h : ∀ z ∈ zs, z.length ≤ n) (ho : ∀ z ∈ zs, ∀ c ∈ z.cps.toList, c < 1114112) {j : Nat} (hj : j < zs.length) : ∃ z, (zs.map V.str)[j]? = some (.str z) ∧ z.length ≤ n ∧ okS z :=
  ⟨zs[j], by simp [hj], h _ (List.getElem_mem hj), ho _ (List.getElem_mem hj)⟩
theorem okS_cut {z : Str} (h : okS z) (lo hi : Option Int) : okS (cutS z lo hi) := fun c hc => by
  have hc' : c ∈ (z.cps.toList.drop (HT.sIx z.length 0 lo)).take (HT.sIx z.length z.length hi - HT.sIx z.length 0 lo) := hc
  exact h c (List.mem_of_mem_drop (List.mem_of_mem_take hc'))
theorem okS_join {a : Str} {ys : List Str} (ha : okS a) (h : ∀ y ∈ ys, okS y) : okS (Txt.join a ys) := by
  have e : Txt.join a ys = Str.join a ys := StrLaws.glued_eq_join a ys
  rw [e]
  clear e
  induction ys with
  | nil => exact fun c hc => (List.not_mem_nil (show c ∈ ([] : List Nat) from hc)).elim
  | cons y r ih =>
    cases r with
    | nil => exact h y List.mem_cons_self
    | cons z r =>
      show okS (y ++ a ++ Str.join a (z :: r))
      exact okS_app (okS_app (h y List.mem_cons_self) ha) (ih fun x hx => h x (List.mem_cons_of_mem _ hx))
theorem rdList {K : PySem.W.Frag} {p : Addr} {xs : List V} {i : Int} {j : Nat} {v : V} {H : Hp} {Q : VK} (hp : H p = some (.lst xs)) (e : i = (j : Int)) (hv : xs[j]? = some v) (h : Q v H) : rIxL K (.ref p) (.int i) H Q :=
  ⟨p, xs, i, v, rfl, rfl, SqL.of hp, at_of e hv, h⟩
theorem But.free {p D : Addr} {H H' : Hp} (b : But p H H') (n : D ≠ p) (h : H' D = none) : H D = none := by
  cases e : H D with
  | none => rfl
  | some o =>
    rw [b D o n e] at h
    cases h
theorem sum_ones : ∀ {ys : List Str}, (∀ y ∈ ys, y.length = 1) → (ys.map (·.length)).sum = ys.length
  | [], _ => rfl
  | y :: ys, h => by
    rw [List.map_cons, List.sum_cons, List.length_cons, h y List.mem_cons_self, sum_ones fun z hz => h z (List.mem_cons_of_mem _ hz)]
    omega
theorem join_len (a : Str) (ys : List Str) : (Txt.join a ys).length ≤ (ys.map (·.length)).sum + ys.length * a.length := by
  show (Builtin.Str.glued a ys).length ≤ _
  rw [StrLaws.glued_eq_join]
  exact StrLaws.join_length_le a ys
section
variable {P : Program} {w : World} {K : PySem.W.Frag} {mg : Str → Option Value} {base : Heap}
theorem scText : FnScope ["_law_s", "_law_kind", "_law_many", "_law_at", "_law_word", "_law_k"] ["_law_s"] (defScope sText) := ⟨rfl, rfl, rfl, by decide +kernel, rfl, by decide +kernel, by decide +kernel⟩
theorem ok_text {f fg fs fp : Addr} {fd fdg fds fdp : FuncData} (F : Fun K "_law_text" "_law_text" sText f fd) (T : TxB mg) (D : Dn K mg "_law_digit" sDigit ["_law_state_here", "_law_base"] fg fdg) (DS : Dn K mg "_law_sign" sSign ["_law_x"] fs fds)
    (DP : Dn K mg "_law_plain" sPlain ["_law_s", "_law_many"] fp fdp) : FnOk P w K mg base CX0 3 f fd ["_law_s"] spText := by
  have G : FnOk P w K mg base CX0 1 fg fdg ["_law_state_here", "_law_base"] spDigit := ok_digit D.F
  have GS : FnOk P w K mg base CX0 1 fs fds ["_law_x"] spSign := ok_sign DS.F
  have GP : FnOk P w K mg base CX0 2 fp fdp ["_law_s", "_law_many"] spPlain := ok_plain DP.F T D
  refine F.ok scText (fun vs H Q E h => ?_) (fun cdv A outer s H vs Q E hr h => ?_)
  · obtain ⟨p, rfl, _⟩ := h
    rfl
  · obtain ⟨p, rfl, hS, k⟩ := h
    have hr1 : Room 1 _ := hr.mono (by decide)
    refine ⟨_, (pss_cons (ps_set (i := 1) scText.nd rfl (Or.inl rfl) (pe_call G hr1 rfl D.g D.F.kp D.b .nil pass0 (pa_cons (pv 0) (pa_cons pe_int pa_nil))))
      (pss_cons (ps_set (i := 2) scText.nd rfl (Or.inl rfl) (pe_op op_add pe_int (pe_call G hr1 rfl D.g D.F.kp D.b .nil pass0 (pa_cons (pv 0) (pa_cons pe_int pa_nil)))))
      (pss_cons (ps_if (pt_cmpR op_eq (pv 1) pe_int (nomark _)) (pss_one (ps_ret (pe_call GP hr rfl DP.g DP.F.kp DP.b .nil pass0 (pa_cons (pv 0) (pa_cons (pv 2) pa_nil))))) pss_nil)
      (pss_cons (ps_if (pt_cmpR op_eq (pv 1) pe_int (nomark _)) (pss_cons (ps_set (i := 3) scText.nd rfl (Or.inl rfl) (pe_call G hr1 rfl D.g D.F.kp D.b .nil pass0 (pa_cons (pv 0) (pa_cons (pv 2) pa_nil))))
      (pss_cons (ps_set (i := 4) scText.nd rfl (Or.inl rfl) (pe_call GP hr rfl DP.g DP.F.kp DP.b .nil pass0 (pa_cons (pv 0) (pa_cons (pv 2) pa_nil))))
      (pss_one (ps_ret (pe_op op_add_str (pe_op op_add_str (pe_slice sl_str (pv 4) po_none (po_some (pv 3))) (pe_call GS hr1 rfl DS.g DS.F.kp DS.b .nil pass0 (pa_cons (pe_call G hr1 rfl D.g D.F.kp D.b .nil pass0 (pa_cons (pv 0) (pa_cons pe_int pa_nil))) pa_nil))) (pe_slice sl_str (pv 4) (po_some (pe_op op_add (pv 3) pe_int)) po_none)))))) pss_nil)
      (pss_cons (ps_if (pt_cmpR op_eq (pv 1) pe_int (nomark _)) (pss_one (ps_ret (pe_call GP hr rfl DP.g DP.F.kp DP.b .nil pass0 (pa_cons (pv 0) (pa_cons (pe_op op_add pe_int (pe_call G hr1 rfl D.g D.F.kp D.b .nil pass0 (pa_cons (pv 0) (pa_cons pe_int pa_nil)))) pa_nil))))) pss_nil)
      (pss_cons (ps_if (pt_cmpR op_eq (pv 1) pe_int (nomark _)) (pss_one (ps_ret (pe_join pe_str (pe_lc (own := [("_law_k", 5)]) (g := gName 5) rfl scText.nd (pi_range1 rfl T.range (pa_cons (pe_call G hr1 rfl D.g D.F.kp D.b .nil pass0 (pa_cons (pv 0) (pa_cons pe_int pa_nil))) pa_nil)) (blkOk_by (N := ["_law_s", "_law_kind", "_law_many", "_law_at", "_law_word", "_law_k"]) (sc := defScope sText) (by decide +kernel)) (fun _ _ _ _ _ => (pg_name (i := 5) scText.nd rfl (Or.inl rfl))) (fun _ _ _ _ _ => pts_nil) (fun _ _ _ _ _ => (pe_call GS hr1 rfl DS.g DS.F.kp DS.b .nil pass0 (pa_cons (pe_call G hr1 rfl D.g D.F.kp D.b .nil pass0 (pa_cons (pv 0) (pa_cons pe_int pa_nil))) pa_nil))))))) pss_nil)
      (pss_one (ps_ret (pe_ix ix_list (pe_lst (pa_cons pe_str (pa_cons pe_str (pa_cons pe_str (pa_cons pe_str (pa_cons pe_str (pa_cons pe_str (pa_cons pe_str (pa_cons pe_str (pa_cons pe_str (pa_cons pe_str (pa_cons pe_str (pa_cons pe_str pa_nil))))))))))))) (pe_op op_sub (pv 2) pe_int) (fun _ _ => rfl)))))))))), ?_⟩
    refine ⟨_, rfl, p, _, rfl, hS, by decide, by decide, fun d1 H1 a1 b1 B1 S1 => ?_⟩
    refine ⟨_, rfl, p, _, rfl, S1, by decide, by decide, fun d2 H2 a2 b2 B2 S2 => ?_⟩
    have B12 := B1.trans B2
    refine ⟨_, _, rfl, rfl, ?_⟩
    refine ⟨_, rfl, rfl, _, rfl, ?_⟩
    refine ite2 (fun _ => ?_) (fun _ => ?_)
    · exact ⟨_, rfl, _, rfl, p, _, rfl, S2, by omega, by omega, fun z H' hz ho B S => k z H' (by omega) ho (B12.trans B) S⟩
    refine ⟨_, rfl, rfl, _, rfl, ?_⟩
    refine ite2 (fun _ => ?_) (fun _ => ?_)
    · refine ⟨_, rfl, _, rfl, p, _, rfl, S2, by omega, by omega, fun d3 H3 a3 b3 B3 S3 => ?_⟩
      refine ⟨_, rfl, _, rfl, p, _, rfl, S3, by omega, by omega, fun z H4 hz ho B4 S4 => ?_⟩
      refine ⟨_, rfl, _, rfl, _, rfl, z, rfl, Nat.le_trans hz (by decide), _, rfl, p, _, rfl, S4, by decide, by decide, fun d5 H5 a5 b5 B5 S5 => ?_⟩
      refine ⟨_, rfl, fun c hc => ?_⟩
      have l1 := cutS_length z none (some d3)
      have l2 := cutS_length z (some (d3 + 1)) none
      refine ⟨_, _, rfl, rfl, ?_, _, rfl, _, rfl, _, _, rfl, rfl, _, rfl, z, rfl, Nat.le_trans hz (by decide), _, _, rfl, rfl, ?_, ?_⟩
      · rw [len_one]
        exact Nat.le_trans (show _ ≤ 100 by omega) (by decide)
      · rw [len_app, len_one]
        exact Nat.le_trans (show _ ≤ 100 by omega) (by decide)
      · refine k _ _ ?_ (okS_app (okS_app (okS_cut ho _ _) (okS_one hc)) (okS_cut ho _ _)) ((B12.trans B3).trans (B4.trans B5)) S5
        rw [len_app, len_app, len_one]
        omega
    refine ⟨_, rfl, rfl, _, rfl, ?_⟩
    refine ite2 (fun _ => ?_) (fun _ => ?_)
    · refine ⟨_, rfl, _, rfl, p, _, rfl, S2, by decide, by decide, fun d3 H3 a3 b3 B3 S3 => ?_⟩
      refine ⟨_, _, rfl, rfl, p, _, rfl, S3, by omega, by omega, fun z H' hz ho B S => k z H' (by omega) ho (B12.trans (B3.trans B)) S⟩
    refine ⟨_, rfl, rfl, _, rfl, ?_⟩
    refine ite2 (fun _ => ?_) (fun _ => ?_)
    · refine ⟨⟨_, rfl⟩, _, rfl, p, _, rfl, S2, by decide, by decide, fun d3 H3 a3 b3 B3 S3 => ?_⟩
      refine ⟨d3, rfl, by omega, by omega, fun D hD => ?_⟩
      refine lc_range (fun i H' => ∃ ys : List Str, H' D = some (.lst (ys.map V.str)) ∧ ys.length ≤ i ∧ (∀ y ∈ ys, y.length = 1) ∧ (∀ y ∈ ys, okS y) ∧ But p H H' ∧ StOk H' p) ?_ ?_ ?_
      · refine ⟨[], upd_same, Nat.le_refl _, fun y hy => (List.not_mem_nil hy).elim, fun y hy => (List.not_mem_nil hy).elim, ?_, ?_⟩
        · exact (B12.trans B3).trans (Same.but (Same.upd hD))
        · obtain ⟨a, b, c, e, r⟩ := S3
          exact ⟨a, b, c, Same.upd hD _ _ e, r⟩
      · rintro i H' hi ⟨ys, hys, hl, h1, h2, B, S⟩
        refine ⟨rfl, ?_⟩
        refine ⟨_, rfl, p, _, rfl, S, by decide, by decide, fun d4 H4 a4 b4 B4 S4 => ?_⟩
        have nDp : D ≠ p := by
          obtain ⟨a, b, c, e, r⟩ := S3
          exact (ne_of_none e hD).symm
        refine ⟨_, rfl, fun c hc => ⟨_, B4 _ _ nDp hys, ?_, ys ++ [⟨#[c]⟩], ?_, ?_, ?_, ?_, ?_, ?_⟩⟩
        · rw [List.length_map]
          exact Nat.lt_of_le_of_lt (show ys.length ≤ 100 by omega) (by decide)
        · rw [upd_same, List.map_append]
          rfl
        · rw [List.length_append, List.length_singleton]
          omega
        · intro y hy
          rcases List.mem_append.mp hy with hy | hy
          · exact h1 y hy
          · rw [List.mem_singleton.mp hy]
            rfl
        · intro y hy
          rcases List.mem_append.mp hy with hy | hy
          · exact h2 y hy
          · rw [List.mem_singleton.mp hy]
            exact okS_one hc
        · intro q o n e
          have nD : q ≠ D := ne_of_none e (((B12.trans B3)).free nDp hD)
          rw [upd_ne nD]
          exact B4 _ _ n (B _ _ n e)
        · obtain ⟨a, b, c, e, r⟩ := S4
          exact ⟨a, b, c, by rw [upd_ne nDp.symm]; exact e, r⟩
      · rintro H' ⟨ys, hys, hl, h1, h2, B, S⟩
        have e1 := sum_ones h1
        have e2 : (PySem.Str.ofString "").length = 0 := by decide +kernel
        refine ⟨_, D, ys, rfl, rfl, .inl (SqL.of hys), ?_, ?_⟩
        · rw [e1, e2]
          omega
        · refine k _ _ ?_ (okS_join (fun c hc => (List.not_mem_nil (show c ∈ ([] : List Nat) from hc)).elim) h2) B S
          have := join_len (PySem.Str.ofString "") ys
          rw [e1, e2] at this
          omega
    · refine ⟨by show 12 ≤ sizeLine; decide, fun l hl => ?_⟩
      refine ⟨_, rfl, _, _, rfl, rfl, ?_⟩
      obtain ⟨z, e, hz, ho⟩ := strs_at (zs := ["", "a", "z9", "9z", "A", "aB", "a-b", " a", "a ", "_", "a_b", "abcdefghijkl"]) (n := 40) (by decide +kernel) (by decide +kernel) (j := (1 + d2 - 1).toNat) (by show _ < 12; omega)
      refine rdList upd_same (j := (1 + d2 - 1).toNat) (by omega) e ?_
      refine k z _ hz ho (B12.trans (Same.but (Same.upd hl))) ?_
      obtain ⟨a, b, c, e, r⟩ := S2
      exact ⟨a, b, c, Same.upd hl _ _ e, r⟩
end
end Wm
namespace Wm
open PySem PySem.Spec PyProof.Rows L2 ClX
section
variable {X : Cx} {CX : CXT} {k : Nat} {C f : Addr} {fd : FuncData} {ps : List Str} {sp : Sp} {E : XK} {e : Expr} {es : List Expr} {t : TA} {x m : Str} {p1 p2 pos : Pos} {ds : List Value} {dvs : List V}
/-- C.f(e, ..), f a def of the class C -/
theorem pe_clsFn {pl : Sem Bool} {mc : Value} (hg : Gl X x) (hm : X.mg x = some (.ref C)) (r : CRead X.K C mc) (ht : PySem.W.findCls X.K (.ref C) mc m = some (.val (.ref f))) (hk : PySem.W.keepIn X.K (.ref f) = true) (F : FnOk X.prog X.w X.K X.mg X.base CX k f fd ps sp)
    (hr : Room k X.A) (hb : Binds X.K fd ps ds) (hd : Vals dvs ds) (hx : Passes CX X E) (ha : PA X (e :: es) t)
    (hc : eval (.Call (.Attribute (.Name x p1) m p2) (e :: es) [] pos) X.env = (do
      let ov ← eval (.Name x p1) X.env
      standAt p2.atName
      let (f, first) ← holding [ov] (getMethod ov m pl)
      callWith pos f first (backTo pos (starEach (e :: es) X.env)) (backToKw pos (keywordEach [] X.env))) := by rfl)
    (hdb : (x == ("__debug__" : Str)) = false := by decide) (he : starEach (e :: es) X.env = (false, eval e X.env) :: starEach es X.env := by rfl) (hpl : (backTo pos (starEach es X.env)).any (·.1) = false := by rfl) :
    PE X (.Call (.Attribute (.Name x p1) m p2) (e :: es) [] pos) (tCall sp dvs E t) := by
  refine ⟨fun pins s σ H Q I h => ?_⟩
  refine PySem.W.methodCall_KW (ld_glob I hg hm ?_ hdb) hc
  refine PySem.W.method_cls I.kIn r.ga (PySem.W.cls_value I.kIn r.rd ht rfl ?_)
  show wpAny _ _ (callWith pos (Value.ref f) [] (backTo pos (starEach (e :: es) X.env)) []) _ _ _
  refine PySem.W.callWith_K (h₀ := X.base) I.ok.mod.kin hk (thn (ha.run pos pins _ σ H _ (I.tok _) h) fun us s1 ⟨vs, H1, I1, r1, q⟩ => ⟨I1.kIn, ?_⟩) he hpl
  exact run_fn F hr hb hd hx I1 r1 q
/-- xs + ys, both to be read -/
def rCatR (K : PySem.W.Frag) : R2 := fun x y H Q => ∃ l b xs zs, x = .ref l ∧ y = .ref b ∧ SqL K H l xs ∧ SqL K H b zs ∧ xs.length + zs.length ≤ sizeLine ∧ ∀ p, H p = none → Q (.ref p) (upd H p (.lst (xs ++ zs)))
theorem op_catR : OpR X (binaryOp .Add) (rCatR X.K) := by
  intro pins s σ H x y v u Q I rx ry h
  obtain ⟨l, b, xs, zs, rfl, rfl, hH, hB, hz, q⟩ := h
  cases rx
  cases ry
  obtain ⟨its, r, e, hl⟩ := I.list hH
  obtain ⟨its2, r2, e2, hl2⟩ := I.list hB
  have l1 := r.length
  have l2 := r2.length
  obtain ⟨⟨cls, dd, data, sl⟩, ho, hc, n, hd⟩ := e.isList
  obtain ⟨⟨cls2, dd2, data2, sl2⟩, ho2, hc2, n2, hd2⟩ := e2.isList
  simp only at hc hd hc2 hd2
  subst hc hd hc2 hd2
  refine concat_meets ⟨_, ho, rfl⟩ ⟨_, ho2, rfl⟩ noFill_list_add seq_list_add PySem.F.slot_list_add PySem.F.entry_list_add (PySem.F.args_list_add_2 _ _) (list_addW l b its.toArray its2.toArray n n2 dd dd2 sl sl2 (by rw [List.size_toArray, List.size_toArray]; omega)) ⟨ho, ho2, ?_⟩
  have ea : its.toArray ++ its2.toArray = (its ++ its2).toArray := by simp
  rw [ea]
  exact ⟨.ref _, _, I.lnew (t' := s.toks) (r.append r2) (by rw [List.length_append]; omega), rfl, q _ I.fresh⟩
end
end Wm
namespace Wm
open PySem PySem.Spec PyProof.Rows L2 ClX
/-- isinstance(e, c) in an except suite, e the exception that it holds (its class D, its dict at dd) -/
def rIsX (K : PySem.W.Frag) (D a dd : Addr) : List V → Hp → VK → Prop := fun xs H Q => ∃ (c : V) (cv : Value) (b : Bool) (fs : List (Str × V)), xs = [.ref a, c] ∧ H dd = some (.xd fs) ∧ (∀ u, RelV c u → u = cv) ∧ PySem.W.kitOne K (.ref D) cv = some b ∧ Q (.bl b) H
theorem call_isX {X : Cx} {a D dd : Addr} {oe : Obj} {pn : List (Addr × Obj)} (C : ExcC X.K D) (hz : Zc (.ref D) (some dd) oe) (hf : ∃ vs, oe.data = .fields vs) : CallR (X.suite a ((a, oe) :: pn)) (.builtin "isinstance") (rIsX X.K D a dd) := by
  intro pins s σ H xs us Q I r h
  obtain ⟨c, cv, b, fs, rfl, hdd, hcv, e, q⟩ := h
  cases r with
  | cons rx rr =>
    cases rr with
    | cons rt rr =>
      cases rr
      cases rx
      have ec := hcv _ rt
      subst ec
      obtain ⟨hget, _⟩ := I.pin (a, oe) (List.mem_append.mpr (.inl List.mem_cons_self))
      obtain ⟨vs, hv⟩ := hf
      have hx : ObjOk X.prog X.w H s.heap dd (.xd fs) := I.hok dd _ hdd
      obtain ⟨mA, hns, hr⟩ := hx
      obtain ⟨od, ho, hl⟩ := lookIn_ns hns
      have J : PySem.W.InstAt s.heap a oe D (some od) := ⟨hget, hz.1, by unfold PySem.W.notCls; rw [hv] <;> rfl, by rw [hz.2]; exact ho⟩
      have hcl : (PySem.W.clsIn X.K D).isSome = true := by
        obtain ⟨cd, hc, _⟩ := PySem.W.any_some C.hd
        rw [hc]
        rfl
      exact PySem.W.kia_one (PySem.W.kitx_exc hcl C.hg C.hk C.hs C.ha C.hn C.ht C.hm) I.kIn J e (fun z => nomatch z) fun tk => ⟨.bl b, H, I.kept (t' := tk) fun _ _ z => z, rfl, q⟩
/-! ### errors of one field -/
def spWI (K : PySem.W.Frag) : Sp := fun vs H Q _ => ∃ (a C : Addr) (v : V), vs = [.ref a, v] ∧ OexC K C ∧ PySem.W.findIn K (.ref C) "kind" = some none ∧ H a = some (exo a C none) ∧ ∀ dx, H dx = none → dx ≠ a → Q .non (upd (upd H dx (exd dx [("kind", v)])) a (exo a C (some dx)))
/-- the dict of an error of one field -/
def ef1 (f kd : Str) (v : V) : List (Str × V) := [(f, v), ("kind", .str kd)]
def spE1 (C : Addr) (f kd : Str) : Sp := fun vs H Q _ => ∃ (a : Addr) (v : V), vs = [.ref a, v] ∧ H a = some (exo a C none) ∧ ∀ dx H', H dx = none → dx ≠ a → (∀ b o, b ≠ a → H b = some o → H' b = some o) → H' a = some (exo a C (some dx)) → H' dx = some (exd dx (ef1 f kd v)) → Q .non H'
/-- what is known of WhoError -/
structure WhoT (K : PySem.W.Frag) (mg : Str → Option Value) (W f0 : Addr) (fd0 : FuncData) : Prop where
  g : mg "WhoError" = some (.ref W)
  r : CRead K W (.type "type")
  m : PySem.W.findCls K (.ref W) (.type "type") "__init__" = some (.val (.ref f0))
  k : PySem.W.keepIn K (.ref f0) = true
  b : Binds K fd0 ["self", "kind"] []
/-- what is known of an error class of one field -/
structure ErrT (K : PySem.W.Frag) (mg : Str → Option Value) (x f : Str) (C fI : Addr) : Prop where
  o : OexC K C
  g : mg x = some (.ref C)
  iC : PySem.W.findIn K (.ref C) "__init__" = some (some (.ref fI))
  tI : PySem.W.typeIn K (.ref fI) = some (.type "function")
  nk : PySem.W.findIn K (.ref C) "kind" = some none
  nf : PySem.W.findIn K (.ref C) f = some none
end Wm
namespace Wm
open PySem L2
abbrev sW0 : Stmt := inClass (top 2) 0
abbrev sN0 : Stmt := inClass (top 3) 0
section
variable {P : Program} {w : World} {K : PySem.W.Frag} {mg : Str → Option Value} {base : Heap}
theorem scW0 : FnScope ["self", "kind"] ["self", "kind"] (defScope sW0) := ⟨rfl, rfl, rfl, by decide +kernel, rfl, by decide +kernel, by decide +kernel⟩
theorem ok_who {f : Addr} {fd : FuncData} {dvs : List V} (F : FunD K "__init__" "WhoError.__init__" (defArgs sW0) (defBody sW0) (defScope sW0) dvs [] f fd) : FnOk P w K mg base CX0 1 f fd ["self", "kind"] (spWI K) := by
  refine F.ok scW0 (fun vs H Q E h => ?_) (fun cdv A outer s H vs Q E hr h => ?_)
  · obtain ⟨a, C, v, rfl, _⟩ := h
    rfl
  · obtain ⟨a, C, v, rfl, o, nk, ha, k⟩ := h
    refine ⟨_, pss_one (ps_ost (pv 0) (pv 1)), ?_⟩
    exact ⟨_, rfl, _, rfl, a, C, rfl, o, nk, .inl ⟨ha, fun dx n ne => k dx n ne⟩⟩
theorem scN0 : FnScope ["self", "name"] ["self", "name"] (defScope sN0) := ⟨rfl, rfl, rfl, by decide +kernel, rfl, by decide +kernel, by decide +kernel⟩
theorem ok_noname {f C f0 W : Addr} {fd fd0 : FuncData} (F : Fun K "__init__" "NoName.__init__" sN0 f fd) (T : ErrT K mg "NoName" "name" C f) (TW : WhoT K mg W f0 fd0) (G0 : FnOk P w K mg base CX0 1 f0 fd0 ["self", "kind"] (spWI K)) :
    FnOk P w K mg base CX0 2 f fd ["self", "name"] (spE1 C "name" "noname") := by
  refine F.ok scN0 (fun vs H Q E h => ?_) (fun cdv A outer s H vs Q E hr h => ?_)
  · obtain ⟨a, v, rfl, _⟩ := h
    rfl
  · obtain ⟨a, v, rfl, ha, k⟩ := h
    refine ⟨_, pss_cons (ps_expr (pe_clsFn rfl TW.g TW.r TW.m TW.k G0 hr TW.b .nil pass0 (pa_cons (pv 0) (pa_cons pe_str pa_nil)))) (pss_one (ps_ost (pv 0) (pv 1))), ?_⟩
    refine ⟨_, rfl, a, C, _, rfl, T.o, T.nk, ha, fun dx n ne => ?_⟩
    refine ⟨_, rfl, _, rfl, a, C, rfl, T.o, T.nf, .inr ⟨dx, _, upd_same, Eq.trans (upd_ne ne) upd_same, by decide, ?_⟩⟩
    refine k dx _ n ne (fun b o nb e => ?_) ?_ upd_same
    · have nd : b ≠ dx := ne_of_none e n
      rw [upd_ne nd, upd_ne nb, upd_ne nd]
      exact e
    · rw [upd_ne ne.symm, upd_same]
end
end Wm
namespace Wm
open PySem L2
/-! ### names -/
def LET : List Nat := (PySem.Str.ofString "abcdefghijklmnopqrstuvwxyz").cps.toList
def FIG : List Nat := (PySem.Str.ofString "0123456789").cps.toList
def okc (c : Nat) : Bool := decide (c ∈ LET) || decide (c ∈ FIG)
def first (l : List Nat) : Bool := match l with
  | [] => false
  | c :: _ => decide (c ∈ LET)
def isNm (z : Str) : Bool := decide (1 ≤ z.length) && (decide (z.length ≤ 12) && (first z.cps.toList && z.cps.toList.all okc))
theorem alnum : (PySem.Str.ofString "abcdefghijklmnopqrstuvwxyz0123456789").cps.toList = LET ++ FIG := by decide +kernel
theorem let_fig : ∀ c ∈ LET, ¬ c ∈ FIG := by decide +kernel
theorem okc_alnum (c : Nat) : decide (c ∈ (PySem.Str.ofString "abcdefghijklmnopqrstuvwxyz0123456789").cps.toList) = okc c := by
  rw [alnum]
  unfold okc
  by_cases h : c ∈ LET <;> by_cases h2 : c ∈ FIG <;> simp [h, h2]
theorem len_eq (z : Str) : z.length = z.cps.toList.length := by
  show z.cps.size = _
  simp
theorem isNm_small {z : Str} (h : z.length < 1 ∨ 12 < z.length) : isNm z = false := by
  unfold isNm
  rcases h with h | h
  · rw [decide_eq_false (by omega)]
    rfl
  · rw [decide_eq_false (p := z.length ≤ 12) (by omega)]
    simp
theorem isNm_first {z : Str} {c : Nat} (h1 : z.cps.toList[0]? = some c) (hc : ¬ c ∈ LET) : isNm z = false := by
  unfold isNm
  have e : first z.cps.toList = false := by
    cases q : z.cps.toList with
    | nil => rfl
    | cons d r =>
      rw [q] at h1
      have e : d = c := Option.some.inj h1
      rw [e]
      exact decide_eq_false hc
  rw [e]
  simp
theorem isNm_all {z : Str} {c : Nat} (h0 : ¬ z.length < 1) (h12 : ¬ 12 < z.length) (h1 : z.cps.toList[0]? = some c) (hc : c ∈ LET) : isNm z = z.cps.toList.all okc := by
  unfold isNm
  have e : first z.cps.toList = true := by
    cases q : z.cps.toList with
    | nil =>
      rw [q] at h1
      cases h1
    | cons d r =>
      rw [q] at h1
      have e : d = c := Option.some.inj h1
      rw [e]
      exact decide_eq_true hc
  rw [e, decide_eq_true (by omega), decide_eq_true (by omega)]
  rfl
theorem isNm_fig {z : Str} {c : Nat} (h1 : z.cps.toList[0]? = some c) (hc : c ∈ FIG) : isNm z = false := isNm_first h1 fun h => let_fig c h hc
theorem isNm_all2 {z : Str} {c : Nat} (h0 : ¬ z.length < 1) (h12 : ¬ 12 < z.length) (h1 : z.cps.toList[0]? = some c) (hc : ¬ c ∈ FIG) : isNm z = z.cps.toList.all okc := by
  by_cases h : c ∈ LET
  · exact isNm_all h0 h12 h1 h
  · rw [isNm_first h1 h]
    have hm : c ∈ z.cps.toList := List.mem_of_getElem? h1
    have e : okc c = false := by
      unfold okc
      rw [decide_eq_false h, decide_eq_false hc]
      rfl
    symm
    rw [List.all_eq_false]
    exact ⟨c, hm, by rw [e]; decide⟩
theorem all_map {l : List Nat} {f : Nat → Bool} : (l.map f).all id = l.all f := by
  induction l with
  | nil => rfl
  | cons a r ih => rw [List.map_cons, List.all_cons, List.all_cons, ih]; rfl
def spName : Sp := fun vs H Q _ => ∃ z : Str, vs = [.str z] ∧ z.length ≤ 1000 ∧ ∀ H', Same H H' → Q (.bl (isNm z)) H'
/-- the constants of names.py -/
structure TxN (mg : Str → Option Value) : Prop where
  lets : ∃ t, mg "LETTERS" = some (.str (PySem.Str.ofString "abcdefghijklmnopqrstuvwxyz") t)
  figs : ∃ t, mg "FIGURES" = some (.str (PySem.Str.ofString "0123456789") t)
  long : ∃ t, mg "LONGEST_NAME" = some (.int 12 t)
abbrev sName : Stmt := top 13
/-- the reading of [f(sign) for sign in text] -/
theorem lc_signs {z : Str} {f : Nat → Bool} {g : TG} {te : TE} {vs : List Nat} {σ : St} {H1 : Hp} {D : Addr} {Qd : Hp → Prop} (hz : z.length ≤ 1000) (hD : H1 D = none)
    (he : ∀ (c : Nat) (H : Hp) (Q : St → Hp → Prop), (∀ σ2, wipe σ2 vs = wipe σ vs → (∀ Q2 : VK, Q2 (.bl (f c)) H → te σ2 H Q2) → Q σ2 H) → g (.str ⟨#[c]⟩) (wipe σ vs) H Q)
    (hd : ∀ H, Same H1 H → H D = some (.lst ((z.cps.toList.map f).map V.bl)) → Qd H) :
    ∃ W : Nat → Nat → Hp → Prop, (∃ m, W 0 m (upd H1 D (.lst []))) ∧ ∀ i m H, W i m H →
      ((Its z).stop i H ∧ Qd H) ∨ ((Its z).go i H ∧ ∃ Nx : Hp → Prop, (∀ H', Nx H' → ∃ m', m' < m ∧ W (i + 1) m' H') ∧ ∀ x H', (Its z).yld i H x H' → g x (wipe σ vs) H' fun σ2 H2 => wipe σ2 vs = wipe σ vs ∧ tYes σ2 H2 fun b H3 =>
        if b = true then te σ2 H3 fun y H4 => ∃ acc, H4 D = some (.lst acc) ∧ acc.length < sizeLine ∧ Nx (upd H4 D (.lst (acc ++ [y]))) else Nx H3) := by
  refine lc_it (walk_str (z := z)) (fun i H' => Same H1 H' ∧ H' D = some (.lst (((z.cps.toList.take i).map f).map V.bl))) ⟨Same.upd hD, upd_same⟩ (fun _ _ _ _ => True.intro) ?_ ?_
  · rintro i x H H' hi ⟨hS, hl⟩ ⟨rfl, c, hc, rfl⟩
    refine he c H' _ fun σ2 hw hq => ⟨hw, hq _ ?_⟩
    refine ⟨_, hl, ?_, ?_, ?_⟩
    · rw [List.length_map, List.length_map, List.length_take]
      have e := len_eq z
      exact Nat.lt_of_le_of_lt (show _ ≤ 1000 by omega) (by decide)
    · intro b o h
      have nb : b ≠ D := ne_of_none h hD
      rw [upd_ne nb]
      exact hS b o h
    · rw [upd_same]
      have e : z.cps.toList[i]? = some c := by simpa using hc
      have hlt : i < z.cps.toList.length := (List.getElem?_eq_some_iff.mp e).1
      rw [List.take_add_one, e, List.map_append, List.map_append]
      rfl
  · rintro H ⟨hS, hl⟩
    refine hd H hS ?_
    rw [hl, List.take_of_length_le (by simp)]
section
variable {P : Program} {w : World} {K : PySem.W.Frag} {mg : Str → Option Value} {base : Heap}
theorem scName : FnScope ["text", "sign"] ["text"] (defScope sName) := ⟨rfl, rfl, rfl, by decide +kernel, rfl, by decide +kernel, by decide +kernel⟩
theorem ok_name {f : Addr} {fd : FuncData} (F : Fun K "is_name" "is_name" sName f fd) (T : TxB mg) (TN : TxN mg) : FnOk P w K mg base CX0 1 f fd ["text"] spName := by
  obtain ⟨t1, hlet⟩ := TN.lets
  obtain ⟨t2, hfig⟩ := TN.figs
  obtain ⟨t3, hlong⟩ := TN.long
  refine F.ok scName (fun vs H Q E h => ?_) (fun cdv A outer s H vs Q E hr h => ?_)
  · obtain ⟨z, rfl, _⟩ := h
    rfl
  · obtain ⟨z, rfl, hz, k⟩ := h
    have hzl : z.length ≤ sizeLine := Nat.le_trans hz (by decide)
    refine ⟨_, (pss_cons (ps_if (PW.pt (pw_or (pt_cmpR op_lt (pe_callB call_len_str (by rfl) T.len (by decide +kernel) (pa_cons (pv 0) pa_nil)) pe_int (nomark _)) (pw_or1 (pt_cmpR op_gt (pe_callB call_len_str (by rfl) T.len (by decide +kernel) (pa_cons (pv 0) pa_nil)) (pe_glob (v := .int 12) (by rfl) hlong ⟨_, rfl⟩) (nomark _))))) (pss_one (ps_ret pe_bl)) pss_nil)
      (pss_cons (ps_if (pt_cmpR op_notIn_sign (pe_ix ix_str (pv 0) pe_int (fun _ _ => rfl)) (pe_glob (v := .str (PySem.Str.ofString "abcdefghijklmnopqrstuvwxyz")) (by rfl) hlet ⟨_, rfl⟩) (by rfl)) (pss_one (ps_ret pe_bl)) pss_nil)
      (pss_one (ps_ret (pe_callB (cr_all rfl) (by rfl) T.all (by decide +kernel) (pa_cons (pe_lc (own := [("sign", 1)]) (g := gName 1) rfl scName.nd (pi_str (pv 0)) (blkOk_by (N := ["text", "sign"]) (sc := defScope sName) (by decide +kernel)) (fun _ _ _ _ _ => (pg_name (i := 1) scName.nd rfl (Or.inl rfl))) (fun _ _ _ _ _ => pts_nil) (fun _ _ _ _ _ => (pe_or (pe_cmpR op_in_sign (pv 1) (pe_glob (v := .str (PySem.Str.ofString "abcdefghijklmnopqrstuvwxyz")) (by rfl) hlet ⟨_, rfl⟩) (by rfl)) (pe_one (pe_cmpR op_in_sign (pv 1) (pe_glob (v := .str (PySem.Str.ofString "0123456789")) (by rfl) hfig ⟨_, rfl⟩) (by rfl)))))) pa_nil)))))), ?_⟩
    refine ⟨_, rfl, z, rfl, hzl, _, _, rfl, rfl, _, rfl, ?_⟩
    refine ite2 (fun h1 => ?_) (fun h1 => ?_)
    · have h1' : (z.length : Int) < 1 := of_decide_eq_true h1
      refine iteT ?_
      have e : isNm z = false := isNm_small (.inl (by omega))
      have q := k H (Same.refl H)
      rw [e] at q
      exact q
    refine ⟨_, rfl, z, rfl, hzl, _, _, rfl, rfl, _, rfl, ?_⟩
    refine ite2 (fun h2 => ?_) (fun h2 => ?_)
    · have h2' : (12 : Int) < z.length := of_decide_eq_true h2
      have e : isNm z = false := isNm_small (.inr (by omega))
      have q := k H (Same.refl H)
      rw [e] at q
      exact q
    have h1' : ¬ z.length < 1 := fun x => h1 (decide_eq_true (by omega))
    have h2' : ¬ 12 < z.length := fun x => h2 (decide_eq_true (by omega))
    refine ⟨_, rfl, ?_⟩
    dsimp only [tC]
    refine rdItem (n := z.length) rfl (by decide) (by omega) (by omega) fun c hc => ?_
    refine ⟨c, _, rfl, rfl, _, rfl, ?_⟩
    refine ite2 (fun h3 => ?_) (fun h3 => ?_)
    · have h3' : ¬ c ∈ LET := fun x => by
        rw [show decide (c ∈ (PySem.Str.ofString "abcdefghijklmnopqrstuvwxyz").cps.toList) = true from decide_eq_true x] at h3
        cases h3
      have q := k H (Same.refl H)
      rw [isNm_first hc h3'] at q
      exact q
    have h3' : c ∈ LET := by
      by_cases x : c ∈ LET
      · exact x
      · rw [show decide (c ∈ (PySem.Str.ofString "abcdefghijklmnopqrstuvwxyz").cps.toList) = false from decide_eq_false x] at h3
        exact absurd rfl h3
    refine ⟨_, rfl, z, rfl, fun D hD => ?_⟩
    refine lc_signs (z := z) (f := okc) hz hD (fun c H Q q => ?_) fun H' hS hl => ?_
    · refine q _ rfl fun Q2 q2 => ?_
      refine ⟨_, rfl, c, _, rfl, rfl, _, rfl, ?_⟩
      unfold okc at q2
      refine ite2 (fun h => ?_) (fun h => ?_)
      · have h' : decide (c ∈ LET) = true := h
        rw [h'] at q2
        exact q2
      · have h' : decide (c ∈ LET) = false := Bool.eq_false_iff.mpr h
        rw [h'] at q2
        exact ⟨_, rfl, c, _, rfl, rfl, q2⟩
    · refine ⟨D, _, rfl, SqL.of hl, ?_⟩
      have q := k H' hS
      rw [isNm_all h1' h2' hc h3', ← all_map] at q
      exact q
end
end Wm
namespace Wm
open PySem L2
abbrev sRN : Stmt := top 14
theorem mk1 {C : Addr} {f kd : Str} {v : V} {H : Hp} {Q : XK} (k : ∀ d H', H d = none → Same H H' → H' d = some (.xd (ef1 f kd v)) → Q (.ref C) (some d) H') :
    [v].length ≤ 1000 ∧ ∀ a, H a = none → spE1 C f kd (.ref a :: ([v] ++ [])) (upd H a (exo a C none)) (fun u H2 => u = .non ∧ ∃ (d : Addr) (fs : List (Str × V)), H2 a = some (exo a C (some d)) ∧ H2 d = some (exd d fs) ∧ H d = none ∧ Q (.ref C) (some d) (upd (del H2 a) d (.xd fs))) (fun _ _ _ => False) := by
  refine ⟨by show 1 ≤ 1000; decide, fun a na => ⟨a, v, rfl, upd_same, fun dx H' n ne kp ha hd => ⟨rfl, dx, _, ha, hd, ?_, ?_⟩⟩⟩
  · rw [upd_ne ne] at n
    exact n
  · rw [upd_ne ne] at n
    refine k dx _ n (fun b o e => ?_) upd_same
    have nb : b ≠ a := ne_of_none e na
    rw [upd_ne (ne_of_none e n), del_ne nb]
    exact kp b o nb (by rw [upd_ne nb]; exact e)
/-- what is due of the first text that is no name -/
def DueN (C : Addr) (zs : List Str) (H : Hp) (Q : VK) (E : XK) : Prop := match zs.find? (fun z => !isNm z) with
  | none => ∀ H', Same H H' → Q .non H'
  | some z => ∀ d H', H d = none → Same H H' → H' d = some (.xd (ef1 "name" "noname" (.str z))) → E (.ref C) (some d) H'
def spRN (K : PySem.W.Frag) (C : Addr) : Sp := fun vs H Q E => ∃ (l : Addr) (zs : List Str), vs = [.ref l] ∧ SqL K H l (zs.map V.str) ∧ zs.length ≤ 1000 ∧ (∀ z ∈ zs, z.length ≤ 1000) ∧ DueN C zs H Q E
theorem find_none_take {zs : List Str} {i : Nat} {z : Str} {p : Str → Bool} (h : ∀ y ∈ zs.take i, p y = false) (e : zs[i]? = some z) (hz : p z = true) : zs.find? p = some z := by
  have hlt : i < zs.length := (List.getElem?_eq_some_iff.mp e).1
  have e2 : zs = zs.take i ++ z :: zs.drop (i + 1) := by
    have q := List.take_append_drop i zs
    have q2 := List.drop_eq_getElem_cons hlt
    have q3 : zs[i] = z := (List.getElem?_eq_some_iff.mp e).2
    rw [q2, q3] at q
    exact q.symm
  rw [e2, List.find?_append]
  have n : (zs.take i).find? p = none := by
    rw [List.find?_eq_none]
    intro y hy
    rw [h y hy]
    decide
  rw [n]
  simp [hz]
section
variable {P : Program} {w : World} {K : PySem.W.Frag} {mg : Str → Option Value} {base : Heap}
theorem scLName : FnScope ["_law_text_here", "_law_sign_here"] ["_law_text_here"] (defScope sLName) := ⟨rfl, rfl, rfl, by decide +kernel, rfl, by decide +kernel, by decide +kernel⟩
theorem ok_lname {f : Addr} {fd : FuncData} (F : Fun K "_law_is_name" "_law_is_name" sLName f fd) (T : TxB mg) : FnOk P w K mg base CX0 1 f fd ["_law_text_here"] spName := by
  refine F.ok scLName (fun vs H Q E h => ?_) (fun cdv A outer s H vs Q E hr h => ?_)
  · obtain ⟨z, rfl, _⟩ := h
    rfl
  · obtain ⟨z, rfl, hz, k⟩ := h
    have hzl : z.length ≤ sizeLine := Nat.le_trans hz (by decide)
    refine ⟨_, (pss_cons (ps_if (PW.pt (pw_or (pt_cmpR op_eq (pv 0) pe_str (nomark _)) (pw_or (pt_cmpR op_gt (pe_callB call_len_str (by rfl) T.len (by decide +kernel) (pa_cons (pv 0) pa_nil)) pe_int (nomark _)) (pw_or1 (pt_cmpR op_in_sign (pe_ix ix_str (pv 0) pe_int (fun _ _ => rfl)) pe_str (by rfl)))))) (pss_one (ps_ret pe_bl)) pss_nil)
      (pss_one (ps_ret (pe_callB (cr_all rfl) (by rfl) T.all (by decide +kernel) (pa_cons (pe_lc (own := [("_law_sign_here", 1)]) (g := gName 1) rfl scLName.nd (pi_str (pv 0)) (blkOk_by (N := ["_law_text_here", "_law_sign_here"]) (sc := defScope sLName) (by decide +kernel)) (fun _ _ _ _ _ => (pg_name (i := 1) scLName.nd rfl (Or.inl rfl))) (fun _ _ _ _ _ => pts_nil) (fun _ _ _ _ _ => (pe_cmpR op_in_sign (pv 1) pe_str (by rfl)))) pa_nil))))), ?_⟩
    refine ⟨_, rfl, rfl, _, rfl, ?_⟩
    have q0 := k H (Same.refl H)
    refine ite2 (fun h1 => ?_) (fun h1 => ?_)
    · have h1' : V.str z = V.str (PySem.Str.ofString "") := of_decide_eq_true h1
      have e1 : z = PySem.Str.ofString "" := V.str.inj h1'
      refine iteT ?_
      have e : isNm z = false := by rw [e1]; decide +kernel
      rw [e] at q0
      exact q0
    have h1' : ¬ z.length < 1 := fun x => h1 (decide_eq_true (by
      have e : z.cps = #[] := Array.eq_empty_of_size_eq_zero (by show z.length = 0; omega)
      have e2 : z = PySem.Str.ofString "" := by
        cases z
        cases e
        decide +kernel
      rw [e2]))
    refine ⟨_, rfl, z, rfl, hzl, _, _, rfl, rfl, _, rfl, ?_⟩
    refine ite2 (fun h2 => ?_) (fun h2 => ?_)
    · have h2' : (12 : Int) < z.length := of_decide_eq_true h2
      refine iteT ?_
      rw [isNm_small (.inr (by omega))] at q0
      exact q0
    have h2' : ¬ 12 < z.length := fun x => h2 (decide_eq_true (by omega))
    refine ⟨_, rfl, ?_⟩
    dsimp only [tC]
    refine rdItem (n := z.length) rfl (by decide) (by omega) (by omega) fun c hc => ?_
    refine ⟨c, _, rfl, rfl, _, rfl, ?_⟩
    refine ite2 (fun h3 => ?_) (fun h3 => ?_)
    · have h3' : c ∈ FIG := of_decide_eq_true h3
      rw [isNm_fig hc h3'] at q0
      exact q0
    have h3' : ¬ c ∈ FIG := fun x => h3 (decide_eq_true x)
    refine ⟨_, rfl, z, rfl, fun D hD => ?_⟩
    refine lc_signs (z := z) (f := okc) hz hD (fun c H Q q => ?_) fun H' hS hl => ?_
    · refine q _ rfl fun Q2 q2 => ?_
      rw [← okc_alnum] at q2
      exact ⟨_, rfl, c, _, rfl, rfl, q2⟩
    · refine ⟨D, _, rfl, SqL.of hl, ?_⟩
      have q := k H' hS
      rw [isNm_all2 h1' h2' hc h3', ← all_map] at q
      exact q
theorem scRN : FnScope ["texts", "text"] ["texts"] (defScope sRN) := ⟨rfl, rfl, rfl, by decide +kernel, rfl, by decide +kernel, by decide +kernel⟩
theorem ok_rn {f fN C fI : Addr} {fd fdN fdI : FuncData} (F : Fun K "refuse_no_name" "refuse_no_name" sRN f fd) (D : Dn K mg "is_name" sName ["text"] fN fdN) (GN : FnOk P w K mg base CX0 1 fN fdN ["text"] spName) (TE : ErrT K mg "NoName" "name" C fI) (bI : Binds K fdI ["self", "name"] [])
    (GI : FnOk P w K mg base CX0 2 fI fdI ["self", "name"] (spE1 C "name" "noname")) : FnOk P w K mg base (L2.CX P w) 4 f fd ["texts"] (spRN K C) := by
  refine F.okX scRN (fun vs H Q E h => ?_) (fun cdv A outer s H vs Q E hr h => ?_)
  · obtain ⟨l, zs, rfl, _⟩ := h
    rfl
  · obtain ⟨l, zs, rfl, hl, hn, hz, k⟩ := h
    have hr1 : Room 1 _ := hr.mono (by decide)
    refine ⟨_, (pss_one (ps_for (passes_of rfl) rfl (pi_list (pv 0)) (pg_name (i := 1) scRN.nd rfl (Or.inl rfl)) (pss_one (ps_if (pt_not (pt_val (pe_call GN hr1 rfl D.g D.F.kp D.b .nil pass0 (pa_cons (pv 1) pa_nil)))) (pss_one (ps_raise rfl (takes_of rfl rfl rfl rfl) (pmk_oex TE.o TE.iC TE.tI GI hr bI .nil pass0 rfl TE.g (pa_cons (pv 1) pa_nil)))) pss_nil)))), ?_⟩
    refine ⟨_, rfl, l, rfl, ⟨_, hl⟩, for_list (K := K) (a := l) (xs := zs.map V.str) (fun i σ H' => ∃ v, σ = [some (.ref l), v] ∧ Same H H' ∧ ∀ y ∈ zs.take i, (!isNm y) = false) ⟨none, rfl, Same.refl H, fun y hy => (List.not_mem_nil hy).elim⟩
      (fun i σ H' _ ⟨_, _, hS, _⟩ => hS.seq hl) ?_ ?_⟩
    · rintro i y σ H' hi ⟨v, rfl, hS, hno⟩
      obtain ⟨z, hzi, rfl⟩ : ∃ z, zs[i]? = some z ∧ y = V.str z := by
        rw [List.getElem?_map] at hi
        cases e : zs[i]? with
        | none =>
          rw [e] at hi
          cases hi
        | some z =>
          rw [e] at hi
          exact ⟨z, rfl, (Option.some.inj hi).symm⟩
      refine ⟨_, rfl, z, rfl, hz z (List.mem_of_getElem? hzi), fun H2 hS2 => ⟨_, rfl, ?_⟩⟩
      refine ite2 (fun h => ?_) (fun h => ?_)
      · refine ⟨_, rfl, ?_⟩
        have e := find_none_take hno hzi h
        unfold DueN at k
        rw [e] at k
        refine mk1 fun d H3 hd hS3 hx => k d H3 (hS.free (hS2.free hd)) (hS.trans (hS2.trans hS3)) hx
      · refine ⟨_, rfl, hS.trans hS2, fun y hy => ?_⟩
        rw [List.take_add_one, hzi] at hy
        rcases List.mem_append.mp hy with hy | hy
        · exact hno y hy
        · have e : y = z := by simpa using hy
          rw [e]
          exact Bool.eq_false_iff.mpr h
    · rintro σ H' ⟨v, rfl, hS, hno⟩
      have e : zs.find? (fun z => !isNm z) = none := by
        rw [List.find?_eq_none]
        intro y hy
        rw [List.length_map, List.take_length] at hno
        rw [hno y hy]
        decide
      unfold DueN at k
      rw [e] at k
      exact k H' hS
end
end Wm
namespace Wm
open PySem PySem.Spec PyProof.Rows L2
/-- enumerate(v): its two new cells -/
theorem meets_enum1 {v : Value} {o : Obj} {H : Heap → Prop} (B : Begins v o H) :
    Meets (Builtin.«enumerate.__new__» ⟨[.type "enumerate", v], []⟩) (fun _ R s => H s.heap ∧
      R (.ok (.ret (.ref (s.heap.push o).objs.size))) { s with heap := (s.heap.push o).push { cls := .type "enumerate", data := .fields #[.none, .bool false, .ref s.heap.objs.size, rawInt 0, .none, .none] } }) :=
  .of_wp fun prog w A R s hh => by
    obtain ⟨hp, g, d, tk, os⟩ := s
    obtain ⟨h1, h⟩ := hh
    have hsub := sub_enumerate
    have q1 : ∀ {A' : Around} {E : Value → Shared → Prop} {Q : Value → Shared → Prop}, Q (.ref hp.objs.size) ⟨hp.push o, g, d, tk, os⟩ → wpAny (model prog w) A' (pyIter v) Q E ⟨hp, g, d, tk, os⟩ := fun q => B.iter prog w _ _ ⟨hp, g, d, tk, os⟩ _ h1 q
    wp_walk using q1
    refine wpAny_stack_any fun stk => wpAny_pure ?_
    split
    · rename_i c _ _ _ _ _
      cases (c == Value.type "enumerate") <;> (wp_walk using q1; exact ⟨_, rfl, h⟩)
    · wp_walk using q1
      exact ⟨_, rfl, h⟩
theorem call_enum_tup {prog : Program} {w : World} {A : Around} {E : Value → Shared → Prop} {s : Shared} {t : Addr} {items : Array Value} {Q : Value → Shared → Prop} (hL : s.heap.IsTuple t items)
    (h : ∀ h', IsEnum h' (s.heap.objs.size + 1) s.heap.objs.size 0 .none → h'.IsTupleIter s.heap.objs.size t 0 → (∀ b o, s.heap.get? b = some o → h'.get? b = some o) → Q (.ref (s.heap.objs.size + 1)) { s with heap := h' }) :
    wpAny (model prog w) A (call (.type "enumerate") [.ref t]) Q E s := by
  refine callType_new F.called_enumerate (by decide) (F.typeCall_enumerate_1 _) (F.newCall_enumerate_1 _) (fun obj => F.args_object_init_2 obj _) F.entry_enumerate_new (meets_enum1 (begins_tuple t items)) ⟨hL, ?_⟩
  generalize ho : ({ cls := .type "tuple_iterator", data := .fields #[.ref t, .int 0 0] } : Obj) = o
  have hz : (s.heap.push o).objs.size = s.heap.objs.size + 1 := Heap.size_push ..
  show _ ∧ _
  rw [hz]
  generalize he : ({ cls := .type "enumerate", data := .fields #[.none, .bool false, .ref s.heap.objs.size, rawInt 0, .none, .none] } : Obj) = eo
  have h2 : ((s.heap.push o).push eo).get? (s.heap.objs.size + 1) = some eo := by
    have q := Heap.get?_push_size (s.heap.push o) (o := eo) (by rw [← he]; rfl)
    rw [hz] at q
    exact q
  have h3 : ((s.heap.push o).push eo).get? s.heap.objs.size = some o := Heap.get?_push_of_some _ (Heap.get?_push_size _ (by rw [← ho]; rfl))
  refine ⟨⟨_, h2, by rw [← he]⟩, h _ ?_ ⟨o, h3, by rw [← ho], by rw [← ho]; rfl⟩ fun b o x => Heap.get?_push_of_some _ (Heap.get?_push_of_some _ x)⟩
  show ((s.heap.push o).push eo).get? (s.heap.objs.size + 1) = some _
  rw [h2, ← he]
/-- the tuple at a, each item in a new pair -/
def IteT (K : PySem.W.Frag) (a : Addr) (xs : List V) : It :=
  ⟨fun i H => SqT K H a xs ∧ i < xs.length, fun i H v H' => ∃ T x, v = .ref T ∧ H T = none ∧ H' = upd H T (.tup [.int (i : Nat), x]) ∧ xs[i]? = some x, fun i H => SqT K H a xs ∧ i = xs.length⟩
theorem turn_enumT {P : Program} {w : World} {K : PySem.W.Frag} {elts : List Expr} {kk : Nat} {tpos : Pos} {xs : List V} (a e it : Addr) (his : List Value) :
    Turn P w K (.Tuple elts kk tpos) (IteT K a xs) [e, it] e (fun i h => (∃ old, IsEnum h e it ((i : Nat) : Int) old) ∧ h.IsTupleIter it a i ∧ e ≠ it ∧ a ≠ it ∧ a ≠ e) where
  mem := by simp
  obj := fun i h st b hb => by
    obtain ⟨⟨old, he⟩, ⟨o, ho, hc, hd⟩, _⟩ := st
    rcases (show b = e ∨ b = it by simpa using hb) with z | z
    · rw [z]
      exact ⟨_, he, fun v q => nomatch q⟩
    · rw [z]
      exact ⟨o, ho, fun v q => by rw [hd] at q; cases q⟩
  keep := fun i h h' st k => let ⟨⟨old, he⟩, hi, hne⟩ := st; ⟨⟨old, k e (by simp) _ he⟩, hi.at fun o q => k it (by simp) o q, hne⟩
  item := by
    intro X hP hw hK hc i pins s σ H E I hf st hg
    subst hP hw hK
    obtain ⟨⟨old, he⟩, hit, hne, nai, nae⟩ := st
    obtain ⟨hq, hlt⟩ := hg
    obtain ⟨its, rv, p, hz⟩ := I.tuple hq
    have hlen := rv.length
    have hel : e < s.heap.objs.size := Heap.lt_size he
    have hil : it < s.heap.objs.size := by obtain ⟨_, q, _⟩ := hit; exact Heap.lt_size q
    have D : Draws X.prog X.w X.A.in1 it [it, a] its.toArray.size (fun i v => its.toArray[i]? = some v) (fun i h => h.IsTupleIter it a i ∧ h.IsTuple a its.toArray) := Draws.tuple (A := X.A.in1) (show X.A.in1.handled = none from I.ok.hd hc) it a nai its.toArray
    refine wpAny_pyNext_enum_itemC D he ⟨hit, p⟩ (by rw [List.size_toArray]; omega) hne (by simp [hne, Ne.symm nae]) fun u h' tk hu ho hst' hT hsz hk => ?_
    have hu' : its[i]? = some u := by simpa using hu
    obtain ⟨x, hx, ru⟩ : ∃ x, xs[i]? = some x ∧ RelV x u := by
      obtain ⟨u2, h2, r2⟩ := rv.get (List.getElem?_eq_getElem hlt)
      rw [hu'] at h2
      cases h2
      exact ⟨_, List.getElem?_eq_getElem hlt, r2⟩
    refine ⟨_, rfl, wpAny_letOwnedTupleGo_enum (s := { s with heap := h', toks := tk + 1 }) ho fun h'' he' sb => ?_⟩
    have hT2 : h''.get? s.heap.objs.size = some { cls := .type "tuple", data := .seq #[.int i tk, u] } := (sb.2 _ (Nat.ne_of_gt hel)).trans hT
    have new : ObjOk X.prog X.w (upd H s.heap.objs.size (.tup [.int (i : Nat), x])) h'' s.heap.objs.size (.tup [.int (i : Nat), x]) := ⟨by show 2 ≤ sizeLine; decide, [.int i tk, u], .cons ⟨_, rfl⟩ (.cons ru .nil), ⟨_, hT2, rfl, _, rfl⟩⟩
    have I1 : Inv X pins σ (upd H s.heap.objs.size (.tup [.int (i : Nat), x])) { s with heap := h'', toks := tk + 1 } :=
      I.turnedNew (ch := [e, it]) (fun b ob hb q => (sb.2 b (fun z => hb (by simp [z]))).trans (hk b ob (fun z => hb (by simp [z])) (fun z => hb (by simp [z])) q)) hf (Nat.le_refl _) new
    refine ⟨.ref s.heap.objs.size, _, I1, rfl, ⟨_, x, rfl, I.hok.fresh (Nat.le_refl _), rfl, hx⟩, ⟨⟨u, ?_⟩, hst'.1.at fun o q => (sb.2 it (Ne.symm hne)).trans q, hne, nai, nae⟩, fun b hb => ?_⟩
    · have e1 : ((i + 1 : Nat) : Int) = (i : Int) + 1 := by omega
      rw [e1]
      exact he'
    · have hb' : b < s.heap.objs.size := by
        rcases (show b = e ∨ b = it by simpa using hb) with z | z
        · rw [z]; exact hel
        · rw [z]; exact hil
      rw [upd_ne (Nat.ne_of_lt hb')]
      exact (hf b hb).1
  done := by
    intro X hP hw hK hc i pins s σ H E I hf st hg
    subst hP hw hK
    obtain ⟨⟨old, he⟩, hit, hne, nai, nae⟩ := st
    obtain ⟨hq, hi⟩ := hg
    obtain ⟨its, rv, p, hz⟩ := I.tuple hq
    have hlen := rv.length
    obtain ⟨f0, f1, f2, f3, f4, f5⟩ := hf it (by simp)
    have D : Draws X.prog X.w X.A.in1 it [it, a] its.toArray.size (fun i v => its.toArray[i]? = some v) (fun i h => h.IsTupleIter it a i ∧ h.IsTuple a its.toArray) := Draws.tuple (A := X.A.in1) (show X.A.in1.handled = none from I.ok.hd hc) it a nai its.toArray
    have en : i = its.toArray.size := by rw [List.size_toArray]; omega
    rw [en] at he hit
    exact wpAny_pyNext_enum_endD D he ⟨hit, p⟩ fun h' eb => ⟨rfl, I.turned (t' := s.toks) (fun b o hb q => eb b o hb q) f0 f1 f3 f4 f5⟩
  self := fun A i s Q E st h => let ⟨⟨_, he⟩, _⟩ := st; wpAny_pyIter_enum he h
def iEnumT (K : PySem.W.Frag) (ta : TA) : TI := fun σ H R => ta σ H fun vs H1 => ∃ a xs, vs = [.ref a] ∧ SqT K H1 a xs ∧ R (IteT K a xs) H1
theorem pi_enumT {X : Cx} {e : Expr} {ta : TA} {p pos tpos : Pos} {elts : List Expr} {kk : Nat} (hg : Gl X "enumerate") (hm : X.mg "enumerate" = none) (ha : PA X [e] ta) (hs : starEach [e] X.env = [(false, eval e X.env)] := by rfl) :
    PI X (.Tuple elts kk tpos) (.Call (.Name "enumerate" p) [e] [] pos) (iEnumT X.K ta) := by
  refine ⟨fun pins s σ H R I h => ?_⟩
  refine Call_ (ld_blt I hg hm boot_enumerate (PyProof.Rows.callWith_type1 (thn (ha.run pos pins s σ H _ I h) fun us s1 ⟨vs, H1, I1, r1, a, xs, ex, hq, q⟩ => ?_) hs rfl))
  subst ex
  cases r1 with
  | cons r rr =>
    cases rr
    cases r
    obtain ⟨its, rv, p', hz⟩ := I1.tuple hq
    have hal : a < s1.heap.objs.size := by obtain ⟨_, z, _⟩ := p'; exact Heap.lt_size z
    refine call_enum_tup (items := its.toArray) p' fun h' he hit hk => wpAny_pyIter_enum he ?_
    have I2 : Inv X pins σ H1 { s1 with heap := h' } := I1.kept (t' := s1.toks) hk
    refine ⟨s1.heap.objs.size + 1, [s1.heap.objs.size + 1, s1.heap.objs.size], _, _, H1, rfl, I2, turn_enumT a (s1.heap.objs.size + 1) s1.heap.objs.size its, ⟨⟨.none, he⟩, hit, Nat.succ_ne_self _, Nat.ne_of_lt hal, Nat.ne_of_lt (Nat.lt_succ_of_lt hal)⟩, fun b hb => ?_, q⟩
    have hle : s1.heap.objs.size ≤ b := by
      rcases (show b = s1.heap.objs.size + 1 ∨ b = s1.heap.objs.size by simpa using hb) with z | z
      · rw [z]; exact Nat.le_add_right _ _
      · rw [z]; exact Nat.le_refl _
    exact I1.fpOk hle (I1.hok.fresh hle)
theorem walk_enumT {K : PySem.W.Frag} {a : Addr} {xs : List V} : Walk (IteT K a xs) xs.length (fun H => SqT K H a xs) (YPair (fun i => some (.int (i : Nat))) (fun i => xs[i]?)) := by
  refine ⟨fun i _ hi q => ⟨q, hi⟩, fun _ q => ⟨q, rfl⟩, fun i H v H' _ q y => ?_⟩
  obtain ⟨T, x, h1, h2, h3, h4⟩ := y
  exact ⟨T, .int (i : Nat), x, h1, h2, h3, rfl, h4⟩
end Wm
namespace Wm
open PySem L2
/-- the outer walk of a comprehension of two clauses -/
theorem lc2_it {J : It} {n : Nat} {G : Hp → Prop} {Y : Nat → Hp → V → Hp → Prop} (w : Walk J n G Y) {g : TG} {vs : List Nat} {σ : St} {H1 : Hp} {D : Addr} {Qd : Hp → Prop} {inner : St → Hp → (Hp → Prop) → Prop} (Pv : Nat → Hp → Prop) (h0 : Pv 0 (upd H1 D (.lst []))) (hG : ∀ i H, i ≤ n → Pv i H → G H)
    (hs : ∀ i x H H', i < n → Pv i H → Y i H x H' → g x (wipe σ vs) H' fun σ2 H2 => wipe σ2 vs = wipe σ vs ∧ inner σ2 H2 (Pv (i + 1))) (hd : ∀ H, Pv n H → Qd H) :
    ∃ W : Nat → Nat → Hp → Prop, (∃ m, W 0 m (upd H1 D (.lst []))) ∧ ∀ i m H, W i m H →
      (J.stop i H ∧ Qd H) ∨ (J.go i H ∧ ∃ Nx : Hp → Prop, (∀ H', Nx H' → ∃ m', m' < m ∧ W (i + 1) m' H') ∧ ∀ x H', J.yld i H x H' → g x (wipe σ vs) H' fun σ2 H2 => wipe σ2 vs = wipe σ vs ∧ inner σ2 H2 Nx) := by
  refine ⟨fun i m H => m = n - i ∧ i ≤ n ∧ Pv i H, ⟨n, by simp, Nat.zero_le _, h0⟩, ?_⟩
  rintro i m H ⟨rfl, hi, p⟩
  have q := hG i H hi p
  by_cases hlt : i < n
  · exact .inr ⟨w.goes i H hlt q, Pv (i + 1), fun H' p' => ⟨n - (i + 1), by omega, rfl, hlt, p'⟩, fun x H' y => hs i x H H' hlt p (w.yields i H x H' hlt q y)⟩
  · have e : i = n := by omega
    subst e
    exact .inl ⟨w.stops H q, hd H p⟩
/-- the inner one -/
theorem lc1_it {J : It} {n : Nat} {G : Hp → Prop} {Y : Nat → Hp → V → Hp → Prop} (w : Walk J n G Y) {g : TG} {te : TE} {vs : List Nat} {σ : St} {H4 : Hp} {D : Addr} {Nx : Hp → Prop} (Pv : Nat → Hp → Prop) (h0 : Pv 0 H4) (hG : ∀ i H, i ≤ n → Pv i H → G H)
    (hs : ∀ i x H H', i < n → Pv i H → Y i H x H' → g x (wipe σ vs) H' fun σ3 H5 => wipe σ3 vs = wipe σ vs ∧ te σ3 H5 fun y H7 => ∃ acc, H7 D = some (.lst acc) ∧ acc.length < sizeLine ∧ Pv (i + 1) (upd H7 D (.lst (acc ++ [y])))) (hd : ∀ H, Pv n H → Nx H) :
    ∃ W1 : Nat → Nat → Hp → Prop, (∃ m, W1 0 m H4) ∧ ∀ j k H, W1 j k H →
      (J.stop j H ∧ Nx H) ∨ (J.go j H ∧ ∃ Nx1 : Hp → Prop, (∀ H', Nx1 H' → ∃ k', k' < k ∧ W1 (j + 1) k' H') ∧ ∀ x H', J.yld j H x H' → g x (wipe σ vs) H' fun σ3 H5 => wipe σ3 vs = wipe σ vs ∧ tYes σ3 H5 fun b H6 =>
        if b = true then te σ3 H6 fun y H7 => ∃ acc, H7 D = some (.lst acc) ∧ acc.length < sizeLine ∧ Nx1 (upd H7 D (.lst (acc ++ [y]))) else Nx1 H6) := by
  refine ⟨fun i m H => m = n - i ∧ i ≤ n ∧ Pv i H, ⟨n, by simp, Nat.zero_le _, h0⟩, ?_⟩
  rintro i m H ⟨rfl, hi, p⟩
  have q := hG i H hi p
  by_cases hlt : i < n
  · exact .inr ⟨w.goes i H hlt q, Pv (i + 1), fun H' p' => ⟨n - (i + 1), by omega, rfl, hlt, p'⟩, fun x H' y => hs i x H H' hlt p (w.yields i H x H' hlt q y)⟩
  · have e : i = n := by omega
    subst e
    exact .inl ⟨w.stops H q, hd H p⟩
/-- tuple(x) of a list or a tuple -/
def rTupOf (K : PySem.W.Frag) : List V → Hp → VK → Prop := fun xs H Q => ∃ p ys, xs = [.ref p] ∧ ((SqL K H p ys ∧ ∀ l, H l = none → Q (.ref l) (upd H l (.tup ys))) ∨ (SqT K H p ys ∧ Q (.ref p) H))
theorem call_tupN {X : Cx} : CallR X (.type "tuple") (rTupOf X.K) := call_tuple_of
theorem same_seqT {K : PySem.W.Frag} {H H' : Hp} {a : Addr} {xs : List V} (e : Same H H') (h : SqT K H a xs) : SqT K H' a xs := by
  rcases h with (h | ⟨o, h⟩) | h
  · exact .inl (.inl (e _ _ h))
  · exact .inl (.inr ⟨o, e _ _ h⟩)
  · exact .inr h
/-- to be read as a list or a tuple -/
def Sq (K : PySem.W.Frag) (H : Hp) (a : Addr) (xs : List V) : Prop := SqL K H a xs ∨ SqT K H a xs
theorem same_sq {K : PySem.W.Frag} {H H' : Hp} {a : Addr} {xs : List V} (e : Same H H') (h : Sq K H a xs) : Sq K H' a xs := h.imp (fun h => e.seq h) (fun h => same_seqT e h)
theorem cut_take (xs : List V) (i : Nat) : cutV xs none (some (i : Int)) = xs.take i := by
  unfold cutV
  rw [HT.sIx_none, HT.sIx_nat, List.drop_zero, Nat.sub_zero]
  by_cases h : i ≤ xs.length
  · rw [Nat.min_eq_left h]
  · rw [Nat.min_eq_right (by omega), List.take_length, List.take_of_length_le (by omega)]
theorem all_take {xs : List V} (h : xs.all flatV = true) (i : Nat) : (xs.take i).all flatV = true := by
  rw [List.all_eq_true] at h ⊢
  exact fun x hx => h x (List.mem_of_mem_take hx)
end Wm
namespace Wm
open PySem L2
abbrev sFT : Stmt := top 15
abbrev sRT : Stmt := top 16
abbrev sRC : Stmt := top 17
/-- no item stands ahead of itself -/
def NoTw (xs : List V) : Prop := ∀ (i : Nat) (x : V), xs[i]? = some x → inV x (xs.take i) = false
def spFT (K : PySem.W.Frag) : Sp := fun vs H Q _ => ∃ (l : Addr) (xs : List V), vs = [.ref l] ∧ Sq K H l xs ∧ xs.all flatV = true ∧ NoTw xs ∧ ∀ H', Same H H' → Q .non H'
def spRC : Sp := fun vs H Q _ => ∃ (z : V) (c lo hi : Int), vs = [z, .int c, .int lo, .int hi] ∧ lo ≤ c ∧ c ≤ hi ∧ Q .non H
section
variable {P : Program} {w : World} {K : PySem.W.Frag} {mg : Str → Option Value} {base : Heap}
theorem scRC : FnScope ["what", "count", "least", "most"] ["what", "count", "least", "most"] (defScope sRC) := ⟨rfl, rfl, rfl, by decide +kernel, rfl, by decide +kernel, by decide +kernel⟩
theorem ok_rc {f : Addr} {fd : FuncData} (F : Fun K "refuse_count" "refuse_count" sRC f fd) : FnOk P w K mg base CX0 1 f fd ["what", "count", "least", "most"] spRC := by
  refine F.ok scRC (fun vs H Q E h => ?_) (fun cdv A outer s H vs Q E hr h => ?_)
  · obtain ⟨z, c, lo, hi, rfl, _⟩ := h
    rfl
  · obtain ⟨z, c, lo, hi, rfl, h1, h2, k⟩ := h
    refine ⟨_, (pss_one (ps_if (PW.pt (pw_or (pt_cmpR op_lt (pv 1) (pv 2) (nomark _)) (pw_or1 (pt_cmpR op_gt (pv 1) (pv 3) (nomark _))))) (pss_one ps_never) pss_nil)), ?_⟩
    refine ⟨_, rfl, _, rfl, _, _, rfl, rfl, _, rfl, ?_⟩
    refine ite2 (fun h => absurd (of_decide_eq_true h) (by omega)) (fun _ => ?_)
    refine ⟨_, rfl, _, rfl, _, _, rfl, rfl, _, rfl, ?_⟩
    exact ite2 (fun h => absurd (of_decide_eq_true h) (by omega)) (fun _ => k)
theorem scFT : FnScope ["row", "place", "part"] ["row"] (defScope sFT) := ⟨rfl, rfl, rfl, by decide +kernel, rfl, by decide +kernel, by decide +kernel⟩
theorem ok_ft {f : Addr} {fd : FuncData} (F : Fun K "first_twice" "first_twice" sFT f fd) (T : TxB mg) : FnOk P w K mg base CX0 1 f fd ["row"] (spFT K) := by
  refine F.ok scFT (fun vs H Q E h => ?_) (fun cdv A outer s H vs Q E hr h => ?_)
  · obtain ⟨l, xs, rfl, _⟩ := h
    rfl
  · obtain ⟨l, xs, rfl, hl, hf, hno, k⟩ := h
    rcases hl with hl | hl
    · refine ⟨_, (pss_cons (ps_for PassesOwn.never rfl (pi_enum rfl T.enumerate (pa_cons (pv 0) pa_nil)) (pg_tup rfl (pgs_cons (pg_name (i := 1) scFT.nd rfl (Or.inl rfl)) (pgs_cons (pg_name (i := 2) scFT.nd rfl (Or.inl rfl)) pgs_nil))) (pss_one (ps_if (pt_cmpR op_in_seq (pv 2) (pe_slice sl_list (pv 0) po_none (po_some (pv 1))) (by rfl)) (pss_one (ps_ret (pv 1))) pss_nil)))
      (pss_one (ps_ret pe_non))), ?_⟩
      refine ⟨_, rfl, l, xs, rfl, hl, for_it walk_enum (fun i σ H' => (∃ u v, σ = [some (.ref l), u, v]) ∧ Same H H') ⟨⟨none, none, rfl⟩, Same.refl H⟩ (fun i σ H' _ p => p.2.seq hl) ?_ ?_⟩
      · rintro i x σ H1 H2 hi ⟨⟨u, v, rfl⟩, hS⟩ ⟨t, y, z, rfl, ht, rfl, e1, e2⟩
        cases e1
        refine ⟨t, _, rfl, SqT.of upd_same, rfl, _, _, rfl, _, _, rfl, rfl, ?_⟩
        have S2 := hS.trans (Same.upd (o := .tup [.int (i : Nat), z]) ht)
        refine ⟨_, rfl, _, rfl, _, rfl, _, rfl, l, xs, rfl, S2.seq hl, fun p hp => ?_⟩
        refine ⟨p, _, rfl, .inl (SqL.of upd_same), ?_, ?_, _, rfl, ?_⟩
        · exact List.all_eq_true.mp hf _ (List.mem_of_getElem? e2)
        · show (cutV xs none (some (i : Int))).all flatV = true
          rw [cut_take]
          exact all_take hf i
        · have e : inV z (cutV xs none (some (i : Int))) = false := by
            rw [cut_take]
            exact hno i z e2
          show if inV z (cutV xs none (some (i : Int))) = true then _ else _
          rw [e]
          exact iteF ⟨⟨_, _, rfl⟩, S2.trans (Same.upd hp)⟩
      · rintro σ H' ⟨_, hS⟩
        exact k H' hS
    · refine ⟨_, (pss_cons (ps_for PassesOwn.never rfl (pi_enumT rfl T.enumerate (pa_cons (pv 0) pa_nil)) (pg_tup rfl (pgs_cons (pg_name (i := 1) scFT.nd rfl (Or.inl rfl)) (pgs_cons (pg_name (i := 2) scFT.nd rfl (Or.inl rfl)) pgs_nil))) (pss_one (ps_if (pt_cmpR op_in_seq (pv 2) (pe_slice sl_tupA (pv 0) po_none (po_some (pv 1))) (by rfl)) (pss_one (ps_ret (pv 1))) pss_nil)))
      (pss_one (ps_ret pe_non))), ?_⟩
      refine ⟨_, rfl, l, xs, rfl, hl, for_it walk_enumT (fun i σ H' => (∃ u v, σ = [some (.ref l), u, v]) ∧ Same H H') ⟨⟨none, none, rfl⟩, Same.refl H⟩ (fun i σ H' _ p => same_seqT p.2 hl) ?_ ?_⟩
      · rintro i x σ H1 H2 hi ⟨⟨u, v, rfl⟩, hS⟩ ⟨t, y, z, rfl, ht, rfl, e1, e2⟩
        cases e1
        refine ⟨t, _, rfl, SqT.of upd_same, rfl, _, _, rfl, _, _, rfl, rfl, ?_⟩
        have S2 := hS.trans (Same.upd (o := .tup [.int (i : Nat), z]) ht)
        refine ⟨_, rfl, _, rfl, _, rfl, _, rfl, l, xs, rfl, same_seqT S2 hl, fun h => ?_, fun h p hp => ?_⟩
        · have en : xs.take i = xs := by
            rw [HT.sIx_nat] at h
            exact List.take_of_length_le (by omega)
          have e : inV z xs = false := by
            have q := hno i z e2
            rw [en] at q
            exact q
          refine ⟨l, xs, rfl, .inr (same_seqT S2 hl), List.all_eq_true.mp hf _ (List.mem_of_getElem? e2), hf, _, rfl, ?_⟩
          show if inV z xs = true then _ else _
          rw [e]
          exact iteF ⟨⟨_, _, rfl⟩, S2⟩
        · refine ⟨p, _, rfl, .inr (SqT.of upd_same), List.all_eq_true.mp hf _ (List.mem_of_getElem? e2), ?_, _, rfl, ?_⟩
          · show (cutV xs none (some (i : Int))).all flatV = true
            rw [cut_take]
            exact all_take hf i
          · have e : inV z (cutV xs none (some (i : Int))) = false := by
              rw [cut_take]
              exact hno i z e2
            show if inV z (cutV xs none (some (i : Int))) = true then _ else _
            rw [e]
            exact iteF ⟨⟨_, _, rfl⟩, S2.trans (Same.upd hp)⟩
      · rintro σ H' ⟨_, hS⟩
        exact k H' hS
theorem scRT : FnScope ["names", "place"] ["names"] (defScope sRT) := ⟨rfl, rfl, rfl, by decide +kernel, rfl, by decide +kernel, by decide +kernel⟩
theorem ok_rt {f fF : Addr} {fd fdF : FuncData} (F : Fun K "refuse_twice" "refuse_twice" sRT f fd) (T : TxB mg) (D : Dn K mg "first_twice" sFT ["row"] fF fdF) : FnOk P w K mg base CX0 2 f fd ["names"] (spFT K) := by
  have G : FnOk P w K mg base CX0 1 fF fdF ["row"] (spFT K) := ok_ft D.F T
  refine F.ok scRT (fun vs H Q E h => ?_) (fun cdv A outer s H vs Q E hr h => ?_)
  · obtain ⟨l, xs, rfl, _⟩ := h
    rfl
  · obtain ⟨l, xs, rfl, hl, hf, hno, k⟩ := h
    refine ⟨_, (pss_cons (ps_set (i := 1) scRT.nd rfl (Or.inl rfl) (pe_call G hr rfl D.g D.F.kp D.b .nil pass0 (pa_cons (pv 0) pa_nil)))
      (pss_one (ps_if (pt_cmp (pc_notN (pv 1))) (pss_one ps_never) pss_nil))), ?_⟩
    refine ⟨_, rfl, l, xs, rfl, hl, hf, hno, fun H' hS => ?_⟩
    refine ⟨_, rfl, _, rfl, ?_⟩
    exact iteF (k H' hS)
end
end Wm
namespace Wm
open PySem L2
abbrev sTT : Stmt := top 21
abbrev sEO : Stmt := top 22
/-- the tuples at the addresses -/
def RowsAt (K : PySem.W.Frag) (H : Hp) : List Addr → List (List V) → Prop
  | [], [] => True
  | p :: ps, r :: rs => SqT K H p r ∧ RowsAt K H ps rs
  | _, _ => False
theorem RowsAt.same {K : PySem.W.Frag} {H H' : Hp} (e : Same H H') : ∀ {ps : List Addr} {rs : List (List V)}, RowsAt K H ps rs → RowsAt K H' ps rs
  | [], [], _ => True.intro
  | _ :: _, _ :: _, h => ⟨same_seqT e h.1, RowsAt.same e h.2⟩
  | [], _ :: _, h => h.elim
  | _ :: _, [], h => h.elim
theorem RowsAt.len {K : PySem.W.Frag} {H : Hp} : ∀ {ps : List Addr} {rs : List (List V)}, RowsAt K H ps rs → ps.length = rs.length
  | [], [], _ => rfl
  | _ :: _, _ :: _, h => congrArg Nat.succ (RowsAt.len h.2)
  | [], _ :: _, h => h.elim
  | _ :: _, [], h => h.elim
theorem RowsAt.get {K : PySem.W.Frag} {H : Hp} : ∀ {ps : List Addr} {rs : List (List V)} {i : Nat} {p : Addr}, RowsAt K H ps rs → ps[i]? = some p → ∃ r, rs[i]? = some r ∧ SqT K H p r
  | [], [], i, p, _, e => by simp at e
  | _ :: _, r :: _, 0, p, h, e => by
    have e' := Option.some.inj e
    subst e'
    exact ⟨r, rfl, h.1⟩
  | _ :: ps, _ :: rs, i + 1, p, h, e => by
    obtain ⟨r, h1, h2⟩ := RowsAt.get (i := i) h.2 (by simpa using e)
    exact ⟨r, by simpa using h1, h2⟩
  | [], _ :: _, _, _, h, _ => h.elim
  | _ :: _, [], _, _, h, _ => h.elim
theorem RowsAt.append {K : PySem.W.Frag} {H : Hp} : ∀ {ps qs : List Addr} {rs us : List (List V)}, RowsAt K H ps rs → RowsAt K H qs us → RowsAt K H (ps ++ qs) (rs ++ us)
  | [], _, [], _, _, h => h
  | _ :: _, _, _ :: _, _, h, g => ⟨h.1, RowsAt.append h.2 g⟩
  | [], _, _ :: _, _, h, _ => h.elim
  | _ :: _, _, [], _, h, _ => h.elim
theorem RowsAt.take {K : PySem.W.Frag} {H : Hp} : ∀ {ps : List Addr} {rs : List (List V)} (n : Nat), RowsAt K H ps rs → RowsAt K H (ps.take n) (rs.take n)
  | _, _, 0, _ => True.intro
  | [], [], _ + 1, _ => True.intro
  | _ :: _, _ :: _, n + 1, h => ⟨h.1, RowsAt.take n h.2⟩
  | [], _ :: _, _ + 1, h => h.elim
  | _ :: _, [], _ + 1, h => h.elim
theorem map_ref_get {ps : List Addr} {i : Nat} {x : V} (h : (ps.map V.ref)[i]? = some x) : ∃ p, ps[i]? = some p ∧ x = .ref p := by
  rw [List.getElem?_map] at h
  cases e : ps[i]? with
  | none =>
    rw [e] at h
    cases h
  | some p =>
    rw [e] at h
    exact ⟨p, rfl, (Option.some.inj h).symm⟩
theorem map_str_get {ps : List Str} {i : Nat} {x : V} (h : (ps.map V.str)[i]? = some x) : ∃ p, ps[i]? = some p ∧ x = .str p := by
  rw [List.getElem?_map] at h
  cases e : ps[i]? with
  | none =>
    rw [e] at h
    cases h
  | some p =>
    rw [e] at h
    exact ⟨p, rfl, (Option.some.inj h).symm⟩
abbrev Tri := Str × Str × Str
def triV (t : Tri) : List V := [.str t.1, .str t.2.1, .str t.2.2]
def endsL (ts : List Tri) : List Str := ts.flatMap fun t => [t.1, t.2.2]
theorem endsL_take {ts : List Tri} {i : Nat} {t : Tri} (h : ts[i]? = some t) : endsL (ts.take (i + 1)) = endsL (ts.take i) ++ [t.1, t.2.2] := by
  unfold endsL
  rw [List.take_add_one, h, List.flatMap_append]
  rfl
theorem endsL_len (ts : List Tri) : (endsL ts).length = 2 * ts.length := by
  induction ts with
  | nil => rfl
  | cons t r ih =>
    have e : (endsL (t :: r)).length = 2 + (endsL r).length := by
      show ([t.1, t.2.2] ++ endsL r).length = _
      rw [List.length_append]
      rfl
    have e2 : (t :: r).length = r.length + 1 := rfl
    omega
theorem tri_get {ts : List Tri} {i : Nat} {r : List V} (h : (ts.map triV)[i]? = some r) : ∃ t, ts[i]? = some t ∧ r = triV t := by
  rw [List.getElem?_map] at h
  cases e : ts[i]? with
  | none =>
    rw [e] at h
    cases h
  | some p =>
    rw [e] at h
    exact ⟨p, rfl, (Option.some.inj h).symm⟩
def spTT (K : PySem.W.Frag) : Sp := fun vs H Q _ => ∃ (l : Addr) (ps : List Addr) (rs : List (List V)), vs = [.ref l] ∧ SqL K H l (ps.map V.ref) ∧ RowsAt K H ps rs ∧ ps.length ≤ 1000 ∧ ∀ t H', H t = none → Same H H' → H' t = some (.tup (ps.map V.ref)) → Q (.ref t) H'
def spEO (K : PySem.W.Frag) : Sp := fun vs H Q _ => ∃ (l : Addr) (ps : List Addr) (ts : List Tri), vs = [.ref l] ∧ Sq K H l (ps.map V.ref) ∧ RowsAt K H ps (ts.map triV) ∧ ps.length ≤ 1000 ∧ ∀ d H', H d = none → Same H H' → H' d = some (.lst ((endsL ts).map V.str)) → Q (.ref d) H'
section
variable {P : Program} {w : World} {K : PySem.W.Frag} {mg : Str → Option Value} {base : Heap}
theorem scTT : FnScope ["rows", "row"] ["rows"] (defScope sTT) := ⟨rfl, rfl, rfl, by decide +kernel, rfl, by decide +kernel, by decide +kernel⟩
theorem ok_tt {f : Addr} {fd : FuncData} (F : Fun K "tuple_of_tuples" "tuple_of_tuples" sTT f fd) (T : TxB mg) : FnOk P w K mg base CX0 1 f fd ["rows"] (spTT K) := by
  refine F.ok scTT (fun vs H Q E h => ?_) (fun cdv A outer s H vs Q E hr h => ?_)
  · obtain ⟨l, ps, rs, rfl, _⟩ := h
    rfl
  · obtain ⟨l, ps, rs, rfl, hl, hrs, hn, k⟩ := h
    refine ⟨_, (pss_one (ps_ret (pe_callTy call_tupN (by rfl) T.tuple (by decide +kernel) (pa_cons (pe_lc (own := [("row", 1)]) (g := gName 1) (te := tCB (rTupOf K) (tCons (tVar 1) tNil)) rfl scTT.nd (pi_list (pv 0)) (blkOk_by (N := ["rows", "row"]) (sc := defScope sTT) (by decide +kernel)) (fun _ _ _ _ _ => (pg_name (i := 1) scTT.nd rfl (Or.inl rfl))) (fun _ _ _ _ _ => pts_nil) (fun _ _ _ _ _ => (pe_callTy call_tupN (by rfl) T.tuple (by decide +kernel) (pa_cons (pv 1) pa_nil)))) pa_nil)))), ?_⟩
    refine ⟨_, rfl, l, rfl, ⟨_, hl⟩, fun D hD => ?_⟩
    refine lc_it walk_list (fun i H' => Same H H' ∧ H' D = some (.lst ((ps.take i).map V.ref))) ⟨Same.upd hD, upd_same⟩ (fun i H' _ p => p.1.seq hl) ?_ ?_
    · rintro i x H1 H2 hi ⟨hS, hd⟩ ⟨rfl, hx⟩
      obtain ⟨p, hp, rfl⟩ := map_ref_get hx
      obtain ⟨r, _, hr'⟩ := hrs.get hp
      refine ⟨rfl, ?_⟩
      refine ⟨_, rfl, p, r, rfl, .inr ⟨same_seqT hS hr', _, hd, ?_, ?_, ?_⟩⟩
      · rw [List.length_map, List.length_take]
        exact Nat.lt_of_le_of_lt (show _ ≤ 1000 by omega) (by decide)
      · intro b o h
        rw [upd_ne (ne_of_none h hD)]
        exact hS b o h
      · rw [upd_same, List.take_add_one, hp, List.map_append]
        rfl
    · rintro H' ⟨hS, hd⟩
      rw [List.length_map, List.take_length] at hd
      exact ⟨D, _, rfl, .inl ⟨SqL.of hd, fun t ht => k t _ (hS.free ht) (hS.trans (Same.upd ht)) upd_same⟩⟩
theorem scEO : FnScope ["triples", "x", "word", "y", "end"] ["triples"] (defScope sEO) := ⟨rfl, rfl, rfl, by decide +kernel, rfl, by decide +kernel, by decide +kernel⟩
theorem ok_eo {f : Addr} {fd : FuncData} (F : Fun K "ends_of" "ends_of" sEO f fd) : FnOk P w K mg base CX0 1 f fd ["triples"] (spEO K) := by
  refine F.ok scEO (fun vs H Q E h => ?_) (fun cdv A outer s H vs Q E hr h => ?_)
  · obtain ⟨l, ps, ts, rfl, _⟩ := h
    rfl
  · obtain ⟨l, ps, ts, rfl, hl, hrs, hn, k⟩ := h
    have hlen := hrs.len
    rw [List.length_map] at hlen
    rcases hl with hl | hl
    · refine ⟨_, (pss_one (ps_ret (pe_lc2 (own := [("x", 1), ("word", 2), ("y", 3), ("end", 4)]) (vs1 := [4]) (g := gTup K 3 (gCons (gName 1) (gCons (gName 2) (gCons (gName 3) gNil)))) (g1 := gName 4) (wi1 := iTup K (tTup (tCons (tVar 1) (tCons (tVar 3) tNil)))) rfl scEO.nd (pi_list (pv 0)) (blkOk_by (N := ["triples", "x", "word", "y", "end"]) (sc := defScope sEO) (by decide +kernel)) (by decide) (fun _ _ _ _ _ => (pg_tup rfl (pgs_cons (pg_name (i := 1) scEO.nd rfl (Or.inl rfl)) (pgs_cons (pg_name (i := 2) scEO.nd rfl (Or.inl rfl)) (pgs_cons (pg_name (i := 3) scEO.nd rfl (Or.inl rfl)) pgs_nil))))) (fun _ _ _ _ _ => pts_nil) (fun _ _ _ _ _ => (pi_tup (pe_tup (pa_cons (pv 1) (pa_cons (pv 3) pa_nil))))) (fun _ _ _ _ _ => (pg_name (i := 4) scEO.nd rfl (Or.inl rfl))) (fun _ _ _ _ _ => pts_nil) (fun _ _ _ _ _ => (pv 4))))), ?_⟩
      refine ⟨_, rfl, l, rfl, ⟨_, hl⟩, fun D hD => ?_⟩
      refine lc2_it walk_list (fun i H' => Same H H' ∧ H' D = some (.lst ((endsL (ts.take i)).map V.str))) ⟨Same.upd hD, upd_same⟩ (fun i H' _ p => p.1.seq hl) ?_ ?_
      · rintro i x H1 H2 hi ⟨hS, hd⟩ ⟨rfl, hx⟩
        obtain ⟨p, hp, rfl⟩ := map_ref_get hx
        obtain ⟨r, hr1, hr'⟩ := hrs.get hp
        obtain ⟨t, ht, rfl⟩ := tri_get hr1
        refine ⟨p, _, rfl, same_seqT hS hr', rfl, _, _, rfl, _, _, rfl, _, _, rfl, rfl, rfl, ?_⟩
        refine ⟨_, rfl, _, rfl, by show 2 ≤ sizeLine; decide, fun q hq => ⟨q, rfl, ⟨_, SqT.of upd_same⟩, ?_⟩⟩
        have nDq : D ≠ q := ne_of_none hd hq
        refine lc1_it walk_tup (fun j H' => Same H H' ∧ SqT K H' q [.str t.1, .str t.2.2] ∧ H' D = some (.lst ((endsL (ts.take i) ++ [t.1, t.2.2].take j).map V.str))) ⟨hS.trans (Same.upd hq), SqT.of upd_same, ?_⟩ (fun _ _ _ p => p.2.1) ?_ ?_
        · rw [upd_ne nDq, hd, List.take_zero, List.append_nil]
        · rintro j y H3 H4 hj ⟨hS3, hq3, hd3⟩ ⟨rfl, hy⟩
          refine ⟨rfl, _, rfl, _, hd3, ?_, ?_, ?_, ?_⟩
          · rw [List.length_map, List.length_append, endsL_len, List.length_take, List.length_take]
            have l2 : [t.1, t.2.2].length = 2 := rfl
            exact Nat.lt_of_le_of_lt (show _ ≤ 4000 by omega) (by decide)
          · intro b o h
            rw [upd_ne (ne_of_none h hD)]
            exact hS3 b o h
          · rcases hq3 with (h | ⟨o, h⟩) | h
            · exact .inl (.inl (by rw [upd_ne (ne_of h hd3 (by intro z; cases z))]; exact h))
            · exact .inl (.inr ⟨o, by rw [upd_ne (ne_of h hd3 (by intro z; cases z))]; exact h⟩)
            · exact .inr h
          · have hy' : ([t.1, t.2.2].map V.str)[j]? = some y := hy
            obtain ⟨z, hz, rfl⟩ := map_str_get hy'
            have e : ∀ l : List Str, (l ++ (some z).toList).map V.str = l.map V.str ++ [V.str z] := fun l => by
              rw [List.map_append]
              rfl
            rw [upd_same, List.take_add_one, hz, ← List.append_assoc, e]
        · rintro H3 ⟨hS3, hq3, hd3⟩
          refine ⟨hS3, ?_⟩
          rw [hd3, endsL_take ht]
          rfl
      · rintro H' ⟨hS, hd⟩
        refine k D H' hD hS ?_
        rw [hd, List.length_map, List.take_of_length_le (by omega)]
    · refine ⟨_, (pss_one (ps_ret (pe_lc2 (own := [("x", 1), ("word", 2), ("y", 3), ("end", 4)]) (vs1 := [4]) (g := gTup K 3 (gCons (gName 1) (gCons (gName 2) (gCons (gName 3) gNil)))) (g1 := gName 4) (wi1 := iTup K (tTup (tCons (tVar 1) (tCons (tVar 3) tNil)))) rfl scEO.nd (pi_tup (pv 0)) (blkOk_by (N := ["triples", "x", "word", "y", "end"]) (sc := defScope sEO) (by decide +kernel)) (by decide) (fun _ _ _ _ _ => (pg_tup rfl (pgs_cons (pg_name (i := 1) scEO.nd rfl (Or.inl rfl)) (pgs_cons (pg_name (i := 2) scEO.nd rfl (Or.inl rfl)) (pgs_cons (pg_name (i := 3) scEO.nd rfl (Or.inl rfl)) pgs_nil))))) (fun _ _ _ _ _ => pts_nil) (fun _ _ _ _ _ => (pi_tup (pe_tup (pa_cons (pv 1) (pa_cons (pv 3) pa_nil))))) (fun _ _ _ _ _ => (pg_name (i := 4) scEO.nd rfl (Or.inl rfl))) (fun _ _ _ _ _ => pts_nil) (fun _ _ _ _ _ => (pv 4))))), ?_⟩
      refine ⟨_, rfl, l, rfl, ⟨_, hl⟩, fun D hD => ?_⟩
      refine lc2_it walk_tup (fun i H' => Same H H' ∧ H' D = some (.lst ((endsL (ts.take i)).map V.str))) ⟨Same.upd hD, upd_same⟩ (fun i H' _ p => same_seqT p.1 hl) ?_ ?_
      · rintro i x H1 H2 hi ⟨hS, hd⟩ ⟨rfl, hx⟩
        obtain ⟨p, hp, rfl⟩ := map_ref_get hx
        obtain ⟨r, hr1, hr'⟩ := hrs.get hp
        obtain ⟨t, ht, rfl⟩ := tri_get hr1
        refine ⟨p, _, rfl, same_seqT hS hr', rfl, _, _, rfl, _, _, rfl, _, _, rfl, rfl, rfl, ?_⟩
        refine ⟨_, rfl, _, rfl, by show 2 ≤ sizeLine; decide, fun q hq => ⟨q, rfl, ⟨_, SqT.of upd_same⟩, ?_⟩⟩
        have nDq : D ≠ q := ne_of_none hd hq
        refine lc1_it walk_tup (fun j H' => Same H H' ∧ SqT K H' q [.str t.1, .str t.2.2] ∧ H' D = some (.lst ((endsL (ts.take i) ++ [t.1, t.2.2].take j).map V.str))) ⟨hS.trans (Same.upd hq), SqT.of upd_same, ?_⟩ (fun _ _ _ p => p.2.1) ?_ ?_
        · rw [upd_ne nDq, hd, List.take_zero, List.append_nil]
        · rintro j y H3 H4 hj ⟨hS3, hq3, hd3⟩ ⟨rfl, hy⟩
          refine ⟨rfl, _, rfl, _, hd3, ?_, ?_, ?_, ?_⟩
          · rw [List.length_map, List.length_append, endsL_len, List.length_take, List.length_take]
            have l2 : [t.1, t.2.2].length = 2 := rfl
            exact Nat.lt_of_le_of_lt (show _ ≤ 4000 by omega) (by decide)
          · intro b o h
            rw [upd_ne (ne_of_none h hD)]
            exact hS3 b o h
          · rcases hq3 with (h | ⟨o, h⟩) | h
            · exact .inl (.inl (by rw [upd_ne (ne_of h hd3 (by intro z; cases z))]; exact h))
            · exact .inl (.inr ⟨o, by rw [upd_ne (ne_of h hd3 (by intro z; cases z))]; exact h⟩)
            · exact .inr h
          · have hy' : ([t.1, t.2.2].map V.str)[j]? = some y := hy
            obtain ⟨z, hz, rfl⟩ := map_str_get hy'
            have e : ∀ l : List Str, (l ++ (some z).toList).map V.str = l.map V.str ++ [V.str z] := fun l => by
              rw [List.map_append]
              rfl
            rw [upd_same, List.take_add_one, hz, ← List.append_assoc, e]
        · rintro H3 ⟨hS3, hq3, hd3⟩
          refine ⟨hS3, ?_⟩
          rw [hd3, endsL_take ht]
          rfl
      · rintro H' ⟨hS, hd⟩
        refine k D H' hD hS ?_
        rw [hd, List.length_map, List.take_of_length_le (by omega)]
end
end Wm
namespace Wm
open PySem L2
abbrev sTP : Stmt := top 23
abbrev sRV : Stmt := top 24
abbrev sRL : Stmt := top 25
abbrev sRA : Stmt := top 26
abbrev Var := Str × Option Str
def sortV : Option Str → V
  | none => .non
  | some s => .str s
def varV (v : Var) : List V := [.str v.1, sortV v.2]
def varT (v : Var) : List Str := v.1 :: v.2.toList
def textsL (nm : Str) (vars : List Var) (ts : List Tri) : List Str := (nm :: vars.flatMap varT) ++ ts.map (·.2.1)
theorem flat_take {vars : List Var} {i : Nat} {v : Var} (h : vars[i]? = some v) : (vars.take (i + 1)).flatMap varT = (vars.take i).flatMap varT ++ varT v := by
  rw [List.take_add_one, h, List.flatMap_append]
  simp
theorem var_get {vars : List Var} {i : Nat} {r : List V} (h : (vars.map varV)[i]? = some r) : ∃ t, vars[i]? = some t ∧ r = varV t := by
  rw [List.getElem?_map] at h
  cases e : vars[i]? with
  | none =>
    rw [e] at h
    cases h
  | some p =>
    rw [e] at h
    exact ⟨p, rfl, (Option.some.inj h).symm⟩
theorem inV_str {z : Str} {ns : List Str} : inV (.str z) (ns.map V.str) = decide (z ∈ ns) := by
  unfold inV
  induction ns with
  | nil => rfl
  | cons a r ih =>
    rw [List.map_cons, List.any_cons, ih]
    show (a == z || _) = _
    by_cases h : a = z
    · subst h
      simp
    · have h2 : ¬ z = a := fun q => h q.symm
      by_cases h3 : z ∈ r <;> simp [h, h2, h3]
theorem flat_strs (ns : List Str) : (ns.map V.str).all flatV = true := by
  rw [List.all_eq_true]
  intro x hx
  obtain ⟨z, _, rfl⟩ := List.mem_map.mp hx
  rfl
def spTP (K : PySem.W.Frag) : Sp := fun vs H Q _ => ∃ (nm : Str) (a b : Addr) (ps qs : List Addr) (vars : List Var) (ts : List Tri), vs = [.str nm, .ref a, .ref b] ∧ SqT K H a (ps.map V.ref) ∧ RowsAt K H ps (vars.map varV) ∧ SqL K H b (qs.map V.ref) ∧ RowsAt K H qs (ts.map triV) ∧
  ps.length ≤ 1000 ∧ qs.length ≤ 1000 ∧ ∀ d H', H d = none → Same H H' → H' d = some (.lst ((textsL nm vars ts).map V.str)) → Q (.ref d) H'
def spRV (K : PySem.W.Frag) : Sp := fun vs H Q _ => ∃ (a b : Addr) (ns zs : List Str), vs = [.ref a, .ref b] ∧ SqL K H a (ns.map V.str) ∧ SqL K H b (zs.map V.str) ∧ (∀ z ∈ zs, z ∈ ns) ∧ ∀ H', Same H H' → Q .non H'
def spRL (K : PySem.W.Frag) : Sp := fun vs H Q _ => ∃ (a b : Addr) (ns : List Str) (ps : List Addr) (ts : List Tri), vs = [.ref a, .ref b] ∧ SqL K H a (ns.map V.str) ∧ SqT K H b (ps.map V.ref) ∧ RowsAt K H ps (ts.map triV) ∧ ps.length ≤ 1000 ∧ (∀ z ∈ ns, z ∈ endsL ts) ∧ ∀ H', Same H H' → Q .non H'
def Hangs (ts : List Tri) : Prop := ∀ (i : Nat) (t : Tri), 0 < i → ts[i]? = some t → t.1 ∈ endsL (ts.take i) ∨ t.2.2 ∈ endsL (ts.take i)
def spRA (K : PySem.W.Frag) : Sp := fun vs H Q _ => ∃ (b : Addr) (ps : List Addr) (ts : List Tri), vs = [.ref b] ∧ SqT K H b (ps.map V.ref) ∧ RowsAt K H ps (ts.map triV) ∧ ps.length ≤ 1000 ∧ Hangs ts ∧ ∀ H', Same H H' → Q .non H'
section
variable {P : Program} {w : World} {K : PySem.W.Frag} {mg : Str → Option Value} {base : Heap}
theorem scTP : FnScope ["name", "variables", "triples", "texts", "variable", "sort", "x", "word", "y"] ["name", "variables", "triples"] (defScope sTP) := ⟨rfl, rfl, rfl, by decide +kernel, rfl, by decide +kernel, by decide +kernel⟩
theorem ok_tp {f : Addr} {fd : FuncData} (F : Fun K "texts_of_pattern" "texts_of_pattern" sTP f fd) : FnOk P w K mg base CX0 1 f fd ["name", "variables", "triples"] (spTP K) := by
  refine F.ok scTP (fun vs H Q E h => ?_) (fun cdv A outer s H vs Q E hr h => ?_)
  · obtain ⟨nm, a, b, ps, qs, vars, ts, rfl, _⟩ := h
    rfl
  · obtain ⟨nm, a, b, ps, qs, vars, ts, rfl, ha, hva, hb, htr, hn, hn2, k⟩ := h
    have hlen := hva.len
    rw [List.length_map] at hlen
    have hlen2 := htr.len
    rw [List.length_map] at hlen2
    have fl : ∀ i, ((vars.take i).flatMap varT).length ≤ 2 * vars.length := fun i => by
      have e : ∀ l : List Var, (l.flatMap varT).length ≤ 2 * l.length := fun l => by
        induction l with
        | nil => exact Nat.le_refl _
        | cons v r ih =>
          have e : ((v :: r).flatMap varT).length = (varT v).length + (r.flatMap varT).length := by
            rw [List.flatMap_cons, List.length_append]
          have e2 : (varT v).length ≤ 2 := by
            unfold varT
            cases v.2 <;> simp
          have e3 : (v :: r).length = r.length + 1 := rfl
          omega
      have q := e (vars.take i)
      rw [List.length_take] at q
      omega
    refine ⟨_, (pss_cons (ps_set (i := 3) scTP.nd rfl (Or.inl rfl) (pe_lst (pa_cons (pv 0) pa_nil)))
      (pss_cons (ps_for PassesOwn.never rfl (pi_tup (pv 1)) (pg_tup rfl (pgs_cons (pg_name (i := 4) scTP.nd rfl (Or.inl rfl)) (pgs_cons (pg_name (i := 5) scTP.nd rfl (Or.inl rfl)) pgs_nil))) (pss_cons (ps_expr (pe_bm PySem.F.plainAttrs_list PySem.F.slot_list_append PySem.F.type_list_append mt_append (pv 3) (pa_cons (pv 4) pa_nil)))
      (pss_one (ps_if (pt_cmp (pc_notN (pv 5))) (pss_one (ps_expr (pe_bm PySem.F.plainAttrs_list PySem.F.slot_list_append PySem.F.type_list_append mt_append (pv 3) (pa_cons (pv 5) pa_nil)))) pss_nil))))
      (pss_cons (ps_expr (pe_bm PySem.F.plainAttrs_list PySem.F.slot_list_extend PySem.F.type_list_extend mt_extend (pv 3) (pa_cons (pe_lc (own := [("x", 6), ("word", 7), ("y", 8)]) (g := gTup K 3 (gCons (gName 6) (gCons (gName 7) (gCons (gName 8) gNil)))) rfl scTP.nd (pi_list (pv 2)) (blkOk_by (N := ["name", "variables", "triples", "texts", "variable", "sort", "x", "word", "y"]) (sc := defScope sTP) (by decide +kernel)) (fun _ _ _ _ _ => (pg_tup rfl (pgs_cons (pg_name (i := 6) scTP.nd rfl (Or.inl rfl)) (pgs_cons (pg_name (i := 7) scTP.nd rfl (Or.inl rfl)) (pgs_cons (pg_name (i := 8) scTP.nd rfl (Or.inl rfl)) pgs_nil))))) (fun _ _ _ _ _ => pts_nil) (fun _ _ _ _ _ => (pv 7))) pa_nil)))
      (pss_one (ps_ret (pv 3)))))), ?_⟩
    refine ⟨_, rfl, by show 1 ≤ sizeLine; decide, fun d hd => ?_⟩
    have S0 : Same H (upd H d (.lst [.str nm])) := Same.upd hd
    refine ⟨_, rfl, a, rfl, ⟨_, same_seqT S0 ha⟩, for_it walk_tup (fun i σ H' => (∃ u v, σ = [some (.str nm), some (.ref a), some (.ref b), some (.ref d), u, v, none, none, none]) ∧ Same H H' ∧ H' d = some (.lst ((nm :: (vars.take i).flatMap varT).map V.str)))
      ⟨⟨none, none, rfl⟩, S0, upd_same⟩ (fun i σ H' _ p => same_seqT p.2.1 ha) ?_ ?_⟩
    · rintro i x σ H1 H2 hi ⟨⟨u, v, rfl⟩, hS, hl⟩ ⟨rfl, hx⟩
      obtain ⟨p, hp, rfl⟩ := map_ref_get hx
      obtain ⟨r, hr1, hr'⟩ := hva.get hp
      obtain ⟨⟨n, so⟩, ht, rfl⟩ := var_get hr1
      have fi := fl i
      refine ⟨p, _, rfl, same_seqT hS hr', rfl, _, _, rfl, _, _, rfl, rfl, ?_⟩
      refine ⟨_, rfl, .inl ⟨rfl, _, SqL.of hl⟩, _, rfl, d, _, _, rfl, rfl, hl, ?_, ?_⟩
      · rw [List.length_map, List.length_cons]
        exact Nat.lt_of_le_of_lt (show _ ≤ 4000 by omega) (by decide)
      have S1 : Same H (upd H2 d (.lst ((nm :: (vars.take i).flatMap varT).map V.str ++ [.str n]))) := fun b' o h => by
        rw [upd_ne (ne_of_none h hd)]
        exact hS b' o h
      refine ⟨_, rfl, _, rfl, ?_⟩
      cases so with
      | none =>
        refine iteF ⟨⟨_, _, rfl⟩, S1, ?_⟩
        rw [upd_same, flat_take ht]
        have e : (nm :: ((vars.take i).flatMap varT ++ varT (n, none))) = (nm :: (vars.take i).flatMap varT) ++ [n] := rfl
        rw [e, List.map_append]
        rfl
      | some so =>
        refine iteT ?_
        refine ⟨_, rfl, .inl ⟨rfl, _, SqL.of upd_same⟩, _, rfl, d, _, _, rfl, rfl, upd_same, ?_, ?_⟩
        · rw [List.length_append, List.length_map, List.length_cons, List.length_singleton]
          exact Nat.lt_of_le_of_lt (show _ ≤ 4000 by omega) (by decide)
        · refine ⟨⟨_, _, rfl⟩, fun b' o h => ?_, ?_⟩
          · rw [upd_ne (ne_of_none h hd)]
            exact S1 b' o h
          · rw [upd_same, flat_take ht]
            have e : (nm :: ((vars.take i).flatMap varT ++ varT (n, some so))) = (nm :: (vars.take i).flatMap varT) ++ [n, so] := rfl
            rw [e, List.map_append, List.append_assoc]
            rfl
    · rintro σ H1 ⟨⟨u, v, rfl⟩, hS, hl⟩
      rw [List.length_map, List.take_of_length_le (by omega)] at hl
      have fi := fl vars.length
      rw [List.take_length] at fi
      refine ⟨_, rfl, .inl ⟨rfl, _, SqL.of hl⟩, _, rfl, b, rfl, ⟨_, hS.seq hb⟩, fun D hD => ?_⟩
      have nDd : D ≠ d := (ne_of_none hl hD).symm
      refine lc_it walk_list (fun i H' => Same H H' ∧ H' d = some (.lst ((nm :: vars.flatMap varT).map V.str)) ∧ H' D = some (.lst (((ts.take i).map (·.2.1)).map V.str))) ⟨hS.trans (Same.upd hD), by rw [upd_ne nDd.symm]; exact hl, upd_same⟩ (fun i H' _ p => p.1.seq hb) ?_ ?_
      · rintro i x H2 H3 hi ⟨hS2, hl2, hD2⟩ ⟨rfl, hx⟩
        obtain ⟨p, hp, rfl⟩ := map_ref_get hx
        obtain ⟨r, hr1, hr'⟩ := htr.get hp
        obtain ⟨t, ht, rfl⟩ := tri_get hr1
        refine ⟨p, _, rfl, same_seqT hS2 hr', rfl, _, _, rfl, _, _, rfl, _, _, rfl, rfl, rfl, ?_⟩
        refine ⟨_, rfl, _, hD2, ?_, ?_, ?_, ?_⟩
        · rw [List.length_map, List.length_map, List.length_take]
          exact Nat.lt_of_le_of_lt (show _ ≤ 1000 by omega) (by decide)
        · intro b' o h
          rw [upd_ne (ne_of_none h (hS.free hD))]
          exact hS2 b' o h
        · rw [upd_ne nDd.symm]
          exact hl2
        · rw [upd_same, List.take_add_one, ht, List.map_append, List.map_append]
          rfl
      · rintro H2 ⟨hS2, hl2, hD2⟩
        rw [List.length_map, List.take_of_length_le (by omega)] at hD2
        refine ⟨d, D, _, _, rfl, rfl, hl2, hD2, ?_, ?_⟩
        · rw [List.length_map, List.length_map, List.length_map, List.length_cons]
          exact Nat.le_trans (show _ ≤ 4000 by omega) (by decide)
        · refine ⟨_, rfl, ?_⟩
          refine k d _ hd (fun b' o h => ?_) ?_
          · rw [upd_ne (ne_of_none h hd)]
            exact hS2 b' o h
          · rw [upd_same]
            unfold textsL
            rw [List.map_append]
theorem scRV : FnScope ["names", "texts", "text"] ["names", "texts"] (defScope sRV) := ⟨rfl, rfl, rfl, by decide +kernel, rfl, by decide +kernel, by decide +kernel⟩
theorem ok_rv {f : Addr} {fd : FuncData} (F : Fun K "refuse_no_variable" "refuse_no_variable" sRV f fd) : FnOk P w K mg base CX0 1 f fd ["names", "texts"] (spRV K) := by
  refine F.ok scRV (fun vs H Q E h => ?_) (fun cdv A outer s H vs Q E hr h => ?_)
  · obtain ⟨a, b, ns, zs, rfl, _⟩ := h
    rfl
  · obtain ⟨a, b, ns, zs, rfl, ha, hb, hin, k⟩ := h
    refine ⟨_, (pss_one (ps_for PassesOwn.never rfl (pi_list (pv 1)) (pg_name (i := 2) scRV.nd rfl (Or.inl rfl)) (pss_one (ps_if (pt_cmpR op_notIn_seq (pv 2) (pv 0) (by rfl)) (pss_one ps_never) pss_nil)))), ?_⟩
    refine ⟨_, rfl, b, rfl, ⟨_, hb⟩, for_list (K := K) (a := b) (xs := zs.map V.str) (fun i σ H' => (∃ v, σ = [some (.ref a), some (.ref b), v]) ∧ H' = H) ⟨⟨none, rfl⟩, rfl⟩ (fun i σ H' _ p => by rw [p.2]; exact hb) ?_ ?_⟩
    · rintro i y σ H' hi ⟨⟨v, rfl⟩, rfl⟩
      obtain ⟨z, hz, rfl⟩ := map_str_get hi
      refine ⟨_, rfl, _, rfl, a, _, rfl, .inl ha, rfl, flat_strs ns, _, rfl, ?_⟩
      show if (!inV (.str z) (ns.map V.str)) = true then _ else _
      rw [inV_str, decide_eq_true (hin z (List.mem_of_getElem? hz))]
      exact iteF ⟨⟨_, rfl⟩, rfl⟩
    · rintro σ H' ⟨_, rfl⟩
      exact k H' (Same.refl H')
theorem scRL : FnScope ["names", "conditions", "tied", "name"] ["names", "conditions"] (defScope sRL) := ⟨rfl, rfl, rfl, by decide +kernel, rfl, by decide +kernel, by decide +kernel⟩
theorem ok_rl {f fE : Addr} {fd fdE : FuncData} (F : Fun K "refuse_loose" "refuse_loose" sRL f fd) (D : Dn K mg "ends_of" sEO ["triples"] fE fdE) : FnOk P w K mg base CX0 2 f fd ["names", "conditions"] (spRL K) := by
  have G : FnOk P w K mg base CX0 1 fE fdE ["triples"] (spEO K) := ok_eo D.F
  refine F.ok scRL (fun vs H Q E h => ?_) (fun cdv A outer s H vs Q E hr h => ?_)
  · obtain ⟨a, b, ns, ps, ts, rfl, _⟩ := h
    rfl
  · obtain ⟨a, b, ns, ps, ts, rfl, ha, hb, htr, hn, hin, k⟩ := h
    refine ⟨_, (pss_cons (ps_set (i := 2) scRL.nd rfl (Or.inl rfl) (pe_call G hr rfl D.g D.F.kp D.b .nil pass0 (pa_cons (pv 1) pa_nil)))
      (pss_one (ps_for PassesOwn.never rfl (pi_list (pv 0)) (pg_name (i := 3) scRL.nd rfl (Or.inl rfl)) (pss_one (ps_if (pt_cmpR op_notIn_seq (pv 3) (pv 2) (by rfl)) (pss_one ps_never) pss_nil))))), ?_⟩
    refine ⟨_, rfl, b, ps, ts, rfl, .inr hb, htr, hn, fun d H1 hd hS hl => ?_⟩
    refine ⟨_, rfl, a, rfl, ⟨_, hS.seq ha⟩, for_list (K := K) (a := a) (xs := ns.map V.str) (fun i σ H' => (∃ v, σ = [some (.ref a), some (.ref b), some (.ref d), v]) ∧ H' = H1) ⟨⟨none, rfl⟩, rfl⟩ (fun i σ H' _ p => by rw [p.2]; exact hS.seq ha) ?_ ?_⟩
    · rintro i y σ H' hi ⟨⟨v, rfl⟩, rfl⟩
      obtain ⟨z, hz, rfl⟩ := map_str_get hi
      refine ⟨_, rfl, _, rfl, d, _, rfl, .inl (SqL.of hl), rfl, flat_strs _, _, rfl, ?_⟩
      show if (!inV (.str z) ((endsL ts).map V.str)) = true then _ else _
      rw [inV_str, decide_eq_true (hin z (List.mem_of_getElem? hz))]
      exact iteF ⟨⟨_, rfl⟩, rfl⟩
    · rintro σ H' ⟨_, rfl⟩
      exact k H' hS
theorem scRA : FnScope ["conditions", "place", "x", "word", "y", "ahead"] ["conditions"] (defScope sRA) := ⟨rfl, rfl, rfl, by decide +kernel, rfl, by decide +kernel, by decide +kernel⟩
theorem ok_ra {f fE : Addr} {fd fdE : FuncData} (F : Fun K "refuse_apart" "refuse_apart" sRA f fd) (T : TxB mg) (D : Dn K mg "ends_of" sEO ["triples"] fE fdE) : FnOk P w K mg base CX0 2 f fd ["conditions"] (spRA K) := by
  have G : FnOk P w K mg base CX0 1 fE fdE ["triples"] (spEO K) := ok_eo D.F
  refine F.ok scRA (fun vs H Q E h => ?_) (fun cdv A outer s H vs Q E hr h => ?_)
  · obtain ⟨b, ps, ts, rfl, _⟩ := h
    rfl
  · obtain ⟨b, ps, ts, rfl, hb, htr, hn, hh, k⟩ := h
    have hlen := htr.len
    rw [List.length_map] at hlen
    refine ⟨_, (pss_one (ps_for PassesOwn.never rfl (pi_enumT rfl T.enumerate (pa_cons (pv 0) pa_nil)) (pg_tup rfl (pgs_cons (pg_name (i := 1) scRA.nd rfl (Or.inl rfl)) (pgs_cons (pg_tup rfl (pgs_cons (pg_name (i := 2) scRA.nd rfl (Or.inl rfl)) (pgs_cons (pg_name (i := 3) scRA.nd rfl (Or.inl rfl)) (pgs_cons (pg_name (i := 4) scRA.nd rfl (Or.inl rfl)) pgs_nil)))) pgs_nil))) (pss_cons (ps_set (i := 5) scRA.nd rfl (Or.inl rfl) (pe_call G hr rfl D.g D.F.kp D.b .nil pass0 (pa_cons (pe_slice sl_tupA (pv 0) po_none (po_some (pv 1))) pa_nil)))
      (pss_one (ps_if (PW.pt (pw_and (pt_cmpR op_gt (pv 1) pe_int (nomark _)) (pw_and (pt_cmpR op_notIn_seq (pv 2) (pv 5) (by rfl)) (pw_and1 (pt_cmpR op_notIn_seq (pv 4) (pv 5) (by rfl)))))) (pss_one ps_never) pss_nil))))), ?_⟩
    refine ⟨_, rfl, b, _, rfl, hb, for_it walk_enumT (fun i σ H' => (∃ u v x y z, σ = [some (.ref b), u, v, x, y, z]) ∧ Same H H') ⟨⟨none, none, none, none, none, rfl⟩, Same.refl H⟩ (fun i σ H' _ p => same_seqT p.2 hb) ?_ ?_⟩
    · rintro i x σ H1 H2 hi ⟨⟨u, v, x1, x2, x3, rfl⟩, hS⟩ ⟨q, y, z, rfl, hq, rfl, e1, e2⟩
      cases e1
      obtain ⟨p, hp, rfl⟩ := map_ref_get e2
      obtain ⟨r, hr1, hr'⟩ := htr.get hp
      obtain ⟨t, ht, rfl⟩ := tri_get hr1
      have S2 := hS.trans (Same.upd (o := .tup [.int (i : Nat), .ref p]) hq)
      have hi' : i < ps.length := by rw [List.length_map] at hi; exact hi
      refine ⟨q, _, rfl, SqT.of upd_same, rfl, _, _, rfl, _, _, rfl, ⟨p, _, rfl, same_seqT S2 hr', rfl, _, _, rfl, _, _, rfl, _, _, rfl, rfl, rfl, ?_⟩⟩
      refine ⟨_, rfl, _, rfl, _, rfl, b, _, rfl, same_seqT S2 hb, fun h => ?_, fun _ c hc => ?_⟩
      · exfalso
        rw [HT.sIx_nat, List.length_map] at h
        omega
      have S3 := S2.trans (Same.upd (o := .tup (cutV (ps.map V.ref) none (some (i : Int)))) hc)
      have hcut : cutV (ps.map V.ref) none (some (i : Int)) = (ps.take i).map V.ref := by rw [cut_take, List.map_take]
      refine ⟨c, ps.take i, ts.take i, rfl, .inr (SqT.of (by rw [upd_same, hcut])), ?_, by rw [List.length_take]; omega, fun d H3 hd hS3 hl => ?_⟩
      · rw [List.map_take]
        exact (htr.take i).same S3
      refine ⟨_, rfl, _, _, rfl, rfl, _, rfl, ?_⟩
      refine ite2 (fun h0 => ?_) (fun _ => ?_)
      · have h0' : (0 : Int) < (i : Int) := of_decide_eq_true h0
        refine ⟨_, rfl, _, rfl, d, _, rfl, .inl (SqL.of hl), rfl, flat_strs _, _, rfl, ?_⟩
        show if (!inV (.str t.1) ((endsL (ts.take i)).map V.str)) = true then _ else _
        rw [inV_str]
        by_cases m1 : t.1 ∈ endsL (ts.take i)
        · rw [decide_eq_true m1]
          exact iteF (iteF ⟨⟨_, _, _, _, _, rfl⟩, S3.trans hS3⟩)
        · rw [decide_eq_false m1]
          refine iteT ?_
          refine ⟨_, rfl, _, rfl, d, _, rfl, .inl (SqL.of hl), rfl, flat_strs _, _, rfl, ?_⟩
          show if (!inV (.str t.2.2) ((endsL (ts.take i)).map V.str)) = true then _ else _
          have m2 : t.2.2 ∈ endsL (ts.take i) := (hh i t (by omega) ht).resolve_left m1
          rw [inV_str, decide_eq_true m2]
          exact iteF ⟨⟨_, _, _, _, _, rfl⟩, S3.trans hS3⟩
      · exact iteF ⟨⟨_, _, _, _, _, rfl⟩, S3.trans hS3⟩
    · rintro σ H' ⟨_, hS⟩
      exact k H' hS
end
end Wm
namespace Wm
open PySem L2 StX
abbrev sCP : Stmt := top 27
structure TxP (mg : Str → Option Value) : Prop where
  mv : ∃ t, mg "MOST_VARIABLES" = some (.int 4 t)
  mc : ∃ t, mg "MOST_CONDITIONS" = some (.int 3 t)
theorem DueN.mono {C : Addr} {zs : List Str} {H H1 : Hp} {Q : VK} {E : XK} (hS : Same H H1) (h : DueN C zs H Q E) : DueN C zs H1 Q E := by
  unfold DueN at h ⊢
  split
  · rename_i e
    rw [e] at h
    exact fun H' h1 => h H' (hS.trans h1)
  · rename_i z e
    rw [e] at h
    exact fun d H' h0 h1 h2 => h d H' (hS.free h0) (hS.trans h1) h2
theorem DueN.next {C : Addr} {zs : List Str} {H H1 : Hp} {Q Q' : VK} {E : XK} (h : DueN C zs H Q E) (hS : Same H H1) (r : zs.find? (fun z => !isNm z) = none → ∀ H', Same H1 H' → Q' .non H') : DueN C zs H1 Q' E := by
  have h' := DueN.mono hS h
  unfold DueN at h' ⊢
  cases e : zs.find? (fun z => !isNm z) with
  | none => exact r e
  | some z =>
    rw [e] at h'
    exact h'
theorem flat_len (l : List Var) : (l.flatMap varT).length ≤ 2 * l.length := by
  induction l with
  | nil => exact Nat.le_refl _
  | cons v r ih =>
    have e : ((v :: r).flatMap varT).length = (varT v).length + (r.flatMap varT).length := by
      rw [List.flatMap_cons, List.length_append]
    have e2 : (varT v).length ≤ 2 := by
      unfold varT
      cases v.2 <;> simp
    have e3 : (v :: r).length = r.length + 1 := rfl
    omega
/-- a pattern of which nothing but a text that is no name is to be refused -/
structure PatOk (vars : List Var) (cs gs : List Tri) (hs : List Str) : Prop where
  v1 : 1 ≤ vars.length
  v4 : vars.length ≤ 4
  c1 : 1 ≤ cs.length
  c3 : cs.length ≤ 3
  g3 : gs.length ≤ 1
  h3 : hs.length ≤ 1
  tw : NoTw ((vars.map (·.1)).map V.str)
  en : ∀ z ∈ endsL (cs ++ gs) ++ hs, z ∈ vars.map (·.1)
  lo : ∀ z ∈ vars.map (·.1), z ∈ endsL cs
  ap : Hangs cs
def spCP (K : PySem.W.Frag) (C : Addr) : Sp := fun vs H Q E => ∃ (nm : Str) (a b g h : Addr) (ps qs us : List Addr) (vars : List Var) (cs gs : List Tri) (hs : List Str), vs = [.str nm, .ref a, .ref b, .ref g, .ref h] ∧ SqT K H a (ps.map V.ref) ∧ RowsAt K H ps (vars.map varV) ∧
  SqT K H b (qs.map V.ref) ∧ RowsAt K H qs (cs.map triV) ∧ SqL K H g (us.map V.ref) ∧ RowsAt K H us (gs.map triV) ∧ SqL K H h (hs.map V.str) ∧ PatOk vars cs gs hs ∧ (∀ z ∈ textsL nm vars (cs ++ gs), z.length ≤ 1000) ∧ DueN C (textsL nm vars (cs ++ gs)) H Q E
section
variable {P : Program} {w : World} {K : PySem.W.Frag} {mg : Str → Option Value} {base : Heap}
theorem scCP : FnScope ["name", "variables", "conditions", "given", "hands", "triples", "names", "variable", "sort"] ["name", "variables", "conditions", "given", "hands"] (defScope sCP) := ⟨rfl, rfl, rfl, by decide +kernel, rfl, by decide +kernel, by decide +kernel⟩
theorem ok_cp {f fRC fRN fTP fRT fRV fEO fRL fRA C : Addr} {fd dRC dRN dTP dRT dRV dEO dRL dRA : FuncData} (F : Fun K "check_pattern" "check_pattern" sCP f fd) (T : TxB mg) (TP : TxP mg)
    (RC : Dn K mg "refuse_count" sRC ["what", "count", "least", "most"] fRC dRC) (RN : Dn K mg "refuse_no_name" sRN ["texts"] fRN dRN) (TX : Dn K mg "texts_of_pattern" sTP ["name", "variables", "triples"] fTP dTP) (RT : Dn K mg "refuse_twice" sRT ["names"] fRT dRT)
    (RV : Dn K mg "refuse_no_variable" sRV ["names", "texts"] fRV dRV) (EO : Dn K mg "ends_of" sEO ["triples"] fEO dEO) (RL : Dn K mg "refuse_loose" sRL ["names", "conditions"] fRL dRL) (RA : Dn K mg "refuse_apart" sRA ["conditions"] fRA dRA)
    (GRN : FnOk P w K mg base (L2.CX P w) 4 fRN dRN ["texts"] (spRN K C)) (GRT : FnOk P w K mg base CX0 2 fRT dRT ["names"] (spFT K)) :
    FnOk P w K mg base (L2.CX P w) 5 f fd ["name", "variables", "conditions", "given", "hands"] (spCP K C) := by
  have GRC : FnOk P w K mg base CX0 1 fRC dRC _ spRC := ok_rc RC.F
  have GTX : FnOk P w K mg base CX0 1 fTP dTP _ (spTP K) := ok_tp TX.F
  have GRV : FnOk P w K mg base CX0 1 fRV dRV _ (spRV K) := ok_rv RV.F
  have GEO : FnOk P w K mg base CX0 1 fEO dEO _ (spEO K) := ok_eo EO.F
  have GRL : FnOk P w K mg base CX0 2 fRL dRL _ (spRL K) := ok_rl RL.F EO
  have GRA : FnOk P w K mg base CX0 2 fRA dRA _ (spRA K) := ok_ra RA.F T EO
  obtain ⟨t1, hmv⟩ := TP.mv
  obtain ⟨t2, hmc⟩ := TP.mc
  refine F.okX scCP (fun vs H Q E h => ?_) (fun cdv A outer s H vs Q E hr h => ?_)
  · obtain ⟨nm, a, b, g, h, ps, qs, us, vars, cs, gs, hs, rfl, _⟩ := h
    rfl
  · obtain ⟨nm, a, b, g, h, ps, qs, us, vars, cs, gs, hs, rfl, ha, hva, hb, hcs, hg, hgs, hh, ok, hz, k⟩ := h
    have hr1 : Room 1 _ := hr.mono (by decide)
    have hr2 : Room 2 _ := hr.mono (by decide)
    have l1 := hva.len
    have l2 := hcs.len
    have l3 := hgs.len
    rw [List.length_map] at l1 l2 l3
    have o1 := ok.v4
    have o2 := ok.c3
    have o3 := ok.g3
    have o4 := ok.v1
    have o5 := ok.c1
    have o6 := ok.h3
    refine ⟨_, (pss_cons (ps_expr (pe_call GRC hr1 rfl RC.g RC.F.kp RC.b .nil pass0 (pa_cons pe_str (pa_cons (pe_callB call_len_seq (by rfl) T.len (by decide +kernel) (pa_cons (pv 1) pa_nil)) (pa_cons pe_int (pa_cons (pe_glob (v := .int 4) (by rfl) hmv ⟨_, rfl⟩) pa_nil))))))
      (pss_cons (ps_expr (pe_call GRC hr1 rfl RC.g RC.F.kp RC.b .nil pass0 (pa_cons pe_str (pa_cons (pe_callB call_len_seq (by rfl) T.len (by decide +kernel) (pa_cons (pv 2) pa_nil)) (pa_cons pe_int (pa_cons (pe_glob (v := .int 3) (by rfl) hmc ⟨_, rfl⟩) pa_nil))))))
      (pss_cons (ps_set (i := 5) scCP.nd rfl (Or.inl rfl) (pe_lst (pa_star (pv 2) (pa_star (pv 3) pa_nil))))
      (pss_cons (ps_expr (pe_call GRN hr rfl RN.g RN.F.kp RN.b .nil (passes_call (takes_of rfl rfl rfl rfl) (fun _ _ _ _ h => h)) (pa_cons (pe_call GTX hr1 rfl TX.g TX.F.kp TX.b .nil pass0 (pa_cons (pv 0) (pa_cons (pv 1) (pa_cons (pv 5) pa_nil)))) pa_nil)))
      (pss_cons (ps_setLc (i := 6) (own := [("variable", 7), ("sort", 8)]) (g := gTup K 2 (gCons (gName 7) (gCons (gName 8) gNil))) rfl scCP.nd rfl rfl (sw_true rfl rfl rfl (by decide +kernel)) (pi_tup (pv 1)) (blkOk_by (N := ["name", "variables", "conditions", "given", "hands", "triples", "names", "variable", "sort"]) (sc := defScope sCP) (by decide +kernel)) (fun _ _ _ _ _ => (pg_tup rfl (pgs_cons (pg_name (i := 7) scCP.nd rfl (Or.inl rfl)) (pgs_cons (pg_name (i := 8) scCP.nd rfl (Or.inl rfl)) pgs_nil)))) (fun _ _ _ _ _ => pts_nil) (fun _ _ _ _ _ => (pv 7)))
      (pss_cons (ps_expr (pe_call GRT hr2 rfl RT.g RT.F.kp RT.b .nil pass0 (pa_cons (pv 6) pa_nil)))
      (pss_cons (ps_expr (pe_call GRV hr1 rfl RV.g RV.F.kp RV.b .nil pass0 (pa_cons (pv 6) (pa_cons (pe_lst (pa_star (pe_call GEO hr1 rfl EO.g EO.F.kp EO.b .nil pass0 (pa_cons (pv 5) pa_nil)) (pa_star (pv 4) pa_nil))) pa_nil))))
      (pss_cons (ps_expr (pe_call GRL hr2 rfl RL.g RL.F.kp RL.b .nil pass0 (pa_cons (pv 6) (pa_cons (pv 2) pa_nil))))
      (pss_one (ps_expr (pe_call GRA hr2 rfl RA.g RA.F.kp RA.b .nil pass0 (pa_cons (pv 2) pa_nil)))))))))))), ?_⟩
    refine ⟨_, rfl, a, _, rfl, .inr ha, _, _, _, _, rfl, ?_, ?_, ?_⟩
    · rw [List.length_map]; omega
    · rw [List.length_map]; omega
    refine ⟨_, rfl, b, _, rfl, .inr hb, _, _, _, _, rfl, ?_, ?_, ?_⟩
    · rw [List.length_map]; omega
    · rw [List.length_map]; omega
    -- triples = [*conditions, *given]
    refine ⟨_, rfl, b, _, rfl, .inl hb, _, rfl, g, _, rfl, .inr hg, ?_, fun tr htr => ?_⟩
    · show (qs.map V.ref ++ (us.map V.ref ++ [])).length ≤ sizeLine
      rw [List.append_nil, List.length_append, List.length_map, List.length_map]
      exact Nat.le_trans (show _ ≤ 1000 by omega) (by decide)
    have etr : qs.map V.ref ++ (us.map V.ref ++ []) = (qs ++ us).map V.ref := by rw [List.append_nil, List.map_append]
    have S1 : Same H (upd H tr (.lst (qs.map V.ref ++ (us.map V.ref ++ [])))) := Same.upd htr
    refine ⟨_, rfl, _, rfl, _, rfl, nm, a, tr, ps, qs ++ us, vars, cs ++ gs, rfl, same_seqT S1 ha, hva.same S1, SqL.of (by rw [upd_same, etr]), ?_, by omega, by rw [List.length_append]; omega, fun d H2 hd hS2 hl => ?_⟩
    · rw [List.map_append]
      exact (hcs.append hgs).same S1
    have S2 := S1.trans hS2
    refine ⟨d, _, rfl, SqL.of hl, ?_, hz, ?_⟩
    · unfold textsL
      have e : ∀ l : List Var, (l.flatMap varT).length ≤ 2 * l.length := flat_len
      have e2 := e vars
      rw [List.length_append, List.length_cons, List.length_map, List.length_append]
      omega
    refine DueN.next k S2 fun hn H3 hS3 => ?_
    have S3 := S2.trans hS3
    -- names = [variable for variable, sort in variables]
    refine ⟨_, rfl, a, rfl, ⟨_, same_seqT S3 ha⟩, fun D hD => ?_⟩
    refine lc_it walk_tup (fun i H' => Same H3 H' ∧ H' D = some (.lst (((vars.take i).map (·.1)).map V.str))) ⟨Same.upd hD, upd_same⟩ (fun i H' _ p => same_seqT (S3.trans p.1) ha) ?_ ?_
    · rintro i x H4 H5 hi ⟨hS4, hD4⟩ ⟨rfl, hx⟩
      obtain ⟨p, hp, rfl⟩ := map_ref_get hx
      obtain ⟨r, hr1', hr'⟩ := hva.get hp
      obtain ⟨⟨n, so⟩, ht, rfl⟩ := var_get hr1'
      refine ⟨p, _, rfl, same_seqT (S3.trans hS4) hr', rfl, _, _, rfl, _, _, rfl, rfl, rfl, ?_⟩
      refine ⟨_, rfl, _, hD4, ?_, ?_, ?_⟩
      · rw [List.length_map, List.length_map, List.length_take]
        exact Nat.lt_of_le_of_lt (show _ ≤ 1000 by omega) (by decide)
      · intro b' o h
        rw [upd_ne (ne_of_none h hD)]
        exact hS4 b' o h
      · rw [upd_same, List.take_add_one, ht, List.map_append, List.map_append]
        rfl
    rintro H4 ⟨hS4, hD4⟩
    rw [List.length_map, List.take_of_length_le (by omega)] at hD4
    have S4 := S3.trans hS4
    have tr4 : H4 tr = some (.lst ((qs ++ us).map V.ref)) := by
      have q : (upd H tr (.lst (qs.map V.ref ++ (us.map V.ref ++ [])))) tr = some (.lst ((qs ++ us).map V.ref)) := by rw [upd_same, etr]
      exact hS4 _ _ (hS3 _ _ (hS2 _ _ q))
    -- refuse_twice(names)
    refine ⟨_, rfl, D, _, rfl, .inl (SqL.of hD4), flat_strs _, ok.tw, fun H5 hS5 => ?_⟩
    have S5 := S4.trans hS5
    -- refuse_no_variable(names, [*ends_of(triples), *hands])
    refine ⟨_, rfl, _, rfl, tr, qs ++ us, cs ++ gs, rfl, .inl (SqL.of (hS5 _ _ tr4)), ?_, by rw [List.length_append]; omega, fun e H6 he hS6 hl6 => ?_⟩
    · rw [List.map_append]
      exact (hcs.append hgs).same S5
    have S6 := S5.trans hS6
    refine ⟨e, _, rfl, .inr (SqL.of hl6), _, rfl, h, _, rfl, .inr (S6.seq hh), ?_, fun l hl => ?_⟩
    · rw [List.length_append, List.length_map, endsL_len, List.length_append, List.append_nil, List.length_map]
      exact Nat.le_trans (show _ ≤ 1000 by omega) (by decide)
    refine ⟨D, l, _, endsL (cs ++ gs) ++ hs, rfl, SqL.of (Same.upd hl _ _ (hS6 _ _ (hS5 _ _ hD4))), SqL.of ?_, ok.en, fun H7 hS7 => ?_⟩
    · rw [upd_same, List.append_nil, List.map_append]
    have S7 := S6.trans ((Same.upd hl).trans hS7)
    have D7 := hS7 _ _ (Same.upd hl _ _ (hS6 _ _ (hS5 _ _ hD4)))
    -- refuse_loose(names, conditions)
    refine ⟨_, rfl, _, rfl, D, b, _, qs, cs, rfl, SqL.of D7, same_seqT S7 hb, hcs.same S7, by omega, ok.lo, fun H8 hS8 => ?_⟩
    have S8 := S7.trans hS8
    -- refuse_apart(conditions)
    refine ⟨_, rfl, b, qs, cs, rfl, same_seqT S8 hb, hcs.same S8, by omega, ok.ap, fun H9 hS9 => ?_⟩
    unfold DueN at k
    rw [hn] at k
    exact k H9 (S8.trans hS9)
end
end Wm
namespace Wm
open PySem L2 StX
abbrev sBar : Stmt := inClass (top 31) 0
abbrev sMak : Stmt := inClass (top 32) 0
def barF (nm : Str) (t1 t2 : Addr) : List (Str × V) := putF "conditions" (.ref t2) (putF "variables" (.ref t1) (putF "name" (.str nm) []))
theorem ne1 : ¬ (("variables" : Str) = "conditions") := by decide +kernel
theorem ne2 : ¬ (("name" : Str) = "conditions") := by decide +kernel
theorem ne3 : ¬ (("name" : Str) = "variables") := by decide +kernel
theorem barF_name (nm : Str) (t1 t2 : Addr) : (barF nm t1 t2).lookup ("name" : Str) = some (.str nm) := by
  unfold barF
  rw [lookup_putF, if_neg ne2, lookup_putF, if_neg ne3, lookup_putF, if_pos rfl]
theorem barF_vars (nm : Str) (t1 t2 : Addr) : (barF nm t1 t2).lookup ("variables" : Str) = some (.ref t1) := by
  unfold barF
  rw [lookup_putF, if_neg ne1, lookup_putF, if_pos rfl]
theorem barF_cond (nm : Str) (t1 t2 : Addr) : (barF nm t1 t2).lookup ("conditions" : Str) = some (.ref t2) := by
  unfold barF
  rw [lookup_putF, if_pos rfl]
theorem putF_len (f : Str) (v : V) : ∀ fs : List (Str × V), (putF f v fs).length ≤ fs.length + 1
  | [] => Nat.le_refl _
  | (g, x) :: r => by
    unfold putF
    split
    · exact Nat.le_succ _
    · have := putF_len f v r
      simp only [List.length_cons]
      omega
/-- what the making of an object that may be refused by a text is to bring; H0: what stood ahead of it -/
def DueM (C : Addr) (zs : List Str) (H0 : Hp) (ok : Hp → Prop) (E : XK) : Prop := match zs.find? (fun z => !isNm z) with
  | none => ∀ H', Same H0 H' → ok H'
  | some z => ∀ d H', H0 d = none → Same H0 H' → H' d = some (.xd (ef1 "name" "noname" (.str z))) → E (.ref C) (some d) H'
theorem DueM.toN {C : Addr} {zs : List Str} {H0 H1 : Hp} {ok : Hp → Prop} {Q : VK} {E : XK} (h : DueM C zs H0 ok E) (hS : Same H0 H1) (r : zs.find? (fun z => !isNm z) = none → ∀ H', Same H1 H' → Q .non H') : DueN C zs H1 Q E := by
  unfold DueM at h
  unfold DueN
  cases e : zs.find? (fun z => !isNm z) with
  | none => exact r e
  | some z =>
    rw [e] at h
    exact fun d H' h0 h1 h2 => h d H' (hS.free h0) (hS.trans h1) h2
structure TxBar (K : PySem.W.Frag) (mg : Str → Option Value) (B fB : Addr) : Prop where
  cl : Cls K B
  nn : NoAttr K B "name"
  nv : NoAttr K B "variables"
  nc : NoAttr K B "conditions"
  g : mg "Bar" = some (.ref B)
  m : Mk K B fB
def spBar (K : PySem.W.Frag) (C B : Addr) : Sp := fun vs H Q E => ∃ (H0 : Hp) (x dx l1 l2 : Addr) (nm : Str) (ps qs : List Addr) (vars : List Var) (cs : List Tri), vs = [.ref x, .str nm, .ref l1, .ref l2] ∧ Same H0 H ∧ H0 x = none ∧ H x = some (.ins B dx []) ∧
  SqL K H0 l1 (ps.map V.ref) ∧ RowsAt K H0 ps (vars.map varV) ∧ SqL K H0 l2 (qs.map V.ref) ∧ RowsAt K H0 qs (cs.map triV) ∧ PatOk vars cs [] [] ∧ (∀ z ∈ textsL nm vars cs, z.length ≤ 1000) ∧
  DueM C (textsL nm vars cs) H0 (fun H' => ∀ t1 t2, H' x = some (.ins B dx (barF nm t1 t2)) → H' t1 = some (.tup (ps.map V.ref)) → H' t2 = some (.tup (qs.map V.ref)) → Q .non H') E
section
variable {P : Program} {w : World} {K : PySem.W.Frag} {mg : Str → Option Value} {base : Heap}
theorem scBar : FnScope ["self", "name", "variables", "conditions"] ["self", "name", "variables", "conditions"] (defScope sBar) := ⟨rfl, rfl, rfl, by decide +kernel, rfl, by decide +kernel, by decide +kernel⟩
theorem ok_bar {f fTT fCP C B : Addr} {fd dTT dCP : FuncData} (F : Fun K "__init__" "Bar.__init__" sBar f fd) (T : TxB mg) (TB : TxBar K mg B f) (TT : Dn K mg "tuple_of_tuples" sTT ["rows"] fTT dTT)
    (CP : Dn K mg "check_pattern" sCP ["name", "variables", "conditions", "given", "hands"] fCP dCP) (GCP : FnOk P w K mg base (L2.CX P w) 5 fCP dCP ["name", "variables", "conditions", "given", "hands"] (spCP K C)) :
    FnOk P w K mg base (L2.CX P w) 6 f fd ["self", "name", "variables", "conditions"] (spBar K C B) := by
  have GTT : FnOk P w K mg base CX0 1 fTT dTT _ (spTT K) := ok_tt TT.F T
  refine F.okX scBar (fun vs H Q E h => ?_) (fun cdv A outer s H vs Q E hr h => ?_)
  · obtain ⟨H0, x, dx, l1, l2, nm, ps, qs, vars, cs, rfl, _⟩ := h
    rfl
  · obtain ⟨H0, x, dx, l1, l2, nm, ps, qs, vars, cs, rfl, S0, x0, hx, h1, hv, h2, hc, ok, hz, k⟩ := h
    have hr1 : Room 1 _ := hr.mono (by decide)
    have b1 := hv.len
    have b2 := hc.len
    rw [List.length_map] at b1 b2
    have o1 := ok.v4
    have o2 := ok.c3
    refine ⟨_, (pss_cons (ps_fld (pv 0) (pv 1) rfl)
      (pss_cons (ps_fld (pv 0) (pe_call GTT hr1 rfl TT.g TT.F.kp TT.b .nil pass0 (pa_cons (pv 2) pa_nil)) rfl)
      (pss_cons (ps_fld (pv 0) (pe_call GTT hr1 rfl TT.g TT.F.kp TT.b .nil pass0 (pa_cons (pv 3) pa_nil)) rfl)
      (pss_one (ps_expr (pe_call GCP hr rfl CP.g CP.F.kp CP.b .nil (passes_call (takes_of rfl rfl rfl rfl) (fun _ _ _ _ h => h)) (pa_cons (pv 1) (pa_cons (pe_fld (pv 0) rfl) (pa_cons (pe_fld (pv 0) rfl) (pa_cons (pe_lst pa_nil) (pa_cons (pe_lst pa_nil) pa_nil))))))))))), ?_⟩
    -- self.name = name
    refine ⟨_, rfl, _, rfl, x, B, dx, [], rfl, hx, TB.cl, TB.nn, (by show 0 < 1000; decide), ?_⟩
    have Sx : ∀ {H1 : Hp} {o : HO}, Same H0 H1 → Same H0 (upd H1 x o) := fun hs b o e => by
      rw [upd_ne (ne_of_none e x0)]
      exact hs b o e
    have S1 := Sx (o := .ins B dx (putF "name" (.str nm) [])) S0
    -- self.variables = tuple_of_tuples(variables)
    refine ⟨_, rfl, l1, ps, _, rfl, S1.seq h1, hv.same S1, by omega, fun t1 H2 ht1 hS2 hl1 => ?_⟩
    have S2 := S1.trans hS2
    have hx2 := hS2 _ _ (upd_same (H := H) (a := x) (o := .ins B dx (putF "name" (.str nm) [])))
    have n1x : t1 ≠ x := fun z => by
      rw [z, upd_same] at ht1
      cases ht1
    refine ⟨_, rfl, x, B, dx, _, rfl, hx2, TB.cl, TB.nv, Nat.lt_of_le_of_lt (putF_len _ _ _) (by decide), ?_⟩
    have S3 := Sx (o := .ins B dx (putF "variables" (.ref t1) (putF "name" (.str nm) []))) S2
    -- self.conditions = tuple_of_tuples(conditions)
    refine ⟨_, rfl, l2, qs, _, rfl, S3.seq h2, hc.same S3, by omega, fun t2 H4 ht2 hS4 hl2 => ?_⟩
    have S4 := S3.trans hS4
    have hx4 := hS4 _ _ (upd_same (H := H2) (a := x) (o := .ins B dx (putF "variables" (.ref t1) (putF "name" (.str nm) []))))
    have hl1' := hS4 t1 _ (by rw [upd_ne n1x]; exact hl1)
    have n2x : t2 ≠ x := fun z => by
      rw [z, upd_same] at ht2
      cases ht2
    refine ⟨_, rfl, x, B, dx, _, rfl, hx4, TB.cl, TB.nc, Nat.lt_of_le_of_lt (putF_len _ _ _) (Nat.lt_of_le_of_lt (Nat.succ_le_succ (putF_len _ _ _)) (by decide)), ?_⟩
    have S5 := Sx (o := .ins B dx (barF nm t1 t2)) S4
    have hx5 : (upd H4 x (.ins B dx (barF nm t1 t2))) x = some (.ins B dx (barF nm t1 t2)) := upd_same
    have h15 : (upd H4 x (.ins B dx (barF nm t1 t2))) t1 = some (.tup (ps.map V.ref)) := by rw [upd_ne n1x]; exact hl1'
    have h25 : (upd H4 x (.ins B dx (barF nm t1 t2))) t2 = some (.tup (qs.map V.ref)) := by rw [upd_ne n2x]; exact hl2
    -- check_pattern(name, self.variables, self.conditions, [], [])
    refine ⟨_, rfl, _, rfl, x, B, dx, _, _, rfl, hx5, TB.cl, TB.nv, barF_vars _ _ _, _, rfl, x, B, dx, _, _, rfl, hx5, TB.cl, TB.nc, barF_cond _ _ _, Nat.zero_le _, fun g hg => ⟨Nat.zero_le _, fun h hh => ?_⟩⟩
    have S7 : Same (upd H4 x (.ins B dx (barF nm t1 t2))) (upd (upd (upd H4 x (.ins B dx (barF nm t1 t2))) g (.lst [])) h (.lst [])) := (Same.upd hg).trans (Same.upd hh)
    have S57 := S5.trans S7
    have e0 : cs ++ ([] : List Tri) = cs := List.append_nil cs
    refine ⟨nm, t1, t2, g, h, ps, qs, [], vars, cs, [], [], rfl, SqT.of (S7 _ _ h15), hv.same S57, SqT.of (S7 _ _ h25), hc.same S57, SqL.of (Same.upd hh _ _ upd_same), True.intro, SqL.of upd_same, ok, by rw [e0]; exact hz, ?_⟩
    rw [e0]
    refine k.toN S57 fun hn H8 hS8 => ?_
    unfold DueM at k
    rw [hn] at k
    exact k H8 (S57.trans hS8) t1 t2 (hS8 _ _ (S7 _ _ hx5)) (hS8 _ _ (S7 _ _ h15)) (hS8 _ _ (S7 _ _ h25))
end
/-! ### makings -/
def makF (mk md : Str) (t1 t2 : Addr) : List (Str × V) := putF "up" (.ref t2) (putF "down" (.ref t1) (putF "made" (.str md) (putF "maker" (.str mk) [])))
theorem nm1 : ¬ (("maker" : Str) = "up") := by decide +kernel
theorem nm2 : ¬ (("maker" : Str) = "down") := by decide +kernel
theorem nm3 : ¬ (("maker" : Str) = "made") := by decide +kernel
theorem nm4 : ¬ (("made" : Str) = "up") := by decide +kernel
theorem nm5 : ¬ (("made" : Str) = "down") := by decide +kernel
theorem nm6 : ¬ (("down" : Str) = "up") := by decide +kernel
theorem makF_maker (mk md : Str) (t1 t2 : Addr) : (makF mk md t1 t2).lookup ("maker" : Str) = some (.str mk) := by
  unfold makF
  rw [lookup_putF, if_neg nm1, lookup_putF, if_neg nm2, lookup_putF, if_neg nm3, lookup_putF, if_pos rfl]
theorem makF_made (mk md : Str) (t1 t2 : Addr) : (makF mk md t1 t2).lookup ("made" : Str) = some (.str md) := by
  unfold makF
  rw [lookup_putF, if_neg nm4, lookup_putF, if_neg nm5, lookup_putF, if_pos rfl]
theorem makF_down (mk md : Str) (t1 t2 : Addr) : (makF mk md t1 t2).lookup ("down" : Str) = some (.ref t1) := by
  unfold makF
  rw [lookup_putF, if_neg nm6, lookup_putF, if_pos rfl]
theorem makF_up (mk md : Str) (t1 t2 : Addr) : (makF mk md t1 t2).lookup ("up" : Str) = some (.ref t2) := by
  unfold makF
  rw [lookup_putF, if_pos rfl]
structure TxMak (K : PySem.W.Frag) (mg : Str → Option Value) (B fB : Addr) : Prop where
  cl : Cls K B
  nk : NoAttr K B "maker"
  nd : NoAttr K B "made"
  nw : NoAttr K B "down"
  nu : NoAttr K B "up"
  g : mg "Making" = some (.ref B)
  m : Mk K B fB
def spMak (K : PySem.W.Frag) (C B : Addr) : Sp := fun vs H Q E => ∃ (H0 : Hp) (x dx l1 l2 : Addr) (mk md : Str) (ds us : List Str), vs = [.ref x, .str mk, .str md, .ref l1, .ref l2] ∧ Same H0 H ∧ H0 x = none ∧ H x = some (.ins B dx []) ∧
  SqL K H0 l1 (ds.map V.str) ∧ SqL K H0 l2 (us.map V.str) ∧ ds.length ≤ 100 ∧ us.length ≤ 100 ∧ NoTw (ds.map V.str) ∧ NoTw (us.map V.str) ∧ (∀ z ∈ mk :: md :: (ds ++ us), z.length ≤ 1000) ∧
  DueM C (mk :: md :: (ds ++ us)) H0 (fun H' => ∀ t1 t2, H' x = some (.ins B dx (makF mk md t1 t2)) → H' t1 = some (.tup (ds.map V.str)) → H' t2 = some (.tup (us.map V.str)) → Q .non H') E
section
variable {P : Program} {w : World} {K : PySem.W.Frag} {mg : Str → Option Value} {base : Heap}
theorem scMak : FnScope ["self", "maker", "made", "down", "up"] ["self", "maker", "made", "down", "up"] (defScope sMak) := ⟨rfl, rfl, rfl, by decide +kernel, rfl, by decide +kernel, by decide +kernel⟩
theorem ok_mak {f fRN fRT C B : Addr} {fd dRN dRT : FuncData} (F : Fun K "__init__" "Making.__init__" sMak f fd) (T : TxB mg) (TM : TxMak K mg B f) (RN : Dn K mg "refuse_no_name" sRN ["texts"] fRN dRN) (RT : Dn K mg "refuse_twice" sRT ["names"] fRT dRT)
    (GRN : FnOk P w K mg base (L2.CX P w) 4 fRN dRN ["texts"] (spRN K C)) (GRT : FnOk P w K mg base CX0 2 fRT dRT ["names"] (spFT K)) : FnOk P w K mg base (L2.CX P w) 5 f fd ["self", "maker", "made", "down", "up"] (spMak K C B) := by
  refine F.okX scMak (fun vs H Q E h => ?_) (fun cdv A outer s H vs Q E hr h => ?_)
  · obtain ⟨H0, x, dx, l1, l2, mk, md, ds, us, rfl, _⟩ := h
    rfl
  · obtain ⟨H0, x, dx, l1, l2, mk, md, ds, us, rfl, S0, x0, hx, h1, h2, n1, n2, w1, w2, hz, k⟩ := h
    have hr2 : Room 2 _ := hr.mono (by decide)
    have Sx : ∀ {H1 : Hp} {o : HO}, Same H0 H1 → Same H0 (upd H1 x o) := fun hs b o e => by
      rw [upd_ne (ne_of_none e x0)]
      exact hs b o e
    refine ⟨_, (pss_cons (ps_fld (pv 0) (pv 1) rfl)
      (pss_cons (ps_fld (pv 0) (pv 2) rfl)
      (pss_cons (ps_fld (pv 0) (pe_callTy call_tupN (by rfl) T.tuple (by decide +kernel) (pa_cons (pv 3) pa_nil)) rfl)
      (pss_cons (ps_fld (pv 0) (pe_callTy call_tupN (by rfl) T.tuple (by decide +kernel) (pa_cons (pv 4) pa_nil)) rfl)
      (pss_cons (ps_expr (pe_call GRN hr rfl RN.g RN.F.kp RN.b .nil (passes_call (takes_of rfl rfl rfl rfl) (fun _ _ _ _ h => h)) (pa_cons (pe_lst (pa_cons (pv 1) (pa_cons (pv 2) (pa_star (pe_fld (pv 0) rfl) (pa_star (pe_fld (pv 0) rfl) pa_nil))))) pa_nil)))
      (pss_cons (ps_expr (pe_call GRT hr2 rfl RT.g RT.F.kp RT.b .nil pass0 (pa_cons (pe_fld (pv 0) rfl) pa_nil)))
      (pss_one (ps_expr (pe_call GRT hr2 rfl RT.g RT.F.kp RT.b .nil pass0 (pa_cons (pe_fld (pv 0) rfl) pa_nil)))))))))), ?_⟩
    refine ⟨_, rfl, _, rfl, x, B, dx, [], rfl, hx, TM.cl, TM.nk, (by show 0 < 1000; decide), ?_⟩
    have S1 := Sx (o := .ins B dx (putF "maker" (.str mk) [])) S0
    refine ⟨_, rfl, _, rfl, x, B, dx, _, rfl, upd_same, TM.cl, TM.nd, Nat.lt_of_le_of_lt (putF_len _ _ _) (by decide), ?_⟩
    rw [upd_upd]
    have S2 := Sx (o := .ins B dx (putF "made" (.str md) (putF "maker" (.str mk) []))) S0
    have few2 : (putF "made" (.str md) (putF "maker" (.str mk) [])).length ≤ 10 := Nat.le_trans (putF_len _ _ _) (Nat.le_trans (Nat.succ_le_succ (putF_len _ _ _)) (by decide))
    -- self.down = tuple(down)
    refine ⟨_, rfl, l1, _, rfl, .inl ⟨S2.seq h1, fun t1 ht1 => ?_⟩⟩
    have n1x : t1 ≠ x := fun z => by
      rw [z, upd_same] at ht1
      cases ht1
    refine ⟨_, rfl, x, B, dx, _, rfl, Eq.trans (upd_ne n1x.symm) upd_same, TM.cl, TM.nw, Nat.lt_of_le_of_lt few2 (by decide), ?_⟩
    generalize hH3 : upd (upd (upd H x (.ins B dx (putF "made" (.str md) (putF "maker" (.str mk) [])))) t1 (.tup (ds.map V.str))) x (.ins B dx (putF "down" (.ref t1) (putF "made" (.str md) (putF "maker" (.str mk) [])))) = H3
    have S3 : Same H0 H3 := by
      rw [← hH3]
      exact Sx (S2.trans (Same.upd ht1))
    have hx3 : H3 x = some (.ins B dx (putF "down" (.ref t1) (putF "made" (.str md) (putF "maker" (.str mk) [])))) := by rw [← hH3, upd_same]
    have h13 : H3 t1 = some (.tup (ds.map V.str)) := by rw [← hH3, upd_ne n1x, upd_same]
    -- self.up = tuple(up)
    refine ⟨_, rfl, l2, _, rfl, .inl ⟨S3.seq h2, fun t2 ht2 => ?_⟩⟩
    have n2x : t2 ≠ x := (ne_of_none hx3 ht2).symm
    have n21 : t2 ≠ t1 := (ne_of_none h13 ht2).symm
    refine ⟨_, rfl, x, B, dx, _, rfl, Eq.trans (upd_ne n2x.symm) hx3, TM.cl, TM.nu, Nat.lt_of_le_of_lt (Nat.le_trans (putF_len _ _ _) (Nat.succ_le_succ few2)) (by decide), ?_⟩
    show _
    generalize hH4 : upd (upd H3 t2 (.tup (us.map V.str))) x (.ins B dx (putF "up" (.ref t2) (putF "down" (.ref t1) (putF "made" (.str md) (putF "maker" (.str mk) []))))) = H4
    have S4 : Same H0 H4 := by
      rw [← hH4]
      exact Sx (S3.trans (Same.upd ht2))
    have hx4 : H4 x = some (.ins B dx (makF mk md t1 t2)) := by rw [← hH4, upd_same]; rfl
    have h14 : H4 t1 = some (.tup (ds.map V.str)) := by rw [← hH4, upd_ne n1x, upd_ne n21.symm]; exact h13
    have h24 : H4 t2 = some (.tup (us.map V.str)) := by rw [← hH4, upd_ne n2x, upd_same]
    -- refuse_no_name([maker, made, *self.down, *self.up])
    refine ⟨_, rfl, _, rfl, _, rfl, x, B, dx, _, _, rfl, hx4, TM.cl, TM.nw, makF_down _ _ _ _, t1, _, rfl, .inl (SqT.of h14), _, rfl, x, B, dx, _, _, rfl, hx4, TM.cl, TM.nu, makF_up _ _ _ _, t2, _, rfl, .inl (SqT.of h24), ?_, fun l hl => ?_⟩
    · show (V.str mk :: V.str md :: (ds.map V.str ++ (us.map V.str ++ []))).length ≤ sizeLine
      rw [List.append_nil, List.length_cons, List.length_cons, List.length_append, List.length_map, List.length_map]
      exact Nat.le_trans (show _ ≤ 1000 by omega) (by decide)
    have el : V.str mk :: V.str md :: (ds.map V.str ++ (us.map V.str ++ [])) = (mk :: md :: (ds ++ us)).map V.str := by
      rw [List.append_nil, List.map_cons, List.map_cons, List.map_append]
    have S5 := S4.trans (Same.upd (o := .lst (V.str mk :: V.str md :: (ds.map V.str ++ (us.map V.str ++ [])))) hl)
    refine ⟨l, mk :: md :: (ds ++ us), rfl, SqL.of (by rw [upd_same, ← el]), ?_, hz, ?_⟩
    · rw [List.length_cons, List.length_cons, List.length_append]
      omega
    refine k.toN S5 fun hn H6 hS6 => ?_
    have hx6 := hS6 _ _ (Same.upd (o := .lst (V.str mk :: V.str md :: (ds.map V.str ++ (us.map V.str ++ [])))) hl _ _ hx4)
    have h16 := hS6 _ _ (Same.upd (o := .lst (V.str mk :: V.str md :: (ds.map V.str ++ (us.map V.str ++ [])))) hl _ _ h14)
    have h26 := hS6 _ _ (Same.upd (o := .lst (V.str mk :: V.str md :: (ds.map V.str ++ (us.map V.str ++ [])))) hl _ _ h24)
    refine ⟨_, rfl, x, B, dx, _, _, rfl, hx6, TM.cl, TM.nw, makF_down _ _ _ _, t1, _, rfl, .inr (SqT.of h16), flat_strs _, w1, fun H7 hS7 => ?_⟩
    refine ⟨_, rfl, x, B, dx, _, _, rfl, hS7 _ _ hx6, TM.cl, TM.nu, makF_up _ _ _ _, t2, _, rfl, .inr (SqT.of (hS7 _ _ h26)), flat_strs _, w2, fun H8 hS8 => ?_⟩
    unfold DueM at k
    rw [hn] at k
    exact k H8 (S5.trans (hS6.trans (hS7.trans hS8))) t1 t2 (hS8 _ _ (hS7 _ _ hx6)) (hS8 _ _ (hS7 _ _ h16)) (hS8 _ _ (hS7 _ _ h26))
end
end Wm
namespace Wm
open PySem L2 StX
abbrev sMade : Stmt := top 41
abbrev sDue : Stmt := top 42
def madeD (d : Int) (z : Str) : PyData :=
  if d = 0 then .tuple [.str z, .tuple [.tuple [.str "a", .none]], .tuple [.tuple [.str "a", .str "w", .str "a"]]] else
  if d = 1 then .tuple [.str "b", .tuple [.tuple [.str z, .none]], .tuple [.tuple [.str z, .str "w", .str z]]] else
  if d = 2 then .tuple [.str "b", .tuple [.tuple [.str "a", .str z]], .tuple [.tuple [.str "a", .str "w", .str "a"]]] else
  if d = 3 then .tuple [.str "b", .tuple [.tuple [.str "a", .none]], .tuple [.tuple [.str "a", .str z, .str "a"]]] else
  if d = 4 then .tuple [.str z, .str "k", .tuple [], .tuple [.str "v"]] else
  if d = 5 then .tuple [.str "k", .str z, .tuple [], .tuple [.str "v"]] else .tuple [.str "k", .str "k", .tuple [.str z], .tuple [.str "v"]]
theorem nA : isNm "a" = true := by decide +kernel
theorem nB : isNm "b" = true := by decide +kernel
theorem nK : isNm "k" = true := by decide +kernel
theorem nV : isNm "v" = true := by decide +kernel
theorem nW : isNm "w" = true := by decide +kernel
theorem notw_0 : NoTw (([] : List Str).map V.str) := fun i x h => by simp at h
theorem notw_1 (z : Str) : NoTw ([z].map V.str) := fun i x h => by
  cases i with
  | zero => rfl
  | succ i => simp at h
theorem patOk1 (v : Str) (so : Option Str) (w : Str) : PatOk [(v, so)] [(v, w, v)] [] [] where
  v1 := by show 1 ≤ 1; decide
  v4 := by show 1 ≤ 4; decide
  c1 := by show 1 ≤ 1; decide
  c3 := by show 1 ≤ 3; decide
  g3 := by decide
  h3 := by decide
  tw := notw_1 v
  en := fun z hz => by
    have e : z ∈ [v, v] := hz
    simp at e
    simp [e]
  lo := fun z hz => by
    have e : z = v := by simpa using hz
    show z ∈ [v, v]
    simp [e]
  ap := fun i t h e => by
    cases i with
    | zero => exact absurd h (Nat.lt_irrefl 0)
    | succ i => simp at e
def pick (z : Str) : Option Str := if isNm z = true then none else some z
theorem due_find0 (z : Str) : (textsL z [("a", none)] [("a", "w", "a")]).find? (fun z => !isNm z) = pick z := by
  show ([z, "a", "w"] : List Str).find? _ = _
  unfold pick
  cases h : isNm z <;> simp [List.find?, h, nA, nW]
theorem due_find1 (z : Str) : (textsL "b" [(z, none)] [(z, "w", z)]).find? (fun z => !isNm z) = pick z := by
  show (["b", z, "w"] : List Str).find? _ = _
  unfold pick
  cases h : isNm z <;> simp [List.find?, h, nB, nW]
theorem due_find2 (z : Str) : (textsL "b" [("a", some z)] [("a", "w", "a")]).find? (fun z => !isNm z) = pick z := by
  show (["b", "a", z, "w"] : List Str).find? _ = _
  unfold pick
  cases h : isNm z <;> simp [List.find?, h, nA, nB, nW]
theorem due_find3 (z : Str) : (textsL "b" [("a", none)] [("a", z, "a")]).find? (fun z => !isNm z) = pick z := by
  show (["b", "a", z] : List Str).find? _ = _
  unfold pick
  cases h : isNm z <;> simp [List.find?, h, nA, nB]
theorem due_find4 (z : Str) : (z :: "k" :: (([] : List Str) ++ (["v"] : List Str))).find? (fun z => !isNm z) = pick z := by
  unfold pick
  cases h : isNm z <;> simp [List.find?, h, nK, nV]
theorem due_find5 (z : Str) : (("k" : Str) :: z :: (([] : List Str) ++ (["v"] : List Str))).find? (fun z => !isNm z) = pick z := by
  unfold pick
  cases h : isNm z <;> simp [List.find?, h, nK, nV]
theorem due_find6 (z : Str) : (("k" : Str) :: "k" :: ([z] ++ (["v"] : List Str))).find? (fun z => !isNm z) = pick z := by
  unfold pick
  cases h : isNm z <;> simp [List.find?, h, nK, nV]
theorem len4 {z : Str} (hz : z.length ≤ 40) {l : List Str} (h : ∀ y ∈ l, y = z ∨ y ∈ (["a", "b", "k", "v", "w"] : List Str)) : ∀ y ∈ l, y.length ≤ 1000 := fun y hy => by
  rcases h y hy with e | e
  · rw [e]; omega
  · have q : ∀ y ∈ (["a", "b", "k", "v", "w"] : List Str), y.length ≤ 1000 := by decide +kernel
    exact q y e
theorem due_len0 {z : Str} (hz : z.length ≤ 40) : ∀ y ∈ textsL z [("a", none)] [("a", "w", "a")], y.length ≤ 1000 := len4 hz fun y hy => by
  have e : y ∈ ([z, "a", "w"] : List Str) := hy
  simp at e ⊢
  rcases e with e | e | e <;> simp [e]
theorem due_len1 {z : Str} (hz : z.length ≤ 40) : ∀ y ∈ textsL "b" [(z, none)] [(z, "w", z)], y.length ≤ 1000 := len4 hz fun y hy => by
  have e : y ∈ (["b", z, "w"] : List Str) := hy
  simp at e ⊢
  rcases e with e | e | e <;> simp [e]
theorem due_len2 {z : Str} (hz : z.length ≤ 40) : ∀ y ∈ textsL "b" [("a", some z)] [("a", "w", "a")], y.length ≤ 1000 := len4 hz fun y hy => by
  have e : y ∈ (["b", "a", z, "w"] : List Str) := hy
  simp at e ⊢
  rcases e with e | e | e | e <;> simp [e]
theorem due_len3 {z : Str} (hz : z.length ≤ 40) : ∀ y ∈ textsL "b" [("a", none)] [("a", z, "a")], y.length ≤ 1000 := len4 hz fun y hy => by
  have e : y ∈ (["b", "a", z] : List Str) := hy
  simp at e ⊢
  rcases e with e | e | e <;> simp [e]
theorem due_len4 {z : Str} (hz : z.length ≤ 40) : ∀ y ∈ (z :: "k" :: (([] : List Str) ++ (["v"] : List Str))), y.length ≤ 1000 := len4 hz fun y hy => by
  simp at hy ⊢
  rcases hy with e | e | e <;> simp [e]
theorem due_len5 {z : Str} (hz : z.length ≤ 40) : ∀ y ∈ (("k" : Str) :: z :: (([] : List Str) ++ (["v"] : List Str))), y.length ≤ 1000 := len4 hz fun y hy => by
  simp at hy ⊢
  rcases hy with e | e | e <;> simp [e]
theorem due_len6 {z : Str} (hz : z.length ≤ 40) : ∀ y ∈ (("k" : Str) :: "k" :: ([z] ++ (["v"] : List Str))), y.length ≤ 1000 := len4 hz fun y hy => by
  simp at hy ⊢
  rcases hy with e | e | e <;> simp [e]
theorem same_make {H : Hp} {x dx C : Addr} (nx : H x = none) (ndx : H dx = none) : Same H (upd (upd H dx (.own x)) x (.ins C dx [])) := fun b o e => by
  rw [upd_ne (ne_of_none e nx), upd_ne (ne_of_none e ndx)]
  exact e
theorem dueM_of {C : Addr} {zs : List Str} {z : Str} {H H0 : Hp} {ok : Hp → Prop} {E : XK} (e : zs.find? (fun z => !isNm z) = pick z) (hS : Same H H0) (h1 : isNm z = true → ∀ H', Same H0 H' → ok H')
    (h2 : isNm z = false → ∀ d H', H d = none → Same H H' → H' d = some (.xd (ef1 "name" "noname" (.str z))) → E (.ref C) (some d) H') : DueM C zs H0 ok E := by
  unfold DueM
  rw [e]
  unfold pick
  cases hn : isNm z with
  | true => exact fun H' h => h1 hn H' h
  | false => exact fun d H' a b c => h2 hn d H' (hS.free a) (hS.trans b) c
def spMade (K : PySem.W.Frag) (C : Addr) : Sp := fun vs H Q E => ∃ (d : Int) (z : Str), vs = [.int d, .str z] ∧ 0 ≤ d ∧ d < 7 ∧ z.length ≤ 40 ∧
  if isNm z = true then ∀ p H', Same H H' → Dp K H' (.ref p) (madeD d z) → Q (.ref p) H' else ∀ d H', H d = none → Same H H' → H' d = some (.xd (ef1 "name" "noname" (.str z))) → E (.ref C) (some d) H'
def spDue (K : PySem.W.Frag) : Sp := fun vs H Q _ => ∃ (d : Int) (z : Str), vs = [.int d, .str z] ∧ 0 ≤ d ∧ d < 7 ∧ ∀ p H', Same H H' → Dp K H' (.ref p) (madeD d z) → Q (.ref p) H'
section
variable {P : Program} {w : World} {K : PySem.W.Frag} {mg : Str → Option Value} {base : Heap}
theorem scMade : FnScope ["_law_door", "_law_text_here", "_law_bar", "_law_making"] ["_law_door", "_law_text_here"] (defScope sMade) := ⟨rfl, rfl, rfl, by decide +kernel, rfl, by decide +kernel, by decide +kernel⟩
theorem ok_made {f fB fM C B M : Addr} {fd dB dM : FuncData} (F : Fun K "_law_made" "_law_made" sMade f fd) (T : TxB mg) (TB : TxBar K mg B fB) (TM : TxMak K mg M fM) (bB : Binds K dB ["self", "name", "variables", "conditions"] []) (bM : Binds K dM ["self", "maker", "made", "down", "up"] [])
    (GB : FnOk P w K mg base (L2.CX P w) 6 fB dB ["self", "name", "variables", "conditions"] (spBar K C B)) (GM : FnOk P w K mg base (L2.CX P w) 5 fM dM ["self", "maker", "made", "down", "up"] (spMak K C M)) :
    FnOk P w K mg base (L2.CX P w) 8 f fd ["_law_door", "_law_text_here"] (spMade K C) := by
  refine F.okX scMade (fun vs H Q E h => ?_) (fun cdv A outer s H vs Q E hr h => ?_)
  · obtain ⟨d, z, rfl, _⟩ := h
    rfl
  · obtain ⟨d, z, rfl, d0, d7, hz, k⟩ := h
    have hr6 : Room 6 _ := hr.mono (by decide)
    refine ⟨_, (pss_cons (ps_if (pt_cmpR op_eq (pv 0) pe_int (nomark _)) (pss_one (ps_set (i := 2) scMade.nd rfl (Or.inl rfl) (pe_make TB.m GB hr rfl TB.g bB .nil (passes_call (takes_of rfl rfl rfl rfl) (fun _ _ _ _ h => h)) (pa_cons (pv 1) (pa_cons (pe_lst (pa_cons (pe_tup (pa_cons pe_str (pa_cons pe_non pa_nil))) pa_nil)) (pa_cons (pe_lst (pa_cons (pe_tup (pa_cons pe_str (pa_cons pe_str (pa_cons pe_str pa_nil)))) pa_nil)) pa_nil)))))) (pss_one (ps_if (pt_cmpR op_eq (pv 0) pe_int (nomark _)) (pss_one (ps_set (i := 2) scMade.nd rfl (Or.inl rfl) (pe_make TB.m GB hr rfl TB.g bB .nil (passes_call (takes_of rfl rfl rfl rfl) (fun _ _ _ _ h => h)) (pa_cons pe_str (pa_cons (pe_lst (pa_cons (pe_tup (pa_cons (pv 1) (pa_cons pe_non pa_nil))) pa_nil)) (pa_cons (pe_lst (pa_cons (pe_tup (pa_cons (pv 1) (pa_cons pe_str (pa_cons (pv 1) pa_nil)))) pa_nil)) pa_nil)))))) (pss_one (ps_if (pt_cmpR op_eq (pv 0) pe_int (nomark _)) (pss_one (ps_set (i := 2) scMade.nd rfl (Or.inl rfl) (pe_make TB.m GB hr rfl TB.g bB .nil (passes_call (takes_of rfl rfl rfl rfl) (fun _ _ _ _ h => h)) (pa_cons pe_str (pa_cons (pe_lst (pa_cons (pe_tup (pa_cons pe_str (pa_cons (pv 1) pa_nil))) pa_nil)) (pa_cons (pe_lst (pa_cons (pe_tup (pa_cons pe_str (pa_cons pe_str (pa_cons pe_str pa_nil)))) pa_nil)) pa_nil)))))) (pss_one (ps_if (pt_cmpR op_eq (pv 0) pe_int (nomark _)) (pss_one (ps_set (i := 2) scMade.nd rfl (Or.inl rfl) (pe_make TB.m GB hr rfl TB.g bB .nil (passes_call (takes_of rfl rfl rfl rfl) (fun _ _ _ _ h => h)) (pa_cons pe_str (pa_cons (pe_lst (pa_cons (pe_tup (pa_cons pe_str (pa_cons pe_non pa_nil))) pa_nil)) (pa_cons (pe_lst (pa_cons (pe_tup (pa_cons pe_str (pa_cons (pv 1) (pa_cons pe_str pa_nil)))) pa_nil)) pa_nil)))))) (pss_cons (ps_set (i := 3) scMade.nd rfl (Or.inl rfl) (pe_make TM.m GM hr6 rfl TM.g bM .nil (passes_call (takes_of rfl rfl rfl rfl) (fun _ _ _ _ h => h)) (pa_cons (pe_ix ix_list (pe_lst (pa_cons pe_str (pa_cons (pv 1) pa_nil))) (pe_callTy call_int1 (by rfl) T.int (by decide +kernel) (pa_cons (pe_cmpR op_eq (pv 0) pe_int (nomark _)) pa_nil)) (fun _ _ => rfl)) (pa_cons (pe_ix ix_list (pe_lst (pa_cons pe_str (pa_cons (pv 1) pa_nil))) (pe_callTy call_int1 (by rfl) T.int (by decide +kernel) (pa_cons (pe_cmpR op_eq (pv 0) pe_int (nomark _)) pa_nil)) (fun _ _ => rfl)) (pa_cons (pe_op op_rep (pe_lst (pa_cons (pv 1) pa_nil)) (pe_callTy call_int1 (by rfl) T.int (by decide +kernel) (pa_cons (pe_cmpR op_eq (pv 0) pe_int (nomark _)) pa_nil))) (pa_cons (pe_lst (pa_cons pe_str pa_nil)) pa_nil))))))
      (pss_one (ps_ret (pe_tup (pa_cons (pe_fld (pv 3) rfl) (pa_cons (pe_fld (pv 3) rfl) (pa_cons (pe_fld (pv 3) rfl) (pa_cons (pe_fld (pv 3) rfl) pa_nil)))))))))))))))
      (pss_one (ps_ret (pe_tup (pa_cons (pe_fld (pv 2) rfl) (pa_cons (pe_fld (pv 2) rfl) (pa_cons (pe_fld (pv 2) rfl) pa_nil))))))), ?_⟩
    refine ⟨_, rfl, rfl, _, rfl, ?_⟩
    refine ite2 (fun h => ?_) (fun n0 => ?_)
    · have hd0 : d = 0 := V.int.inj (of_decide_eq_true h)
      -- door 0
      subst hd0
      refine ⟨_, rfl, by show 2 ≤ sizeLine; decide, fun p1 np1 => ⟨by show 1 ≤ sizeLine; decide, fun l1 nl1 => ⟨by show 3 ≤ sizeLine; decide, fun p2 np2 => ⟨by show 1 ≤ sizeLine; decide, fun l2 nl2 => ?_⟩⟩⟩⟩
      intro x dx nx ndx nex
      have R1 := Same.upd (o := .tup [.str "a", .non]) np1
      have R2 := Same.upd (o := .lst [.ref p1]) nl1
      have R3 := Same.upd (o := .tup [.str "a", .str "w", .str "a"]) np2
      have R4 := Same.upd (o := .lst [.ref p2]) nl2
      have R24 := R2.trans (R3.trans R4)
      have R14 := R1.trans R24
      have g1 := R24 _ _ (upd_same (H := H) (a := p1) (o := .tup [.str "a", .non]))
      have g2 := (R3.trans R4) _ _ (upd_same (a := l1) (o := .lst [.ref p1]))
      have g3 := R4 _ _ (upd_same (a := p2) (o := .tup [.str "a", .str "w", .str "a"]))
      refine ⟨_, x, dx, l1, l2, z, [p1], [p2], [("a", none)], [("a", "w", "a")], rfl, same_make nx ndx, nx, upd_same, SqL.of g2, ⟨SqT.of g1, True.intro⟩, SqL.of upd_same, ⟨SqT.of g3, True.intro⟩, patOk1 _ _ _, ?_, ?_⟩
      · exact due_len0 hz
      · refine dueM_of (due_find0 z) R14 (fun hn H' hS t1 t2 e1 e2 e3 => ⟨rfl, ?_⟩) (fun hn => by rw [if_neg (by rw [hn]; decide)] at k; exact k)
        rw [if_pos hn] at k
        have q1 := hS _ _ g1
        have q3 := hS _ _ g3
        refine ⟨_, rfl, x, B, dx, _, _, rfl, e1, TB.cl, TB.nn, barF_name _ _ _, _, rfl, x, B, dx, _, _, rfl, e1, TB.cl, TB.nv, barF_vars _ _ _, _, rfl, x, B, dx, _, _, rfl, e1, TB.cl, TB.nc, barF_cond _ _ _, by show 3 ≤ sizeLine; decide, fun p hp => ?_⟩
        refine k p _ (R14.trans (hS.trans (Same.upd hp))) (.tup (SqT.of upd_same) ?_)
        have u := Same.upd (o := .tup [.str z, .ref t1, .ref t2]) hp
        exact .cons (.str _) (.cons (.tup (SqT.of (u _ _ e2)) (.cons (.tup (SqT.of (u _ _ q1)) (.cons (.str _) (.cons .non .nil))) .nil)) (.cons (.tup (SqT.of (u _ _ e3)) (.cons (.tup (SqT.of (u _ _ q3)) (.cons (.str _) (.cons (.str _) (.cons (.str _) .nil)))) .nil)) .nil))
    refine ⟨_, rfl, rfl, _, rfl, ?_⟩
    refine ite2 (fun h => ?_) (fun n1 => ?_)
    · have hd1 : d = 1 := V.int.inj (of_decide_eq_true h)
      -- door 1
      subst hd1
      refine ⟨_, rfl, by show 2 ≤ sizeLine; decide, fun p1 np1 => ⟨by show 1 ≤ sizeLine; decide, fun l1 nl1 => ⟨_, rfl, _, rfl, by show 3 ≤ sizeLine; decide, fun p2 np2 => ⟨by show 1 ≤ sizeLine; decide, fun l2 nl2 => ?_⟩⟩⟩⟩
      intro x dx nx ndx nex
      have R1 := Same.upd (o := .tup [.str z, .non]) np1
      have R2 := Same.upd (o := .lst [.ref p1]) nl1
      have R3 := Same.upd (o := .tup [.str z, .str "w", .str z]) np2
      have R4 := Same.upd (o := .lst [.ref p2]) nl2
      have R24 := R2.trans (R3.trans R4)
      have R14 := R1.trans R24
      have g1 := R24 _ _ (upd_same (H := H) (a := p1) (o := .tup [.str z, .non]))
      have g2 := (R3.trans R4) _ _ (upd_same (a := l1) (o := .lst [.ref p1]))
      have g3 := R4 _ _ (upd_same (a := p2) (o := .tup [.str z, .str "w", .str z]))
      refine ⟨_, x, dx, l1, l2, "b", [p1], [p2], [(z, none)], [(z, "w", z)], rfl, same_make nx ndx, nx, upd_same, SqL.of g2, ⟨SqT.of g1, True.intro⟩, SqL.of upd_same, ⟨SqT.of g3, True.intro⟩, patOk1 _ _ _, ?_, ?_⟩
      · exact due_len1 hz
      · refine dueM_of (due_find1 z) R14 (fun hn H' hS t1 t2 e1 e2 e3 => ⟨rfl, ?_⟩) (fun hn => by rw [if_neg (by rw [hn]; decide)] at k; exact k)
        rw [if_pos hn] at k
        have q1 := hS _ _ g1
        have q3 := hS _ _ g3
        refine ⟨_, rfl, x, B, dx, _, _, rfl, e1, TB.cl, TB.nn, barF_name _ _ _, _, rfl, x, B, dx, _, _, rfl, e1, TB.cl, TB.nv, barF_vars _ _ _, _, rfl, x, B, dx, _, _, rfl, e1, TB.cl, TB.nc, barF_cond _ _ _, by show 3 ≤ sizeLine; decide, fun p hp => ?_⟩
        refine k p _ (R14.trans (hS.trans (Same.upd hp))) (.tup (SqT.of upd_same) ?_)
        have u := Same.upd (o := .tup [.str "b", .ref t1, .ref t2]) hp
        exact .cons (.str _) (.cons (.tup (SqT.of (u _ _ e2)) (.cons (.tup (SqT.of (u _ _ q1)) (.cons (.str _) (.cons .non .nil))) .nil)) (.cons (.tup (SqT.of (u _ _ e3)) (.cons (.tup (SqT.of (u _ _ q3)) (.cons (.str _) (.cons (.str _) (.cons (.str _) .nil)))) .nil)) .nil))
    refine ⟨_, rfl, rfl, _, rfl, ?_⟩
    refine ite2 (fun h => ?_) (fun n2 => ?_)
    · have hd2 : d = 2 := V.int.inj (of_decide_eq_true h)
      -- door 2
      subst hd2
      refine ⟨_, rfl, by show 2 ≤ sizeLine; decide, fun p1 np1 => ⟨by show 1 ≤ sizeLine; decide, fun l1 nl1 => ⟨by show 3 ≤ sizeLine; decide, fun p2 np2 => ⟨by show 1 ≤ sizeLine; decide, fun l2 nl2 => ?_⟩⟩⟩⟩
      intro x dx nx ndx nex
      have R1 := Same.upd (o := .tup [.str "a", .str z]) np1
      have R2 := Same.upd (o := .lst [.ref p1]) nl1
      have R3 := Same.upd (o := .tup [.str "a", .str "w", .str "a"]) np2
      have R4 := Same.upd (o := .lst [.ref p2]) nl2
      have R24 := R2.trans (R3.trans R4)
      have R14 := R1.trans R24
      have g1 := R24 _ _ (upd_same (H := H) (a := p1) (o := .tup [.str "a", .str z]))
      have g2 := (R3.trans R4) _ _ (upd_same (a := l1) (o := .lst [.ref p1]))
      have g3 := R4 _ _ (upd_same (a := p2) (o := .tup [.str "a", .str "w", .str "a"]))
      refine ⟨_, x, dx, l1, l2, "b", [p1], [p2], [("a", some z)], [("a", "w", "a")], rfl, same_make nx ndx, nx, upd_same, SqL.of g2, ⟨SqT.of g1, True.intro⟩, SqL.of upd_same, ⟨SqT.of g3, True.intro⟩, patOk1 _ _ _, ?_, ?_⟩
      · exact due_len2 hz
      · refine dueM_of (due_find2 z) R14 (fun hn H' hS t1 t2 e1 e2 e3 => ⟨rfl, ?_⟩) (fun hn => by rw [if_neg (by rw [hn]; decide)] at k; exact k)
        rw [if_pos hn] at k
        have q1 := hS _ _ g1
        have q3 := hS _ _ g3
        refine ⟨_, rfl, x, B, dx, _, _, rfl, e1, TB.cl, TB.nn, barF_name _ _ _, _, rfl, x, B, dx, _, _, rfl, e1, TB.cl, TB.nv, barF_vars _ _ _, _, rfl, x, B, dx, _, _, rfl, e1, TB.cl, TB.nc, barF_cond _ _ _, by show 3 ≤ sizeLine; decide, fun p hp => ?_⟩
        refine k p _ (R14.trans (hS.trans (Same.upd hp))) (.tup (SqT.of upd_same) ?_)
        have u := Same.upd (o := .tup [.str "b", .ref t1, .ref t2]) hp
        exact .cons (.str _) (.cons (.tup (SqT.of (u _ _ e2)) (.cons (.tup (SqT.of (u _ _ q1)) (.cons (.str _) (.cons (.str _) .nil))) .nil)) (.cons (.tup (SqT.of (u _ _ e3)) (.cons (.tup (SqT.of (u _ _ q3)) (.cons (.str _) (.cons (.str _) (.cons (.str _) .nil)))) .nil)) .nil))
    refine ⟨_, rfl, rfl, _, rfl, ?_⟩
    refine ite2 (fun h => ?_) (fun n3 => ?_)
    · have hd3 : d = 3 := V.int.inj (of_decide_eq_true h)
      -- door 3
      subst hd3
      refine ⟨by show 2 ≤ sizeLine; decide, fun p1 np1 => ⟨by show 1 ≤ sizeLine; decide, fun l1 nl1 => ⟨_, rfl, by show 3 ≤ sizeLine; decide, fun p2 np2 => ⟨by show 1 ≤ sizeLine; decide, fun l2 nl2 => ?_⟩⟩⟩⟩
      intro x dx nx ndx nex
      have R1 := Same.upd (o := .tup [.str "a", .non]) np1
      have R2 := Same.upd (o := .lst [.ref p1]) nl1
      have R3 := Same.upd (o := .tup [.str "a", .str z, .str "a"]) np2
      have R4 := Same.upd (o := .lst [.ref p2]) nl2
      have R24 := R2.trans (R3.trans R4)
      have R14 := R1.trans R24
      have g1 := R24 _ _ (upd_same (H := H) (a := p1) (o := .tup [.str "a", .non]))
      have g2 := (R3.trans R4) _ _ (upd_same (a := l1) (o := .lst [.ref p1]))
      have g3 := R4 _ _ (upd_same (a := p2) (o := .tup [.str "a", .str z, .str "a"]))
      refine ⟨_, x, dx, l1, l2, "b", [p1], [p2], [("a", none)], [("a", z, "a")], rfl, same_make nx ndx, nx, upd_same, SqL.of g2, ⟨SqT.of g1, True.intro⟩, SqL.of upd_same, ⟨SqT.of g3, True.intro⟩, patOk1 _ _ _, ?_, ?_⟩
      · exact due_len3 hz
      · refine dueM_of (due_find3 z) R14 (fun hn H' hS t1 t2 e1 e2 e3 => ⟨rfl, ?_⟩) (fun hn => by rw [if_neg (by rw [hn]; decide)] at k; exact k)
        rw [if_pos hn] at k
        have q1 := hS _ _ g1
        have q3 := hS _ _ g3
        refine ⟨_, rfl, x, B, dx, _, _, rfl, e1, TB.cl, TB.nn, barF_name _ _ _, _, rfl, x, B, dx, _, _, rfl, e1, TB.cl, TB.nv, barF_vars _ _ _, _, rfl, x, B, dx, _, _, rfl, e1, TB.cl, TB.nc, barF_cond _ _ _, by show 3 ≤ sizeLine; decide, fun p hp => ?_⟩
        refine k p _ (R14.trans (hS.trans (Same.upd hp))) (.tup (SqT.of upd_same) ?_)
        have u := Same.upd (o := .tup [.str "b", .ref t1, .ref t2]) hp
        exact .cons (.str _) (.cons (.tup (SqT.of (u _ _ e2)) (.cons (.tup (SqT.of (u _ _ q1)) (.cons (.str _) (.cons .non .nil))) .nil)) (.cons (.tup (SqT.of (u _ _ e3)) (.cons (.tup (SqT.of (u _ _ q3)) (.cons (.str _) (.cons (.str _) (.cons (.str _) .nil)))) .nil)) .nil))
    have m0 : d ≠ 0 := fun e => n0 (decide_eq_true (by rw [e]))
    have m1 : d ≠ 1 := fun e => n1 (decide_eq_true (by rw [e]))
    have m2 : d ≠ 2 := fun e => n2 (decide_eq_true (by rw [e]))
    have m3 : d ≠ 3 := fun e => n3 (decide_eq_true (by rw [e]))
    rcases (show d = 4 ∨ d = 5 ∨ d = 6 by omega) with hd4 | hd5 | hd6
    · -- door 4
      subst hd4
      refine ⟨_, rfl, by show 2 ≤ sizeLine; decide, fun k1 nk1 => ?_⟩
      refine ⟨_, rfl, rfl, .inr ⟨_, rfl, rdList upd_same (j := 1) rfl rfl ?_⟩⟩
      refine ⟨_, rfl, by show 2 ≤ sizeLine; decide, fun k2 nk2 => ?_⟩
      refine ⟨_, rfl, rfl, .inr ⟨_, rfl, rdList upd_same (j := 0) rfl rfl ?_⟩⟩
      refine ⟨_, rfl, by show 1 ≤ sizeLine; decide, fun k3 nk3 => ?_⟩
      refine ⟨_, rfl, rfl, .inr ⟨_, rfl, k3, _, _, rfl, rfl, upd_same, by decide, by decide, by show 1 * 0 ≤ sizeLine; decide, fun l1 nl1 => ?_⟩⟩
      refine ⟨by show 1 ≤ sizeLine; decide, fun l2 nl2 => ?_⟩
      intro x dx nx ndx nex
      have R1 := Same.upd (o := .lst [.str (PySem.Str.ofString "k"), .str z]) nk1
      have R2 := Same.upd (o := .lst [.str (PySem.Str.ofString "k"), .str z]) nk2
      have R3 := Same.upd (o := .lst [.str z]) nk3
      have R4 := Same.upd (o := .lst ([].map V.str)) nl1
      have R5 := Same.upd (o := .lst [.str (PySem.Str.ofString "v")]) nl2
      have R15 := R1.trans (R2.trans (R3.trans (R4.trans R5)))
      have g1 := R5 _ _ (upd_same (a := l1) (o := .lst ([].map V.str)))
      refine ⟨_, x, dx, l1, l2, z, "k", [], ["v"], rfl, same_make nx ndx, nx, upd_same, SqL.of g1, SqL.of upd_same, by show _ ≤ 100; simp, by show 1 ≤ 100; decide, notw_0, notw_1 _, ?_, ?_⟩
      · exact due_len4 hz
      · refine dueM_of (due_find4 z) R15 (fun hn H' hS t1 t2 e1 e2 e3 => ⟨rfl, ?_⟩) (fun hn => by rw [if_neg (by rw [hn]; decide)] at k; exact k)
        rw [if_pos hn] at k
        refine ⟨_, rfl, x, M, dx, _, _, rfl, e1, TM.cl, TM.nk, makF_maker _ _ _ _, _, rfl, x, M, dx, _, _, rfl, e1, TM.cl, TM.nd, makF_made _ _ _ _, _, rfl, x, M, dx, _, _, rfl, e1, TM.cl, TM.nw, makF_down _ _ _ _, _, rfl, x, M, dx, _, _, rfl, e1, TM.cl, TM.nu, makF_up _ _ _ _, by show 4 ≤ sizeLine; decide, fun p hp => ?_⟩
        refine k p _ (R15.trans (hS.trans (Same.upd hp))) (.tup (SqT.of upd_same) ?_)
        have u := Same.upd (o := .tup [.str z, .str "k", .ref t1, .ref t2]) hp
        exact .cons (.str _) (.cons (.str _) (.cons (.tup (SqT.of (u _ _ e2)) .nil) (.cons (.tup (SqT.of (u _ _ e3)) (.cons (.str _) .nil)) .nil)))
    · -- door 5
      subst hd5
      refine ⟨_, rfl, by show 2 ≤ sizeLine; decide, fun k1 nk1 => ?_⟩
      refine ⟨_, rfl, rfl, .inr ⟨_, rfl, rdList upd_same (j := 0) rfl rfl ?_⟩⟩
      refine ⟨_, rfl, by show 2 ≤ sizeLine; decide, fun k2 nk2 => ?_⟩
      refine ⟨_, rfl, rfl, .inr ⟨_, rfl, rdList upd_same (j := 1) rfl rfl ?_⟩⟩
      refine ⟨_, rfl, by show 1 ≤ sizeLine; decide, fun k3 nk3 => ?_⟩
      refine ⟨_, rfl, rfl, .inr ⟨_, rfl, k3, _, _, rfl, rfl, upd_same, by decide, by decide, by show 1 * 0 ≤ sizeLine; decide, fun l1 nl1 => ?_⟩⟩
      refine ⟨by show 1 ≤ sizeLine; decide, fun l2 nl2 => ?_⟩
      intro x dx nx ndx nex
      have R1 := Same.upd (o := .lst [.str (PySem.Str.ofString "k"), .str z]) nk1
      have R2 := Same.upd (o := .lst [.str (PySem.Str.ofString "k"), .str z]) nk2
      have R3 := Same.upd (o := .lst [.str z]) nk3
      have R4 := Same.upd (o := .lst ([].map V.str)) nl1
      have R5 := Same.upd (o := .lst [.str (PySem.Str.ofString "v")]) nl2
      have R15 := R1.trans (R2.trans (R3.trans (R4.trans R5)))
      have g1 := R5 _ _ (upd_same (a := l1) (o := .lst ([].map V.str)))
      refine ⟨_, x, dx, l1, l2, "k", z, [], ["v"], rfl, same_make nx ndx, nx, upd_same, SqL.of g1, SqL.of upd_same, by show _ ≤ 100; simp, by show 1 ≤ 100; decide, notw_0, notw_1 _, ?_, ?_⟩
      · exact due_len5 hz
      · refine dueM_of (due_find5 z) R15 (fun hn H' hS t1 t2 e1 e2 e3 => ⟨rfl, ?_⟩) (fun hn => by rw [if_neg (by rw [hn]; decide)] at k; exact k)
        rw [if_pos hn] at k
        refine ⟨_, rfl, x, M, dx, _, _, rfl, e1, TM.cl, TM.nk, makF_maker _ _ _ _, _, rfl, x, M, dx, _, _, rfl, e1, TM.cl, TM.nd, makF_made _ _ _ _, _, rfl, x, M, dx, _, _, rfl, e1, TM.cl, TM.nw, makF_down _ _ _ _, _, rfl, x, M, dx, _, _, rfl, e1, TM.cl, TM.nu, makF_up _ _ _ _, by show 4 ≤ sizeLine; decide, fun p hp => ?_⟩
        refine k p _ (R15.trans (hS.trans (Same.upd hp))) (.tup (SqT.of upd_same) ?_)
        have u := Same.upd (o := .tup [.str "k", .str z, .ref t1, .ref t2]) hp
        exact .cons (.str _) (.cons (.str _) (.cons (.tup (SqT.of (u _ _ e2)) .nil) (.cons (.tup (SqT.of (u _ _ e3)) (.cons (.str _) .nil)) .nil)))
    · -- door 6
      subst hd6
      refine ⟨_, rfl, by show 2 ≤ sizeLine; decide, fun k1 nk1 => ?_⟩
      refine ⟨_, rfl, rfl, .inr ⟨_, rfl, rdList upd_same (j := 0) rfl rfl ?_⟩⟩
      refine ⟨_, rfl, by show 2 ≤ sizeLine; decide, fun k2 nk2 => ?_⟩
      refine ⟨_, rfl, rfl, .inr ⟨_, rfl, rdList upd_same (j := 0) rfl rfl ?_⟩⟩
      refine ⟨_, rfl, by show 1 ≤ sizeLine; decide, fun k3 nk3 => ?_⟩
      refine ⟨_, rfl, rfl, .inr ⟨_, rfl, k3, _, _, rfl, rfl, upd_same, by decide, by decide, by show 1 * 1 ≤ sizeLine; decide, fun l1 nl1 => ?_⟩⟩
      refine ⟨by show 1 ≤ sizeLine; decide, fun l2 nl2 => ?_⟩
      intro x dx nx ndx nex
      have R1 := Same.upd (o := .lst [.str (PySem.Str.ofString "k"), .str z]) nk1
      have R2 := Same.upd (o := .lst [.str (PySem.Str.ofString "k"), .str z]) nk2
      have R3 := Same.upd (o := .lst [.str z]) nk3
      have R4 := Same.upd (o := .lst ([z].map V.str)) nl1
      have R5 := Same.upd (o := .lst [.str (PySem.Str.ofString "v")]) nl2
      have R15 := R1.trans (R2.trans (R3.trans (R4.trans R5)))
      have g1 := R5 _ _ (upd_same (a := l1) (o := .lst ([z].map V.str)))
      refine ⟨_, x, dx, l1, l2, "k", "k", [z], ["v"], rfl, same_make nx ndx, nx, upd_same, SqL.of g1, SqL.of upd_same, by show _ ≤ 100; simp, by show 1 ≤ 100; decide, notw_1 _, notw_1 _, ?_, ?_⟩
      · exact due_len6 hz
      · refine dueM_of (due_find6 z) R15 (fun hn H' hS t1 t2 e1 e2 e3 => ⟨rfl, ?_⟩) (fun hn => by rw [if_neg (by rw [hn]; decide)] at k; exact k)
        rw [if_pos hn] at k
        refine ⟨_, rfl, x, M, dx, _, _, rfl, e1, TM.cl, TM.nk, makF_maker _ _ _ _, _, rfl, x, M, dx, _, _, rfl, e1, TM.cl, TM.nd, makF_made _ _ _ _, _, rfl, x, M, dx, _, _, rfl, e1, TM.cl, TM.nw, makF_down _ _ _ _, _, rfl, x, M, dx, _, _, rfl, e1, TM.cl, TM.nu, makF_up _ _ _ _, by show 4 ≤ sizeLine; decide, fun p hp => ?_⟩
        refine k p _ (R15.trans (hS.trans (Same.upd hp))) (.tup (SqT.of upd_same) ?_)
        have u := Same.upd (o := .tup [.str "k", .str "k", .ref t1, .ref t2]) hp
        exact .cons (.str _) (.cons (.str _) (.cons (.tup (SqT.of (u _ _ e2)) (.cons (.str _) .nil)) (.cons (.tup (SqT.of (u _ _ e3)) (.cons (.str _) .nil)) .nil)))
end
end Wm
namespace Wm
open PySem L2 StX
section
variable {P : Program} {w : World} {K : PySem.W.Frag} {mg : Str → Option Value} {base : Heap}
theorem scDue : FnScope ["_law_door", "_law_text_here", "_law_words", "_law_one", "_law_condition"] ["_law_door", "_law_text_here"] (defScope sDue) := ⟨rfl, rfl, rfl, by decide +kernel, rfl, by decide +kernel, by decide +kernel⟩
theorem ok_due {f : Addr} {fd : FuncData} (F : Fun K "_law_due" "_law_due" sDue f fd) (T : TxB mg) : FnOk P w K mg base CX0 1 f fd ["_law_door", "_law_text_here"] (spDue K) := by
  refine F.ok scDue (fun vs H Q E h => ?_) (fun cdv A outer s H vs Q E hr h => ?_)
  · obtain ⟨d, z, rfl, _⟩ := h
    rfl
  · obtain ⟨d, z, rfl, d0, d7, k⟩ := h
    refine ⟨_, (pss_cons (ps_if (pt_cmpR op_gt (pv 0) pe_int (nomark _)) (pss_cons (ps_set (i := 2) scDue.nd rfl (Or.inl rfl) (pe_op op_rep (pe_lst (pa_cons (pv 1) pa_nil)) (pe_callTy call_int1 (by rfl) T.int (by decide +kernel) (pa_cons (pe_cmpR op_eq (pv 0) pe_int (nomark _)) pa_nil))))
      (pss_one (ps_ret (pe_tup (pa_cons (pe_ix ix_list (pe_lst (pa_cons pe_str (pa_cons (pv 1) pa_nil))) (pe_callTy call_int1 (by rfl) T.int (by decide +kernel) (pa_cons (pe_cmpR op_eq (pv 0) pe_int (nomark _)) pa_nil)) (fun _ _ => rfl)) (pa_cons (pe_ix ix_list (pe_lst (pa_cons pe_str (pa_cons (pv 1) pa_nil))) (pe_callTy call_int1 (by rfl) T.int (by decide +kernel) (pa_cons (pe_cmpR op_eq (pv 0) pe_int (nomark _)) pa_nil)) (fun _ _ => rfl)) (pa_cons (pe_callTy call_tupN (by rfl) T.tuple (by decide +kernel) (pa_cons (pv 2) pa_nil)) (pa_cons (pe_tup (pa_cons pe_str pa_nil)) pa_nil)))))))) pss_nil)
      (pss_cons (ps_set (i := 3) scDue.nd rfl (Or.inl rfl) (pe_ix ix_list (pe_lst (pa_cons (pe_tup (pa_cons pe_str (pa_cons pe_non pa_nil))) (pa_cons (pe_tup (pa_cons (pv 1) (pa_cons pe_non pa_nil))) (pa_cons (pe_tup (pa_cons pe_str (pa_cons (pv 1) pa_nil))) (pa_cons (pe_tup (pa_cons pe_str (pa_cons pe_non pa_nil))) pa_nil))))) (pv 0) (fun _ _ => rfl)))
      (pss_cons (ps_set (i := 4) scDue.nd rfl (Or.inl rfl) (pe_ix ix_list (pe_lst (pa_cons (pe_tup (pa_cons pe_str (pa_cons pe_str (pa_cons pe_str pa_nil)))) (pa_cons (pe_tup (pa_cons (pv 1) (pa_cons pe_str (pa_cons (pv 1) pa_nil)))) (pa_cons (pe_tup (pa_cons pe_str (pa_cons pe_str (pa_cons pe_str pa_nil)))) (pa_cons (pe_tup (pa_cons pe_str (pa_cons (pv 1) (pa_cons pe_str pa_nil)))) pa_nil))))) (pv 0) (fun _ _ => rfl)))
      (pss_one (ps_ret (pe_tup (pa_cons (pe_ix ix_list (pe_lst (pa_cons pe_str (pa_cons (pv 1) pa_nil))) (pe_callTy call_int1 (by rfl) T.int (by decide +kernel) (pa_cons (pe_cmpR op_eq (pv 0) pe_int (nomark _)) pa_nil)) (fun _ _ => rfl)) (pa_cons (pe_tup (pa_cons (pv 3) pa_nil)) (pa_cons (pe_tup (pa_cons (pv 4) pa_nil)) pa_nil))))))))), ?_⟩
    rcases (show d = 0 ∨ d = 1 ∨ d = 2 ∨ d = 3 ∨ d = 4 ∨ d = 5 ∨ d = 6 by omega) with rfl | rfl | rfl | rfl | rfl | rfl | rfl
    · -- door 0
      refine ⟨_, rfl, _, _, rfl, rfl, _, rfl, ?_⟩
      refine ite2 (fun h => absurd (of_decide_eq_true h) (by decide)) (fun _ => ?_)
      refine ⟨by show 2 ≤ sizeLine; decide, fun a0 n_a0 => ⟨_, rfl, by show 2 ≤ sizeLine; decide, fun a1 n_a1 => ⟨_, rfl, by show 2 ≤ sizeLine; decide, fun a2 n_a2 => ⟨by show 2 ≤ sizeLine; decide, fun a3 n_a3 => ⟨by show 4 ≤ sizeLine; decide, fun la n_la => ?_⟩⟩⟩⟩⟩
      refine ⟨_, rfl, rdList upd_same (j := 0) rfl rfl ?_⟩
      refine ⟨by show 3 ≤ sizeLine; decide, fun c0 n_c0 => ⟨_, rfl, _, rfl, by show 3 ≤ sizeLine; decide, fun c1 n_c1 => ⟨by show 3 ≤ sizeLine; decide, fun c2 n_c2 => ⟨_, rfl, by show 3 ≤ sizeLine; decide, fun c3 n_c3 => ⟨by show 4 ≤ sizeLine; decide, fun lc n_lc => ?_⟩⟩⟩⟩⟩
      refine ⟨_, rfl, rdList upd_same (j := 0) rfl rfl ?_⟩
      refine ⟨_, rfl, by show 2 ≤ sizeLine; decide, fun b n_b => ?_⟩
      refine ⟨_, rfl, rfl, .inr ⟨_, rfl, rdList upd_same (j := 1) rfl rfl ?_⟩⟩
      refine ⟨_, rfl, by show 1 ≤ sizeLine; decide, fun u n_u => ⟨_, rfl, by show 1 ≤ sizeLine; decide, fun v n_v => ⟨by show 3 ≤ sizeLine; decide, fun p n_p => ?_⟩⟩⟩
      have R_a0 := Same.upd (o := .tup [.str (PySem.Str.ofString "a"), .non]) n_a0
      have R_a1 := Same.upd (o := .tup [.str z, .non]) n_a1
      have R_a2 := Same.upd (o := .tup [.str (PySem.Str.ofString "a"), .str z]) n_a2
      have R_a3 := Same.upd (o := .tup [.str (PySem.Str.ofString "a"), .non]) n_a3
      have R_la := Same.upd (o := .lst [.ref a0, .ref a1, .ref a2, .ref a3]) n_la
      have R_c0 := Same.upd (o := .tup [.str (PySem.Str.ofString "a"), .str (PySem.Str.ofString "w"), .str (PySem.Str.ofString "a")]) n_c0
      have R_c1 := Same.upd (o := .tup [.str z, .str (PySem.Str.ofString "w"), .str z]) n_c1
      have R_c2 := Same.upd (o := .tup [.str (PySem.Str.ofString "a"), .str (PySem.Str.ofString "w"), .str (PySem.Str.ofString "a")]) n_c2
      have R_c3 := Same.upd (o := .tup [.str (PySem.Str.ofString "a"), .str z, .str (PySem.Str.ofString "a")]) n_c3
      have R_lc := Same.upd (o := .lst [.ref c0, .ref c1, .ref c2, .ref c3]) n_lc
      have R_b := Same.upd (o := .lst [.str (PySem.Str.ofString "b"), .str z]) n_b
      have R_u := Same.upd (o := .tup [.ref a0]) n_u
      have R_v := Same.upd (o := .tup [.ref c0]) n_v
      have R_p := Same.upd (o := .tup [.str z, .ref u, .ref v]) n_p
      refine k p _ (R_a0.trans (R_a1.trans (R_a2.trans (R_a3.trans (R_la.trans (R_c0.trans (R_c1.trans (R_c2.trans (R_c3.trans (R_lc.trans (R_b.trans (R_u.trans (R_v.trans R_p))))))))))))) ?_
      exact .tup (SqT.of upd_same) (.cons (.str _) (.cons (.tup (SqT.of ((R_v.trans R_p) _ _ (upd_same (o := .tup [.ref a0])))) (.cons (.tup (SqT.of ((R_a1.trans (R_a2.trans (R_a3.trans (R_la.trans (R_c0.trans (R_c1.trans (R_c2.trans (R_c3.trans (R_lc.trans (R_b.trans (R_u.trans (R_v.trans R_p)))))))))))) _ _ (upd_same (o := .tup [.str (PySem.Str.ofString "a"), .non])))) (.cons (.str _) (.cons .non .nil))) .nil)) (.cons (.tup (SqT.of (R_p _ _ (upd_same (o := .tup [.ref c0])))) (.cons (.tup (SqT.of ((R_c1.trans (R_c2.trans (R_c3.trans (R_lc.trans (R_b.trans (R_u.trans (R_v.trans R_p))))))) _ _ (upd_same (o := .tup [.str (PySem.Str.ofString "a"), .str (PySem.Str.ofString "w"), .str (PySem.Str.ofString "a")])))) (.cons (.str _) (.cons (.str _) (.cons (.str _) .nil)))) .nil)) .nil)))
    · -- door 1
      refine ⟨_, rfl, _, _, rfl, rfl, _, rfl, ?_⟩
      refine ite2 (fun h => absurd (of_decide_eq_true h) (by decide)) (fun _ => ?_)
      refine ⟨by show 2 ≤ sizeLine; decide, fun a0 n_a0 => ⟨_, rfl, by show 2 ≤ sizeLine; decide, fun a1 n_a1 => ⟨_, rfl, by show 2 ≤ sizeLine; decide, fun a2 n_a2 => ⟨by show 2 ≤ sizeLine; decide, fun a3 n_a3 => ⟨by show 4 ≤ sizeLine; decide, fun la n_la => ?_⟩⟩⟩⟩⟩
      refine ⟨_, rfl, rdList upd_same (j := 1) rfl rfl ?_⟩
      refine ⟨by show 3 ≤ sizeLine; decide, fun c0 n_c0 => ⟨_, rfl, _, rfl, by show 3 ≤ sizeLine; decide, fun c1 n_c1 => ⟨by show 3 ≤ sizeLine; decide, fun c2 n_c2 => ⟨_, rfl, by show 3 ≤ sizeLine; decide, fun c3 n_c3 => ⟨by show 4 ≤ sizeLine; decide, fun lc n_lc => ?_⟩⟩⟩⟩⟩
      refine ⟨_, rfl, rdList upd_same (j := 1) rfl rfl ?_⟩
      refine ⟨_, rfl, by show 2 ≤ sizeLine; decide, fun b n_b => ?_⟩
      refine ⟨_, rfl, rfl, .inr ⟨_, rfl, rdList upd_same (j := 0) rfl rfl ?_⟩⟩
      refine ⟨_, rfl, by show 1 ≤ sizeLine; decide, fun u n_u => ⟨_, rfl, by show 1 ≤ sizeLine; decide, fun v n_v => ⟨by show 3 ≤ sizeLine; decide, fun p n_p => ?_⟩⟩⟩
      have R_a0 := Same.upd (o := .tup [.str (PySem.Str.ofString "a"), .non]) n_a0
      have R_a1 := Same.upd (o := .tup [.str z, .non]) n_a1
      have R_a2 := Same.upd (o := .tup [.str (PySem.Str.ofString "a"), .str z]) n_a2
      have R_a3 := Same.upd (o := .tup [.str (PySem.Str.ofString "a"), .non]) n_a3
      have R_la := Same.upd (o := .lst [.ref a0, .ref a1, .ref a2, .ref a3]) n_la
      have R_c0 := Same.upd (o := .tup [.str (PySem.Str.ofString "a"), .str (PySem.Str.ofString "w"), .str (PySem.Str.ofString "a")]) n_c0
      have R_c1 := Same.upd (o := .tup [.str z, .str (PySem.Str.ofString "w"), .str z]) n_c1
      have R_c2 := Same.upd (o := .tup [.str (PySem.Str.ofString "a"), .str (PySem.Str.ofString "w"), .str (PySem.Str.ofString "a")]) n_c2
      have R_c3 := Same.upd (o := .tup [.str (PySem.Str.ofString "a"), .str z, .str (PySem.Str.ofString "a")]) n_c3
      have R_lc := Same.upd (o := .lst [.ref c0, .ref c1, .ref c2, .ref c3]) n_lc
      have R_b := Same.upd (o := .lst [.str (PySem.Str.ofString "b"), .str z]) n_b
      have R_u := Same.upd (o := .tup [.ref a1]) n_u
      have R_v := Same.upd (o := .tup [.ref c1]) n_v
      have R_p := Same.upd (o := .tup [.str (PySem.Str.ofString "b"), .ref u, .ref v]) n_p
      refine k p _ (R_a0.trans (R_a1.trans (R_a2.trans (R_a3.trans (R_la.trans (R_c0.trans (R_c1.trans (R_c2.trans (R_c3.trans (R_lc.trans (R_b.trans (R_u.trans (R_v.trans R_p))))))))))))) ?_
      exact .tup (SqT.of upd_same) (.cons (.str _) (.cons (.tup (SqT.of ((R_v.trans R_p) _ _ (upd_same (o := .tup [.ref a1])))) (.cons (.tup (SqT.of ((R_a2.trans (R_a3.trans (R_la.trans (R_c0.trans (R_c1.trans (R_c2.trans (R_c3.trans (R_lc.trans (R_b.trans (R_u.trans (R_v.trans R_p))))))))))) _ _ (upd_same (o := .tup [.str z, .non])))) (.cons (.str _) (.cons .non .nil))) .nil)) (.cons (.tup (SqT.of (R_p _ _ (upd_same (o := .tup [.ref c1])))) (.cons (.tup (SqT.of ((R_c2.trans (R_c3.trans (R_lc.trans (R_b.trans (R_u.trans (R_v.trans R_p)))))) _ _ (upd_same (o := .tup [.str z, .str (PySem.Str.ofString "w"), .str z])))) (.cons (.str _) (.cons (.str _) (.cons (.str _) .nil)))) .nil)) .nil)))
    · -- door 2
      refine ⟨_, rfl, _, _, rfl, rfl, _, rfl, ?_⟩
      refine ite2 (fun h => absurd (of_decide_eq_true h) (by decide)) (fun _ => ?_)
      refine ⟨by show 2 ≤ sizeLine; decide, fun a0 n_a0 => ⟨_, rfl, by show 2 ≤ sizeLine; decide, fun a1 n_a1 => ⟨_, rfl, by show 2 ≤ sizeLine; decide, fun a2 n_a2 => ⟨by show 2 ≤ sizeLine; decide, fun a3 n_a3 => ⟨by show 4 ≤ sizeLine; decide, fun la n_la => ?_⟩⟩⟩⟩⟩
      refine ⟨_, rfl, rdList upd_same (j := 2) rfl rfl ?_⟩
      refine ⟨by show 3 ≤ sizeLine; decide, fun c0 n_c0 => ⟨_, rfl, _, rfl, by show 3 ≤ sizeLine; decide, fun c1 n_c1 => ⟨by show 3 ≤ sizeLine; decide, fun c2 n_c2 => ⟨_, rfl, by show 3 ≤ sizeLine; decide, fun c3 n_c3 => ⟨by show 4 ≤ sizeLine; decide, fun lc n_lc => ?_⟩⟩⟩⟩⟩
      refine ⟨_, rfl, rdList upd_same (j := 2) rfl rfl ?_⟩
      refine ⟨_, rfl, by show 2 ≤ sizeLine; decide, fun b n_b => ?_⟩
      refine ⟨_, rfl, rfl, .inr ⟨_, rfl, rdList upd_same (j := 0) rfl rfl ?_⟩⟩
      refine ⟨_, rfl, by show 1 ≤ sizeLine; decide, fun u n_u => ⟨_, rfl, by show 1 ≤ sizeLine; decide, fun v n_v => ⟨by show 3 ≤ sizeLine; decide, fun p n_p => ?_⟩⟩⟩
      have R_a0 := Same.upd (o := .tup [.str (PySem.Str.ofString "a"), .non]) n_a0
      have R_a1 := Same.upd (o := .tup [.str z, .non]) n_a1
      have R_a2 := Same.upd (o := .tup [.str (PySem.Str.ofString "a"), .str z]) n_a2
      have R_a3 := Same.upd (o := .tup [.str (PySem.Str.ofString "a"), .non]) n_a3
      have R_la := Same.upd (o := .lst [.ref a0, .ref a1, .ref a2, .ref a3]) n_la
      have R_c0 := Same.upd (o := .tup [.str (PySem.Str.ofString "a"), .str (PySem.Str.ofString "w"), .str (PySem.Str.ofString "a")]) n_c0
      have R_c1 := Same.upd (o := .tup [.str z, .str (PySem.Str.ofString "w"), .str z]) n_c1
      have R_c2 := Same.upd (o := .tup [.str (PySem.Str.ofString "a"), .str (PySem.Str.ofString "w"), .str (PySem.Str.ofString "a")]) n_c2
      have R_c3 := Same.upd (o := .tup [.str (PySem.Str.ofString "a"), .str z, .str (PySem.Str.ofString "a")]) n_c3
      have R_lc := Same.upd (o := .lst [.ref c0, .ref c1, .ref c2, .ref c3]) n_lc
      have R_b := Same.upd (o := .lst [.str (PySem.Str.ofString "b"), .str z]) n_b
      have R_u := Same.upd (o := .tup [.ref a2]) n_u
      have R_v := Same.upd (o := .tup [.ref c2]) n_v
      have R_p := Same.upd (o := .tup [.str (PySem.Str.ofString "b"), .ref u, .ref v]) n_p
      refine k p _ (R_a0.trans (R_a1.trans (R_a2.trans (R_a3.trans (R_la.trans (R_c0.trans (R_c1.trans (R_c2.trans (R_c3.trans (R_lc.trans (R_b.trans (R_u.trans (R_v.trans R_p))))))))))))) ?_
      exact .tup (SqT.of upd_same) (.cons (.str _) (.cons (.tup (SqT.of ((R_v.trans R_p) _ _ (upd_same (o := .tup [.ref a2])))) (.cons (.tup (SqT.of ((R_a3.trans (R_la.trans (R_c0.trans (R_c1.trans (R_c2.trans (R_c3.trans (R_lc.trans (R_b.trans (R_u.trans (R_v.trans R_p)))))))))) _ _ (upd_same (o := .tup [.str (PySem.Str.ofString "a"), .str z])))) (.cons (.str _) (.cons (.str _) .nil))) .nil)) (.cons (.tup (SqT.of (R_p _ _ (upd_same (o := .tup [.ref c2])))) (.cons (.tup (SqT.of ((R_c3.trans (R_lc.trans (R_b.trans (R_u.trans (R_v.trans R_p))))) _ _ (upd_same (o := .tup [.str (PySem.Str.ofString "a"), .str (PySem.Str.ofString "w"), .str (PySem.Str.ofString "a")])))) (.cons (.str _) (.cons (.str _) (.cons (.str _) .nil)))) .nil)) .nil)))
    · -- door 3
      refine ⟨_, rfl, _, _, rfl, rfl, _, rfl, ?_⟩
      refine ite2 (fun h => absurd (of_decide_eq_true h) (by decide)) (fun _ => ?_)
      refine ⟨by show 2 ≤ sizeLine; decide, fun a0 n_a0 => ⟨_, rfl, by show 2 ≤ sizeLine; decide, fun a1 n_a1 => ⟨_, rfl, by show 2 ≤ sizeLine; decide, fun a2 n_a2 => ⟨by show 2 ≤ sizeLine; decide, fun a3 n_a3 => ⟨by show 4 ≤ sizeLine; decide, fun la n_la => ?_⟩⟩⟩⟩⟩
      refine ⟨_, rfl, rdList upd_same (j := 3) rfl rfl ?_⟩
      refine ⟨by show 3 ≤ sizeLine; decide, fun c0 n_c0 => ⟨_, rfl, _, rfl, by show 3 ≤ sizeLine; decide, fun c1 n_c1 => ⟨by show 3 ≤ sizeLine; decide, fun c2 n_c2 => ⟨_, rfl, by show 3 ≤ sizeLine; decide, fun c3 n_c3 => ⟨by show 4 ≤ sizeLine; decide, fun lc n_lc => ?_⟩⟩⟩⟩⟩
      refine ⟨_, rfl, rdList upd_same (j := 3) rfl rfl ?_⟩
      refine ⟨_, rfl, by show 2 ≤ sizeLine; decide, fun b n_b => ?_⟩
      refine ⟨_, rfl, rfl, .inr ⟨_, rfl, rdList upd_same (j := 0) rfl rfl ?_⟩⟩
      refine ⟨_, rfl, by show 1 ≤ sizeLine; decide, fun u n_u => ⟨_, rfl, by show 1 ≤ sizeLine; decide, fun v n_v => ⟨by show 3 ≤ sizeLine; decide, fun p n_p => ?_⟩⟩⟩
      have R_a0 := Same.upd (o := .tup [.str (PySem.Str.ofString "a"), .non]) n_a0
      have R_a1 := Same.upd (o := .tup [.str z, .non]) n_a1
      have R_a2 := Same.upd (o := .tup [.str (PySem.Str.ofString "a"), .str z]) n_a2
      have R_a3 := Same.upd (o := .tup [.str (PySem.Str.ofString "a"), .non]) n_a3
      have R_la := Same.upd (o := .lst [.ref a0, .ref a1, .ref a2, .ref a3]) n_la
      have R_c0 := Same.upd (o := .tup [.str (PySem.Str.ofString "a"), .str (PySem.Str.ofString "w"), .str (PySem.Str.ofString "a")]) n_c0
      have R_c1 := Same.upd (o := .tup [.str z, .str (PySem.Str.ofString "w"), .str z]) n_c1
      have R_c2 := Same.upd (o := .tup [.str (PySem.Str.ofString "a"), .str (PySem.Str.ofString "w"), .str (PySem.Str.ofString "a")]) n_c2
      have R_c3 := Same.upd (o := .tup [.str (PySem.Str.ofString "a"), .str z, .str (PySem.Str.ofString "a")]) n_c3
      have R_lc := Same.upd (o := .lst [.ref c0, .ref c1, .ref c2, .ref c3]) n_lc
      have R_b := Same.upd (o := .lst [.str (PySem.Str.ofString "b"), .str z]) n_b
      have R_u := Same.upd (o := .tup [.ref a3]) n_u
      have R_v := Same.upd (o := .tup [.ref c3]) n_v
      have R_p := Same.upd (o := .tup [.str (PySem.Str.ofString "b"), .ref u, .ref v]) n_p
      refine k p _ (R_a0.trans (R_a1.trans (R_a2.trans (R_a3.trans (R_la.trans (R_c0.trans (R_c1.trans (R_c2.trans (R_c3.trans (R_lc.trans (R_b.trans (R_u.trans (R_v.trans R_p))))))))))))) ?_
      exact .tup (SqT.of upd_same) (.cons (.str _) (.cons (.tup (SqT.of ((R_v.trans R_p) _ _ (upd_same (o := .tup [.ref a3])))) (.cons (.tup (SqT.of ((R_la.trans (R_c0.trans (R_c1.trans (R_c2.trans (R_c3.trans (R_lc.trans (R_b.trans (R_u.trans (R_v.trans R_p))))))))) _ _ (upd_same (o := .tup [.str (PySem.Str.ofString "a"), .non])))) (.cons (.str _) (.cons .non .nil))) .nil)) (.cons (.tup (SqT.of (R_p _ _ (upd_same (o := .tup [.ref c3])))) (.cons (.tup (SqT.of ((R_lc.trans (R_b.trans (R_u.trans (R_v.trans R_p)))) _ _ (upd_same (o := .tup [.str (PySem.Str.ofString "a"), .str z, .str (PySem.Str.ofString "a")])))) (.cons (.str _) (.cons (.str _) (.cons (.str _) .nil)))) .nil)) .nil)))
    · -- door 4
      refine ⟨_, rfl, _, _, rfl, rfl, _, rfl, ?_⟩
      refine ite2 (fun _ => ?_) (fun h => absurd (decide_eq_true (by decide)) h)
      refine ⟨_, rfl, by show 1 ≤ sizeLine; decide, fun a n_a => ?_⟩
      refine ⟨_, rfl, rfl, .inr ⟨_, rfl, a, _, _, rfl, rfl, upd_same, by decide, by decide, by show 1 * 0 ≤ sizeLine; decide, fun w n_w => ?_⟩⟩
      refine ⟨_, rfl, by show 2 ≤ sizeLine; decide, fun b n_b => ?_⟩
      refine ⟨_, rfl, rfl, .inr ⟨_, rfl, rdList upd_same (j := 1) rfl rfl ?_⟩⟩
      refine ⟨_, rfl, by show 2 ≤ sizeLine; decide, fun c n_c => ?_⟩
      refine ⟨_, rfl, rfl, .inr ⟨_, rfl, rdList upd_same (j := 0) rfl rfl ?_⟩⟩
      have R_a := Same.upd (o := .lst [.str z]) n_a
      have R_w := Same.upd (o := .lst []) n_w
      have R_b := Same.upd (o := .lst [.str (PySem.Str.ofString "k"), .str z]) n_b
      have R_c := Same.upd (o := .lst [.str (PySem.Str.ofString "k"), .str z]) n_c
      refine ⟨_, rfl, w, [], rfl, .inl ⟨SqL.of ((R_b.trans R_c) _ _ (upd_same (o := .lst []))), fun u n_u => ?_⟩⟩
      refine ⟨by show 1 ≤ sizeLine; decide, fun v n_v => ⟨by show 4 ≤ sizeLine; decide, fun p n_p => ?_⟩⟩
      have R_u := Same.upd (o := .tup []) n_u
      have R_v := Same.upd (o := .tup [.str (PySem.Str.ofString "v")]) n_v
      have R_p := Same.upd (o := .tup [.str z, .str (PySem.Str.ofString "k"), .ref u, .ref v]) n_p
      refine k p _ (R_a.trans (R_w.trans (R_b.trans (R_c.trans (R_u.trans (R_v.trans R_p)))))) ?_
      exact .tup (SqT.of upd_same) (.cons (.str _) (.cons (.str _) (.cons (.tup (SqT.of ((R_v.trans R_p) _ _ (upd_same (o := .tup [])))) .nil) (.cons (.tup (SqT.of (R_p _ _ (upd_same (o := .tup [.str (PySem.Str.ofString "v")])))) (.cons (.str _) .nil)) .nil))))
    · -- door 5
      refine ⟨_, rfl, _, _, rfl, rfl, _, rfl, ?_⟩
      refine ite2 (fun _ => ?_) (fun h => absurd (decide_eq_true (by decide)) h)
      refine ⟨_, rfl, by show 1 ≤ sizeLine; decide, fun a n_a => ?_⟩
      refine ⟨_, rfl, rfl, .inr ⟨_, rfl, a, _, _, rfl, rfl, upd_same, by decide, by decide, by show 1 * 0 ≤ sizeLine; decide, fun w n_w => ?_⟩⟩
      refine ⟨_, rfl, by show 2 ≤ sizeLine; decide, fun b n_b => ?_⟩
      refine ⟨_, rfl, rfl, .inr ⟨_, rfl, rdList upd_same (j := 0) rfl rfl ?_⟩⟩
      refine ⟨_, rfl, by show 2 ≤ sizeLine; decide, fun c n_c => ?_⟩
      refine ⟨_, rfl, rfl, .inr ⟨_, rfl, rdList upd_same (j := 1) rfl rfl ?_⟩⟩
      have R_a := Same.upd (o := .lst [.str z]) n_a
      have R_w := Same.upd (o := .lst []) n_w
      have R_b := Same.upd (o := .lst [.str (PySem.Str.ofString "k"), .str z]) n_b
      have R_c := Same.upd (o := .lst [.str (PySem.Str.ofString "k"), .str z]) n_c
      refine ⟨_, rfl, w, [], rfl, .inl ⟨SqL.of ((R_b.trans R_c) _ _ (upd_same (o := .lst []))), fun u n_u => ?_⟩⟩
      refine ⟨by show 1 ≤ sizeLine; decide, fun v n_v => ⟨by show 4 ≤ sizeLine; decide, fun p n_p => ?_⟩⟩
      have R_u := Same.upd (o := .tup []) n_u
      have R_v := Same.upd (o := .tup [.str (PySem.Str.ofString "v")]) n_v
      have R_p := Same.upd (o := .tup [.str (PySem.Str.ofString "k"), .str z, .ref u, .ref v]) n_p
      refine k p _ (R_a.trans (R_w.trans (R_b.trans (R_c.trans (R_u.trans (R_v.trans R_p)))))) ?_
      exact .tup (SqT.of upd_same) (.cons (.str _) (.cons (.str _) (.cons (.tup (SqT.of ((R_v.trans R_p) _ _ (upd_same (o := .tup [])))) .nil) (.cons (.tup (SqT.of (R_p _ _ (upd_same (o := .tup [.str (PySem.Str.ofString "v")])))) (.cons (.str _) .nil)) .nil))))
    · -- door 6
      refine ⟨_, rfl, _, _, rfl, rfl, _, rfl, ?_⟩
      refine ite2 (fun _ => ?_) (fun h => absurd (decide_eq_true (by decide)) h)
      refine ⟨_, rfl, by show 1 ≤ sizeLine; decide, fun a n_a => ?_⟩
      refine ⟨_, rfl, rfl, .inr ⟨_, rfl, a, _, _, rfl, rfl, upd_same, by decide, by decide, by show 1 * 1 ≤ sizeLine; decide, fun w n_w => ?_⟩⟩
      refine ⟨_, rfl, by show 2 ≤ sizeLine; decide, fun b n_b => ?_⟩
      refine ⟨_, rfl, rfl, .inr ⟨_, rfl, rdList upd_same (j := 0) rfl rfl ?_⟩⟩
      refine ⟨_, rfl, by show 2 ≤ sizeLine; decide, fun c n_c => ?_⟩
      refine ⟨_, rfl, rfl, .inr ⟨_, rfl, rdList upd_same (j := 0) rfl rfl ?_⟩⟩
      have R_a := Same.upd (o := .lst [.str z]) n_a
      have R_w := Same.upd (o := .lst [.str z]) n_w
      have R_b := Same.upd (o := .lst [.str (PySem.Str.ofString "k"), .str z]) n_b
      have R_c := Same.upd (o := .lst [.str (PySem.Str.ofString "k"), .str z]) n_c
      refine ⟨_, rfl, w, [.str z], rfl, .inl ⟨SqL.of ((R_b.trans R_c) _ _ (upd_same (o := .lst [.str z]))), fun u n_u => ?_⟩⟩
      refine ⟨by show 1 ≤ sizeLine; decide, fun v n_v => ⟨by show 4 ≤ sizeLine; decide, fun p n_p => ?_⟩⟩
      have R_u := Same.upd (o := .tup [.str z]) n_u
      have R_v := Same.upd (o := .tup [.str (PySem.Str.ofString "v")]) n_v
      have R_p := Same.upd (o := .tup [.str (PySem.Str.ofString "k"), .str (PySem.Str.ofString "k"), .ref u, .ref v]) n_p
      refine k p _ (R_a.trans (R_w.trans (R_b.trans (R_c.trans (R_u.trans (R_v.trans R_p)))))) ?_
      exact .tup (SqT.of upd_same) (.cons (.str _) (.cons (.str _) (.cons (.tup (SqT.of ((R_v.trans R_p) _ _ (upd_same (o := .tup [.str z])))) (.cons (.str _) .nil)) (.cons (.tup (SqT.of (R_p _ _ (upd_same (o := .tup [.str (PySem.Str.ofString "v")])))) (.cons (.str _) .nil)) .nil))))
end
end Wm
namespace Wm
open PySem L2 StX
abbrev sLaw : Stmt := top 43
/-- isinstance(e, c) in a suite, e the error that it holds (its class cls, its dict at d) -/
def rIsG (K : PySem.W.Frag) (cls : Value) (d : Option Addr) (a : Addr) : List V → Hp → VK → Prop := fun xs H Q => ∃ (D dd : Addr), cls = .ref D ∧ d = some dd ∧ ExcC K D ∧ rIsX K D a dd xs H Q
theorem call_isG {X : Cx} {a : Addr} {cls : Value} {d : Option Addr} {oe : Obj} {pn : List (Addr × Obj)} (hz : Zc cls d oe) (hf : ∃ vs, oe.data = .fields vs) : CallR (X.suite a ((a, oe) :: pn)) (.builtin "isinstance") (rIsG X.K cls d a) := by
  intro pins s σ H xs us Q I r h
  obtain ⟨D, dd, rfl, rfl, C, h⟩ := h
  exact call_isX C hz hf pins s σ H xs us Q I r h
def tSuite (K : PySem.W.Frag) (C W Tw : Addr) : Addr → Value → Option Addr → TS := fun a cls d => tAsg (tTup (tCons (tC (.str "refused")) (tCons (tXf a cls d C "name" (tVar 6)) (tCons (tCB (rIsG K cls d a) (tCons (tVar 6) (tCons (tC (.ref W)) tNil)))
  (tCons (tCB (rIsG K cls d a) (tCons (tVar 6) (tCons (tC (.ty "ValueError")) tNil))) (tCons (tCB (rIsG K cls d a) (tCons (tVar 6) (tCons (tC (.ref Tw)) tNil))) tNil)))))) (gName 5)
def spLaw (K : PySem.W.Frag) : Sp := fun vs H Q _ => ∃ (a : Addr) (ns : List Int), vs = [.ref a] ∧ SqL K H a (ns.map V.int) ∧ ns.length ≤ 63 ∧ ∀ H', Q (.bl true) H'
/-- what is known of the errors -/
structure TxE (K : PySem.W.Frag) (mg : Str → Option Value) (C W Tw : Addr) : Prop where
  gC : mg "NoName" = some (.ref C)
  gW : mg "WhoError" = some (.ref W)
  gT : mg "Twice" = some (.ref Tw)
  te : PySem.W.exmOne K (.ref C) (.ref C) = some true
  xf : XfC K C
  nf : PySem.W.findIn K (.ref C) "name" = some none
  xc : ExcC K C
  k1 : PySem.W.kitOne K (.ref C) (.ref W) = some true
  k2 : PySem.W.kitOne K (.ref C) (.type "ValueError") = some true
  k3 : PySem.W.kitOne K (.ref C) (.ref Tw) = some false
theorem strOk_of {z : Str} (h : okS z) : PyData.strOk z = true := by
  unfold PyData.strOk
  rw [Array.all_eq_true_iff_forall_mem]
  intro c hc
  exact decide_eq_true (h c (by simpa using hc))
theorem shaped_made {d : Int} {z : Str} (h : okS z) : SeqAt.shaped (.tuple [.str "made", madeD d z]) = true := by
  have hz := strOk_of h
  have ha : PyData.strOk "a" = true := by decide +kernel
  have hb : PyData.strOk "b" = true := by decide +kernel
  have hk : PyData.strOk "k" = true := by decide +kernel
  have hv : PyData.strOk "v" = true := by decide +kernel
  have hw : PyData.strOk "w" = true := by decide +kernel
  have hm : PyData.strOk "made" = true := by decide +kernel
  unfold madeD SeqAt.shaped
  split
  · simp [PyData.canLay0, PyData.canLayAll0, PyData.depth, PyData.depthAll, hz, ha, hb, hk, hv, hw, hm]
  split
  · simp [PyData.canLay0, PyData.canLayAll0, PyData.depth, PyData.depthAll, hz, ha, hb, hk, hv, hw, hm]
  split
  · simp [PyData.canLay0, PyData.canLayAll0, PyData.depth, PyData.depthAll, hz, ha, hb, hk, hv, hw, hm]
  split
  · simp [PyData.canLay0, PyData.canLayAll0, PyData.depth, PyData.depthAll, hz, ha, hb, hk, hv, hw, hm]
  split
  · simp [PyData.canLay0, PyData.canLayAll0, PyData.depth, PyData.depthAll, hz, ha, hb, hk, hv, hw, hm]
  split
  · simp [PyData.canLay0, PyData.canLayAll0, PyData.depth, PyData.depthAll, hz, ha, hb, hk, hv, hw, hm]
  · simp [PyData.canLay0, PyData.canLayAll0, PyData.depth, PyData.depthAll, hz, ha, hb, hk, hv, hw, hm]
def refD (z : Str) : PyData := .tuple [.str "refused", .str z, .bool true, .bool true, .bool false]
theorem shaped_ref {z : Str} (h : okS z) : SeqAt.shaped (refD z) = true := by
  have hz := strOk_of h
  have hr : PyData.strOk "refused" = true := by decide +kernel
  unfold refD SeqAt.shaped
  simp [PyData.canLay0, PyData.canLayAll0, PyData.depth, PyData.depthAll, hz, hr]
mutual
theorem dp_same {K : PySem.W.Frag} {H H' : Hp} (e : Same H H') : ∀ {v : V} {d : PyData}, Dp K H v d → Dp K H' v d
  | _, _, .non => .non
  | _, _, .bl b => .bl b
  | _, _, .int i => .int i
  | _, _, .str z => .str z
  | _, _, .lst h r => .lst (e.seq h) (dpAll_same e r)
  | _, _, .tup h r => .tup (same_seqT e h) (dpAll_same e r)
theorem dpAll_same {K : PySem.W.Frag} {H H' : Hp} (e : Same H H') : ∀ {vs : List V} {ds : List PyData}, DpAll K H vs ds → DpAll K H' vs ds
  | _, _, .nil => .nil
  | _, _, .cons h r => .cons (dp_same e h) (dpAll_same e r)
end
theorem eqv_self {d : PyData} (h : SeqAt.shaped d = true) : PyData.eqv d d = true := SeqAt.eqv_refl d (SeqAt.canLay_of_shaped h)
section
variable {P : Program} {w : World} {K : PySem.W.Frag} {mg : Str → Option Value} {base : Heap}
theorem scLaw : FnScope ["_law_script", "_law_cell", "_law_s", "_law_door", "_law_text_here", "_law_found", "e", "_law_due_here"] ["_law_script"] (defScope sLaw) := ⟨rfl, rfl, rfl, by decide +kernel, rfl, by decide +kernel, by decide +kernel⟩
theorem ok_law {f fS fG fT fL fM fD C W Tw : Addr} {fd dS dG dT dL dM dD : FuncData} (F : Fun K "law" "law" sLaw f fd) (T : TxB mg) (TE : TxE K mg C W Tw) (DS : Dn K mg "_law_state" sState ["_law_cell"] fS dS) (DG : Dn K mg "_law_digit" sDigit ["_law_state_here", "_law_base"] fG dG)
    (DT : Dn K mg "_law_text" sText ["_law_s"] fT dT) (DL : Dn K mg "_law_is_name" sLName ["_law_text_here"] fL dL) (DM : Dn K mg "_law_made" sMade ["_law_door", "_law_text_here"] fM dM) (DD : Dn K mg "_law_due" sDue ["_law_door", "_law_text_here"] fD dD)
    (GT : FnOk P w K mg base CX0 3 fT dT ["_law_s"] spText) (GM : FnOk P w K mg base (L2.CX P w) 8 fM dM ["_law_door", "_law_text_here"] (spMade K C)) : FnOk P w K mg base CX0 9 f fd ["_law_script"] (spLaw K) := by
  have GS : FnOk P w K mg base CX0 1 fS dS _ spState := ok_state DS.F T
  have GG : FnOk P w K mg base CX0 1 fG dG _ spDigit := ok_digit DG.F
  have GL : FnOk P w K mg base CX0 1 fL dL _ spName := ok_lname DL.F T
  have GD : FnOk P w K mg base CX0 1 fD dD _ (spDue K) := ok_due DD.F T
  refine F.ok scLaw (fun vs H Q E h => ?_) (fun cdv A outer s H vs Q E hr h => ?_)
  · obtain ⟨a, ns, rfl, _⟩ := h
    rfl
  · obtain ⟨a, ns, rfl, ha, hn, k⟩ := h
    have hr1 : Room 1 _ := hr.mono (by decide)
    have hr3 : Room 3 _ := hr.mono (by decide)
    refine ⟨_, (pss_cons (ps_for PassesOwn.never rfl (pi_list (pe_slice sl_list (pe_op op_catR (pv 0) (pe_lst (pa_cons pe_int pa_nil))) po_none (po_some pe_int))) (pg_name (i := 1) scLaw.nd rfl (Or.inl rfl)) (pss_cons (ps_set (i := 2) scLaw.nd rfl (Or.inl rfl) (pe_call GS hr1 rfl DS.g DS.F.kp DS.b .nil pass0 (pa_cons (pv 1) pa_nil)))
      (pss_cons (ps_set (i := 3) scLaw.nd rfl (Or.inl rfl) (pe_call GG hr1 rfl DG.g DG.F.kp DG.b .nil pass0 (pa_cons (pv 2) (pa_cons pe_int pa_nil))))
      (pss_cons (ps_set (i := 4) scLaw.nd rfl (Or.inl rfl) (pe_call GT hr3 rfl DT.g DT.F.kp DT.b .nil pass0 (pa_cons (pv 2) pa_nil)))
      (pss_cons (ps_set (i := 5) scLaw.nd rfl (Or.inl rfl) pe_non)
      (pss_cons (ps_try_as (i := 6) (tb := fun W_ => tAsg (tTup (tCons (tC (.str "made")) (tCons (tCallS (spMade K C) (WE W_) (tCons (tVar 3) (tCons (tVar 4) tNil))) tNil))) (gName 5)) (ts := tSuite K C W Tw) (Wout := fun _ _ _ _ => False) rfl rfl scLaw.nd rfl rfl ⟨rfl, by decide, Or.inl TE.gC⟩ takes0 (fun W_ pn xe tk _ => (pss_one (ps_set (i := 5) scLaw.nd rfl (Or.inl rfl) (by exact (pe_tup (pa_cons pe_str (pa_cons (pe_callS GM hr rfl DM.g DM.F.kp DM.b (fun σ => passAt tk σ) (by exact (pa_cons (pv 3) (pa_cons (pv 4) pa_nil)))) pa_nil))))))) (fun a oe cls d pn hz hf => (pss_one (ps_set (i := 5) scLaw.nd rfl (Or.inl rfl) (by exact (pe_tup (pa_cons pe_str (pa_cons (pe_xf TE.xf TE.nf hz hf (pv 6)) (pa_cons (pe_callB (call_isG hz hf) (by rfl) T.isinstance (by decide +kernel) (pa_cons (pv 6) (pa_cons (pe_glob (v := .ref W) (by rfl) TE.gW rfl) pa_nil))) (pa_cons (pe_callB (call_isG hz hf) (by rfl) T.isinstance (by decide +kernel) (pa_cons (pv 6) (pa_cons (pe_bltn (v := .ty "ValueError") (by rfl) T.ve (by decide +kernel) rfl) pa_nil))) (pa_cons (pe_callB (call_isG hz hf) (by rfl) T.isinstance (by decide +kernel) (pa_cons (pv 6) (pa_cons (pe_glob (v := .ref Tw) (by rfl) TE.gT rfl) pa_nil))) pa_nil)))))))))))
      (pss_cons (ps_set (i := 7) scLaw.nd rfl (Or.inl rfl) (pe_tup (pa_cons pe_str (pa_cons (pe_call GD hr1 rfl DD.g DD.F.kp DD.b .nil pass0 (pa_cons (pv 3) (pa_cons (pv 4) pa_nil))) pa_nil))))
      (pss_cons (ps_if (pt_not (pt_val (pe_call GL hr1 rfl DL.g DL.F.kp DL.b .nil pass0 (pa_cons (pv 4) pa_nil)))) (pss_one (ps_set (i := 7) scLaw.nd rfl (Or.inl rfl) (pe_tup (pa_cons pe_str (pa_cons (pv 4) (pa_cons pe_bl (pa_cons pe_bl (pa_cons pe_bl pa_nil)))))))) pss_nil)
      (pss_one (ps_if (pt_cmpR (op_neD hr.units) (pv 5) (pv 7) (nomark _)) (pss_one (ps_ret pe_bl)) pss_nil))))))))))
      (pss_one (ps_ret pe_bl))), ?_⟩
    -- (script + [0])[:40]
    refine ⟨_, rfl, by show 1 ≤ sizeLine; decide, fun l0 n0 => ?_⟩
    have R0 := Same.upd (o := .lst [.int 0]) n0
    refine ⟨a, l0, _, _, rfl, rfl, R0.seq ha, SqL.of upd_same, ?_, fun l1 n1 => ?_⟩
    · rw [List.length_map]
      exact Nat.le_trans (show ns.length + 1 ≤ 1000 by omega) (by decide)
    refine ⟨_, rfl, l1, _, rfl, SqL.of upd_same, fun l2 n2 => ?_⟩
    generalize hH3 : upd (upd (upd H l0 (.lst [.int 0])) l1 (.lst (ns.map V.int ++ [V.int 0]))) l2 (.lst (cutV (ns.map V.int ++ [V.int 0]) none (some 40))) = H3
    have hl2 : H3 l2 = some (.lst ((ns.map V.int ++ [V.int 0]).take 40)) := by
      rw [← hH3, upd_same]
      have e := cut_take (ns.map V.int ++ [V.int 0]) 40
      exact congrArg (fun l => some (HO.lst l)) e
    have S3 : Same H H3 := by
      rw [← hH3]
      exact R0.trans ((Same.upd n1).trans (Same.upd n2))
    refine ⟨l2, rfl, ⟨_, SqL.of hl2⟩, for_list (K := K) (a := l2) (xs := (ns.map V.int ++ [V.int 0]).take 40) (fun i σ H' => (∃ u1 u2 u3 u4 u5 u7, σ = [some (.ref a), u1, u2, u3, u4, u5, none, u7]) ∧ Same H3 H')
      ⟨⟨none, none, none, none, none, none, rfl⟩, Same.refl _⟩ (fun i σ H' _ p => SqL.of (p.2 _ _ hl2)) ?_ (fun σ H' _ => k H')⟩
    rintro i y σ H' hi ⟨⟨u1, u2, u3, u4, u5, u7, rfl⟩, hS⟩
    obtain ⟨c, rfl⟩ : ∃ c, y = V.int c := by
      have hm := List.mem_of_mem_take (List.mem_of_getElem? hi)
      rcases List.mem_append.mp hm with h | h
      · obtain ⟨c, _, rfl⟩ := List.mem_map.mp h
        exact ⟨c, rfl⟩
      · exact ⟨0, List.mem_singleton.mp h⟩
    refine ⟨_, rfl, c, rfl, fun p H4 np S4 st4 => ?_⟩
    refine ⟨_, rfl, p, _, rfl, st4, by decide, by decide, fun d H5 d0 d7 B5 st5 => ?_⟩
    refine ⟨_, rfl, p, rfl, st5, fun z H6 hz ho B6 st6 => ?_⟩
    have S6 : Same H3 H6 := But.same (hS.free np) (hS.trans S4) (B5.trans B6)
    cases hnm : isNm z with
    | true =>
      refine ⟨_, rfl, _, rfl, d, z, rfl, d0, d7, hz, ?_⟩
      rw [if_pos hnm]
      intro p1 H7 S7 dp1
      refine ⟨by show 2 ≤ sizeLine; decide, fun q nq => ?_⟩
      -- due_here = ('made', due(door, text))
      refine ⟨_, rfl, _, rfl, d, z, rfl, d0, d7, fun p2 H8 S8 dp2 => ?_⟩
      refine ⟨by show 2 ≤ sizeLine; decide, fun q2 nq2 => ?_⟩
      refine ⟨_, rfl, z, rfl, by omega, fun H9 S9 => ⟨_, rfl, ?_⟩⟩
      rw [hnm]
      refine iteF ?_
      have Rq := Same.upd (o := .tup [.str "made", .ref p1]) nq
      have Rq2 := Same.upd (o := .tup [.str "made", .ref p2]) nq2
      have S8' := S8.trans (Rq2.trans S9)
      have f1 : Dp K H9 (.ref q) (.tuple [.str "made", madeD d z]) := .tup (SqT.of (S8' _ _ upd_same)) (.cons (.str _) (.cons (dp_same (Rq.trans S8') dp1) .nil))
      have f2 : Dp K H9 (.ref q2) (.tuple [.str "made", madeD d z]) := .tup (SqT.of (S9 _ _ upd_same)) (.cons (.str _) (.cons (dp_same (Rq2.trans S9) dp2) .nil))
      have sh := shaped_made (d := d) ho
      refine ⟨_, rfl, _, rfl, _, _, f1, f2, sh, sh, _, rfl, ?_⟩
      rw [eqv_self sh]
      exact iteF ⟨⟨_, _, _, _, _, _, rfl⟩, S6.trans (S7.trans (Rq.trans S8'))⟩
    | false =>
      refine ⟨_, rfl, _, rfl, d, z, rfl, d0, d7, hz, ?_⟩
      rw [if_neg (by rw [hnm]; decide)]
      intro dd H7 ndd S7 hx
      refine ⟨true, TE.te, fun _ a0 _ => ?_, fun q => Bool.noConfusion q⟩
      refine ⟨_, rfl, rfl, rfl, dd, _, _, rfl, hx, rfl, ?_⟩
      refine ⟨_, rfl, C, dd, rfl, rfl, TE.xc, _, _, _, _, rfl, hx, (fun u r => r), TE.k1, ?_⟩
      refine ⟨_, rfl, C, dd, rfl, rfl, TE.xc, _, _, _, _, rfl, hx, (fun u r => r), TE.k2, ?_⟩
      refine ⟨_, rfl, C, dd, rfl, rfl, TE.xc, _, _, _, _, rfl, hx, (fun u r => r), TE.k3, ?_⟩
      refine ⟨by show 5 ≤ sizeLine; decide, fun q nq => ?_⟩
      refine ⟨_, rfl, _, rfl, d, z, rfl, d0, d7, fun p2 H8 S8 dp2 => ?_⟩
      refine ⟨by show 2 ≤ sizeLine; decide, fun q2 nq2 => ?_⟩
      refine ⟨_, rfl, z, rfl, by omega, fun H9 S9 => ⟨_, rfl, ?_⟩⟩
      rw [hnm]
      refine iteT ?_
      refine ⟨_, rfl, by show 5 ≤ sizeLine; decide, fun q3 nq3 => ?_⟩
      have Rq := Same.upd (o := .tup [.str "refused", .str z, .bl true, .bl true, .bl false]) nq
      have Rq2 := Same.upd (o := .tup [.str "made", .ref p2]) nq2
      have Rq3 := Same.upd (o := .tup [.str "refused", .str z, .bl true, .bl true, .bl false]) nq3
      have S8' := S8.trans (Rq2.trans (S9.trans Rq3))
      have all5 : ∀ {H : Hp}, DpAll K H [.str "refused", .str z, .bl true, .bl true, .bl false] [.str "refused", .str z, .bool true, .bool true, .bool false] := .cons (.str _) (.cons (.str _) (.cons (.bl _) (.cons (.bl _) (.cons (.bl _) .nil))))
      have f1 : Dp K _ (.ref q) (refD z) := .tup (SqT.of (S8' _ _ upd_same)) all5
      have f2 : Dp K (upd H9 q3 (.tup [.str "refused", .str z, .bl true, .bl true, .bl false])) (.ref q3) (refD z) := .tup (SqT.of upd_same) all5
      have sh := shaped_ref ho
      refine ⟨_, rfl, _, rfl, _, _, f1, f2, sh, sh, _, rfl, ?_⟩
      rw [eqv_self sh]
      exact iteF ⟨⟨_, _, _, _, _, _, rfl⟩, S6.trans (S7.trans (Rq.trans S8'))⟩
end
end Wm
namespace Wm
open PySem L2 StX ClX
theorem all_mk {l : PySem.W.OpenLaw} {w : World} {K : PySem.W.Frag} {h : Heap} {mg : Str → Option Value} {fa f0 f1 f2 f3 f4 f5 f6 f7 f8 f9 f10 f11 f12 f13 f14 f15 f16 f17 f18 f19 f20 fC fB fM fW C B M W Tw TD : Addr} (X : K.In h) (G : h.Ns mainGlobals mg) (hfa : mg "law" = some (.ref fa))
    {od0 an0 : Option Addr} {sl0 : Array (Option Value)} {oc0 kV0 dc0 pm0 cd0 ct0 : Value} {od1 an1 : Option Addr} {sl1 : Array (Option Value)} {oc1 kV1 dc1 pm1 cd1 ct1 : Value} {od2 an2 : Option Addr} {sl2 : Array (Option Value)} {oc2 kV2 dc2 pm2 cd2 ct2 : Value} {od3 an3 : Option Addr} {sl3 : Array (Option Value)} {oc3 kV3 dc3 pm3 cd3 ct3 : Value} {od4 an4 : Option Addr} {sl4 : Array (Option Value)} {oc4 kV4 dc4 pm4 cd4 ct4 : Value} {od5 an5 : Option Addr} {sl5 : Array (Option Value)} {oc5 kV5 dc5 pm5 cd5 ct5 : Value} {od6 an6 : Option Addr} {sl6 : Array (Option Value)} {oc6 kV6 dc6 pm6 cd6 ct6 : Value} {od7 an7 : Option Addr} {sl7 : Array (Option Value)} {oc7 kV7 dc7 pm7 cd7 ct7 : Value} {od8 an8 : Option Addr} {sl8 : Array (Option Value)} {oc8 kV8 dc8 pm8 cd8 ct8 : Value} {od9 an9 : Option Addr} {sl9 : Array (Option Value)} {oc9 kV9 dc9 pm9 cd9 ct9 : Value} {od10 an10 : Option Addr} {sl10 : Array (Option Value)} {oc10 kV10 dc10 pm10 cd10 ct10 : Value} {od11 an11 : Option Addr} {sl11 : Array (Option Value)} {oc11 kV11 dc11 pm11 cd11 ct11 : Value} {od12 an12 : Option Addr} {sl12 : Array (Option Value)} {oc12 kV12 dc12 pm12 cd12 ct12 : Value} {od13 an13 : Option Addr} {sl13 : Array (Option Value)} {oc13 kV13 dc13 pm13 cd13 ct13 : Value} {od14 an14 : Option Addr} {sl14 : Array (Option Value)} {oc14 kV14 dc14 pm14 cd14 ct14 : Value} {od15 an15 : Option Addr} {sl15 : Array (Option Value)} {oc15 kV15 dc15 pm15 cd15 ct15 : Value} {od16 an16 : Option Addr} {sl16 : Array (Option Value)} {oc16 kV16 dc16 pm16 cd16 ct16 : Value} {od17 an17 : Option Addr} {sl17 : Array (Option Value)} {oc17 kV17 dc17 pm17 cd17 ct17 : Value} {od18 an18 : Option Addr} {sl18 : Array (Option Value)} {oc18 kV18 dc18 pm18 cd18 ct18 : Value} {od19 an19 : Option Addr} {sl19 : Array (Option Value)} {oc19 kV19 dc19 pm19 cd19 ct19 : Value} {od20 an20 : Option Addr} {sl20 : Array (Option Value)} {oc20 kV20 dc20 pm20 cd20 ct20 : Value} {odC anC : Option Addr} {slC : Array (Option Value)} {ocC kVC dcC pmC cdC ctC : Value} {odB anB : Option Addr} {slB : Array (Option Value)} {ocB kVB dcB pmB cdB ctB : Value} {odM anM : Option Addr} {slM : Array (Option Value)} {ocM kVM dcM pmM cdM ctM : Value} {odW anW : Option Addr} {slW : Array (Option Value)} {ocW kVW dcW pmW cdW ctW : Value} {ocD : Value} {odD : Option Addr} {tD : Tok} {nD : Nat} {slD : Array (Option Value)} {nm q : Str} {N : Addr} {bs : List Value} {sn : List Str} {sub : List Value} {ab : Bool} {col : Option Bool} {dd : Option Addr} {m0 m1 m2 m3 m5 : Option Value} {t_LETTERS : Tok} {t_FIGURES : Tok} {t_LONGEST_NAME : Tok} {t_MOST_VARIABLES : Tok} {t_MOST_CONDITIONS : Tok}
    (a0 : PySem.W.nsIn K mainGlobals "is_name" = some (some (.ref f0)))
    (l0 : K.lookup f0 = some ⟨oc0, od0, .func (PySem.W.fnOf "is_name" "is_name" (defArgs sName) (defBody sName) (defScope sName) .none kV0 dc0 pm0 an0 cd0 ct0), sl0⟩)
    (c0 : PySem.W.codeIn K cd0 "is_name" = true)
    (k0 : PySem.W.keepIn K (.ref f0) = true)
    (a1 : PySem.W.nsIn K mainGlobals "refuse_no_name" = some (some (.ref f1)))
    (l1 : K.lookup f1 = some ⟨oc1, od1, .func (PySem.W.fnOf "refuse_no_name" "refuse_no_name" (defArgs sRN) (defBody sRN) (defScope sRN) .none kV1 dc1 pm1 an1 cd1 ct1), sl1⟩)
    (c1 : PySem.W.codeIn K cd1 "refuse_no_name" = true)
    (k1 : PySem.W.keepIn K (.ref f1) = true)
    (a2 : PySem.W.nsIn K mainGlobals "first_twice" = some (some (.ref f2)))
    (l2 : K.lookup f2 = some ⟨oc2, od2, .func (PySem.W.fnOf "first_twice" "first_twice" (defArgs sFT) (defBody sFT) (defScope sFT) .none kV2 dc2 pm2 an2 cd2 ct2), sl2⟩)
    (c2 : PySem.W.codeIn K cd2 "first_twice" = true)
    (k2 : PySem.W.keepIn K (.ref f2) = true)
    (a3 : PySem.W.nsIn K mainGlobals "refuse_twice" = some (some (.ref f3)))
    (l3 : K.lookup f3 = some ⟨oc3, od3, .func (PySem.W.fnOf "refuse_twice" "refuse_twice" (defArgs sRT) (defBody sRT) (defScope sRT) .none kV3 dc3 pm3 an3 cd3 ct3), sl3⟩)
    (c3 : PySem.W.codeIn K cd3 "refuse_twice" = true)
    (k3 : PySem.W.keepIn K (.ref f3) = true)
    (a4 : PySem.W.nsIn K mainGlobals "refuse_count" = some (some (.ref f4)))
    (l4 : K.lookup f4 = some ⟨oc4, od4, .func (PySem.W.fnOf "refuse_count" "refuse_count" (defArgs sRC) (defBody sRC) (defScope sRC) .none kV4 dc4 pm4 an4 cd4 ct4), sl4⟩)
    (c4 : PySem.W.codeIn K cd4 "refuse_count" = true)
    (k4 : PySem.W.keepIn K (.ref f4) = true)
    (a5 : PySem.W.nsIn K mainGlobals "tuple_of_tuples" = some (some (.ref f5)))
    (l5 : K.lookup f5 = some ⟨oc5, od5, .func (PySem.W.fnOf "tuple_of_tuples" "tuple_of_tuples" (defArgs sTT) (defBody sTT) (defScope sTT) .none kV5 dc5 pm5 an5 cd5 ct5), sl5⟩)
    (c5 : PySem.W.codeIn K cd5 "tuple_of_tuples" = true)
    (k5 : PySem.W.keepIn K (.ref f5) = true)
    (a6 : PySem.W.nsIn K mainGlobals "ends_of" = some (some (.ref f6)))
    (l6 : K.lookup f6 = some ⟨oc6, od6, .func (PySem.W.fnOf "ends_of" "ends_of" (defArgs sEO) (defBody sEO) (defScope sEO) .none kV6 dc6 pm6 an6 cd6 ct6), sl6⟩)
    (c6 : PySem.W.codeIn K cd6 "ends_of" = true)
    (k6 : PySem.W.keepIn K (.ref f6) = true)
    (a7 : PySem.W.nsIn K mainGlobals "texts_of_pattern" = some (some (.ref f7)))
    (l7 : K.lookup f7 = some ⟨oc7, od7, .func (PySem.W.fnOf "texts_of_pattern" "texts_of_pattern" (defArgs sTP) (defBody sTP) (defScope sTP) .none kV7 dc7 pm7 an7 cd7 ct7), sl7⟩)
    (c7 : PySem.W.codeIn K cd7 "texts_of_pattern" = true)
    (k7 : PySem.W.keepIn K (.ref f7) = true)
    (a8 : PySem.W.nsIn K mainGlobals "refuse_no_variable" = some (some (.ref f8)))
    (l8 : K.lookup f8 = some ⟨oc8, od8, .func (PySem.W.fnOf "refuse_no_variable" "refuse_no_variable" (defArgs sRV) (defBody sRV) (defScope sRV) .none kV8 dc8 pm8 an8 cd8 ct8), sl8⟩)
    (c8 : PySem.W.codeIn K cd8 "refuse_no_variable" = true)
    (k8 : PySem.W.keepIn K (.ref f8) = true)
    (a9 : PySem.W.nsIn K mainGlobals "refuse_loose" = some (some (.ref f9)))
    (l9 : K.lookup f9 = some ⟨oc9, od9, .func (PySem.W.fnOf "refuse_loose" "refuse_loose" (defArgs sRL) (defBody sRL) (defScope sRL) .none kV9 dc9 pm9 an9 cd9 ct9), sl9⟩)
    (c9 : PySem.W.codeIn K cd9 "refuse_loose" = true)
    (k9 : PySem.W.keepIn K (.ref f9) = true)
    (a10 : PySem.W.nsIn K mainGlobals "refuse_apart" = some (some (.ref f10)))
    (l10 : K.lookup f10 = some ⟨oc10, od10, .func (PySem.W.fnOf "refuse_apart" "refuse_apart" (defArgs sRA) (defBody sRA) (defScope sRA) .none kV10 dc10 pm10 an10 cd10 ct10), sl10⟩)
    (c10 : PySem.W.codeIn K cd10 "refuse_apart" = true)
    (k10 : PySem.W.keepIn K (.ref f10) = true)
    (a11 : PySem.W.nsIn K mainGlobals "check_pattern" = some (some (.ref f11)))
    (l11 : K.lookup f11 = some ⟨oc11, od11, .func (PySem.W.fnOf "check_pattern" "check_pattern" (defArgs sCP) (defBody sCP) (defScope sCP) .none kV11 dc11 pm11 an11 cd11 ct11), sl11⟩)
    (c11 : PySem.W.codeIn K cd11 "check_pattern" = true)
    (k11 : PySem.W.keepIn K (.ref f11) = true)
    (a12 : PySem.W.nsIn K mainGlobals "_law_state" = some (some (.ref f12)))
    (l12 : K.lookup f12 = some ⟨oc12, od12, .func (PySem.W.fnOf "_law_state" "_law_state" (defArgs sState) (defBody sState) (defScope sState) .none kV12 dc12 pm12 an12 cd12 ct12), sl12⟩)
    (c12 : PySem.W.codeIn K cd12 "_law_state" = true)
    (k12 : PySem.W.keepIn K (.ref f12) = true)
    (a13 : PySem.W.nsIn K mainGlobals "_law_digit" = some (some (.ref f13)))
    (l13 : K.lookup f13 = some ⟨oc13, od13, .func (PySem.W.fnOf "_law_digit" "_law_digit" (defArgs sDigit) (defBody sDigit) (defScope sDigit) .none kV13 dc13 pm13 an13 cd13 ct13), sl13⟩)
    (c13 : PySem.W.codeIn K cd13 "_law_digit" = true)
    (k13 : PySem.W.keepIn K (.ref f13) = true)
    (a14 : PySem.W.nsIn K mainGlobals "_law_sign" = some (some (.ref f14)))
    (l14 : K.lookup f14 = some ⟨oc14, od14, .func (PySem.W.fnOf "_law_sign" "_law_sign" (defArgs sSign) (defBody sSign) (defScope sSign) .none kV14 dc14 pm14 an14 cd14 ct14), sl14⟩)
    (c14 : PySem.W.codeIn K cd14 "_law_sign" = true)
    (k14 : PySem.W.keepIn K (.ref f14) = true)
    (a15 : PySem.W.nsIn K mainGlobals "_law_plain" = some (some (.ref f15)))
    (l15 : K.lookup f15 = some ⟨oc15, od15, .func (PySem.W.fnOf "_law_plain" "_law_plain" (defArgs sPlain) (defBody sPlain) (defScope sPlain) .none kV15 dc15 pm15 an15 cd15 ct15), sl15⟩)
    (c15 : PySem.W.codeIn K cd15 "_law_plain" = true)
    (k15 : PySem.W.keepIn K (.ref f15) = true)
    (a16 : PySem.W.nsIn K mainGlobals "_law_text" = some (some (.ref f16)))
    (l16 : K.lookup f16 = some ⟨oc16, od16, .func (PySem.W.fnOf "_law_text" "_law_text" (defArgs sText) (defBody sText) (defScope sText) .none kV16 dc16 pm16 an16 cd16 ct16), sl16⟩)
    (c16 : PySem.W.codeIn K cd16 "_law_text" = true)
    (k16 : PySem.W.keepIn K (.ref f16) = true)
    (a17 : PySem.W.nsIn K mainGlobals "_law_is_name" = some (some (.ref f17)))
    (l17 : K.lookup f17 = some ⟨oc17, od17, .func (PySem.W.fnOf "_law_is_name" "_law_is_name" (defArgs sLName) (defBody sLName) (defScope sLName) .none kV17 dc17 pm17 an17 cd17 ct17), sl17⟩)
    (c17 : PySem.W.codeIn K cd17 "_law_is_name" = true)
    (k17 : PySem.W.keepIn K (.ref f17) = true)
    (a18 : PySem.W.nsIn K mainGlobals "_law_made" = some (some (.ref f18)))
    (l18 : K.lookup f18 = some ⟨oc18, od18, .func (PySem.W.fnOf "_law_made" "_law_made" (defArgs sMade) (defBody sMade) (defScope sMade) .none kV18 dc18 pm18 an18 cd18 ct18), sl18⟩)
    (c18 : PySem.W.codeIn K cd18 "_law_made" = true)
    (k18 : PySem.W.keepIn K (.ref f18) = true)
    (a19 : PySem.W.nsIn K mainGlobals "_law_due" = some (some (.ref f19)))
    (l19 : K.lookup f19 = some ⟨oc19, od19, .func (PySem.W.fnOf "_law_due" "_law_due" (defArgs sDue) (defBody sDue) (defScope sDue) .none kV19 dc19 pm19 an19 cd19 ct19), sl19⟩)
    (c19 : PySem.W.codeIn K cd19 "_law_due" = true)
    (k19 : PySem.W.keepIn K (.ref f19) = true)
    (a20 : PySem.W.nsIn K mainGlobals "law" = some (some (.ref f20)))
    (l20 : K.lookup f20 = some ⟨oc20, od20, .func (PySem.W.fnOf "law" "law" (defArgs sLaw) (defBody sLaw) (defScope sLaw) .none kV20 dc20 pm20 an20 cd20 ct20), sl20⟩)
    (c20 : PySem.W.codeIn K cd20 "law" = true)
    (k20 : PySem.W.keepIn K (.ref f20) = true)
    (gC : PySem.W.nsIn K mainGlobals "NoName" = some (some (.ref C)))
    (iC : PySem.W.findIn K (.ref C) "__init__" = some (some (.ref fC)))
    (lC : K.lookup fC = some ⟨ocC, odC, .func (PySem.W.fnOf "__init__" "NoName.__init__" (defArgs sN0) (defBody sN0) (defScope sN0) .none kVC dcC pmC anC cdC ctC), slC⟩)
    (cC : PySem.W.codeIn K cdC "NoName.__init__" = true)
    (kC : PySem.W.keepIn K (.ref fC) = true)
    (gB : PySem.W.nsIn K mainGlobals "Bar" = some (some (.ref B)))
    (iB : PySem.W.findIn K (.ref B) "__init__" = some (some (.ref fB)))
    (lB : K.lookup fB = some ⟨ocB, odB, .func (PySem.W.fnOf "__init__" "Bar.__init__" (defArgs sBar) (defBody sBar) (defScope sBar) .none kVB dcB pmB anB cdB ctB), slB⟩)
    (cB : PySem.W.codeIn K cdB "Bar.__init__" = true)
    (kB : PySem.W.keepIn K (.ref fB) = true)
    (gM : PySem.W.nsIn K mainGlobals "Making" = some (some (.ref M)))
    (iM : PySem.W.findIn K (.ref M) "__init__" = some (some (.ref fM)))
    (lM : K.lookup fM = some ⟨ocM, odM, .func (PySem.W.fnOf "__init__" "Making.__init__" (defArgs sMak) (defBody sMak) (defScope sMak) .none kVM dcM pmM anM cdM ctM), slM⟩)
    (cM : PySem.W.codeIn K cdM "Making.__init__" = true)
    (kM : PySem.W.keepIn K (.ref fM) = true)
    (gW : PySem.W.nsIn K mainGlobals "WhoError" = some (some (.ref W)))
    (gT : PySem.W.nsIn K mainGlobals "Twice" = some (some (.ref Tw)))
    (mW : PySem.W.findCls K (.ref W) (.type "type") "__init__" = some (.val (.ref fW)))
    (lW : K.lookup fW = some ⟨ocW, odW, .func (PySem.W.fnOf "__init__" "WhoError.__init__" (defArgs sW0) (defBody sW0) (defScope sW0) (.ref TD) kVW dcW pmW anW cdW ctW), slW⟩)
    (cW : PySem.W.codeIn K cdW "WhoError.__init__" = true)
    (kW : PySem.W.keepIn K (.ref fW) = true)
    (dW : K.lookup TD = some ⟨ocD, odD, .seq #[.str (PySem.Str.ofString "whoerror") tD] nD, slD⟩)
    (rW : PySem.W.readsIn K W (.type "type") = true)
    (sW : PySem.W.specialIn K (.ref W) "__getattribute__" = some (some (.builtin "type.__getattribute__")))
    (xC : K.lookup C = some (excClassObj nm q C N bs (.ref W :: [.type "ValueError", .type "Exception", .type "BaseException", .type "object"]) true sn sub ab col dd m0 m1 m2 m3 m5 "ValueError.__new__"))
    (saC : PySem.W.findIn K (.ref C) "__setattr__" = some (some (.builtin "object.__setattr__")))
    (exC : PySem.W.subIn K (.ref C) (.type "BaseException") = some true)
    (tyC : PySem.W.typeIn K (.ref C) = some (.type "type"))
    (kpC : PySem.W.keepIn K (.ref C) = true)
    (tI : PySem.W.typeIn K (.ref fC) = some (.type "function"))
    (nkC : PySem.W.findIn K (.ref C) "kind" = some none)
    (nnC : PySem.W.findIn K (.ref C) "name" = some none)
    (gaC : PySem.W.findIn K (.ref C) "__getattribute__" = some (some (.builtin "BaseException.__getattribute__")))
    (ggC : PySem.W.findIn K (.ref C) "__getattr__" = some none)
    (hdC : PySem.W.hasDictIn K C = true)
    (clC : PySem.W.findIn K (.ref C) "__class__" = some (some (.builtin "object.__class__")))
    (hnC : PySem.W.specialIn K (.builtin "object.__class__") "__get__" = some (some (.builtin "getset_descriptor.__get__")))
    (htC : PySem.W.takesIn K (.builtin "object.__class__") = some true)
    (hmC : PySem.W.mroIn K C (.type "object") = some true)
    (sCC : PySem.W.subIn K (.ref C) (.ref C) = some true)
    (q1 : PySem.W.kitOne K (.ref C) (.ref W) = some true)
    (q2 : PySem.W.kitOne K (.ref C) (.type "ValueError") = some true)
    (q3 : PySem.W.kitOne K (.ref C) (.ref Tw) = some false)
    (pgB : PySem.W.plainGet K B Str.empty = true)
    (hdB : PySem.W.hasDictIn K B = true)
    (poB : PySem.W.plainOver K B = true)
    (saB : PySem.W.findIn K (.ref B) "__setattr__" = some (some (.builtin "object.__setattr__")))
    (mkB : PySem.W.makesIn K B = true)
    (fnB : PySem.W.isFn K (.ref fB) = true)
    (kpB : PySem.W.keepIn K (.ref B) = true)
    (pgM : PySem.W.plainGet K M Str.empty = true)
    (hdM : PySem.W.hasDictIn K M = true)
    (poM : PySem.W.plainOver K M = true)
    (saM : PySem.W.findIn K (.ref M) "__setattr__" = some (some (.builtin "object.__setattr__")))
    (mkM : PySem.W.makesIn K M = true)
    (fnM : PySem.W.isFn K (.ref fM) = true)
    (kpM : PySem.W.keepIn K (.ref M) = true)
    (nB_name : PySem.W.findIn K (.ref B) "name" = some none)
    (nB_variables : PySem.W.findIn K (.ref B) "variables" = some none)
    (nB_conditions : PySem.W.findIn K (.ref B) "conditions" = some none)
    (nM_maker : PySem.W.findIn K (.ref M) "maker" = some none)
    (nM_made : PySem.W.findIn K (.ref M) "made" = some none)
    (nM_down : PySem.W.findIn K (.ref M) "down" = some none)
    (nM_up : PySem.W.findIn K (.ref M) "up" = some none)
    (z_abs : PySem.W.nsIn K mainGlobals "abs" = some none)
    (z_int : PySem.W.nsIn K mainGlobals "int" = some none)
    (z_len : PySem.W.nsIn K mainGlobals "len" = some none)
    (z_range : PySem.W.nsIn K mainGlobals "range" = some none)
    (z_all : PySem.W.nsIn K mainGlobals "all" = some none)
    (z_tuple : PySem.W.nsIn K mainGlobals "tuple" = some none)
    (z_enumerate : PySem.W.nsIn K mainGlobals "enumerate" = some none)
    (z_isinstance : PySem.W.nsIn K mainGlobals "isinstance" = some none)
    (z_ve : PySem.W.nsIn K mainGlobals "ValueError" = some none)
    (v_LETTERS : PySem.W.nsIn K mainGlobals "LETTERS" = some (some (.str (PySem.Str.ofString "abcdefghijklmnopqrstuvwxyz") t_LETTERS)))
    (v_FIGURES : PySem.W.nsIn K mainGlobals "FIGURES" = some (some (.str (PySem.Str.ofString "0123456789") t_FIGURES)))
    (v_LONGEST_NAME : PySem.W.nsIn K mainGlobals "LONGEST_NAME" = some (some (.int 12 t_LONGEST_NAME)))
    (v_MOST_VARIABLES : PySem.W.nsIn K mainGlobals "MOST_VARIABLES" = some (some (.int 4 t_MOST_VARIABLES)))
    (v_MOST_CONDITIONS : PySem.W.nsIn K mainGlobals "MOST_CONDITIONS" = some (some (.int 3 t_MOST_CONDITIONS))) :
    ∃ fd : FuncData, (∀ (s : Shared) (v : Value), BindsTo s fd ⟨[v], []⟩ [("_law_script", v)]) ∧ ∀ base : Heap, K.In base → base.Ns mainGlobals mg → FnOk l.prog w K mg base CX0 9 fa fd ["_law_script"] (spLaw K) := by
  have e := hfa.symm.trans (PySem.W.mg_of X G a20)
  cases e
  have T : TxB mg := ⟨PySem.W.mg_none_of X G z_abs, PySem.W.mg_none_of X G z_int, PySem.W.mg_none_of X G z_len, PySem.W.mg_none_of X G z_range, PySem.W.mg_none_of X G z_all, PySem.W.mg_none_of X G z_tuple, PySem.W.mg_none_of X G z_enumerate, PySem.W.mg_none_of X G z_isinstance, PySem.W.mg_none_of X G z_ve⟩
  have TN : TxN mg := ⟨⟨_, PySem.W.mg_of X G v_LETTERS⟩, ⟨_, PySem.W.mg_of X G v_FIGURES⟩, ⟨_, PySem.W.mg_of X G v_LONGEST_NAME⟩⟩
  have TP : TxP mg := ⟨⟨_, PySem.W.mg_of X G v_MOST_VARIABLES⟩, ⟨_, PySem.W.mg_of X G v_MOST_CONDITIONS⟩⟩
  have F0 := fun_mk (st := sName) l0 c0 k0
  have D0 : Dn K mg "is_name" sName ["text"] f0 _ := ⟨F0, PySem.W.mg_of X G a0, F0.binds (ps := ["text"]) fun _ _ _ _ _ _ us hl => match us, hl with | [_], _ => rfl⟩
  have F1 := fun_mk (st := sRN) l1 c1 k1
  have D1 : Dn K mg "refuse_no_name" sRN ["texts"] f1 _ := ⟨F1, PySem.W.mg_of X G a1, F1.binds (ps := ["texts"]) fun _ _ _ _ _ _ us hl => match us, hl with | [_], _ => rfl⟩
  have F2 := fun_mk (st := sFT) l2 c2 k2
  have D2 : Dn K mg "first_twice" sFT ["row"] f2 _ := ⟨F2, PySem.W.mg_of X G a2, F2.binds (ps := ["row"]) fun _ _ _ _ _ _ us hl => match us, hl with | [_], _ => rfl⟩
  have F3 := fun_mk (st := sRT) l3 c3 k3
  have D3 : Dn K mg "refuse_twice" sRT ["names"] f3 _ := ⟨F3, PySem.W.mg_of X G a3, F3.binds (ps := ["names"]) fun _ _ _ _ _ _ us hl => match us, hl with | [_], _ => rfl⟩
  have F4 := fun_mk (st := sRC) l4 c4 k4
  have D4 : Dn K mg "refuse_count" sRC ["what", "count", "least", "most"] f4 _ := ⟨F4, PySem.W.mg_of X G a4, F4.binds (ps := ["what", "count", "least", "most"]) fun _ _ _ _ _ _ us hl => match us, hl with | [_, _, _, _], _ => rfl⟩
  have F5 := fun_mk (st := sTT) l5 c5 k5
  have D5 : Dn K mg "tuple_of_tuples" sTT ["rows"] f5 _ := ⟨F5, PySem.W.mg_of X G a5, F5.binds (ps := ["rows"]) fun _ _ _ _ _ _ us hl => match us, hl with | [_], _ => rfl⟩
  have F6 := fun_mk (st := sEO) l6 c6 k6
  have D6 : Dn K mg "ends_of" sEO ["triples"] f6 _ := ⟨F6, PySem.W.mg_of X G a6, F6.binds (ps := ["triples"]) fun _ _ _ _ _ _ us hl => match us, hl with | [_], _ => rfl⟩
  have F7 := fun_mk (st := sTP) l7 c7 k7
  have D7 : Dn K mg "texts_of_pattern" sTP ["name", "variables", "triples"] f7 _ := ⟨F7, PySem.W.mg_of X G a7, F7.binds (ps := ["name", "variables", "triples"]) fun _ _ _ _ _ _ us hl => match us, hl with | [_, _, _], _ => rfl⟩
  have F8 := fun_mk (st := sRV) l8 c8 k8
  have D8 : Dn K mg "refuse_no_variable" sRV ["names", "texts"] f8 _ := ⟨F8, PySem.W.mg_of X G a8, F8.binds (ps := ["names", "texts"]) fun _ _ _ _ _ _ us hl => match us, hl with | [_, _], _ => rfl⟩
  have F9 := fun_mk (st := sRL) l9 c9 k9
  have D9 : Dn K mg "refuse_loose" sRL ["names", "conditions"] f9 _ := ⟨F9, PySem.W.mg_of X G a9, F9.binds (ps := ["names", "conditions"]) fun _ _ _ _ _ _ us hl => match us, hl with | [_, _], _ => rfl⟩
  have F10 := fun_mk (st := sRA) l10 c10 k10
  have D10 : Dn K mg "refuse_apart" sRA ["conditions"] f10 _ := ⟨F10, PySem.W.mg_of X G a10, F10.binds (ps := ["conditions"]) fun _ _ _ _ _ _ us hl => match us, hl with | [_], _ => rfl⟩
  have F11 := fun_mk (st := sCP) l11 c11 k11
  have D11 : Dn K mg "check_pattern" sCP ["name", "variables", "conditions", "given", "hands"] f11 _ := ⟨F11, PySem.W.mg_of X G a11, F11.binds (ps := ["name", "variables", "conditions", "given", "hands"]) fun _ _ _ _ _ _ us hl => match us, hl with | [_, _, _, _, _], _ => rfl⟩
  have F12 := fun_mk (st := sState) l12 c12 k12
  have D12 : Dn K mg "_law_state" sState ["_law_cell"] f12 _ := ⟨F12, PySem.W.mg_of X G a12, F12.binds (ps := ["_law_cell"]) fun _ _ _ _ _ _ us hl => match us, hl with | [_], _ => rfl⟩
  have F13 := fun_mk (st := sDigit) l13 c13 k13
  have D13 : Dn K mg "_law_digit" sDigit ["_law_state_here", "_law_base"] f13 _ := ⟨F13, PySem.W.mg_of X G a13, F13.binds (ps := ["_law_state_here", "_law_base"]) fun _ _ _ _ _ _ us hl => match us, hl with | [_, _], _ => rfl⟩
  have F14 := fun_mk (st := sSign) l14 c14 k14
  have D14 : Dn K mg "_law_sign" sSign ["_law_x"] f14 _ := ⟨F14, PySem.W.mg_of X G a14, F14.binds (ps := ["_law_x"]) fun _ _ _ _ _ _ us hl => match us, hl with | [_], _ => rfl⟩
  have F15 := fun_mk (st := sPlain) l15 c15 k15
  have D15 : Dn K mg "_law_plain" sPlain ["_law_s", "_law_many"] f15 _ := ⟨F15, PySem.W.mg_of X G a15, F15.binds (ps := ["_law_s", "_law_many"]) fun _ _ _ _ _ _ us hl => match us, hl with | [_, _], _ => rfl⟩
  have F16 := fun_mk (st := sText) l16 c16 k16
  have D16 : Dn K mg "_law_text" sText ["_law_s"] f16 _ := ⟨F16, PySem.W.mg_of X G a16, F16.binds (ps := ["_law_s"]) fun _ _ _ _ _ _ us hl => match us, hl with | [_], _ => rfl⟩
  have F17 := fun_mk (st := sLName) l17 c17 k17
  have D17 : Dn K mg "_law_is_name" sLName ["_law_text_here"] f17 _ := ⟨F17, PySem.W.mg_of X G a17, F17.binds (ps := ["_law_text_here"]) fun _ _ _ _ _ _ us hl => match us, hl with | [_], _ => rfl⟩
  have F18 := fun_mk (st := sMade) l18 c18 k18
  have D18 : Dn K mg "_law_made" sMade ["_law_door", "_law_text_here"] f18 _ := ⟨F18, PySem.W.mg_of X G a18, F18.binds (ps := ["_law_door", "_law_text_here"]) fun _ _ _ _ _ _ us hl => match us, hl with | [_, _], _ => rfl⟩
  have F19 := fun_mk (st := sDue) l19 c19 k19
  have D19 : Dn K mg "_law_due" sDue ["_law_door", "_law_text_here"] f19 _ := ⟨F19, PySem.W.mg_of X G a19, F19.binds (ps := ["_law_door", "_law_text_here"]) fun _ _ _ _ _ _ us hl => match us, hl with | [_, _], _ => rfl⟩
  have F20 := fun_mk (st := sLaw) l20 c20 k20
  have FC := fun_mk (st := sN0) lC cC kC
  have bC := FC.binds (ps := ["self", "name"]) fun _ _ _ _ _ _ us hl => match us, hl with | [_, _], _ => rfl
  have FB := fun_mk (st := sBar) lB cB kB
  have bB := FB.binds (ps := ["self", "name", "variables", "conditions"]) fun _ _ _ _ _ _ us hl => match us, hl with | [_, _, _, _], _ => rfl
  have FM := fun_mk (st := sMak) lM cM kM
  have bM := FM.binds (ps := ["self", "maker", "made", "down", "up"]) fun _ _ _ _ _ _ us hl => match us, hl with | [_, _, _, _, _], _ => rfl
  have FW : FunD K "__init__" "WhoError.__init__" (defArgs sW0) (defBody sW0) (defScope sW0) [.str (PySem.Str.ofString "whoerror")] [] fW _ :=
    ⟨⟨_, _, _, _, _, _, _, _, _, _, rfl, lW, cW, .inr ⟨by simp, TD, _, [.str (PySem.Str.ofString "whoerror") tD], nD, rfl, dW, rfl, .cons ⟨_, rfl⟩ .nil⟩, .inl rfl⟩, kW⟩
  obtain ⟨ds, hds, bW⟩ := FW.binds1 (ps := ["self", "kind"]) 2 1 (by simp) (by rfl) (fun T kV doc pm an cdv ct us its hu hi => match us, hu, its, hi with | [_, _], _, [_], _ => ⟨_, rfl, rfl⟩)
  cases hds
  have TW : WhoT K mg W fW _ := ⟨PySem.W.mg_of X G gW, ⟨rW, sW⟩, mW, kW, bW⟩
  have ox : OexC K C := ⟨⟨_, _, _, _, _, _, _, _, _, _, _, _, _, _, _, xC, by rfl⟩, saC, exC, tyC, kpC⟩
  have TR : ErrT K mg "NoName" "name" C fC := ⟨ox, PySem.W.mg_of X G gC, iC, tI, nkC, nnC⟩
  have TE : TxE K mg C W Tw := ⟨PySem.W.mg_of X G gC, PySem.W.mg_of X G gW, PySem.W.mg_of X G gT, PySem.W.exm_ref exC hdC tyC sCC, ⟨gaC, ggC, exC, hdC⟩, nnC, ⟨gaC, ggC, exC, hdC, clC, hnC, htC, hmC⟩, q1, q2, q3⟩
  have TB : TxBar K mg B fB := ⟨⟨pgB, hdB, poB, saB⟩, nB_name, nB_variables, nB_conditions, PySem.W.mg_of X G gB, ⟨mkB, iB, fnB, kpB⟩⟩
  have TM : TxMak K mg M fM := ⟨⟨pgM, hdM, poM, saM⟩, nM_maker, nM_made, nM_down, nM_up, PySem.W.mg_of X G gM, ⟨mkM, iM, fnM, kpM⟩⟩
  refine ⟨PySem.W.fnOf "law" "law" (defArgs sLaw) (defBody sLaw) (defScope sLaw) .none kV20 dc20 pm20 an20 cd20 ct20, fun s v => .of_eq rfl, fun base _ _ => ?_⟩
  have GI : FnOk l.prog w K mg base CX0 2 fC _ ["self", "name"] (spE1 C "name" "noname") := ok_noname FC TR TW (ok_who FW)
  have GRN : FnOk l.prog w K mg base (L2.CX l.prog w) 4 _ _ ["texts"] (spRN K C) := ok_rn F1 D0 (ok_name F0 T TN) TR bC GI
  have GRT : FnOk l.prog w K mg base CX0 2 _ _ ["names"] (spFT K) := ok_rt F3 T D2
  have GCP : FnOk l.prog w K mg base (L2.CX l.prog w) 5 _ _ ["name", "variables", "conditions", "given", "hands"] (spCP K C) := ok_cp F11 T TP D4 D1 D7 D3 D8 D6 D9 D10 GRN GRT
  have GB : FnOk l.prog w K mg base (L2.CX l.prog w) 6 fB _ ["self", "name", "variables", "conditions"] (spBar K C B) := ok_bar FB T TB D5 D11 GCP
  have GM : FnOk l.prog w K mg base (L2.CX l.prog w) 5 fM _ ["self", "maker", "made", "down", "up"] (spMak K C M) := ok_mak FM T TM D1 D3 GRN GRT
  have GMa : FnOk l.prog w K mg base (L2.CX l.prog w) 8 _ _ ["_law_door", "_law_text_here"] (spMade K C) := ok_made F18 T TB TM bB bM GB GM
  have GT : FnOk l.prog w K mg base CX0 3 _ _ ["_law_s"] spText := ok_text F16 T D13 D14 D15
  exact ok_law F20 T TE D12 D13 D16 D17 D18 D19 GT GMa
end Wm
open PySem PySem.W PyProof.Rows in
set_option maxRecDepth 100000 in
set_option maxHeartbeats 0 in
theorem PySem.Challenge.cw_whomay_k01_names_holds : PySem.Challenge.rw_whomay_k01_names.Holds := by
  w_on; o_law; k_head; (case hw => w_witness2)
  k_fill
  refine L2.walk_of (n := 63) (k := 9) (x := "_law_script") (CX := fun _ => L2.CX0) (sp := fun w => Wm.spLaw _) (l := PySem.Challenge.rw_whomay_k01_names) rfl (by decide) rfl ⟨rfl, by decide, by decide⟩ (fun w h Y => PySem.W.kIn_of Y) ?F (fun _ _ a ns hl _ hS => ⟨a, ns, rfl, hS, hl, fun _ => rfl⟩) fun _ _ _ _ _ z => z
  case F =>
    intro w mg fa h KX G hmg
    refine' Wm.all_mk KX G hmg ?a0 ?l0 ?c0 ?k0 ?a1 ?l1 ?c1 ?k1 ?a2 ?l2 ?c2 ?k2 ?a3 ?l3 ?c3 ?k3 ?a4 ?l4 ?c4 ?k4 ?a5 ?l5 ?c5 ?k5 ?a6 ?l6 ?c6 ?k6 ?a7 ?l7 ?c7 ?k7 ?a8 ?l8 ?c8 ?k8 ?a9 ?l9 ?c9 ?k9 ?a10 ?l10 ?c10 ?k10 ?a11 ?l11 ?c11 ?k11 ?a12 ?l12 ?c12 ?k12 ?a13 ?l13 ?c13 ?k13 ?a14 ?l14 ?c14 ?k14 ?a15 ?l15 ?c15 ?k15 ?a16 ?l16 ?c16 ?k16 ?a17 ?l17 ?c17 ?k17 ?a18 ?l18 ?c18 ?k18 ?a19 ?l19 ?c19 ?k19 ?a20 ?l20 ?c20 ?k20 ?gC ?iC ?lC ?cC ?kC ?gB ?iB ?lB ?cB ?kB ?gM ?iM ?lM ?cM ?kM ?gW ?gT ?mW ?lW ?cW ?kW ?dW ?rW ?sW ?xC ?saC ?exC ?tyC ?kpC ?tI ?nkC ?nnC ?gaC ?ggC ?hdC ?clC ?hnC ?htC ?hmC ?sCC ?q1 ?q2 ?q3 ?pgB ?hdB ?poB ?saB ?mkB ?fnB ?kpB ?pgM ?hdM ?poM ?saM ?mkM ?fnM ?kpM ?nB_name ?nB_variables ?nB_conditions ?nM_maker ?nM_made ?nM_down ?nM_up ?z_abs ?z_int ?z_len ?z_range ?z_all ?z_tuple ?z_enumerate ?z_isinstance ?z_ve ?v_LETTERS ?v_FIGURES ?v_LONGEST_NAME ?v_MOST_VARIABLES ?v_MOST_CONDITIONS
    (case a0 => k_is)
    (case l0 => k_is)
    (case c0 => k_is)
    (case k0 => k_is)
    (case a1 => k_is)
    (case l1 => k_is)
    (case c1 => k_is)
    (case k1 => k_is)
    (case a2 => k_is)
    (case l2 => k_is)
    (case c2 => k_is)
    (case k2 => k_is)
    (case a3 => k_is)
    (case l3 => k_is)
    (case c3 => k_is)
    (case k3 => k_is)
    (case a4 => k_is)
    (case l4 => k_is)
    (case c4 => k_is)
    (case k4 => k_is)
    (case a5 => k_is)
    (case l5 => k_is)
    (case c5 => k_is)
    (case k5 => k_is)
    (case a6 => k_is)
    (case l6 => k_is)
    (case c6 => k_is)
    (case k6 => k_is)
    (case a7 => k_is)
    (case l7 => k_is)
    (case c7 => k_is)
    (case k7 => k_is)
    (case a8 => k_is)
    (case l8 => k_is)
    (case c8 => k_is)
    (case k8 => k_is)
    (case a9 => k_is)
    (case l9 => k_is)
    (case c9 => k_is)
    (case k9 => k_is)
    (case a10 => k_is)
    (case l10 => k_is)
    (case c10 => k_is)
    (case k10 => k_is)
    (case a11 => k_is)
    (case l11 => k_is)
    (case c11 => k_is)
    (case k11 => k_is)
    (case a12 => k_is)
    (case l12 => k_is)
    (case c12 => k_is)
    (case k12 => k_is)
    (case a13 => k_is)
    (case l13 => k_is)
    (case c13 => k_is)
    (case k13 => k_is)
    (case a14 => k_is)
    (case l14 => k_is)
    (case c14 => k_is)
    (case k14 => k_is)
    (case a15 => k_is)
    (case l15 => k_is)
    (case c15 => k_is)
    (case k15 => k_is)
    (case a16 => k_is)
    (case l16 => k_is)
    (case c16 => k_is)
    (case k16 => k_is)
    (case a17 => k_is)
    (case l17 => k_is)
    (case c17 => k_is)
    (case k17 => k_is)
    (case a18 => k_is)
    (case l18 => k_is)
    (case c18 => k_is)
    (case k18 => k_is)
    (case a19 => k_is)
    (case l19 => k_is)
    (case c19 => k_is)
    (case k19 => k_is)
    (case a20 => k_is)
    (case l20 => k_is)
    (case c20 => k_is)
    (case k20 => k_is)
    (case gC => k_is)
    (case iC => k_is)
    (case lC => k_is)
    (case cC => k_is)
    (case kC => k_is)
    (case gB => k_is)
    (case iB => k_is)
    (case lB => k_is)
    (case cB => k_is)
    (case kB => k_is)
    (case gM => k_is)
    (case iM => k_is)
    (case lM => k_is)
    (case cM => k_is)
    (case kM => k_is)
    (case gW => k_is)
    (case gT => k_is)
    (case mW => k_is)
    (case lW => k_is)
    (case cW => k_is)
    (case kW => k_is)
    (case dW => k_is)
    (case rW => k_is)
    (case sW => k_is)
    (case xC => k_is)
    (case saC => k_is)
    (case exC => k_is)
    (case tyC => k_is)
    (case kpC => k_is)
    (case tI => k_is)
    (case nkC => k_is)
    (case nnC => k_is)
    (case gaC => k_is)
    (case ggC => k_is)
    (case hdC => k_is)
    (case clC => k_is)
    (case hnC => k_is)
    (case htC => k_is)
    (case hmC => k_is)
    (case sCC => first | rfl | k_is)
    (case q1 => first | k_is | kit_is)
    (case q2 => first | k_is | kit_is)
    (case q3 => first | k_is | kit_is)
    (case pgB => k_is)
    (case hdB => k_is)
    (case poB => k_is)
    (case saB => k_is)
    (case mkB => k_is)
    (case fnB => k_is)
    (case kpB => k_is)
    (case pgM => k_is)
    (case hdM => k_is)
    (case poM => k_is)
    (case saM => k_is)
    (case mkM => k_is)
    (case fnM => k_is)
    (case kpM => k_is)
    (case nB_name => k_is)
    (case nB_variables => k_is)
    (case nB_conditions => k_is)
    (case nM_maker => k_is)
    (case nM_made => k_is)
    (case nM_down => k_is)
    (case nM_up => k_is)
    (case z_abs => k_is)
    (case z_int => k_is)
    (case z_len => k_is)
    (case z_range => k_is)
    (case z_all => k_is)
    (case z_tuple => k_is)
    (case z_enumerate => k_is)
    (case z_isinstance => k_is)
    (case z_ve => k_is)
    (case v_LETTERS => k_is)
    (case v_FIGURES => k_is)
    (case v_LONGEST_NAME => k_is)
    (case v_MOST_VARIABLES => k_is)
    (case v_MOST_CONDITIONS => k_is)
