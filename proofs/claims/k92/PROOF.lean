import PyProof.Rows.All
import Wide.All
import OpenK.AllK
import Wide.FinOn
import HandS.ForMost
import HandS.ForExc
import HandS.Walk
import HandS.Star
import HandS.Style
import HandS.TupAny
import HandS.ExcInit
import HandS.ExcIs
import HandS.ExcField
import HandS.Defaults
import HandS.Wide
import HandS.ClsMeth
import KE.KExcIs
import KE.GoesEnum
import HandS.HotCalls
import PyProof.SumWalkG
import PyProof.Rows.SumAny
import HandS.FStr
import KE.KCallOwn
import HandS.ExcInitHot
import HandS.WordsExc
import HandS.Deep
import HandS.Text
import PyProof.StrLawsChain
import PyProof.StrLawsTight
import HandS.Words
import KE.KStateDown
import HandS.Head0
import HandS.Head1
import HandS.Head2
import HandS.HeadEnd
import HandS.HeadHook1
import HandS.HeadHook2
import PySem.Challenge.RW_whomay_k92_deed_rows
set_option Elab.async false
set_option linter.all false
set_option maxRecDepth 100000
set_option maxHeartbeats 4000000
namespace Wm
open PySem L2
def top (i : Nat) : Stmt := PySem.Challenge.pw_whomay_k92_deed_rows.main.body.getD i (.Pass ⟨0, 0, 0, 0⟩)
abbrev sPot : Stmt := top 9
abbrev sMix : Stmt := top 10
abbrev sTak : Stmt := top 11
abbrev sNAt : Stmt := top 12
abbrev sLrg : Stmt := top 13
abbrev sNam : Stmt := top 14
abbrev sW0 : Stmt := inClass (top 1) 0
abbrev sND : Stmt := inClass (top 2) 0
abbrev sBR : Stmt := inClass (top 3) 0
abbrev sPo : Stmt := top 5
abbrev sDr : Stmt := top 6
abbrev sRd : Stmt := top 7
abbrev sDed : Stmt := top 16
abbrev sRow : Stmt := top 17
abbrev sSpo : Stmt := top 18
abbrev sDue : Stmt := top 19
abbrev sRea : Stmt := top 20
abbrev sWri : Stmt := top 21
abbrev sRfb : Stmt := top 22
abbrev sLaw : Stmt := top 23
end Wm
/-! a head by one run: what is asked of the written part is one Bool of one's own -/
namespace Wm
open PySem PySem.Spec PyProof.Rows L2 He ClX
def obsM (ck : PySem.W.Frag → Bool) (fn : List DefD) (K : PySem.W.Frag) : AlD := (ck K && fn.all fun d => d.ok K, fn.map fun d => fnW K d.at_)
def SaysM (ck : PySem.W.Frag → Bool) (fn : List DefD) (K : PySem.W.Frag) : Prop := obsM ck fn K = valD fn
/-- what the module's names, and what the C code keeps, reach in n steps -/
def asM (g : Addr → Option Obj) : Nat → List Addr
  | 0 => [mainGlobals, cStatics]
  | n + 1 => growD g (asM g n)
def obsMG (n : Nat) (ck : PySem.W.Frag → Bool) (fn : List DefD) (g : Addr → Option Obj) : AlD := obsM ck fn (frG g (asM g n))
def hookM (n : Nat) (ck : PySem.W.Frag → Bool) (fn : List DefD) : PySem.W.Hook where
  α := AlD
  obs := fun s => obsMG n ck fn s.heap.get?
  val := fun _ => valD fn
  says := fun _ h => ∃ K : PySem.W.Frag, K.In h ∧ SaysM ck fn K
  of := fun _ _ e => ⟨_, frG_in, e⟩
  keeps := fun _ _ _ ⟨K, hK, c⟩ k => ⟨K, PySem.W.Frag.In.keeps hK k, c⟩
theorem obsMG_eq {n : Nat} {ck : PySem.W.Frag → Bool} {fn : List DefD} {g : Addr → Option Obj} {s : Shared} (h : ∀ a, g a = s.heap.get? a) : obsMG n ck fn g = (hookM n ck fn).obs s := by
  have e : g = s.heap.get? := funext h
  rw [e] <;> rfl
section
variable {ck : PySem.W.Frag → Bool} {fn : List DefD} {K : PySem.W.Frag}
theorem SaysM.says (c : SaysM ck fn K) : ck K = true := (ba (show (ck K && fn.all fun d => d.ok K) = true from congrArg (fun z : AlD => z.1) c)).1
theorem SaysM.def_ (c : SaysM ck fn K) (i : Nat) {d : DefD} (h : fn[i]? = some d := by rfl) : ∃ fd, FunD K d.name d.qual d.params d.body d.scope (d.dvs K) (d.kws K) (fAd K d.at_) fd := by
  have c2 := (ba (show (ck K && fn.all fun d => d.ok K) = true from congrArg (fun z : AlD => z.1) c)).2
  have e : fn.map (fun d => fnW K d.at_) = fn.map DefD.val := congrArg (fun z : AlD => z.2) c
  have e2 : (fn.map fun d => fnW K d.at_)[i]? = (fn.map DefD.val)[i]? := by rw [e]
  rw [List.getElem?_map, List.getElem?_map, h] at e2
  exact DefD.funD (Option.some.inj e2) (List.all_eq_true.mp c2 d (List.mem_of_getElem? h))
end
/-- a def without defaults -/
theorem fun_of {K : PySem.W.Frag} {x q : Str} {st : Stmt} {f : Addr} {fd : FuncData} (F : FunD K x q (defArgs st) (defBody st) (defScope st) [] [] f fd) : Fun K x q st f fd := by
  obtain ⟨oc, od, dV, kV, doc, pm, an, cdv, ct, osl, rfl, l, c, d, _⟩ := F.ex
  have e : dV = .none := by
    rcases d with ⟨_, e⟩ | ⟨n, _⟩
    · exact e
    · exact absurd rfl n
  subst e
  exact ⟨⟨oc, od, kV, doc, pm, an, cdv, ct, osl, rfl, l, c⟩, F.kp⟩
/-- an error class whose objects are made by an __init__ of its own -/
def excB (K : PySem.W.Frag) (C : Addr) : Bool := match K.lookup C with
  | some ⟨.type "type", _, .cls cd, sl⟩ => (match cd.mro, sl.toList with
    | .ref C' :: bm, [_, _, _, _, some (.builtin n), _] => C' == C && (n == "ValueError.__new__" && (!cd.hasDel && (cd.hasDict && PySem.HandSPX.refsVE bm)))
    | _, _ => false)
  | _ => false
theorem excB_ok {K : PySem.W.Frag} {C : Addr} (q : excB K C = true) : ∃ nm q N bs bm sn sub ab col dd k0 k1 k2 k3 k5, K.lookup C = some (excClassObj nm q C N bs bm true sn sub ab col dd k0 k1 k2 k3 k5 "ValueError.__new__") ∧ PySem.HandSPX.refsVE bm = true := by
  unfold excB at q
  split at q
  · rename_i dd cd sl ho
    split at q
    · rename_i C' bm k0 k1 k2 k3 n k5 hm hs
      simp only [Bool.and_eq_true, beq_iff_eq, Bool.not_eq_true'] at q
      obtain ⟨rfl, rfl, hdel, hdi, ht⟩ := q
      obtain ⟨nm, bs, mro, ns, qn, hd, sn, sub, ab, col, del⟩ := cd
      dsimp only at hm hdel hdi
      subst hm hdel hdi
      have hsl : sl = #[k0, k1, k2, k3, some (.builtin "ValueError.__new__"), k5] := by
        obtain ⟨l⟩ := sl
        simp only at hs
        rw [hs]
      subst hsl
      exact ⟨nm, qn, ns, bs, bm, sn, sub, ab, col, dd, k0, k1, k2, k3, k5, ho, ht⟩
    · cases q
  · cases q
/-- WhoError, whose __init__ the others call -/
def whoB (K : PySem.W.Frag) (W : Addr) : Bool := PySem.W.readsIn K W (.type "type") && (eqO (PySem.W.specialIn K (.ref W) "__getattribute__") (some (some (.builtin "type.__getattribute__"))) && (match PySem.W.findCls K (.ref W) (.type "type") "__init__" with
  | some (.val (.ref a)) => decide (a = ma K W "__init__")
  | _ => false))
theorem whoB_ok {K : PySem.W.Frag} {W : Addr} (h : whoB K W = true) : CRead K W (.type "type") ∧ PySem.W.findCls K (.ref W) (.type "type") "__init__" = some (.val (.ref (ma K W "__init__"))) := by
  unfold whoB at h
  obtain ⟨h1, h⟩ := ba h
  obtain ⟨h2, h3⟩ := ba h
  refine ⟨⟨h1, eqO_ok h2⟩, ?_⟩
  split at h3
  · rename_i a e
    rw [e, of_decide_eq_true h3]
  · cases h3
end Wm
namespace Wm
open PySem L2 He ClX StX
/-- what is asked of an error class of one field -/
def errB (K : PySem.W.Frag) (C fI : Addr) (f : Str) : Bool :=
  eqO (PySem.W.findIn K (.ref C) "__setattr__") (some (some (.builtin "object.__setattr__"))) && (decide (PySem.W.subIn K (.ref C) (.type "BaseException") = some true) && (decide (PySem.W.typeIn K (.ref C) = some (.type "type")) && (PySem.W.keepIn K (.ref C) &&
  (decide (PySem.W.typeIn K (.ref fI) = some (.type "function")) && (eqO (PySem.W.findIn K (.ref C) "kind") (some none) && (eqO (PySem.W.findIn K (.ref C) f) (some none) && (eqO (PySem.W.findIn K (.ref C) "__getattribute__") (some (some (.builtin "BaseException.__getattribute__"))) &&
  (eqO (PySem.W.findIn K (.ref C) "__getattr__") (some none) && (PySem.W.hasDictIn K C && (eqO (PySem.W.findIn K (.ref C) "__class__") (some (some (.builtin "object.__class__"))) && (decide (PySem.W.mroIn K C (.type "object") = some true) &&
  (eqO (PySem.W.findIn K (.ref C) "__init__") (some (some (.ref fI))) && (excB K C && (decide (PySem.W.exmOne K (.ref C) (.ref C) = some true) && (eqO (PySem.W.specialIn K (.builtin "object.__class__") "__get__") (some (some (.builtin "getset_descriptor.__get__"))) && decide (PySem.W.takesIn K (.builtin "object.__class__") = some true))))))))))))))))
def factL : List Fa := [.glo "WhoError", .glo "NoDeed", .glo "BadRow", .glo "parts_of", .glo "deed_row", .glo "read_deed", .glo "_law_pot", .glo "_law_mixed", .glo "_law_take", .glo "_law_name_at", .glo "_law_large", .glo "_law_name", .glo "_law_deed", .glo "_law_row", .glo "_law_spoiled", .glo "_law_due", .glo "_law_read", .glo "_law_written", .glo "_law_refused_by_base", .glo "law", .free "abs", .free "int", .free "len", .free "range", .free "all", .free "tuple", .free "enumerate", .free "isinstance", .free "ValueError", .free "list", .free "str"]
def ck (K : PySem.W.Frag) : Bool := factL.all (fun f => f.ok K) && (whoB K (ga K "WhoError") && (errB K (ga K "NoDeed") (ma K (ga K "NoDeed") "__init__") "word" && (errB K (ga K "BadRow") (ma K (ga K "BadRow") "__init__") "row" && (decide (PySem.W.exmOne K (.ref (ga K "BadRow")) (.ref (ga K "WhoError")) = some true) && decide (PySem.W.kitOne K (.ref (ga K "BadRow")) (.type "ValueError") = some true)))))
def d_parts_of : DefD := ⟨("parts_of", none), "parts_of", "parts_of", defArgs sPo, defBody sPo, defScope sPo, [], []⟩
def d_deed_row : DefD := ⟨("deed_row", none), "deed_row", "deed_row", defArgs sDr, defBody sDr, defScope sDr, [], []⟩
def d_read_deed : DefD := ⟨("read_deed", none), "read_deed", "read_deed", defArgs sRd, defBody sRd, defScope sRd, [], []⟩
def d__law_pot : DefD := ⟨("_law_pot", none), "_law_pot", "_law_pot", defArgs sPot, defBody sPot, defScope sPot, [], []⟩
def d__law_mixed : DefD := ⟨("_law_mixed", none), "_law_mixed", "_law_mixed", defArgs sMix, defBody sMix, defScope sMix, [], []⟩
def d__law_take : DefD := ⟨("_law_take", none), "_law_take", "_law_take", defArgs sTak, defBody sTak, defScope sTak, [], []⟩
def d__law_name_at : DefD := ⟨("_law_name_at", none), "_law_name_at", "_law_name_at", defArgs sNAt, defBody sNAt, defScope sNAt, [], []⟩
def d__law_large : DefD := ⟨("_law_large", none), "_law_large", "_law_large", defArgs sLrg, defBody sLrg, defScope sLrg, [], []⟩
def d__law_name : DefD := ⟨("_law_name", none), "_law_name", "_law_name", defArgs sNam, defBody sNam, defScope sNam, [], []⟩
def d__law_deed : DefD := ⟨("_law_deed", none), "_law_deed", "_law_deed", defArgs sDed, defBody sDed, defScope sDed, [], []⟩
def d__law_row : DefD := ⟨("_law_row", none), "_law_row", "_law_row", defArgs sRow, defBody sRow, defScope sRow, [], []⟩
def d__law_spoiled : DefD := ⟨("_law_spoiled", none), "_law_spoiled", "_law_spoiled", defArgs sSpo, defBody sSpo, defScope sSpo, [], []⟩
def d__law_due : DefD := ⟨("_law_due", none), "_law_due", "_law_due", defArgs sDue, defBody sDue, defScope sDue, [], []⟩
def d__law_read : DefD := ⟨("_law_read", none), "_law_read", "_law_read", defArgs sRea, defBody sRea, defScope sRea, [], []⟩
def d__law_written : DefD := ⟨("_law_written", none), "_law_written", "_law_written", defArgs sWri, defBody sWri, defScope sWri, [], []⟩
def d__law_refused_by_base : DefD := ⟨("_law_refused_by_base", none), "_law_refused_by_base", "_law_refused_by_base", defArgs sRfb, defBody sRfb, defScope sRfb, [], []⟩
def d_law : DefD := ⟨("law", none), "law", "law", defArgs sLaw, defBody sLaw, defScope sLaw, [], []⟩
def d_NoDeed___init__ : DefD := ⟨("NoDeed", some "__init__"), "__init__", "NoDeed.__init__", defArgs sND, defBody sND, defScope sND, [], []⟩
def d_BadRow___init__ : DefD := ⟨("BadRow", some "__init__"), "__init__", "BadRow.__init__", defArgs sBR, defBody sBR, defScope sBR, [], []⟩
def dWho : DefD := ⟨("WhoError", some "__init__"), "__init__", "WhoError.__init__", defArgs sW0, defBody sW0, defScope sW0, [.str "whoerror"], []⟩
def fnL : List DefD := [d_parts_of, d_deed_row, d_read_deed, d__law_pot, d__law_mixed, d__law_take, d__law_name_at, d__law_large, d__law_name, d__law_deed, d__law_row, d__law_spoiled, d__law_due, d__law_read, d__law_written, d__law_refused_by_base, d_law, d_NoDeed___init__, d_BadRow___init__, dWho]
end Wm
set_option maxHeartbeats 0
namespace Wm
open PySem PySem.W PySem.Calls PyProof.Rows
abbrev RW : OpenRow := OpenLaw.row PySem.Challenge.rw_whomay_k92_deed_rows
abbrev hkW : Hook := hookM 6 ck fnL
def obW (s : SharedT) : He.AlD := obsMG 6 ck fnL (HandSHeadRun.getT s)
theorem obW_eq (s : SharedT) : obW s = hkW.obs s.abs := obsMG_eq (HandSHeadRun.getT_eq s)
def lo0 : List PySem.Str := ["WhoError", "NoDeed", "BadRow", "parts_of", "deed_row", "read_deed", "_law_pot", "_law_mixed", "_law_take", "_law_name_at", "_law_large", "_law_name", "_law_names", "_law_deed", "_law_row", "_law_spoiled", "_law_due", "_law_read", "_law_written", "_law_refused_by_base"]
def loW : List PySem.Str := lo0
theorem runW (w : World) : HandSHeadRun.RunEq RW (view RW.prog [23]) hkW obW 20000 loW w := by
  intro os
  kernel_rfl
end Wm
namespace Wm
open PySem L2
/-- all that was tracked is as it was, but at p -/
def But (p : Addr) (H H' : Hp) : Prop := ∀ q o, q ≠ p → H q = some o → H' q = some o
theorem But.refl (p : Addr) (H : Hp) : But p H H := fun _ _ _ h => h
theorem But.trans {p : Addr} {H H1 H2 : Hp} (a : But p H H1) (b : But p H1 H2) : But p H H2 := fun q o n h => b q o n (a q o n h)
theorem But.upd {p : Addr} {H : Hp} {o : HO} : But p H (upd H p o) := fun q o n h => by rw [upd_ne n]; exact h
theorem Same.but {p : Addr} {H H1 : Hp} (a : Same H H1) : But p H H1 := fun q o _ h => a q o h
theorem Same.upd {p : Addr} {H : Hp} {o : HO} (n : H p = none) : Same H (upd H p o) := fun q o h => by rw [upd_ne (ne_of_none h n)]; exact h
theorem But.same {p : Addr} {H0 H H1 : Hp} (n : H0 p = none) (a : Same H0 H) (b : But p H H1) : Same H0 H1 := fun q o h => b q o (ne_of_none h n) (a q o h)
structure TxB (mg : Str → Option Value) : Prop where
  abs : mg "abs" = none
  int : mg "int" = none
  len : mg "len" = none
  range : mg "range" = none
  all : mg "all" = none
  tuple : mg "tuple" = none
  enumerate : mg "enumerate" = none
  isinstance : mg "isinstance" = none
  ve : mg "ValueError" = none
/-- a def of the module's top -/
structure Dn (K : PySem.W.Frag) (mg : Str → Option Value) (x : Str) (st : Stmt) (ps : List Str) (f : Addr) (fd : FuncData) : Prop where
  F : Fun K x x st f fd
  g : mg x = some (.ref f)
  b : Binds K fd ps []
theorem str_at (z : Str) {i : Int} (h0 : 0 ≤ i) (h1 : i < z.length) : ∃ c, z.cps[i.toNat]? = some c := by
  have h : i.toNat < z.cps.size := by
    have e : z.length = z.cps.size := rfl
    omega
  exact ⟨z.cps[i.toNat], Array.getElem?_eq_getElem h⟩
/-- every sign is one of unicode's -/
def okS (z : Str) : Prop := ∀ c ∈ z.cps.toList, c < 1114112
theorem okS_one {c : Nat} (h : c < 1114112) : okS ⟨#[c]⟩ := fun d hd => by
  have e : d = c := by simpa using hd
  rw [e]
  exact h
theorem okS_app {a b : Str} (ha : okS a) (hb : okS b) : okS (a ++ b) := fun c hc => by
  have e : (a ++ b).cps.toList = a.cps.toList ++ b.cps.toList := by
    show (a.cps ++ b.cps).toList = _
    simp
  rw [e] at hc
  rcases List.mem_append.mp hc with h | h
  · exact ha c h
  · exact hb c h
theorem rdItem {z : Str} {i : Int} {n : Nat} {H : Hp} {Q : VK} (hz : z.length = n) (h0 : 0 ≤ i) (h1 : i < n) (hn : n < 1000000) (h : ∀ c, z.cps.toList[i.toNat]? = some c → Q (.str ⟨#[c]⟩) H) : rIxS (.str z) (.int i) H Q := by
  have h2 : i < z.length := by rw [hz]; exact h1
  obtain ⟨c, hc⟩ := str_at z h0 h2
  have hl : z.cps.toList[i.toNat]? = some c := by simpa using hc
  have e : i = ((i.toNat : Nat) : Int) := by omega
  refine ⟨z, i, c, rfl, rfl, by rw [hz]; exact Nat.le_trans (Nat.le_of_lt hn) (by decide), ?_, h c hl⟩
  rw [e]
  exact atI_nat hl
theorem abcOk : ∀ c ∈ (PySem.Str.ofString "abcdefghijklmnopqrstuvwxyz0123456789").cps.toList, c < 1114112 := by decide +kernel
theorem abc36 : (PySem.Str.ofString "abcdefghijklmnopqrstuvwxyz0123456789").length = 36 := by decide +kernel
theorem len_app (a b : Str) : (a ++ b).length = a.length + b.length := by
  show (a.cps ++ b.cps).size = a.cps.size + b.cps.size
  exact Array.size_append
theorem len_one (c : Nat) : (⟨#[c]⟩ : Str).length = 1 := rfl
theorem strs_at {zs : List Str} {n : Nat} (h : ∀ z ∈ zs, z.length ≤ n) (ho : ∀ z ∈ zs, ∀ c ∈ z.cps.toList, c < 1114112) {j : Nat} (hj : j < zs.length) : ∃ z, (zs.map V.str)[j]? = some (.str z) ∧ z.length ≤ n ∧ okS z :=
  ⟨zs[j], by simp [hj], h _ (List.getElem_mem hj), ho _ (List.getElem_mem hj)⟩
theorem okS_cut {z : Str} (h : okS z) (lo hi : Option Int) : okS (cutS z lo hi) := fun c hc => by
  have hc' : c ∈ (z.cps.toList.drop (HT.sIx z.length 0 lo)).take (HT.sIx z.length z.length hi - HT.sIx z.length 0 lo) := hc
  exact h c (List.mem_of_mem_drop (List.mem_of_mem_take hc'))
theorem okS_join {a : Str} {ys : List Str} (ha : okS a) (h : ∀ y ∈ ys, okS y) : okS (Txt.join a ys) := by
  have e : Txt.join a ys = Str.join a ys := StrLaws.glued_eq_join a ys
  rw [e]
  clear e
  induction ys with
  | nil => exact fun c hc => (List.not_mem_nil (show c ∈ ([] : List Nat) from hc)).elim
  | cons y r ih =>
    cases r with
    | nil => exact h y List.mem_cons_self
    | cons z r =>
      show okS (y ++ a ++ Str.join a (z :: r))
      exact okS_app (okS_app (h y List.mem_cons_self) ha) (ih fun x hx => h x (List.mem_cons_of_mem _ hx))
theorem rdList {K : PySem.W.Frag} {p : Addr} {xs : List V} {i : Int} {j : Nat} {v : V} {H : Hp} {Q : VK} (hp : H p = some (.lst xs)) (e : i = (j : Int)) (hv : xs[j]? = some v) (h : Q v H) : rIxL K (.ref p) (.int i) H Q :=
  ⟨p, xs, i, v, rfl, rfl, SqL.of hp, at_of e hv, h⟩
theorem But.free {p D : Addr} {H H' : Hp} (b : But p H H') (n : D ≠ p) (h : H' D = none) : H D = none := by
  cases e : H D with
  | none => rfl
  | some o =>
    rw [b D o n e] at h
    cases h
theorem sum_ones : ∀ {ys : List Str}, (∀ y ∈ ys, y.length = 1) → (ys.map (·.length)).sum = ys.length
  | [], _ => rfl
  | y :: ys, h => by
    rw [List.map_cons, List.sum_cons, List.length_cons, h y List.mem_cons_self, sum_ones fun z hz => h z (List.mem_cons_of_mem _ hz)]
    omega
theorem join_len (a : Str) (ys : List Str) : (Txt.join a ys).length ≤ (ys.map (·.length)).sum + ys.length * a.length := by
  show (Builtin.Str.glued a ys).length ≤ _
  rw [StrLaws.glued_eq_join]
  exact StrLaws.join_length_le a ys
end Wm
namespace Wm
open PySem PySem.Spec PyProof.Rows L2 ClX
section
variable {X : Cx} {CX : CXT} {k : Nat} {C f : Addr} {fd : FuncData} {ps : List Str} {sp : Sp} {E : XK} {e : Expr} {es : List Expr} {t : TA} {x m : Str} {p1 p2 pos : Pos} {ds : List Value} {dvs : List V}
/-- C.f(e, ..), f a def of the class C -/
theorem pe_clsFn {pl : Sem Bool} {mc : Value} (hg : Gl X x) (hm : X.mg x = some (.ref C)) (r : CRead X.K C mc) (ht : PySem.W.findCls X.K (.ref C) mc m = some (.val (.ref f))) (hk : PySem.W.keepIn X.K (.ref f) = true) (F : FnOk X.prog X.w X.K X.mg X.base CX k f fd ps sp)
    (hr : Room k X.A) (hb : Binds X.K fd ps ds) (hd : Vals dvs ds) (hx : Passes CX X E) (ha : PA X (e :: es) t)
    (hc : eval (.Call (.Attribute (.Name x p1) m p2) (e :: es) [] pos) X.env = (do
      let ov ← eval (.Name x p1) X.env
      standAt p2.atName
      let (f, first) ← holding [ov] (getMethod ov m pl)
      callWith pos f first (backTo pos (starEach (e :: es) X.env)) (backToKw pos (keywordEach [] X.env))) := by rfl)
    (hdb : (x == ("__debug__" : Str)) = false := by decide) (he : starEach (e :: es) X.env = (false, eval e X.env) :: starEach es X.env := by rfl) (hpl : (backTo pos (starEach es X.env)).any (·.1) = false := by rfl) :
    PE X (.Call (.Attribute (.Name x p1) m p2) (e :: es) [] pos) (tCall sp dvs E t) := by
  refine ⟨fun pins s σ H Q I h => ?_⟩
  refine PySem.W.methodCall_KW (ld_glob I hg hm ?_ hdb) hc
  refine PySem.W.method_cls I.kIn r.ga (PySem.W.cls_value I.kIn r.rd ht rfl ?_)
  show wpAny _ _ (callWith pos (Value.ref f) [] (backTo pos (starEach (e :: es) X.env)) []) _ _ _
  refine PySem.W.callWith_K (h₀ := X.base) I.ok.mod.kin hk (thn (ha.run pos pins _ σ H _ (I.tok _) h) fun us s1 ⟨vs, H1, I1, r1, q⟩ => ⟨I1.kIn, ?_⟩) he hpl
  exact run_fn F hr hb hd hx I1 r1 q
/-- xs + ys, both to be read -/
def rCatR (K : PySem.W.Frag) : R2 := fun x y H Q => ∃ l b xs zs, x = .ref l ∧ y = .ref b ∧ SqL K H l xs ∧ SqL K H b zs ∧ xs.length + zs.length ≤ sizeLine ∧ ∀ p, H p = none → Q (.ref p) (upd H p (.lst (xs ++ zs)))
theorem op_catR : OpR X (binaryOp .Add) (rCatR X.K) := by
  intro pins s σ H x y v u Q I rx ry h
  obtain ⟨l, b, xs, zs, rfl, rfl, hH, hB, hz, q⟩ := h
  cases rx
  cases ry
  obtain ⟨its, r, e, hl⟩ := I.list hH
  obtain ⟨its2, r2, e2, hl2⟩ := I.list hB
  have l1 := r.length
  have l2 := r2.length
  obtain ⟨⟨cls, dd, data, sl⟩, ho, hc, n, hd⟩ := e.isList
  obtain ⟨⟨cls2, dd2, data2, sl2⟩, ho2, hc2, n2, hd2⟩ := e2.isList
  simp only at hc hd hc2 hd2
  subst hc hd hc2 hd2
  refine concat_meets ⟨_, ho, rfl⟩ ⟨_, ho2, rfl⟩ noFill_list_add seq_list_add PySem.F.slot_list_add PySem.F.entry_list_add (PySem.F.args_list_add_2 _ _) (list_addW l b its.toArray its2.toArray n n2 dd dd2 sl sl2 (by rw [List.size_toArray, List.size_toArray]; omega)) ⟨ho, ho2, ?_⟩
  have ea : its.toArray ++ its2.toArray = (its ++ its2).toArray := by simp
  rw [ea]
  exact ⟨.ref _, _, I.lnew (t' := s.toks) (r.append r2) (by rw [List.length_append]; omega), rfl, q _ I.fresh⟩
end
end Wm
namespace Wm
open PySem PySem.Spec PyProof.Rows L2 ClX
/-- isinstance(e, c) in an except suite, e the exception that it holds (its class D, its dict at dd) -/
def rIsX (K : PySem.W.Frag) (D a dd : Addr) : List V → Hp → VK → Prop := fun xs H Q => ∃ (c : V) (cv : Value) (b : Bool) (fs : List (Str × V)), xs = [.ref a, c] ∧ H dd = some (.xd fs) ∧ (∀ u, RelV c u → u = cv) ∧ PySem.W.kitOne K (.ref D) cv = some b ∧ Q (.bl b) H
theorem call_isX {X : Cx} {a D dd : Addr} {oe : Obj} {pn : List (Addr × Obj)} (C : ExcC X.K D) (hz : Zc (.ref D) (some dd) oe) (hf : ∃ vs, oe.data = .fields vs) : CallR (X.suite a ((a, oe) :: pn)) (.builtin "isinstance") (rIsX X.K D a dd) := by
  intro pins s σ H xs us Q I r h
  obtain ⟨c, cv, b, fs, rfl, hdd, hcv, e, q⟩ := h
  cases r with
  | cons rx rr =>
    cases rr with
    | cons rt rr =>
      cases rr
      cases rx
      have ec := hcv _ rt
      subst ec
      obtain ⟨hget, _⟩ := I.pin (a, oe) (List.mem_append.mpr (.inl List.mem_cons_self))
      obtain ⟨vs, hv⟩ := hf
      have hx : ObjOk X.prog X.w H s.heap dd (.xd fs) := I.hok dd _ hdd
      obtain ⟨mA, hns, hr⟩ := hx
      obtain ⟨od, ho, hl⟩ := lookIn_ns hns
      have J : PySem.W.InstAt s.heap a oe D (some od) := ⟨hget, hz.1, by unfold PySem.W.notCls; rw [hv] <;> rfl, by rw [hz.2]; exact ho⟩
      have hcl : (PySem.W.clsIn X.K D).isSome = true := by
        obtain ⟨cd, hc, _⟩ := PySem.W.any_some C.hd
        rw [hc]
        rfl
      exact PySem.W.kia_one (PySem.W.kitx_exc hcl C.hg C.hk C.hs C.ha C.hn C.ht C.hm) I.kIn J e (fun z => nomatch z) fun tk => ⟨.bl b, H, I.kept (t' := tk) fun _ _ z => z, rfl, q⟩
/-! ### errors of one field -/
def spWI (K : PySem.W.Frag) : Sp := fun vs H Q _ => ∃ (a C : Addr) (v : V), vs = [.ref a, v] ∧ OexC K C ∧ PySem.W.findIn K (.ref C) "kind" = some none ∧ H a = some (exo a C none) ∧ ∀ dx, H dx = none → dx ≠ a → Q .non (upd (upd H dx (exd dx [("kind", v)])) a (exo a C (some dx)))
/-- the dict of an error of one field -/
def ef1 (f kd : Str) (v : V) : List (Str × V) := [(f, v), ("kind", .str kd)]
def spE1 (C : Addr) (f kd : Str) : Sp := fun vs H Q _ => ∃ (a : Addr) (v : V), vs = [.ref a, v] ∧ H a = some (exo a C none) ∧ ∀ dx H', H dx = none → dx ≠ a → (∀ b o, b ≠ a → H b = some o → H' b = some o) → H' a = some (exo a C (some dx)) → H' dx = some (exd dx (ef1 f kd v)) → Q .non H'
/-- what is known of WhoError -/
structure WhoT (K : PySem.W.Frag) (mg : Str → Option Value) (W f0 : Addr) (fd0 : FuncData) : Prop where
  g : mg "WhoError" = some (.ref W)
  r : CRead K W (.type "type")
  m : PySem.W.findCls K (.ref W) (.type "type") "__init__" = some (.val (.ref f0))
  k : PySem.W.keepIn K (.ref f0) = true
  b : Binds K fd0 ["self", "kind"] []
/-- what is known of an error class of one field -/
structure ErrT (K : PySem.W.Frag) (mg : Str → Option Value) (x f : Str) (C fI : Addr) : Prop where
  o : OexC K C
  g : mg x = some (.ref C)
  iC : PySem.W.findIn K (.ref C) "__init__" = some (some (.ref fI))
  tI : PySem.W.typeIn K (.ref fI) = some (.type "function")
  nk : PySem.W.findIn K (.ref C) "kind" = some none
  nf : PySem.W.findIn K (.ref C) f = some none
end Wm
namespace Wm
open PySem PySem.Spec PyProof.Rows L2
/-- enumerate(v): its two new cells -/
theorem meets_enum1 {v : Value} {o : Obj} {H : Heap → Prop} (B : Begins v o H) :
    Meets (Builtin.«enumerate.__new__» ⟨[.type "enumerate", v], []⟩) (fun _ R s => H s.heap ∧
      R (.ok (.ret (.ref (s.heap.push o).objs.size))) { s with heap := (s.heap.push o).push { cls := .type "enumerate", data := .fields #[.none, .bool false, .ref s.heap.objs.size, rawInt 0, .none, .none] } }) :=
  .of_wp fun prog w A R s hh => by
    obtain ⟨hp, g, d, tk, os⟩ := s
    obtain ⟨h1, h⟩ := hh
    have hsub := sub_enumerate
    have q1 : ∀ {A' : Around} {E : Value → Shared → Prop} {Q : Value → Shared → Prop}, Q (.ref hp.objs.size) ⟨hp.push o, g, d, tk, os⟩ → wpAny (model prog w) A' (pyIter v) Q E ⟨hp, g, d, tk, os⟩ := fun q => B.iter prog w _ _ ⟨hp, g, d, tk, os⟩ _ h1 q
    wp_walk using q1
    refine wpAny_stack_any fun stk => wpAny_pure ?_
    split
    · rename_i c _ _ _ _ _
      cases (c == Value.type "enumerate") <;> (wp_walk using q1; exact ⟨_, rfl, h⟩)
    · wp_walk using q1
      exact ⟨_, rfl, h⟩
theorem call_enum_tup {prog : Program} {w : World} {A : Around} {E : Value → Shared → Prop} {s : Shared} {t : Addr} {items : Array Value} {Q : Value → Shared → Prop} (hL : s.heap.IsTuple t items)
    (h : ∀ h', IsEnum h' (s.heap.objs.size + 1) s.heap.objs.size 0 .none → h'.IsTupleIter s.heap.objs.size t 0 → (∀ b o, s.heap.get? b = some o → h'.get? b = some o) → Q (.ref (s.heap.objs.size + 1)) { s with heap := h' }) :
    wpAny (model prog w) A (call (.type "enumerate") [.ref t]) Q E s := by
  refine callType_new F.called_enumerate (by decide) (F.typeCall_enumerate_1 _) (F.newCall_enumerate_1 _) (fun obj => F.args_object_init_2 obj _) F.entry_enumerate_new (meets_enum1 (begins_tuple t items)) ⟨hL, ?_⟩
  generalize ho : ({ cls := .type "tuple_iterator", data := .fields #[.ref t, .int 0 0] } : Obj) = o
  have hz : (s.heap.push o).objs.size = s.heap.objs.size + 1 := Heap.size_push ..
  show _ ∧ _
  rw [hz]
  generalize he : ({ cls := .type "enumerate", data := .fields #[.none, .bool false, .ref s.heap.objs.size, rawInt 0, .none, .none] } : Obj) = eo
  have h2 : ((s.heap.push o).push eo).get? (s.heap.objs.size + 1) = some eo := by
    have q := Heap.get?_push_size (s.heap.push o) (o := eo) (by rw [← he]; rfl)
    rw [hz] at q
    exact q
  have h3 : ((s.heap.push o).push eo).get? s.heap.objs.size = some o := Heap.get?_push_of_some _ (Heap.get?_push_size _ (by rw [← ho]; rfl))
  refine ⟨⟨_, h2, by rw [← he]⟩, h _ ?_ ⟨o, h3, by rw [← ho], by rw [← ho]; rfl⟩ fun b o x => Heap.get?_push_of_some _ (Heap.get?_push_of_some _ x)⟩
  show ((s.heap.push o).push eo).get? (s.heap.objs.size + 1) = some _
  rw [h2, ← he]
/-- the tuple at a, each item in a new pair -/
def IteT (K : PySem.W.Frag) (a : Addr) (xs : List V) : It :=
  ⟨fun i H => SqT K H a xs ∧ i < xs.length, fun i H v H' => ∃ T x, v = .ref T ∧ H T = none ∧ H' = upd H T (.tup [.int (i : Nat), x]) ∧ xs[i]? = some x, fun i H => SqT K H a xs ∧ i = xs.length⟩
theorem turn_enumT {P : Program} {w : World} {K : PySem.W.Frag} {elts : List Expr} {kk : Nat} {tpos : Pos} {xs : List V} (a e it : Addr) (his : List Value) :
    Turn P w K (.Tuple elts kk tpos) (IteT K a xs) [e, it] e (fun i h => (∃ old, IsEnum h e it ((i : Nat) : Int) old) ∧ h.IsTupleIter it a i ∧ e ≠ it ∧ a ≠ it ∧ a ≠ e) where
  mem := by simp
  obj := fun i h st b hb => by
    obtain ⟨⟨old, he⟩, ⟨o, ho, hc, hd⟩, _⟩ := st
    rcases (show b = e ∨ b = it by simpa using hb) with z | z
    · rw [z]
      exact ⟨_, he, fun v q => nomatch q⟩
    · rw [z]
      exact ⟨o, ho, fun v q => by rw [hd] at q; cases q⟩
  keep := fun i h h' st k => let ⟨⟨old, he⟩, hi, hne⟩ := st; ⟨⟨old, k e (by simp) _ he⟩, hi.at fun o q => k it (by simp) o q, hne⟩
  item := by
    intro X hP hw hK hc i pins s σ H E I hf st hg
    subst hP hw hK
    obtain ⟨⟨old, he⟩, hit, hne, nai, nae⟩ := st
    obtain ⟨hq, hlt⟩ := hg
    obtain ⟨its, rv, p, hz⟩ := I.tuple hq
    have hlen := rv.length
    have hel : e < s.heap.objs.size := Heap.lt_size he
    have hil : it < s.heap.objs.size := by obtain ⟨_, q, _⟩ := hit; exact Heap.lt_size q
    have D : Draws X.prog X.w X.A.in1 it [it, a] its.toArray.size (fun i v => its.toArray[i]? = some v) (fun i h => h.IsTupleIter it a i ∧ h.IsTuple a its.toArray) := Draws.tuple (A := X.A.in1) (show X.A.in1.handled = none from I.ok.hd hc) it a nai its.toArray
    refine wpAny_pyNext_enum_itemC D he ⟨hit, p⟩ (by rw [List.size_toArray]; omega) hne (by simp [hne, Ne.symm nae]) fun u h' tk hu ho hst' hT hsz hk => ?_
    have hu' : its[i]? = some u := by simpa using hu
    obtain ⟨x, hx, ru⟩ : ∃ x, xs[i]? = some x ∧ RelV x u := by
      obtain ⟨u2, h2, r2⟩ := rv.get (List.getElem?_eq_getElem hlt)
      rw [hu'] at h2
      cases h2
      exact ⟨_, List.getElem?_eq_getElem hlt, r2⟩
    refine ⟨_, rfl, wpAny_letOwnedTupleGo_enum (s := { s with heap := h', toks := tk + 1 }) ho fun h'' he' sb => ?_⟩
    have hT2 : h''.get? s.heap.objs.size = some { cls := .type "tuple", data := .seq #[.int i tk, u] } := (sb.2 _ (Nat.ne_of_gt hel)).trans hT
    have new : ObjOk X.prog X.w (upd H s.heap.objs.size (.tup [.int (i : Nat), x])) h'' s.heap.objs.size (.tup [.int (i : Nat), x]) := ⟨by show 2 ≤ sizeLine; decide, [.int i tk, u], .cons ⟨_, rfl⟩ (.cons ru .nil), ⟨_, hT2, rfl, _, rfl⟩⟩
    have I1 : Inv X pins σ (upd H s.heap.objs.size (.tup [.int (i : Nat), x])) { s with heap := h'', toks := tk + 1 } :=
      I.turnedNew (ch := [e, it]) (fun b ob hb q => (sb.2 b (fun z => hb (by simp [z]))).trans (hk b ob (fun z => hb (by simp [z])) (fun z => hb (by simp [z])) q)) hf (Nat.le_refl _) new
    refine ⟨.ref s.heap.objs.size, _, I1, rfl, ⟨_, x, rfl, I.hok.fresh (Nat.le_refl _), rfl, hx⟩, ⟨⟨u, ?_⟩, hst'.1.at fun o q => (sb.2 it (Ne.symm hne)).trans q, hne, nai, nae⟩, fun b hb => ?_⟩
    · have e1 : ((i + 1 : Nat) : Int) = (i : Int) + 1 := by omega
      rw [e1]
      exact he'
    · have hb' : b < s.heap.objs.size := by
        rcases (show b = e ∨ b = it by simpa using hb) with z | z
        · rw [z]; exact hel
        · rw [z]; exact hil
      rw [upd_ne (Nat.ne_of_lt hb')]
      exact (hf b hb).1
  done := by
    intro X hP hw hK hc i pins s σ H E I hf st hg
    subst hP hw hK
    obtain ⟨⟨old, he⟩, hit, hne, nai, nae⟩ := st
    obtain ⟨hq, hi⟩ := hg
    obtain ⟨its, rv, p, hz⟩ := I.tuple hq
    have hlen := rv.length
    obtain ⟨f0, f1, f2, f3, f4, f5⟩ := hf it (by simp)
    have D : Draws X.prog X.w X.A.in1 it [it, a] its.toArray.size (fun i v => its.toArray[i]? = some v) (fun i h => h.IsTupleIter it a i ∧ h.IsTuple a its.toArray) := Draws.tuple (A := X.A.in1) (show X.A.in1.handled = none from I.ok.hd hc) it a nai its.toArray
    have en : i = its.toArray.size := by rw [List.size_toArray]; omega
    rw [en] at he hit
    exact wpAny_pyNext_enum_endD D he ⟨hit, p⟩ fun h' eb => ⟨rfl, I.turned (t' := s.toks) (fun b o hb q => eb b o hb q) f0 f1 f3 f4 f5⟩
  self := fun A i s Q E st h => let ⟨⟨_, he⟩, _⟩ := st; wpAny_pyIter_enum he h
def iEnumT (K : PySem.W.Frag) (ta : TA) : TI := fun σ H R => ta σ H fun vs H1 => ∃ a xs, vs = [.ref a] ∧ SqT K H1 a xs ∧ R (IteT K a xs) H1
theorem pi_enumT {X : Cx} {e : Expr} {ta : TA} {p pos tpos : Pos} {elts : List Expr} {kk : Nat} (hg : Gl X "enumerate") (hm : X.mg "enumerate" = none) (ha : PA X [e] ta) (hs : starEach [e] X.env = [(false, eval e X.env)] := by rfl) :
    PI X (.Tuple elts kk tpos) (.Call (.Name "enumerate" p) [e] [] pos) (iEnumT X.K ta) := by
  refine ⟨fun pins s σ H R I h => ?_⟩
  refine Call_ (ld_blt I hg hm boot_enumerate (PyProof.Rows.callWith_type1 (thn (ha.run pos pins s σ H _ I h) fun us s1 ⟨vs, H1, I1, r1, a, xs, ex, hq, q⟩ => ?_) hs rfl))
  subst ex
  cases r1 with
  | cons r rr =>
    cases rr
    cases r
    obtain ⟨its, rv, p', hz⟩ := I1.tuple hq
    have hal : a < s1.heap.objs.size := by obtain ⟨_, z, _⟩ := p'; exact Heap.lt_size z
    refine call_enum_tup (items := its.toArray) p' fun h' he hit hk => wpAny_pyIter_enum he ?_
    have I2 : Inv X pins σ H1 { s1 with heap := h' } := I1.kept (t' := s1.toks) hk
    refine ⟨s1.heap.objs.size + 1, [s1.heap.objs.size + 1, s1.heap.objs.size], _, _, H1, rfl, I2, turn_enumT a (s1.heap.objs.size + 1) s1.heap.objs.size its, ⟨⟨.none, he⟩, hit, Nat.succ_ne_self _, Nat.ne_of_lt hal, Nat.ne_of_lt (Nat.lt_succ_of_lt hal)⟩, fun b hb => ?_, q⟩
    have hle : s1.heap.objs.size ≤ b := by
      rcases (show b = s1.heap.objs.size + 1 ∨ b = s1.heap.objs.size by simpa using hb) with z | z
      · rw [z]; exact Nat.le_add_right _ _
      · rw [z]; exact Nat.le_refl _
    exact I1.fpOk hle (I1.hok.fresh hle)
theorem walk_enumT {K : PySem.W.Frag} {a : Addr} {xs : List V} : Walk (IteT K a xs) xs.length (fun H => SqT K H a xs) (YPair (fun i => some (.int (i : Nat))) (fun i => xs[i]?)) := by
  refine ⟨fun i _ hi q => ⟨q, hi⟩, fun _ q => ⟨q, rfl⟩, fun i H v H' _ q y => ?_⟩
  obtain ⟨T, x, h1, h2, h3, h4⟩ := y
  exact ⟨T, .int (i : Nat), x, h1, h2, h3, rfl, h4⟩
end Wm
namespace Wm
open PySem L2
/-- the outer walk of a comprehension of two clauses -/
theorem lc2_it {J : It} {n : Nat} {G : Hp → Prop} {Y : Nat → Hp → V → Hp → Prop} (w : Walk J n G Y) {g : TG} {vs : List Nat} {σ : St} {H1 : Hp} {D : Addr} {Qd : Hp → Prop} {inner : St → Hp → (Hp → Prop) → Prop} (Pv : Nat → Hp → Prop) (h0 : Pv 0 (upd H1 D (.lst []))) (hG : ∀ i H, i ≤ n → Pv i H → G H)
    (hs : ∀ i x H H', i < n → Pv i H → Y i H x H' → g x (wipe σ vs) H' fun σ2 H2 => wipe σ2 vs = wipe σ vs ∧ inner σ2 H2 (Pv (i + 1))) (hd : ∀ H, Pv n H → Qd H) :
    ∃ W : Nat → Nat → Hp → Prop, (∃ m, W 0 m (upd H1 D (.lst []))) ∧ ∀ i m H, W i m H →
      (J.stop i H ∧ Qd H) ∨ (J.go i H ∧ ∃ Nx : Hp → Prop, (∀ H', Nx H' → ∃ m', m' < m ∧ W (i + 1) m' H') ∧ ∀ x H', J.yld i H x H' → g x (wipe σ vs) H' fun σ2 H2 => wipe σ2 vs = wipe σ vs ∧ inner σ2 H2 Nx) := by
  refine ⟨fun i m H => m = n - i ∧ i ≤ n ∧ Pv i H, ⟨n, by simp, Nat.zero_le _, h0⟩, ?_⟩
  rintro i m H ⟨rfl, hi, p⟩
  have q := hG i H hi p
  by_cases hlt : i < n
  · exact .inr ⟨w.goes i H hlt q, Pv (i + 1), fun H' p' => ⟨n - (i + 1), by omega, rfl, hlt, p'⟩, fun x H' y => hs i x H H' hlt p (w.yields i H x H' hlt q y)⟩
  · have e : i = n := by omega
    subst e
    exact .inl ⟨w.stops H q, hd H p⟩
/-- the inner one -/
theorem lc1_it {J : It} {n : Nat} {G : Hp → Prop} {Y : Nat → Hp → V → Hp → Prop} (w : Walk J n G Y) {g : TG} {te : TE} {vs : List Nat} {σ : St} {H4 : Hp} {D : Addr} {Nx : Hp → Prop} (Pv : Nat → Hp → Prop) (h0 : Pv 0 H4) (hG : ∀ i H, i ≤ n → Pv i H → G H)
    (hs : ∀ i x H H', i < n → Pv i H → Y i H x H' → g x (wipe σ vs) H' fun σ3 H5 => wipe σ3 vs = wipe σ vs ∧ te σ3 H5 fun y H7 => ∃ acc, H7 D = some (.lst acc) ∧ acc.length < sizeLine ∧ Pv (i + 1) (upd H7 D (.lst (acc ++ [y])))) (hd : ∀ H, Pv n H → Nx H) :
    ∃ W1 : Nat → Nat → Hp → Prop, (∃ m, W1 0 m H4) ∧ ∀ j k H, W1 j k H →
      (J.stop j H ∧ Nx H) ∨ (J.go j H ∧ ∃ Nx1 : Hp → Prop, (∀ H', Nx1 H' → ∃ k', k' < k ∧ W1 (j + 1) k' H') ∧ ∀ x H', J.yld j H x H' → g x (wipe σ vs) H' fun σ3 H5 => wipe σ3 vs = wipe σ vs ∧ tYes σ3 H5 fun b H6 =>
        if b = true then te σ3 H6 fun y H7 => ∃ acc, H7 D = some (.lst acc) ∧ acc.length < sizeLine ∧ Nx1 (upd H7 D (.lst (acc ++ [y]))) else Nx1 H6) := by
  refine ⟨fun i m H => m = n - i ∧ i ≤ n ∧ Pv i H, ⟨n, by simp, Nat.zero_le _, h0⟩, ?_⟩
  rintro i m H ⟨rfl, hi, p⟩
  have q := hG i H hi p
  by_cases hlt : i < n
  · exact .inr ⟨w.goes i H hlt q, Pv (i + 1), fun H' p' => ⟨n - (i + 1), by omega, rfl, hlt, p'⟩, fun x H' y => hs i x H H' hlt p (w.yields i H x H' hlt q y)⟩
  · have e : i = n := by omega
    subst e
    exact .inl ⟨w.stops H q, hd H p⟩
/-- tuple(x) of a list or a tuple -/
def rTupOf (K : PySem.W.Frag) : List V → Hp → VK → Prop := fun xs H Q => ∃ p ys, xs = [.ref p] ∧ ((SqL K H p ys ∧ ∀ l, H l = none → Q (.ref l) (upd H l (.tup ys))) ∨ (SqT K H p ys ∧ Q (.ref p) H))
theorem call_tupN {X : Cx} : CallR X (.type "tuple") (rTupOf X.K) := call_tuple_of
theorem same_seqT {K : PySem.W.Frag} {H H' : Hp} {a : Addr} {xs : List V} (e : Same H H') (h : SqT K H a xs) : SqT K H' a xs := by
  rcases h with (h | ⟨o, h⟩) | h
  · exact .inl (.inl (e _ _ h))
  · exact .inl (.inr ⟨o, e _ _ h⟩)
  · exact .inr h
/-- to be read as a list or a tuple -/
def Sq (K : PySem.W.Frag) (H : Hp) (a : Addr) (xs : List V) : Prop := SqL K H a xs ∨ SqT K H a xs
theorem same_sq {K : PySem.W.Frag} {H H' : Hp} {a : Addr} {xs : List V} (e : Same H H') (h : Sq K H a xs) : Sq K H' a xs := h.imp (fun h => e.seq h) (fun h => same_seqT e h)
theorem cut_take (xs : List V) (i : Nat) : cutV xs none (some (i : Int)) = xs.take i := by
  unfold cutV
  rw [HT.sIx_none, HT.sIx_nat, List.drop_zero, Nat.sub_zero]
  by_cases h : i ≤ xs.length
  · rw [Nat.min_eq_left h]
  · rw [Nat.min_eq_right (by omega), List.take_length, List.take_of_length_le (by omega)]
theorem all_take {xs : List V} (h : xs.all flatV = true) (i : Nat) : (xs.take i).all flatV = true := by
  rw [List.all_eq_true] at h ⊢
  exact fun x hx => h x (List.mem_of_mem_take hx)
end Wm
/-! names as the laws draw them: texts of at most six signs -/
namespace Wm
open PySem L2
def lowC (c : Nat) : Prop := 97 ≤ c ∧ c ≤ 122
def figC (c : Nat) : Prop := 48 ≤ c ∧ c ≤ 57
/-- a text of small letters and figures, the first a letter -/
def NmP (z : Str) : Prop := ∃ c cs, z.cps.toList = c :: cs ∧ lowC c ∧ ∀ d ∈ cs, lowC d ∨ figC d
theorem toList_app (a b : Str) : (a ++ b).cps.toList = a.cps.toList ++ b.cps.toList := by
  show (a.cps ++ b.cps).toList = _
  simp
theorem NmP.app {a b : Str} (h : NmP a) (hb : ∀ d ∈ b.cps.toList, lowC d ∨ figC d) : NmP (a ++ b) := by
  obtain ⟨c, cs, e, l, r⟩ := h
  refine ⟨c, cs ++ b.cps.toList, by rw [toList_app, e]; rfl, l, fun d hd => ?_⟩
  rcases List.mem_append.mp hd with h | h
  · exact r d h
  · exact hb d h
theorem NmP.one {c : Nat} (h : lowC c) : NmP ⟨#[c]⟩ := ⟨c, [], rfl, h, fun _ z => nomatch z⟩
theorem NmP.ok {z : Str} (h : NmP z) : ∀ c ∈ z.cps.toList, c < 1114112 := by
  obtain ⟨c, cs, e, l, r⟩ := h
  intro d hd
  rw [e] at hd
  rcases List.mem_cons.mp hd with h | h
  · rw [h]
    exact Nat.lt_of_le_of_lt l.2 (by decide)
  · rcases r d h with q | q
    · exact Nat.lt_of_le_of_lt q.2 (by decide)
    · exact Nat.lt_of_le_of_lt q.2 (by decide)
def ABC36 : Str := PySem.Str.ofString "abcdefghijklmnopqrstuvwxyz0123456789"
theorem abc36_len : ABC36.length = 36 := by decide +kernel
theorem abc_low {i : Nat} {c : Nat} (hi : i < 26) (h : ABC36.cps.toList[i]? = some c) : lowC c := by
  have q : ∀ j : Fin 26, ∀ d ∈ ABC36.cps.toList[j.1]?, 97 ≤ d ∧ d ≤ 122 := by decide +kernel
  exact q ⟨i, hi⟩ c (by rw [h]; exact rfl)
theorem abc_any {i : Nat} {c : Nat} (h : ABC36.cps.toList[i]? = some c) : lowC c ∨ figC c := by
  have q : ∀ d ∈ ABC36.cps.toList, (97 ≤ d ∧ d ≤ 122) ∨ (48 ≤ d ∧ d ≤ 57) := by decide +kernel
  exact q c (List.mem_of_getElem? h)
/-- the text of a number -/
def numS (n : Nat) : Str := PySem.Str.ofString (toString (n : Int))
def numB (n : Nat) : Bool := (numS n).cps.toList.all (fun d => decide (48 ≤ d ∧ d ≤ 57)) && (decide ((numS n).length ≤ 2) && decide (1 ≤ (numS n).length))
theorem num_all : ∀ n : Fin 70, numB n.1 = true := by decide +kernel
theorem num_inj0 : ∀ n m : Fin 70, (numS n.1).cps.toList = (numS m.1).cps.toList → n = m := by decide +kernel
theorem num_sign {n : Nat} (h : n < 70) : (∀ d ∈ (numS n).cps.toList, lowC d ∨ figC d) ∧ (numS n).length ≤ 2 ∧ 1 ≤ (numS n).length := by
  obtain ⟨a, b⟩ := Bool.and_eq_true_iff.mp (num_all ⟨n, h⟩)
  obtain ⟨b, c⟩ := Bool.and_eq_true_iff.mp b
  refine ⟨fun d hd => .inr ?_, of_decide_eq_true b, of_decide_eq_true c⟩
  have q := List.all_eq_true.mp a d hd
  exact of_decide_eq_true (p := 48 ≤ d ∧ d ≤ 57) q
theorem num_inj {n m : Nat} (hn : n < 70) (hm : m < 70) (h : numS n = numS m) : n = m := congrArg Fin.val (num_inj0 ⟨n, hn⟩ ⟨m, hm⟩ (by rw [h]))
/-- the tries for a name: the word, then the word with 1, 2 .. -/
def tryS (z : Str) : Nat → Str
  | 0 => z
  | n + 1 => z ++ numS (n + 1)
theorem app_inj {a b c : Str} (h : a ++ b = a ++ c) : b = c := by
  have e := congrArg (fun z : Str => z.cps.toList) h
  simp only [toList_app] at e
  have q := List.append_cancel_left e
  cases b; cases c
  simp only at q
  congr
  exact Array.toList_inj.mp q
theorem try_inj {z : Str} {n m : Nat} (hn : n < 70) (hm : m < 70) (h : tryS z n = tryS z m) : n = m := by
  have key : ∀ k, k + 1 < 70 → z ≠ z ++ numS (k + 1) := fun k hk e => by
    have l := congrArg (fun z : Str => z.cps.toList.length) e
    simp only [toList_app, List.length_append] at l
    have q := (num_sign hk).2.2
    have q' : 1 ≤ (numS (k + 1)).cps.toList.length := by simpa [PySem.Str.length] using q
    omega
  cases n with
  | zero =>
    cases m with
    | zero => rfl
    | succ m => exact (key m hm h).elim
  | succ n =>
    cases m with
    | zero => exact (key n hn h.symm).elim
    | succ m => exact num_inj hn hm (app_inj h)
theorem holes {α : Type} [BEq α] [LawfulBEq α] {f : Nat → α} : ∀ {n : Nat} {l : List α}, (∀ i j, i < n → j < n → f i = f j → i = j) → (∀ i, i < n → f i ∈ l) → n ≤ l.length
  | 0, _, _, _ => Nat.zero_le _
  | n + 1, l, inj, h => by
    have hm := h n (Nat.lt_succ_self n)
    have q := holes (n := n) (l := l.erase (f n)) (fun i j hi hj => inj i j (by omega) (by omega)) (fun i hi => by
      refine (List.mem_erase_of_ne fun e => ?_).mpr (h i (by omega))
      have := inj i n (by omega) (by omega) e
      omega)
    rw [List.length_erase_of_mem hm] at q
    have := List.length_pos_of_mem hm
    omega
theorem try_end {z : Str} {taken : List Str} {n : Nat} (ht : taken.length ≤ 60) (h : ∀ i, i < n → tryS z i ∈ taken) (hn : n ≤ 61) : n ≤ taken.length :=
  holes (f := tryS z) (fun i j hi hj e => try_inj (by omega) (by omega) e) h
theorem inV_strs {z : Str} {ns : List Str} : inV (.str z) (ns.map V.str) = decide (z ∈ ns) := by
  unfold inV
  rw [List.any_map]
  induction ns with
  | nil => simp
  | cons a r ih =>
    rw [List.any_cons, ih]
    have e : eqV (.str a) (.str z) = decide (a = z) := by
      unfold eqV
      by_cases h : a = z
      · simp [h]
      · simp [h]
    show (eqV (.str a) (.str z) || _) = _
    rw [e]
    by_cases h : a = z
    · simp [h]
    · have h' : ¬ z = a := fun x => h x.symm
      simp [h, h']
end Wm
namespace Wm
open PySem L2
/-- all that was tracked is as it was, but at p and q -/
def Bt (p q : Addr) (H H' : Hp) : Prop := ∀ a o, a ≠ p → a ≠ q → H a = some o → H' a = some o
theorem Bt.refl (p q : Addr) (H : Hp) : Bt p q H H := fun _ _ _ _ h => h
theorem Bt.trans {p q : Addr} {H H1 H2 : Hp} (a : Bt p q H H1) (b : Bt p q H1 H2) : Bt p q H H2 := fun x o n m h => b x o n m (a x o n m h)
theorem Same.bt {p q : Addr} {H H1 : Hp} (a : Same H H1) : Bt p q H H1 := fun x o _ _ h => a x o h
theorem Bt.updq {p q : Addr} {H : Hp} {o : HO} : Bt p q H (upd H q o) := fun x u _ m h => by rw [upd_ne m]; exact h
theorem Bt.updp {p q : Addr} {H : Hp} {o : HO} : Bt p q H (upd H p o) := fun x u n _ h => by rw [upd_ne n]; exact h
theorem Bt.new {p q d : Addr} {H H1 : Hp} {o : HO} (b : Bt p q H H1) (h0 : H d = none) : Bt p q H (upd H1 d o) := fun x u n m e => by
  rw [upd_ne (ne_of_none e h0)]
  exact b x u n m e
theorem Bt.free {p q d : Addr} {H H' : Hp} (b : Bt p q H H') (n : d ≠ p) (m : d ≠ q) (h : H' d = none) : H d = none := by
  cases e : H d with
  | none => rfl
  | some o =>
    rw [b d o n m e] at h
    cases h
/-- the pot: large numbers, how many were drawn, the cells -/
structure PotAt (H : Hp) (p q r : Addr) (n : Nat) : Prop where
  ex : ∃ (k : Nat) (xs ys : List Int), H p = some (.lst [.ref q, .int k, .ref r]) ∧ H q = some (.lst (xs.map V.int)) ∧ H r = some (.lst (ys.map V.int)) ∧ k ≤ n ∧ (∀ x ∈ xs, 0 ≤ x) ∧ ys ≠ [] ∧ xs.length ≤ 100 ∧ ys.length ≤ 100
  pq : p ≠ q
  pr : p ≠ r
  qr : q ≠ r
theorem PotAt.same {H H' : Hp} {p q r : Addr} {n : Nat} (s : Same H H') (h : PotAt H p q r n) : PotAt H' p q r n := by
  obtain ⟨k, xs, ys, a, b, c, d⟩ := h.ex
  exact ⟨⟨k, xs, ys, s _ _ a, s _ _ b, s _ _ c, d⟩, h.pq, h.pr, h.qr⟩
theorem PotAt.mono {H : Hp} {p q r : Addr} {n m : Nat} (le : n ≤ m) (h : PotAt H p q r n) : PotAt H p q r m := by
  obtain ⟨k, xs, ys, a, b, c, d, e⟩ := h.ex
  exact ⟨⟨k, xs, ys, a, b, c, Nat.le_trans d le, e⟩, h.pq, h.pr, h.qr⟩
theorem PotAt.ne {H : Hp} {p q r d : Addr} {n : Nat} (h : PotAt H p q r n) (e : H d = none) : d ≠ p ∧ d ≠ q ∧ d ≠ r := by
  obtain ⟨k, xs, ys, a, b, c, _⟩ := h.ex
  exact ⟨(ne_of_none a e).symm, (ne_of_none b e).symm, (ne_of_none c e).symm⟩
theorem PotAt.upd {H : Hp} {p q r d : Addr} {n : Nat} {o : HO} (h : PotAt H p q r n) (n1 : d ≠ p) (n2 : d ≠ q) (n3 : d ≠ r) : PotAt (L2.upd H d o) p q r n := by
  obtain ⟨k, xs, ys, a, b, c, e⟩ := h.ex
  exact ⟨⟨k, xs, ys, by rw [upd_ne n1.symm]; exact a, by rw [upd_ne n2.symm]; exact b, by rw [upd_ne n3.symm]; exact c, e⟩, h.pq, h.pr, h.qr⟩
def spMix : Sp := fun vs H Q _ => ∃ (c : Int) (k : Nat), vs = [.int c, .int k] ∧ k ≤ 1000000 ∧ ∀ d : Int, 0 ≤ d → d < 2147483399 → Q (.int d) H
def spTak : Sp := fun vs H Q _ => ∃ (p q r : Addr) (n : Nat) (m : Int), vs = [.ref p, .int m] ∧ PotAt H p q r n ∧ n ≤ 100000 ∧ 0 < m ∧ m < 1073741824 ∧ ∀ (d : Int) H', 0 ≤ d → d < m → Bt p q H H' → PotAt H' p q r (n + 1) → Q (.int d) H'
theorem dp_ints {K : PySem.W.Frag} {H : Hp} : ∀ zs : List Int, DpAll K H (zs.map V.int) (zs.map PyData.int)
  | [] => .nil
  | z :: r => .cons (.int z) (dp_ints r)
theorem lay_ints : ∀ zs : List Int, PyData.canLayAll0 (zs.map PyData.int) = true ∧ PyData.depthAll (zs.map PyData.int) ≤ 1
  | [] => by simp [PyData.canLayAll0, PyData.depthAll]
  | z :: r => by
    obtain ⟨h2, h3⟩ := lay_ints r
    refine ⟨by simp only [List.map_cons, PyData.canLayAll0, PyData.canLay0, h2, Bool.and_self], ?_⟩
    simp [PyData.depthAll, PyData.depth]
    omega
theorem shaped_ints (zs : List Int) : SeqAt.shaped (.list (zs.map PyData.int)) = true := by
  obtain ⟨h1, h2⟩ := lay_ints zs
  simp [SeqAt.shaped, PyData.canLay0, PyData.depth, h1]
  omega
theorem eqv_nil_ints (zs : List Int) : PyData.eqv (.list (zs.map PyData.int)) (.list []) = decide (zs = []) := by
  cases zs with
  | nil => decide +kernel
  | cons a r => simp [PyData.eqv, PyData.eqvAll]
def lenAt (q : Addr) (H : Hp) : Nat := match H q with
  | some (.lst xs) => xs.length
  | _ => 0
section
variable {P : Program} {w : World} {K : PySem.W.Frag} {mg : Str → Option Value} {base : Heap}
theorem scMix : FnScope ["_law_cell", "_law_k", "_law_number"] ["_law_cell", "_law_k"] (defScope sMix) := ⟨rfl, rfl, rfl, by decide +kernel, rfl, by decide +kernel, by decide +kernel⟩
theorem ok_mix {f : Addr} {fd : FuncData} (F : Fun K "_law_mixed" "_law_mixed" sMix f fd) : FnOk P w K mg base CX0 1 f fd ["_law_cell", "_law_k"] spMix := by
  refine F.ok scMix (fun vs H Q E h => ?_) (fun cdv A outer s H vs Q E hr h => ?_)
  · obtain ⟨c, k, rfl, _⟩ := h
    rfl
  · obtain ⟨c, k, rfl, hk, kk⟩ := h
    have k0 : (0 : Int) ≤ (k : Int) := by omega
    have k1 : (k : Int) ≤ 1000000 := by omega
    have kk0 : (0 : Int) ≤ (k : Int) * k := Int.mul_nonneg k0 k0
    have kk1 : (k : Int) * k ≤ 1000000 * 1000000 := Int.mul_le_mul k1 k1 k0 (by decide)
    refine ⟨_, (pss_cons (ps_set (i := 2) scMix.nd rfl (Or.inl rfl) (pe_op op_mod (pe_op op_mul (pe_op op_add (pv 0) pe_int) (pe_op op_add (pe_op op_mul (pv 1) (pv 1)) pe_int)) pe_int))
      (pss_cons (ps_set (i := 2) scMix.nd rfl (Or.inl rfl) (pe_op op_mod (pe_op op_pow (pe_op op_add (pe_op op_add (pv 2) (pe_op op_mul pe_int (pv 1))) pe_int) pe_int) pe_int))
      (pss_cons (ps_set (i := 2) scMix.nd rfl (Or.inl rfl) (pe_op op_mod (pe_op op_mul (pv 2) (pe_op op_add (pe_op op_add (pe_op op_fdiv (pv 2) pe_int) pe_int) (pe_op op_mul pe_int (pv 1)))) pe_int))
      (pss_one (ps_ret (pe_op op_mod (pe_op op_mul (pv 2) (pe_op op_add (pe_op op_fdiv (pv 2) pe_int) pe_int)) pe_int)))))), ?_⟩
    refine ⟨_, rfl, _, _, rfl, rfl, _, rfl, _, rfl, _, _, rfl, rfl, .inl ⟨by omega, by omega⟩, _, _, rfl, rfl, _, _, rfl, rfl, .inr ⟨by omega, by omega⟩, _, _, rfl, rfl, (show (0 : Int) < 2147483647 by decide), ?_⟩
    dsimp only [List.set_cons_succ, List.set_cons_zero]
    generalize ha : (c + 1) * ((k : Int) * k + 48271) % 2147483647 = a
    have a0 : 0 ≤ a := by rw [← ha]; exact Int.emod_nonneg _ (by decide)
    have a1 : a < 2147483647 := by rw [← ha]; exact Int.emod_lt_of_pos _ (by decide)
    refine ⟨_, rfl, _, rfl, _, _, rfl, rfl, .inl ⟨by omega, by omega⟩, _, _, rfl, rfl, _, _, rfl, rfl, _, _, rfl, rfl, ⟨by decide, by decide, by omega⟩, _, _, rfl, rfl, (show (0 : Int) < 2147483399 by decide), ?_⟩
    dsimp only [List.set_cons_succ, List.set_cons_zero]
    generalize hb : (a + 7919 * (k : Int) + 1) ^ Int.toNat 5 % 2147483399 = b
    have b0 : 0 ≤ b := by rw [← hb]; exact Int.emod_nonneg _ (by decide)
    have b1 : b < 2147483399 := by rw [← hb]; exact Int.emod_lt_of_pos _ (by decide)
    refine ⟨_, rfl, _, rfl, _, _, rfl, rfl, ⟨by decide, by decide⟩, _, _, rfl, rfl, _, rfl, _, _, rfl, rfl, .inl ⟨by omega, by omega⟩, _, _, rfl, rfl, _, _, rfl, rfl, .inl ⟨by omega, by omega⟩, _, _, rfl, rfl, (show (0 : Int) < 2147483647 by decide), ?_⟩
    dsimp only [List.set_cons_succ, List.set_cons_zero]
    generalize hc : b * (b / 1009 + 69621 + 2 * (k : Int)) % 2147483647 = c'
    have c0 : 0 ≤ c' := by rw [← hc]; exact Int.emod_nonneg _ (by decide)
    have c1 : c' < 2147483647 := by rw [← hc]; exact Int.emod_lt_of_pos _ (by decide)
    refine ⟨_, rfl, _, rfl, _, _, rfl, rfl, ⟨by decide, by decide⟩, _, _, rfl, rfl, _, _, rfl, rfl, .inl ⟨by omega, by omega⟩, _, _, rfl, rfl, (show (0 : Int) < 2147483399 by decide), ?_⟩
    exact kk _ (Int.emod_nonneg _ (by decide)) (Int.emod_lt_of_pos _ (by decide))
theorem scTak : FnScope ["_law_pot_here", "_law_many", "_law_found"] ["_law_pot_here", "_law_many"] (defScope sTak) := ⟨rfl, rfl, rfl, by decide +kernel, rfl, by decide +kernel, by decide +kernel⟩
theorem ok_tak {f fM : Addr} {fd dM : FuncData} (F : Fun K "_law_take" "_law_take" sTak f fd) (T : TxB mg) (DM : Dn K mg "_law_mixed" sMix ["_law_cell", "_law_k"] fM dM) : FnOk P w K mg base CX0 2 f fd ["_law_pot_here", "_law_many"] spTak := by
  have GM : FnOk P w K mg base CX0 1 fM dM _ spMix := ok_mix DM.F
  refine F.ok scTak (fun vs H Q E h => ?_) (fun cdv A outer s H vs Q E hr h => ?_)
  · obtain ⟨p, q, r, n, m, rfl, _⟩ := h
    rfl
  · obtain ⟨p, q, r, n, m, rfl, hP, hn, m0, m1, k⟩ := h
    have hr1 : Room 1 _ := hr
    refine ⟨_, (pss_cons (ps_while PassesOwn.never (PW.pt (pw_and (pt_cmpR (op_neD hr.units) (pe_ix ix_list (pv 0) pe_int (fun _ _ => rfl)) (pe_lst pa_nil) (nomark _)) (pw_and1 (pt_cmpR op_eq (pe_ix ix_list (pe_ix ix_list (pv 0) pe_int (fun _ _ => rfl)) pe_int (fun _ _ => rfl)) pe_int (nomark _))))) (pss_one (ps_expr (pe_bm PySem.F.plainAttrs_list PySem.F.slot_list_pop PySem.F.type_list_pop mt_popAt (pe_ix ix_list (pv 0) pe_int (fun _ _ => rfl)) (pa_cons pe_int pa_nil)))))
      (pss_cons (ps_if (pt_cmpR (op_neD hr.units) (pe_ix ix_list (pv 0) pe_int (fun _ _ => rfl)) (pe_lst pa_nil) (nomark _)) (pss_cons (ps_set (i := 2) scTak.nd rfl (Or.inl rfl) (pe_op op_mod (pe_ix ix_list (pe_ix ix_list (pv 0) pe_int (fun _ _ => rfl)) pe_int (fun _ _ => rfl)) (pv 1)))
      (pss_cons (ps_asg (pe_op op_fdiv (pe_ix ix_list (pe_ix ix_list (pv 0) pe_int (fun _ _ => rfl)) pe_int (fun _ _ => rfl)) (pv 1)) (pg_sub (pe_ix ix_list (pv 0) pe_int (fun _ _ => rfl)) pe_int set_list))
      (pss_one (ps_ret (pv 2))))) pss_nil)
      (pss_cons (ps_asg (pe_op op_add (pe_ix ix_list (pv 0) pe_int (fun _ _ => rfl)) pe_int) (pg_sub (pv 0) pe_int set_list))
      (pss_one (ps_ret (pe_op op_mod (pe_call GM hr1 rfl DM.g DM.F.kp DM.b .nil pass0 (pa_cons (pe_ix ix_list (pe_ix ix_list (pv 0) pe_int (fun _ _ => rfl)) (pe_op op_mod (pe_ix ix_list (pv 0) pe_int (fun _ _ => rfl)) (pe_callB call_len_seq (by rfl) T.len (by decide +kernel) (pa_cons (pe_ix ix_list (pv 0) pe_int (fun _ _ => rfl)) pa_nil))) (fun _ _ => rfl)) (pa_cons (pe_ix ix_list (pv 0) pe_int (fun _ _ => rfl)) pa_nil))) (pv 1))))))), ?_⟩
    refine while_by (fun σ H' => σ = [some (.ref p), some (.int m), none] ∧ PotAt H' p q r n ∧ Bt p q H H') (fun _ H' => lenAt q H') ⟨rfl, hP, Bt.refl _ _ _⟩ ?_ ?_
    · rintro σ H1 ⟨rfl, P1, B1⟩
      obtain ⟨kc, xs, ys, e1, e2, e3, hk, hx, hy, x100, y100⟩ := P1.ex
      refine ⟨_, rfl, ?_⟩
      dsimp only [tC]
      refine rdList e1 (j := 0) (v := .ref q) rfl rfl ?_
      refine ⟨Nat.zero_le _, fun l hl => ?_⟩
      have SL : Same H1 (upd H1 l (.lst [])) := Same.upd hl
      have el : (upd H1 l (.lst [])) l = some (.lst []) := upd_same
      have P2 := P1.same SL
      have lenE : lenAt q (upd H1 l (.lst [])) = lenAt q H1 := by
        unfold lenAt
        rw [SL _ _ e2, e2]
      generalize upd H1 l (.lst []) = H2 at SL el P2 lenE
      have e1' := SL _ _ e1
      have e2' := SL _ _ e2
      have e3' := SL _ _ e3
      refine ⟨_, _, .lst (SqL.of e2') (dp_ints xs), .lst (SqL.of el) .nil, shaped_ints xs, by decide +kernel, _, rfl, ?_⟩
      rw [eqv_nil_ints]
      have B2 : Bt p q H H2 := B1.trans (Same.bt SL)
      by_cases hxs : xs = []
      · subst hxs
        rw [decide_eq_true rfl]
        refine iteF ?_
        refine iteF ?_
        -- no large number is left
        refine ⟨_, rfl, ?_⟩
        dsimp only [tC]
        refine rdList e1' (j := 0) (v := .ref q) rfl rfl ?_
        refine ⟨Nat.zero_le _, fun l3 hl3 => ?_⟩
        have S3 : Same H2 (upd H2 l3 (.lst [])) := Same.upd hl3
        have el3 : (upd H2 l3 (.lst [])) l3 = some (.lst []) := upd_same
        have P3 := P2.same S3
        generalize upd H2 l3 (.lst []) = H3 at S3 el3 P3
        refine ⟨_, _, .lst (SqL.of (S3 _ _ e2')) (dp_ints []), .lst (SqL.of el3) .nil, by decide +kernel, by decide +kernel, _, rfl, ?_⟩
        rw [show PyData.eqv (.list (([] : List Int).map PyData.int)) (.list []) = true by decide +kernel]
        refine iteF ?_
        have e13 := S3 _ _ e1'
        have e23 := S3 _ _ e2'
        have e33 := S3 _ _ e3'
        refine ⟨_, rfl, ?_⟩
        dsimp only [tC]
        refine rdList e13 (j := 1) (v := .int kc) rfl rfl ?_
        refine ⟨_, _, rfl, rfl, ?_⟩
        refine ⟨_, rfl, p, _, _, 1, rfl, rfl, e13, rfl, ?_⟩
        have B4 : Bt p q H (upd H3 p (.lst [.ref q, .int (kc + 1), .ref r])) := (B2.trans (Same.bt S3)).trans Bt.updp
        have f1 : (upd H3 p (.lst [.ref q, .int ((kc : Int) + 1), .ref r])) p = some (.lst [.ref q, .int ((kc + 1 : Nat) : Int), .ref r]) := upd_same
        have f2 : (upd H3 p (.lst [.ref q, .int ((kc : Int) + 1), .ref r])) q = some (.lst (([] : List Int).map V.int)) := (upd_ne P1.pq.symm).trans e23
        have f3 : (upd H3 p (.lst [.ref q, .int ((kc : Int) + 1), .ref r])) r = some (.lst (ys.map V.int)) := (upd_ne P1.pr.symm).trans e33
        show tRet _ _ _ (upd H3 p (.lst [.ref q, .int ((kc : Int) + 1), .ref r]))
        have B4 : Bt p q H (upd H3 p (.lst [.ref q, .int ((kc : Int) + 1), .ref r])) := (B2.trans (Same.bt S3)).trans Bt.updp
        generalize upd H3 p (.lst [.ref q, .int ((kc : Int) + 1), .ref r]) = H4 at B4 f1 f2 f3
        have P4 : PotAt H4 p q r (n + 1) := ⟨⟨kc + 1, [], ys, f1, f2, f3, by omega, hx, hy, by simp, y100⟩, P1.pq, P1.pr, P1.qr⟩
        have ypos : 0 < ys.length := List.length_pos_iff.mpr hy
        refine ⟨_, rfl, ?_⟩
        dsimp only [tC]
        refine rdList f1 (j := 2) (v := .ref r) rfl rfl ?_
        refine ⟨_, rfl, ?_⟩
        dsimp only [tC]
        refine rdList f1 (j := 1) (v := .int ((kc + 1 : Nat) : Int)) rfl rfl ?_
        refine ⟨_, rfl, ?_⟩
        dsimp only [tC]
        refine rdList f1 (j := 2) (v := .ref r) rfl rfl ?_
        refine ⟨r, _, rfl, .inl (SqL.of f3), _, _, rfl, rfl, (show (0 : Int) < _ by rw [List.length_map]; omega), ?_⟩
        have jlt : (kc + 1) % ys.length < ys.length := Nat.mod_lt _ ypos
        refine rdList f3 (j := (kc + 1) % ys.length) (v := .int (ys[(kc + 1) % ys.length]'jlt)) (by rw [List.length_map]; omega) (by rw [List.getElem?_map, List.getElem?_eq_getElem jlt]; rfl) ?_
        refine ⟨_, rfl, ?_⟩
        dsimp only [tC]
        refine rdList f1 (j := 1) (v := .int ((kc + 1 : Nat) : Int)) rfl rfl ?_
        refine ⟨_, kc + 1, rfl, by omega, fun d d0 d1 => ?_⟩
        refine ⟨_, rfl, _, _, rfl, rfl, m0, ?_⟩
        exact k _ _ (Int.emod_nonneg _ (by omega)) (Int.emod_lt_of_pos _ m0) B4 P4
      · rw [decide_eq_false hxs]
        refine iteT ?_
        obtain ⟨x0, xr, rfl⟩ : ∃ x0 xr, xs = x0 :: xr := by
          cases xs with
          | nil => exact absurd rfl hxs
          | cons a b => exact ⟨a, b, rfl⟩
        refine ⟨_, rfl, ?_⟩
        dsimp only [tC]
        refine rdList e1' (j := 0) (v := .ref q) rfl rfl ?_
        refine rdList e2' (j := 0) (v := .int x0) rfl rfl ?_
        refine ⟨rfl, _, rfl, ?_⟩
        refine ite2 (fun z => ?_) (fun z => ?_)
        · -- a nought goes
          refine ⟨_, rfl, ?_⟩
          dsimp only [tC]
          refine rdList e1' (j := 0) (v := .ref q) rfl rfl ?_
          have sq : seqIndex? 0 ((x0 :: xr).map V.int).length = some 0 := by
            unfold seqIndex?
            simp
          refine ⟨.inl ⟨rfl, _, SqL.of e2'⟩, q, _, 0, 0, .int x0, rfl, rfl, e2', by decide, by decide, sq, rfl, ?_⟩
          have f1 : (upd H2 q (.lst (xr.map V.int))) p = _ := (upd_ne P1.pq).trans e1'
          have f3 : (upd H2 q (.lst (xr.map V.int))) r = _ := (upd_ne P1.qr.symm).trans e3'
          refine ⟨⟨rfl, ⟨⟨kc, xr, ys, f1, upd_same, f3, hk, fun x hxm => hx x (List.mem_cons_of_mem _ hxm), hy, by simp at x100; omega, y100⟩, P1.pq, P1.pr, P1.qr⟩, B2.trans Bt.updq⟩, ?_⟩
          show lenAt q (upd H2 q (.lst (xr.map V.int))) < lenAt q H1
          unfold lenAt
          rw [upd_same, e2]
          simp
        · -- a large number is used
          have x0p : 0 < x0 := by
            have a := hx x0 List.mem_cons_self
            have b : x0 ≠ 0 := fun e => z (by rw [e]; rfl)
            omega
          refine ⟨_, rfl, ?_⟩
          dsimp only [tC]
          refine rdList e1' (j := 0) (v := .ref q) rfl rfl ?_
          refine ⟨Nat.zero_le _, fun l3 hl3 => ?_⟩
          have S3 : Same H2 (upd H2 l3 (.lst [])) := Same.upd hl3
          have el3 : (upd H2 l3 (.lst [])) l3 = some (.lst []) := upd_same
          generalize upd H2 l3 (.lst []) = H3 at S3 el3
          refine ⟨_, _, .lst (SqL.of (S3 _ _ e2')) (dp_ints _), .lst (SqL.of el3) .nil, shaped_ints _, by decide +kernel, _, rfl, ?_⟩
          rw [eqv_nil_ints, decide_eq_false hxs]
          refine iteT ?_
          have e13 := S3 _ _ e1'
          have e23 := S3 _ _ e2'
          have e33 := S3 _ _ e3'
          refine ⟨_, rfl, ?_⟩
          dsimp only [tC]
          refine rdList e13 (j := 0) (v := .ref q) rfl rfl ?_
          refine rdList e23 (j := 0) (v := .int x0) rfl rfl ?_
          refine ⟨_, rfl, _, _, rfl, rfl, m0, ?_⟩
          dsimp only [List.set_cons_succ, List.set_cons_zero]
          refine ⟨_, rfl, ?_⟩
          dsimp only [tC]
          refine rdList e13 (j := 0) (v := .ref q) rfl rfl ?_
          refine rdList e23 (j := 0) (v := .int x0) rfl rfl ?_
          refine ⟨_, rfl, _, _, rfl, rfl, ⟨m0, m1⟩, ?_⟩
          refine ⟨_, rfl, ?_⟩
          dsimp only [tC]
          refine rdList e13 (j := 0) (v := .ref q) rfl rfl ?_
          have ix : ixN ((x0 :: xr).map V.int).length 0 = some 0 := by
            unfold ixN
            simp
          refine ⟨q, _, _, 0, rfl, rfl, e23, ix, ?_⟩
          refine ⟨_, rfl, ?_⟩
          have f1 : (upd H3 q (.lst ((x0 / m :: xr).map V.int))) p = _ := (upd_ne P1.pq).trans e13
          have f3 : (upd H3 q (.lst ((x0 / m :: xr).map V.int))) r = _ := (upd_ne P1.qr.symm).trans e33
          refine k _ _ (Int.emod_nonneg _ (by omega)) (Int.emod_lt_of_pos _ m0) ((B2.trans (Same.bt S3)).trans Bt.updq) ⟨⟨kc, x0 / m :: xr, ys, f1, upd_same, f3, by omega, fun x hxm => ?_, hy, x100, y100⟩, P1.pq, P1.pr, P1.qr⟩
          rcases List.mem_cons.mp hxm with e | e
          · rw [e]
            exact Int.ediv_nonneg (by omega) (by omega)
          · exact hx x (List.mem_cons_of_mem _ e)
    · intro σ H' Q1 Q2 f h
      obtain ⟨v, e0, p1, xs1, i1, v1, a1, a2, a3, a4, sz, h⟩ := h
      refine ⟨v, e0, p1, xs1, i1, v1, a1, a2, a3, a4, sz, fun d hd => ?_⟩
      obtain ⟨d1, d2, b1, b2, b3, b4, kb, ek, h2⟩ := h d hd
      refine ⟨d1, d2, b1, b2, b3, b4, kb, ek, ?_⟩
      cases kb with
      | false => exact f _ _ h2
      | true =>
        obtain ⟨w0, e1, p2, xs2, i2, w2, c1, c2, c3, c4, p3, xs3, i3, w3, g1, g2, g3, g4, fl, kc, ec, q⟩ := h2
        exact ⟨w0, e1, p2, xs2, i2, w2, c1, c2, c3, c4, p3, xs3, i3, w3, g1, g2, g3, g4, fl, kc, ec, f _ _ q⟩
end
end Wm
namespace Wm
open PySem L2
/-- no blank, and every sign is one of unicode's -/
def ClZ (z : Str) : Prop := okS z ∧ 32 ∉ z.cps.toList
structure NmZ (z : Str) : Prop where
  cl : ClZ z
  l1 : 1 ≤ z.length
  l2 : z.length ≤ 20
theorem ClZ.app {a b : Str} (ha : ClZ a) (hb : ClZ b) : ClZ (a ++ b) := ⟨okS_app ha.1 hb.1, fun h => by
  rw [toList_app] at h
  rcases List.mem_append.mp h with q | q
  · exact ha.2 q
  · exact hb.2 q⟩
theorem ClZ.one {c : Nat} (h : c < 1114112) (n : c ≠ 32) : ClZ ⟨#[c]⟩ := ⟨okS_one h, fun q => by
  have e : 32 = c := by simpa using q
  exact n e.symm⟩
theorem abc_cl : ∀ c ∈ (PySem.Str.ofString "abcdefghijklmnopqrstuvwxyz0123456789").cps.toList, c < 1114112 ∧ c ≠ 32 := by decide +kernel
theorem let_cl : ∀ c ∈ (PySem.Str.ofString "abcdefghijklmnopqrstuvwxyz").cps.toList, c < 1114112 ∧ c ≠ 32 := by decide +kernel
theorem abc26 : (PySem.Str.ofString "abcdefghijklmnopqrstuvwxyz").length = 26 := by decide +kernel
/-- what is left behind j sizes -/
def Rm (j : Nat) : Int := 26 * (36 ^ 12 - 36 ^ j) / 35
theorem Rm_step : ∀ j : Fin 12, Rm j.1 = 26 * 36 ^ j.1 + Rm (j.1 + 1) := by decide +kernel
theorem Rm_end : Rm 12 = 0 := by decide +kernel
def spNAt : Sp := fun vs H Q _ => ∃ i : Int, vs = [.int i] ∧ 0 ≤ i ∧ i < Rm 0 ∧ ∀ z, NmZ z → Q (.str z) H
def spLrg : Sp := fun vs H Q _ => ∃ (p q r : Addr) (n : Nat) (m : Int), vs = [.ref p, .int m] ∧ PotAt H p q r n ∧ n ≤ 90000 ∧ 0 < m ∧ ∀ (d : Int) H', 0 ≤ d → d < m → Bt p q H H' → PotAt H' p q r (n + 7) → Q (.int d) H'
def mu0 (σ : L2.St) : Nat := match σ with
  | some (.int i) :: _ => i.toNat
  | _ => 0
theorem pow_pos' (j : Nat) : (0 : Int) < 26 * 36 ^ j := by
  have : (0 : Int) < 36 ^ j := Int.pow_pos (by decide)
  omega
theorem pow_lt (j : Nat) (h : j ≤ 11) : (26 : Int) * 36 ^ j < 2 ^ 64 := by
  have e : ∀ j : Fin 12, (26 : Int) * 36 ^ j.1 < 2 ^ 64 := by decide +kernel
  exact e ⟨j, by omega⟩
section
variable {P : Program} {w : World} {K : PySem.W.Frag} {mg : Str → Option Value} {base : Heap}
theorem scNAt : FnScope ["_law_index", "_law_size", "_law_many", "_law_word", "_law_k"] ["_law_index"] (defScope sNAt) := ⟨rfl, rfl, rfl, by decide +kernel, rfl, by decide +kernel, by decide +kernel⟩
theorem ok_nat {f : Addr} {fd : FuncData} (F : Fun K "_law_name_at" "_law_name_at" sNAt f fd) (T : TxB mg) : FnOk P w K mg base CX0 1 f fd ["_law_index"] spNAt := by
  refine F.ok scNAt (fun vs H Q E h => ?_) (fun cdv A outer s H vs Q E hr h => ?_)
  · obtain ⟨i, rfl, _⟩ := h
    rfl
  · obtain ⟨i, rfl, i0, i1, k⟩ := h
    refine ⟨_, (pss_cons (ps_set (i := 1) scNAt.nd rfl (Or.inl rfl) pe_int)
      (pss_cons (ps_set (i := 2) scNAt.nd rfl (Or.inl rfl) pe_int)
      (pss_cons (ps_while PassesOwn.never (pt_cmpR op_ge (pv 0) (pv 2) (nomark _)) (pss_cons (ps_set (i := 0) scNAt.nd rfl (Or.inl rfl) (pe_op op_sub (pv 0) (pv 2)))
      (pss_cons (ps_set (i := 2) scNAt.nd rfl (Or.inl rfl) (pe_op op_mul (pv 2) pe_int))
      (pss_one (ps_set (i := 1) scNAt.nd rfl (Or.inl rfl) (pe_op op_add (pv 1) pe_int))))))
      (pss_cons (ps_set (i := 3) scNAt.nd rfl (Or.inl rfl) pe_str)
      (pss_cons (ps_for PassesOwn.never rfl (pi_range1 rfl T.range (pa_cons (pv 1) pa_nil)) (pg_name (i := 4) scNAt.nd rfl (Or.inl rfl)) (pss_cons (ps_set (i := 3) scNAt.nd rfl (Or.inl rfl) (pe_op op_add_str (pe_ix ix_str pe_str (pe_op op_mod (pv 0) pe_int) (fun _ _ => rfl)) (pv 3)))
      (pss_one (ps_set (i := 0) scNAt.nd rfl (Or.inl rfl) (pe_op op_fdiv (pv 0) pe_int)))))
      (pss_one (ps_ret (pe_op op_add_str (pe_ix ix_str pe_str (pv 0) (fun _ _ => rfl)) (pv 3))))))))), ?_⟩
    refine while_by (fun σ H' => H' = H ∧ ∃ (j : Nat) (i' : Int), σ = [some (.int i'), some (.int j), some (.int (26 * 36 ^ j)), none, none] ∧ 0 ≤ i' ∧ i' < Rm j ∧ j ≤ 11) (fun σ _ => mu0 σ) ⟨rfl, 0, i, rfl, i0, i1, by decide⟩ ?_ ?_
    · rintro σ H' ⟨rfl, j, i', rfl, h0, h1, j11⟩
      have st := Rm_step ⟨j, by omega⟩
      have st : Rm j = 26 * 36 ^ j + Rm (j + 1) := st
      have pp := pow_pos' j
      have pl := pow_lt j j11
      refine ⟨_, rfl, _, rfl, _, _, rfl, rfl, _, rfl, ?_⟩
      refine ite2 (fun z => ?_) (fun z => ?_)
      · have hz := of_decide_eq_true z
        refine ⟨_, rfl, _, rfl, _, _, rfl, rfl, ?_⟩
        dsimp only [List.set_cons_succ, List.set_cons_zero]
        refine ⟨_, rfl, _, _, rfl, rfl, .inl ⟨by omega, pl⟩, ?_⟩
        dsimp only [List.set_cons_succ, List.set_cons_zero]
        refine ⟨_, rfl, _, _, rfl, rfl, ?_⟩
        dsimp only [List.set_cons_succ, List.set_cons_zero]
        have j10 : j + 1 ≤ 11 := by
          rcases Nat.lt_or_ge j 11 with q | q
          · omega
          · have ej : j = 11 := by omega
            subst ej
            have e12 : Rm (11 + 1) = 0 := Rm_end
            omega
        refine ⟨⟨rfl, j + 1, i' - 26 * 36 ^ j, ?_, by omega, by omega, j10⟩, ?_⟩
        · have e : (26 : Int) * 36 ^ j * 36 = 26 * 36 ^ (j + 1) := by rw [Int.pow_succ, Int.mul_assoc]
          rw [e]
          rfl
        · show (i' - 26 * 36 ^ j).toNat < i'.toNat
          omega
      · have hz : i' < 26 * 36 ^ j := by
          rcases Int.lt_or_le i' (26 * 36 ^ j) with q | q
          · exact q
          · exact absurd (decide_eq_true q) z
        refine ⟨_, rfl, (j : Int), rfl, by omega, by omega, ?_⟩
        refine for_range (lo := 0) (n := j) (fun t σ H'' => H'' = H' ∧ ∃ (i2 : Int) (z : Str) (v : Option V), σ = [some (.int i2), some (.int j), some (.int (26 * 36 ^ j)), some (.str z), v] ∧ 0 ≤ i2 ∧ i2 < 26 * 36 ^ (j - t) ∧ ClZ z ∧ z.length = t) ⟨rfl, i', _, none, rfl, h0, hz, ⟨fun c hc => (List.not_mem_nil hc).elim, fun hc => (List.not_mem_nil hc).elim⟩, rfl⟩ ?_ ?_
        · rintro t σ H'' ht ⟨rfl, i2, z, v, rfl, a0, a1, cz, lz⟩
          dsimp only [gName, List.set_cons_succ, List.set_cons_zero]
          refine ⟨_, rfl, _, _, rfl, rfl, (show (0 : Int) < 36 by decide), ?_⟩
          refine rdItem (n := 36) abc36 (Int.emod_nonneg _ (by decide)) (Int.emod_lt_of_pos _ (by decide)) (by decide) fun c hc => ?_
          have cc := abc_cl c (List.mem_of_getElem? hc)
          refine ⟨_, rfl, _, _, rfl, rfl, ?_, ?_⟩
          · exact Nat.le_trans (show 1 + z.length ≤ 100 by omega) (by decide)
          dsimp only [gName, List.set_cons_succ, List.set_cons_zero]
          refine ⟨_, rfl, _, _, rfl, rfl, ⟨by decide, by decide⟩, ?_⟩
          dsimp only [gName, List.set_cons_succ, List.set_cons_zero]
          refine ⟨rfl, i2 / 36, _, _, rfl, Int.ediv_nonneg a0 (by decide), ?_, (ClZ.one cc.1 cc.2).app cz, ?_⟩
          · have e : j - t = (j - (t + 1)) + 1 := by omega
            rw [e, Int.pow_succ, ← Int.mul_assoc] at a1
            exact Int.ediv_lt_of_lt_mul (by decide) a1
          · rw [len_app]
            show 1 + z.length = t + 1
            omega
        · rintro σ H'' ⟨rfl, i2, z, v, rfl, a0, a1, cz, lz⟩
          have a2 : i2 < 26 := by
            rw [Nat.sub_self] at a1
            exact a1
          refine ⟨_, rfl, ?_⟩
          refine rdItem (n := 26) abc26 a0 a2 (by decide) fun c hc => ?_
          have cc := let_cl c (List.mem_of_getElem? hc)
          refine ⟨_, rfl, _, _, rfl, rfl, ?_, ?_⟩
          · exact Nat.le_trans (show 1 + z.length ≤ 100 by omega) (by decide)
          refine k _ ⟨(ClZ.one cc.1 cc.2).app cz, ?_, ?_⟩
          · rw [len_app]
            show 1 ≤ 1 + z.length
            omega
          · rw [len_app]
            show 1 + z.length ≤ 20
            omega
    · intro σ H' Q1 Q2 f h
      obtain ⟨x, e1, y, e2, a, b, ha, hb, kb, ek, q⟩ := h
      exact ⟨x, e1, y, e2, a, b, ha, hb, kb, ek, f _ _ q⟩
theorem scLrg : FnScope ["_law_pot_here", "_law_many", "_law_found", "_law_k"] ["_law_pot_here", "_law_many"] (defScope sLrg) := ⟨rfl, rfl, rfl, by decide +kernel, rfl, by decide +kernel, by decide +kernel⟩
theorem ok_lrg {f fT : Addr} {fd dT : FuncData} (F : Fun K "_law_large" "_law_large" sLrg f fd) (T : TxB mg) (DT : Dn K mg "_law_take" sTak ["_law_pot_here", "_law_many"] fT dT) (GT : FnOk P w K mg base CX0 2 fT dT ["_law_pot_here", "_law_many"] spTak) : FnOk P w K mg base CX0 3 f fd ["_law_pot_here", "_law_many"] spLrg := by
  refine F.ok scLrg (fun vs H Q E h => ?_) (fun cdv A outer s H vs Q E hr h => ?_)
  · obtain ⟨p, q, r, n, m, rfl, _⟩ := h
    rfl
  · obtain ⟨p, q, r, n, m, rfl, hP, hn, m0, k⟩ := h
    refine ⟨_, (pss_cons (ps_set (i := 2) scLrg.nd rfl (Or.inl rfl) pe_int)
      (pss_cons (ps_for PassesOwn.never rfl (pi_range1 rfl T.range (pa_cons pe_int pa_nil)) (pg_name (i := 3) scLrg.nd rfl (Or.inl rfl)) (pss_one (ps_set (i := 2) scLrg.nd rfl (Or.inl rfl) (pe_op op_add (pe_op op_mul (pv 2) pe_int) (pe_call GT hr rfl DT.g DT.F.kp DT.b .nil pass0 (pa_cons (pv 0) (pa_cons pe_int pa_nil)))))))
      (pss_one (ps_ret (pe_op op_mod (pv 2) (pv 1)))))), ?_⟩
    refine ⟨7, rfl, by decide, by decide, ?_⟩
    refine for_range (lo := 0) (n := 7) (fun t σ H' => (∃ (fo : Int) (v : Option V), σ = [some (.ref p), some (.int m), some (.int fo), v]) ∧ PotAt H' p q r (n + t) ∧ Bt p q H H') ⟨⟨0, none, rfl⟩, hP, Bt.refl _ _ _⟩ ?_ ?_
    · rintro t σ H1 ht ⟨⟨fo, v, rfl⟩, P1, B1⟩
      dsimp only [gName, List.set_cons_succ, List.set_cons_zero]
      refine ⟨_, rfl, _, _, rfl, rfl, .inr ⟨by decide, by decide⟩, _, rfl, p, q, r, n + t, 1000, rfl, P1, by omega, by decide, by decide, fun d H2 d0 d1 B2 P2 => ⟨_, _, rfl, rfl, ?_⟩⟩
      exact ⟨⟨_, _, rfl⟩, P2, B1.trans B2⟩
    · rintro σ H1 ⟨⟨fo, v, rfl⟩, P1, B1⟩
      refine ⟨_, rfl, _, rfl, _, _, rfl, rfl, m0, ?_⟩
      exact k _ _ (Int.emod_nonneg _ (by omega)) (Int.emod_lt_of_pos _ m0) B1 P1
end
end Wm
namespace Wm
open PySem L2
theorem R0 : Rm 0 = 3519940422753201122 := by decide +kernel
def oddL : List Str := ["by", "rule", "bar", "making", "sorts", "words", "thing", "holds", "awake", "asleep", "do", "make", "drop", "done", "yes", "no"]
theorem odd_nm : ∀ z ∈ oddL, NmZ z := by
  have h : ∀ z ∈ oddL, (∀ c ∈ z.cps.toList, c < 1114112) ∧ 32 ∉ z.cps.toList ∧ 1 ≤ z.length ∧ z.length ≤ 20 := by decide +kernel
  intro z hz
  obtain ⟨a, b, c, d⟩ := h z hz
  exact ⟨⟨a, b⟩, c, d⟩
theorem m_nm {k : Nat} (h : k < 70) : NmZ ("m" ++ numS k) := by
  have a : ∀ k : Fin 70, (∀ c ∈ ("m" ++ numS k.1 : Str).cps.toList, c < 1114112) ∧ 32 ∉ ("m" ++ numS k.1 : Str).cps.toList ∧ 1 ≤ ("m" ++ numS k.1 : Str).length ∧ ("m" ++ numS k.1 : Str).length ≤ 20 := by decide +kernel
  obtain ⟨x, y, z, w⟩ := a ⟨k, h⟩
  exact ⟨⟨x, y⟩, z, w⟩
theorem log_sm {n : Nat} (h : n ≤ 100) : (n : Int).natAbs.log2 < 1920 := by
  have e : (n : Int).natAbs = n := by omega
  rw [e]
  have q : n.log2 ≤ n := Nat.log2_le_self _
  omega
theorem cut3 {a b c R : TS} {D : Ends} {σ : L2.St} {H : Hp} (Good : L2.St → Hp → Prop) (fin : ∀ σ' H', Good σ' H' → R D σ' H') (h : ∀ R' : TS, (∀ σ' H', Good σ' H' → R' D σ' H') → tSeq a (tSeq b (tSeq c R')) D σ H) : tSeq a (tSeq b (tSeq c R)) D σ H := h R fin
def spNam : Sp := fun vs H Q _ => ∃ (p q r l : Addr) (n : Nat), vs = [.ref p, .ref l] ∧ PotAt H p q r n ∧ H l = some (.lst []) ∧ l ≠ p ∧ l ≠ q ∧ n ≤ 80000 ∧ ∀ z H', NmZ z → Bt p q H H' → PotAt H' p q r (n + 12) → Q (.str z) H'
section
variable {P : Program} {w : World} {K : PySem.W.Frag} {mg : Str → Option Value} {base : Heap}
theorem scNam : FnScope ["_law_pot_here", "_law_taken", "_law_kind", "_law_at", "_law_odd", "_law_word", "_law_index"] ["_law_pot_here", "_law_taken"] (defScope sNam) := ⟨rfl, rfl, rfl, by decide +kernel, rfl, by decide +kernel, by decide +kernel⟩
theorem ok_nam {f fT fA fL : Addr} {fd dT dA dL : FuncData} (F : Fun K "_law_name" "_law_name" sNam f fd) (T : TxB mg) (tstr : mg "str" = none) (DT : Dn K mg "_law_take" sTak ["_law_pot_here", "_law_many"] fT dT) (GT : FnOk P w K mg base CX0 2 fT dT ["_law_pot_here", "_law_many"] spTak)
    (DA : Dn K mg "_law_name_at" sNAt ["_law_index"] fA dA) (DL : Dn K mg "_law_large" sLrg ["_law_pot_here", "_law_many"] fL dL) (GL : FnOk P w K mg base CX0 3 fL dL ["_law_pot_here", "_law_many"] spLrg) : FnOk P w K mg base CX0 4 f fd ["_law_pot_here", "_law_taken"] spNam := by
  have GA : FnOk P w K mg base CX0 1 fA dA _ spNAt := ok_nat DA.F T
  refine F.ok scNam (fun vs H Q E h => ?_) (fun cdv A outer s H vs Q E hr h => ?_)
  · obtain ⟨p, q, r, l, n, rfl, _⟩ := h
    rfl
  · obtain ⟨p, q, r, l, n, rfl, hP, hl, nlp, nlq, hn, k⟩ := h
    have hr1 : Room 1 _ := hr.mono (by decide)
    have hr2 : Room 2 _ := hr.mono (by decide)
    have hr3 : Room 3 _ := hr.mono (by decide)
    refine ⟨_, (pss_cons (ps_set (i := 2) scNam.nd rfl (Or.inl rfl) (pe_call GT hr2 rfl DT.g DT.F.kp DT.b .nil pass0 (pa_cons (pv 0) (pa_cons pe_int pa_nil))))
      (pss_cons (ps_if (pt_cmpR op_eq (pv 2) pe_int (nomark _)) (pss_cons (ps_set (i := 3) scNam.nd rfl (Or.inl rfl) (pe_op op_add pe_int (pe_call GT hr2 rfl DT.g DT.F.kp DT.b .nil pass0 (pa_cons (pv 0) (pa_cons pe_int pa_nil)))))
      (pss_cons (ps_while PassesOwn.never (pt_cmpR op_in_seq (pe_op op_add_str pe_str (pe_callTy call_str_int (by rfl) tstr (by decide +kernel) (pa_cons (pv 3) pa_nil))) (pv 1) (by rfl)) (pss_one (ps_set (i := 3) scNam.nd rfl (Or.inl rfl) (pe_op op_add (pv 3) pe_int))))
      (pss_one (ps_ret (pe_op op_add_str pe_str (pe_callTy call_str_int (by rfl) tstr (by decide +kernel) (pa_cons (pv 3) pa_nil))))))) pss_nil)
      (pss_cons (ps_set (i := 4) scNam.nd rfl (Or.inl rfl) (pe_lst (pa_cons pe_str (pa_cons pe_str (pa_cons pe_str (pa_cons pe_str (pa_cons pe_str (pa_cons pe_str (pa_cons pe_str (pa_cons pe_str (pa_cons pe_str (pa_cons pe_str pa_nil))))))))))))
      (pss_cons (ps_set (i := 4) scNam.nd rfl (Or.inl rfl) (pe_op op_cat (pv 4) (pe_lst (pa_cons pe_str (pa_cons pe_str (pa_cons pe_str (pa_cons pe_str (pa_cons pe_str (pa_cons pe_str pa_nil)))))))))
      (pss_cons (ps_set (i := 5) scNam.nd rfl (Or.inl rfl) (pe_ix ix_list (pv 4) (pe_call GT hr2 rfl DT.g DT.F.kp DT.b .nil pass0 (pa_cons (pv 0) (pa_cons pe_int pa_nil))) (fun _ _ => rfl)))
      (pss_cons (ps_if (PW.pt (pw_and (pt_cmpR op_eq (pv 2) pe_int (nomark _)) (pw_and1 (pt_cmpR op_notIn_seq (pv 5) (pv 1) (by rfl))))) (pss_one (ps_ret (pv 5))) pss_nil)
      (pss_cons (ps_set (i := 6) scNam.nd rfl (Or.inl rfl) (pe_call GT hr2 rfl DT.g DT.F.kp DT.b .nil pass0 (pa_cons (pv 0) (pa_cons pe_int pa_nil))))
      (pss_cons (ps_if (pt_cmpR op_eq (pv 2) pe_int (nomark _)) (pss_one (ps_set (i := 6) scNam.nd rfl (Or.inl rfl) (pe_call GT hr2 rfl DT.g DT.F.kp DT.b .nil pass0 (pa_cons (pv 0) (pa_cons pe_int pa_nil))))) pss_nil)
      (pss_cons (ps_if (pt_cmpR op_eq (pv 2) pe_int (nomark _)) (pss_one (ps_set (i := 6) scNam.nd rfl (Or.inl rfl) (pe_call GL hr3 rfl DL.g DL.F.kp DL.b .nil pass0 (pa_cons (pv 0) (pa_cons (pe_op op_pow pe_int pe_int) pa_nil))))) pss_nil)
      (pss_cons (ps_if (pt_cmpR op_eq (pv 2) pe_int (nomark _)) (pss_one (ps_set (i := 6) scNam.nd rfl (Or.inl rfl) (pe_op op_add (pe_op op_fdiv (pe_op op_mul pe_int (pe_op op_sub (pe_op op_pow pe_int pe_int) pe_int)) pe_int) (pe_call GL hr3 rfl DL.g DL.F.kp DL.b .nil pass0 (pa_cons (pv 0) (pa_cons (pe_op op_sub (pe_op op_mul pe_int (pe_op op_pow pe_int pe_int)) pe_int) pa_nil)))))) pss_nil)
      (pss_cons (ps_while PassesOwn.never (pt_cmpR op_in_seq (pe_call GA hr1 rfl DA.g DA.F.kp DA.b .nil pass0 (pa_cons (pv 6) pa_nil)) (pv 1) (by rfl)) (pss_one (ps_set (i := 6) scNam.nd rfl (Or.inl rfl) (pe_op op_add (pv 6) pe_int))))
      (pss_one (ps_ret (pe_call GA hr1 rfl DA.g DA.F.kp DA.b .nil pass0 (pa_cons (pv 6) pa_nil))))))))))))))), ?_⟩
    refine ⟨_, rfl, p, q, r, n, 7, rfl, hP, by omega, by decide, by decide, fun kd H1 k0 k7 B1 P1 => ?_⟩
    dsimp only [List.set_cons_succ, List.set_cons_zero]
    have l1 : H1 l = some (.lst []) := B1 _ _ nlp nlq hl
    refine ⟨_, rfl, rfl, _, rfl, ?_⟩
    refine ite2 (fun z => ?_) (fun z => ?_)
    · -- one that finishing makes
      refine ⟨_, rfl, p, q, r, n + 1, 5, rfl, P1, by omega, by decide, by decide, fun d H2 d0 d5 B2 P2 => ⟨_, _, rfl, rfl, ?_⟩⟩
      dsimp only [List.set_cons_succ, List.set_cons_zero]
      obtain ⟨a, ea, a5⟩ : ∃ a : Nat, 1 + d = (a : Int) ∧ a ≤ 5 := ⟨(1 + d).toNat, by omega, by omega⟩
      rw [ea]
      have l2 : H2 l = some (.lst []) := B2 _ _ nlp nlq l1
      have nq := num_sign (n := a) (by omega)
      have sz : (PySem.Str.ofString "m").length + (numS a).length ≤ sizeLine := Nat.le_trans (show 1 + (numS a).length ≤ 100 by omega) (by decide)
      refine while_by (fun σ H' => σ = [some (.ref p), some (.ref l), some (.int kd), some (.int a), none, none, none] ∧ H' = H2) (fun _ _ => 0) ⟨rfl, rfl⟩ ?_ ?_
      · rintro σ H' ⟨rfl, rfl⟩
        refine ⟨_, rfl, _, rfl, log_sm (by omega), _, _, rfl, rfl, sz, _, rfl, l, _, rfl, .inl (SqL.of l2), rfl, rfl, _, rfl, ?_⟩
        refine iteF ?_
        refine ⟨_, rfl, _, rfl, log_sm (by omega), _, _, rfl, rfl, sz, ?_⟩
        exact k _ _ (m_nm (by omega)) (B1.trans B2) (P2.mono (by omega))
      · intro σ H' Q1 Q2 f h
        obtain ⟨x, e1, y, e2, lg, a', b', ea', eb', sz', u, eu, p', xs, e3, aa, b, c, bb, e4, q⟩ := h
        exact ⟨x, e1, y, e2, lg, a', b', ea', eb', sz', u, eu, p', xs, e3, aa, b, c, bb, e4, f _ _ q⟩
    -- an odd word, or one at an index
    refine ⟨by show 10 ≤ sizeLine; decide, fun la hla => ?_⟩
    dsimp only [List.set_cons_succ, List.set_cons_zero]
    have SA : Same H1 (upd H1 la (.lst [.str "by", .str "rule", .str "bar", .str "making", .str "sorts", .str "words", .str "thing", .str "holds", .str "awake", .str "asleep"])) := Same.upd hla
    have ea : (upd H1 la (.lst [.str "by", .str "rule", .str "bar", .str "making", .str "sorts", .str "words", .str "thing", .str "holds", .str "awake", .str "asleep"])) la = some (.lst [.str "by", .str "rule", .str "bar", .str "making", .str "sorts", .str "words", .str "thing", .str "holds", .str "awake", .str "asleep"]) := upd_same
    generalize upd H1 la (.lst [.str "by", .str "rule", .str "bar", .str "making", .str "sorts", .str "words", .str "thing", .str "holds", .str "awake", .str "asleep"]) = Ha at SA ea
    refine ⟨_, rfl, by show 6 ≤ sizeLine; decide, fun lb hlb => ?_⟩
    have SB : Same Ha (upd Ha lb (.lst [.str "do", .str "make", .str "drop", .str "done", .str "yes", .str "no"])) := Same.upd hlb
    have eb : (upd Ha lb (.lst [.str "do", .str "make", .str "drop", .str "done", .str "yes", .str "no"])) lb = some (.lst [.str "do", .str "make", .str "drop", .str "done", .str "yes", .str "no"]) := upd_same
    have ea2 := SB _ _ ea
    generalize upd Ha lb (.lst [.str "do", .str "make", .str "drop", .str "done", .str "yes", .str "no"]) = Hb at SB eb ea2
    refine ⟨la, lb, _, _, rfl, rfl, ea2, eb, by show 16 ≤ sizeLine; decide, fun lo hlo => ?_⟩
    dsimp only [List.set_cons_succ, List.set_cons_zero]
    have SC : Same Hb (upd Hb lo (.lst ([.str "by", .str "rule", .str "bar", .str "making", .str "sorts", .str "words", .str "thing", .str "holds", .str "awake", .str "asleep"] ++ [.str "do", .str "make", .str "drop", .str "done", .str "yes", .str "no"]))) := Same.upd hlo
    have eo : (upd Hb lo (.lst ([.str "by", .str "rule", .str "bar", .str "making", .str "sorts", .str "words", .str "thing", .str "holds", .str "awake", .str "asleep"] ++ [.str "do", .str "make", .str "drop", .str "done", .str "yes", .str "no"]))) lo = some (.lst (oddL.map V.str)) := upd_same
    have S1 := (SA.trans SB).trans SC
    have P2 := P1.same S1
    have nlo := ((P1.same (SA.trans SB)).ne hlo)
    generalize upd Hb lo (.lst ([.str "by", .str "rule", .str "bar", .str "making", .str "sorts", .str "words", .str "thing", .str "holds", .str "awake", .str "asleep"] ++ [.str "do", .str "make", .str "drop", .str "done", .str "yes", .str "no"])) = H2 at SC eo S1 P2
    have l2 := S1 _ _ l1
    have B2 : Bt p q H H2 := B1.trans (Same.bt S1)
    refine ⟨_, rfl, _, rfl, p, q, r, n + 1, 16, rfl, P2, by omega, by decide, by decide, fun d H3 d0 d16 B3 P3 => ?_⟩
    have jlt : d.toNat < oddL.length := by show d.toNat < 16; omega
    refine rdList (B3 _ _ nlo.1 nlo.2.1 eo) (j := d.toNat) (v := .str (oddL[d.toNat]'jlt)) (by omega) (by rw [List.getElem?_map, List.getElem?_eq_getElem jlt]; rfl) ?_
    dsimp only [List.set_cons_succ, List.set_cons_zero]
    have oz := odd_nm _ (List.getElem_mem jlt)
    have l3 := B3 _ _ nlp nlq l2
    have B03 := B2.trans B3
    generalize oddL[d.toNat]'jlt = zo at oz
    refine ⟨_, rfl, rfl, _, rfl, ?_⟩
    refine ite2 (fun z1 => ?_) (fun z1 => ?_)
    · refine ⟨_, rfl, _, rfl, l, _, rfl, .inl (SqL.of l3), rfl, rfl, _, rfl, ?_⟩
      refine iteT ?_
      exact ⟨_, rfl, k _ _ oz B03 (P3.mono (by omega))⟩
    refine iteF ?_
    refine ⟨_, rfl, p, q, r, n + 2, 26, rfl, P3, by omega, by decide, by decide, fun d4 H4 d40 d41 B4 P4 => ?_⟩
    dsimp only [List.set_cons_succ, List.set_cons_zero]
    have B04 := B03.trans B4
    have l4 := B4 _ _ nlp nlq l3
    have R := R0
    refine cut3 (fun σ' H' => ∃ ix : Int, σ' = [some (.ref p), some (.ref l), some (.int kd), none, some (.ref lo), some (.str zo), some (.int ix)] ∧ 0 ≤ ix ∧ ix < Rm 0 ∧ Bt p q H H' ∧ PotAt H' p q r (n + 12) ∧ H' l = some (.lst [])) ?_ (fun R' fin => ?_)
    · rintro σ' H5 ⟨ix, rfl, x0, x1, B5, P5, l5⟩
      refine while_by (fun σ H' => σ = [some (.ref p), some (.ref l), some (.int kd), none, some (.ref lo), some (.str zo), some (.int ix)] ∧ H' = H5) (fun _ _ => 0) ⟨rfl, rfl⟩ ?_ ?_
      · rintro σ H' ⟨rfl, rfl⟩
        refine ⟨_, rfl, ix, rfl, x0, x1, fun z hz => ?_⟩
        refine ⟨_, rfl, l, _, rfl, .inl (SqL.of l5), rfl, rfl, _, rfl, ?_⟩
        refine iteF ?_
        exact ⟨_, rfl, ix, rfl, x0, x1, fun z hz => k _ _ hz B5 P5⟩
      · intro σ H' Q1 Q2 f h
        obtain ⟨x, e1, i, ei, i0, i1, g⟩ := h
        refine ⟨x, e1, i, ei, i0, i1, fun z hz => ?_⟩
        obtain ⟨u, eu, p', xs, e3, aa, b, c, bb, e4, q⟩ := g z hz
        exact ⟨u, eu, p', xs, e3, aa, b, c, bb, e4, f _ _ q⟩
    refine ⟨_, rfl, rfl, _, rfl, ?_⟩
    refine ite2 (fun z2 => ?_) (fun z2 => ?_)
    · have e2 : kd = 2 := V.int.inj (of_decide_eq_true z2)
      subst e2
      refine ⟨_, rfl, p, q, r, n + 3, 962, rfl, P4, by omega, by decide, by decide, fun d5 H5 d50 d51 B5 P5 => ?_⟩
      dsimp only [gName, List.set_cons_succ, List.set_cons_zero]
      refine ⟨_, rfl, rfl, _, rfl, ?_⟩
      refine ite2 (fun q => absurd (V.int.inj (of_decide_eq_true q)) (by decide)) (fun _ => ?_)
      refine ⟨_, rfl, rfl, _, rfl, ?_⟩
      refine ite2 (fun q => absurd (V.int.inj (of_decide_eq_true q)) (by decide)) (fun _ => ?_)
      exact fin _ _ ⟨d5, rfl, d50, by omega, B04.trans B5, P5.mono (by omega), B5 _ _ nlp nlq l4⟩
    refine ⟨_, rfl, rfl, _, rfl, ?_⟩
    refine ite2 (fun z3 => ?_) (fun z3 => ?_)
    · have e3 : kd = 3 := V.int.inj (of_decide_eq_true z3)
      subst e3
      refine ⟨_, rfl, _, _, rfl, rfl, ⟨by decide, by decide, by decide⟩, p, q, r, n + 3, _, rfl, P4, by omega, by decide, fun d5 H5 d50 d51 B5 P5 => ?_⟩
      dsimp only [gName, List.set_cons_succ, List.set_cons_zero]
      have d52 : d5 < 1000000000 := d51
      refine ⟨_, rfl, rfl, _, rfl, ?_⟩
      refine ite2 (fun q => absurd (V.int.inj (of_decide_eq_true q)) (by decide)) (fun _ => ?_)
      exact fin _ _ ⟨d5, rfl, d50, by omega, B04.trans B5, P5.mono (by omega), B5 _ _ nlp nlq l4⟩
    refine ⟨_, rfl, rfl, _, rfl, ?_⟩
    refine ite2 (fun z4 => ?_) (fun z4 => ?_)
    · refine ⟨_, _, rfl, rfl, ⟨by decide, by decide, by decide⟩, _, _, rfl, rfl, _, _, rfl, rfl, .inl ⟨by decide, by decide⟩, _, _, rfl, rfl, ⟨by decide, by decide⟩, ?_⟩
      refine ⟨_, rfl, _, _, rfl, rfl, ⟨by decide, by decide, by decide⟩, _, _, rfl, rfl, .inl ⟨by decide, by decide⟩, _, _, rfl, rfl, p, q, r, n + 3, _, rfl, P4, by omega, by decide, fun d5 H5 d50 d51 B5 P5 => ⟨_, _, rfl, rfl, ?_⟩⟩
      dsimp only [gName, List.set_cons_succ, List.set_cons_zero]
      have d52 : d5 < 3422164299898945336 := d51
      refine fin _ _ ⟨_, rfl, ?_, ?_, B04.trans B5, P5.mono (by omega), B5 _ _ nlp nlq l4⟩
      · show (0 : Int) ≤ 97776122854255586 + d5
        omega
      · show (97776122854255586 : Int) + d5 < Rm 0
        omega
    · exact fin _ _ ⟨d4, rfl, d40, by omega, B04, P4.mono (by omega), l4⟩
end
end Wm
/-! lists walked to their end while an error is handled: sum, comprehensions -/
namespace Wm
open PySem PySem.Spec PyProof.Rows L2 HotX
section
variable {prog : Program} {w : World} {A : Around} {E : Value → Shared → Prop} {s : Shared}
/-- a list iterator at its end: the StopIteration gets the handled error as its context, nothing else is touched -/
theorem next_end_hot {it l x1 : Addr} {i : Nat} {items : Array Value} {Q : Option Value → Shared → Prop} (hot : HotAt A x1 s.heap) (hne : x1 ≠ it) (hit : s.heap.IsListIter it l i) (hl : s.heap.IsList l items) (hx : items[i]? = none)
    (hQ : ∀ h', Heap.ExtBut it s.heap h' → Q none { s with heap := h' }) : wpAny (model prog w) A (pyNext (.ref it)) Q E s := by
  obtain ⟨hh, o1, vs1, g1, f1, c1⟩ := hot
  obtain ⟨oi, gi, ci, di⟩ := id hit
  obtain ⟨ol, gl, _, nl, dl⟩ := hl
  have slot := slot_listiter_next
  unfold pyNext
  refine wpAny_bind (wpAny_attempt (wpAny_callSpecial?_slot (name := Str.ofString "__next__") hit.typeIs slot (wpAny_call_entry slot hit.typeIs entry_listiter_next ?_ (args_listiter_next _))))
  have rd0 : ∀ {Q' : Value → Shared → Prop} {E'} {A'}, Q' (.ref l) s → wpAny (model prog w) A' (field (.ref it) 0) Q' E' s := fun q => wpAny_field gi di (x := .ref l) rfl q
  have rd1 : ∀ {Q' : Value → Shared → Prop} {E'} {A'}, Q' (.int i 0) s → wpAny (model prog w) A' (field (.ref it) 1) Q' E' s := fun q => wpAny_field gi di (x := .int i 0) rfl q
  show wpAny _ _ (field (.ref it) 0 >>= _) _ _ s
  refine wpAny_bind (rd0 ?_)
  show wpAny _ _ (if (Value.ref l == Value.none) = true then _ else _) _ _ s
  rw [if_neg (show ¬ ((Value.ref l == Value.none) = true) from Bool.false_ne_true)]
  show wpAny _ _ (field (.ref it) 1 >>= _) _ _ s
  refine wpAny_bind (rd1 ?_)
  show wpAny _ _ (seqItems? (.ref l) >>= _) _ _ s
  refine wpAny_bind (wpAny_seqItems gl dl ?_)
  simp only [Int.toNat_natCast, hx]
  refine wpAny_bind (wpAny_rule (wpAny_bind (wpAny_setField gi di (by simp) ?_)))
  show wpAny _ _ (newExc (.type "StopIteration") [] >>= _) _ _ _
  refine wpAny_bind ?_
  simp only [newExc, newTuple]
  refine wpAny_bind (wpAny_newObj_type ?_ (by size_fits))
  refine wpAny_bind (m := firstArgMember _ _) (wpAny_of_eq (a := Value.none) (by first | rfl | (simp only [firstArgMember]; rfl)) ?_)
  refine wpAny_newObj_type ?_ (by size_fits)
  refine raiseNew_hot ⟨hh, o1, vs1, (((Heap.SameBut.update ..).extBut.push _).push _) x1 o1 hne g1, f1, c1⟩ (Nat.ne_of_lt (Heap.lt_size (((Heap.SameBut.update ..).extBut.push _) x1 o1 hne g1))) (Heap.get?_push_size _ rfl) rfl (by first | (simp; done) | (simp; omega) | (simp only [Array.size_append]; simp; omega)) ?_
  refine wpAny_bind (wpAny_isInstance (T := "StopIteration") (b := true) ⟨_, Heap.get?_update_self _ (Heap.get?_push_size _ rfl) rfl, rfl⟩ isSubtype_stop ?_)
  refine wpAny_pure (hQ _ fun b o nb e => ?_)
  rw [Heap.get?_update_other _ _ (Nat.ne_of_gt (Heap.lt_size (((Heap.SameBut.update ..).extBut.push _) b o nb e)))]
  exact (((Heap.SameBut.update ..).extBut.push _).push _) b o nb e
/-- the walk over a list, the handled error's object kept in sight -/
theorem walks_hot {x1 : Addr} {o1 : Obj} {v1 : Array Value} (hh : A.handled = some (.ref x1)) (d1 : o1.data = .fields v1) (c1 : v1[2]? = some .none) (I ax : Addr) (hne : ax ≠ I) (hx : x1 ≠ I) (items : Array Value) :
    Walks prog w A I [I, ax, x1] [I] items.size (fun i v => items[i]? = some v) (fun i h => h.IsListIter I ax i ∧ h.IsList ax items ∧ h.get? x1 = some o1) where
  sub := fun b hb => by
    rw [List.mem_singleton.mp hb]
    exact List.mem_cons_self
  frame := fun i h h' ⟨a, b, c⟩ k => ⟨a.at fun o e => k I (by simp) o e, b.at fun o e => k ax (by simp) o e, k x1 (by simp) o1 c⟩
  item := fun i s Q E hi ⟨a, b, c⟩ q => by
    refine wpAny_pyNext_list_item a b (Array.getElem?_eq_getElem hi) fun h' a' sb => ?_
    exact q _ h' s.toks (Array.getElem?_eq_getElem hi) ⟨a', b.at fun o e => (sb.2 ax hne).trans e, (sb.2 x1 hx).trans c⟩ fun y o ny e => (sb.2 y (fun z => ny (by rw [z]; exact List.mem_cons_self))).trans e
  done := fun s Q E ⟨a, b, c⟩ q => next_end_hot ⟨hh, o1, v1, c, d1, c1⟩ hx a b (Array.getElem?_eq_none (Nat.le_refl _)) fun h' eb => q h' s.toks fun y o ny e => eb y o (fun z => ny (by rw [z]; exact List.mem_cons_self)) e
  self := fun i s Q E ⟨a, _, _⟩ q => wpAny_pyIter_listiter a q
theorem sum_hot {l x1 : Addr} {o1 : Obj} {v1 : Array Value} {its : List Value} {ns : List Int} {Q : Value → Shared → Prop} (hh : A.handled = some (.ref x1)) (g1 : s.heap.get? x1 = some o1) (d1 : o1.data = .fields v1) (c1 : v1[2]? = some .none) (hl : s.heap.IsList l its.toArray) (hi : IntsAre its ns)
    (h : ∀ h' tk t', (∀ b o, s.heap.get? b = some o → h'.get? b = some o) → Q (.int ns.sum t') { s with heap := h', toks := tk }) : wpAny (model prog w) A (call (.builtin "sum") [.ref l]) Q E s := by
  obtain ⟨xs, e⟩ := hi.allInts.items
  have hn : numsOf (intItems xs).toList = ns := by rw [← e]; exact hi.numsOf
  rw [nums_intItems] at hn
  rw [e] at hl
  refine call_sum_walkG (iter_intList hl fun s2 e2 st fpl hlI => ?_)
  subst e2
  have hx : x1 ≠ s.heap.objs.size := Nat.ne_of_lt (Heap.lt_size g1)
  refine ⟨_, _, _, _, _, _, numAt xs, rfl, walks_hot (A := A.in1) hh d1 c1 _ l hlI hx (intItems xs), ⟨st.1, st.2, Heap.get?_push_of_some _ g1⟩, fun b hb => ?_, (fun _ _ => intItems_at), fun h' tk t' hk => ?_⟩
  · rcases List.mem_cons.mp hb with z | hb
    · exact fpl b (by rw [z]; simp)
    rcases List.mem_cons.mp hb with z | hb
    · exact fpl b (by rw [z]; simp)
    · rw [List.mem_singleton.mp hb]
      exact Heap.lt_size (Heap.get?_push_of_some _ g1)
  · have q := h h' tk t' (old_kept hk)
    have e3 : preSum (numAt xs) (intItems xs).size = ns.sum := by
      rw [preSum_eq, List.take_of_length_le (by simp [intItems]), hn]
    rw [e3]
    exact q
end
section
variable {X : Cx} {a : Addr} {oe : Obj} {vf : Array Value} {pn : List (Addr × Obj)}
theorem cr_sumH (hf : oe.data = .fields vf) (hn : vf[2]? = some .none) : CallR (X.suite a ((a, oe) :: pn)) (.builtin "sum") (rSum X.K) := by
  intro pins s σ H vs us Q I r h
  obtain ⟨l, ns, rfl, hs, q⟩ := h
  obtain ⟨its, rv, hl, _⟩ := I.list hs
  have P1 := I.pin (a, oe) (List.mem_append_left _ (List.mem_cons_self ..))
  rw [Vals.ref1 r]
  exact sum_hot (x1 := a) rfl P1.1 hf hn hl.isList rv.ints fun h' tk t' hk => ⟨.int _, H, I.kept hk, ⟨_, rfl⟩, q⟩
end
end Wm
/-! [elt for target in a list], no tests, while an error is handled -/
namespace Wm
open PySem PySem.Spec PyProof.Rows L2 HotX
/-- W i: what holds ahead of the turn i -/
def tLcH (K : PySem.W.Frag) (tl : TE) (g : TG) (te : TE) (vs : List Nat) : TE := fun σ H Q => tl σ H fun v H1 => ∃ (l : Addr) (xs : List V), v = .ref l ∧ SqL K H1 l xs ∧ ∀ D, H1 D = none → ∃ W : Nat → Hp → Prop, W 0 (upd H1 D (.lst [])) ∧ (∀ i H', W i H' → SqL K H' l xs) ∧
  (∀ i x H', xs[i]? = some x → W i H' → g x (wipe σ vs) H' fun σ2 H2 => wipe σ2 vs = wipe σ vs ∧ te σ2 H2 fun y H4 => ∃ acc, H4 D = some (.lst acc) ∧ acc.length < sizeLine ∧ W (i + 1) (upd H4 D (.lst (acc ++ [y])))) ∧ ∀ H', W xs.length H' → Q (.ref D) H'
section
variable {X : Cx} {a : Addr} {oe : Obj} {vf : Array Value}
theorem pe_lcH {elt tg l : Expr} {scope : Scope} {own : List (Str × Nat)} {pos : Pos} {tl : TE} {g : TG} {te : TE} (hA : X.A.handled = some (.ref a)) (hpn : (a, oe) ∈ X.pn) (hf : oe.data = .fields vf) (hn : vf[2]? = some .none) (hN : X.N.Nodup) (hl : PE X l tl) (ok : BlkOk X.N X.env.scope scope own)
    (hg : ∀ (s : Shared) (H : Hp) (C : Addr) (cl : List (Str × Addr)) (fp : List Addr), PG (X.blk s H scope (compEnvC scope cl C X.env) fp) tg g)
    (he : ∀ (s : Shared) (H : Hp) (C : Addr) (cl : List (Str × Addr)) (fp : List Addr), PE (X.blk s H scope (compEnvC scope cl C X.env) fp) elt te) (hs : ∀ x, foldedSetIterable l X.env x = pure x := by intro _; rfl) :
    PE X (.ListComp elt [⟨tg, l, [], 0⟩] scope pos) (tLcH X.K tl g te (own.map (·.2))) := by
  refine ⟨fun pins s σ H Q I h => ?_⟩
  rw [eval_ListComp]
  have cells : ∀ y ∈ scope.names, y.2 = .free → ∃ c, X.env.cells.lookup y.1 = some c := fun y hy e => (ok.free y hy e).elim (fun k => I.ok.has _ (.inl k)) (fun k => I.ok.has _ (.inr k))
  refine wpAny_comprehension_free (use := none) rfl hs (closure_ok cells) ok.kind (fun y hy e => by rw [ok.uniq y hy, e]) (thn (hl.run pins s σ H _ I h) fun v s1 ⟨x, H1, I1, r1, q1⟩ => ?_)
  obtain ⟨la, xs, rfl, hq, q⟩ := q1
  cases r1
  obtain ⟨its, rv, p, hz⟩ := I1.list hq
  refine wpAny_pyIter_list p.isList ?_
  -- the iterator, the new list, the block
  generalize hit : s1.heap.objs.size = it
  have itn : H1 it = none := I1.hok.fresh (Nat.le_of_eq hit)
  have I2 : Inv X pins σ H1 { s1 with heap := s1.heap.push { cls := .type "list_iterator", data := .fields #[.ref la, .int 0 0] } } := I1.kept (t' := s1.toks) fun b o e => Heap.get?_push_of_some _ e
  have st2 : ({ s1 with heap := s1.heap.push { cls := .type "list_iterator", data := .fields #[.ref la, .int 0 0] } } : Shared).heap.IsListIter it la 0 := by
    rw [← hit]
    exact ⟨_, Heap.get?_push_size _ rfl, rfl, rfl⟩
  have fp2 : FpOk X pins H1 it := I1.fpOk (Nat.le_of_eq hit) itn
  generalize hs2 : ({ s1 with heap := s1.heap.push { cls := .type "list_iterator", data := .fields #[.ref la, .int 0 0] } } : Shared) = s2 at I2 st2 ⊢
  refine wpAny_newObj_type (newEnv_comp ?_) (by show 0 ≤ sizeLine; decide)
  generalize hD : s2.heap.objs.size = D
  have Dn : H1 D = none := I2.hok.fresh (Nat.le_of_eq hD)
  have itD : it ≠ D := fun z => by
    obtain ⟨o, e, _⟩ := st2
    exact absurd (Heap.lt_size e) (by rw [z, ← hD]; exact Nat.lt_irrefl _)
  obtain ⟨W, w0, wq, step, fin⟩ := q D Dn
  have I3 : Inv X pins σ (upd H1 D (.lst [])) { s2 with heap := s2.heap.push { cls := .type "list", data := .seq ([] : List Value).toArray } } := by
    refine I2.laid (t' := s2.toks) (fun b o e => Heap.get?_push_of_some _ e) (Nat.le_of_eq hD) ⟨Nat.zero_le _, [], 0, .nil, ?_⟩
    rw [← hD]
    exact Heap.get?_push_size _ rfl
  have st3 : ({ s2 with heap := s2.heap.push { cls := .type "list", data := .seq ([] : List Value).toArray } } : Shared).heap.IsListIter it la 0 := st2.at fun o e => Heap.get?_push_of_some _ e
  generalize ({ s2 with heap := s2.heap.push { cls := .type "list", data := .seq ([] : List Value).toArray } } : Shared) = s3 at I3 st3 ⊢
  generalize hH3 : upd H1 D (.lst []) = H3 at I3 w0
  have it3 : H3 it = none := by rw [← hH3, upd_ne itD]; exact itn
  have fp3 : ∀ b ∈ [it], FpOk X pins H3 b ∧ b < s3.heap.objs.size := fun b hb => by
    rw [List.mem_singleton.mp hb]
    obtain ⟨o, e, _⟩ := st3
    exact ⟨⟨it3, fp2.2⟩, Heap.lt_size e⟩
  have I4 := block_start I3 ok hN fp3
  have pg := hg s3 H3 s3.heap.objs.size (cellsFrom (s3.heap.objs.size + 1) scope.names (cloFrom X.env.cells scope.names [])) [it]
  have pe := he s3 H3 s3.heap.objs.size (cellsFrom (s3.heap.objs.size + 1) scope.names (cloFrom X.env.cells scope.names [])) [it]
  have P3 := I3.pin (a, oe) (List.mem_append_left _ hpn)
  have aS : a ∉ frs X.stack := fun z => (List.mem_cons.mp (I3.stkSub a z)).elim P3.2.2.1 P3.2.2.2.1
  have aI : a ≠ it := fun z => fp2.2.2.2.2.2 (a, oe) (List.mem_append_left _ hpn) z
  show codeAny _ _ (.compStart (.ListComp elt [⟨tg, l, [], 0⟩] scope pos) 0 (.ref it) (.ref D) (compEnvC scope (cellsFrom (s3.heap.objs.size + 1) scope.names (cloFrom X.env.cells scope.names [])) s3.heap.objs.size X.env)) _ { s3 with heap := pushCells (s3.heap.push { cls := .type "dict", data := .dict #[] }) scope.names }
  generalize hce : compEnvC scope (cellsFrom (s3.heap.objs.size + 1) scope.names (cloFrom X.env.cells scope.names [])) s3.heap.objs.size X.env = ce at I4 pg pe ⊢
  have cL : ce.locals = s3.heap.objs.size := by subst hce; rfl
  have st4 : ({ s3 with heap := pushCells (s3.heap.push { cls := .type "dict", data := .dict #[] }) scope.names } : Shared).heap.IsListIter it la 0 := st3.at fun o e => pushCells_keeps _ _ _ _ (Heap.get?_push_of_some _ e)
  generalize ({ s3 with heap := pushCells (s3.heap.push { cls := .type "dict", data := .dict #[] }) scope.names } : Shared) = s4 at I4 st4 ⊢
  -- the iterator stands apart in every state of the block
  have apart : ∀ {σ' : L2.St} {H' : Hp} {s' : Shared}, Inv (X.blk s3 H3 scope ce [it]) [] σ' H' s' → H' it = none → FpOk (X.blk s3 H3 scope ce [it]) [] H' it := fun {σ' H' s'} I' z =>
    have m : it ∈ [it] := List.mem_cons_self
    ⟨z, (I'.ok.exf it m).1, I'.ok.exfs it m, .inl m, fun y c e => (I'.ok.exf it m).2 y c e, fun p hp => (List.not_mem_nil (show p ∈ ([] : List (Addr × Obj)) from hp)).elim⟩
  have loop : codeAny (model X.prog X.w) X.A (.compLoop (.ListComp elt [⟨tg, l, [], 0⟩] scope pos) 0 (.ref it) (.ref D) ce) (compPost (model X.prog X.w) X.A X.xe none (EP X pins σ Q) (.ref D) s3.heap.objs.size) s4 := by
    refine compLoop_any (fun n s' => ∃ i H', i + n = xs.length ∧ Inv (X.blk s3 H3 scope ce [it]) [] (wipe σ (own.map (·.2))) H' s' ∧ s'.heap.IsListIter it la i ∧ H' it = none ∧ W i H') ?_ xs.length ⟨0, H3, Nat.zero_add _, I4, st4, it3, w0⟩
    rintro n s5 ⟨i, H5, hi, I5, st5, n5, w5⟩
    obtain ⟨its5, rv5, p5, _⟩ := I5.list (wq i H5 w5)
    have hl5 := rv5.length
    have F5 := apart I5 n5
    obtain ⟨f0, f1, f2, f3, f4, f5⟩ := F5
    cases n with
    | zero =>
      have hot : HotAt X.A a s5.heap := ⟨hA, oe, vf, I5.base.keep a oe P3.1 P3.2.1 aS (fun z => aI (List.mem_singleton.mp z)), hf, hn⟩
      refine next_end_hot hot aI st5 p5.isList (by simp; omega) fun h' eb => ?_
      have I6 : Inv (X.blk s3 H3 scope ce [it]) [] (wipe σ (own.map (·.2))) H5 { s5 with heap := h' } := I5.turned (t' := s5.toks) (fun b o hb e => eb b o hb e) f0 f1 f3 f4 f5
      have I7 : Inv X pins σ H5 { s5 with heap := h' } := I3.call' (ch := [it]) I6.os I6.base I6.hok I6.bare fun b hb => ⟨(fp3 b hb).1.2.2.2.1, (fp3 b hb).1.2.1, (fp3 b hb).1.2.2.2.2.1, (fp3 b hb).1.2.2.2.2.2⟩
      have nC : H5 s3.heap.objs.size = none := by
        rw [← cL]
        exact I6.free
      obtain ⟨m, hm, _⟩ := I6.loc
      have hm : ({ s5 with heap := h' } : Shared).heap.Ns ce.locals m := hm
      rw [cL] at hm
      obtain ⟨k0, k1, k2, k3, k4, k5⟩ := I3.fpOk (Nat.le_refl _) nC
      refine ⟨m, hm, fun h'' sb => ⟨.ref D, H5, I7.turned (t' := s5.toks) (fun b o hb e => (sb.2 b hb).trans e) k0 k1 k3 k4 k5, rfl, fin H5 ?_⟩⟩
      have e : i = xs.length := by omega
      rw [← e]
      exact w5
    | succ n =>
      have hlt : i < xs.length := by omega
      obtain ⟨u, hu, ru⟩ := rv5.get (List.getElem?_eq_getElem hlt)
      refine wpAny_pyNext_list_item st5 p5.isList (x := u) (by simpa using hu) fun h' st6 sb => ?_
      have I6 : Inv (X.blk s3 H3 scope ce [it]) [] (wipe σ (own.map (·.2))) H5 { s5 with heap := h' } := I5.turned (t' := s5.toks) (fun b o hb e => (sb.2 b hb).trans e) f0 f1 f3 f4 f5
      obtain ⟨o6, e6, c6, d6⟩ := id st6
      refine go_of (s := { s5 with heap := h' }) e6 c6 d6 (by decide) ?_
      have I6' := I6.pinned (fp := [it]) (fun b hb => by rw [List.mem_singleton.mp hb]; exact apart I6 n5) (fun b hb => by rw [List.mem_singleton.mp hb]; exact ⟨o6, e6, fun v z => by rw [d6] at z; cases z⟩)
      refine thnF (pg.run _ _ _ H5 _ u _ I6' ru (step i _ H5 (List.getElem?_eq_getElem hlt) w5)) fun _ s8 ⟨σ8, H8, I8, hw8, q8⟩ => ?_
      refine wpAny_tests_nil ?_
      simp only [if_true]
      refine thnF (pe.run _ s8 σ8 H8 _ I8 q8) fun z s10 ⟨yv, H10, I10, r10, acc, hD10, hz10, nx⟩ => ?_
      refine app_ok (X := X.blk s3 H3 scope ce [it]) I10 hD10 hz10 r10 fun s11 I11 => ?_
      have pin := I11.pin (it, o6) (List.mem_append_right _ (List.mem_append_right _ (mem_pinsAt List.mem_cons_self e6)))
      refine ⟨n, Nat.lt_succ_self n, i + 1, _, by omega, (I11.unpinned (pins := [])).weak (by rw [← hw8, wipe_length]) (fun j v e => ?_), st6.at fun o e => ?_, pin.2.1, nx⟩
      · rw [← hw8] at e
        exact (wipe_some e).1
      · rw [e6] at e
        cases e
        exact pin.1
  exact codeAny_compStart_list loop (wpAny_pyIter_listiter st4 loop)
end
end Wm
namespace Wm
open PySem L2
/-- str(o), o an instance of the class at C, whose __str__ is the def at f -/
def rStrO (C : Addr) (sp : Sp) : List V → Hp → VK → Prop := fun xs H Q => ∃ (a dx : Addr) (fs : List (Str × V)), xs = [.ref a] ∧ H a = some (.ins C dx fs) ∧ sp [.ref a] H (fun v H' => ∃ z : Str, v = .str z ∧ Q (.str z) H') E0
theorem call_strO {X : Cx} {C f : Addr} {fd : FuncData} {k : Nat} {sp : Sp} (hs : PySem.W.findIn X.K (.ref C) "__str__" = some (some (.ref f))) (hf : PySem.W.isFn X.K (.ref f) = true) (F : FnOk X.prog X.w X.K X.mg X.base CX0 k f fd ["self"] sp) (hr : Room (k + 2) X.A) (hb : Binds X.K fd ["self"] []) :
    CallR X (.type "str") (rStrO C sp) := by
  intro pins s σ H xs us Q I r h
  obtain ⟨a, dx, fs, rfl, ha, h⟩ := h
  cases r with
  | cons rx rr =>
    cases rr
    cases rx
    obtain ⟨mA, ob, _⟩ := ins_get I.hok ha
    obtain ⟨od, J, _⟩ := ob.look
    have hr1 : Room (k + 1) X.A.in1 := hr.in1
    have hr2 : Room k X.A.in1.in1 := hr1.in1
    refine PySem.W.kso_call hr2.units0 I.kIn J hs hf ?_
    have hl : ([Value.ref a] ++ []).length = (["self"] : List Str).length := rfl
    have rv : Vals [V.ref a] [Value.ref a] := .cons rfl .nil
    refine wpAny_call (codeAny_mono (F.run X.A.in1.in1 X.stack s H ⟨[Value.ref a], []⟩ [Value.ref a] [V.ref a] _ E0 hr2 I.env0.in1.in1 (hb s [Value.ref a] I.kIn hl) rv h) fun r s' hq => ?_)
    cases r with
    | error e => exact hq.elim
    | ok fl =>
      cases fl with
      | ret u =>
        obtain ⟨v, H', J', ru, z, rfl, q⟩ := I.after (Q := fun v H' => ∃ z : Str, v = .str z ∧ Q (.str z) H') hq
        obtain ⟨t, rfl⟩ := ru
        exact ⟨.str z, H', J', ⟨t, rfl⟩, q⟩
      | next => exact False.elim hq
      | brk => exact False.elim hq
      | cont => exact False.elim hq
end Wm
namespace Wm
open L2 PySem PySem.W
/-- a def to which a caught error is handed within the suite that caught it -/
structure FnE (P : Program) (w : World) (K : Frag) (mg : Str → Option Value) (base : Heap) (k : Nat) (f : Addr) (fd : FuncData) (ps : List Str)
    (sp : Addr → Value → Option Addr → Sp) : Prop where
  len : ∀ a cls d vs H Q E, sp a cls d vs H Q E → vs.length = ps.length
  run : ∀ (A : Around) (outer : List Env) (s : Shared) (H : Hp) (args : Args) (us : List Value) (vs : List V) (Q : VK) (E : XK) (a : Addr) (oe : Obj) (cls : Value) (d : Option Addr),
    L2H.RoomH k A → A.handled = some (.ref a) → Zc cls d oe → (∃ vs, oe.data = .fields vs) → L2H.PinOk outer H s (a, oe) → Env0 P w K mg base A outer s H →
    BindsTo s fd args (ps.zip us) → Vals vs us → sp a cls d vs H Q E → codeAny (model P w) A (.call (.ref f) args) (CR CX0 outer P w H s Q E) s
theorem mark_self {A : Around} {a : Addr} (h : A.handled = some (.ref a)) : A.mark (some (.ref a)) = A := by
  cases A
  simp only at h
  subst h
  rfl
theorem fn_ofE {P : Program} {w : World} {K : Frag} {mg : Str → Option Value} {base : Heap} {k : Nat} {f : Addr} {name qual : Str} {params : Arguments} {body : List Stmt} {scope : Scope}
    {dV kV doc pm cdv ct oc : Value} {an od : Option Addr} {osl : Array (Option Value)} {N ps : List Str} {sp : Addr → Value → Option Addr → Sp}
    (lk : List.lookup f K = some { cls := oc, dict := od, data := .func (fnOf name qual params body scope dV kV doc pm an cdv ct), slots := osl })
    (hcd : codeIn K cdv qual = true) (S : FnScope N ps scope)
    (len : ∀ a cls d vs H Q E, sp a cls d vs H Q E → vs.length = ps.length)
    (hbody : ∀ (A : Around) (outer : List Env) (s : Shared) (H : Hp) (vs : List V) (Q : VK) (E : XK) (a : Addr) (oe : Obj) (cls : Value) (d : Option Addr),
      Zc cls d oe → (∃ vs, oe.data = .fields vs) → L2H.RoomH k (A.deeper (PyProof.Rows.envOfC qual scope s.heap.objs.size f cdv)) → sp a cls d vs H Q E →
      ∃ t, PSs ((cxOf CX0 P w K mg base N qual scope f cdv A outer s H E).suite a [(a, oe)]) body t ∧ t { nx := fun _ H' => Q .non H', rt := Q } (L2.start N vs) H) :
    FnE P w K mg base (k + 1) f (fnOf name qual params body scope dV kV doc pm an cdv ct) ps sp where
  len := len
  run := by
    intro A outer s H args us vs Q E a oe cls d hr hh hz hf hpin e0 hb r hsp
    have KX := Frag.In.keeps e0.mod.kin fun b o e => (e0.bs b o e).1
    have lim := Heap.NoLimit.keeps e0.mod.nolimit fun b o e => (e0.bs b o e).1
    refine codeAny_call_function hr.depth (KX f _ lk) rfl S.co S.gen rfl (codeRec_of KX hcd) (hb _ A.in1 _ _ (wpAny_newFunctionEnv_cells S.kind ?_ ?_))
    · rintro ⟨n, v⟩ hy
      rcases S.par n (List.of_mem_zip hy).1 with q | q
      · exact Or.inl q
      · exact Or.inr ⟨q, cellsFrom_some scope.names (s.heap.objs.size + 1) [] (Or.inl q)⟩
    · intro env he s1 x
      subst he
      refine ⟨Heap.NoLimit.keeps lim x.toInCall.keep, codeAny_func ?_⟩
      obtain ⟨t, ht, hq⟩ := hbody A outer s H vs Q E a oe cls d hz hf (L2H.RoomH.deeper hr _) hsp
      have I := L2H.inv_startH (CX := CX0) (E := E) S hpin e0 (len _ _ _ _ _ _ _ hsp) r x
      have hm : (A.deeper (PyProof.Rows.envOfC qual scope s.heap.objs.size f cdv)).mark (some (.ref a)) = A.deeper (PyProof.Rows.envOfC qual scope s.heap.objs.size f cdv) := mark_self hh
      have o := I.ok
      have I2 : Inv ((cxOf CX0 P w K mg base N qual scope f cdv A outer s H E).suite a [(a, oe)]) [] (L2.start N vs) H s1 :=
        ⟨⟨o.mod, o.kind, o.glob, o.blt, o.above, o.inj, o.has, o.cab, (fun h => by cases h), o.frames, o.stk, o.exf, o.bs, o.bsz, o.noex, o.exfs, o.funs, o.frf⟩,
          I.os, I.bare, I.base, I.loc, I.cell, I.free, I.freeC, I.pin, I.hok, I.len⟩
      have go := ht.run [] s1 (L2.start N vs) H { nx := fun _ H' => Q .non H', rt := Q } I2 hq
      dsimp only [Cx.suite, cxOf] at go
      rw [hm] at go
      refine wpAny_mono go (fun fl s' hs => ?_) fun e s' hs => hs.elim
      cases fl with
      | next =>
        obtain ⟨σ', H', J, q⟩ := hs
        exact ⟨.non, H', J.os, J.bare, J.base, J.hok, rfl, q⟩
      | brk =>
        obtain ⟨_, _, _, q⟩ := hs
        exact q.elim
      | cont =>
        obtain ⟨_, _, _, q⟩ := hs
        exact q.elim
      | ret u =>
        obtain ⟨v, σ', H', J, rv, q⟩ := hs
        exact ⟨v, H', J.os, J.bare, J.base, J.hok, rv, q⟩
theorem FunE_ok {P : Program} {w : World} {K : Frag} {mg : Str → Option Value} {base : Heap} {x qual : Str} {st : Stmt} {f : Addr} {fd : FuncData} {N ps : List Str} {k : Nat} {sp : Addr → Value → Option Addr → Sp}
    (F : Fun K x qual st f fd) (S : FnScope N ps (defScope st))
    (len : ∀ a cls d vs H Q E, sp a cls d vs H Q E → vs.length = ps.length)
    (hbody : ∀ (cdv : Value) (A : Around) (outer : List Env) (s : Shared) (H : Hp) (vs : List V) (Q : VK) (E : XK) (a : Addr) (oe : Obj) (cls : Value) (d : Option Addr),
      Zc cls d oe → (∃ vs, oe.data = .fields vs) → L2H.RoomH k (A.deeper (PyProof.Rows.envOfC qual (defScope st) s.heap.objs.size f cdv)) → sp a cls d vs H Q E →
      ∃ t, PSs ((cxOf CX0 P w K mg base N qual (defScope st) f cdv A outer s H E).suite a [(a, oe)]) (defBody st) t ∧ t { nx := fun _ H' => Q .non H', rt := Q } (L2.start N vs) H) :
    FnE P w K mg base (k + 1) f fd ps sp := by
  obtain ⟨oc, od, kV, doc, pm, an, cdv, ct, osl, rfl, lk, hcd⟩ := F.ex
  exact fn_ofE lk hcd S len fun A outer s H vs Q E a oe cls d hz hf hr hsp => hbody cdv A outer s H vs Q E a oe cls d hz hf hr hsp
/-- the call f(e, ..) of such a def within the suite -/
def tCallE (sp : Sp) (t : TA) : TE := fun σ H Q => t σ H fun vs H1 => sp vs H1 Q (fun _ _ _ => False)
theorem pe_callE {X : Cx} {k : Nat} {f : Addr} {fd : FuncData} {ps : List Str} {sp : Addr → Value → Option Addr → Sp} {a : Addr} {oe : Obj} {cls : Value} {d : Option Addr} {pn : List (Addr × Obj)}
    {x : Str} {q pos : Pos} {e : Expr} {es : List Expr} {t : TA}
    (F : FnE X.prog X.w X.K X.mg X.base k f fd ps sp) (hr : L2H.RoomH k X.A) (hz : Zc cls d oe) (hf : ∃ vs, oe.data = .fields vs) (hg : Gl X x) (hm : X.mg x = some (.ref f))
    (hk : keepIn X.K (.ref f) = true) (hb : L2.Binds X.K fd ps []) (ha : PA (X.suite a ((a, oe) :: pn)) (e :: es) t)
    (hdb : (x == Str.ofString "__debug__") = false := by rfl) (he : starEach (e :: es) X.env = (false, eval e X.env) :: starEach es X.env := by rfl)
    (hpl : ((backTo pos (starEach es X.env)).any fun x => x.1) = false := by rfl) :
    PE (X.suite a ((a, oe) :: pn)) (.Call (.Name x q) (e :: es) [] pos) (tCallE (sp a cls d) t) where
  run := by
    intro pins s σ H Q I h
    refine wpAny_Call_Name_kw (ld_glob I hg hm (callWith_K I.ok.mod.kin hk (thn (ha.run pos pins s σ H _ I h) ?_) he hpl) hdb)
    rintro us s1 ⟨vs, H1, I1, r, h1⟩
    refine ⟨I1.kIn, ?_⟩
    have P1 := I1.pin (a, oe) (List.mem_append_left _ (List.mem_cons_self ..))
    have hp : L2H.PinOk X.stack H1 s1 (a, oe) := ⟨P1.1, P1.2.1, fun hx => (List.mem_cons.mp (I1.stkSub a hx)).elim P1.2.2.1 P1.2.2.2.1, P1.2.2.2.2⟩
    have hl : (us ++ []).length = ps.length := by rw [List.append_nil, ← r.length]; exact F.len _ _ _ _ _ _ _ h1
    have b := hb s1 us I1.kIn hl
    rw [List.append_nil] at b
    have hr2 : L2H.RoomH k (X.suite a ((a, oe) :: pn)).A := ⟨hr.dp, hr.un⟩
    refine wpAny_call (codeAny_mono (F.run (X.suite a ((a, oe) :: pn)).A X.stack s1 H1 ⟨us, []⟩ us vs Q _ a oe cls d hr2 rfl hz hf hp I1.env0 b r h1) fun r s' hq => ?_)
    cases r with
    | error e => exact hq.elim
    | ok fl =>
      cases fl with
      | next => exact hq.elim
      | brk => exact hq.elim
      | cont => exact hq.elim
      | ret u => exact I1.after hq
end Wm
/-! own errors whose context is known to be None, from raise to the suite that hands them on -/
namespace Wm
open PySem PySem.Spec PyProof.Rows L2
section
variable {X : Cx} {e : Expr} {es : List Expr} {ta : TA} {p pos : Pos}
/-- an own error made: its context is None -/
theorem pmkN_oex {CX : CXT} {x : Str} {C fI : Addr} {k : Nat} {fd : FuncData} {ps : List Str} {sp : Sp} (T : OexC X.K C) (iC : PySem.W.findIn X.K (.ref C) "__init__" = some (some (.ref fI))) (tI : PySem.W.typeIn X.K (.ref fI) = some (.type "function"))
    (G : FnOk X.prog X.w X.K X.mg X.base CX k fI fd ps sp) (hr : Room (k + 1) X.A) (hb : L2.Binds X.K fd ps []) (hx : Passes CX X (fun _ _ _ => False)) (hg : Gl X x) (hm : X.mg x = some (.ref C)) (ha : PA X (e :: es) ta)
    (hdb : (x == ("__debug__" : Str)) = false := by decide) (he : starEach (e :: es) X.env = (false, eval e X.env) :: starEach es X.env := by rfl) (hpl : (backTo pos (starEach es X.env)).any (·.1) = false := by rfl) :
    L2N.PMk X (.Call (.Name x p) (e :: es) [] pos) (tMkO C sp [] ta) := by
  intro pins s σ H Q I h
  obtain ⟨nm, q, N, bs, bm, sn, sub, ab, col, dd, k0, k1, k2, k3, k5, hC, hbm⟩ := T.cls
  refine wpAny_Call_Name_kw (ld_glob I hg hm (PySem.W.callWith_K (h₀ := X.base) I.ok.mod.kin T.kC (thn (ha.run pos pins s σ H _ I h) ?_) he hpl) hdb)
  rintro us ⟨hp, g, dr, tk, os⟩ ⟨vs, H1, I1, r1, hz, q1⟩
  refine ⟨I1.kIn, ?_⟩
  generalize hA : hp.objs.size + 1 = A1 at *
  have le : hp.objs.size ≤ A1 := by omega
  have fr : H1 A1 = none := I1.hok.fresh le
  have hq := q1 A1 fr
  rw [List.append_nil] at hq
  have kp : ∀ b o, hp.get? b = some o → ((hp.push (PySem.W.kdv_tup us)).push (PySem.HandSPX.excO C hp.objs.size)).get? b = some o := fun b o z => Heap.get?_push_of_some _ (Heap.get?_push_of_some _ z)
  have new : ((hp.push (PySem.W.kdv_tup us)).push (PySem.HandSPX.excO C hp.objs.size)).get? A1 = some (PySem.HandSPX.excO C hp.objs.size) := by
    rw [← hA]
    heap_get
  have I2 : Inv X pins σ (upd H1 A1 (exo A1 C none)) ⟨(hp.push (PySem.W.kdv_tup us)).push (PySem.HandSPX.excO C hp.objs.size), g, dr, tk, os⟩ := I1.laid (t' := tk) (a := A1) (o := exo A1 C none) kp le (exo_ok new)
  have r2 : Vals (V.ref A1 :: vs) (Value.ref A1 :: us) := .cons rfl r1
  have ln : (Value.ref A1 :: us ++ []).length = ps.length := by
    rw [List.append_nil, ← r2.length]
    exact G.len _ _ _ _ hq
  have b2 := hb _ (Value.ref A1 :: us) I2.kIn ln
  rw [List.append_nil] at b2
  have big : us.length ≤ sizeLine := by
    rw [← Paired.length r1, sizeLine_eq]
    omega
  subst hA
  refine wpAny_call (PySem.HandSPX.call_own F.excBase_ValueError (fun Y => PySem.HandSPX.refsVE_contains Y bm hbm) (I1.kIn _ _ hC) (PySem.W.looks_findIn I1.kIn iC) (fun self => PySem.W.bind_fn I1.kIn self tI) big
    (codeAny_mono (G.run _ X.stack _ _ _ _ _ _ (fun _ _ _ => False) (hr.make C us []) (I2.env0.make C us []) b2 r2 hq) fun r s' hq' => ?_))
  cases r with
  | error er => exact hx pins σ _ _ er s' I2 hq'
  | ok fl =>
    cases fl with
    | next => exact hq'.elim
    | brk => exact hq'.elim
    | cont => exact hq'.elim
    | ret u =>
      obtain ⟨v, H2, os2, bare2, un2, hok2, rv, rfl, d, fs, ea, ed, hd1, q2⟩ := hq'
      obtain ⟨h2, g2, d2, t2, os'⟩ := s'
      obtain ⟨t0, W, J, kW, ge, hoe, na⟩ := mk_end0 (d2 := d2) (t2 := t2) I1 le kp un2 hok2 os2 bare2 ea ed hd1
      refine ⟨rv, hp.objs.size + 1, _, _, ⟨W, g2, d2, t2, os'⟩, _, .ref C, some d, rfl, J, kW, ge, hoe, ⟨rfl, rfl, fun vs hv => ?_⟩, rfl, rfl, na, rfl, bare2, raises_own T.exC T.tyC, q2⟩
      cases hv
      rfl
end
section
variable {P : Program} {w : World} {K : PySem.W.Frag} {mg : Str → Option Value} {base : Heap}
theorem okN {x qual : Str} {st : Stmt} {f : Addr} {fd : FuncData} {N ps : List Str} {k : Nat} {sp : Sp} (F : Fun K x qual st f fd) (S : FnScope N ps (defScope st)) (len : ∀ vs H Q E, sp vs H Q E → vs.length = ps.length)
    (hbody : ∀ (cdv : Value) (A : Around) (outer : List Env) (s : Shared) (H : Hp) (vs : List V) (Q : VK) (E : XK), Room k (A.deeper (envOfC qual (defScope st) s.heap.objs.size f cdv)) → sp vs H Q E →
      ∃ t, PSs (cxOf (L2N.CX P w) P w K mg base N qual (defScope st) f cdv A outer s H E) (defBody st) t ∧ t { nx := fun _ H' => Q .non H', rt := Q } (L2.start N vs) H) : FnOk P w K mg base (L2N.CX P w) (k + 1) f fd ps sp := by
  obtain ⟨oc, od, kV, doc, pm, an, cdv, ct, osl, rfl, lk, hcd⟩ := F.ex
  exact fn_of lk hcd S len fun A outer s H vs Q E hr hsp => hbody cdv A outer s H vs Q E hr hsp
end
/-- around a body nothing is let out -/
theorem takesN0 {X : Cx} : L2N.Takes X (fun _ _ _ _ => False) := fun _ _ x => by
  obtain ⟨_, _, _, _, _, _, _, _, _, _, _, _, _, _, _, _, z⟩ := x
  exact z.elim
end Wm
namespace Wm
open PySem L2
/-- x in a tuple, whatever its parts are made of -/
def rInTD (K : PySem.W.Frag) : R2 := fun x y H Q => ∃ d ds, Dp K H x d ∧ Dp K H y (.tuple ds) ∧ SeqAt.shaped d = true ∧ SeqAt.shaped (.tuple ds) = true ∧ Q (.bl (ds.any fun z => PyData.eqv z d)) H
theorem op_inTD {X : Cx} (hu : X.A.units + 65 < cLine) : OpR X (compareOp .In) (rInTD X.K) := by
  intro pins s σ H x y v u Q I rx ry h
  obtain ⟨d, ds, hd, he, sd, se, q⟩ := h
  obtain ⟨as, r1⟩ := Dp.reads I d x v hd rx
  obtain ⟨bs, r2⟩ := Dp.reads I (.tuple ds) y u he ry
  exact SeqAt.in_tuple_reads r2 r1 (SeqAt.canLay_of_shaped se) (SeqAt.canLay_of_shaped sd) (PyProof.Rows.room_in_shaped sd hu) ⟨.bl _, H, I, rfl, q⟩
theorem cut_inj {c : Nat} : ∀ {p q X Y : List Nat}, c ∉ p → c ∉ q → p ++ c :: X = q ++ c :: Y → p = q ∧ X = Y
  | [], [], _, _, _, _, h => ⟨rfl, (List.cons.inj h).2⟩
  | [], b :: q, _, _, _, hq, h => absurd (by rw [(List.cons.inj h).1]; exact List.mem_cons_self) hq
  | a :: p, [], _, _, hp, _, h => absurd (by rw [← (List.cons.inj h).1]; exact List.mem_cons_self) hp
  | a :: p, b :: q, X, Y, hp, hq, h => by
    obtain ⟨e, h⟩ := List.cons.inj h
    obtain ⟨e1, e2⟩ := cut_inj (fun z => hp (List.mem_cons_of_mem _ z)) (fun z => hq (List.mem_cons_of_mem _ z)) h
    exact ⟨by rw [e, e1], e2⟩
theorem str_ext {a b : Str} (h : a.cps.toList = b.cps.toList) : a = b := by
  cases a
  cases b
  congr
  exact Array.toList_inj.mp h
theorem join_two (c : Nat) (p q : Str) (r : List Str) : (Str.join ⟨#[c]⟩ (p :: q :: r)).cps.toList = p.cps.toList ++ c :: (Str.join ⟨#[c]⟩ (q :: r)).cps.toList := by
  show ((p.cps ++ #[c]) ++ (Str.join ⟨#[c]⟩ (q :: r)).cps).toList = _
  simp
theorem join_inj {c : Nat} : ∀ {ps qs : List Str}, ps ≠ [] → qs ≠ [] → (∀ p ∈ ps, c ∉ p.cps.toList) → (∀ p ∈ qs, c ∉ p.cps.toList) → (Str.join ⟨#[c]⟩ ps).cps.toList = (Str.join ⟨#[c]⟩ qs).cps.toList → ps = qs
  | [], _, h, _, _, _, _ => absurd rfl h
  | _ :: _, [], _, h, _, _, _ => absurd rfl h
  | [p], [q], _, _, _, _, h => by rw [str_ext (a := p) (b := q) h]
  | [p], q :: q2 :: r, _, _, hp, _, h => by
    rw [join_two] at h
    have e : p.cps.toList = q.cps.toList ++ c :: (Str.join ⟨#[c]⟩ (q2 :: r)).cps.toList := h
    exact absurd (by rw [e]; exact List.mem_append_right _ List.mem_cons_self) (hp p List.mem_cons_self)
  | p :: p2 :: r, [q], _, _, _, hq, h => by
    rw [join_two] at h
    have e : p.cps.toList ++ c :: (Str.join ⟨#[c]⟩ (p2 :: r)).cps.toList = q.cps.toList := h
    exact absurd (by rw [← e]; exact List.mem_append_right _ List.mem_cons_self) (hq q List.mem_cons_self)
  | p :: p2 :: r, q :: q2 :: t, _, _, hp, hq, h => by
    rw [join_two, join_two] at h
    obtain ⟨e1, e2⟩ := cut_inj (hp p List.mem_cons_self) (hq q List.mem_cons_self) h
    have e3 := join_inj (ps := p2 :: r) (qs := q2 :: t) (by simp) (by simp) (fun x hx => hp x (List.mem_cons_of_mem _ hx)) (fun x hx => hq x (List.mem_cons_of_mem _ hx)) e2
    rw [str_ext e1, e3]
theorem split_ne (x : Str) (c : Nat) : Txt.split x ⟨#[c]⟩ ≠ [] := fun h => by
  have e := StrLaws.join_split x ⟨#[c]⟩
  rw [h] at e
  have l : x.length = 0 := by
    rw [← e]
    rfl
  unfold Txt.split at h
  rw [if_pos (by rw [l]; simp; left; show 0 < 1; decide)] at h
  cases h
theorem split_join {c : Nat} {ps : List Str} (hne : ps ≠ []) (hf : ∀ p ∈ ps, c ∉ p.cps.toList) : Txt.split (Txt.join ⟨#[c]⟩ ps) ⟨#[c]⟩ = ps := by
  have e : Txt.join ⟨#[c]⟩ ps = Str.join ⟨#[c]⟩ ps := StrLaws.glued_eq_join ⟨#[c]⟩ ps
  rw [e]
  refine join_inj (split_ne _ _) hne (StrLaws.split_free _ _) hf ?_
  rw [StrLaws.join_split]
end Wm
namespace Wm
open PySem L2 StX
/-- a deed as the law tells it -/
inductive Dd where
  | mk (w a b c : Str)
  | doo (a : Str) (zs : List Str)
def rdL (ps : List Str) : Option Dd := match ps with
  | w :: a :: r => if w = "do" then some (.doo a r) else (match r with
    | [b, c] => if w = "make" ∨ w = "drop" then some (.mk w a b c) else none
    | _ => none)
  | _ => none
def rd (row : Str) : Option Dd := if ("" : Str) ∈ Txt.split row " " then none else rdL (Txt.split row " ")
def DdAt (K : PySem.W.Frag) (H : Hp) (t : Addr) : Dd → Prop
  | .mk w a b c => SqT K H t [.str w, .str a, .str b, .str c]
  | .doo a zs => ∃ t2, SqT K H t [.str "do", .str a, .ref t2] ∧ SqT K H t2 (zs.map V.str)
theorem DdAt.same {K : PySem.W.Frag} {H H' : Hp} {t : Addr} (s : Same H H') : ∀ {d : Dd}, DdAt K H t d → DdAt K H' t d
  | .mk _ _ _ _, h => same_seqT s h
  | .doo _ _, ⟨t2, a, b⟩ => ⟨t2, same_seqT s a, same_seqT s b⟩
def ddP : Dd → List Str
  | .mk w a b c => [w, a, b, c]
  | .doo a zs => "do" :: a :: zs
def rowD (d : Dd) : Str := Txt.join " " (ddP d)
def szL (ps : List Str) : Nat := (ps.map (·.length)).sum + ps.length
theorem strOk_of {z : Str} (h : okS z) : PyData.strOk z = true := by
  unfold PyData.strOk
  rw [Array.all_eq_true_iff_forall_mem]
  intro c hc
  exact decide_eq_true (h c (by simpa using hc))
theorem eqv_self {d : PyData} (h : SeqAt.shaped d = true) : PyData.eqv d d = true := SeqAt.eqv_refl d (SeqAt.canLay_of_shaped h)
theorem dp_strs {K : PySem.W.Frag} {H : Hp} : ∀ zs : List Str, DpAll K H (zs.map V.str) (zs.map PyData.str)
  | [] => .nil
  | z :: r => .cons (.str z) (dp_strs r)
theorem lay_strs : ∀ {zs : List Str}, (∀ z ∈ zs, okS z) → PyData.canLayAll0 (zs.map PyData.str) = true ∧ PyData.depthAll (zs.map PyData.str) ≤ 1
  | [], _ => by simp [PyData.canLayAll0, PyData.depthAll]
  | z :: r, h => by
    have h1 := strOk_of (h z List.mem_cons_self)
    have h2 := lay_strs (zs := r) fun y hy => h y (List.mem_cons_of_mem _ hy)
    obtain ⟨h2, h3⟩ := h2
    refine ⟨by simp only [List.map_cons, PyData.canLayAll0, PyData.canLay0, h1, h2, Bool.and_self], ?_⟩
    simp [PyData.depthAll, PyData.depth]
    omega
theorem shaped_strs {zs : List Str} (h : ∀ z ∈ zs, okS z) : SeqAt.shaped (.list (zs.map PyData.str)) = true := by
  obtain ⟨h1, h2⟩ := lay_strs h
  simp [SeqAt.shaped, PyData.canLay0, PyData.depth, h1]
  omega
theorem eqvAll_strs : ∀ (a b : List Str), PyData.eqvAll (a.map PyData.str) (b.map PyData.str) = decide (a = b)
  | [], [] => by simp [PyData.eqvAll]
  | [], _ :: _ => by simp [PyData.eqvAll]
  | _ :: _, [] => by simp [PyData.eqvAll]
  | x :: r, y :: t => by
    have ih := eqvAll_strs r t
    simp only [List.map_cons, PyData.eqvAll, ih]
    by_cases h : x = y
    · by_cases h2 : r = t
      · simp [h, h2, PyData.eqv]
      · simp [h, h2, PyData.eqv]
    · simp [h, PyData.eqv]
theorem eqv_strs (a b : List Str) : PyData.eqv (.list (a.map PyData.str)) (.list (b.map PyData.str)) = decide (a = b) := by
  have e := eqvAll_strs a b
  simp only [PyData.eqv]
  exact e
theorem cut_drop (xs : List V) (i : Nat) : cutV xs (some (i : Int)) none = xs.drop i := by
  unfold cutV
  rw [HT.sIx_none, HT.sIx_nat]
  by_cases h : i ≤ xs.length
  · rw [Nat.min_eq_left h, List.take_of_length_le (by rw [List.length_drop]; omega)]
  · rw [Nat.min_eq_right (by omega), List.drop_of_length_le (Nat.le_refl _), List.drop_of_length_le (by omega)]
    simp
theorem blank : PySem.Str.ofString " " = ⟨#[32]⟩ := by decide +kernel
theorem join_sub {c : Nat} : ∀ {ps : List Str}, okS (Str.join ⟨#[c]⟩ ps) → ∀ p ∈ ps, okS p
  | [], _, _, hp => (List.not_mem_nil hp).elim
  | [q], h, p, hp => by
    rw [List.mem_singleton.mp hp]
    exact h
  | q :: q2 :: r, h, p, hp => by
    have e := join_two c q q2 r
    rcases List.mem_cons.mp hp with rfl | hp
    · intro x hx
      exact h x (by rw [e]; exact List.mem_append_left _ hx)
    · refine join_sub (c := c) (ps := q2 :: r) (fun x hx => h x ?_) p hp
      rw [e]
      exact List.mem_append_right _ (List.mem_cons_of_mem _ hx)
theorem splitOk {row : Str} (h : okS row) : ∀ z ∈ Txt.split row " ", okS z := by
  rw [show Txt.split row " " = Txt.split row ⟨#[32]⟩ by rw [← blank]]
  refine join_sub (c := 32) ?_
  rw [StrLaws.join_split]
  exact h
theorem flatS (zs : List Str) : (zs.map V.str).all flatV = true := by
  rw [List.all_map]
  exact List.all_eq_true.mpr fun _ _ => rfl
theorem u65 {k : Nat} {A : Around} (r : Room k A) : A.units + 65 < cLine := by
  have := r.un
  omega
theorem cut1 {a R : TS} {D : Ends} {σ : L2.St} {H : Hp} (Good : L2.St → Hp → Prop) (fin : ∀ σ' H', Good σ' H' → R D σ' H') (h : ∀ R' : TS, (∀ σ' H', Good σ' H' → R' D σ' H') → tSeq a R' D σ H) : tSeq a R D σ H := h R fin
def spPo : Sp := fun vs H Q _ => ∃ row : Str, vs = [.str row] ∧ row.length ≤ 1000000 ∧ ∀ l H', H l = none → Same H H' → H' l = some (.lst ((if ("" : Str) ∈ Txt.split row " " then [] else Txt.split row " ").map V.str)) → Q (.ref l) H'
def spDr (K : PySem.W.Frag) (C : Addr) : Sp := fun vs H Q E => ∃ (t : Addr) (d : Dd), vs = [.ref t] ∧ DdAt K H t d ∧ szL (ddP d) ≤ 1000000 ∧ match d with
  | .mk w _ _ _ => w ≠ "do" ∧ if w = "make" ∨ w = "drop" then ∀ H', Same H H' → Q (.str (rowD d)) H' else ∀ e H', H e = none → Same H H' → H' e = some (.xd (ef1 "word" "nodeed" (.str w))) → E (.ref C) (some e) H'
  | .doo _ _ => ∀ H', Same H H' → Q (.str (rowD d)) H'
def spRd (K : PySem.W.Frag) (C : Addr) : Sp := fun vs H Q E => ∃ row : Str, vs = [.str row] ∧ row.length ≤ 1000000 ∧ okS row ∧ match rd row with
  | some d => ∀ t H', Same H H' → H t = none → DdAt K H' t d → Q (.ref t) H'
  | none => ∀ e H', H e = none → Same H H' → H' e = some (.xd (ef1 "row" "badrow" (.int 0))) → E (.ref C) (some e) H'
section
variable {P : Program} {w : World} {K : PySem.W.Frag} {mg : Str → Option Value} {base : Heap}
theorem scW0 : FnScope ["self", "kind"] ["self", "kind"] (defScope sW0) := ⟨rfl, rfl, rfl, by decide +kernel, rfl, by decide +kernel, by decide +kernel⟩
theorem ok_who {f : Addr} {fd : FuncData} {dvs : List V} (F : FunD K "__init__" "WhoError.__init__" (defArgs sW0) (defBody sW0) (defScope sW0) dvs [] f fd) : FnOk P w K mg base CX0 1 f fd ["self", "kind"] (spWI K) := by
  refine F.ok scW0 (fun vs H Q E h => ?_) (fun cdv A outer s H vs Q E hr h => ?_)
  · obtain ⟨a, C, v, rfl, _⟩ := h
    rfl
  · obtain ⟨a, C, v, rfl, o, nk, ha, k⟩ := h
    refine ⟨_, pss_one (ps_ost (pv 0) (pv 1)), ?_⟩
    exact ⟨_, rfl, _, rfl, a, C, rfl, o, nk, .inl ⟨ha, fun dx n ne => k dx n ne⟩⟩
theorem scND : FnScope ["self", "word"] ["self", "word"] (defScope sND) := ⟨rfl, rfl, rfl, by decide +kernel, rfl, by decide +kernel, by decide +kernel⟩
theorem ok_nodeed {f C f0 W : Addr} {fd fd0 : FuncData} (F : Fun K "__init__" "NoDeed.__init__" sND f fd) (T : ErrT K mg "NoDeed" "word" C f) (TW : WhoT K mg W f0 fd0) (G0 : FnOk P w K mg base CX0 1 f0 fd0 ["self", "kind"] (spWI K)) :
    FnOk P w K mg base CX0 2 f fd ["self", "word"] (spE1 C "word" "nodeed") := by
  refine F.ok scND (fun vs H Q E h => ?_) (fun cdv A outer s H vs Q E hr h => ?_)
  · obtain ⟨a, v, rfl, _⟩ := h
    rfl
  · obtain ⟨a, v, rfl, ha, k⟩ := h
    refine ⟨_, pss_cons (ps_expr (pe_clsFn rfl TW.g TW.r TW.m TW.k G0 hr TW.b .nil pass0 (pa_cons (pv 0) (pa_cons pe_str pa_nil)))) (pss_one (ps_ost (pv 0) (pv 1))), ?_⟩
    refine ⟨_, rfl, a, C, _, rfl, T.o, T.nk, ha, fun dx n ne => ?_⟩
    refine ⟨_, rfl, _, rfl, a, C, rfl, T.o, T.nf, .inr ⟨dx, _, upd_same, Eq.trans (upd_ne ne) upd_same, by decide, ?_⟩⟩
    refine k dx _ n ne (fun b o nb e => ?_) ?_ upd_same
    · have nd : b ≠ dx := ne_of_none e n
      rw [upd_ne nd, upd_ne nb, upd_ne nd]
      exact e
    · rw [upd_ne ne.symm, upd_same]
theorem scBR : FnScope ["self", "row"] ["self", "row"] (defScope sBR) := ⟨rfl, rfl, rfl, by decide +kernel, rfl, by decide +kernel, by decide +kernel⟩
theorem ok_badrow {f C f0 W : Addr} {fd fd0 : FuncData} (F : Fun K "__init__" "BadRow.__init__" sBR f fd) (T : ErrT K mg "BadRow" "row" C f) (TW : WhoT K mg W f0 fd0) (G0 : FnOk P w K mg base CX0 1 f0 fd0 ["self", "kind"] (spWI K)) :
    FnOk P w K mg base CX0 2 f fd ["self", "row"] (spE1 C "row" "badrow") := by
  refine F.ok scBR (fun vs H Q E h => ?_) (fun cdv A outer s H vs Q E hr h => ?_)
  · obtain ⟨a, v, rfl, _⟩ := h
    rfl
  · obtain ⟨a, v, rfl, ha, k⟩ := h
    refine ⟨_, pss_cons (ps_expr (pe_clsFn rfl TW.g TW.r TW.m TW.k G0 hr TW.b .nil pass0 (pa_cons (pv 0) (pa_cons pe_str pa_nil)))) (pss_one (ps_ost (pv 0) (pv 1))), ?_⟩
    refine ⟨_, rfl, a, C, _, rfl, T.o, T.nk, ha, fun dx n ne => ?_⟩
    refine ⟨_, rfl, _, rfl, a, C, rfl, T.o, T.nf, .inr ⟨dx, _, upd_same, Eq.trans (upd_ne ne) upd_same, by decide, ?_⟩⟩
    refine k dx _ n ne (fun b o nb e => ?_) ?_ upd_same
    · have nd : b ≠ dx := ne_of_none e n
      rw [upd_ne nd, upd_ne nb, upd_ne nd]
      exact e
    · rw [upd_ne ne.symm, upd_same]
/-- an error of one field, raised -/
theorem mk1 {C : Addr} {f kd : Str} {v : V} {H : Hp} {E : XK} (k : ∀ d H', H d = none → Same H H' → H' d = some (.xd (ef1 f kd v)) → E (.ref C) (some d) H') :
    [v].length ≤ 1000 ∧ ∀ a, H a = none → spE1 C f kd (.ref a :: ([v] ++ [])) (upd H a (exo a C none)) (fun w H2 => w = .non ∧ ∃ (d : Addr) (fs : List (Str × V)), H2 a = some (exo a C (some d)) ∧ H2 d = some (exd d fs) ∧ H d = none ∧ E (.ref C) (some d) (upd (del H2 a) d (.xd fs))) (fun _ _ _ => False) := by
  refine ⟨by show 1 ≤ 1000; decide, fun a na => ⟨a, v, rfl, upd_same, fun dx H' n ne kp ha hd => ⟨rfl, dx, _, ha, hd, ?_, ?_⟩⟩⟩
  · rw [upd_ne ne] at n
    exact n
  · rw [upd_ne ne] at n
    refine k dx _ n (fun b o e => ?_) upd_same
    have nb : b ≠ a := ne_of_none e na
    rw [upd_ne (ne_of_none e n), del_ne nb]
    exact kp b o nb (by rw [upd_ne nb]; exact e)
theorem scPo : FnScope ["row", "parts"] ["row"] (defScope sPo) := ⟨rfl, rfl, rfl, by decide +kernel, rfl, by decide +kernel, by decide +kernel⟩
theorem ok_po {f : Addr} {fd : FuncData} (F : Fun K "parts_of" "parts_of" sPo f fd) : FnOk P w K mg base CX0 1 f fd ["row"] spPo := by
  refine F.ok scPo (fun vs H Q E h => ?_) (fun cdv A outer s H vs Q E hr h => ?_)
  · obtain ⟨row, rfl, _⟩ := h
    rfl
  · obtain ⟨row, rfl, hl, k⟩ := h
    refine ⟨_, (pss_cons (ps_set (i := 1) scPo.nd rfl (Or.inl rfl) (pe_split (pv 0) pe_str))
      (pss_cons (ps_if (pt_cmpR op_in_seq pe_str (pv 1) (by rfl)) (pss_one (ps_ret (pe_lst pa_nil))) pss_nil)
      (pss_one (ps_ret (pv 1))))), ?_⟩
    refine ⟨_, rfl, ⟨row, rfl⟩, row, _, rfl, rfl, by decide +kernel, Nat.le_trans (show row.length + 2 ≤ 2000000 by omega) (by decide), fun l nl => ?_⟩
    dsimp only [List.set_cons_succ, List.set_cons_zero]
    have S1 : Same H (upd H l (.lst ((Txt.split row " ").map V.str))) := Same.upd nl
    refine ⟨_, rfl, l, _, rfl, .inl (SqL.of upd_same), rfl, flatS _, _, rfl, ?_⟩
    show if inV (.str "") ((Txt.split row " ").map V.str) = true then _ else _
    rw [inV_strs]
    by_cases h : ("" : Str) ∈ Txt.split row " "
    · rw [decide_eq_true h]
      rw [if_pos h] at k
      exact iteT ⟨Nat.zero_le _, fun l2 nl2 => k l2 _ (S1.free nl2) (S1.trans (Same.upd nl2)) upd_same⟩
    · rw [decide_eq_false h]
      rw [if_neg h] at k
      exact iteF ⟨_, rfl, k l _ nl S1 upd_same⟩
theorem scDr : FnScope ["deed"] ["deed"] (defScope sDr) := ⟨rfl, rfl, rfl, by decide +kernel, rfl, by decide +kernel, by decide +kernel⟩
theorem ok_dr {f C fI : Addr} {fd fdI : FuncData} (F : Fun K "deed_row" "deed_row" sDr f fd) (TE : ErrT K mg "NoDeed" "word" C fI) (bI : Binds K fdI ["self", "word"] []) (GI : FnOk P w K mg base CX0 2 fI fdI ["self", "word"] (spE1 C "word" "nodeed")) : FnOk P w K mg base (L2N.CX P w) 4 f fd ["deed"] (spDr K C) := by
  refine okN F scDr (fun vs H Q E h => ?_) (fun cdv A outer s H vs Q E hr h => ?_)
  · obtain ⟨t, d, rfl, _⟩ := h
    rfl
  · obtain ⟨t, d, rfl, hd, hz, k⟩ := h
    have hr3 : Room 3 _ := hr
    refine ⟨_, (pss_cons (ps_if (pt_cmpR op_eq (pe_ix ix_tup (pv 0) pe_int (fun _ _ => rfl)) pe_str (nomark _)) (pss_one (ps_ret (pe_join pe_str (pe_lst (pa_cons pe_str (pa_cons (pe_ix ix_tup (pv 0) pe_int (fun _ _ => rfl)) (pa_star (pe_ix ix_tup (pv 0) pe_int (fun _ _ => rfl)) pa_nil))))))) pss_nil)
      (pss_cons (ps_if (pt_cmpR op_notIn_seq (pe_ix ix_tup (pv 0) pe_int (fun _ _ => rfl)) (pe_tup (pa_cons pe_str (pa_cons pe_str pa_nil))) (by rfl)) (pss_one (L2N.ps_raise rfl (L2N.takes_of rfl rfl rfl rfl) (pmkN_oex TE.o TE.iC TE.tI GI hr3 bI pass0 rfl TE.g (pa_cons (pe_ix ix_tup (pv 0) pe_int (fun _ _ => rfl)) pa_nil)))) pss_nil)
      (pss_one (ps_ret (pe_join pe_str (pv 0)))))), ?_⟩
    match d, hd, hz, k with
    | .doo a zs, ⟨t2, h1, h2⟩, hz, k =>
      refine ⟨_, rfl, ?_⟩
      refine ⟨t, _, 0, .str "do", rfl, rfl, h1, atI_nat (j := 0) rfl, rfl, _, rfl, ?_⟩
      refine iteT ?_
      refine ⟨⟨_, rfl⟩, _, rfl, t, _, 1, .str a, rfl, rfl, h1, atI_nat (j := 1) rfl, ?_⟩
      refine ⟨_, rfl, t, _, 2, .ref t2, rfl, rfl, h1, atI_nat (j := 2) rfl, t2, _, rfl, .inl h2, ?_⟩
      have el : (V.str "do" :: V.str a :: (zs.map V.str ++ [])) = (("do" : Str) :: a :: zs).map V.str := by simp
      show (V.str "do" :: V.str a :: (zs.map V.str ++ [])).length ≤ sizeLine ∧ _
      rw [el]
      have hz : (((("do" : Str) :: a :: zs).map (·.length)).sum + (("do" : Str) :: a :: zs).length) ≤ 1000000 := hz
      refine ⟨Nat.le_trans (show _ ≤ 1000000 by rw [List.length_map]; omega) (by decide), fun l nl => ?_⟩
      refine ⟨_, l, ("do" : Str) :: a :: zs, rfl, rfl, .inl (SqL.of upd_same), ?_, k _ (Same.upd nl)⟩
      show _ + _ * 1 ≤ 16777216
      omega
    | .mk w a b c, h1, hz, k =>
      obtain ⟨nd, k⟩ := k
      have h1 : SqT K H t [.str w, .str a, .str b, .str c] := h1
      refine ⟨_, rfl, ?_⟩
      refine ⟨t, _, 0, .str w, rfl, rfl, h1, atI_nat (j := 0) rfl, rfl, _, rfl, ?_⟩
      refine ite2 (fun z => absurd (V.str.inj (of_decide_eq_true z)) nd) (fun _ => ?_)
      refine ⟨_, rfl, ?_⟩
      refine ⟨t, _, 0, .str w, rfl, rfl, h1, atI_nat (j := 0) rfl, ?_⟩
      refine ⟨by show 2 ≤ sizeLine; decide, fun t3 nt3 => ?_⟩
      have S3 : Same H (upd H t3 (.tup [.str "make", .str "drop"])) := Same.upd nt3
      refine ⟨t3, _, rfl, .inr (SqT.of upd_same), rfl, rfl, _, rfl, ?_⟩
      show if (!inV (.str w) ((["make", "drop"] : List Str).map V.str)) = true then _ else _
      rw [inV_strs]
      by_cases hw : w = "make" ∨ w = "drop"
      · rw [if_pos hw] at k
        rw [decide_eq_true (by simpa using hw)]
        refine iteF ?_
        refine ⟨⟨_, rfl⟩, _, rfl, _, t, [w, a, b, c], rfl, rfl, .inr (same_seqT S3 h1), ?_, k _ S3⟩
        have hz : ((([w, a, b, c] : List Str).map (·.length)).sum + ([w, a, b, c] : List Str).length) ≤ 1000000 := hz
        show _ + _ * 1 ≤ 16777216
        omega
      · rw [if_neg hw] at k
        rw [decide_eq_false (by simpa using hw)]
        refine iteT ?_
        refine ⟨_, rfl, t, _, 0, .str w, rfl, rfl, same_seqT S3 h1, atI_nat (j := 0) rfl, mk1 fun d H' nd' S' e => k d H' (S3.free nd') (S3.trans S') e⟩
theorem scRd : FnScope ["row", "parts"] ["row"] (defScope sRd) := ⟨rfl, rfl, rfl, by decide +kernel, rfl, by decide +kernel, by decide +kernel⟩
theorem ok_rd {f C fI fP : Addr} {fd fdI dP : FuncData} (F : Fun K "read_deed" "read_deed" sRd f fd) (T : TxB mg) (DP : Dn K mg "parts_of" sPo ["row"] fP dP) (TE : ErrT K mg "BadRow" "row" C fI) (bI : Binds K fdI ["self", "row"] []) (GI : FnOk P w K mg base CX0 2 fI fdI ["self", "row"] (spE1 C "row" "badrow")) : FnOk P w K mg base (L2N.CX P w) 4 f fd ["row"] (spRd K C) := by
  have GP : FnOk P w K mg base CX0 1 fP dP _ spPo := ok_po DP.F
  refine okN F scRd (fun vs H Q E h => ?_) (fun cdv A outer s H vs Q E hr h => ?_)
  · obtain ⟨row, rfl, _⟩ := h
    rfl
  · obtain ⟨row, rfl, hz, ho, k⟩ := h
    have hr3 : Room 3 _ := hr
    have hr1 : Room 1 _ := hr.mono (by decide)
    refine ⟨_, (pss_cons (ps_set (i := 1) scRd.nd rfl (Or.inl rfl) (pe_call GP hr1 rfl DP.g DP.F.kp DP.b .nil pass0 (pa_cons (pv 0) pa_nil)))
      (pss_cons (ps_if (PW.pt (pw_and (pt_cmpR (op_eqD hr.units) (pe_slice sl_list (pv 1) po_none (po_some pe_int)) (pe_lst (pa_cons pe_str pa_nil)) (nomark _)) (pw_and1 (pt_cmpR op_gt (pe_callB call_len_seq (by rfl) T.len (by decide +kernel) (pa_cons (pv 1) pa_nil)) pe_int (nomark _))))) (pss_one (ps_ret (pe_tup (pa_cons pe_str (pa_cons (pe_ix ix_list (pv 1) pe_int (fun _ _ => rfl)) (pa_cons (pe_callTy call_tupN (by rfl) T.tuple (by decide +kernel) (pa_cons (pe_slice sl_list (pv 1) (po_some pe_int) po_none) pa_nil)) pa_nil)))))) pss_nil)
      (pss_cons (ps_if (PW.pt (pw_and (pt_cmpR (op_inTD (u65 hr)) (pe_slice sl_list (pv 1) po_none (po_some pe_int)) (pe_tup (pa_cons (pe_lst (pa_cons pe_str pa_nil)) (pa_cons (pe_lst (pa_cons pe_str pa_nil)) pa_nil))) (by rfl)) (pw_and1 (pt_cmpR op_eq (pe_callB call_len_seq (by rfl) T.len (by decide +kernel) (pa_cons (pv 1) pa_nil)) pe_int (nomark _))))) (pss_one (ps_ret (pe_callTy call_tupN (by rfl) T.tuple (by decide +kernel) (pa_cons (pv 1) pa_nil)))) pss_nil)
      (pss_one (L2N.ps_raise rfl (L2N.takes_of rfl rfl rfl rfl) (pmkN_oex TE.o TE.iC TE.tI GI hr3 bI pass0 rfl TE.g (pa_cons pe_int pa_nil))))))), ?_⟩
    refine ⟨_, rfl, row, rfl, hz, fun l H1 nl S1 e1 => ?_⟩
    dsimp only [List.set_cons_succ, List.set_cons_zero]
    generalize hps : (if ("" : Str) ∈ Txt.split row " " then [] else Txt.split row " ") = ps at e1
    have ops : ∀ z ∈ ps, okS z := by
      rw [← hps]
      split
      · exact fun z hz => (List.not_mem_nil hz).elim
      · exact splitOk ho
    have erd : rd row = rdL ps := by
      unfold rd
      rw [← hps]
      by_cases h : ("" : Str) ∈ Txt.split row " "
      · rw [if_pos h, if_pos h]
        rfl
      · rw [if_neg h, if_neg h]
    rw [erd] at k
    clear hps erd
    have sh1 : ∀ n, SeqAt.shaped (.list ((ps.take n).map PyData.str)) = true := fun n => shaped_strs fun z hz => ops z (List.mem_of_mem_take hz)
    refine cut1 (fun σ' H' => σ' = [some (.str row), some (.ref l)] ∧ Same H H' ∧ H' l = some (.lst (ps.map V.str)) ∧ ∀ a r, ps ≠ ("do" : Str) :: a :: r) ?_ (fun R' fin => ?_)
    · rintro σ' H5 ⟨rfl, S5, e5, hno⟩
      -- is it make or drop
      refine cut1 (fun σ' H' => σ' = [some (.str row), some (.ref l)] ∧ Same H H' ∧ rdL ps = none) ?_ (fun R' fin => ?_)
      · rintro σ' H6 ⟨rfl, S6, hn⟩
        rw [hn] at k
        exact mk1 fun d H' nd' S' e => k d H' (S6.free nd') (S6.trans S') e
      refine ⟨_, rfl, _, rfl, l, _, rfl, SqL.of e5, fun l2 nl2 => ?_⟩
      rw [show cutV (ps.map V.str) none (some 1) = (ps.take 1).map V.str by rw [List.map_take]; exact cut_take _ 1]
      have S2 : Same H5 (upd H5 l2 (.lst ((ps.take 1).map V.str))) := Same.upd nl2
      have e2 : (upd H5 l2 (.lst ((ps.take 1).map V.str))) l2 = some (.lst ((ps.take 1).map V.str)) := upd_same
      generalize upd H5 l2 (.lst ((ps.take 1).map V.str)) = H2 at S2 e2
      refine ⟨by show 1 ≤ sizeLine; decide, fun l3 nl3 => ?_⟩
      have S3 : Same H2 (upd H2 l3 (.lst [.str "make"])) := Same.upd nl3
      have e3 : (upd H2 l3 (.lst [.str "make"])) l3 = some (.lst (([("make" : Str)]).map V.str)) := upd_same
      generalize upd H2 l3 (.lst [.str "make"]) = H3 at S3 e3
      refine ⟨by show 1 ≤ sizeLine; decide, fun l4 nl4 => ?_⟩
      have S4 : Same H3 (upd H3 l4 (.lst [.str "drop"])) := Same.upd nl4
      have e4 : (upd H3 l4 (.lst [.str "drop"])) l4 = some (.lst (([("drop" : Str)]).map V.str)) := upd_same
      generalize upd H3 l4 (.lst [.str "drop"]) = H4 at S4 e4
      refine ⟨by show 2 ≤ sizeLine; decide, fun t5 nt5 => ?_⟩
      have S6 : Same H4 (upd H4 t5 (.tup [.ref l3, .ref l4])) := Same.upd nt5
      have e6 : (upd H4 t5 (.tup [.ref l3, .ref l4])) t5 = some (.tup [.ref l3, .ref l4]) := upd_same
      generalize upd H4 t5 (.tup [.ref l3, .ref l4]) = H6 at S6 e6
      have S46 := S4.trans S6
      have S06 : Same H H6 := ((S5.trans S2).trans S3).trans S46
      have e56 := S46 _ _ (S3 _ _ (S2 _ _ e5))
      refine ⟨_, [.list (([("make" : Str)]).map PyData.str), .list (([("drop" : Str)]).map PyData.str)], .lst (SqL.of (S46 _ _ (S3 _ _ e2))) (dp_strs _), .tup (SqT.of e6) (.cons (.lst (SqL.of (S46 _ _ e3)) (dp_strs _)) (.cons (.lst (SqL.of (S6 _ _ e4)) (dp_strs _)) .nil)), sh1 1, by decide +kernel, _, rfl, ?_⟩
      rw [List.any_cons, List.any_cons, List.any_nil, eqv_strs, eqv_strs, Bool.or_false]
      have miss : ¬ (ps.take 1 = [("make" : Str)] ∨ ps.take 1 = [("drop" : Str)]) ∨ ps.length ≠ 4 → rdL ps = none := by
        intro h
        match ps, hno, h with
        | [], _, _ => rfl
        | [_], _, _ => rfl
        | a :: b :: r, hno, h =>
          have na : a ≠ ("do" : Str) := fun e => hno b r (by rw [e])
          unfold rdL
          simp only [if_neg na]
          match r, h with
          | [], _ => rfl
          | [_], _ => rfl
          | [c, d], h =>
            have hw : ¬ (a = ("make" : Str) ∨ a = ("drop" : Str)) := fun q => by
              rcases h with h | h
              · apply h
                rcases q with q | q
                · exact .inl (by rw [q]; rfl)
                · exact .inr (by rw [q]; rfl)
              · exact h rfl
            simp only [if_neg hw]
          | _ :: _ :: _ :: _, _ => rfl
      by_cases hw : ps.take 1 = [("make" : Str)] ∨ ps.take 1 = [("drop" : Str)]
      · rw [show (decide ([("make" : Str)] = ps.take 1) || decide ([("drop" : Str)] = ps.take 1)) = true by
          rcases hw with h | h
          · rw [h]; simp
          · rw [h]; simp]
        refine iteT ?_
        refine ⟨_, rfl, l, _, rfl, .inl (SqL.of e56), rfl, _, rfl, ?_⟩
        rw [List.length_map]
        by_cases h4 : ps.length = 4
        · refine ite2 (fun _ => ?_) (fun z => absurd (decide_eq_true (by rw [h4]; rfl)) z)
          obtain ⟨a, b, c, d, rfl⟩ : ∃ a b c d, ps = [a, b, c, d] := by
            match ps, h4 with
            | [a, b, c, d], _ => exact ⟨a, b, c, d, rfl⟩
          have ha : a = ("make" : Str) ∨ a = ("drop" : Str) := by
            rcases hw with h | h
            · exact .inl (List.cons.inj h).1
            · exact .inr (List.cons.inj h).1
          have na : a ≠ ("do" : Str) := fun e => hno b [c, d] (by rw [e])
          have er : rdL [a, b, c, d] = some (.mk a b c d) := by
            unfold rdL
            simp only [if_neg na, if_pos ha]
          rw [er] at k
          refine ⟨_, rfl, l, _, rfl, .inl ⟨SqL.of e56, fun t7 nt7 => ?_⟩⟩
          exact k t7 _ (S06.trans (Same.upd nt7)) (S06.free nt7) (SqT.of upd_same)
        · refine ite2 (fun z => absurd (V.int.inj (of_decide_eq_true z)) (by omega)) (fun _ => ?_)
          exact fin _ _ ⟨rfl, S06, miss (.inr h4)⟩
      · rw [show (decide ([("make" : Str)] = ps.take 1) || decide ([("drop" : Str)] = ps.take 1)) = false by
          rw [decide_eq_false (fun e => hw (.inl e.symm)), decide_eq_false (fun e => hw (.inr e.symm))]
          rfl]
        refine iteF ?_
        refine iteF ?_
        exact fin _ _ ⟨rfl, S06, miss (.inl hw)⟩
    -- is it do
    refine ⟨_, rfl, _, rfl, l, _, rfl, SqL.of e1, fun l2 nl2 => ?_⟩
    rw [show cutV (ps.map V.str) none (some 1) = (ps.take 1).map V.str by rw [List.map_take]; exact cut_take _ 1]
    have S2 : Same H1 (upd H1 l2 (.lst ((ps.take 1).map V.str))) := Same.upd nl2
    have e2 : (upd H1 l2 (.lst ((ps.take 1).map V.str))) l2 = some (.lst ((ps.take 1).map V.str)) := upd_same
    generalize upd H1 l2 (.lst ((ps.take 1).map V.str)) = H2 at S2 e2
    refine ⟨by show 1 ≤ sizeLine; decide, fun l3 nl3 => ?_⟩
    have S3 : Same H2 (upd H2 l3 (.lst [.str "do"])) := Same.upd nl3
    have e3 : (upd H2 l3 (.lst [.str "do"])) l3 = some (.lst (([("do" : Str)]).map V.str)) := upd_same
    generalize upd H2 l3 (.lst [.str "do"]) = H3 at S3 e3
    have S03 := (S1.trans S2).trans S3
    have e13 := S3 _ _ (S2 _ _ e1)
    refine ⟨_, _, .lst (SqL.of (S3 _ _ e2)) (dp_strs _), .lst (SqL.of e3) (dp_strs _), sh1 1, by decide +kernel, _, rfl, ?_⟩
    rw [eqv_strs]
    by_cases h1 : ps.take 1 = [("do" : Str)]
    · rw [decide_eq_true h1]
      refine iteT ?_
      refine ⟨_, rfl, l, _, rfl, .inl (SqL.of e13), _, _, rfl, rfl, _, rfl, ?_⟩
      rw [List.length_map]
      match ps, h1, e13, k, fin with
      | [a], h1, e13, k, fin =>
        refine ite2 (fun z => absurd (of_decide_eq_true z) (by show ¬ (1 : Int) < 1; decide)) (fun _ => ?_)
        exact fin _ _ ⟨rfl, S03, e13, fun _ _ q => by cases q⟩
      | a :: b :: r, h1, e13, k, fin =>
        have ea : a = ("do" : Str) := (List.cons.inj h1).1
        refine ite2 (fun _ => ?_) (fun z => absurd (decide_eq_true (by show (1 : Int) < ((r.length + 1 + 1 : Nat) : Int); omega)) z)
        have er : rdL (a :: b :: r) = some (.doo b r) := by
          unfold rdL
          simp only [if_pos ea]
        rw [er] at k
        refine ⟨_, rfl, ?_⟩
        dsimp only [tC]
        refine rdList e13 (j := 1) (v := .str b) rfl rfl ?_
        refine ⟨_, rfl, _, rfl, l, _, rfl, SqL.of e13, fun l5 nl5 => ?_⟩
        rw [show cutV ((a :: b :: r).map V.str) (some 2) none = r.map V.str from cut_drop _ 2]
        have S5 : Same H3 (upd H3 l5 (.lst (r.map V.str))) := Same.upd nl5
        have e5 : (upd H3 l5 (.lst (r.map V.str))) l5 = some (.lst (r.map V.str)) := upd_same
        generalize upd H3 l5 (.lst (r.map V.str)) = H5 at S5 e5
        refine ⟨l5, _, rfl, .inl ⟨SqL.of e5, fun t6 nt6 => ?_⟩⟩
        have S6 : Same H5 (upd H5 t6 (.tup (r.map V.str))) := Same.upd nt6
        have e6 : (upd H5 t6 (.tup (r.map V.str))) t6 = some (.tup (r.map V.str)) := upd_same
        generalize upd H5 t6 (.tup (r.map V.str)) = H6 at S6 e6
        have S06 := (S03.trans S5).trans S6
        refine ⟨by show 3 ≤ sizeLine; decide, fun t7 nt7 => ?_⟩
        have S7 : Same H6 (upd H6 t7 (.tup [.str "do", .str b, .ref t6])) := Same.upd nt7
        exact k t7 _ (S06.trans S7) (S06.free nt7) ⟨t6, SqT.of upd_same, same_seqT S7 (SqT.of e6)⟩
    · rw [decide_eq_false h1]
      refine iteF ?_
      refine iteF ?_
      exact fin _ _ ⟨rfl, S03, e13, fun a r q => h1 (by rw [q]; rfl)⟩
end
end Wm
namespace Wm
open PySem L2 StX
structure OkP (z : Str) : Prop where
  ok : okS z
  le : z.length ≤ 100
def GdD : Dd → Prop
  | .mk w a b c => NmZ a ∧ NmZ b ∧ NmZ c ∧ ClZ w ∧ w.length ≤ 21 ∧ w ≠ ("do" : Str)
  | .doo a zs => NmZ a ∧ (∀ z ∈ zs, NmZ z) ∧ zs.length ≤ 5
def spPot (K : PySem.W.Frag) : Sp := fun vs H Q _ => ∃ (a : Addr) (ns : List Int), vs = [.ref a] ∧ SqL K H a (ns.map V.int) ∧ ns.length ≤ 63 ∧ ∀ p q r H', H p = none → H q = none → H r = none → Same H H' → PotAt H' p q r 0 → Q (.ref p) H'
def spDed (K : PySem.W.Frag) : Sp := fun vs H Q _ => ∃ (p q r : Addr) (n : Nat) (kd : Int), vs = [.ref p, .int kd] ∧ PotAt H p q r n ∧ n ≤ 1000 ∧ 0 ≤ kd ∧ kd < 6 ∧ ∀ d t H', GdD d → Bt p q H H' → PotAt H' p q r (n + 200) → H t = none → DdAt K H' t d → Q (.ref t) H'
def spRow (K : PySem.W.Frag) : Sp := fun vs H Q _ => ∃ (t : Addr) (d : Dd), vs = [.ref t] ∧ DdAt K H t d ∧ szL (ddP d) ≤ 1000000 ∧ (match d with | .mk w _ _ _ => w ≠ ("do" : Str) | .doo _ _ => True) ∧ ∀ H', Same H H' → Q (.str (rowD d)) H'
def spSpo : Sp := fun vs H Q _ => ∃ (p q r l : Addr) (n : Nat) (ps : List Str) (wy : Int), vs = [.ref p, .ref l, .int wy] ∧ PotAt H p q r n ∧ n ≤ 10000 ∧ H l = some (.lst (ps.map V.str)) ∧ l ≠ p ∧ l ≠ q ∧ ps ≠ [] ∧ ps.length ≤ 1000 ∧ (∀ z ∈ ps, OkP z) ∧
  ∀ (qs : List Str) l' H', Bt p q H H' → PotAt H' p q r (n + 2) → H l' = none → H' l' = some (.lst (qs.map V.str)) → qs.length ≤ 4 * ps.length + 2 → (∀ z ∈ qs, OkP z) → Q (.ref l') H'
def TlAt (K : PySem.W.Frag) (H : Hp) (t : Addr) : Option Dd → Prop
  | none => SqT K H t [.str "badrow", .int 0]
  | some d => ∃ td, SqT K H t [.str "told", .ref td] ∧ DdAt K H td d
theorem TlAt.same {K : PySem.W.Frag} {H H' : Hp} {t : Addr} (s : Same H H') : ∀ {o : Option Dd}, TlAt K H t o → TlAt K H' t o
  | none, h => same_seqT s h
  | some _, ⟨td, a, b⟩ => ⟨td, same_seqT s a, b.same s⟩
def spDue (K : PySem.W.Frag) : Sp := fun vs H Q _ => ∃ row : Str, vs = [.str row] ∧ row.length ≤ 1000000 ∧ okS row ∧ ∀ t H', Same H H' → H t = none → TlAt K H' t (rd row) → Q (.ref t) H'
def cutL (ps : List Str) (lo hi : Option Int) : List Str := (ps.drop (HT.sIx ps.length 0 lo)).take (HT.sIx ps.length ps.length hi - HT.sIx ps.length 0 lo)
theorem cut_map (ps : List Str) (lo hi : Option Int) : cutV (ps.map V.str) lo hi = (cutL ps lo hi).map V.str := by
  unfold cutV cutL
  rw [List.length_map, List.map_take, List.map_drop]
theorem cut_mem {ps : List Str} {lo hi : Option Int} {z : Str} (h : z ∈ cutL ps lo hi) : z ∈ ps := List.mem_of_mem_drop (List.mem_of_mem_take h)
theorem cut_len (ps : List Str) (lo hi : Option Int) : (cutL ps lo hi).length ≤ ps.length := by
  unfold cutL
  rw [List.length_take, List.length_drop]
  omega
def oddS : List Str := ["", "do", "make", "drop", "a", "|", "Do", "make "]
theorem oddS_ok : ∀ z ∈ oddS, OkP z := by
  have h : ∀ z ∈ oddS, (∀ c ∈ z.cps.toList, c < 1114112) ∧ z.length ≤ 100 := by decide +kernel
  exact fun z hz => ⟨(h z hz).1, (h z hz).2⟩
theorem okP_app {a b : List Str} (ha : ∀ z ∈ a, OkP z) (hb : ∀ z ∈ b, OkP z) : ∀ z ∈ a ++ b, OkP z := fun z hz => by
  rcases List.mem_append.mp hz with h | h
  · exact ha z h
  · exact hb z h
section
variable {P : Program} {w : World} {K : PySem.W.Frag} {mg : Str → Option Value} {base : Heap}
theorem scPot : FnScope ["_law_script", "_law_cells", "_law_cell"] ["_law_script"] (defScope sPot) := ⟨rfl, rfl, rfl, by decide +kernel, rfl, by decide +kernel, by decide +kernel⟩
theorem ok_pot {f : Addr} {fd : FuncData} (F : Fun K "_law_pot" "_law_pot" sPot f fd) (T : TxB mg) (tl : mg "list" = none) : FnOk P w K mg base CX0 1 f fd ["_law_script"] (spPot K) := by
  refine F.ok scPot (fun vs H Q E h => ?_) (fun cdv A outer s H vs Q E hr h => ?_)
  · obtain ⟨a, ns, rfl, _⟩ := h
    rfl
  · obtain ⟨a, ns, rfl, hA, hlen, k⟩ := h
    refine ⟨_, (pss_cons (ps_set (i := 1) scPot.nd rfl (Or.inl rfl) (pe_callTy call_list_of (by rfl) tl (by decide +kernel) (pa_cons (pe_slice sl_list (pv 0) po_none (po_some pe_int)) pa_nil)))
      (pss_cons (ps_if (pt_cmpR (op_eqD hr.units) (pv 1) (pe_lst pa_nil) (nomark _)) (pss_one (ps_set (i := 1) scPot.nd rfl (Or.inl rfl) (pe_lst (pa_cons pe_int pa_nil)))) pss_nil)
      (pss_one (ps_ret (pe_lst (pa_cons (pe_lc (own := [("_law_cell", 2)]) (g := gName 2) rfl scPot.nd (pi_list (pv 1)) (blkOk_by (N := ["_law_script", "_law_cells", "_law_cell"]) (sc := defScope sPot) (by decide +kernel)) (fun _ _ _ _ _ => (pg_name (i := 2) scPot.nd rfl (Or.inl rfl))) (fun _ _ _ _ _ => (pts_one (pt_cmpR op_ge (pe_callB call_abs (by rfl) T.abs (by decide +kernel) (pa_cons (pv 2) pa_nil)) (pe_op op_pow pe_int pe_int) (nomark _)))) (fun _ _ _ _ _ => (pe_callB call_abs (by rfl) T.abs (by decide +kernel) (pa_cons (pv 2) pa_nil)))) (pa_cons pe_int (pa_cons (pv 1) pa_nil)))))))), ?_⟩
    refine ⟨_, rfl, _, rfl, a, _, rfl, hA, fun l1 n1 => ?_⟩
    rw [show cutV (ns.map V.int) none (some 63) = (ns.take 63).map V.int by rw [List.map_take]; exact cut_take _ 63]
    rw [List.take_of_length_le hlen]
    refine ⟨l1, _, rfl, .inl (SqL.of upd_same), fun l2 n2 => ?_⟩
    dsimp only [List.set_cons_succ, List.set_cons_zero]
    have S2 : Same H (upd (upd H l1 (.lst (ns.map V.int))) l2 (.lst (ns.map V.int))) := (Same.upd n1).trans (Same.upd n2)
    have f2 : H l2 = none := (Same.upd (o := .lst (ns.map V.int)) n1).free n2
    have e2 : (upd (upd H l1 (.lst (ns.map V.int))) l2 (.lst (ns.map V.int))) l2 = some (.lst (ns.map V.int)) := upd_same
    generalize upd (upd H l1 (.lst (ns.map V.int))) l2 (.lst (ns.map V.int)) = H2 at S2 e2
    refine cut1 (fun σ' H' => ∃ (l : Addr) (ys : List Int), σ' = [some (.ref a), some (.ref l), none] ∧ H l = none ∧ Same H H' ∧ H' l = some (.lst (ys.map V.int)) ∧ ys ≠ [] ∧ ys.length ≤ 100) ?_ (fun R' fin => ?_)
    · rintro σ' H3 ⟨l, ys, rfl, fl, S3, el, yne, y100⟩
      refine ⟨_, rfl, l, rfl, ⟨_, SqL.of el⟩, fun D hD => ?_⟩
      have nlD : l ≠ D := ne_of_none el hD
      refine lc_list (K := K) (a := l) (xs := ys.map V.int) (fun i H' => Same H3 H' ∧ ∃ xs : List Int, H' D = some (.lst (xs.map V.int)) ∧ xs.length ≤ i ∧ ∀ x ∈ xs, 0 ≤ x) ⟨Same.upd hD, [], upd_same, Nat.le_refl _, fun x hx => (List.not_mem_nil hx).elim⟩ (fun i H' _ p => SqL.of (p.1 _ _ el)) ?_ ?_
      · rintro i x H' hi ⟨hS, xs, hx, xl, xp⟩
        rw [List.getElem?_map] at hi
        obtain ⟨c, hc, rfl⟩ := Option.map_eq_some_iff.mp hi
        have il : i < ys.length := (List.getElem?_eq_some_iff.mp hc).1
        refine ⟨rfl, ?_⟩
        refine ⟨_, rfl, _, rfl, _, _, rfl, rfl, ⟨by decide, by decide, by decide⟩, _, _, rfl, rfl, _, rfl, ?_⟩
        refine ite2 (fun _ => ?_) (fun _ => ?_)
        · refine ⟨_, rfl, _, rfl, _, hx, ?_, ?_, ?_⟩
          · rw [List.length_map]
            exact Nat.lt_of_le_of_lt (show xs.length ≤ 100 by omega) (by decide)
          · intro b o h
            rw [upd_ne (ne_of_none h hD)]
            exact hS b o h
          · refine ⟨xs ++ [if c < 0 then -c else c], by rw [upd_same, List.map_append]; rfl, by rw [List.length_append, List.length_singleton]; omega, fun x hx' => ?_⟩
            rcases List.mem_append.mp hx' with q | q
            · exact xp x q
            · rw [List.mem_singleton.mp q]
              split <;> omega
        · exact ⟨hS, xs, hx, by omega, xp⟩
      · rintro H4 ⟨S4, xs, hx, xl, xp⟩
        rw [List.length_map] at xl
        refine ⟨_, rfl, by show 3 ≤ sizeLine; decide, fun pp np => ?_⟩
        have S5 : Same H4 (upd H4 pp (.lst [.ref D, .int 0, .ref l])) := Same.upd np
        exact k pp D l _ (S3.free (S4.free np)) (S3.free hD) fl ((S3.trans S4).trans S5) ⟨⟨0, xs, ys, upd_same, S5 _ _ hx, S5 _ _ (S4 _ _ el), Nat.le_refl _, xp, yne, by omega, y100⟩, (ne_of_none hx np).symm, (ne_of_none (S4 _ _ el) np).symm, nlD.symm⟩
    refine ⟨_, rfl, Nat.zero_le _, fun l3 n3 => ?_⟩
    have S3 : Same H2 (upd H2 l3 (.lst [])) := Same.upd n3
    have e3 : (upd H2 l3 (.lst [])) l3 = some (.lst []) := upd_same
    generalize upd H2 l3 (.lst []) = H3 at S3 e3
    refine ⟨_, _, .lst (SqL.of (S3 _ _ e2)) (dp_ints _), .lst (SqL.of e3) .nil, shaped_ints _, by decide +kernel, _, rfl, ?_⟩
    rw [eqv_nil_ints]
    by_cases hns : ns = []
    · rw [decide_eq_true hns]
      refine iteT ?_
      refine ⟨by show 1 ≤ sizeLine; decide, fun l4 n4 => ?_⟩
      exact fin _ _ ⟨l4, [0], rfl, (S2.trans S3).free n4, (S2.trans S3).trans (Same.upd n4), upd_same, by simp, by decide⟩
    · rw [decide_eq_false hns]
      refine iteF ?_
      exact fin _ _ ⟨l2, ns, rfl, f2, S2.trans S3, S3 _ _ e2, hns, by omega⟩
theorem scRow : FnScope ["_law_deed_here"] ["_law_deed_here"] (defScope sRow) := ⟨rfl, rfl, rfl, by decide +kernel, rfl, by decide +kernel, by decide +kernel⟩
theorem ok_row {f : Addr} {fd : FuncData} (F : Fun K "_law_row" "_law_row" sRow f fd) (tl : mg "list" = none) : FnOk P w K mg base CX0 1 f fd ["_law_deed_here"] (spRow K) := by
  refine F.ok scRow (fun vs H Q E h => ?_) (fun cdv A outer s H vs Q E hr h => ?_)
  · obtain ⟨t, d, rfl, _⟩ := h
    rfl
  · obtain ⟨t, d, rfl, hd, hz, hw, k⟩ := h
    refine ⟨_, (pss_cons (ps_if (pt_cmpR op_eq (pe_ix ix_tup (pv 0) pe_int (fun _ _ => rfl)) pe_str (nomark _)) (pss_one (ps_ret (pe_join pe_str (pe_op op_cat (pe_lst (pa_cons pe_str (pa_cons (pe_ix ix_tup (pv 0) pe_int (fun _ _ => rfl)) pa_nil))) (pe_callTy call_list_of (by rfl) tl (by decide +kernel) (pa_cons (pe_ix ix_tup (pv 0) pe_int (fun _ _ => rfl)) pa_nil)))))) pss_nil)
      (pss_one (ps_ret (pe_join pe_str (pe_callTy call_list_of (by rfl) tl (by decide +kernel) (pa_cons (pv 0) pa_nil)))))), ?_⟩
    match d, hd, hz, hw, k with
    | .doo a zs, ⟨t2, h1, h2⟩, hz, hw, k =>
      have hz : ((((("do" : Str) :: a :: zs).map (·.length)).sum + (("do" : Str) :: a :: zs).length)) ≤ 1000000 := hz
      refine ⟨_, rfl, ?_⟩
      refine ⟨t, _, 0, .str "do", rfl, rfl, h1, atI_nat (j := 0) rfl, rfl, _, rfl, ?_⟩
      refine iteT ?_
      refine ⟨⟨_, rfl⟩, _, rfl, t, _, 1, .str a, rfl, rfl, h1, atI_nat (j := 1) rfl, ?_⟩
      refine ⟨by show 2 ≤ sizeLine; decide, fun l1 n1 => ?_⟩
      have S1 : Same H (upd H l1 (.lst [.str "do", .str a])) := Same.upd n1
      have e1 : (upd H l1 (.lst [.str "do", .str a])) l1 = some (.lst [.str "do", .str a]) := upd_same
      generalize upd H l1 (.lst [.str "do", .str a]) = H1 at S1 e1
      refine ⟨_, rfl, t, _, 2, .ref t2, rfl, rfl, same_seqT S1 h1, atI_nat (j := 2) rfl, t2, _, rfl, .inr (same_seqT S1 h2), fun l2 n2 => ?_⟩
      have S2 : Same H1 (upd H1 l2 (.lst (zs.map V.str))) := Same.upd n2
      have e2 : (upd H1 l2 (.lst (zs.map V.str))) l2 = some (.lst (zs.map V.str)) := upd_same
      generalize upd H1 l2 (.lst (zs.map V.str)) = H2 at S2 e2
      refine ⟨l1, l2, _, _, rfl, rfl, S2 _ _ e1, e2, Nat.le_trans (show _ ≤ 1000000 by rw [List.length_map]; simp at hz ⊢; omega) (by decide), fun l3 n3 => ?_⟩
      refine ⟨_, l3, ("do" : Str) :: a :: zs, rfl, rfl, .inl (SqL.of upd_same), ?_, k _ ((S1.trans S2).trans (Same.upd n3))⟩
      show _ + _ * 1 ≤ 16777216
      omega
    | .mk w a b c, h1, hz, hw, k =>
      have h1 : SqT K H t [.str w, .str a, .str b, .str c] := h1
      have hz : ((([w, a, b, c] : List Str).map (·.length)).sum + ([w, a, b, c] : List Str).length) ≤ 1000000 := hz
      refine ⟨_, rfl, ?_⟩
      refine ⟨t, _, 0, .str w, rfl, rfl, h1, atI_nat (j := 0) rfl, rfl, _, rfl, ?_⟩
      refine ite2 (fun z => absurd (V.str.inj (of_decide_eq_true z)) hw) (fun _ => ?_)
      refine ⟨⟨_, rfl⟩, _, rfl, t, _, rfl, .inr h1, fun l1 n1 => ?_⟩
      refine ⟨_, l1, [w, a, b, c], rfl, rfl, .inl (SqL.of upd_same), ?_, k _ (Same.upd n1)⟩
      show _ + _ * 1 ≤ 16777216
      omega
end
end Wm
namespace Wm
open PySem L2 StX
theorem sz_ {n : Nat} (h : n ≤ 100000) : n ≤ sizeLine := Nat.le_trans h (by decide)
section
variable {P : Program} {w : World} {K : PySem.W.Frag} {mg : Str → Option Value} {base : Heap}
theorem scSpo : FnScope ["_law_pot_here", "_law_parts", "_law_way", "_law_at", "_law_rest", "_law_odd"] ["_law_pot_here", "_law_parts", "_law_way"] (defScope sSpo) := ⟨rfl, rfl, rfl, by decide +kernel, rfl, by decide +kernel, by decide +kernel⟩
theorem ok_spo {f fT : Addr} {fd dT : FuncData} (F : Fun K "_law_spoiled" "_law_spoiled" sSpo f fd) (T : TxB mg) (DT : Dn K mg "_law_take" sTak ["_law_pot_here", "_law_many"] fT dT) (GT : FnOk P w K mg base CX0 2 fT dT ["_law_pot_here", "_law_many"] spTak) : FnOk P w K mg base CX0 3 f fd ["_law_pot_here", "_law_parts", "_law_way"] spSpo := by
  refine F.ok scSpo (fun vs H Q E h => ?_) (fun cdv A outer s H vs Q E hr h => ?_)
  · obtain ⟨p, q, r, l, n, ps, wy, rfl, _⟩ := h
    rfl
  · obtain ⟨p, q, r, l, n, ps, wy, rfl, hP, hn, hl, nlp, nlq, pne, p1000, op, k⟩ := h
    have hr2 : Room 2 _ := hr
    have ppos : 0 < ps.length := List.length_pos_iff.mpr pne
    refine ⟨_, (pss_cons (ps_set (i := 3) scSpo.nd rfl (Or.inl rfl) (pe_call GT hr2 rfl DT.g DT.F.kp DT.b .nil pass0 (pa_cons (pv 0) (pa_cons (pe_callB call_len_seq (by rfl) T.len (by decide +kernel) (pa_cons (pv 1) pa_nil)) pa_nil))))
      (pss_cons (ps_set (i := 4) scSpo.nd rfl (Or.inl rfl) (pe_slice sl_list (pv 1) (po_some (pe_op op_add (pv 3) pe_int)) po_none))
      (pss_cons (ps_set (i := 5) scSpo.nd rfl (Or.inl rfl) (pe_ix ix_list (pe_lst (pa_cons pe_str (pa_cons pe_str (pa_cons pe_str (pa_cons pe_str (pa_cons pe_str (pa_cons pe_str (pa_cons pe_str (pa_cons pe_str pa_nil))))))))) (pe_call GT hr2 rfl DT.g DT.F.kp DT.b .nil pass0 (pa_cons (pv 0) (pa_cons pe_int pa_nil))) (fun _ _ => rfl)))
      (pss_cons (ps_if (pt_cmpR op_eq (pv 2) pe_int (nomark _)) (pss_one (ps_ret (pe_op op_cat (pe_slice sl_list (pv 1) po_none (po_some (pv 3))) (pv 4)))) pss_nil)
      (pss_cons (ps_if (pt_cmpR op_eq (pv 2) pe_int (nomark _)) (pss_one (ps_ret (pe_op op_cat (pe_op op_cat (pe_slice sl_list (pv 1) po_none (po_some (pv 3))) (pe_lst (pa_cons (pe_ix ix_list (pv 1) (pv 3) (fun _ _ => rfl)) pa_nil))) (pe_slice sl_list (pv 1) (po_some (pv 3)) po_none)))) pss_nil)
      (pss_cons (ps_if (pt_cmpR op_eq (pv 2) pe_int (nomark _)) (pss_one (ps_ret (pe_op op_cat (pe_op op_cat (pe_op op_cat (pe_slice sl_list (pv 1) po_none (po_some (pv 3))) (pe_slice sl_list (pv 4) po_none (po_some pe_int))) (pe_lst (pa_cons (pe_ix ix_list (pv 1) (pv 3) (fun _ _ => rfl)) pa_nil))) (pe_slice sl_list (pv 4) (po_some pe_int) po_none)))) pss_nil)
      (pss_cons (ps_if (pt_cmpR op_eq (pv 2) pe_int (nomark _)) (pss_one (ps_ret (pe_op op_cat (pe_op op_cat (pe_slice sl_list (pv 1) po_none (po_some (pv 3))) (pe_lst (pa_cons (pv 5) pa_nil))) (pv 4)))) pss_nil)
      (pss_cons (ps_if (pt_cmpR op_eq (pv 2) pe_int (nomark _)) (pss_one (ps_ret (pe_op op_cat (pe_op op_cat (pe_slice sl_list (pv 1) po_none (po_some (pv 3))) (pe_lst (pa_cons (pv 5) pa_nil))) (pe_slice sl_list (pv 1) (po_some (pv 3)) po_none)))) pss_nil)
      (pss_cons (ps_if (pt_cmpR op_eq (pv 2) pe_int (nomark _)) (pss_one (ps_ret (pe_op op_cat (pv 1) (pe_lst (pa_cons (pv 5) pa_nil))))) pss_nil)
      (pss_one (ps_ret (pe_op op_cat (pe_lst (pa_cons (pv 5) pa_nil)) (pv 4))))))))))))), ?_⟩
    refine ⟨_, rfl, _, rfl, l, _, rfl, .inl (SqL.of hl), p, q, r, n, _, rfl, hP, by omega, by rw [List.length_map]; omega, by rw [List.length_map]; omega, fun at_ H1 a0 a1 B1 P1 => ?_⟩
    rw [List.length_map] at a1
    dsimp only [List.set_cons_succ, List.set_cons_zero]
    have l1 := B1 _ _ nlp nlq hl
    refine ⟨_, rfl, _, rfl, _, _, rfl, rfl, _, rfl, l, _, rfl, SqL.of l1, fun lr nr => ?_⟩
    rw [cut_map]
    dsimp only [List.set_cons_succ, List.set_cons_zero]
    have orr0 : ∀ z ∈ cutL ps (some (at_ + 1)) none, OkP z := fun z hz => op z (cut_mem hz)
    have lrs0 := cut_len ps (some (at_ + 1)) none
    have Sr : Same H1 (upd H1 lr (.lst ((cutL ps (some (at_ + 1)) none).map V.str))) := Same.upd nr
    have er1 : (upd H1 lr (.lst ((cutL ps (some (at_ + 1)) none).map V.str))) lr = some (.lst ((cutL ps (some (at_ + 1)) none).map V.str)) := upd_same
    have P1' := P1.same Sr
    have nrr := P1.ne nr
    generalize cutL ps (some (at_ + 1)) none = rs at Sr er1 P1' orr0 lrs0
    generalize upd H1 lr (.lst (rs.map V.str)) = H1' at Sr er1 P1'
    refine ⟨by show 8 ≤ sizeLine; decide, fun lo no => ?_⟩
    have So : Same H1' (upd H1' lo (.lst [.str "", .str "do", .str "make", .str "drop", .str "a", .str "|", .str "Do", .str "make "])) := Same.upd no
    have eo1 : (upd H1' lo (.lst [.str "", .str "do", .str "make", .str "drop", .str "a", .str "|", .str "Do", .str "make "])) lo = some (.lst (oddS.map V.str)) := upd_same
    have P2 := P1'.same So
    have noo := P1'.ne no
    generalize upd H1' lo (.lst [.str "", .str "do", .str "make", .str "drop", .str "a", .str "|", .str "Do", .str "make "]) = H2 at So eo1 P2
    refine ⟨_, rfl, p, q, r, n + 1, 8, rfl, P2, by omega, by decide, by decide, fun dd H3 d0 d1 B3 P3 => ?_⟩
    have jlt : dd.toNat < oddS.length := by show dd.toNat < 8; omega
    refine rdList (B3 _ _ noo.1 noo.2.1 eo1) (j := dd.toNat) (v := .str (oddS[dd.toNat]'jlt)) (by omega) (by rw [List.getElem?_map, List.getElem?_eq_getElem jlt]; rfl) ?_
    dsimp only [List.set_cons_succ, List.set_cons_zero]
    have ood0 := oddS_ok _ (List.getElem_mem jlt)
    generalize oddS[dd.toNat]'jlt = od at ood0
    have ood : ∀ z ∈ [od], OkP z := fun z hz => by rw [List.mem_singleton.mp hz]; exact ood0
    have BH : Bt p q H H3 := ((B1.trans (Same.bt Sr)).trans (Same.bt So)).trans B3
    have el : H3 l = some (.lst (ps.map V.str)) := B3 _ _ nlp nlq (So _ _ (Sr _ _ l1))
    have er : H3 lr = some (.lst (rs.map V.str)) := B3 _ _ nrr.1 nrr.2.1 (So _ _ er1)
    have orr := orr0
    have lrs := lrs0
    have jat : at_.toNat < ps.length := by omega
    obtain ⟨xa, exa⟩ : ∃ xa, ps[at_.toNat]? = some xa := ⟨_, List.getElem?_eq_getElem jat⟩
    have ev : (ps.map V.str)[at_.toNat]? = some (.str xa) := by rw [List.getElem?_map, exa]; rfl
    have oxa : ∀ z ∈ [xa], OkP z := fun z hz => by rw [List.mem_singleton.mp hz]; exact op _ (List.mem_of_getElem? exa)
    have fin : ∀ (qs : List Str) (l' : Addr) (Hf : Hp), Same H3 Hf → H3 l' = none → Hf l' = some (.lst (qs.map V.str)) → qs.length ≤ 4 * ps.length + 2 → (∀ z ∈ qs, OkP z) → Q (.ref l') Hf := fun qs l' Hf S f e le o => by
      have ne := P3.ne f
      exact k qs l' Hf (BH.trans (Same.bt S)) (P3.same S) (BH.free ne.1 ne.2.1 f) e le o
    clear So Sr eo1 er1 P2 P1' noo nrr no nr B3 B1 l1 P1 orr0 lrs0
    refine ⟨_, rfl, rfl, _, rfl, ?_⟩
    refine ite2 (fun z => ?_) (fun z => ?_)
    ·
      refine ⟨_, rfl, _, rfl, _, rfl, l, _, rfl, SqL.of el, fun a1 na1 => ?_⟩
      rw [cut_map]
      have S1 : Same H3 (upd H3 a1 (.lst ((cutL ps none (some at_)).map V.str))) := Same.upd na1
      have ea1 : (upd H3 a1 (.lst ((cutL ps none (some at_)).map V.str))) a1 = some (.lst ((cutL ps none (some at_)).map V.str)) := upd_same
      have fa1 : H3 a1 = none := na1
      have el_1 := S1 _ _ el
      have elr_1 := S1 _ _ er
      generalize upd H3 a1 (.lst ((cutL ps none (some at_)).map V.str)) = G1 at S1 ea1 el_1 elr_1
      refine ⟨_, rfl, ?_⟩
      refine ⟨a1, lr, _, _, rfl, rfl, ea1, elr_1, sz_ (by simp only [List.length_map, List.length_append, List.length_cons, List.length_nil]; have := cut_len ps none (some at_); omega), fun a2 na2 => ?_⟩
      rw [← List.map_append]
      exact fin ((cutL ps none (some at_)) ++ (rs)) a2 _ ((S1).trans (Same.upd na2)) ((S1).free na2) upd_same (by simp only [List.length_append, List.length_cons, List.length_nil]; have := cut_len ps none (some at_); omega) (okP_app (fun z hz => op z (cut_mem hz)) (orr))
    refine ⟨_, rfl, rfl, _, rfl, ?_⟩
    refine ite2 (fun z => ?_) (fun z => ?_)
    ·
      refine ⟨_, rfl, _, rfl, _, rfl, l, _, rfl, SqL.of el, fun a1 na1 => ?_⟩
      rw [cut_map]
      have S1 : Same H3 (upd H3 a1 (.lst ((cutL ps none (some at_)).map V.str))) := Same.upd na1
      have ea1 : (upd H3 a1 (.lst ((cutL ps none (some at_)).map V.str))) a1 = some (.lst ((cutL ps none (some at_)).map V.str)) := upd_same
      have fa1 : H3 a1 = none := na1
      have el_1 := S1 _ _ el
      have elr_1 := S1 _ _ er
      generalize upd H3 a1 (.lst ((cutL ps none (some at_)).map V.str)) = G1 at S1 ea1 el_1 elr_1
      refine ⟨_, rfl, _, rfl, ?_⟩
      refine rdList el_1 (j := at_.toNat) (by omega) ev ?_
      refine ⟨by show 1 ≤ sizeLine; decide, fun a2 na2 => ?_⟩
      have S2 : Same G1 (upd G1 a2 (.lst [.str xa])) := Same.upd na2
      have ea2 : (upd G1 a2 (.lst [.str xa])) a2 = some (.lst (([xa]).map V.str)) := upd_same
      have fa2 : H3 a2 = none := (S1).free na2
      have T2 := (S1).trans S2
      have el_2 := S2 _ _ el_1
      have elr_2 := S2 _ _ elr_1
      have ea1_2 := S2 _ _ ea1
      generalize upd G1 a2 (.lst [.str xa]) = G2 at S2 ea2 T2 el_2 elr_2 ea1_2
      refine ⟨a1, a2, _, _, rfl, rfl, ea1_2, ea2, sz_ (by simp only [List.length_map, List.length_append, List.length_cons, List.length_nil]; have := cut_len ps none (some at_); omega), fun a3 na3 => ?_⟩
      rw [← List.map_append]
      have S3 : Same G2 (upd G2 a3 (.lst (((cutL ps none (some at_)) ++ ([xa])).map V.str))) := Same.upd na3
      have ea3 : (upd G2 a3 (.lst (((cutL ps none (some at_)) ++ ([xa])).map V.str))) a3 = some (.lst (((cutL ps none (some at_)) ++ ([xa])).map V.str)) := upd_same
      have fa3 : H3 a3 = none := (T2).free na3
      have T3 := (T2).trans S3
      have el_3 := S3 _ _ el_2
      have elr_3 := S3 _ _ elr_2
      have ea1_3 := S3 _ _ ea1_2
      have ea2_3 := S3 _ _ ea2
      generalize upd G2 a3 (.lst (((cutL ps none (some at_)) ++ ([xa])).map V.str)) = G3 at S3 ea3 T3 el_3 elr_3 ea1_3 ea2_3
      refine ⟨_, rfl, _, rfl, _, rfl, l, _, rfl, SqL.of el_3, fun a4 na4 => ?_⟩
      rw [cut_map]
      have S4 : Same G3 (upd G3 a4 (.lst ((cutL ps (some at_) none).map V.str))) := Same.upd na4
      have ea4 : (upd G3 a4 (.lst ((cutL ps (some at_) none).map V.str))) a4 = some (.lst ((cutL ps (some at_) none).map V.str)) := upd_same
      have fa4 : H3 a4 = none := (T3).free na4
      have T4 := (T3).trans S4
      have el_4 := S4 _ _ el_3
      have elr_4 := S4 _ _ elr_3
      have ea1_4 := S4 _ _ ea1_3
      have ea2_4 := S4 _ _ ea2_3
      have ea3_4 := S4 _ _ ea3
      generalize upd G3 a4 (.lst ((cutL ps (some at_) none).map V.str)) = G4 at S4 ea4 T4 el_4 elr_4 ea1_4 ea2_4 ea3_4
      refine ⟨a3, a4, _, _, rfl, rfl, ea3_4, ea4, sz_ (by simp only [List.length_map, List.length_append, List.length_cons, List.length_nil]; have := cut_len ps (some at_) none; have := cut_len ps none (some at_); omega), fun a5 na5 => ?_⟩
      rw [← List.map_append]
      exact fin (((cutL ps none (some at_)) ++ ([xa])) ++ (cutL ps (some at_) none)) a5 _ ((T4).trans (Same.upd na5)) ((T4).free na5) upd_same (by simp only [List.length_append, List.length_cons, List.length_nil]; have := cut_len ps (some at_) none; have := cut_len ps none (some at_); omega) (okP_app (okP_app (fun z hz => op z (cut_mem hz)) (oxa)) (fun z hz => op z (cut_mem hz)))
    refine ⟨_, rfl, rfl, _, rfl, ?_⟩
    refine ite2 (fun z => ?_) (fun z => ?_)
    ·
      refine ⟨_, rfl, _, rfl, _, rfl, l, _, rfl, SqL.of el, fun a1 na1 => ?_⟩
      rw [cut_map]
      have S1 : Same H3 (upd H3 a1 (.lst ((cutL ps none (some at_)).map V.str))) := Same.upd na1
      have ea1 : (upd H3 a1 (.lst ((cutL ps none (some at_)).map V.str))) a1 = some (.lst ((cutL ps none (some at_)).map V.str)) := upd_same
      have fa1 : H3 a1 = none := na1
      have el_1 := S1 _ _ el
      have elr_1 := S1 _ _ er
      generalize upd H3 a1 (.lst ((cutL ps none (some at_)).map V.str)) = G1 at S1 ea1 el_1 elr_1
      refine ⟨_, rfl, _, rfl, lr, _, rfl, SqL.of elr_1, fun a2 na2 => ?_⟩
      rw [cut_map]
      have S2 : Same G1 (upd G1 a2 (.lst ((cutL rs none (some 1)).map V.str))) := Same.upd na2
      have ea2 : (upd G1 a2 (.lst ((cutL rs none (some 1)).map V.str))) a2 = some (.lst ((cutL rs none (some 1)).map V.str)) := upd_same
      have fa2 : H3 a2 = none := (S1).free na2
      have T2 := (S1).trans S2
      have el_2 := S2 _ _ el_1
      have elr_2 := S2 _ _ elr_1
      have ea1_2 := S2 _ _ ea1
      generalize upd G1 a2 (.lst ((cutL rs none (some 1)).map V.str)) = G2 at S2 ea2 T2 el_2 elr_2 ea1_2
      refine ⟨a1, a2, _, _, rfl, rfl, ea1_2, ea2, sz_ (by simp only [List.length_map, List.length_append, List.length_cons, List.length_nil]; have := cut_len ps none (some at_); have := cut_len rs none (some 1); omega), fun a3 na3 => ?_⟩
      rw [← List.map_append]
      have S3 : Same G2 (upd G2 a3 (.lst (((cutL ps none (some at_)) ++ (cutL rs none (some 1))).map V.str))) := Same.upd na3
      have ea3 : (upd G2 a3 (.lst (((cutL ps none (some at_)) ++ (cutL rs none (some 1))).map V.str))) a3 = some (.lst (((cutL ps none (some at_)) ++ (cutL rs none (some 1))).map V.str)) := upd_same
      have fa3 : H3 a3 = none := (T2).free na3
      have T3 := (T2).trans S3
      have el_3 := S3 _ _ el_2
      have elr_3 := S3 _ _ elr_2
      have ea1_3 := S3 _ _ ea1_2
      have ea2_3 := S3 _ _ ea2
      generalize upd G2 a3 (.lst (((cutL ps none (some at_)) ++ (cutL rs none (some 1))).map V.str)) = G3 at S3 ea3 T3 el_3 elr_3 ea1_3 ea2_3
      refine ⟨_, rfl, _, rfl, ?_⟩
      refine rdList el_3 (j := at_.toNat) (by omega) ev ?_
      refine ⟨by show 1 ≤ sizeLine; decide, fun a4 na4 => ?_⟩
      have S4 : Same G3 (upd G3 a4 (.lst [.str xa])) := Same.upd na4
      have ea4 : (upd G3 a4 (.lst [.str xa])) a4 = some (.lst (([xa]).map V.str)) := upd_same
      have fa4 : H3 a4 = none := (T3).free na4
      have T4 := (T3).trans S4
      have el_4 := S4 _ _ el_3
      have elr_4 := S4 _ _ elr_3
      have ea1_4 := S4 _ _ ea1_3
      have ea2_4 := S4 _ _ ea2_3
      have ea3_4 := S4 _ _ ea3
      generalize upd G3 a4 (.lst [.str xa]) = G4 at S4 ea4 T4 el_4 elr_4 ea1_4 ea2_4 ea3_4
      refine ⟨a3, a4, _, _, rfl, rfl, ea3_4, ea4, sz_ (by simp only [List.length_map, List.length_append, List.length_cons, List.length_nil]; have := cut_len ps none (some at_); have := cut_len rs none (some 1); omega), fun a5 na5 => ?_⟩
      rw [← List.map_append]
      have S5 : Same G4 (upd G4 a5 (.lst ((((cutL ps none (some at_)) ++ (cutL rs none (some 1))) ++ ([xa])).map V.str))) := Same.upd na5
      have ea5 : (upd G4 a5 (.lst ((((cutL ps none (some at_)) ++ (cutL rs none (some 1))) ++ ([xa])).map V.str))) a5 = some (.lst ((((cutL ps none (some at_)) ++ (cutL rs none (some 1))) ++ ([xa])).map V.str)) := upd_same
      have fa5 : H3 a5 = none := (T4).free na5
      have T5 := (T4).trans S5
      have el_5 := S5 _ _ el_4
      have elr_5 := S5 _ _ elr_4
      have ea1_5 := S5 _ _ ea1_4
      have ea2_5 := S5 _ _ ea2_4
      have ea3_5 := S5 _ _ ea3_4
      have ea4_5 := S5 _ _ ea4
      generalize upd G4 a5 (.lst ((((cutL ps none (some at_)) ++ (cutL rs none (some 1))) ++ ([xa])).map V.str)) = G5 at S5 ea5 T5 el_5 elr_5 ea1_5 ea2_5 ea3_5 ea4_5
      refine ⟨_, rfl, _, rfl, lr, _, rfl, SqL.of elr_5, fun a6 na6 => ?_⟩
      rw [cut_map]
      have S6 : Same G5 (upd G5 a6 (.lst ((cutL rs (some 1) none).map V.str))) := Same.upd na6
      have ea6 : (upd G5 a6 (.lst ((cutL rs (some 1) none).map V.str))) a6 = some (.lst ((cutL rs (some 1) none).map V.str)) := upd_same
      have fa6 : H3 a6 = none := (T5).free na6
      have T6 := (T5).trans S6
      have el_6 := S6 _ _ el_5
      have elr_6 := S6 _ _ elr_5
      have ea1_6 := S6 _ _ ea1_5
      have ea2_6 := S6 _ _ ea2_5
      have ea3_6 := S6 _ _ ea3_5
      have ea4_6 := S6 _ _ ea4_5
      have ea5_6 := S6 _ _ ea5
      generalize upd G5 a6 (.lst ((cutL rs (some 1) none).map V.str)) = G6 at S6 ea6 T6 el_6 elr_6 ea1_6 ea2_6 ea3_6 ea4_6 ea5_6
      refine ⟨a5, a6, _, _, rfl, rfl, ea5_6, ea6, sz_ (by simp only [List.length_map, List.length_append, List.length_cons, List.length_nil]; have := cut_len ps none (some at_); have := cut_len rs (some 1) none; have := cut_len rs none (some 1); omega), fun a7 na7 => ?_⟩
      rw [← List.map_append]
      exact fin ((((cutL ps none (some at_)) ++ (cutL rs none (some 1))) ++ ([xa])) ++ (cutL rs (some 1) none)) a7 _ ((T6).trans (Same.upd na7)) ((T6).free na7) upd_same (by simp only [List.length_append, List.length_cons, List.length_nil]; have := cut_len ps none (some at_); have := cut_len rs (some 1) none; have := cut_len rs none (some 1); omega) (okP_app (okP_app (okP_app (fun z hz => op z (cut_mem hz)) (fun z hz => orr z (cut_mem hz))) (oxa)) (fun z hz => orr z (cut_mem hz)))
    refine ⟨_, rfl, rfl, _, rfl, ?_⟩
    refine ite2 (fun z => ?_) (fun z => ?_)
    ·
      refine ⟨_, rfl, _, rfl, _, rfl, l, _, rfl, SqL.of el, fun a1 na1 => ?_⟩
      rw [cut_map]
      have S1 : Same H3 (upd H3 a1 (.lst ((cutL ps none (some at_)).map V.str))) := Same.upd na1
      have ea1 : (upd H3 a1 (.lst ((cutL ps none (some at_)).map V.str))) a1 = some (.lst ((cutL ps none (some at_)).map V.str)) := upd_same
      have fa1 : H3 a1 = none := na1
      have el_1 := S1 _ _ el
      have elr_1 := S1 _ _ er
      generalize upd H3 a1 (.lst ((cutL ps none (some at_)).map V.str)) = G1 at S1 ea1 el_1 elr_1
      refine ⟨_, rfl, by show 1 ≤ sizeLine; decide, fun a2 na2 => ?_⟩
      have S2 : Same G1 (upd G1 a2 (.lst [.str od])) := Same.upd na2
      have ea2 : (upd G1 a2 (.lst [.str od])) a2 = some (.lst (([od]).map V.str)) := upd_same
      have fa2 : H3 a2 = none := (S1).free na2
      have T2 := (S1).trans S2
      have el_2 := S2 _ _ el_1
      have elr_2 := S2 _ _ elr_1
      have ea1_2 := S2 _ _ ea1
      generalize upd G1 a2 (.lst [.str od]) = G2 at S2 ea2 T2 el_2 elr_2 ea1_2
      refine ⟨a1, a2, _, _, rfl, rfl, ea1_2, ea2, sz_ (by simp only [List.length_map, List.length_append, List.length_cons, List.length_nil]; have := cut_len ps none (some at_); omega), fun a3 na3 => ?_⟩
      rw [← List.map_append]
      have S3 : Same G2 (upd G2 a3 (.lst (((cutL ps none (some at_)) ++ ([od])).map V.str))) := Same.upd na3
      have ea3 : (upd G2 a3 (.lst (((cutL ps none (some at_)) ++ ([od])).map V.str))) a3 = some (.lst (((cutL ps none (some at_)) ++ ([od])).map V.str)) := upd_same
      have fa3 : H3 a3 = none := (T2).free na3
      have T3 := (T2).trans S3
      have el_3 := S3 _ _ el_2
      have elr_3 := S3 _ _ elr_2
      have ea1_3 := S3 _ _ ea1_2
      have ea2_3 := S3 _ _ ea2
      generalize upd G2 a3 (.lst (((cutL ps none (some at_)) ++ ([od])).map V.str)) = G3 at S3 ea3 T3 el_3 elr_3 ea1_3 ea2_3
      refine ⟨_, rfl, ?_⟩
      refine ⟨a3, lr, _, _, rfl, rfl, ea3, elr_3, sz_ (by simp only [List.length_map, List.length_append, List.length_cons, List.length_nil]; have := cut_len ps none (some at_); omega), fun a4 na4 => ?_⟩
      rw [← List.map_append]
      exact fin (((cutL ps none (some at_)) ++ ([od])) ++ (rs)) a4 _ ((T3).trans (Same.upd na4)) ((T3).free na4) upd_same (by simp only [List.length_append, List.length_cons, List.length_nil]; have := cut_len ps none (some at_); omega) (okP_app (okP_app (fun z hz => op z (cut_mem hz)) (ood)) (orr))
    refine ⟨_, rfl, rfl, _, rfl, ?_⟩
    refine ite2 (fun z => ?_) (fun z => ?_)
    ·
      refine ⟨_, rfl, _, rfl, _, rfl, l, _, rfl, SqL.of el, fun a1 na1 => ?_⟩
      rw [cut_map]
      have S1 : Same H3 (upd H3 a1 (.lst ((cutL ps none (some at_)).map V.str))) := Same.upd na1
      have ea1 : (upd H3 a1 (.lst ((cutL ps none (some at_)).map V.str))) a1 = some (.lst ((cutL ps none (some at_)).map V.str)) := upd_same
      have fa1 : H3 a1 = none := na1
      have el_1 := S1 _ _ el
      have elr_1 := S1 _ _ er
      generalize upd H3 a1 (.lst ((cutL ps none (some at_)).map V.str)) = G1 at S1 ea1 el_1 elr_1
      refine ⟨_, rfl, by show 1 ≤ sizeLine; decide, fun a2 na2 => ?_⟩
      have S2 : Same G1 (upd G1 a2 (.lst [.str od])) := Same.upd na2
      have ea2 : (upd G1 a2 (.lst [.str od])) a2 = some (.lst (([od]).map V.str)) := upd_same
      have fa2 : H3 a2 = none := (S1).free na2
      have T2 := (S1).trans S2
      have el_2 := S2 _ _ el_1
      have elr_2 := S2 _ _ elr_1
      have ea1_2 := S2 _ _ ea1
      generalize upd G1 a2 (.lst [.str od]) = G2 at S2 ea2 T2 el_2 elr_2 ea1_2
      refine ⟨a1, a2, _, _, rfl, rfl, ea1_2, ea2, sz_ (by simp only [List.length_map, List.length_append, List.length_cons, List.length_nil]; have := cut_len ps none (some at_); omega), fun a3 na3 => ?_⟩
      rw [← List.map_append]
      have S3 : Same G2 (upd G2 a3 (.lst (((cutL ps none (some at_)) ++ ([od])).map V.str))) := Same.upd na3
      have ea3 : (upd G2 a3 (.lst (((cutL ps none (some at_)) ++ ([od])).map V.str))) a3 = some (.lst (((cutL ps none (some at_)) ++ ([od])).map V.str)) := upd_same
      have fa3 : H3 a3 = none := (T2).free na3
      have T3 := (T2).trans S3
      have el_3 := S3 _ _ el_2
      have elr_3 := S3 _ _ elr_2
      have ea1_3 := S3 _ _ ea1_2
      have ea2_3 := S3 _ _ ea2
      generalize upd G2 a3 (.lst (((cutL ps none (some at_)) ++ ([od])).map V.str)) = G3 at S3 ea3 T3 el_3 elr_3 ea1_3 ea2_3
      refine ⟨_, rfl, _, rfl, _, rfl, l, _, rfl, SqL.of el_3, fun a4 na4 => ?_⟩
      rw [cut_map]
      have S4 : Same G3 (upd G3 a4 (.lst ((cutL ps (some at_) none).map V.str))) := Same.upd na4
      have ea4 : (upd G3 a4 (.lst ((cutL ps (some at_) none).map V.str))) a4 = some (.lst ((cutL ps (some at_) none).map V.str)) := upd_same
      have fa4 : H3 a4 = none := (T3).free na4
      have T4 := (T3).trans S4
      have el_4 := S4 _ _ el_3
      have elr_4 := S4 _ _ elr_3
      have ea1_4 := S4 _ _ ea1_3
      have ea2_4 := S4 _ _ ea2_3
      have ea3_4 := S4 _ _ ea3
      generalize upd G3 a4 (.lst ((cutL ps (some at_) none).map V.str)) = G4 at S4 ea4 T4 el_4 elr_4 ea1_4 ea2_4 ea3_4
      refine ⟨a3, a4, _, _, rfl, rfl, ea3_4, ea4, sz_ (by simp only [List.length_map, List.length_append, List.length_cons, List.length_nil]; have := cut_len ps (some at_) none; have := cut_len ps none (some at_); omega), fun a5 na5 => ?_⟩
      rw [← List.map_append]
      exact fin (((cutL ps none (some at_)) ++ ([od])) ++ (cutL ps (some at_) none)) a5 _ ((T4).trans (Same.upd na5)) ((T4).free na5) upd_same (by simp only [List.length_append, List.length_cons, List.length_nil]; have := cut_len ps (some at_) none; have := cut_len ps none (some at_); omega) (okP_app (okP_app (fun z hz => op z (cut_mem hz)) (ood)) (fun z hz => op z (cut_mem hz)))
    refine ⟨_, rfl, rfl, _, rfl, ?_⟩
    refine ite2 (fun z => ?_) (fun z => ?_)
    ·
      refine ⟨_, rfl, ?_⟩
      refine ⟨_, rfl, by show 1 ≤ sizeLine; decide, fun a1 na1 => ?_⟩
      have S1 : Same H3 (upd H3 a1 (.lst [.str od])) := Same.upd na1
      have ea1 : (upd H3 a1 (.lst [.str od])) a1 = some (.lst (([od]).map V.str)) := upd_same
      have fa1 : H3 a1 = none := na1
      have el_1 := S1 _ _ el
      have elr_1 := S1 _ _ er
      generalize upd H3 a1 (.lst [.str od]) = G1 at S1 ea1 el_1 elr_1
      refine ⟨l, a1, _, _, rfl, rfl, el_1, ea1, sz_ (by simp only [List.length_map, List.length_append, List.length_cons, List.length_nil]; skip; omega), fun a2 na2 => ?_⟩
      rw [← List.map_append]
      exact fin ((ps) ++ ([od])) a2 _ ((S1).trans (Same.upd na2)) ((S1).free na2) upd_same (by simp only [List.length_append, List.length_cons, List.length_nil]; skip; omega) (okP_app (op) (ood))
    ·
      refine ⟨_, rfl, by show 1 ≤ sizeLine; decide, fun a1 na1 => ?_⟩
      have S1 : Same H3 (upd H3 a1 (.lst [.str od])) := Same.upd na1
      have ea1 : (upd H3 a1 (.lst [.str od])) a1 = some (.lst (([od]).map V.str)) := upd_same
      have fa1 : H3 a1 = none := na1
      have el_1 := S1 _ _ el
      have elr_1 := S1 _ _ er
      generalize upd H3 a1 (.lst [.str od]) = G1 at S1 ea1 el_1 elr_1
      refine ⟨_, rfl, ?_⟩
      refine ⟨a1, lr, _, _, rfl, rfl, ea1, elr_1, sz_ (by simp only [List.length_map, List.length_append, List.length_cons, List.length_nil]; skip; omega), fun a2 na2 => ?_⟩
      rw [← List.map_append]
      exact fin (([od]) ++ (rs)) a2 _ ((S1).trans (Same.upd na2)) ((S1).free na2) upd_same (by simp only [List.length_append, List.length_cons, List.length_nil]; skip; omega) (okP_app (ood) (orr))
end
end Wm
namespace Wm
open PySem L2 StX
def giveL (z : Str) : List Str := ["give", "", "Make", "dodo", "mak", "DROP", "play", z]
theorem give_ok {z : Str} (hz : ClZ z) (hl : z.length ≤ 21) (hn : z ≠ ("do" : Str)) : ∀ y ∈ giveL z, ClZ y ∧ y.length ≤ 21 ∧ y ≠ ("do" : Str) := by
  have h : ∀ y ∈ (["give", "", "Make", "dodo", "mak", "DROP", "play"] : List Str), (∀ c ∈ y.cps.toList, c < 1114112) ∧ 32 ∉ y.cps.toList ∧ y.length ≤ 21 ∧ y ≠ ("do" : Str) := by decide +kernel
  intro y hy
  have e : giveL z = (["give", "", "Make", "dodo", "mak", "DROP", "play"] : List Str) ++ [z] := rfl
  rw [e] at hy
  rcases List.mem_append.mp hy with q | q
  · obtain ⟨a, b, c, d⟩ := h y q
    exact ⟨⟨a, b⟩, c, d⟩
  · rw [List.mem_singleton.mp q]
    exact ⟨hz, hl, hn⟩
theorem x_ne {z : Str} : z ++ "x" ≠ ("do" : Str) ∧ z ++ "x" ≠ ("make" : Str) ∧ z ++ "x" ≠ ("drop" : Str) := by
  have key : ∀ (y : Str), y.cps.toList.getLast? ≠ some 120 → z ++ "x" ≠ y := fun y hy e => by
    apply hy
    rw [← e, toList_app]
    rw [show (PySem.Str.ofString "x").cps.toList = [120] by decide +kernel]
    simp
  exact ⟨key _ (by decide +kernel), key _ (by decide +kernel), key _ (by decide +kernel)⟩
section
variable {P : Program} {w : World} {K : PySem.W.Frag} {mg : Str → Option Value} {base : Heap}
theorem scDue : FnScope ["_law_row_here", "_law_parts"] ["_law_row_here"] (defScope sDue) := ⟨rfl, rfl, rfl, by decide +kernel, rfl, by decide +kernel, by decide +kernel⟩
theorem ok_due {f : Addr} {fd : FuncData} (F : Fun K "_law_due" "_law_due" sDue f fd) (T : TxB mg) : FnOk P w K mg base CX0 1 f fd ["_law_row_here"] (spDue K) := by
  refine F.ok scDue (fun vs H Q E h => ?_) (fun cdv A outer s H vs Q E hr h => ?_)
  · obtain ⟨row, rfl, _⟩ := h
    rfl
  · obtain ⟨row, rfl, hz, ho, k⟩ := h
    refine ⟨_, (pss_cons (ps_set (i := 1) scDue.nd rfl (Or.inl rfl) (pe_split (pv 0) pe_str))
      (pss_cons (ps_if (pt_cmpR op_in_seq pe_str (pv 1) (by rfl)) (pss_one (ps_ret (pe_tup (pa_cons pe_str (pa_cons pe_int pa_nil))))) pss_nil)
      (pss_cons (ps_if (PW.pt (pw_and (pt_cmpR op_eq (pe_ix ix_list (pv 1) pe_int (fun _ _ => rfl)) pe_str (nomark _)) (pw_and1 (pt_cmpR op_gt (pe_callB call_len_seq (by rfl) T.len (by decide +kernel) (pa_cons (pv 1) pa_nil)) pe_int (nomark _))))) (pss_one (ps_ret (pe_tup (pa_cons pe_str (pa_cons (pe_tup (pa_cons pe_str (pa_cons (pe_ix ix_list (pv 1) pe_int (fun _ _ => rfl)) (pa_cons (pe_callTy call_tupN (by rfl) T.tuple (by decide +kernel) (pa_cons (pe_slice sl_list (pv 1) (po_some pe_int) po_none) pa_nil)) pa_nil)))) pa_nil))))) pss_nil)
      (pss_cons (ps_if (PW.pt (pw_and (pt_cmpR op_in_seq (pe_ix ix_list (pv 1) pe_int (fun _ _ => rfl)) (pe_tup (pa_cons pe_str (pa_cons pe_str pa_nil))) (by rfl)) (pw_and1 (pt_cmpR op_eq (pe_callB call_len_seq (by rfl) T.len (by decide +kernel) (pa_cons (pv 1) pa_nil)) pe_int (nomark _))))) (pss_one (ps_ret (pe_tup (pa_cons pe_str (pa_cons (pe_tup (pa_cons (pe_ix ix_list (pv 1) pe_int (fun _ _ => rfl)) (pa_cons (pe_ix ix_list (pv 1) pe_int (fun _ _ => rfl)) (pa_cons (pe_ix ix_list (pv 1) pe_int (fun _ _ => rfl)) (pa_cons (pe_ix ix_list (pv 1) pe_int (fun _ _ => rfl)) pa_nil))))) pa_nil))))) pss_nil)
      (pss_one (ps_ret (pe_tup (pa_cons pe_str (pa_cons pe_int pa_nil))))))))), ?_⟩
    refine ⟨_, rfl, ⟨row, rfl⟩, row, _, rfl, rfl, by decide +kernel, Nat.le_trans (show row.length + 2 ≤ 2000000 by omega) (by decide), fun l nl => ?_⟩
    dsimp only [List.set_cons_succ, List.set_cons_zero]
    have S1 : Same H (upd H l (.lst ((Txt.split row " ").map V.str))) := Same.upd nl
    have e1 : (upd H l (.lst ((Txt.split row " ").map V.str))) l = some (.lst ((Txt.split row " ").map V.str)) := upd_same
    have sne : Txt.split row " " ≠ [] := by
      rw [show Txt.split row " " = Txt.split row ⟨#[32]⟩ by rw [← blank]]
      exact split_ne _ _
    unfold rd at k
    generalize Txt.split row " " = ps at S1 e1 sne k
    generalize upd H l (.lst (ps.map V.str)) = H1 at S1 e1
    refine ⟨_, rfl, l, _, rfl, .inl (SqL.of e1), rfl, flatS _, _, rfl, ?_⟩
    show if inV (.str "") (ps.map V.str) = true then _ else _
    rw [inV_strs]
    by_cases h : ("" : Str) ∈ ps
    · rw [decide_eq_true h]
      rw [if_pos h] at k
      exact iteT ⟨by show 2 ≤ sizeLine; decide, fun t nt => k t _ (S1.trans (Same.upd nt)) (S1.free nt) (SqT.of upd_same)⟩
    rw [decide_eq_false h]
    rw [if_neg h] at k
    refine iteF ?_
    have bad : ∀ {H5 : Hp}, Same H H5 → rdL ps = none → tRet (tTup (tCons (tC (.str "badrow")) (tCons (tC (.int 0)) tNil))) { nx := fun _ H' => Q .non H', rt := Q } [some (.str row), some (.ref l)] H5 := fun {H5} S5 en => by
      rw [en] at k
      exact ⟨by show 2 ≤ sizeLine; decide, fun t nt => k t _ (S5.trans (Same.upd nt)) (S5.free nt) (SqT.of upd_same)⟩
    obtain ⟨w0, r0, rfl⟩ : ∃ w0 r0, ps = w0 :: r0 := by
      cases ps with
      | nil => exact absurd rfl sne
      | cons a b => exact ⟨a, b, rfl⟩
    dsimp only [tNext]
    refine cut1 (fun σ' H' => σ' = [some (.str row), some (.ref l)] ∧ Same H H' ∧ H' l = some (.lst ((w0 :: r0).map V.str)) ∧ ∀ a r, w0 :: r0 ≠ ("do" : Str) :: a :: r) ?_ (fun R' fin => ?_)
    · rintro σ' H5 ⟨rfl, S5, e5, hno⟩
      refine cut1 (fun σ' H' => σ' = [some (.str row), some (.ref l)] ∧ Same H H' ∧ rdL (w0 :: r0) = none) ?_ (fun R' fin => ?_)
      · rintro σ' H6 ⟨rfl, S6, en⟩
        exact bad S6 en
      have miss : ¬ (w0 = ("make" : Str) ∨ w0 = ("drop" : Str)) ∨ r0.length ≠ 3 → rdL (w0 :: r0) = none := by
        intro h
        match r0, hno, h with
        | [], _, _ => rfl
        | b :: r, hno, h =>
          have na : w0 ≠ ("do" : Str) := fun e => hno b r (by rw [e])
          unfold rdL
          simp only [if_neg na]
          match r, h with
          | [], _ => rfl
          | [_], _ => rfl
          | [c, d], h =>
            have hw : ¬ (w0 = ("make" : Str) ∨ w0 = ("drop" : Str)) := fun q => by
              rcases h with h | h
              · exact h q
              · exact h rfl
            simp only [if_neg hw]
          | _ :: _ :: _ :: _, _ => rfl
      refine ⟨_, rfl, ?_⟩
      dsimp only [tC]
      refine rdList e5 (j := 0) (v := .str w0) rfl rfl ?_
      refine ⟨by show 2 ≤ sizeLine; decide, fun t3 nt3 => ?_⟩
      have S3 : Same H5 (upd H5 t3 (.tup [.str "make", .str "drop"])) := Same.upd nt3
      have e3 := S3 _ _ e5
      have S53 := S5.trans S3
      refine ⟨t3, _, rfl, .inr (SqT.of upd_same), rfl, rfl, _, rfl, ?_⟩
      generalize upd H5 t3 (.tup [.str "make", .str "drop"]) = H6 at S3 e3 S53
      show if inV (.str w0) (([("make" : Str), "drop"]).map V.str) = true then _ else _
      rw [inV_strs]
      by_cases hw : w0 = ("make" : Str) ∨ w0 = ("drop" : Str)
      · rw [decide_eq_true (by simpa using hw)]
        refine iteT ?_
        refine ⟨_, rfl, l, _, rfl, .inl (SqL.of e3), rfl, _, rfl, ?_⟩
        rw [List.length_map]
        by_cases h4 : r0.length = 3
        · refine ite2 (fun _ => ?_) (fun z => absurd (decide_eq_true (by rw [List.length_cons, h4]; rfl)) z)
          obtain ⟨b, c, d, rfl⟩ : ∃ b c d, r0 = [b, c, d] := by
            match r0, h4 with
            | [b, c, d], _ => exact ⟨b, c, d, rfl⟩
          have na : w0 ≠ ("do" : Str) := fun e => hno b [c, d] (by rw [e])
          have er : rdL [w0, b, c, d] = some (.mk w0 b c d) := by
            unfold rdL
            simp only [if_neg na, if_pos hw]
          rw [er] at k
          refine ⟨_, rfl, ?_⟩
          dsimp only [tC]
          refine rdList e3 (j := 0) (v := .str w0) rfl rfl ?_
          refine ⟨_, rfl, ?_⟩
          dsimp only [tC]
          refine rdList e3 (j := 1) (v := .str b) rfl rfl ?_
          refine ⟨_, rfl, ?_⟩
          dsimp only [tC]
          refine rdList e3 (j := 2) (v := .str c) rfl rfl ?_
          refine ⟨_, rfl, ?_⟩
          dsimp only [tC]
          refine rdList e3 (j := 3) (v := .str d) rfl rfl ?_
          refine ⟨by show 4 ≤ sizeLine; decide, fun t7 nt7 => ⟨by show 2 ≤ sizeLine; decide, fun t8 nt8 => ?_⟩⟩
          have S7 : Same H6 (upd H6 t7 (.tup [.str w0, .str b, .str c, .str d])) := Same.upd nt7
          exact k t8 _ ((S53.trans S7).trans (Same.upd nt8)) ((S53.trans S7).free nt8) ⟨t7, SqT.of upd_same, SqT.of (Same.upd nt8 _ _ upd_same)⟩
        · refine ite2 (fun z => absurd (V.int.inj (of_decide_eq_true z)) (by rw [List.length_cons]; omega)) (fun _ => ?_)
          exact fin _ _ ⟨rfl, S53, miss (.inr h4)⟩
      · rw [decide_eq_false (by simpa using hw)]
        refine iteF ?_
        refine iteF ?_
        exact fin _ _ ⟨rfl, S53, miss (.inl hw)⟩
    refine ⟨_, rfl, ?_⟩
    dsimp only [tC]
    refine rdList e1 (j := 0) (v := .str w0) rfl rfl ?_
    refine ⟨rfl, _, rfl, ?_⟩
    refine ite2 (fun z => ?_) (fun z => ?_)
    · have ea : w0 = ("do" : Str) := V.str.inj (of_decide_eq_true z)
      refine ⟨_, rfl, l, _, rfl, .inl (SqL.of e1), _, _, rfl, rfl, _, rfl, ?_⟩
      rw [List.length_map]
      match r0, e1, k, fin with
      | [], e1, k, fin =>
        refine ite2 (fun z => absurd (of_decide_eq_true z) (by show ¬ (1 : Int) < 1; decide)) (fun _ => ?_)
        exact fin _ _ ⟨rfl, S1, e1, fun _ _ q => by cases q⟩
      | b :: r, e1, k, fin =>
        refine ite2 (fun _ => ?_) (fun z => absurd (decide_eq_true (by show (1 : Int) < ((r.length + 1 + 1 : Nat) : Int); omega)) z)
        have er : rdL (w0 :: b :: r) = some (.doo b r) := by
          unfold rdL
          simp only [if_pos ea]
        rw [er] at k
        refine ⟨_, rfl, ?_⟩
        dsimp only [tC]
        refine rdList e1 (j := 1) (v := .str b) rfl rfl ?_
        refine ⟨_, rfl, _, rfl, l, _, rfl, SqL.of e1, fun l5 nl5 => ?_⟩
        rw [show cutV ((w0 :: b :: r).map V.str) (some 2) none = r.map V.str from cut_drop _ 2]
        have S5 : Same H1 (upd H1 l5 (.lst (r.map V.str))) := Same.upd nl5
        have e5 : (upd H1 l5 (.lst (r.map V.str))) l5 = some (.lst (r.map V.str)) := upd_same
        generalize upd H1 l5 (.lst (r.map V.str)) = H5 at S5 e5
        refine ⟨l5, _, rfl, .inl ⟨SqL.of e5, fun t6 nt6 => ?_⟩⟩
        have S6 : Same H5 (upd H5 t6 (.tup (r.map V.str))) := Same.upd nt6
        have e6 : (upd H5 t6 (.tup (r.map V.str))) t6 = some (.tup (r.map V.str)) := upd_same
        generalize upd H5 t6 (.tup (r.map V.str)) = H6 at S6 e6
        have S06 := (S1.trans S5).trans S6
        refine ⟨by show 3 ≤ sizeLine; decide, fun t7 nt7 => ⟨by show 2 ≤ sizeLine; decide, fun t8 nt8 => ?_⟩⟩
        have S7 : Same H6 (upd H6 t7 (.tup [.str "do", .str b, .ref t6])) := Same.upd nt7
        have S8 : Same (upd H6 t7 (.tup [.str "do", .str b, .ref t6])) (upd (upd H6 t7 (.tup [.str "do", .str b, .ref t6])) t8 (.tup [.str "told", .ref t7])) := Same.upd nt8
        exact k t8 _ ((S06.trans S7).trans S8) ((S06.trans S7).free nt8) ⟨t7, SqT.of upd_same, t6, same_seqT S8 (SqT.of upd_same), same_seqT (S7.trans S8) (SqT.of e6)⟩
    · refine iteF ?_
      exact fin _ _ ⟨rfl, S1, e1, fun a r q => z (by rw [(List.cons.inj q).1]; rfl)⟩
theorem scDed : FnScope ["_law_pot_here", "_law_kind", "_law_names_here", "_law_odd", "_law_k"] ["_law_pot_here", "_law_kind"] (defScope sDed) := ⟨rfl, rfl, rfl, by decide +kernel, rfl, by decide +kernel, by decide +kernel⟩
theorem ok_ded {f fT fN : Addr} {fd dT dN : FuncData} (F : Fun K "_law_deed" "_law_deed" sDed f fd) (T : TxB mg) (DT : Dn K mg "_law_take" sTak ["_law_pot_here", "_law_many"] fT dT) (GT : FnOk P w K mg base CX0 2 fT dT ["_law_pot_here", "_law_many"] spTak)
    (DN : Dn K mg "_law_name" sNam ["_law_pot_here", "_law_taken"] fN dN) (GN : FnOk P w K mg base CX0 4 fN dN ["_law_pot_here", "_law_taken"] spNam) : FnOk P w K mg base CX0 5 f fd ["_law_pot_here", "_law_kind"] (spDed K) := by
  refine F.ok scDed (fun vs H Q E h => ?_) (fun cdv A outer s H vs Q E hr h => ?_)
  · obtain ⟨p, q, r, n, kd, rfl, _⟩ := h
    rfl
  · obtain ⟨p, q, r, n, kd, rfl, hP, hn, k0, k6, k⟩ := h
    have hr2 : Room 2 _ := hr.mono (by decide)
    refine ⟨_, (pss_cons (ps_setLc (i := 2) (own := [("_law_k", 4)]) (g := gName 4) (te := tCall spNam [] E0 (tCons (tVar 0) (tCons (tLst tNil) tNil))) rfl scDed.nd rfl rfl (sw_true rfl rfl rfl (by decide +kernel)) (pi_range1 rfl T.range (pa_cons pe_int pa_nil)) (blkOk_by (N := ["_law_pot_here", "_law_kind", "_law_names_here", "_law_odd", "_law_k"]) (sc := defScope sDed) (by decide +kernel)) (fun _ _ _ _ _ => (pg_name (i := 4) scDed.nd rfl (Or.inl rfl))) (fun _ _ _ _ _ => pts_nil) (fun _ _ _ _ _ => (pe_call GN hr rfl DN.g DN.F.kp DN.b .nil pass0 (pa_cons (pv 0) (pa_cons (pe_lst pa_nil) pa_nil)))))
      (pss_cons (ps_if (pt_cmpR op_eq (pv 1) pe_int (nomark _)) (pss_one (ps_ret (pe_tup (pa_cons pe_str (pa_cons (pe_ix ix_list (pv 2) pe_int (fun _ _ => rfl)) (pa_cons (pe_ix ix_list (pv 2) pe_int (fun _ _ => rfl)) (pa_cons (pe_ix ix_list (pv 2) pe_int (fun _ _ => rfl)) pa_nil))))))) pss_nil)
      (pss_cons (ps_if (pt_cmpR op_eq (pv 1) pe_int (nomark _)) (pss_one (ps_ret (pe_tup (pa_cons pe_str (pa_cons (pe_ix ix_list (pv 2) pe_int (fun _ _ => rfl)) (pa_cons (pe_ix ix_list (pv 2) pe_int (fun _ _ => rfl)) (pa_cons (pe_ix ix_list (pv 2) pe_int (fun _ _ => rfl)) pa_nil))))))) pss_nil)
      (pss_cons (ps_if (pt_cmpR op_lt (pv 1) pe_int (nomark _)) (pss_one (ps_ret (pe_tup (pa_cons pe_str (pa_cons (pe_ix ix_list (pv 2) pe_int (fun _ _ => rfl)) (pa_cons (pe_callTy call_tupN (by rfl) T.tuple (by decide +kernel) (pa_cons (pe_lc (own := [("_law_k", 4)]) (g := gName 4) (te := tCall spNam [] E0 (tCons (tVar 0) (tCons (tLst tNil) tNil))) rfl scDed.nd (pi_range1 rfl T.range (pa_cons (pe_call GT hr2 rfl DT.g DT.F.kp DT.b .nil pass0 (pa_cons (pv 0) (pa_cons pe_int pa_nil))) pa_nil)) (blkOk_by (N := ["_law_pot_here", "_law_kind", "_law_names_here", "_law_odd", "_law_k"]) (sc := defScope sDed) (by decide +kernel)) (fun _ _ _ _ _ => (pg_name (i := 4) scDed.nd rfl (Or.inl rfl))) (fun _ _ _ _ _ => pts_nil) (fun _ _ _ _ _ => (pe_call GN hr rfl DN.g DN.F.kp DN.b .nil pass0 (pa_cons (pv 0) (pa_cons (pe_lst pa_nil) pa_nil))))) pa_nil)) pa_nil)))))) pss_nil)
      (pss_cons (ps_set (i := 3) scDed.nd rfl (Or.inl rfl) (pe_lst (pa_cons pe_str (pa_cons pe_str (pa_cons pe_str (pa_cons pe_str (pa_cons pe_str (pa_cons pe_str (pa_cons pe_str (pa_cons (pe_op op_add_str (pe_ix ix_list (pv 2) pe_int (fun _ _ => rfl)) pe_str) pa_nil))))))))))
      (pss_one (ps_ret (pe_tup (pa_cons (pe_ix ix_list (pv 3) (pe_call GT hr2 rfl DT.g DT.F.kp DT.b .nil pass0 (pa_cons (pv 0) (pa_cons pe_int pa_nil))) (fun _ _ => rfl)) (pa_cons (pe_ix ix_list (pv 2) pe_int (fun _ _ => rfl)) (pa_cons (pe_ix ix_list (pv 2) pe_int (fun _ _ => rfl)) (pa_cons (pe_ix ix_list (pv 2) pe_int (fun _ _ => rfl)) pa_nil)))))))))))), ?_⟩
    refine ⟨3, rfl, by decide, by decide, fun D hD => ?_⟩
    have nD := hP.ne hD
    have fD := hD
    refine lc_range (fun i H' => ∃ ys : List Str, H' D = some (.lst (ys.map V.str)) ∧ ys.length = i ∧ (∀ y ∈ ys, NmZ y) ∧ Bt p q H H' ∧ PotAt H' p q r (n + 12 * i)) ?_ ?_ ?_
    · exact ⟨[], upd_same, rfl, fun y hy => (List.not_mem_nil hy).elim, (Bt.refl p q H).trans (Same.bt (Same.upd hD)), (hP).same (Same.upd hD)⟩
    · rintro i H' hi ⟨ys, hys, hl, hnz, B, P1⟩
      refine ⟨rfl, ?_⟩
      refine ⟨_, rfl, Nat.zero_le _, fun l nl => ?_⟩
      have ne := P1.ne nl
      refine ⟨p, q, r, l, n + 12 * i, rfl, P1.same (Same.upd nl), upd_same, ne.1, ne.2.1, by omega, fun z H9 hz B9 P9 => ?_⟩
      have B0 := (B.trans (Same.bt (Same.upd (o := .lst []) nl))).trans B9
      refine ⟨_, B9 _ _ nD.1 nD.2.1 (Same.upd nl _ _ hys), ?_, ys ++ [z], ?_, ?_, ?_, B0.new fD, (P9.upd nD.1 nD.2.1 nD.2.2).mono (by omega)⟩
      · rw [List.length_map]
        exact Nat.lt_of_le_of_lt (show ys.length ≤ 100 by omega) (by decide)
      · rw [upd_same, List.map_append]
        rfl
      · rw [List.length_append, List.length_singleton]
        omega
      · intro y hy
        rcases List.mem_append.mp hy with hy | hy
        · exact hnz y hy
        · rw [List.mem_singleton.mp hy]
          exact hz
    rintro H1 ⟨ys, hys, hl3, hnz, B1, P1⟩
    obtain ⟨a, b, c, rfl⟩ : ∃ a b c, ys = [a, b, c] := by
      match ys, hl3 with
      | [a, b, c], _ => exact ⟨a, b, c, rfl⟩
    have za := hnz a (by simp)
    have zb := hnz b (by simp)
    have zc := hnz c (by simp)
    dsimp only [List.set_cons_succ, List.set_cons_zero]
    have mkc : ClZ "make" ∧ ("make" : Str).length ≤ 21 ∧ ("make" : Str) ≠ ("do" : Str) := by
      have h : (∀ c ∈ (PySem.Str.ofString "make").cps.toList, c < 1114112) ∧ 32 ∉ (PySem.Str.ofString "make").cps.toList ∧ (PySem.Str.ofString "make").length ≤ 21 ∧ PySem.Str.ofString "make" ≠ PySem.Str.ofString "do" := by decide +kernel
      exact ⟨⟨h.1, h.2.1⟩, h.2.2.1, h.2.2.2⟩
    have drc : ClZ "drop" ∧ ("drop" : Str).length ≤ 21 ∧ ("drop" : Str) ≠ ("do" : Str) := by
      have h : (∀ c ∈ (PySem.Str.ofString "drop").cps.toList, c < 1114112) ∧ 32 ∉ (PySem.Str.ofString "drop").cps.toList ∧ (PySem.Str.ofString "drop").length ≤ 21 ∧ PySem.Str.ofString "drop" ≠ PySem.Str.ofString "do" := by decide +kernel
      exact ⟨⟨h.1, h.2.1⟩, h.2.2.1, h.2.2.2⟩
    refine ⟨_, rfl, rfl, _, rfl, ?_⟩
    refine ite2 (fun z => ?_) (fun z => ?_)
    · clear z
      refine ⟨_, rfl, ?_⟩
      dsimp only [tC]
      refine rdList hys (j := 0) (v := .str a) rfl rfl ?_
      refine ⟨_, rfl, ?_⟩
      dsimp only [tC]
      refine rdList hys (j := 1) (v := .str b) rfl rfl ?_
      refine ⟨_, rfl, ?_⟩
      dsimp only [tC]
      refine rdList hys (j := 2) (v := .str c) rfl rfl ?_
      exact ⟨by show 4 ≤ sizeLine; decide, fun t nt => k (.mk "make" a b c) t _ ⟨za, zb, zc, mkc.1, mkc.2.1, mkc.2.2⟩ (B1.trans (Same.bt (Same.upd nt))) ((P1.same (Same.upd nt)).mono (by omega)) (B1.free (P1.ne nt).1 (P1.ne nt).2.1 nt) (SqT.of upd_same)⟩
    refine ⟨_, rfl, rfl, _, rfl, ?_⟩
    refine ite2 (fun z => ?_) (fun z => ?_)
    · clear z
      refine ⟨_, rfl, ?_⟩
      dsimp only [tC]
      refine rdList hys (j := 0) (v := .str a) rfl rfl ?_
      refine ⟨_, rfl, ?_⟩
      dsimp only [tC]
      refine rdList hys (j := 1) (v := .str b) rfl rfl ?_
      refine ⟨_, rfl, ?_⟩
      dsimp only [tC]
      refine rdList hys (j := 2) (v := .str c) rfl rfl ?_
      exact ⟨by show 4 ≤ sizeLine; decide, fun t nt => k (.mk "drop" a b c) t _ ⟨za, zb, zc, drc.1, drc.2.1, drc.2.2⟩ (B1.trans (Same.bt (Same.upd nt))) ((P1.same (Same.upd nt)).mono (by omega)) (B1.free (P1.ne nt).1 (P1.ne nt).2.1 nt) (SqT.of upd_same)⟩
    refine ⟨_, rfl, _, _, rfl, rfl, _, rfl, ?_⟩
    refine ite2 (fun z => ?_) (fun z => ?_)
    · clear z
      refine ⟨_, rfl, ?_⟩
      dsimp only [tC]
      refine rdList hys (j := 0) (v := .str a) rfl rfl ?_
      refine ⟨_, rfl, p, q, r, n + 12 * 3, 6, rfl, P1, by omega, by decide, by decide, fun d H2 d0 d6 B2 P2 => ⟨d, rfl, by omega, by omega, fun D2 hD2 => ?_⟩⟩
      have B02 := B1.trans B2
      have nD2 := P2.ne hD2
      have fD2 := B02.free nD2.1 nD2.2.1 hD2
      refine lc_range (fun i H' => ∃ ys : List Str, H' D2 = some (.lst (ys.map V.str)) ∧ ys.length = i ∧ (∀ y ∈ ys, NmZ y) ∧ Bt p q H H' ∧ PotAt H' p q r ((n + 12 * 3 + 1) + 12 * i)) ?_ ?_ ?_
      · exact ⟨[], upd_same, rfl, fun y hy => (List.not_mem_nil hy).elim, (B02).trans (Same.bt (Same.upd hD2)), (P2).same (Same.upd hD2)⟩
      · rintro i H' hi ⟨ys, hys, hl, hnz, B, P1⟩
        refine ⟨rfl, ?_⟩
        refine ⟨_, rfl, Nat.zero_le _, fun l nl => ?_⟩
        have ne := P1.ne nl
        refine ⟨p, q, r, l, (n + 12 * 3 + 1) + 12 * i, rfl, P1.same (Same.upd nl), upd_same, ne.1, ne.2.1, by omega, fun z H9 hz B9 P9 => ?_⟩
        have B0 := (B.trans (Same.bt (Same.upd (o := .lst []) nl))).trans B9
        refine ⟨_, B9 _ _ nD2.1 nD2.2.1 (Same.upd nl _ _ hys), ?_, ys ++ [z], ?_, ?_, ?_, B0.new fD2, (P9.upd nD2.1 nD2.2.1 nD2.2.2).mono (by omega)⟩
        · rw [List.length_map]
          exact Nat.lt_of_le_of_lt (show ys.length ≤ 100 by omega) (by decide)
        · rw [upd_same, List.map_append]
          rfl
        · rw [List.length_append, List.length_singleton]
          omega
        · intro y hy
          rcases List.mem_append.mp hy with hy | hy
          · exact hnz y hy
          · rw [List.mem_singleton.mp hy]
            exact hz
      rintro H3 ⟨zs, hzs, hzl, hzn, B3, P3⟩
      refine ⟨D2, _, rfl, .inl ⟨SqL.of hzs, fun t2 nt2 => ?_⟩⟩
      have S4 : Same H3 (upd H3 t2 (.tup (zs.map V.str))) := Same.upd nt2
      have e4 : (upd H3 t2 (.tup (zs.map V.str))) t2 = some (.tup (zs.map V.str)) := upd_same
      have P4 := P3.same S4
      generalize upd H3 t2 (.tup (zs.map V.str)) = H4 at S4 e4 P4
      have B4 := B3.trans (Same.bt S4)
      refine ⟨by show 3 ≤ sizeLine; decide, fun t3 nt3 => ?_⟩
      have S5 : Same H4 (upd H4 t3 (.tup [.str "do", .str a, .ref t2])) := Same.upd nt3
      exact k (.doo a zs) t3 _ ⟨za, hzn, by omega⟩ (B4.trans (Same.bt S5)) ((P4.same S5).mono (by omega)) (B4.free (P4.ne nt3).1 (P4.ne nt3).2.1 nt3) ⟨t2, SqT.of upd_same, same_seqT S5 (SqT.of e4)⟩
    · -- none of the three
      refine ⟨_, rfl, ?_⟩
      dsimp only [tC]
      refine rdList hys (j := 2) (v := .str c) rfl rfl ?_
      refine ⟨_, _, rfl, rfl, Nat.le_trans (show c.length + 1 ≤ 100 by have := zc.l2; omega) (by decide), ?_⟩
      refine ⟨by show 8 ≤ sizeLine; decide, fun lo no => ?_⟩
      have xc : ClZ (c ++ "x") := zc.cl.app ⟨by unfold okS; decide +kernel, by decide +kernel⟩
      have xl : (c ++ "x" : Str).length ≤ 21 := by
        rw [len_app]
        have := zc.l2
        show c.length + 1 ≤ 21
        omega
      have go := give_ok xc xl x_ne.1
      have So : Same H1 (upd H1 lo (.lst [.str "give", .str "", .str "Make", .str "dodo", .str "mak", .str "DROP", .str "play", .str (c ++ "x")])) := Same.upd no
      have eo : (upd H1 lo (.lst [.str "give", .str "", .str "Make", .str "dodo", .str "mak", .str "DROP", .str "play", .str (c ++ "x")])) lo = some (.lst ((giveL (c ++ "x")).map V.str)) := upd_same
      have Po := P1.same So
      have noo := P1.ne no
      generalize upd H1 lo (.lst [.str "give", .str "", .str "Make", .str "dodo", .str "mak", .str "DROP", .str "play", .str (c ++ "x")]) = H2 at So eo Po
      refine ⟨_, rfl, _, rfl, p, q, r, n + 12 * 3, 8, rfl, Po, by omega, by decide, by decide, fun d H3 d0 d8 B3 P3 => ?_⟩
      have jlt : d.toNat < (giveL (c ++ "x")).length := by show d.toNat < 8; omega
      refine rdList (B3 _ _ noo.1 noo.2.1 eo) (j := d.toNat) (v := .str ((giveL (c ++ "x"))[d.toNat]'jlt)) (by omega) (by rw [List.getElem?_map, List.getElem?_eq_getElem jlt]; rfl) ?_
      obtain ⟨wc, wl, wn⟩ := go _ (List.getElem_mem jlt)
      generalize (giveL (c ++ "x"))[d.toNat]'jlt = w0 at wc wl wn
      have hys3 := B3 _ _ nD.1 nD.2.1 (So _ _ hys)
      have B03 := (B1.trans (Same.bt So)).trans B3
      refine ⟨_, rfl, ?_⟩
      dsimp only [tC]
      refine rdList hys3 (j := 0) (v := .str a) rfl rfl ?_
      refine ⟨_, rfl, ?_⟩
      dsimp only [tC]
      refine rdList hys3 (j := 1) (v := .str b) rfl rfl ?_
      refine ⟨_, rfl, ?_⟩
      dsimp only [tC]
      refine rdList hys3 (j := 0) (v := .str a) rfl rfl ?_
      exact ⟨by show 4 ≤ sizeLine; decide, fun t nt => k (.mk w0 a b a) t _ ⟨za, zb, za, wc, wl, wn⟩ (B03.trans (Same.bt (Same.upd nt))) ((P3.same (Same.upd nt)).mono (by omega)) (B03.free (P3.ne nt).1 (P3.ne nt).2.1 nt) (SqT.of upd_same)⟩
end
end Wm
namespace Wm
open PySem L2 StX
def rIsG (K : PySem.W.Frag) (cls : Value) (d : Option Addr) (a : Addr) : List V → Hp → VK → Prop := fun xs H Q => ∃ (D dd : Addr), cls = .ref D ∧ d = some dd ∧ ExcC K D ∧ rIsX K D a dd xs H Q
theorem call_isG {X : Cx} {a : Addr} {cls : Value} {d : Option Addr} {oe : Obj} {pn : List (Addr × Obj)} (hz : Zc cls d oe) (hf : ∃ vs, oe.data = .fields vs) : CallR (X.suite a ((a, oe) :: pn)) (.builtin "isinstance") (rIsG X.K cls d a) := by
  intro pins s σ H xs us Q I r h
  obtain ⟨D, dd, rfl, rfl, C, h⟩ := h
  exact call_isX C hz hf pins s σ H xs us Q I r h
def spRea (K : PySem.W.Frag) : Sp := fun vs H Q _ => ∃ row : Str, vs = [.str row] ∧ row.length ≤ 1000000 ∧ okS row ∧ ∀ t H', Same H H' → H t = none → TlAt K H' t (rd row) → Q (.ref t) H'
def wrT : Dd → List V
  | .mk w a b c => if w = ("make" : Str) ∨ w = ("drop" : Str) then [.str "told", .str (rowD (.mk w a b c))] else [.str "nodeed", .str w]
  | .doo a zs => [.str "told", .str (rowD (.doo a zs))]
def spWri (K : PySem.W.Frag) : Sp := fun vs H Q _ => ∃ (t : Addr) (d : Dd), vs = [.ref t] ∧ DdAt K H t d ∧ szL (ddP d) ≤ 1000000 ∧ (match d with | .mk w _ _ _ => w ≠ ("do" : Str) | .doo _ _ => True) ∧ ∀ t2 H', Same H H' → H t2 = none → H' t2 = some (.tup (wrT d)) → Q (.ref t2) H'
def spRfb : Sp := fun vs H Q _ => ∃ row : Str, vs = [.str row] ∧ row.length ≤ 1000000 ∧ okS row ∧ ∀ H', Same H H' → Q (.bl (rd row).isNone) H'
def tRB (K : PySem.W.Frag) (C : Addr) (W : WX) : TS := tRet (tTup (tCons (tC (.str "told")) (tCons (tCallS (spRd K C) (WE W) (tCons (tVar 0) tNil)) tNil)))
def tRS (C : Addr) : Addr → Value → Option Addr → TS := fun a cls d => tRet (tTup (tCons (tC (.str "badrow")) (tCons (tXf a cls d C "row" (tVar 1)) tNil)))
def tWB (K : PySem.W.Frag) (C : Addr) (W : WX) : TS := tRet (tTup (tCons (tC (.str "told")) (tCons (tCallS (spDr K C) (WE W) (tCons (tVar 0) tNil)) tNil)))
def tWS (C : Addr) : Addr → Value → Option Addr → TS := fun a cls d => tRet (tTup (tCons (tC (.str "nodeed")) (tCons (tXf a cls d C "word" (tVar 1)) tNil)))
def tFB (K : PySem.W.Frag) (C : Addr) (W : WX) : TS := tDrop (tCallS (spRd K C) (WE W) (tCons (tVar 0) tNil))
def tFS (K : PySem.W.Frag) : Addr → Value → Option Addr → TS := fun a cls d => tRet (tCB (rIsG K cls d a) (tCons (tVar 1) (tCons (tC (.ty "ValueError")) tNil)))
section
variable {P : Program} {w : World} {K : PySem.W.Frag} {mg : Str → Option Value} {base : Heap}
theorem scRea : FnScope ["_law_row_here", "e"] ["_law_row_here"] (defScope sRea) := ⟨rfl, rfl, rfl, by decide +kernel, rfl, by decide +kernel, by decide +kernel⟩
theorem ok_rea {f C fR : Addr} {fd dR : FuncData} (F : Fun K "_law_read" "_law_read" sRea f fd) (gC : mg "BadRow" = some (.ref C)) (ex : PySem.W.exmOne K (.ref C) (.ref C) = some true) (xC : XfC K C) (nC : PySem.W.findIn K (.ref C) "row" = some none)
    (DR : Dn K mg "read_deed" sRd ["row"] fR dR) (GR : FnOk P w K mg base (L2N.CX P w) 4 fR dR ["row"] (spRd K C)) : FnOk P w K mg base CX0 5 f fd ["_law_row_here"] (spRea K) := by
  refine F.ok scRea (fun vs H Q E h => ?_) (fun cdv A outer s H vs Q E hr h => ?_)
  · obtain ⟨row, rfl, _⟩ := h
    rfl
  · obtain ⟨row, rfl, hz, ho, k⟩ := h
    refine ⟨_, (pss_one (L2N.ps_try_as (i := 1) (tb := tRB K C) (ts := tRS C) (Wout := fun _ _ _ _ => False) rfl rfl scRea.nd rfl rfl ⟨rfl, by decide, Or.inl gC⟩ takesN0 (fun W_ pn xe tk _ => (pss_one (ps_ret (pe_tup (pa_cons pe_str (pa_cons (pe_callS GR hr rfl DR.g DR.F.kp DR.b (fun σ => L2N.passAt tk σ) (pa_cons (pv 0) pa_nil)) pa_nil)))))) (fun a oe cls d pn hz hf => (pss_one (ps_ret (pe_tup (pa_cons pe_str (pa_cons (pe_xf xC nC hz.zc hf (pv 1)) pa_nil)))))))), ?_⟩
    refine ⟨_, rfl, row, rfl, hz, ho, ?_⟩
    cases hr' : rd row with
    | some d =>
      rw [hr'] at k
      intro t H1 S1 f1 hd
      refine ⟨by show 2 ≤ sizeLine; decide, fun t2 nt2 => ?_⟩
      exact k t2 _ (S1.trans (Same.upd nt2)) (S1.free nt2) ⟨t, SqT.of upd_same, hd.same (Same.upd nt2)⟩
    | none =>
      rw [hr'] at k
      intro e H1 ne S1 hx
      refine ⟨true, ex, fun _ a0 _ => ?_, fun q => Bool.noConfusion q⟩
      refine ⟨_, rfl, rfl, rfl, e, _, _, rfl, hx, rfl, ?_⟩
      exact ⟨by show 2 ≤ sizeLine; decide, fun t2 nt2 => k t2 _ (S1.trans (Same.upd nt2)) (S1.free nt2) (SqT.of upd_same)⟩
theorem scWri : FnScope ["_law_deed_here", "e"] ["_law_deed_here"] (defScope sWri) := ⟨rfl, rfl, rfl, by decide +kernel, rfl, by decide +kernel, by decide +kernel⟩
theorem ok_wri {f C fR : Addr} {fd dR : FuncData} (F : Fun K "_law_written" "_law_written" sWri f fd) (gC : mg "NoDeed" = some (.ref C)) (ex : PySem.W.exmOne K (.ref C) (.ref C) = some true) (xC : XfC K C) (nC : PySem.W.findIn K (.ref C) "word" = some none)
    (DR : Dn K mg "deed_row" sDr ["deed"] fR dR) (GR : FnOk P w K mg base (L2N.CX P w) 4 fR dR ["deed"] (spDr K C)) : FnOk P w K mg base CX0 5 f fd ["_law_deed_here"] (spWri K) := by
  refine F.ok scWri (fun vs H Q E h => ?_) (fun cdv A outer s H vs Q E hr h => ?_)
  · obtain ⟨t, d, rfl, _⟩ := h
    rfl
  · obtain ⟨t, d, rfl, hd, hz, hw, k⟩ := h
    refine ⟨_, (pss_one (L2N.ps_try_as (i := 1) (tb := tWB K C) (ts := tWS C) (Wout := fun _ _ _ _ => False) rfl rfl scWri.nd rfl rfl ⟨rfl, by decide, Or.inl gC⟩ takesN0 (fun W_ pn xe tk _ => (pss_one (ps_ret (pe_tup (pa_cons pe_str (pa_cons (pe_callS GR hr rfl DR.g DR.F.kp DR.b (fun σ => L2N.passAt tk σ) (pa_cons (pv 0) pa_nil)) pa_nil)))))) (fun a oe cls d pn hz hf => (pss_one (ps_ret (pe_tup (pa_cons pe_str (pa_cons (pe_xf xC nC hz.zc hf (pv 1)) pa_nil)))))))), ?_⟩
    refine ⟨_, rfl, t, d, rfl, hd, hz, ?_⟩
    match d, hw, k with
    | .doo a zs, _, k =>
      intro H1 S1
      exact ⟨by show 2 ≤ sizeLine; decide, fun t2 nt2 => k t2 _ (S1.trans (Same.upd nt2)) (S1.free nt2) upd_same⟩
    | .mk w a b c, hw, k =>
      refine ⟨hw, ?_⟩
      by_cases h : w = ("make" : Str) ∨ w = ("drop" : Str)
      · have ek : wrT (.mk w a b c) = [.str "told", .str (rowD (.mk w a b c))] := if_pos h
        rw [if_pos h]
        rw [ek] at k
        intro H1 S1
        exact ⟨by show 2 ≤ sizeLine; decide, fun t2 nt2 => k t2 _ (S1.trans (Same.upd nt2)) (S1.free nt2) upd_same⟩
      · have ek : wrT (.mk w a b c) = [.str "nodeed", .str w] := if_neg h
        rw [if_neg h]
        rw [ek] at k
        intro e H1 ne S1 hx
        refine ⟨true, ex, fun _ a0 _ => ?_, fun q => Bool.noConfusion q⟩
        refine ⟨_, rfl, rfl, rfl, e, _, _, rfl, hx, rfl, ?_⟩
        exact ⟨by show 2 ≤ sizeLine; decide, fun t2 nt2 => k t2 _ (S1.trans (Same.upd nt2)) (S1.free nt2) upd_same⟩
theorem scRfb : FnScope ["_law_row_here", "e"] ["_law_row_here"] (defScope sRfb) := ⟨rfl, rfl, rfl, by decide +kernel, rfl, by decide +kernel, by decide +kernel⟩
theorem ok_rfb {f C W fR : Addr} {fd dR : FuncData} (F : Fun K "_law_refused_by_base" "_law_refused_by_base" sRfb f fd) (T : TxB mg) (gW : mg "WhoError" = some (.ref W)) (ex : PySem.W.exmOne K (.ref C) (.ref W) = some true) (xc : ExcC K C) (kv : PySem.W.kitOne K (.ref C) (.type "ValueError") = some true)
    (DR : Dn K mg "read_deed" sRd ["row"] fR dR) (GR : FnOk P w K mg base (L2N.CX P w) 4 fR dR ["row"] (spRd K C)) : FnOk P w K mg base CX0 5 f fd ["_law_row_here"] spRfb := by
  refine F.ok scRfb (fun vs H Q E h => ?_) (fun cdv A outer s H vs Q E hr h => ?_)
  · obtain ⟨row, rfl, _⟩ := h
    rfl
  · obtain ⟨row, rfl, hz, ho, k⟩ := h
    refine ⟨_, (pss_cons (L2N.ps_try_as (i := 1) (tb := tFB K C) (ts := tFS K) (Wout := fun _ _ _ _ => False) rfl rfl scRfb.nd rfl rfl ⟨rfl, by decide, Or.inl gW⟩ takesN0 (fun W_ pn xe tk _ => (pss_one (ps_expr (pe_callS GR hr rfl DR.g DR.F.kp DR.b (fun σ => L2N.passAt tk σ) (pa_cons (pv 0) pa_nil))))) (fun a oe cls d pn hz hf => (pss_one (ps_ret (pe_callB (call_isG hz.zc hf) (by rfl) T.isinstance (by decide +kernel) (pa_cons (pv 1) (pa_cons (pe_bltn (v := .ty "ValueError") (by rfl) T.ve (by decide +kernel) rfl) pa_nil))))))) (pss_one (ps_ret pe_bl))), ?_⟩
    refine ⟨_, rfl, row, rfl, hz, ho, ?_⟩
    cases hr' : rd row with
    | some d =>
      rw [hr'] at k
      intro t H1 S1 f1 hd
      exact k _ S1
    | none =>
      rw [hr'] at k
      intro e H1 ne S1 hx
      refine ⟨true, ex, fun _ a0 _ => ?_, fun q => Bool.noConfusion q⟩
      exact ⟨_, rfl, C, e, rfl, rfl, xc, _, _, _, _, rfl, hx, (fun u r => by cases r; rfl), kv, k _ S1⟩
end
end Wm
namespace Wm
open PySem L2 StX
def ddD : Dd → PyData
  | .mk w a b c => .tuple [.str w, .str a, .str b, .str c]
  | .doo a zs => .tuple [.str "do", .str a, .tuple (zs.map PyData.str)]
theorem dd_dp {K : PySem.W.Frag} {H : Hp} {t : Addr} : ∀ {d : Dd}, DdAt K H t d → Dp K H (.ref t) (ddD d)
  | .mk _ _ _ _, h => .tup h (.cons (.str _) (.cons (.str _) (.cons (.str _) (.cons (.str _) .nil))))
  | .doo _ zs, ⟨_, h1, h2⟩ => .tup h1 (.cons (.str _) (.cons (.str _) (.cons (.tup h2 (dp_strs zs)) .nil)))
def OkD (d : Dd) : Prop := ∀ z ∈ ddP d, okS z
theorem dd_lay : ∀ {d : Dd}, OkD d → (ddD d).canLay0 = true ∧ (ddD d).depth ≤ 3
  | .mk w a b c, h => by
    have h1 := strOk_of (h w (by simp [ddP]))
    have h2 := strOk_of (h a (by simp [ddP]))
    have h3 := strOk_of (h b (by simp [ddP]))
    have h4 := strOk_of (h c (by simp [ddP]))
    simp [ddD, PyData.canLay0, PyData.canLayAll0, PyData.depth, PyData.depthAll, h1, h2, h3, h4]
  | .doo a zs, h => by
    have h1 : PyData.strOk "do" = true := by decide +kernel
    have h2 := strOk_of (h a (by simp [ddP]))
    obtain ⟨h3, h4⟩ := lay_strs (zs := zs) fun z hz => h z (by simp [ddP, hz])
    refine ⟨by simp [ddD, PyData.canLay0, PyData.canLayAll0, h1, h2, h3], ?_⟩
    simp [ddD, PyData.depth, PyData.depthAll]
    omega
def tlD : Option Dd → PyData
  | none => .tuple [.str "badrow", .int 0]
  | some d => .tuple [.str "told", ddD d]
theorem tl_dp {K : PySem.W.Frag} {H : Hp} {t : Addr} : ∀ {o : Option Dd}, TlAt K H t o → Dp K H (.ref t) (tlD o)
  | none, h => .tup h (.cons (.str _) (.cons (.int _) .nil))
  | some _, ⟨_, h1, h2⟩ => .tup h1 (.cons (.str _) (.cons (dd_dp h2) .nil))
theorem tl_sh {o : Option Dd} (h : ∀ d, o = some d → OkD d) : SeqAt.shaped (tlD o) = true := by
  cases o with
  | none => decide +kernel
  | some d =>
    obtain ⟨a, b⟩ := dd_lay (h d rfl)
    have c : PyData.strOk "told" = true := by decide +kernel
    simp [tlD, SeqAt.shaped, PyData.canLay0, PyData.canLayAll0, PyData.depth, PyData.depthAll, a, c]
    omega
theorem rdL_parts {ps : List Str} {d : Dd} (h : rdL ps = some d) : ddP d = ps := by
  unfold rdL at h
  split at h
  · split at h
    · rename_i e
      cases h
      simp [ddP, e]
    · split at h
      · split at h
        · cases h
          rfl
        · cases h
      · cases h
  · cases h
theorem rd_ok {row : Str} (ho : okS row) : ∀ d, rd row = some d → OkD d := fun d h => by
  unfold rd at h
  split at h
  · cases h
  · intro z hz
    rw [rdL_parts h] at hz
    exact splitOk ho z hz
/-- a deed that the program writes -/
def Wrt : Dd → Prop
  | .mk w _ _ _ => w = ("make" : Str) ∨ w = ("drop" : Str)
  | .doo _ _ => True
theorem ddP_cl {d : Dd} (h : GdD d) : ∀ z ∈ ddP d, ClZ z ∧ z.length ≤ 21 := by
  match d, h with
  | .mk w a b c, ⟨ha, hb, hc, hw, wl, _⟩ =>
    intro z hz
    simp only [ddP, List.mem_cons, List.not_mem_nil, or_false] at hz
    rcases hz with rfl | rfl | rfl | rfl
    · exact ⟨hw, wl⟩
    · exact ⟨ha.cl, by have := ha.l2; omega⟩
    · exact ⟨hb.cl, by have := hb.l2; omega⟩
    · exact ⟨hc.cl, by have := hc.l2; omega⟩
  | .doo a zs, ⟨ha, hz, _⟩ =>
    intro z hm
    have hm : z ∈ ("do" : Str) :: a :: zs := hm
    rcases List.mem_cons.mp hm with e | hm
    · rw [e]
      exact ⟨⟨by unfold okS; decide +kernel, by decide +kernel⟩, by decide +kernel⟩
    · rcases List.mem_cons.mp hm with e | hm
      · rw [e]
        exact ⟨ha.cl, by have := ha.l2; omega⟩
      · have q := hz z hm
        exact ⟨q.cl, by have := q.l2; omega⟩
theorem ddP_len {d : Dd} (h : GdD d) : ddP d ≠ [] ∧ (ddP d).length ≤ 8 := by
  match d, h with
  | .mk w a b c, _ => exact ⟨by simp [ddP], by simp [ddP]⟩
  | .doo a zs, ⟨_, _, hl⟩ => exact ⟨by simp [ddP], by simp [ddP]; omega⟩
theorem sum_le {ps : List Str} {m : Nat} (h : ∀ z ∈ ps, z.length ≤ m) : (ps.map (·.length)).sum ≤ ps.length * m := by
  induction ps with
  | nil => simp
  | cons a r ih =>
    have h1 := h a List.mem_cons_self
    have h2 := ih fun z hz => h z (List.mem_cons_of_mem _ hz)
    rw [List.map_cons, List.sum_cons, List.length_cons, Nat.add_mul]
    omega
theorem gd_sz {d : Dd} (h : GdD d) : szL (ddP d) ≤ 1000 := by
  have a := sum_le (m := 21) fun z hz => (ddP_cl h z hz).2
  have b := (ddP_len h).2
  unfold szL
  omega
theorem gd_split {d : Dd} (h : GdD d) : Txt.split (rowD d) " " = ddP d := by
  unfold rowD
  rw [show (PySem.Str.ofString " ") = ⟨#[32]⟩ from blank]
  exact split_join (ddP_len h).1 fun p hp => (ddP_cl h p hp).1.2
theorem gd_rd {d : Dd} (h : GdD d) (hw : Wrt d) : rd (rowD d) = some d := by
  unfold rd
  rw [gd_split h]
  have em : ("" : Str).length = 0 := rfl
  match d, h, hw with
  | .mk w a b c, ⟨ha, hb, hc, _, _, nd⟩, hw =>
    have n0 : ("" : Str) ∉ [w, a, b, c] := by
      intro z
      simp only [List.mem_cons, List.not_mem_nil, or_false] at z
      rcases z with z | z | z | z
      · rcases hw with q | q
        · rw [q] at z; exact absurd z (by decide +kernel)
        · rw [q] at z; exact absurd z (by decide +kernel)
      · have := ha.l1; rw [← z] at this; omega
      · have := hb.l1; rw [← z] at this; omega
      · have := hc.l1; rw [← z] at this; omega
    show (if ("" : Str) ∈ [w, a, b, c] then none else rdL [w, a, b, c]) = _
    rw [if_neg n0]
    unfold rdL
    simp only [if_neg nd, if_pos (show w = ("make" : Str) ∨ w = ("drop" : Str) from hw)]
  | .doo a zs, ⟨ha, hz, _⟩, _ =>
    have n0 : ("" : Str) ∉ ("do" : Str) :: a :: zs := by
      intro z
      rcases List.mem_cons.mp z with z | z
      · exact absurd z (by decide +kernel)
      · rcases List.mem_cons.mp z with z | z
        · have := ha.l1; rw [← z] at this; omega
        · have := (hz _ z).l1; omega
    show (if ("" : Str) ∈ ("do" : Str) :: a :: zs then none else rdL (("do" : Str) :: a :: zs)) = _
    rw [if_neg n0]
    unfold rdL
    simp
theorem gd_row {d : Dd} (h : GdD d) : okS (rowD d) ∧ (rowD d).length ≤ 1000 := by
  refine ⟨okS_join (by unfold okS; decide +kernel) fun y hy => (ddP_cl h y hy).1.1, ?_⟩
  have a := join_len " " (ddP d)
  have b := gd_sz h
  unfold szL at b
  have c : (PySem.Str.ofString " ").length = 1 := by decide +kernel
  have a : (rowD d).length ≤ ((ddP d).map (·.length)).sum + (ddP d).length * (PySem.Str.ofString " ").length := a
  rw [c] at a
  omega
theorem gd_notdo : ∀ {d : Dd}, GdD d → (match d with | .mk w _ _ _ => w ≠ ("do" : Str) | .doo _ _ => True)
  | .mk _ _ _ _, ⟨_, _, _, _, _, n⟩ => n
  | .doo _ _, _ => trivial
theorem shaped_told {z : Str} (h : okS z) : SeqAt.shaped (.tuple [.str "told", .str z]) = true := by
  have hz := strOk_of h
  have d : PyData.strOk "told" = true := by decide +kernel
  simp [SeqAt.shaped, PyData.canLay0, PyData.canLayAll0, PyData.depth, PyData.depthAll, hz, d]
def bnd : Nat → Nat
  | 0 => 8
  | 1 => 34
  | _ => 138
def spLaw (K : PySem.W.Frag) : Sp := fun vs H Q _ => ∃ (a : Addr) (ns : List Int), vs = [.ref a] ∧ SqL K H a (ns.map V.int) ∧ ns.length ≤ 63 ∧ ∀ H', Q (.bl true) H'
theorem bt_seqT {K : PySem.W.Frag} {p q r a : Addr} {n : Nat} {H H' : Hp} {xs : List V} (b : Bt p q H H') (hp : PotAt H p q r n) (h : SqT K H a xs) : SqT K H' a xs := by
  obtain ⟨k, us, ys, e1, e2, _⟩ := hp.ex
  rcases h with (h | ⟨u, h⟩) | h
  · exact .inl (.inl (b _ _ (ne_of h e1 (by intro z; cases z)) (ne_of h e2 (by intro z; cases z)) h))
  · exact .inl (.inr ⟨u, b _ _ (ne_of h e1 (by intro z; cases z)) (ne_of h e2 (by intro z; cases z)) h⟩)
  · exact .inr h
section
variable {P : Program} {w : World} {K : PySem.W.Frag} {mg : Str → Option Value} {base : Heap}
theorem scLaw : FnScope ["_law_script", "_law_pot_here", "_law_kind", "_law_ways", "_law_deed_here", "_law_row_here", "_law_parts", "_law_way", "_law_due_here", "_law_k"] ["_law_script"] (defScope sLaw) := ⟨rfl, rfl, rfl, by decide +kernel, rfl, by decide +kernel, by decide +kernel⟩
theorem ok_law {f fPo fT fDe fRo fWr fRe fSp fDu fRf : Addr} {fd dPo dT dDe dRo dWr dRe dSp dDu dRf : FuncData} (F : Fun K "law" "law" sLaw f fd) (T : TxB mg)
    (DPo : Dn K mg "_law_pot" sPot ["_law_script"] fPo dPo) (GPo : FnOk P w K mg base CX0 1 fPo dPo ["_law_script"] (spPot K)) (DT : Dn K mg "_law_take" sTak ["_law_pot_here", "_law_many"] fT dT) (GT : FnOk P w K mg base CX0 2 fT dT ["_law_pot_here", "_law_many"] spTak)
    (DDe : Dn K mg "_law_deed" sDed ["_law_pot_here", "_law_kind"] fDe dDe) (GDe : FnOk P w K mg base CX0 5 fDe dDe ["_law_pot_here", "_law_kind"] (spDed K)) (DRo : Dn K mg "_law_row" sRow ["_law_deed_here"] fRo dRo) (GRo : FnOk P w K mg base CX0 1 fRo dRo ["_law_deed_here"] (spRow K))
    (DWr : Dn K mg "_law_written" sWri ["_law_deed_here"] fWr dWr) (GWr : FnOk P w K mg base CX0 5 fWr dWr ["_law_deed_here"] (spWri K)) (DRe : Dn K mg "_law_read" sRea ["_law_row_here"] fRe dRe) (GRe : FnOk P w K mg base CX0 5 fRe dRe ["_law_row_here"] (spRea K))
    (DSp : Dn K mg "_law_spoiled" sSpo ["_law_pot_here", "_law_parts", "_law_way"] fSp dSp) (GSp : FnOk P w K mg base CX0 3 fSp dSp ["_law_pot_here", "_law_parts", "_law_way"] spSpo) (DDu : Dn K mg "_law_due" sDue ["_law_row_here"] fDu dDu) (GDu : FnOk P w K mg base CX0 1 fDu dDu ["_law_row_here"] (spDue K))
    (DRf : Dn K mg "_law_refused_by_base" sRfb ["_law_row_here"] fRf dRf) (GRf : FnOk P w K mg base CX0 5 fRf dRf ["_law_row_here"] spRfb) : FnOk P w K mg base CX0 6 f fd ["_law_script"] (spLaw K) := by
  refine F.ok scLaw (fun vs H Q E h => ?_) (fun cdv A outer s H vs Q E hr h => ?_)
  · obtain ⟨a, ns, rfl, _⟩ := h
    rfl
  · obtain ⟨a, ns, rfl, hA, hlen, kk⟩ := h
    have hr1 : Room 1 _ := hr.mono (by decide)
    have hr2 : Room 2 _ := hr.mono (by decide)
    have hr3 : Room 3 _ := hr.mono (by decide)
    have hr5 : Room 5 _ := hr
    refine ⟨_, (pss_cons (ps_set (i := 1) scLaw.nd rfl (Or.inr rfl) (pe_call GPo hr1 rfl DPo.g DPo.F.kp DPo.b .nil pass0 (pa_cons (pv 0) pa_nil)))
      (pss_cons (ps_set (i := 2) scLaw.nd rfl (Or.inl rfl) (pe_call GT hr2 rfl DT.g DT.F.kp DT.b .nil pass0 (pa_cons (pv 1) (pa_cons pe_int pa_nil))))
      (pss_cons (ps_setLc (i := 3) (own := [("_law_k", 9)]) (g := gName 9) (te := tCall spTak [] E0 (tCons (tVar 1) (tCons (tC (.int 7)) tNil))) rfl scLaw.nd rfl rfl (sw_true rfl rfl rfl (by decide +kernel)) (pi_range1 rfl T.range (pa_cons (pe_call GT hr2 rfl DT.g DT.F.kp DT.b .nil pass0 (pa_cons (pv 1) (pa_cons pe_int pa_nil))) pa_nil)) (blkOk_by (N := ["_law_script", "_law_pot_here", "_law_kind", "_law_ways", "_law_deed_here", "_law_row_here", "_law_parts", "_law_way", "_law_due_here", "_law_k"]) (sc := defScope sLaw) (by decide +kernel)) (fun _ _ _ _ _ => (pg_name (i := 9) scLaw.nd rfl (Or.inl rfl))) (fun _ _ _ _ _ => pts_nil) (fun _ _ _ _ _ => (pe_call GT hr2 rfl DT.g DT.F.kp DT.b .nil pass0 (pa_cons (pv 1) (pa_cons pe_int pa_nil)))))
      (pss_cons (ps_set (i := 4) scLaw.nd rfl (Or.inl rfl) (pe_call GDe hr5 rfl DDe.g DDe.F.kp DDe.b .nil pass0 (pa_cons (pv 1) (pa_cons (pv 2) pa_nil))))
      (pss_cons (ps_set (i := 5) scLaw.nd rfl (Or.inl rfl) (pe_call GRo hr1 rfl DRo.g DRo.F.kp DRo.b .nil pass0 (pa_cons (pv 4) pa_nil)))
      (pss_cons (ps_if (pt_cmpR op_notIn_seq (pe_ix ix_tup (pv 4) pe_int (fun _ _ => rfl)) (pe_tup (pa_cons pe_str (pa_cons pe_str (pa_cons pe_str pa_nil)))) (by rfl)) (pss_one (ps_if (pt_cmpR (op_neD hr.units) (pe_call GWr hr5 rfl DWr.g DWr.F.kp DWr.b .nil pass0 (pa_cons (pv 4) pa_nil)) (pe_tup (pa_cons pe_str (pa_cons (pe_ix ix_tup (pv 4) pe_int (fun _ _ => rfl)) pa_nil))) (nomark _)) (pss_one (ps_ret pe_bl)) pss_nil)) (pss_one (ps_if (PW.pt (pw_or (pt_cmpR (op_neD hr.units) (pe_call GWr hr5 rfl DWr.g DWr.F.kp DWr.b .nil pass0 (pa_cons (pv 4) pa_nil)) (pe_tup (pa_cons pe_str (pa_cons (pv 5) pa_nil))) (nomark _)) (pw_or1 (pt_cmpR (op_neD hr.units) (pe_call GRe hr5 rfl DRe.g DRe.F.kp DRe.b .nil pass0 (pa_cons (pv 5) pa_nil)) (pe_tup (pa_cons pe_str (pa_cons (pv 4) pa_nil))) (nomark _))))) (pss_one (ps_ret pe_bl)) pss_nil)))
      (pss_cons (ps_set (i := 6) scLaw.nd rfl (Or.inl rfl) (pe_split (pv 5) pe_str))
      (pss_cons (ps_for PassesOwn.never rfl (pi_list (pv 3)) (pg_name (i := 7) scLaw.nd rfl (Or.inl rfl)) (pss_one (ps_if (pt_cmpR (op_neD hr.units) (pv 6) (pe_lst pa_nil) (nomark _)) (pss_one (ps_set (i := 6) scLaw.nd rfl (Or.inl rfl) (pe_call GSp hr3 rfl DSp.g DSp.F.kp DSp.b .nil pass0 (pa_cons (pv 1) (pa_cons (pv 6) (pa_cons (pv 7) pa_nil)))))) pss_nil)))
      (pss_cons (ps_set (i := 5) scLaw.nd rfl (Or.inl rfl) (pe_join pe_str (pv 6)))
      (pss_cons (ps_set (i := 8) scLaw.nd rfl (Or.inl rfl) (pe_call GDu hr1 rfl DDu.g DDu.F.kp DDu.b .nil pass0 (pa_cons (pv 5) pa_nil)))
      (pss_cons (ps_if (PW.pt (pw_and (pt_cmpR op_eq (pe_ix ix_tup (pv 8) pe_int (fun _ _ => rfl)) pe_str (nomark _)) (pw_and1 (pt_not (pt_val (pe_call GRf hr5 rfl DRf.g DRf.F.kp DRf.b .nil pass0 (pa_cons (pv 5) pa_nil))))))) (pss_one (ps_ret pe_bl)) pss_nil)
      (pss_one (ps_ret (pe_cmpR (op_eqD hr.units) (pe_call GRe hr5 rfl DRe.g DRe.F.kp DRe.b .nil pass0 (pa_cons (pv 5) pa_nil)) (pv 8) (nomark _))))))))))))))), ?_⟩
    refine ⟨_, rfl, a, ns, rfl, hA, hlen, fun p q r H1 fp fq fr S1 P1 => ?_⟩
    dsimp only [List.set_cons_succ, List.set_cons_zero]
    refine ⟨_, rfl, p, q, r, 0, 6, rfl, P1, by decide, by decide, by decide, fun kd H2 k0 k6 B2 P2 => ?_⟩
    dsimp only [List.set_cons_succ, List.set_cons_zero]
    -- in how many ways it is spoiled
    refine ⟨_, rfl, p, q, r, 1, 3, rfl, P2, by decide, by decide, by decide, fun dw H3 w0 w3 B3 P3 => ⟨dw, rfl, by omega, by omega, fun D hD => ?_⟩⟩
    have nD := P3.ne hD
    refine lc_range (fun i H' => ∃ ys : List Int, H' D = some (.lst (ys.map V.int)) ∧ ys.length = i ∧ PotAt H' p q r (2 + i)) ?_ ?_ ?_
    · exact ⟨[], upd_same, rfl, P3.same (Same.upd hD)⟩
    · rintro i H' hi ⟨ys, hys, hl, P4⟩
      refine ⟨rfl, ?_⟩
      refine ⟨_, rfl, p, q, r, 2 + i, 7, rfl, P4, by omega, by decide, by decide, fun d4 H4 _ _ B4 P5 => ?_⟩
      refine ⟨_, B4 _ _ nD.1 nD.2.1 hys, ?_, ys ++ [d4], ?_, ?_, P5.upd nD.1 nD.2.1 nD.2.2⟩
      · rw [List.length_map]
        exact Nat.lt_of_le_of_lt (show ys.length ≤ 100 by omega) (by decide)
      · rw [upd_same, List.map_append]
        rfl
      · rw [List.length_append, List.length_singleton]
        omega
    rintro H4 ⟨ws, hws, hwl, P4⟩
    dsimp only [List.set_cons_succ, List.set_cons_zero]
    have wl2 : ws.length ≤ 2 := by omega
    -- the deed and its row
    refine ⟨_, rfl, _, rfl, p, q, r, _, kd, rfl, P4, by omega, k0, k6, fun d t H5 gd B5 P5 ft hd => ?_⟩
    dsimp only [List.set_cons_succ, List.set_cons_zero]
    have hws5 := B5 _ _ nD.1 nD.2.1 hws
    have sz := gd_sz gd
    obtain ⟨okr, lr⟩ := gd_row gd
    refine ⟨_, rfl, t, d, rfl, hd, by omega, gd_notdo gd, fun H6 S6 => ?_⟩
    dsimp only [List.set_cons_succ, List.set_cons_zero]
    have hd6 := hd.same S6
    have P6 := P5.same S6
    have hws6 := S6 _ _ hws5
    -- it is written and read
    refine cut1 (fun σ' H' => σ' = [some (.ref a), some (.ref p), some (.int kd), some (.ref D), some (.ref t), some (.str (rowD d)), none, none, none, none] ∧ Same H6 H') ?_ (fun R' fin => ?_)
    · rintro σ' H7 ⟨rfl, S7⟩
      have P7 := P6.same S7
      have hws7 := S7 _ _ hws6
      generalize hM : 2 + dw.toNat + 200 = M at P7
      have M300 : M ≤ 300 := by omega
      refine ⟨_, rfl, ⟨_, rfl⟩, _, _, rfl, rfl, by decide +kernel, Nat.le_trans (show (rowD d).length + 2 ≤ 2000 by omega) (by decide), fun l nl => ?_⟩
      rw [gd_split gd]
      dsimp only [List.set_cons_succ, List.set_cons_zero]
      have S8 : Same H7 (upd H7 l (.lst ((ddP d).map V.str))) := Same.upd nl
      have e8 : (upd H7 l (.lst ((ddP d).map V.str))) l = some (.lst ((ddP d).map V.str)) := upd_same
      have P8 := P7.same S8
      have nll := P7.ne nl
      have hws8 := S8 _ _ hws7
      generalize upd H7 l (.lst ((ddP d).map V.str)) = H8 at S8 e8 P8 hws8
      have ok0 : ∀ z ∈ ddP d, OkP z := fun z hz => ⟨(ddP_cl gd z hz).1.1, by have := (ddP_cl gd z hz).2; omega⟩
      have ln0 : (ddP d).length ≤ bnd 0 := (ddP_len gd).2
      refine ⟨_, rfl, D, rfl, ⟨_, SqL.of hws8⟩, for_list (K := K) (a := D) (xs := ws.map V.int) (fun i σ H' => ∃ (l : Addr) (qs : List Str) (v : Option V), σ = [some (.ref a), some (.ref p), some (.int kd), some (.ref D), some (.ref t), some (.str (rowD d)), some (.ref l), v, none, none] ∧ H' l = some (.lst (qs.map V.str)) ∧ l ≠ p ∧ l ≠ q ∧ (∀ z ∈ qs, OkP z) ∧ qs.length ≤ bnd i ∧ PotAt H' p q r (M + 2 * i) ∧ H' D = some (.lst (ws.map V.int)))
        ⟨l, ddP d, none, rfl, e8, nll.1, nll.2.1, ok0, ln0, P8, hws8⟩ (fun i σ H' _ ⟨_, _, _, _, _, _, _, _, _, _, h⟩ => SqL.of h) ?_ ?_⟩
      · rintro i y σ H' hi ⟨l, qs, v, rfl, el, nlp, nlq, ok, le, Pi, hD'⟩
        have iw : i < ws.length := by
          have := (List.getElem?_eq_some_iff.mp hi).1
          rw [List.length_map] at this
          exact this
        rw [List.getElem?_map] at hi
        obtain ⟨c, hc, rfl⟩ := Option.map_eq_some_iff.mp hi
        have bn : 4 * bnd i + 2 ≤ bnd (i + 1) ∧ bnd i ≤ bnd (i + 1) ∧ bnd i ≤ 34 := by
          rcases (by omega : i = 0 ∨ i = 1) with rfl | rfl
          · decide
          · decide
        dsimp only [gName, List.set_cons_succ, List.set_cons_zero]
        refine ⟨_, rfl, Nat.zero_le _, fun le' hle => ?_⟩
        have S9 : Same H' (upd H' le' (.lst [])) := Same.upd hle
        have e9 : (upd H' le' (.lst [])) le' = some (.lst (([] : List Str).map V.str)) := upd_same
        have P9 := Pi.same S9
        generalize upd H' le' (.lst []) = H9 at S9 e9 P9
        refine ⟨_, _, .lst (SqL.of (S9 _ _ el)) (dp_strs qs), .lst (SqL.of e9) (dp_strs []), shaped_strs fun z hz => (ok z hz).ok, by decide +kernel, _, rfl, ?_⟩
        rw [eqv_strs]
        by_cases hq : qs = []
        · rw [decide_eq_true hq]
          refine iteF ?_
          exact ⟨l, qs, _, rfl, S9 _ _ el, nlp, nlq, ok, by omega, P9.mono (by omega), S9 _ _ hD'⟩
        · rw [decide_eq_false hq]
          refine iteT ?_
          refine ⟨_, rfl, _, rfl, _, rfl, p, q, r, l, M + 2 * i, qs, c, rfl, P9, by omega, S9 _ _ el, nlp, nlq, hq, by omega, ok, fun qs' l' H10 B10 P10 f10 e10 le10 o10 => ?_⟩
          dsimp only [gName, List.set_cons_succ, List.set_cons_zero]
          have n10 := P9.ne f10
          exact ⟨l', qs', _, rfl, e10, n10.1, n10.2.1, o10, by omega, P10.mono (by omega), B10 _ _ nD.1 nD.2.1 (S9 _ _ hD')⟩
      · rintro σ H' ⟨l, qs, v, rfl, el, nlp, nlq, ok, le, Pi, hD'⟩
        rw [List.length_map] at le
        have qle : qs.length ≤ 138 := by
          rcases (by omega : ws.length = 0 ∨ ws.length = 1 ∨ ws.length = 2) with h | h | h
          · rw [h] at le
            exact Nat.le_trans le (by decide)
          · rw [h] at le
            exact Nat.le_trans le (by decide)
          · rw [h] at le
            exact le
        have sm := sum_le (m := 100) fun z hz => (ok z hz).le
        have bl1 : (PySem.Str.ofString " ").length = 1 := by decide +kernel
        have ok2 : okS (Txt.join " " qs) := okS_join (by unfold okS; decide +kernel) fun y hy => (ok y hy).ok
        have ln2 : (Txt.join " " qs).length ≤ 1000000 := by
          have j := join_len " " qs
          have j : (Txt.join " " qs).length ≤ (qs.map (·.length)).sum + qs.length * (PySem.Str.ofString " ").length := j
          rw [bl1] at j
          omega
        refine ⟨⟨_, rfl⟩, _, rfl, _, l, qs, rfl, rfl, .inl (SqL.of el), ?_, ?_⟩
        · show _ + _ * (PySem.Str.ofString " ").length ≤ 16777216
          rw [bl1]
          omega
        dsimp only [gName, List.set_cons_succ, List.set_cons_zero]
        generalize Txt.join " " qs = row2 at ok2 ln2
        refine ⟨_, rfl, row2, rfl, ln2, ok2, fun t8 G8 U8 f8 h8 => ?_⟩
        dsimp only [gName, List.set_cons_succ, List.set_cons_zero]
        have sh8 : SeqAt.shaped (tlD (rd row2)) = true := tl_sh (rd_ok ok2)
        refine cut1 (fun σ' G' => σ' = [some (.ref a), some (.ref p), some (.int kd), some (.ref D), some (.ref t), some (.str row2), some (.ref l), v, some (.ref t8), none] ∧ Same G8 G') ?_ (fun R' fin => ?_)
        · rintro σ' G9 ⟨rfl, U9⟩
          refine ⟨_, rfl, row2, rfl, ln2, ok2, fun t10 G10 U10 f10 h10 => ?_⟩
          refine ⟨_, rfl, _, _, tl_dp h10, tl_dp ((h8.same U9).same U10), sh8, sh8, ?_⟩
          rw [eqv_self sh8]
          exact kk _
        cases hr' : rd row2 with
        | none =>
          have h8' : SqT K G8 t8 [.str "badrow", .int 0] := by rw [hr'] at h8; exact h8
          refine ⟨_, rfl, t8, _, 0, .str "badrow", rfl, rfl, h8', atI_nat (j := 0) rfl, rfl, _, rfl, ?_⟩
          refine iteT ?_
          refine ⟨_, rfl, row2, rfl, ln2, ok2, fun G9 U9 => ⟨_, rfl, ?_⟩⟩
          rw [hr']
          refine iteF ?_
          exact fin _ _ ⟨rfl, U9⟩
        | some d' =>
          have h8' : TlAt K G8 t8 (some d') := by rw [hr'] at h8; exact h8
          obtain ⟨td, h81, _⟩ := h8'
          refine ⟨_, rfl, t8, _, 0, .str "told", rfl, rfl, h81, atI_nat (j := 0) rfl, rfl, _, rfl, ?_⟩
          refine iteF ?_
          refine iteF ?_
          exact fin _ _ ⟨rfl, Same.refl _⟩
    match d, gd, hd6, sz, okr, lr, fin with
    | .mk w0 a0 b0 c0, gd, hd6, sz, okr, lr, fin =>
      have h6 : SqT K H6 t [.str w0, .str a0, .str b0, .str c0] := hd6
      have nd : w0 ≠ ("do" : Str) := gd_notdo gd
      refine ⟨_, rfl, ?_⟩
      refine ⟨t, _, 0, .str w0, rfl, rfl, h6, atI_nat (j := 0) rfl, ?_⟩
      refine ⟨by show 3 ≤ sizeLine; decide, fun t3 nt3 => ?_⟩
      have S7 : Same H6 (upd H6 t3 (.tup [.str "make", .str "do", .str "drop"])) := Same.upd nt3
      refine ⟨t3, _, rfl, .inr (SqT.of upd_same), rfl, rfl, _, rfl, ?_⟩
      generalize upd H6 t3 (.tup [.str "make", .str "do", .str "drop"]) = H7 at S7
      show if (!inV (.str w0) (([("make" : Str), "do", "drop"]).map V.str)) = true then _ else _
      rw [inV_strs]
      by_cases hw : w0 = ("make" : Str) ∨ w0 = ("drop" : Str)
      · rw [decide_eq_true (by rcases hw with h | h <;> simp [h])]
        refine iteF ?_
        refine ⟨_, rfl, t, _, rfl, DdAt.same S7 hd6, by omega, gd_notdo gd, fun t4 G4 U4 f4 e4 => ?_⟩
        rw [show wrT (.mk w0 a0 b0 c0) = [.str "told", .str (rowD (.mk w0 a0 b0 c0))] from if_pos hw] at e4
        have V4 := S7.trans U4
        refine ⟨_, rfl, by show 2 ≤ sizeLine; decide, fun t5 nt5 => ?_⟩
        have U5 : Same G4 (upd G4 t5 (.tup [.str "told", .str (rowD (.mk w0 a0 b0 c0))])) := Same.upd nt5
        have e5 : (upd G4 t5 (.tup [.str "told", .str (rowD (.mk w0 a0 b0 c0))])) t5 = some (.tup [.str "told", .str (rowD (.mk w0 a0 b0 c0))]) := upd_same
        generalize upd G4 t5 (.tup [.str "told", .str (rowD (.mk w0 a0 b0 c0))]) = G5 at U5 e5
        have V5 := V4.trans U5
        have all2 : ∀ {H : Hp}, DpAll K H [.str "told", .str (rowD (.mk w0 a0 b0 c0))] [.str "told", .str (rowD (.mk w0 a0 b0 c0))] := .cons (.str _) (.cons (.str _) .nil)
        have sh2 := shaped_told okr
        refine ⟨_, _, .tup (SqT.of (U5 _ _ e4)) all2, .tup (SqT.of e5) all2, sh2, sh2, _, rfl, ?_⟩
        rw [eqv_self sh2]
        refine iteF ?_
        refine ⟨_, rfl, _, rfl, by omega, okr, fun t6 G6 U6 f6 h6 => ?_⟩
        rw [gd_rd gd hw] at h6
        have V6 := V5.trans U6
        refine ⟨_, rfl, by show 2 ≤ sizeLine; decide, fun t7 nt7 => ?_⟩
        have U7 : Same G6 (upd G6 t7 (.tup [.str "told", .ref t])) := Same.upd nt7
        have h7 : TlAt K (upd G6 t7 (.tup [.str "told", .ref t])) t7 (some (.mk w0 a0 b0 c0)) := ⟨t, SqT.of upd_same, DdAt.same (V6.trans U7) hd6⟩
        have sh3 : SeqAt.shaped (tlD (some (.mk w0 a0 b0 c0))) = true := tl_sh fun d' e => by cases e; exact fun z hz => (ddP_cl gd z hz).1.1
        refine ⟨_, _, tl_dp (h6.same U7), tl_dp h7, sh3, sh3, _, rfl, ?_⟩
        rw [eqv_self sh3]
        refine iteF ?_
        exact fin _ _ ⟨rfl, V6.trans U7⟩
      · rw [decide_eq_false (by simp only [List.mem_cons, List.not_mem_nil, or_false]; rintro (h | h | h); exact hw (.inl h); exact nd h; exact hw (.inr h))]
        refine iteT ?_
        refine ⟨_, rfl, t, _, rfl, DdAt.same S7 hd6, by omega, gd_notdo gd, fun t4 G4 U4 f4 e4 => ?_⟩
        rw [show wrT (.mk w0 a0 b0 c0) = [.str "nodeed", .str w0] from if_neg hw] at e4
        have V4 := S7.trans U4
        refine ⟨_, rfl, t, _, 0, .str w0, rfl, rfl, same_seqT V4 h6, atI_nat (j := 0) rfl, by show 2 ≤ sizeLine; decide, fun t5 nt5 => ?_⟩
        have U5 : Same G4 (upd G4 t5 (.tup [.str "nodeed", .str w0])) := Same.upd nt5
        have all2 : ∀ {H : Hp}, DpAll K H [.str "nodeed", .str w0] [.str "nodeed", .str w0] := .cons (.str _) (.cons (.str _) .nil)
        have sh2 : SeqAt.shaped (.tuple [.str "nodeed", .str w0]) = true := by
          have hz := strOk_of (ddP_cl gd w0 (by simp [ddP])).1.1
          have dn : PyData.strOk "nodeed" = true := by decide +kernel
          simp [SeqAt.shaped, PyData.canLay0, PyData.canLayAll0, PyData.depth, PyData.depthAll, hz, dn]
        refine ⟨_, _, .tup (SqT.of (U5 _ _ e4)) all2, .tup (SqT.of upd_same) all2, sh2, sh2, _, rfl, ?_⟩
        rw [eqv_self sh2]
        refine iteF ?_
        exact fin _ _ ⟨rfl, V4.trans U5⟩
    | .doo a0 zs, gd, hd6, sz, okr, lr, fin =>
      obtain ⟨t2, h61, h62⟩ := id hd6
      refine ⟨_, rfl, ?_⟩
      refine ⟨t, _, 0, .str "do", rfl, rfl, h61, atI_nat (j := 0) rfl, ?_⟩
      refine ⟨by show 3 ≤ sizeLine; decide, fun t3 nt3 => ?_⟩
      have S7 : Same H6 (upd H6 t3 (.tup [.str "make", .str "do", .str "drop"])) := Same.upd nt3
      refine ⟨t3, _, rfl, .inr (SqT.of upd_same), rfl, rfl, _, rfl, ?_⟩
      generalize upd H6 t3 (.tup [.str "make", .str "do", .str "drop"]) = H7 at S7
      show if (!inV (.str "do") (([("make" : Str), "do", "drop"]).map V.str)) = true then _ else _
      rw [inV_strs, decide_eq_true (by simp)]
      refine iteF ?_
      refine ⟨_, rfl, t, _, rfl, DdAt.same S7 hd6, by omega, gd_notdo gd, fun t4 G4 U4 f4 e4 => ?_⟩
      rw [show wrT (.doo a0 zs) = [.str "told", .str (rowD (.doo a0 zs))] from rfl] at e4
      have V4 := S7.trans U4
      refine ⟨_, rfl, by show 2 ≤ sizeLine; decide, fun t5 nt5 => ?_⟩
      have U5 : Same G4 (upd G4 t5 (.tup [.str "told", .str (rowD (.doo a0 zs))])) := Same.upd nt5
      have e5 : (upd G4 t5 (.tup [.str "told", .str (rowD (.doo a0 zs))])) t5 = some (.tup [.str "told", .str (rowD (.doo a0 zs))]) := upd_same
      generalize upd G4 t5 (.tup [.str "told", .str (rowD (.doo a0 zs))]) = G5 at U5 e5
      have V5 := V4.trans U5
      have all2 : ∀ {H : Hp}, DpAll K H [.str "told", .str (rowD (.doo a0 zs))] [.str "told", .str (rowD (.doo a0 zs))] := .cons (.str _) (.cons (.str _) .nil)
      have sh2 := shaped_told okr
      refine ⟨_, _, .tup (SqT.of (U5 _ _ e4)) all2, .tup (SqT.of e5) all2, sh2, sh2, _, rfl, ?_⟩
      rw [eqv_self sh2]
      refine iteF ?_
      refine ⟨_, rfl, _, rfl, by omega, okr, fun t6 G6 U6 f6 h6 => ?_⟩
      rw [gd_rd gd trivial] at h6
      have V6 := V5.trans U6
      refine ⟨_, rfl, by show 2 ≤ sizeLine; decide, fun t7 nt7 => ?_⟩
      have U7 : Same G6 (upd G6 t7 (.tup [.str "told", .ref t])) := Same.upd nt7
      have h7 : TlAt K (upd G6 t7 (.tup [.str "told", .ref t])) t7 (some (.doo a0 zs)) := ⟨t, SqT.of upd_same, DdAt.same (V6.trans U7) hd6⟩
      have sh3 : SeqAt.shaped (tlD (some (.doo a0 zs))) = true := tl_sh fun d' e => by cases e; exact fun z hz => (ddP_cl gd z hz).1.1
      refine ⟨_, _, tl_dp (h6.same U7), tl_dp h7, sh3, sh3, _, rfl, ?_⟩
      rw [eqv_self sh3]
      refine iteF ?_
      exact fin _ _ ⟨rfl, V6.trans U7⟩
end
end Wm
namespace Wm
open PySem L2 He ClX StX
theorem errB_ok {K : PySem.W.Frag} {mg : Str → Option Value} {x f : Str} {C fI : Addr} (h : errB K C fI f = true) (g : mg x = some (.ref C)) : ErrT K mg x f C fI ∧ XfC K C ∧ ExcC K C ∧ PySem.W.exmOne K (.ref C) (.ref C) = some true := by
  unfold errB at h
  obtain ⟨h1, h⟩ := ba h
  obtain ⟨h2, h⟩ := ba h
  obtain ⟨h3, h⟩ := ba h
  obtain ⟨h4, h⟩ := ba h
  obtain ⟨h5, h⟩ := ba h
  obtain ⟨h6, h⟩ := ba h
  obtain ⟨h7, h⟩ := ba h
  obtain ⟨h8, h⟩ := ba h
  obtain ⟨h9, h⟩ := ba h
  obtain ⟨h10, h⟩ := ba h
  obtain ⟨h11, h⟩ := ba h
  obtain ⟨h12, h⟩ := ba h
  obtain ⟨h13, h⟩ := ba h
  obtain ⟨h14, h⟩ := ba h
  obtain ⟨h15, h⟩ := ba h
  obtain ⟨h16, h17⟩ := ba h
  exact ⟨⟨⟨excB_ok h14, eqO_ok h1, of_decide_eq_true h2, of_decide_eq_true h3, h4⟩, g, eqO_ok h13, of_decide_eq_true h5, eqO_ok h6, eqO_ok h7⟩, ⟨eqO_ok h8, eqO_ok h9, of_decide_eq_true h2, h10⟩,
    ⟨eqO_ok h8, eqO_ok h9, of_decide_eq_true h2, h10, eqO_ok h11, eqO_ok h16, of_decide_eq_true h17, of_decide_eq_true h12⟩, of_decide_eq_true h15⟩
theorem facts {P : Program} {w : World} {K : PySem.W.Frag} {h : Heap} {mg : Str → Option Value} {fa : Addr} (X : K.In h) (G : h.Ns mainGlobals mg) (hfa : mg "law" = some (.ref fa)) (c : SaysM ck fnL K) :
    ∃ fd : FuncData, (∀ (s : Shared) (v : Value), BindsTo s fd ⟨[v], []⟩ [("_law_script", v)]) ∧ ∀ base : Heap, K.In base → base.Ns mainGlobals mg → FnOk P w K mg base CX0 6 fa fd ["_law_script"] (spLaw K) := by
  have q := c.says
  unfold ck at q
  obtain ⟨qf, q⟩ := ba q
  obtain ⟨qw, q⟩ := ba q
  obtain ⟨qe0, q⟩ := ba q
  obtain ⟨qe1, q⟩ := ba q
  obtain ⟨q1, q2⟩ := ba q
  have ft : ∀ (i : Nat) {f : Fa}, factL[i]? = some f → f.ok K = true := fun i {f} e => List.all_eq_true.mp qf f (List.mem_of_getElem? e)
  have g_WhoError := glo_ok X G (ft 0 (f := .glo "WhoError") rfl)
  have g_NoDeed := glo_ok X G (ft 1 (f := .glo "NoDeed") rfl)
  have g_BadRow := glo_ok X G (ft 2 (f := .glo "BadRow") rfl)
  have g_parts_of := glo_ok X G (ft 3 (f := .glo "parts_of") rfl)
  obtain ⟨fd_parts_of, Fk_parts_of⟩ := c.def_ 0 (d := d_parts_of) rfl
  have Fk_parts_of : FunD K "parts_of" "parts_of" (defArgs sPo) (defBody sPo) (defScope sPo) [] [] (ga K "parts_of") fd_parts_of := Fk_parts_of
  have F_parts_of : Fun K "parts_of" "parts_of" sPo (ga K "parts_of") fd_parts_of := fun_of Fk_parts_of
  have D_parts_of : Dn K mg "parts_of" sPo ["row"] (ga K "parts_of") fd_parts_of := ⟨F_parts_of, g_parts_of, F_parts_of.binds (ps := ["row"]) fun _ _ _ _ _ _ us hl => match us, hl with | [_], _ => rfl⟩
  have g_deed_row := glo_ok X G (ft 4 (f := .glo "deed_row") rfl)
  obtain ⟨fd_deed_row, Fk_deed_row⟩ := c.def_ 1 (d := d_deed_row) rfl
  have Fk_deed_row : FunD K "deed_row" "deed_row" (defArgs sDr) (defBody sDr) (defScope sDr) [] [] (ga K "deed_row") fd_deed_row := Fk_deed_row
  have F_deed_row : Fun K "deed_row" "deed_row" sDr (ga K "deed_row") fd_deed_row := fun_of Fk_deed_row
  have D_deed_row : Dn K mg "deed_row" sDr ["deed"] (ga K "deed_row") fd_deed_row := ⟨F_deed_row, g_deed_row, F_deed_row.binds (ps := ["deed"]) fun _ _ _ _ _ _ us hl => match us, hl with | [_], _ => rfl⟩
  have g_read_deed := glo_ok X G (ft 5 (f := .glo "read_deed") rfl)
  obtain ⟨fd_read_deed, Fk_read_deed⟩ := c.def_ 2 (d := d_read_deed) rfl
  have Fk_read_deed : FunD K "read_deed" "read_deed" (defArgs sRd) (defBody sRd) (defScope sRd) [] [] (ga K "read_deed") fd_read_deed := Fk_read_deed
  have F_read_deed : Fun K "read_deed" "read_deed" sRd (ga K "read_deed") fd_read_deed := fun_of Fk_read_deed
  have D_read_deed : Dn K mg "read_deed" sRd ["row"] (ga K "read_deed") fd_read_deed := ⟨F_read_deed, g_read_deed, F_read_deed.binds (ps := ["row"]) fun _ _ _ _ _ _ us hl => match us, hl with | [_], _ => rfl⟩
  have g__law_pot := glo_ok X G (ft 6 (f := .glo "_law_pot") rfl)
  obtain ⟨fd__law_pot, Fk__law_pot⟩ := c.def_ 3 (d := d__law_pot) rfl
  have Fk__law_pot : FunD K "_law_pot" "_law_pot" (defArgs sPot) (defBody sPot) (defScope sPot) [] [] (ga K "_law_pot") fd__law_pot := Fk__law_pot
  have F__law_pot : Fun K "_law_pot" "_law_pot" sPot (ga K "_law_pot") fd__law_pot := fun_of Fk__law_pot
  have D__law_pot : Dn K mg "_law_pot" sPot ["_law_script"] (ga K "_law_pot") fd__law_pot := ⟨F__law_pot, g__law_pot, F__law_pot.binds (ps := ["_law_script"]) fun _ _ _ _ _ _ us hl => match us, hl with | [_], _ => rfl⟩
  have g__law_mixed := glo_ok X G (ft 7 (f := .glo "_law_mixed") rfl)
  obtain ⟨fd__law_mixed, Fk__law_mixed⟩ := c.def_ 4 (d := d__law_mixed) rfl
  have Fk__law_mixed : FunD K "_law_mixed" "_law_mixed" (defArgs sMix) (defBody sMix) (defScope sMix) [] [] (ga K "_law_mixed") fd__law_mixed := Fk__law_mixed
  have F__law_mixed : Fun K "_law_mixed" "_law_mixed" sMix (ga K "_law_mixed") fd__law_mixed := fun_of Fk__law_mixed
  have D__law_mixed : Dn K mg "_law_mixed" sMix ["_law_cell", "_law_k"] (ga K "_law_mixed") fd__law_mixed := ⟨F__law_mixed, g__law_mixed, F__law_mixed.binds (ps := ["_law_cell", "_law_k"]) fun _ _ _ _ _ _ us hl => match us, hl with | [_, _], _ => rfl⟩
  have g__law_take := glo_ok X G (ft 8 (f := .glo "_law_take") rfl)
  obtain ⟨fd__law_take, Fk__law_take⟩ := c.def_ 5 (d := d__law_take) rfl
  have Fk__law_take : FunD K "_law_take" "_law_take" (defArgs sTak) (defBody sTak) (defScope sTak) [] [] (ga K "_law_take") fd__law_take := Fk__law_take
  have F__law_take : Fun K "_law_take" "_law_take" sTak (ga K "_law_take") fd__law_take := fun_of Fk__law_take
  have D__law_take : Dn K mg "_law_take" sTak ["_law_pot_here", "_law_many"] (ga K "_law_take") fd__law_take := ⟨F__law_take, g__law_take, F__law_take.binds (ps := ["_law_pot_here", "_law_many"]) fun _ _ _ _ _ _ us hl => match us, hl with | [_, _], _ => rfl⟩
  have g__law_name_at := glo_ok X G (ft 9 (f := .glo "_law_name_at") rfl)
  obtain ⟨fd__law_name_at, Fk__law_name_at⟩ := c.def_ 6 (d := d__law_name_at) rfl
  have Fk__law_name_at : FunD K "_law_name_at" "_law_name_at" (defArgs sNAt) (defBody sNAt) (defScope sNAt) [] [] (ga K "_law_name_at") fd__law_name_at := Fk__law_name_at
  have F__law_name_at : Fun K "_law_name_at" "_law_name_at" sNAt (ga K "_law_name_at") fd__law_name_at := fun_of Fk__law_name_at
  have D__law_name_at : Dn K mg "_law_name_at" sNAt ["_law_index"] (ga K "_law_name_at") fd__law_name_at := ⟨F__law_name_at, g__law_name_at, F__law_name_at.binds (ps := ["_law_index"]) fun _ _ _ _ _ _ us hl => match us, hl with | [_], _ => rfl⟩
  have g__law_large := glo_ok X G (ft 10 (f := .glo "_law_large") rfl)
  obtain ⟨fd__law_large, Fk__law_large⟩ := c.def_ 7 (d := d__law_large) rfl
  have Fk__law_large : FunD K "_law_large" "_law_large" (defArgs sLrg) (defBody sLrg) (defScope sLrg) [] [] (ga K "_law_large") fd__law_large := Fk__law_large
  have F__law_large : Fun K "_law_large" "_law_large" sLrg (ga K "_law_large") fd__law_large := fun_of Fk__law_large
  have D__law_large : Dn K mg "_law_large" sLrg ["_law_pot_here", "_law_many"] (ga K "_law_large") fd__law_large := ⟨F__law_large, g__law_large, F__law_large.binds (ps := ["_law_pot_here", "_law_many"]) fun _ _ _ _ _ _ us hl => match us, hl with | [_, _], _ => rfl⟩
  have g__law_name := glo_ok X G (ft 11 (f := .glo "_law_name") rfl)
  obtain ⟨fd__law_name, Fk__law_name⟩ := c.def_ 8 (d := d__law_name) rfl
  have Fk__law_name : FunD K "_law_name" "_law_name" (defArgs sNam) (defBody sNam) (defScope sNam) [] [] (ga K "_law_name") fd__law_name := Fk__law_name
  have F__law_name : Fun K "_law_name" "_law_name" sNam (ga K "_law_name") fd__law_name := fun_of Fk__law_name
  have D__law_name : Dn K mg "_law_name" sNam ["_law_pot_here", "_law_taken"] (ga K "_law_name") fd__law_name := ⟨F__law_name, g__law_name, F__law_name.binds (ps := ["_law_pot_here", "_law_taken"]) fun _ _ _ _ _ _ us hl => match us, hl with | [_, _], _ => rfl⟩
  have g__law_deed := glo_ok X G (ft 12 (f := .glo "_law_deed") rfl)
  obtain ⟨fd__law_deed, Fk__law_deed⟩ := c.def_ 9 (d := d__law_deed) rfl
  have Fk__law_deed : FunD K "_law_deed" "_law_deed" (defArgs sDed) (defBody sDed) (defScope sDed) [] [] (ga K "_law_deed") fd__law_deed := Fk__law_deed
  have F__law_deed : Fun K "_law_deed" "_law_deed" sDed (ga K "_law_deed") fd__law_deed := fun_of Fk__law_deed
  have D__law_deed : Dn K mg "_law_deed" sDed ["_law_pot_here", "_law_kind"] (ga K "_law_deed") fd__law_deed := ⟨F__law_deed, g__law_deed, F__law_deed.binds (ps := ["_law_pot_here", "_law_kind"]) fun _ _ _ _ _ _ us hl => match us, hl with | [_, _], _ => rfl⟩
  have g__law_row := glo_ok X G (ft 13 (f := .glo "_law_row") rfl)
  obtain ⟨fd__law_row, Fk__law_row⟩ := c.def_ 10 (d := d__law_row) rfl
  have Fk__law_row : FunD K "_law_row" "_law_row" (defArgs sRow) (defBody sRow) (defScope sRow) [] [] (ga K "_law_row") fd__law_row := Fk__law_row
  have F__law_row : Fun K "_law_row" "_law_row" sRow (ga K "_law_row") fd__law_row := fun_of Fk__law_row
  have D__law_row : Dn K mg "_law_row" sRow ["_law_deed_here"] (ga K "_law_row") fd__law_row := ⟨F__law_row, g__law_row, F__law_row.binds (ps := ["_law_deed_here"]) fun _ _ _ _ _ _ us hl => match us, hl with | [_], _ => rfl⟩
  have g__law_spoiled := glo_ok X G (ft 14 (f := .glo "_law_spoiled") rfl)
  obtain ⟨fd__law_spoiled, Fk__law_spoiled⟩ := c.def_ 11 (d := d__law_spoiled) rfl
  have Fk__law_spoiled : FunD K "_law_spoiled" "_law_spoiled" (defArgs sSpo) (defBody sSpo) (defScope sSpo) [] [] (ga K "_law_spoiled") fd__law_spoiled := Fk__law_spoiled
  have F__law_spoiled : Fun K "_law_spoiled" "_law_spoiled" sSpo (ga K "_law_spoiled") fd__law_spoiled := fun_of Fk__law_spoiled
  have D__law_spoiled : Dn K mg "_law_spoiled" sSpo ["_law_pot_here", "_law_parts", "_law_way"] (ga K "_law_spoiled") fd__law_spoiled := ⟨F__law_spoiled, g__law_spoiled, F__law_spoiled.binds (ps := ["_law_pot_here", "_law_parts", "_law_way"]) fun _ _ _ _ _ _ us hl => match us, hl with | [_, _, _], _ => rfl⟩
  have g__law_due := glo_ok X G (ft 15 (f := .glo "_law_due") rfl)
  obtain ⟨fd__law_due, Fk__law_due⟩ := c.def_ 12 (d := d__law_due) rfl
  have Fk__law_due : FunD K "_law_due" "_law_due" (defArgs sDue) (defBody sDue) (defScope sDue) [] [] (ga K "_law_due") fd__law_due := Fk__law_due
  have F__law_due : Fun K "_law_due" "_law_due" sDue (ga K "_law_due") fd__law_due := fun_of Fk__law_due
  have D__law_due : Dn K mg "_law_due" sDue ["_law_row_here"] (ga K "_law_due") fd__law_due := ⟨F__law_due, g__law_due, F__law_due.binds (ps := ["_law_row_here"]) fun _ _ _ _ _ _ us hl => match us, hl with | [_], _ => rfl⟩
  have g__law_read := glo_ok X G (ft 16 (f := .glo "_law_read") rfl)
  obtain ⟨fd__law_read, Fk__law_read⟩ := c.def_ 13 (d := d__law_read) rfl
  have Fk__law_read : FunD K "_law_read" "_law_read" (defArgs sRea) (defBody sRea) (defScope sRea) [] [] (ga K "_law_read") fd__law_read := Fk__law_read
  have F__law_read : Fun K "_law_read" "_law_read" sRea (ga K "_law_read") fd__law_read := fun_of Fk__law_read
  have D__law_read : Dn K mg "_law_read" sRea ["_law_row_here"] (ga K "_law_read") fd__law_read := ⟨F__law_read, g__law_read, F__law_read.binds (ps := ["_law_row_here"]) fun _ _ _ _ _ _ us hl => match us, hl with | [_], _ => rfl⟩
  have g__law_written := glo_ok X G (ft 17 (f := .glo "_law_written") rfl)
  obtain ⟨fd__law_written, Fk__law_written⟩ := c.def_ 14 (d := d__law_written) rfl
  have Fk__law_written : FunD K "_law_written" "_law_written" (defArgs sWri) (defBody sWri) (defScope sWri) [] [] (ga K "_law_written") fd__law_written := Fk__law_written
  have F__law_written : Fun K "_law_written" "_law_written" sWri (ga K "_law_written") fd__law_written := fun_of Fk__law_written
  have D__law_written : Dn K mg "_law_written" sWri ["_law_deed_here"] (ga K "_law_written") fd__law_written := ⟨F__law_written, g__law_written, F__law_written.binds (ps := ["_law_deed_here"]) fun _ _ _ _ _ _ us hl => match us, hl with | [_], _ => rfl⟩
  have g__law_refused_by_base := glo_ok X G (ft 18 (f := .glo "_law_refused_by_base") rfl)
  obtain ⟨fd__law_refused_by_base, Fk__law_refused_by_base⟩ := c.def_ 15 (d := d__law_refused_by_base) rfl
  have Fk__law_refused_by_base : FunD K "_law_refused_by_base" "_law_refused_by_base" (defArgs sRfb) (defBody sRfb) (defScope sRfb) [] [] (ga K "_law_refused_by_base") fd__law_refused_by_base := Fk__law_refused_by_base
  have F__law_refused_by_base : Fun K "_law_refused_by_base" "_law_refused_by_base" sRfb (ga K "_law_refused_by_base") fd__law_refused_by_base := fun_of Fk__law_refused_by_base
  have D__law_refused_by_base : Dn K mg "_law_refused_by_base" sRfb ["_law_row_here"] (ga K "_law_refused_by_base") fd__law_refused_by_base := ⟨F__law_refused_by_base, g__law_refused_by_base, F__law_refused_by_base.binds (ps := ["_law_row_here"]) fun _ _ _ _ _ _ us hl => match us, hl with | [_], _ => rfl⟩
  have g_law := glo_ok X G (ft 19 (f := .glo "law") rfl)
  obtain ⟨fd_law, Fk_law⟩ := c.def_ 16 (d := d_law) rfl
  have Fk_law : FunD K "law" "law" (defArgs sLaw) (defBody sLaw) (defScope sLaw) [] [] (ga K "law") fd_law := Fk_law
  have F_law : Fun K "law" "law" sLaw (ga K "law") fd_law := fun_of Fk_law
  have FLb := FunD.bindsA (ps := ["_law_script"]) Fk_law fun _ _ _ _ _ _ us hl => match us, hl with | [_], _ => rfl
  obtain ⟨fd_NoDeed___init__, Fk_NoDeed___init__⟩ := c.def_ 17 (d := d_NoDeed___init__) rfl
  have Fk_NoDeed___init__ : FunD K "__init__" "NoDeed.__init__" (defArgs sND) (defBody sND) (defScope sND) [] [] (ma K (ga K "NoDeed") "__init__") fd_NoDeed___init__ := Fk_NoDeed___init__
  have F_NoDeed___init__ : Fun K "__init__" "NoDeed.__init__" sND (ma K (ga K "NoDeed") "__init__") fd_NoDeed___init__ := fun_of Fk_NoDeed___init__
  have b_NoDeed___init__ := F_NoDeed___init__.binds (ps := ["self", "word"]) fun _ _ _ _ _ _ us hl => match us, hl with | [_, _], _ => rfl
  obtain ⟨fd_BadRow___init__, Fk_BadRow___init__⟩ := c.def_ 18 (d := d_BadRow___init__) rfl
  have Fk_BadRow___init__ : FunD K "__init__" "BadRow.__init__" (defArgs sBR) (defBody sBR) (defScope sBR) [] [] (ma K (ga K "BadRow") "__init__") fd_BadRow___init__ := Fk_BadRow___init__
  have F_BadRow___init__ : Fun K "__init__" "BadRow.__init__" sBR (ma K (ga K "BadRow") "__init__") fd_BadRow___init__ := fun_of Fk_BadRow___init__
  have b_BadRow___init__ := F_BadRow___init__.binds (ps := ["self", "row"]) fun _ _ _ _ _ _ us hl => match us, hl with | [_, _], _ => rfl
  have t_abs := free_ok X G (ft 20 (f := .free "abs") rfl)
  have t_int := free_ok X G (ft 21 (f := .free "int") rfl)
  have t_len := free_ok X G (ft 22 (f := .free "len") rfl)
  have t_range := free_ok X G (ft 23 (f := .free "range") rfl)
  have t_all := free_ok X G (ft 24 (f := .free "all") rfl)
  have t_tuple := free_ok X G (ft 25 (f := .free "tuple") rfl)
  have t_enumerate := free_ok X G (ft 26 (f := .free "enumerate") rfl)
  have t_isinstance := free_ok X G (ft 27 (f := .free "isinstance") rfl)
  have t_ValueError := free_ok X G (ft 28 (f := .free "ValueError") rfl)
  have t_list := free_ok X G (ft 29 (f := .free "list") rfl)
  have t_str := free_ok X G (ft 30 (f := .free "str") rfl)
  have e := hfa.symm.trans g_law
  cases e
  have T : TxB mg := ⟨t_abs, t_int, t_len, t_range, t_all, t_tuple, t_enumerate, t_isinstance, t_ValueError⟩
  obtain ⟨dW0, FW⟩ := c.def_ 19 (d := dWho) rfl
  have FW : FunD K "__init__" "WhoError.__init__" (defArgs sW0) (defBody sW0) (defScope sW0) [.str (PySem.Str.ofString "whoerror")] [] (ma K (ga K "WhoError") "__init__") dW0 := FW
  obtain ⟨ds, hds, bW⟩ := FW.binds1 (ps := ["self", "kind"]) 2 1 (by simp) (by rfl) (fun T kV doc pm an cdv ct us its hu hi => match us, hu, its, hi with | [_, _], _, [_], _ => ⟨_, rfl, rfl⟩)
  cases hds
  have ww := whoB_ok qw
  have TW : WhoT K mg (ga K "WhoError") (ma K (ga K "WhoError") "__init__") dW0 := ⟨g_WhoError, ww.1, ww.2, FW.kp, bW⟩
  have E0 := errB_ok (x := "NoDeed") qe0 g_NoDeed
  have E1 := errB_ok (x := "BadRow") qe1 g_BadRow
  refine ⟨_, fun s v => FLb s [v] rfl, fun base _ _ => ?_⟩
  have GW : FnOk P w K mg base CX0 1 _ dW0 ["self", "kind"] (spWI K) := ok_who FW
  have GI0 : FnOk P w K mg base CX0 2 _ _ ["self", "word"] (spE1 (ga K "NoDeed") "word" "nodeed") := ok_nodeed F_NoDeed___init__ E0.1 TW GW
  have GI1 : FnOk P w K mg base CX0 2 _ _ ["self", "row"] (spE1 (ga K "BadRow") "row" "badrow") := ok_badrow F_BadRow___init__ E1.1 TW GW
  have GDr : FnOk P w K mg base (L2N.CX P w) 4 _ _ ["deed"] (spDr K (ga K "NoDeed")) := ok_dr F_deed_row E0.1 b_NoDeed___init__ GI0
  have GRd : FnOk P w K mg base (L2N.CX P w) 4 _ _ ["row"] (spRd K (ga K "BadRow")) := ok_rd F_read_deed T D_parts_of E1.1 b_BadRow___init__ GI1
  have GPo : FnOk P w K mg base CX0 1 _ _ ["_law_script"] (spPot K) := ok_pot F__law_pot T t_list
  have GT : FnOk P w K mg base CX0 2 _ _ ["_law_pot_here", "_law_many"] spTak := ok_tak F__law_take T D__law_mixed
  have GL : FnOk P w K mg base CX0 3 _ _ ["_law_pot_here", "_law_many"] spLrg := ok_lrg F__law_large T D__law_take GT
  have GN : FnOk P w K mg base CX0 4 _ _ ["_law_pot_here", "_law_taken"] spNam := ok_nam F__law_name T t_str D__law_take GT D__law_name_at D__law_large GL
  have GDe : FnOk P w K mg base CX0 5 _ _ ["_law_pot_here", "_law_kind"] (spDed K) := ok_ded F__law_deed T D__law_take GT D__law_name GN
  have GRo : FnOk P w K mg base CX0 1 _ _ ["_law_deed_here"] (spRow K) := ok_row F__law_row t_list
  have GSp : FnOk P w K mg base CX0 3 _ _ ["_law_pot_here", "_law_parts", "_law_way"] spSpo := ok_spo F__law_spoiled T D__law_take GT
  have GDu : FnOk P w K mg base CX0 1 _ _ ["_law_row_here"] (spDue K) := ok_due F__law_due T
  have GRe : FnOk P w K mg base CX0 5 _ _ ["_law_row_here"] (spRea K) := ok_rea F__law_read g_BadRow E1.2.2.2 E1.2.1 E1.1.nf D_read_deed GRd
  have GWr : FnOk P w K mg base CX0 5 _ _ ["_law_deed_here"] (spWri K) := ok_wri F__law_written g_NoDeed E0.2.2.2 E0.2.1 E0.1.nf D_deed_row GDr
  have GRf : FnOk P w K mg base CX0 5 _ _ ["_law_row_here"] spRfb := ok_rfb F__law_refused_by_base T g_WhoError (of_decide_eq_true q1) E1.2.2.1 (of_decide_eq_true q2) D_read_deed GRd
  exact ok_law F_law T D__law_pot GPo D__law_take GT D__law_deed GDe D__law_row GRo D__law_written GWr D__law_read GRe D__law_spoiled GSp D__law_due GDu D__law_refused_by_base GRf
end Wm

open PySem PySem.W PySem.Calls PyProof.Rows
set_option maxRecDepth 100000 in
set_option maxHeartbeats 0 in
theorem PySem.Challenge.cw_whomay_k92_deed_rows_holds : PySem.Challenge.rw_whomay_k92_deed_rows.Holds := by
  w_on; o_law
  refine HandSHeadRun.head_any (r := OpenLaw.row PySem.Challenge.rw_whomay_k92_deed_rows) (q := view (OpenLaw.row PySem.Challenge.rw_whomay_k92_deed_rows).prog [23]) (H := Wm.hkW) (ob := Wm.obW) (M := 20000) (loose := Wm.loW) (d := HandSHeadRun.topDef (OpenLaw.row PySem.Challenge.rw_whomay_k92_deed_rows).prog 23) (kwd := []) Wm.obW_eq
    (by kernel_rfl) (fun s => by kernel_rfl) Wm.runW (by kernel_rfl) (by kernel_rfl) (by kernel_rfl) (by rfl) (by first | assumption | decide +kernel) (by decide +kernel) ⟨rfl, rfl, rfl, rfl, rfl, by decide +kernel⟩ ?hw ?hc
  case hw => w_witness2
  case hc =>
    refine L2.walk_ofE (l := PySem.Challenge.rw_whomay_k92_deed_rows) (n := 63) (k := 6) (x := "_law_script") (CX := L2.CX0) rfl (by decide) (by kernel_rfl) ⟨rfl, by decide, by decide⟩ ?F (fun _ _ _ _ z => z)
    intro w mg fa h Y G hmg0
    obtain ⟨K, KX, c⟩ := Y
    have hmg : mg ("law" : PySem.Str) = some (.ref fa) := by
      have e : (HandSHeadRun.topDef (OpenLaw.row PySem.Challenge.rw_whomay_k92_deed_rows).prog 23).name = ("law" : PySem.Str) := by kernel_rfl
      rw [← e]
      exact hmg0
    obtain ⟨fd, hb, hF⟩ := Wm.facts (P := (PySem.Challenge.rw_whomay_k92_deed_rows).prog) (w := w) KX G hmg c
    exact ⟨K, fd, Wm.spLaw K, KX, hb, fun H a ns hl _ hS => ⟨a, ns, rfl, hS, hl, fun _ => rfl⟩, hF⟩
