import PyProof.Rows.All
import Wide.All
import OpenK.AllK
import Wide.FinOn
import HandS.ForMost
import HandS.ForExc
import HandS.Walk
import HandS.Star
import HandS.Style
import HandS.TupAny
import HandS.ExcInit
import HandS.ExcIs
import HandS.ExcField
import HandS.Defaults
import HandS.Wide
import HandS.ClsMeth
import KE.KExcIs
import KE.GoesEnum
import HandS.FStr
import KE.KCallOwn
import HandS.OwnEq
import HandS.IsInst
import HandS.Deep
import HandS.SetFor
import PyProof.EqKinds
import HandS.Conv
import KE.SortData
import KE.KDictList
import HandS.DictTup
import PyProof.DictMoreH
import HandS.Zip
import HandS.DictComp
import KE.GoesMore
import KE.GoesZip
import HandS.TupSets
import HandS.SetBool
import HandS.HotCalls
import PyProof.SumWalkG
import PyProof.Rows.SumAny
import HandS.ExcInitHot
import HandS.WordsExc
import OpenK.KOps
import HandS.ExcOwn
import HandS.MakeKwOnly
import HandS.MakeKw
import PyProof.NeKinds
import PyProof.EqAt
import HandS.TryOnly
import HandS.Words
import KE.KStateDown
import HandS.Head0
import HandS.Head1
import HandS.Head2
import HandS.HeadEnd
import HandS.HeadHook1
import HandS.HeadHook2
import PySem.Challenge.RW_whomay_k72_least_houses
set_option Elab.async false
set_option linter.all false
set_option maxRecDepth 100000
set_option maxHeartbeats 4000000
namespace Wm
open PySem L2
def top (i : Nat) : Stmt := PySem.Challenge.pw_whomay_k72_least_houses.main.body.getD i (.Pass ⟨0, 0, 0, 0⟩)
abbrev sWel : Stmt := top 66
abbrev sDrw : Stmt := top 67
abbrev sW0 : Stmt := inClass (top 2) 0
abbrev sN0 : Stmt := inClass (top 3) 0
abbrev sName : Stmt := top 23
abbrev sRN : Stmt := top 24
abbrev sFT : Stmt := top 25
abbrev sRT : Stmt := top 26
abbrev sRC : Stmt := top 27
abbrev sTT : Stmt := top 51
abbrev sEO : Stmt := top 52
abbrev sTP : Stmt := top 53
abbrev sRV : Stmt := top 54
abbrev sRL : Stmt := top 55
abbrev sRA : Stmt := top 56
abbrev sCP : Stmt := top 57
abbrev sRul : Stmt := inClass (top 62) 0
abbrev sRE : Stmt := inClass (top 62) 1
abbrev sBE : Stmt := inClass (top 9999) 1
abbrev sPck : Stmt := top 68
abbrev sNam : Stmt := top 69
abbrev sNms : Stmt := top 70
abbrev sMak : Stmt := inClass (top 63) 0
abbrev sOL : Stmt := top 36
abbrev sRMT : Stmt := top 37
abbrev sRNS : Stmt := top 38
abbrev sRU : Stmt := top 39
abbrev sRNW : Stmt := top 40
abbrev sCS : Stmt := top 41
abbrev sSch : Stmt := inClass (top 42) 0
abbrev sSMk : Stmt := inClass (top 42) 3
abbrev sSRu : Stmt := inClass (top 42) 4
abbrev sSor : Stmt := inClass (top 42) 1
abbrev sWor : Stmt := inClass (top 42) 2
abbrev sAny : Stmt := top 71
abbrev sNS : Stmt := inClass (top 9) 0
abbrev sNW : Stmt := inClass (top 11) 0
abbrev sRSR : Stmt := top 44
abbrev sSrw : Stmt := top 45
abbrev sMdR : Stmt := top 73
abbrev sMks : Stmt := top 72
abbrev sMdS : Stmt := top 74
abbrev sHin : Stmt := inClass (top 30) 0
abbrev sHen : Stmt := inClass (top 30) 2
abbrev sHgi : Stmt := inClass (top 30) 3
abbrev sHta : Stmt := inClass (top 30) 4
abbrev sHsl : Stmt := inClass (top 30) 6
abbrev sHso : Stmt := inClass (top 30) 8
abbrev sHhe : Stmt := inClass (top 30) 11
abbrev sHrt : Stmt := inClass (top 30) 15
abbrev sHrs : Stmt := inClass (top 30) 16
abbrev sHln : Stmt := inClass (top 30) 1
abbrev sHth : Stmt := inClass (top 30) 7
abbrev sHia : Stmt := inClass (top 30) 9
abbrev sHsc : Stmt := inClass (top 30) 12
abbrev sMi : Stmt := inClass (top 18) 0
abbrev sHf : Stmt := top 46
abbrev sLh : Stmt := top 47
abbrev sRf : Stmt := top 75
abbrev sSai : Stmt := top 76
abbrev sRi : Stmt := top 77
abbrev sRo : Stmt := top 78
abbrev sOn : Stmt := top 79
abbrev sCel : Stmt := top 65
abbrev sLaw : Stmt := top 80
end Wm
/-! a head by one run: what is asked of the written part is one Bool of one's own -/
namespace Wm
open PySem PySem.Spec PyProof.Rows L2 He ClX
def obsM (ck : PySem.W.Frag → Bool) (fn : List DefD) (K : PySem.W.Frag) : AlD := (ck K && fn.all fun d => d.ok K, fn.map fun d => fnW K d.at_)
def SaysM (ck : PySem.W.Frag → Bool) (fn : List DefD) (K : PySem.W.Frag) : Prop := obsM ck fn K = valD fn
/-- what the module's names, and what the C code keeps, reach in n steps -/
def asM (g : Addr → Option Obj) : Nat → List Addr
  | 0 => [mainGlobals, cStatics]
  | n + 1 => growD g (asM g n)
def obsMG (n : Nat) (ck : PySem.W.Frag → Bool) (fn : List DefD) (g : Addr → Option Obj) : AlD := obsM ck fn (frG g (asM g n))
def hookM (n : Nat) (ck : PySem.W.Frag → Bool) (fn : List DefD) : PySem.W.Hook where
  α := AlD
  obs := fun s => obsMG n ck fn s.heap.get?
  val := fun _ => valD fn
  says := fun _ h => ∃ K : PySem.W.Frag, K.In h ∧ SaysM ck fn K
  of := fun _ _ e => ⟨_, frG_in, e⟩
  keeps := fun _ _ _ ⟨K, hK, c⟩ k => ⟨K, PySem.W.Frag.In.keeps hK k, c⟩
theorem obsMG_eq {n : Nat} {ck : PySem.W.Frag → Bool} {fn : List DefD} {g : Addr → Option Obj} {s : Shared} (h : ∀ a, g a = s.heap.get? a) : obsMG n ck fn g = (hookM n ck fn).obs s := by
  have e : g = s.heap.get? := funext h
  rw [e] <;> rfl
section
variable {ck : PySem.W.Frag → Bool} {fn : List DefD} {K : PySem.W.Frag}
theorem SaysM.says (c : SaysM ck fn K) : ck K = true := (ba (show (ck K && fn.all fun d => d.ok K) = true from congrArg (fun z : AlD => z.1) c)).1
theorem SaysM.def_ (c : SaysM ck fn K) (i : Nat) {d : DefD} (h : fn[i]? = some d := by rfl) : ∃ fd, FunD K d.name d.qual d.params d.body d.scope (d.dvs K) (d.kws K) (fAd K d.at_) fd := by
  have c2 := (ba (show (ck K && fn.all fun d => d.ok K) = true from congrArg (fun z : AlD => z.1) c)).2
  have e : fn.map (fun d => fnW K d.at_) = fn.map DefD.val := congrArg (fun z : AlD => z.2) c
  have e2 : (fn.map fun d => fnW K d.at_)[i]? = (fn.map DefD.val)[i]? := by rw [e]
  rw [List.getElem?_map, List.getElem?_map, h] at e2
  exact DefD.funD (Option.some.inj e2) (List.all_eq_true.mp c2 d (List.mem_of_getElem? h))
end
/-- a def without defaults -/
theorem fun_of {K : PySem.W.Frag} {x q : Str} {st : Stmt} {f : Addr} {fd : FuncData} (F : FunD K x q (defArgs st) (defBody st) (defScope st) [] [] f fd) : Fun K x q st f fd := by
  obtain ⟨oc, od, dV, kV, doc, pm, an, cdv, ct, osl, rfl, l, c, d, _⟩ := F.ex
  have e : dV = .none := by
    rcases d with ⟨_, e⟩ | ⟨n, _⟩
    · exact e
    · exact absurd rfl n
  subst e
  exact ⟨⟨oc, od, kV, doc, pm, an, cdv, ct, osl, rfl, l, c⟩, F.kp⟩
/-- an error class whose objects are made by an __init__ of its own -/
def excB (K : PySem.W.Frag) (C : Addr) : Bool := match K.lookup C with
  | some ⟨.type "type", _, .cls cd, sl⟩ => (match cd.mro, sl.toList with
    | .ref C' :: bm, [_, _, _, _, some (.builtin n), _] => C' == C && (n == "ValueError.__new__" && (!cd.hasDel && (cd.hasDict && PySem.HandSPX.refsVE bm)))
    | _, _ => false)
  | _ => false
theorem excB_ok {K : PySem.W.Frag} {C : Addr} (q : excB K C = true) : ∃ nm q N bs bm sn sub ab col dd k0 k1 k2 k3 k5, K.lookup C = some (excClassObj nm q C N bs bm true sn sub ab col dd k0 k1 k2 k3 k5 "ValueError.__new__") ∧ PySem.HandSPX.refsVE bm = true := by
  unfold excB at q
  split at q
  · rename_i dd cd sl ho
    split at q
    · rename_i C' bm k0 k1 k2 k3 n k5 hm hs
      simp only [Bool.and_eq_true, beq_iff_eq, Bool.not_eq_true'] at q
      obtain ⟨rfl, rfl, hdel, hdi, ht⟩ := q
      obtain ⟨nm, bs, mro, ns, qn, hd, sn, sub, ab, col, del⟩ := cd
      dsimp only at hm hdel hdi
      subst hm hdel hdi
      have hsl : sl = #[k0, k1, k2, k3, some (.builtin "ValueError.__new__"), k5] := by
        obtain ⟨l⟩ := sl
        simp only at hs
        rw [hs]
      subst hsl
      exact ⟨nm, qn, ns, bs, bm, sn, sub, ab, col, dd, k0, k1, k2, k3, k5, ho, ht⟩
    · cases q
  · cases q
/-- WhoError, whose __init__ the others call -/
def whoB (K : PySem.W.Frag) (W : Addr) : Bool := PySem.W.readsIn K W (.type "type") && (eqO (PySem.W.specialIn K (.ref W) "__getattribute__") (some (some (.builtin "type.__getattribute__"))) && (match PySem.W.findCls K (.ref W) (.type "type") "__init__" with
  | some (.val (.ref a)) => decide (a = ma K W "__init__")
  | _ => false))
theorem whoB_ok {K : PySem.W.Frag} {W : Addr} (h : whoB K W = true) : CRead K W (.type "type") ∧ PySem.W.findCls K (.ref W) (.type "type") "__init__" = some (.val (.ref (ma K W "__init__"))) := by
  unfold whoB at h
  obtain ⟨h1, h⟩ := ba h
  obtain ⟨h2, h3⟩ := ba h
  refine ⟨⟨h1, eqO_ok h2⟩, ?_⟩
  split at h3
  · rename_i a e
    rw [e, of_decide_eq_true h3]
  · cases h3
end Wm
/-! the reached fragment, gone through once: what was seen is kept as bits of a number -/
namespace Wm
open PySem PySem.Spec PyProof.Rows L2 He ClX
noncomputable def pushB (as : List Addr) : Nat → List Addr → Nat × List Addr := List.rec (motive := fun _ => Nat → List Addr → Nat × List Addr) (fun v acc => (v, acc)) (fun a _ ih v acc => Bool.rec (motive := fun _ => Nat × List Addr) (ih (Nat.lor v (Nat.shiftLeft 1 a)) (a :: acc)) (ih v acc) (Nat.beq (Nat.mod (Nat.shiftRight v a) 2) 1)) as
noncomputable def lvB (g : Addr → Option Obj) (n : Nat) : List Addr → Nat → List Addr := Nat.rec (motive := fun _ => List Addr → Nat → List Addr) (fun fr _ => fr) (fun _ ih fr v => fr ++ (match pushB (fr.flatMap fun a => match g a with
  | some o => refsD o
  | none => []) v [] with
  | (v', nf) => ih nf v')) n
noncomputable def asB (g : Addr → Option Obj) (n : Nat) : List Addr := lvB g n [mainGlobals, cStatics] (Nat.lor (Nat.shiftLeft 1 mainGlobals) (Nat.shiftLeft 1 cStatics))
noncomputable def obsBG (n : Nat) (ck : PySem.W.Frag → Bool) (fn : List DefD) (g : Addr → Option Obj) : AlD := obsM ck fn (frG g (asB g n))
noncomputable def hookB (n : Nat) (ck : PySem.W.Frag → Bool) (fn : List DefD) : PySem.W.Hook where
  α := AlD
  obs := fun s => obsBG n ck fn s.heap.get?
  val := fun _ => valD fn
  says := fun _ h => ∃ K : PySem.W.Frag, K.In h ∧ SaysM ck fn K
  of := fun _ _ e => ⟨_, frG_in, e⟩
  keeps := fun _ _ _ ⟨K, hK, c⟩ k => ⟨K, PySem.W.Frag.In.keeps hK k, c⟩
theorem obsBG_eq {n : Nat} {ck : PySem.W.Frag → Bool} {fn : List DefD} {g : Addr → Option Obj} {s : Shared} (h : ∀ a, g a = s.heap.get? a) : obsBG n ck fn g = (hookB n ck fn).obs s := by
  have e : g = s.heap.get? := funext h
  rw [e] <;> rfl
end Wm
/-! the run's equation in two: what is looked at behind the top, and the facts, each by a run of its own -/
namespace Wm
open PySem PySem.W PySem.Calls PyProof.Rows HandSHeadRun
noncomputable def RunA (r : OpenRow) (q : Program) (M : Nat) (loose : List PySem.Str) (w : World) : Prop :=
  ∀ os : OsState, (endF (stepQ (denQ tabQ) r.prog w) M r.prog w os).map (fun s => (looksF r.prog (boot_heap w.params) s.abs, seenQ q loose (importedModules r.prog.main.body) (fun s => xlAt q [] s && recOk r.toRowW.records s) s.abs)) = some (true, openGood q loose)
noncomputable def RunB (r : OpenRow) (H : Hook) (ob : SharedT → H.α) (M : Nat) (w : World) : Prop :=
  ∀ os : OsState, (endF (stepQ (denQ tabQ) r.prog w) M r.prog w os).map ob = some (H.val w)
theorem runEq_of {r : OpenRow} {q : Program} {H : Hook} {ob : SharedT → H.α} {M : Nat} {loose : List PySem.Str} {w : World} (a : RunA r q M loose w) (b : RunB r H ob M w) : RunEq r q H ob M loose w := fun os => by
  have a := a os
  have b := b os
  revert a b
  generalize endF (stepQ (denQ tabQ) r.prog w) M r.prog w os = z
  cases z with
  | none =>
    intro a
    cases a
  | some s =>
    intro a b
    have e1 := Option.some.inj a
    have e2 : ob s = H.val w := Option.some.inj b
    obtain ⟨e3, e4⟩ := Prod.mk.inj e1
    show some (_, _, _) = _
    rw [e2]
    exact congrArg some (Prod.ext e3 (Prod.ext e4 rfl))
end Wm
namespace Wm
open PySem L2 He ClX StX
/-- what is asked of an error class of one field -/
def errB (K : PySem.W.Frag) (C fI : Addr) (f : Str) : Bool :=
  eqO (PySem.W.findIn K (.ref C) "__setattr__") (some (some (.builtin "object.__setattr__"))) && (decide (PySem.W.subIn K (.ref C) (.type "BaseException") = some true) && (decide (PySem.W.typeIn K (.ref C) = some (.type "type")) && (PySem.W.keepIn K (.ref C) &&
  (decide (PySem.W.typeIn K (.ref fI) = some (.type "function")) && (eqO (PySem.W.findIn K (.ref C) "kind") (some none) && (eqO (PySem.W.findIn K (.ref C) f) (some none) && (eqO (PySem.W.findIn K (.ref C) "__getattribute__") (some (some (.builtin "BaseException.__getattribute__"))) &&
  (eqO (PySem.W.findIn K (.ref C) "__getattr__") (some none) && (PySem.W.hasDictIn K C && (eqO (PySem.W.findIn K (.ref C) "__class__") (some (some (.builtin "object.__class__"))) && (decide (PySem.W.mroIn K C (.type "object") = some true) &&
  (eqO (PySem.W.findIn K (.ref C) "__init__") (some (some (.ref fI))) && (excB K C && (decide (PySem.W.exmOne K (.ref C) (.ref C) = some true) && (eqO (PySem.W.specialIn K (.builtin "object.__class__") "__get__") (some (some (.builtin "getset_descriptor.__get__"))) && decide (PySem.W.takesIn K (.builtin "object.__class__") = some true))))))))))))))))
def factL : List Fa := [.glo "WhoError", .glo "NoName", .glo "NoSort", .glo "NoWord", .glo "Misfit", .glo "is_name", .glo "refuse_no_name", .glo "first_twice", .glo "refuse_twice", .glo "refuse_count", .glo "own_list", .glo "refuse_makings_twice", .glo "refuse_no_sort", .glo "refuse_upward", .glo "refuse_no_word", .glo "check_scheme", .glo "tuple_of_tuples", .glo "ends_of", .glo "texts_of_pattern", .glo "refuse_no_variable", .glo "refuse_loose", .glo "refuse_apart", .glo "check_pattern", .glo "refuse_strange_rule", .glo "sort_rows", .glo "_law_cell_at", .glo "_law_well", .glo "_law_draw", .glo "_law_pick", .glo "_law_name", .glo "_law_names", .glo "_law_any_rule", .glo "_law_made_rule", .glo "_law_makings", .glo "_law_made_scheme", .glo "_law_refusal", .glo "_law_said", .glo "_law_right", .glo "_law_some_row", .glo "_law_once", .glo "house_for", .glo "least_house", .glo "law", .glo "Scheme", .cls "Scheme", .noat "Scheme" "own_sorts", .noat "Scheme" "own_words", .noat "Scheme" "own_makings", .noat "Scheme" "own_rules", .noat "Scheme" "own_bars", .mkr "Scheme", .glo "Rule", .cls "Rule", .noat "Rule" "name", .noat "Rule" "variables", .noat "Rule" "conditions", .noat "Rule" "gives", .noat "Rule" "by", .mkr "Rule", .glo "Making", .cls "Making", .noat "Making" "maker", .noat "Making" "made", .noat "Making" "down", .noat "Making" "up", .mkr "Making", .glo "House", .cls "House", .noat "House" "own_scheme", .noat "House" "sort_by_name", .noat "House" "awake_by_name", .noat "House" "standing", .mkr "House", .meth "Scheme" "sorts", .meth "Scheme" "words", .meth "Scheme" "makings", .meth "Scheme" "rules", .meth "House" "__len__", .meth "House" "things", .meth "House" "scheme", .meth "House" "give", .meth "House" "take", .meth "House" "sleep", .meth "House" "sort_of", .meth "House" "is_awake", .meth "House" "held", .meth "House" "refuse_no_thing", .meth "House" "refuse_strange", .meth "House" "enter", .free "abs", .free "int", .free "len", .free "range", .free "all", .free "tuple", .free "enumerate", .free "isinstance", .free "ValueError", .free "list", .free "str", .free "zip", .free "set", .free "sorted", .str "LETTERS" "abcdefghijklmnopqrstuvwxyz", .str "FIGURES" "0123456789", .int "LONGEST_NAME" 12, .int "MOST_SORTS" 4, .int "MOST_WORDS" 5, .int "MOST_RULES" 8, .int "MOST_BARS" 4, .int "MOST_VARIABLES" 4, .int "MOST_CONDITIONS" 3, .int "MOST_THINGS" 60]
def ck (K : PySem.W.Frag) : Bool := factL.all (fun f => f.ok K) && (whoB K (ga K "WhoError") && (errB K (ga K "NoName") (ma K (ga K "NoName") "__init__") "name" && (errB K (ga K "NoSort") (ma K (ga K "NoSort") "__init__") "name" && (errB K (ga K "NoWord") (ma K (ga K "NoWord") "__init__") "name" && (errB K (ga K "Misfit") (ma K (ga K "Misfit") "__init__") "name" && (decide (PySem.W.exmOne K (.ref (ga K "NoSort")) (.ref (ga K "WhoError")) = some true) && (decide (PySem.W.exmOne K (.ref (ga K "NoWord")) (.ref (ga K "WhoError")) = some true) && (decide (PySem.W.exmOne K (.ref (ga K "Misfit")) (.ref (ga K "WhoError")) = some true) && (decide (PySem.W.kitOne K (.ref (ga K "NoSort")) (.ref (ga K "NoSort")) = some true) && (decide (PySem.W.kitOne K (.ref (ga K "NoSort")) (.ref (ga K "NoWord")) = some false) && (decide (PySem.W.kitOne K (.ref (ga K "NoSort")) (.ref (ga K "Misfit")) = some false) && (decide (PySem.W.kitOne K (.ref (ga K "NoWord")) (.ref (ga K "NoSort")) = some false) && (decide (PySem.W.kitOne K (.ref (ga K "NoWord")) (.ref (ga K "NoWord")) = some true) && (decide (PySem.W.kitOne K (.ref (ga K "NoWord")) (.ref (ga K "Misfit")) = some false) && (decide (PySem.W.kitOne K (.ref (ga K "Misfit")) (.ref (ga K "NoSort")) = some false) && (decide (PySem.W.kitOne K (.ref (ga K "Misfit")) (.ref (ga K "NoWord")) = some false) && (decide (PySem.W.kitOne K (.ref (ga K "Misfit")) (.ref (ga K "Misfit")) = some true))))))))))))))))))
def d_is_name : DefD := ⟨("is_name", none), "is_name", "is_name", defArgs sName, defBody sName, defScope sName, [], []⟩
def d_refuse_no_name : DefD := ⟨("refuse_no_name", none), "refuse_no_name", "refuse_no_name", defArgs sRN, defBody sRN, defScope sRN, [], []⟩
def d_first_twice : DefD := ⟨("first_twice", none), "first_twice", "first_twice", defArgs sFT, defBody sFT, defScope sFT, [], []⟩
def d_refuse_twice : DefD := ⟨("refuse_twice", none), "refuse_twice", "refuse_twice", defArgs sRT, defBody sRT, defScope sRT, [], []⟩
def d_refuse_count : DefD := ⟨("refuse_count", none), "refuse_count", "refuse_count", defArgs sRC, defBody sRC, defScope sRC, [], []⟩
def d_own_list : DefD := ⟨("own_list", none), "own_list", "own_list", defArgs sOL, defBody sOL, defScope sOL, [], []⟩
def d_refuse_makings_twice : DefD := ⟨("refuse_makings_twice", none), "refuse_makings_twice", "refuse_makings_twice", defArgs sRMT, defBody sRMT, defScope sRMT, [], []⟩
def d_refuse_no_sort : DefD := ⟨("refuse_no_sort", none), "refuse_no_sort", "refuse_no_sort", defArgs sRNS, defBody sRNS, defScope sRNS, [], []⟩
def d_refuse_upward : DefD := ⟨("refuse_upward", none), "refuse_upward", "refuse_upward", defArgs sRU, defBody sRU, defScope sRU, [], []⟩
def d_refuse_no_word : DefD := ⟨("refuse_no_word", none), "refuse_no_word", "refuse_no_word", defArgs sRNW, defBody sRNW, defScope sRNW, [], []⟩
def d_check_scheme : DefD := ⟨("check_scheme", none), "check_scheme", "check_scheme", defArgs sCS, defBody sCS, defScope sCS, [], []⟩
def d_tuple_of_tuples : DefD := ⟨("tuple_of_tuples", none), "tuple_of_tuples", "tuple_of_tuples", defArgs sTT, defBody sTT, defScope sTT, [], []⟩
def d_ends_of : DefD := ⟨("ends_of", none), "ends_of", "ends_of", defArgs sEO, defBody sEO, defScope sEO, [], []⟩
def d_texts_of_pattern : DefD := ⟨("texts_of_pattern", none), "texts_of_pattern", "texts_of_pattern", defArgs sTP, defBody sTP, defScope sTP, [], []⟩
def d_refuse_no_variable : DefD := ⟨("refuse_no_variable", none), "refuse_no_variable", "refuse_no_variable", defArgs sRV, defBody sRV, defScope sRV, [], []⟩
def d_refuse_loose : DefD := ⟨("refuse_loose", none), "refuse_loose", "refuse_loose", defArgs sRL, defBody sRL, defScope sRL, [], []⟩
def d_refuse_apart : DefD := ⟨("refuse_apart", none), "refuse_apart", "refuse_apart", defArgs sRA, defBody sRA, defScope sRA, [], []⟩
def d_check_pattern : DefD := ⟨("check_pattern", none), "check_pattern", "check_pattern", defArgs sCP, defBody sCP, defScope sCP, [], []⟩
def d_refuse_strange_rule : DefD := ⟨("refuse_strange_rule", none), "refuse_strange_rule", "refuse_strange_rule", defArgs sRSR, defBody sRSR, defScope sRSR, [], []⟩
def d_sort_rows : DefD := ⟨("sort_rows", none), "sort_rows", "sort_rows", defArgs sSrw, defBody sSrw, defScope sSrw, [], []⟩
def d__law_cell_at : DefD := ⟨("_law_cell_at", none), "_law_cell_at", "_law_cell_at", defArgs sCel, defBody sCel, defScope sCel, [], []⟩
def d__law_well : DefD := ⟨("_law_well", none), "_law_well", "_law_well", defArgs sWel, defBody sWel, defScope sWel, [], []⟩
def d__law_draw : DefD := ⟨("_law_draw", none), "_law_draw", "_law_draw", defArgs sDrw, defBody sDrw, defScope sDrw, [], []⟩
def d__law_pick : DefD := ⟨("_law_pick", none), "_law_pick", "_law_pick", defArgs sPck, defBody sPck, defScope sPck, [], []⟩
def d__law_name : DefD := ⟨("_law_name", none), "_law_name", "_law_name", defArgs sNam, defBody sNam, defScope sNam, [], []⟩
def d__law_names : DefD := ⟨("_law_names", none), "_law_names", "_law_names", defArgs sNms, defBody sNms, defScope sNms, [], []⟩
def d__law_any_rule : DefD := ⟨("_law_any_rule", none), "_law_any_rule", "_law_any_rule", defArgs sAny, defBody sAny, defScope sAny, [], []⟩
def d__law_made_rule : DefD := ⟨("_law_made_rule", none), "_law_made_rule", "_law_made_rule", defArgs sMdR, defBody sMdR, defScope sMdR, [], []⟩
def d__law_makings : DefD := ⟨("_law_makings", none), "_law_makings", "_law_makings", defArgs sMks, defBody sMks, defScope sMks, [], []⟩
def d__law_made_scheme : DefD := ⟨("_law_made_scheme", none), "_law_made_scheme", "_law_made_scheme", defArgs sMdS, defBody sMdS, defScope sMdS, [], []⟩
def d__law_refusal : DefD := ⟨("_law_refusal", none), "_law_refusal", "_law_refusal", defArgs sRf, defBody sRf, defScope sRf, [], []⟩
def d__law_said : DefD := ⟨("_law_said", none), "_law_said", "_law_said", defArgs sSai, defBody sSai, defScope sSai, [], []⟩
def d__law_right : DefD := ⟨("_law_right", none), "_law_right", "_law_right", defArgs sRi, defBody sRi, defScope sRi, [], []⟩
def d__law_some_row : DefD := ⟨("_law_some_row", none), "_law_some_row", "_law_some_row", defArgs sRo, defBody sRo, defScope sRo, [], []⟩
def d__law_once : DefD := ⟨("_law_once", none), "_law_once", "_law_once", defArgs sOn, defBody sOn, defScope sOn, [], []⟩
def d_house_for : DefD := ⟨("house_for", none), "house_for", "house_for", defArgs sHf, defBody sHf, defScope sHf, [], []⟩
def d_least_house : DefD := ⟨("least_house", none), "least_house", "least_house", defArgs sLh, defBody sLh, defScope sLh, [], []⟩
def d_law : DefD := ⟨("law", none), "law", "law", defArgs sLaw, defBody sLaw, defScope sLaw, [], []⟩
def d_NoName___init__ : DefD := ⟨("NoName", some "__init__"), "__init__", "NoName.__init__", defArgs sN0, defBody sN0, defScope sN0, [], []⟩
def d_NoSort___init__ : DefD := ⟨("NoSort", some "__init__"), "__init__", "NoSort.__init__", defArgs sNS, defBody sNS, defScope sNS, [], []⟩
def d_NoWord___init__ : DefD := ⟨("NoWord", some "__init__"), "__init__", "NoWord.__init__", defArgs sNW, defBody sNW, defScope sNW, [], []⟩
def d_Misfit___init__ : DefD := ⟨("Misfit", some "__init__"), "__init__", "Misfit.__init__", defArgs sMi, defBody sMi, defScope sMi, [], []⟩
def d_Rule___init__ : DefD := ⟨("Rule", some "__init__"), "__init__", "Rule.__init__", defArgs sRul, defBody sRul, defScope sRul, [], []⟩
def d_Making___init__ : DefD := ⟨("Making", some "__init__"), "__init__", "Making.__init__", defArgs sMak, defBody sMak, defScope sMak, [], []⟩
def d_Scheme_sorts : DefD := ⟨("Scheme", some "sorts"), "sorts", "Scheme.sorts", defArgs sSor, defBody sSor, defScope sSor, [], []⟩
def d_Scheme_words : DefD := ⟨("Scheme", some "words"), "words", "Scheme.words", defArgs sWor, defBody sWor, defScope sWor, [], []⟩
def d_Scheme_makings : DefD := ⟨("Scheme", some "makings"), "makings", "Scheme.makings", defArgs sSMk, defBody sSMk, defScope sSMk, [], []⟩
def d_Scheme_rules : DefD := ⟨("Scheme", some "rules"), "rules", "Scheme.rules", defArgs sSRu, defBody sSRu, defScope sSRu, [], []⟩
def d_House___init__ : DefD := ⟨("House", some "__init__"), "__init__", "House.__init__", defArgs sHin, defBody sHin, defScope sHin, [], []⟩
def d_House___len__ : DefD := ⟨("House", some "__len__"), "__len__", "House.__len__", defArgs sHln, defBody sHln, defScope sHln, [], []⟩
def d_House_things : DefD := ⟨("House", some "things"), "things", "House.things", defArgs sHth, defBody sHth, defScope sHth, [], []⟩
def d_House_scheme : DefD := ⟨("House", some "scheme"), "scheme", "House.scheme", defArgs sHsc, defBody sHsc, defScope sHsc, [], []⟩
def d_House_give : DefD := ⟨("House", some "give"), "give", "House.give", defArgs sHgi, defBody sHgi, defScope sHgi, [], []⟩
def d_House_take : DefD := ⟨("House", some "take"), "take", "House.take", defArgs sHta, defBody sHta, defScope sHta, [], []⟩
def d_House_sleep : DefD := ⟨("House", some "sleep"), "sleep", "House.sleep", defArgs sHsl, defBody sHsl, defScope sHsl, [], []⟩
def d_House_sort_of : DefD := ⟨("House", some "sort_of"), "sort_of", "House.sort_of", defArgs sHso, defBody sHso, defScope sHso, [], []⟩
def d_House_is_awake : DefD := ⟨("House", some "is_awake"), "is_awake", "House.is_awake", defArgs sHia, defBody sHia, defScope sHia, [], []⟩
def d_House_held : DefD := ⟨("House", some "held"), "held", "House.held", defArgs sHhe, defBody sHhe, defScope sHhe, [], []⟩
def d_House_refuse_no_thing : DefD := ⟨("House", some "refuse_no_thing"), "refuse_no_thing", "House.refuse_no_thing", defArgs sHrt, defBody sHrt, defScope sHrt, [], []⟩
def d_House_refuse_strange : DefD := ⟨("House", some "refuse_strange"), "refuse_strange", "House.refuse_strange", defArgs sHrs, defBody sHrs, defScope sHrs, [], []⟩
def dEnt : DefD := ⟨("House", some "enter"), "enter", "House.enter", defArgs sHen, defBody sHen, defScope sHen, [.bl true], []⟩
def dWho : DefD := ⟨("WhoError", some "__init__"), "__init__", "WhoError.__init__", defArgs sW0, defBody sW0, defScope sW0, [.str "whoerror"], []⟩
def dSch : DefD := ⟨("Scheme", some "__init__"), "__init__", "Scheme.__init__", defArgs sSch, defBody sSch, defScope sSch, [.non, .non, .non], []⟩
def fnL : List DefD := [d_is_name, d_refuse_no_name, d_first_twice, d_refuse_twice, d_refuse_count, d_own_list, d_refuse_makings_twice, d_refuse_no_sort, d_refuse_upward, d_refuse_no_word, d_check_scheme, d_tuple_of_tuples, d_ends_of, d_texts_of_pattern, d_refuse_no_variable, d_refuse_loose, d_refuse_apart, d_check_pattern, d_refuse_strange_rule, d_sort_rows, d__law_cell_at, d__law_well, d__law_draw, d__law_pick, d__law_name, d__law_names, d__law_any_rule, d__law_made_rule, d__law_makings, d__law_made_scheme, d__law_refusal, d__law_said, d__law_right, d__law_some_row, d__law_once, d_house_for, d_least_house, d_law, d_NoName___init__, d_NoSort___init__, d_NoWord___init__, d_Misfit___init__, d_Rule___init__, d_Making___init__, d_Scheme_sorts, d_Scheme_words, d_Scheme_makings, d_Scheme_rules, d_House___init__, d_House___len__, d_House_things, d_House_scheme, d_House_give, d_House_take, d_House_sleep, d_House_sort_of, d_House_is_awake, d_House_held, d_House_refuse_no_thing, d_House_refuse_strange, dEnt, dWho, dSch]
end Wm
set_option maxHeartbeats 0
namespace Wm
open PySem PySem.W PySem.Calls PyProof.Rows
abbrev RW : OpenRow := OpenLaw.row PySem.Challenge.rw_whomay_k72_least_houses
noncomputable abbrev hkW : Hook := hookB 4 ck fnL
noncomputable def obW (s : SharedT) : He.AlD := obsBG 4 ck fnL (HandSHeadRun.getT s)
theorem obW_eq (s : SharedT) : obW s = hkW.obs s.abs := obsBG_eq (HandSHeadRun.getT_eq s)
def lo0 : List PySem.Str := ["_wall", "WhoError", "NoName", "BadCount", "Twice", "NoVariable", "Loose", "Apart", "NoSort", "Upward", "NoWord", "NoRule", "NoBar", "NoThing", "Taken", "Full", "NotHeld", "Misfit", "LETTERS", "FIGURES", "LONGEST_NAME", "is_name", "refuse_no_name", "first_twice", "refuse_twice", "refuse_count", "MOST_THINGS", "House", "MOST_SORTS", "MOST_WORDS"]
def lo1 : List PySem.Str := ["MOST_RULES", "MOST_BARS", "own_list", "refuse_makings_twice", "refuse_no_sort", "refuse_upward", "refuse_no_word", "check_scheme", "Scheme", "refuse_strange_rule", "sort_rows", "house_for", "least_house", "MOST_VARIABLES", "MOST_CONDITIONS", "tuple_of_tuples", "ends_of", "texts_of_pattern", "refuse_no_variable", "refuse_loose", "refuse_apart", "check_pattern", "variable_part", "pattern_parts", "rule_parts", "making_parts", "Rule", "Making", "_law_cell_at", "_law_well"]
def lo2 : List PySem.Str := ["_law_draw", "_law_pick", "_law_name", "_law_names", "_law_any_rule", "_law_makings", "_law_made_rule", "_law_made_scheme", "_law_refusal", "_law_said", "_law_right", "_law_some_row", "_law_once"]
def loW : List PySem.Str := lo0 ++ lo1 ++ lo2
theorem runWA (w : World) : RunA RW (view RW.prog [80]) 20000 loW w := by
  intro os
  kernel_rfl
theorem runWB (w : World) : RunB RW hkW obW 20000 w := by
  intro os
  kernel_rfl
theorem runW (w : World) : HandSHeadRun.RunEq RW (view RW.prog [80]) hkW obW 20000 loW w := runEq_of (runWA w) (runWB w)
end Wm
namespace Wm
open PySem L2
/-- all that was tracked is as it was, but at p -/
def But (p : Addr) (H H' : Hp) : Prop := ∀ q o, q ≠ p → H q = some o → H' q = some o
theorem But.refl (p : Addr) (H : Hp) : But p H H := fun _ _ _ h => h
theorem But.trans {p : Addr} {H H1 H2 : Hp} (a : But p H H1) (b : But p H1 H2) : But p H H2 := fun q o n h => b q o n (a q o n h)
theorem But.upd {p : Addr} {H : Hp} {o : HO} : But p H (upd H p o) := fun q o n h => by rw [upd_ne n]; exact h
theorem Same.but {p : Addr} {H H1 : Hp} (a : Same H H1) : But p H H1 := fun q o _ h => a q o h
theorem Same.upd {p : Addr} {H : Hp} {o : HO} (n : H p = none) : Same H (upd H p o) := fun q o h => by rw [upd_ne (ne_of_none h n)]; exact h
theorem But.same {p : Addr} {H0 H H1 : Hp} (n : H0 p = none) (a : Same H0 H) (b : But p H H1) : Same H0 H1 := fun q o h => b q o (ne_of_none h n) (a q o h)
/-- a well at p, drawn from at most n times -/
def StN (n : Nat) (H : Hp) (p : Addr) : Prop := ∃ a b c : Int, H p = some (.lst [.int a, .int b, .int c]) ∧ 0 ≤ b ∧ b < 2147483648 ∧ 0 ≤ c ∧ c ≤ n
def StOk (H : Hp) (p : Addr) : Prop := ∃ a b c : Int, H p = some (.lst [.int a, .int b, .int c]) ∧ 0 ≤ b
theorem StN.ok {n : Nat} {H : Hp} {p : Addr} (h : StN n H p) : StOk H p := by
  obtain ⟨a, b, c, e, q, _⟩ := h
  exact ⟨a, b, c, e, q⟩
theorem StN.mono {n m : Nat} {H : Hp} {p : Addr} (h : StN n H p) (l : n ≤ m) : StN m H p := by
  obtain ⟨a, b, c, e, b0, b1, c0, c1⟩ := h
  exact ⟨a, b, c, e, b0, b1, c0, by omega⟩
def spWel : Sp := fun vs H Q _ => ∃ i : Int, vs = [.int i] ∧ ∀ p H', H p = none → Same H H' → StN 0 H' p → Q (.ref p) H'
def spDrw : Sp := fun vs H Q _ => ∃ (p : Addr) (n : Int) (k : Nat), vs = [.ref p, .int n] ∧ StN k H p ∧ k ≤ 1000000 ∧ 0 < n ∧ n < 1073741824 ∧ ∀ (d : Int) H', 0 ≤ d → d < n → But p H H' → StN (k + 1) H' p → Q (.int d) H'
structure TxB (mg : Str → Option Value) : Prop where
  abs : mg "abs" = none
  int : mg "int" = none
  len : mg "len" = none
  range : mg "range" = none
  all : mg "all" = none
  tuple : mg "tuple" = none
  enumerate : mg "enumerate" = none
  isinstance : mg "isinstance" = none
  ve : mg "ValueError" = none
section
variable {P : Program} {w : World} {K : PySem.W.Frag} {mg : Str → Option Value} {base : Heap}
theorem scWel : FnScope ["_law_cell"] ["_law_cell"] (defScope sWel) := ⟨rfl, rfl, rfl, by decide +kernel, rfl, by decide +kernel, by decide +kernel⟩
theorem ok_wel {f : Addr} {fd : FuncData} (F : Fun K "_law_well" "_law_well" sWel f fd) (T : TxB mg) : FnOk P w K mg base CX0 1 f fd ["_law_cell"] spWel := by
  refine F.ok scWel (fun vs H Q E h => ?_) (fun cdv A outer s H vs Q E hr h => ?_)
  · obtain ⟨i, rfl, _⟩ := h
    rfl
  · obtain ⟨i, rfl, k⟩ := h
    refine ⟨_, (pss_one (ps_ret (pe_lst (pa_cons (pe_op op_mul (pv 0) (pe_callTy call_int1 (by rfl) T.int (by decide +kernel) (pa_cons (pe_cmpR op_ge (pv 0) (pe_op op_pow pe_int pe_int) (nomark _)) pa_nil))) (pa_cons (pe_op op_mod (pv 0) pe_int) (pa_cons pe_int pa_nil)))))), ?_⟩
    refine ⟨_, rfl, _, rfl, _, _, rfl, rfl, ⟨by decide, by decide, by decide⟩, _, _, rfl, rfl, .inr ⟨_, rfl, ?_⟩⟩
    refine ⟨_, _, rfl, rfl, .inr ⟨by split <;> decide, by split <;> decide⟩, _, rfl, _, _, rfl, rfl, (by show (0 : Int) < 2147483647; decide), (by show 3 ≤ sizeLine; decide), fun p hp => ?_⟩
    refine k p _ hp (Same.upd hp) ⟨_, _, _, upd_same, ?_, ?_, by decide, by decide⟩
    · exact Int.emod_nonneg i (by decide)
    · have := Int.emod_lt_of_pos i (show (0 : Int) < 2147483647 by decide)
      omega
theorem scDrw : FnScope ["_law_well_here", "_law_many", "_law_found", "_law_number"] ["_law_well_here", "_law_many"] (defScope sDrw) := ⟨rfl, rfl, rfl, by decide +kernel, rfl, by decide +kernel, by decide +kernel⟩
theorem ok_drw {f : Addr} {fd : FuncData} (F : Fun K "_law_draw" "_law_draw" sDrw f fd) : FnOk P w K mg base CX0 1 f fd ["_law_well_here", "_law_many"] spDrw := by
  refine F.ok scDrw (fun vs H Q E h => ?_) (fun cdv A outer s H vs Q E hr h => ?_)
  · obtain ⟨p, n, k, rfl, _⟩ := h
    rfl
  · obtain ⟨p, n, k, rfl, ⟨a, b, c, hp, b0, b1, c0, c1⟩, hk, hn, hn2, kk⟩ := h
    refine ⟨_, (pss_cons (ps_if (pt_cmpR op_gt (pe_ix ix_list (pv 0) pe_int (fun _ _ => rfl)) pe_int (nomark _)) (pss_cons (ps_set (i := 2) scDrw.nd rfl (Or.inl rfl) (pe_op op_mod (pe_ix ix_list (pv 0) pe_int (fun _ _ => rfl)) (pv 1)))
      (pss_cons (ps_asg (pe_op op_fdiv (pe_ix ix_list (pv 0) pe_int (fun _ _ => rfl)) (pv 1)) (pg_sub (pv 0) pe_int set_list))
      (pss_one (ps_ret (pv 2))))) pss_nil)
      (pss_cons (ps_asg (pe_op op_add (pe_ix ix_list (pv 0) pe_int (fun _ _ => rfl)) pe_int) (pg_sub (pv 0) pe_int set_list))
      (pss_cons (ps_set (i := 3) scDrw.nd rfl (Or.inl rfl) (pe_op op_mod (pe_op op_pow (pe_op op_add (pe_op op_add (pe_ix ix_list (pv 0) pe_int (fun _ _ => rfl)) (pe_op op_mul pe_int (pe_ix ix_list (pv 0) pe_int (fun _ _ => rfl)))) pe_int) pe_int) pe_int))
      (pss_cons (ps_set (i := 3) scDrw.nd rfl (Or.inl rfl) (pe_op op_mod (pe_op op_mul (pv 3) (pe_op op_add (pe_op op_fdiv (pv 3) pe_int) pe_int)) pe_int))
      (pss_one (ps_ret (pe_op op_mod (pe_op op_mod (pe_op op_mul (pv 3) (pe_op op_add (pe_op op_fdiv (pv 3) pe_int) pe_int)) pe_int) (pv 1)))))))), ?_⟩
    refine ⟨_, rfl, p, _, _, _, rfl, rfl, SqL.of hp, atI_nat (j := 0) rfl, _, _, rfl, rfl, _, rfl, ?_⟩
    refine ite2 (fun h0 => ?_) (fun h0 => ?_)
    · refine ⟨_, rfl, p, _, _, _, rfl, rfl, SqL.of hp, atI_nat (j := 0) rfl, _, rfl, _, _, rfl, rfl, hn, ?_⟩
      refine ⟨_, rfl, p, _, _, _, rfl, rfl, SqL.of hp, atI_nat (j := 0) rfl, _, rfl, _, _, rfl, rfl, ⟨hn, hn2⟩, _, rfl, p, _, _, 0, rfl, rfl, hp, rfl, _, rfl, ?_⟩
      exact kk _ _ (Int.emod_nonneg a (by omega)) (Int.emod_lt_of_pos a hn) But.upd ⟨_, _, _, upd_same, b0, b1, c0, by omega⟩
    · refine ⟨_, rfl, p, _, _, _, rfl, rfl, SqL.of hp, atI_nat (j := 2) rfl, _, _, rfl, rfl, _, rfl, p, _, _, 2, rfl, rfl, hp, rfl, ?_⟩
      have e1 : (L2.upd H p (.lst ([V.int a, .int b, .int c].set 2 (.int (c + 1))))) p = some (.lst [.int a, .int b, .int (c + 1)]) := upd_same
      have B1 : But p H (L2.upd H p (.lst ([V.int a, .int b, .int c].set 2 (.int (c + 1))))) := But.upd
      generalize L2.upd H p (.lst ([V.int a, .int b, .int c].set 2 (.int (c + 1)))) = H1 at e1 B1
      refine ⟨_, rfl, p, _, _, _, rfl, rfl, SqL.of e1, atI_nat (j := 1) rfl, _, rfl, p, _, _, _, rfl, rfl, SqL.of e1, atI_nat (j := 2) rfl, _, _, rfl, rfl, .inl ⟨by decide, by decide⟩, _, _, rfl, rfl, _, _, rfl, rfl, _, _, rfl, rfl, ?_, _, _, rfl, rfl, (by show (0 : Int) < 2147483647; decide), ?_⟩
      · refine ⟨by decide, by decide, ?_⟩
        show (b + 7919 * (c + 1) + 1).natAbs < 18446744073709551616
        omega
      generalize hx : (b + 7919 * (c + 1) + 1) ^ (3 : Int).toNat % 2147483647 = x
      have x0 : 0 ≤ x := by rw [← hx]; exact Int.emod_nonneg _ (by decide)
      have x1 : x < 2147483647 := by rw [← hx]; exact Int.emod_lt_of_pos _ (by decide)
      refine ⟨_, rfl, _, rfl, _, _, rfl, rfl, ⟨by decide, by decide⟩, _, _, rfl, rfl, _, _, rfl, rfl, .inl ⟨by omega, by omega⟩, _, _, rfl, rfl, (by show (0 : Int) < 2147483629; decide), ?_⟩
      generalize hy : x * (x / 1009 + 69621) % 2147483629 = y
      have y0 : 0 ≤ y := by rw [← hy]; exact Int.emod_nonneg _ (by decide)
      have y1 : y < 2147483629 := by rw [← hy]; exact Int.emod_lt_of_pos _ (by decide)
      refine ⟨_, rfl, _, rfl, _, _, rfl, rfl, ⟨by decide, by decide⟩, _, _, rfl, rfl, _, _, rfl, rfl, .inl ⟨by omega, by omega⟩, _, _, rfl, rfl, (by show (0 : Int) < 2147483587; decide), _, rfl, _, _, rfl, rfl, hn, ?_⟩
      exact kk _ _ (Int.emod_nonneg _ (by omega)) (Int.emod_lt_of_pos _ hn) B1 ⟨a, b, c + 1, e1, b0, b1, by omega, by omega⟩
end
end Wm
namespace Wm
open PySem L2
/-- a def of the module's top -/
structure Dn (K : PySem.W.Frag) (mg : Str → Option Value) (x : Str) (st : Stmt) (ps : List Str) (f : Addr) (fd : FuncData) : Prop where
  F : Fun K x x st f fd
  g : mg x = some (.ref f)
  b : Binds K fd ps []
theorem str_at (z : Str) {i : Int} (h0 : 0 ≤ i) (h1 : i < z.length) : ∃ c, z.cps[i.toNat]? = some c := by
  have h : i.toNat < z.cps.size := by
    have e : z.length = z.cps.size := rfl
    omega
  exact ⟨z.cps[i.toNat], Array.getElem?_eq_getElem h⟩
/-- every sign is one of unicode's -/
def okS (z : Str) : Prop := ∀ c ∈ z.cps.toList, c < 1114112
theorem okS_one {c : Nat} (h : c < 1114112) : okS ⟨#[c]⟩ := fun d hd => by
  have e : d = c := by simpa using hd
  rw [e]
  exact h
theorem okS_app {a b : Str} (ha : okS a) (hb : okS b) : okS (a ++ b) := fun c hc => by
  have e : (a ++ b).cps.toList = a.cps.toList ++ b.cps.toList := by
    show (a.cps ++ b.cps).toList = _
    simp
  rw [e] at hc
  rcases List.mem_append.mp hc with h | h
  · exact ha c h
  · exact hb c h
theorem rdItem {z : Str} {i : Int} {n : Nat} {H : Hp} {Q : VK} (hz : z.length = n) (h0 : 0 ≤ i) (h1 : i < n) (hn : n < 1000000) (h : ∀ c, z.cps.toList[i.toNat]? = some c → Q (.str ⟨#[c]⟩) H) : rIxS (.str z) (.int i) H Q := by
  have h2 : i < z.length := by rw [hz]; exact h1
  obtain ⟨c, hc⟩ := str_at z h0 h2
  have hl : z.cps.toList[i.toNat]? = some c := by simpa using hc
  have e : i = ((i.toNat : Nat) : Int) := by omega
  refine ⟨z, i, c, rfl, rfl, by rw [hz]; exact Nat.le_trans (Nat.le_of_lt hn) (by decide), ?_, h c hl⟩
  rw [e]
  exact atI_nat hl
theorem abcOk : ∀ c ∈ (PySem.Str.ofString "abcdefghijklmnopqrstuvwxyz0123456789").cps.toList, c < 1114112 := by decide +kernel
theorem abc36 : (PySem.Str.ofString "abcdefghijklmnopqrstuvwxyz0123456789").length = 36 := by decide +kernel
theorem len_app (a b : Str) : (a ++ b).length = a.length + b.length := by
  show (a.cps ++ b.cps).size = a.cps.size + b.cps.size
  exact Array.size_append
theorem len_one (c : Nat) : (⟨#[c]⟩ : Str).length = 1 := rfl
section
variable {P : Program} {w : World} {K : PySem.W.Frag} {mg : Str → Option Value} {base : Heap}
end
end Wm
namespace Wm
open PySem L2
theorem strs_at {zs : List Str} {n : Nat} (h : ∀ z ∈ zs, z.length ≤ n) (ho : ∀ z ∈ zs, ∀ c ∈ z.cps.toList, c < 1114112) {j : Nat} (hj : j < zs.length) : ∃ z, (zs.map V.str)[j]? = some (.str z) ∧ z.length ≤ n ∧ okS z :=
  ⟨zs[j], by simp [hj], h _ (List.getElem_mem hj), ho _ (List.getElem_mem hj)⟩
theorem okS_cut {z : Str} (h : okS z) (lo hi : Option Int) : okS (cutS z lo hi) := fun c hc => by
  have hc' : c ∈ (z.cps.toList.drop (HT.sIx z.length 0 lo)).take (HT.sIx z.length z.length hi - HT.sIx z.length 0 lo) := hc
  exact h c (List.mem_of_mem_drop (List.mem_of_mem_take hc'))
theorem okS_join {a : Str} {ys : List Str} (ha : okS a) (h : ∀ y ∈ ys, okS y) : okS (Txt.join a ys) := by
  have e : Txt.join a ys = Str.join a ys := StrLaws.glued_eq_join a ys
  rw [e]
  clear e
  induction ys with
  | nil => exact fun c hc => (List.not_mem_nil (show c ∈ ([] : List Nat) from hc)).elim
  | cons y r ih =>
    cases r with
    | nil => exact h y List.mem_cons_self
    | cons z r =>
      show okS (y ++ a ++ Str.join a (z :: r))
      exact okS_app (okS_app (h y List.mem_cons_self) ha) (ih fun x hx => h x (List.mem_cons_of_mem _ hx))
theorem rdList {K : PySem.W.Frag} {p : Addr} {xs : List V} {i : Int} {j : Nat} {v : V} {H : Hp} {Q : VK} (hp : H p = some (.lst xs)) (e : i = (j : Int)) (hv : xs[j]? = some v) (h : Q v H) : rIxL K (.ref p) (.int i) H Q :=
  ⟨p, xs, i, v, rfl, rfl, SqL.of hp, at_of e hv, h⟩
theorem But.free {p D : Addr} {H H' : Hp} (b : But p H H') (n : D ≠ p) (h : H' D = none) : H D = none := by
  cases e : H D with
  | none => rfl
  | some o =>
    rw [b D o n e] at h
    cases h
theorem sum_ones : ∀ {ys : List Str}, (∀ y ∈ ys, y.length = 1) → (ys.map (·.length)).sum = ys.length
  | [], _ => rfl
  | y :: ys, h => by
    rw [List.map_cons, List.sum_cons, List.length_cons, h y List.mem_cons_self, sum_ones fun z hz => h z (List.mem_cons_of_mem _ hz)]
    omega
theorem join_len (a : Str) (ys : List Str) : (Txt.join a ys).length ≤ (ys.map (·.length)).sum + ys.length * a.length := by
  show (Builtin.Str.glued a ys).length ≤ _
  rw [StrLaws.glued_eq_join]
  exact StrLaws.join_length_le a ys
section
variable {P : Program} {w : World} {K : PySem.W.Frag} {mg : Str → Option Value} {base : Heap}
end
end Wm
namespace Wm
open PySem PySem.Spec PyProof.Rows L2 ClX
section
variable {X : Cx} {CX : CXT} {k : Nat} {C f : Addr} {fd : FuncData} {ps : List Str} {sp : Sp} {E : XK} {e : Expr} {es : List Expr} {t : TA} {x m : Str} {p1 p2 pos : Pos} {ds : List Value} {dvs : List V}
/-- C.f(e, ..), f a def of the class C -/
theorem pe_clsFn {pl : Sem Bool} {mc : Value} (hg : Gl X x) (hm : X.mg x = some (.ref C)) (r : CRead X.K C mc) (ht : PySem.W.findCls X.K (.ref C) mc m = some (.val (.ref f))) (hk : PySem.W.keepIn X.K (.ref f) = true) (F : FnOk X.prog X.w X.K X.mg X.base CX k f fd ps sp)
    (hr : Room k X.A) (hb : Binds X.K fd ps ds) (hd : Vals dvs ds) (hx : Passes CX X E) (ha : PA X (e :: es) t)
    (hc : eval (.Call (.Attribute (.Name x p1) m p2) (e :: es) [] pos) X.env = (do
      let ov ← eval (.Name x p1) X.env
      standAt p2.atName
      let (f, first) ← holding [ov] (getMethod ov m pl)
      callWith pos f first (backTo pos (starEach (e :: es) X.env)) (backToKw pos (keywordEach [] X.env))) := by rfl)
    (hdb : (x == ("__debug__" : Str)) = false := by decide) (he : starEach (e :: es) X.env = (false, eval e X.env) :: starEach es X.env := by rfl) (hpl : (backTo pos (starEach es X.env)).any (·.1) = false := by rfl) :
    PE X (.Call (.Attribute (.Name x p1) m p2) (e :: es) [] pos) (tCall sp dvs E t) := by
  refine ⟨fun pins s σ H Q I h => ?_⟩
  refine PySem.W.methodCall_KW (ld_glob I hg hm ?_ hdb) hc
  refine PySem.W.method_cls I.kIn r.ga (PySem.W.cls_value I.kIn r.rd ht rfl ?_)
  show wpAny _ _ (callWith pos (Value.ref f) [] (backTo pos (starEach (e :: es) X.env)) []) _ _ _
  refine PySem.W.callWith_K (h₀ := X.base) I.ok.mod.kin hk (thn (ha.run pos pins _ σ H _ (I.tok _) h) fun us s1 ⟨vs, H1, I1, r1, q⟩ => ⟨I1.kIn, ?_⟩) he hpl
  exact run_fn F hr hb hd hx I1 r1 q
/-- xs + ys, both to be read -/
def rCatR (K : PySem.W.Frag) : R2 := fun x y H Q => ∃ l b xs zs, x = .ref l ∧ y = .ref b ∧ SqL K H l xs ∧ SqL K H b zs ∧ xs.length + zs.length ≤ sizeLine ∧ ∀ p, H p = none → Q (.ref p) (upd H p (.lst (xs ++ zs)))
theorem op_catR : OpR X (binaryOp .Add) (rCatR X.K) := by
  intro pins s σ H x y v u Q I rx ry h
  obtain ⟨l, b, xs, zs, rfl, rfl, hH, hB, hz, q⟩ := h
  cases rx
  cases ry
  obtain ⟨its, r, e, hl⟩ := I.list hH
  obtain ⟨its2, r2, e2, hl2⟩ := I.list hB
  have l1 := r.length
  have l2 := r2.length
  obtain ⟨⟨cls, dd, data, sl⟩, ho, hc, n, hd⟩ := e.isList
  obtain ⟨⟨cls2, dd2, data2, sl2⟩, ho2, hc2, n2, hd2⟩ := e2.isList
  simp only at hc hd hc2 hd2
  subst hc hd hc2 hd2
  refine concat_meets ⟨_, ho, rfl⟩ ⟨_, ho2, rfl⟩ noFill_list_add seq_list_add PySem.F.slot_list_add PySem.F.entry_list_add (PySem.F.args_list_add_2 _ _) (list_addW l b its.toArray its2.toArray n n2 dd dd2 sl sl2 (by rw [List.size_toArray, List.size_toArray]; omega)) ⟨ho, ho2, ?_⟩
  have ea : its.toArray ++ its2.toArray = (its ++ its2).toArray := by simp
  rw [ea]
  exact ⟨.ref _, _, I.lnew (t' := s.toks) (r.append r2) (by rw [List.length_append]; omega), rfl, q _ I.fresh⟩
end
end Wm
namespace Wm
open PySem PySem.Spec PyProof.Rows L2 ClX
/-- isinstance(e, c) in an except suite, e the exception that it holds (its class D, its dict at dd) -/
def rIsX (K : PySem.W.Frag) (D a dd : Addr) : List V → Hp → VK → Prop := fun xs H Q => ∃ (c : V) (cv : Value) (b : Bool) (fs : List (Str × V)), xs = [.ref a, c] ∧ H dd = some (.xd fs) ∧ (∀ u, RelV c u → u = cv) ∧ PySem.W.kitOne K (.ref D) cv = some b ∧ Q (.bl b) H
theorem call_isX {X : Cx} {a D dd : Addr} {oe : Obj} {pn : List (Addr × Obj)} (C : ExcC X.K D) (hz : Zc (.ref D) (some dd) oe) (hf : ∃ vs, oe.data = .fields vs) : CallR (X.suite a ((a, oe) :: pn)) (.builtin "isinstance") (rIsX X.K D a dd) := by
  intro pins s σ H xs us Q I r h
  obtain ⟨c, cv, b, fs, rfl, hdd, hcv, e, q⟩ := h
  cases r with
  | cons rx rr =>
    cases rr with
    | cons rt rr =>
      cases rr
      cases rx
      have ec := hcv _ rt
      subst ec
      obtain ⟨hget, _⟩ := I.pin (a, oe) (List.mem_append.mpr (.inl List.mem_cons_self))
      obtain ⟨vs, hv⟩ := hf
      have hx : ObjOk X.prog X.w H s.heap dd (.xd fs) := I.hok dd _ hdd
      obtain ⟨mA, hns, hr⟩ := hx
      obtain ⟨od, ho, hl⟩ := lookIn_ns hns
      have J : PySem.W.InstAt s.heap a oe D (some od) := ⟨hget, hz.1, by unfold PySem.W.notCls; rw [hv] <;> rfl, by rw [hz.2]; exact ho⟩
      have hcl : (PySem.W.clsIn X.K D).isSome = true := by
        obtain ⟨cd, hc, _⟩ := PySem.W.any_some C.hd
        rw [hc]
        rfl
      exact PySem.W.kia_one (PySem.W.kitx_exc hcl C.hg C.hk C.hs C.ha C.hn C.ht C.hm) I.kIn J e (fun z => nomatch z) fun tk => ⟨.bl b, H, I.kept (t' := tk) fun _ _ z => z, rfl, q⟩
/-! ### errors of one field -/
def spWI (K : PySem.W.Frag) : Sp := fun vs H Q _ => ∃ (a C : Addr) (v : V), vs = [.ref a, v] ∧ OexC K C ∧ PySem.W.findIn K (.ref C) "kind" = some none ∧ H a = some (exo a C none) ∧ ∀ dx, H dx = none → dx ≠ a → Q .non (upd (upd H dx (exd dx [("kind", v)])) a (exo a C (some dx)))
/-- the dict of an error of one field -/
def ef1 (f kd : Str) (v : V) : List (Str × V) := [(f, v), ("kind", .str kd)]
def spE1 (C : Addr) (f kd : Str) : Sp := fun vs H Q _ => ∃ (a : Addr) (v : V), vs = [.ref a, v] ∧ H a = some (exo a C none) ∧ ∀ dx H', H dx = none → dx ≠ a → (∀ b o, b ≠ a → H b = some o → H' b = some o) → H' a = some (exo a C (some dx)) → H' dx = some (exd dx (ef1 f kd v)) → Q .non H'
/-- what is known of WhoError -/
structure WhoT (K : PySem.W.Frag) (mg : Str → Option Value) (W f0 : Addr) (fd0 : FuncData) : Prop where
  g : mg "WhoError" = some (.ref W)
  r : CRead K W (.type "type")
  m : PySem.W.findCls K (.ref W) (.type "type") "__init__" = some (.val (.ref f0))
  k : PySem.W.keepIn K (.ref f0) = true
  b : Binds K fd0 ["self", "kind"] []
/-- what is known of an error class of one field -/
structure ErrT (K : PySem.W.Frag) (mg : Str → Option Value) (x f : Str) (C fI : Addr) : Prop where
  o : OexC K C
  g : mg x = some (.ref C)
  iC : PySem.W.findIn K (.ref C) "__init__" = some (some (.ref fI))
  tI : PySem.W.typeIn K (.ref fI) = some (.type "function")
  nk : PySem.W.findIn K (.ref C) "kind" = some none
  nf : PySem.W.findIn K (.ref C) f = some none
end Wm
namespace Wm
open PySem L2
section
variable {P : Program} {w : World} {K : PySem.W.Frag} {mg : Str → Option Value} {base : Heap}
theorem scW0 : FnScope ["self", "kind"] ["self", "kind"] (defScope sW0) := ⟨rfl, rfl, rfl, by decide +kernel, rfl, by decide +kernel, by decide +kernel⟩
theorem ok_who {f : Addr} {fd : FuncData} {dvs : List V} (F : FunD K "__init__" "WhoError.__init__" (defArgs sW0) (defBody sW0) (defScope sW0) dvs [] f fd) : FnOk P w K mg base CX0 1 f fd ["self", "kind"] (spWI K) := by
  refine F.ok scW0 (fun vs H Q E h => ?_) (fun cdv A outer s H vs Q E hr h => ?_)
  · obtain ⟨a, C, v, rfl, _⟩ := h
    rfl
  · obtain ⟨a, C, v, rfl, o, nk, ha, k⟩ := h
    refine ⟨_, pss_one (ps_ost (pv 0) (pv 1)), ?_⟩
    exact ⟨_, rfl, _, rfl, a, C, rfl, o, nk, .inl ⟨ha, fun dx n ne => k dx n ne⟩⟩
theorem scN0 : FnScope ["self", "name"] ["self", "name"] (defScope sN0) := ⟨rfl, rfl, rfl, by decide +kernel, rfl, by decide +kernel, by decide +kernel⟩
theorem ok_noname {f C f0 W : Addr} {fd fd0 : FuncData} (F : Fun K "__init__" "NoName.__init__" sN0 f fd) (T : ErrT K mg "NoName" "name" C f) (TW : WhoT K mg W f0 fd0) (G0 : FnOk P w K mg base CX0 1 f0 fd0 ["self", "kind"] (spWI K)) :
    FnOk P w K mg base CX0 2 f fd ["self", "name"] (spE1 C "name" "noname") := by
  refine F.ok scN0 (fun vs H Q E h => ?_) (fun cdv A outer s H vs Q E hr h => ?_)
  · obtain ⟨a, v, rfl, _⟩ := h
    rfl
  · obtain ⟨a, v, rfl, ha, k⟩ := h
    refine ⟨_, pss_cons (ps_expr (pe_clsFn rfl TW.g TW.r TW.m TW.k G0 hr TW.b .nil pass0 (pa_cons (pv 0) (pa_cons pe_str pa_nil)))) (pss_one (ps_ost (pv 0) (pv 1))), ?_⟩
    refine ⟨_, rfl, a, C, _, rfl, T.o, T.nk, ha, fun dx n ne => ?_⟩
    refine ⟨_, rfl, _, rfl, a, C, rfl, T.o, T.nf, .inr ⟨dx, _, upd_same, Eq.trans (upd_ne ne) upd_same, by decide, ?_⟩⟩
    refine k dx _ n ne (fun b o nb e => ?_) ?_ upd_same
    · have nd : b ≠ dx := ne_of_none e n
      rw [upd_ne nd, upd_ne nb, upd_ne nd]
      exact e
    · rw [upd_ne ne.symm, upd_same]
end
end Wm
namespace Wm
open PySem L2
/-! ### names -/
def LET : List Nat := (PySem.Str.ofString "abcdefghijklmnopqrstuvwxyz").cps.toList
def FIG : List Nat := (PySem.Str.ofString "0123456789").cps.toList
def okc (c : Nat) : Bool := decide (c ∈ LET) || decide (c ∈ FIG)
def first (l : List Nat) : Bool := match l with
  | [] => false
  | c :: _ => decide (c ∈ LET)
def isNm (z : Str) : Bool := decide (1 ≤ z.length) && (decide (z.length ≤ 12) && (first z.cps.toList && z.cps.toList.all okc))
theorem alnum : (PySem.Str.ofString "abcdefghijklmnopqrstuvwxyz0123456789").cps.toList = LET ++ FIG := by decide +kernel
theorem let_fig : ∀ c ∈ LET, ¬ c ∈ FIG := by decide +kernel
theorem okc_alnum (c : Nat) : decide (c ∈ (PySem.Str.ofString "abcdefghijklmnopqrstuvwxyz0123456789").cps.toList) = okc c := by
  rw [alnum]
  unfold okc
  by_cases h : c ∈ LET <;> by_cases h2 : c ∈ FIG <;> simp [h, h2]
theorem len_eq (z : Str) : z.length = z.cps.toList.length := by
  show z.cps.size = _
  simp
theorem isNm_small {z : Str} (h : z.length < 1 ∨ 12 < z.length) : isNm z = false := by
  unfold isNm
  rcases h with h | h
  · rw [decide_eq_false (by omega)]
    rfl
  · rw [decide_eq_false (p := z.length ≤ 12) (by omega)]
    simp
theorem isNm_first {z : Str} {c : Nat} (h1 : z.cps.toList[0]? = some c) (hc : ¬ c ∈ LET) : isNm z = false := by
  unfold isNm
  have e : first z.cps.toList = false := by
    cases q : z.cps.toList with
    | nil => rfl
    | cons d r =>
      rw [q] at h1
      have e : d = c := Option.some.inj h1
      rw [e]
      exact decide_eq_false hc
  rw [e]
  simp
theorem isNm_all {z : Str} {c : Nat} (h0 : ¬ z.length < 1) (h12 : ¬ 12 < z.length) (h1 : z.cps.toList[0]? = some c) (hc : c ∈ LET) : isNm z = z.cps.toList.all okc := by
  unfold isNm
  have e : first z.cps.toList = true := by
    cases q : z.cps.toList with
    | nil =>
      rw [q] at h1
      cases h1
    | cons d r =>
      rw [q] at h1
      have e : d = c := Option.some.inj h1
      rw [e]
      exact decide_eq_true hc
  rw [e, decide_eq_true (by omega), decide_eq_true (by omega)]
  rfl
theorem isNm_fig {z : Str} {c : Nat} (h1 : z.cps.toList[0]? = some c) (hc : c ∈ FIG) : isNm z = false := isNm_first h1 fun h => let_fig c h hc
theorem isNm_all2 {z : Str} {c : Nat} (h0 : ¬ z.length < 1) (h12 : ¬ 12 < z.length) (h1 : z.cps.toList[0]? = some c) (hc : ¬ c ∈ FIG) : isNm z = z.cps.toList.all okc := by
  by_cases h : c ∈ LET
  · exact isNm_all h0 h12 h1 h
  · rw [isNm_first h1 h]
    have hm : c ∈ z.cps.toList := List.mem_of_getElem? h1
    have e : okc c = false := by
      unfold okc
      rw [decide_eq_false h, decide_eq_false hc]
      rfl
    symm
    rw [List.all_eq_false]
    exact ⟨c, hm, by rw [e]; decide⟩
theorem all_map {l : List Nat} {f : Nat → Bool} : (l.map f).all id = l.all f := by
  induction l with
  | nil => rfl
  | cons a r ih => rw [List.map_cons, List.all_cons, List.all_cons, ih]; rfl
def spName : Sp := fun vs H Q _ => ∃ z : Str, vs = [.str z] ∧ z.length ≤ 1000 ∧ ∀ H', Same H H' → Q (.bl (isNm z)) H'
/-- the constants of names.py -/
structure TxN (mg : Str → Option Value) : Prop where
  lets : ∃ t, mg "LETTERS" = some (.str (PySem.Str.ofString "abcdefghijklmnopqrstuvwxyz") t)
  figs : ∃ t, mg "FIGURES" = some (.str (PySem.Str.ofString "0123456789") t)
  long : ∃ t, mg "LONGEST_NAME" = some (.int 12 t)
/-- the reading of [f(sign) for sign in text] -/
theorem lc_signs {z : Str} {f : Nat → Bool} {g : TG} {te : TE} {vs : List Nat} {σ : St} {H1 : Hp} {D : Addr} {Qd : Hp → Prop} (hz : z.length ≤ 1000) (hD : H1 D = none)
    (he : ∀ (c : Nat) (H : Hp) (Q : St → Hp → Prop), (∀ σ2, wipe σ2 vs = wipe σ vs → (∀ Q2 : VK, Q2 (.bl (f c)) H → te σ2 H Q2) → Q σ2 H) → g (.str ⟨#[c]⟩) (wipe σ vs) H Q)
    (hd : ∀ H, Same H1 H → H D = some (.lst ((z.cps.toList.map f).map V.bl)) → Qd H) :
    ∃ W : Nat → Nat → Hp → Prop, (∃ m, W 0 m (upd H1 D (.lst []))) ∧ ∀ i m H, W i m H →
      ((Its z).stop i H ∧ Qd H) ∨ ((Its z).go i H ∧ ∃ Nx : Hp → Prop, (∀ H', Nx H' → ∃ m', m' < m ∧ W (i + 1) m' H') ∧ ∀ x H', (Its z).yld i H x H' → g x (wipe σ vs) H' fun σ2 H2 => wipe σ2 vs = wipe σ vs ∧ tYes σ2 H2 fun b H3 =>
        if b = true then te σ2 H3 fun y H4 => ∃ acc, H4 D = some (.lst acc) ∧ acc.length < sizeLine ∧ Nx (upd H4 D (.lst (acc ++ [y]))) else Nx H3) := by
  refine lc_it (walk_str (z := z)) (fun i H' => Same H1 H' ∧ H' D = some (.lst (((z.cps.toList.take i).map f).map V.bl))) ⟨Same.upd hD, upd_same⟩ (fun _ _ _ _ => True.intro) ?_ ?_
  · rintro i x H H' hi ⟨hS, hl⟩ ⟨rfl, c, hc, rfl⟩
    refine he c H' _ fun σ2 hw hq => ⟨hw, hq _ ?_⟩
    refine ⟨_, hl, ?_, ?_, ?_⟩
    · rw [List.length_map, List.length_map, List.length_take]
      have e := len_eq z
      exact Nat.lt_of_le_of_lt (show _ ≤ 1000 by omega) (by decide)
    · intro b o h
      have nb : b ≠ D := ne_of_none h hD
      rw [upd_ne nb]
      exact hS b o h
    · rw [upd_same]
      have e : z.cps.toList[i]? = some c := by simpa using hc
      have hlt : i < z.cps.toList.length := (List.getElem?_eq_some_iff.mp e).1
      rw [List.take_add_one, e, List.map_append, List.map_append]
      rfl
  · rintro H ⟨hS, hl⟩
    refine hd H hS ?_
    rw [hl, List.take_of_length_le (by simp)]
section
variable {P : Program} {w : World} {K : PySem.W.Frag} {mg : Str → Option Value} {base : Heap}
theorem scName : FnScope ["text", "sign"] ["text"] (defScope sName) := ⟨rfl, rfl, rfl, by decide +kernel, rfl, by decide +kernel, by decide +kernel⟩
theorem ok_name {f : Addr} {fd : FuncData} (F : Fun K "is_name" "is_name" sName f fd) (T : TxB mg) (TN : TxN mg) : FnOk P w K mg base CX0 1 f fd ["text"] spName := by
  obtain ⟨t1, hlet⟩ := TN.lets
  obtain ⟨t2, hfig⟩ := TN.figs
  obtain ⟨t3, hlong⟩ := TN.long
  refine F.ok scName (fun vs H Q E h => ?_) (fun cdv A outer s H vs Q E hr h => ?_)
  · obtain ⟨z, rfl, _⟩ := h
    rfl
  · obtain ⟨z, rfl, hz, k⟩ := h
    have hzl : z.length ≤ sizeLine := Nat.le_trans hz (by decide)
    refine ⟨_, (pss_cons (ps_if (PW.pt (pw_or (pt_cmpR op_lt (pe_callB call_len_str (by rfl) T.len (by decide +kernel) (pa_cons (pv 0) pa_nil)) pe_int (nomark _)) (pw_or1 (pt_cmpR op_gt (pe_callB call_len_str (by rfl) T.len (by decide +kernel) (pa_cons (pv 0) pa_nil)) (pe_glob (v := .int 12) (by rfl) hlong ⟨_, rfl⟩) (nomark _))))) (pss_one (ps_ret pe_bl)) pss_nil)
      (pss_cons (ps_if (pt_cmpR op_notIn_sign (pe_ix ix_str (pv 0) pe_int (fun _ _ => rfl)) (pe_glob (v := .str (PySem.Str.ofString "abcdefghijklmnopqrstuvwxyz")) (by rfl) hlet ⟨_, rfl⟩) (by rfl)) (pss_one (ps_ret pe_bl)) pss_nil)
      (pss_one (ps_ret (pe_callB (cr_all rfl) (by rfl) T.all (by decide +kernel) (pa_cons (pe_lc (own := [("sign", 1)]) (g := gName 1) rfl scName.nd (pi_str (pv 0)) (blkOk_by (N := ["text", "sign"]) (sc := defScope sName) (by decide +kernel)) (fun _ _ _ _ _ => (pg_name (i := 1) scName.nd rfl (Or.inl rfl))) (fun _ _ _ _ _ => pts_nil) (fun _ _ _ _ _ => (pe_or (pe_cmpR op_in_sign (pv 1) (pe_glob (v := .str (PySem.Str.ofString "abcdefghijklmnopqrstuvwxyz")) (by rfl) hlet ⟨_, rfl⟩) (by rfl)) (pe_one (pe_cmpR op_in_sign (pv 1) (pe_glob (v := .str (PySem.Str.ofString "0123456789")) (by rfl) hfig ⟨_, rfl⟩) (by rfl)))))) pa_nil)))))), ?_⟩
    refine ⟨_, rfl, z, rfl, hzl, _, _, rfl, rfl, _, rfl, ?_⟩
    refine ite2 (fun h1 => ?_) (fun h1 => ?_)
    · have h1' : (z.length : Int) < 1 := of_decide_eq_true h1
      refine iteT ?_
      have e : isNm z = false := isNm_small (.inl (by omega))
      have q := k H (Same.refl H)
      rw [e] at q
      exact q
    refine ⟨_, rfl, z, rfl, hzl, _, _, rfl, rfl, _, rfl, ?_⟩
    refine ite2 (fun h2 => ?_) (fun h2 => ?_)
    · have h2' : (12 : Int) < z.length := of_decide_eq_true h2
      have e : isNm z = false := isNm_small (.inr (by omega))
      have q := k H (Same.refl H)
      rw [e] at q
      exact q
    have h1' : ¬ z.length < 1 := fun x => h1 (decide_eq_true (by omega))
    have h2' : ¬ 12 < z.length := fun x => h2 (decide_eq_true (by omega))
    refine ⟨_, rfl, ?_⟩
    dsimp only [tC]
    refine rdItem (n := z.length) rfl (by decide) (by omega) (by omega) fun c hc => ?_
    refine ⟨c, _, rfl, rfl, _, rfl, ?_⟩
    refine ite2 (fun h3 => ?_) (fun h3 => ?_)
    · have h3' : ¬ c ∈ LET := fun x => by
        rw [show decide (c ∈ (PySem.Str.ofString "abcdefghijklmnopqrstuvwxyz").cps.toList) = true from decide_eq_true x] at h3
        cases h3
      have q := k H (Same.refl H)
      rw [isNm_first hc h3'] at q
      exact q
    have h3' : c ∈ LET := by
      by_cases x : c ∈ LET
      · exact x
      · rw [show decide (c ∈ (PySem.Str.ofString "abcdefghijklmnopqrstuvwxyz").cps.toList) = false from decide_eq_false x] at h3
        exact absurd rfl h3
    refine ⟨_, rfl, z, rfl, fun D hD => ?_⟩
    refine lc_signs (z := z) (f := okc) hz hD (fun c H Q q => ?_) fun H' hS hl => ?_
    · refine q _ rfl fun Q2 q2 => ?_
      refine ⟨_, rfl, c, _, rfl, rfl, _, rfl, ?_⟩
      unfold okc at q2
      refine ite2 (fun h => ?_) (fun h => ?_)
      · have h' : decide (c ∈ LET) = true := h
        rw [h'] at q2
        exact q2
      · have h' : decide (c ∈ LET) = false := Bool.eq_false_iff.mpr h
        rw [h'] at q2
        exact ⟨_, rfl, c, _, rfl, rfl, q2⟩
    · refine ⟨D, _, rfl, SqL.of hl, ?_⟩
      have q := k H' hS
      rw [isNm_all h1' h2' hc h3', ← all_map] at q
      exact q
end
end Wm
namespace Wm
open PySem L2
theorem mk1 {C : Addr} {f kd : Str} {v : V} {H : Hp} {Q : XK} (k : ∀ d H', H d = none → Same H H' → H' d = some (.xd (ef1 f kd v)) → Q (.ref C) (some d) H') :
    [v].length ≤ 1000 ∧ ∀ a, H a = none → spE1 C f kd (.ref a :: ([v] ++ [])) (upd H a (exo a C none)) (fun u H2 => u = .non ∧ ∃ (d : Addr) (fs : List (Str × V)), H2 a = some (exo a C (some d)) ∧ H2 d = some (exd d fs) ∧ H d = none ∧ Q (.ref C) (some d) (upd (del H2 a) d (.xd fs))) (fun _ _ _ => False) := by
  refine ⟨by show 1 ≤ 1000; decide, fun a na => ⟨a, v, rfl, upd_same, fun dx H' n ne kp ha hd => ⟨rfl, dx, _, ha, hd, ?_, ?_⟩⟩⟩
  · rw [upd_ne ne] at n
    exact n
  · rw [upd_ne ne] at n
    refine k dx _ n (fun b o e => ?_) upd_same
    have nb : b ≠ a := ne_of_none e na
    rw [upd_ne (ne_of_none e n), del_ne nb]
    exact kp b o nb (by rw [upd_ne nb]; exact e)
/-- what is due of the first text that is no name -/
def DueN (C : Addr) (zs : List Str) (H : Hp) (Q : VK) (E : XK) : Prop := match zs.find? (fun z => !isNm z) with
  | none => ∀ H', Same H H' → Q .non H'
  | some z => ∀ d H', H d = none → Same H H' → H' d = some (.xd (ef1 "name" "noname" (.str z))) → E (.ref C) (some d) H'
def spRN (K : PySem.W.Frag) (C : Addr) : Sp := fun vs H Q E => ∃ (l : Addr) (zs : List Str), vs = [.ref l] ∧ SqL K H l (zs.map V.str) ∧ zs.length ≤ 1000 ∧ (∀ z ∈ zs, z.length ≤ 1000) ∧ DueN C zs H Q E
theorem find_none_take {zs : List Str} {i : Nat} {z : Str} {p : Str → Bool} (h : ∀ y ∈ zs.take i, p y = false) (e : zs[i]? = some z) (hz : p z = true) : zs.find? p = some z := by
  have hlt : i < zs.length := (List.getElem?_eq_some_iff.mp e).1
  have e2 : zs = zs.take i ++ z :: zs.drop (i + 1) := by
    have q := List.take_append_drop i zs
    have q2 := List.drop_eq_getElem_cons hlt
    have q3 : zs[i] = z := (List.getElem?_eq_some_iff.mp e).2
    rw [q2, q3] at q
    exact q.symm
  rw [e2, List.find?_append]
  have n : (zs.take i).find? p = none := by
    rw [List.find?_eq_none]
    intro y hy
    rw [h y hy]
    decide
  rw [n]
  simp [hz]
section
variable {P : Program} {w : World} {K : PySem.W.Frag} {mg : Str → Option Value} {base : Heap}
theorem scRN : FnScope ["texts", "text"] ["texts"] (defScope sRN) := ⟨rfl, rfl, rfl, by decide +kernel, rfl, by decide +kernel, by decide +kernel⟩
theorem ok_rn {f fN C fI : Addr} {fd fdN fdI : FuncData} (F : Fun K "refuse_no_name" "refuse_no_name" sRN f fd) (D : Dn K mg "is_name" sName ["text"] fN fdN) (GN : FnOk P w K mg base CX0 1 fN fdN ["text"] spName) (TE : ErrT K mg "NoName" "name" C fI) (bI : Binds K fdI ["self", "name"] [])
    (GI : FnOk P w K mg base CX0 2 fI fdI ["self", "name"] (spE1 C "name" "noname")) : FnOk P w K mg base (L2.CX P w) 4 f fd ["texts"] (spRN K C) := by
  refine F.okX scRN (fun vs H Q E h => ?_) (fun cdv A outer s H vs Q E hr h => ?_)
  · obtain ⟨l, zs, rfl, _⟩ := h
    rfl
  · obtain ⟨l, zs, rfl, hl, hn, hz, k⟩ := h
    have hr1 : Room 1 _ := hr.mono (by decide)
    refine ⟨_, (pss_one (ps_for (passes_of rfl) rfl (pi_list (pv 0)) (pg_name (i := 1) scRN.nd rfl (Or.inl rfl)) (pss_one (ps_if (pt_not (pt_val (pe_call GN hr1 rfl D.g D.F.kp D.b .nil pass0 (pa_cons (pv 1) pa_nil)))) (pss_one (ps_raise rfl (takes_of rfl rfl rfl rfl) (pmk_oex TE.o TE.iC TE.tI GI hr bI .nil pass0 rfl TE.g (pa_cons (pv 1) pa_nil)))) pss_nil)))), ?_⟩
    refine ⟨_, rfl, l, rfl, ⟨_, hl⟩, for_list (K := K) (a := l) (xs := zs.map V.str) (fun i σ H' => ∃ v, σ = [some (.ref l), v] ∧ Same H H' ∧ ∀ y ∈ zs.take i, (!isNm y) = false) ⟨none, rfl, Same.refl H, fun y hy => (List.not_mem_nil hy).elim⟩
      (fun i σ H' _ ⟨_, _, hS, _⟩ => hS.seq hl) ?_ ?_⟩
    · rintro i y σ H' hi ⟨v, rfl, hS, hno⟩
      obtain ⟨z, hzi, rfl⟩ : ∃ z, zs[i]? = some z ∧ y = V.str z := by
        rw [List.getElem?_map] at hi
        cases e : zs[i]? with
        | none =>
          rw [e] at hi
          cases hi
        | some z =>
          rw [e] at hi
          exact ⟨z, rfl, (Option.some.inj hi).symm⟩
      refine ⟨_, rfl, z, rfl, hz z (List.mem_of_getElem? hzi), fun H2 hS2 => ⟨_, rfl, ?_⟩⟩
      refine ite2 (fun h => ?_) (fun h => ?_)
      · refine ⟨_, rfl, ?_⟩
        have e := find_none_take hno hzi h
        unfold DueN at k
        rw [e] at k
        refine mk1 fun d H3 hd hS3 hx => k d H3 (hS.free (hS2.free hd)) (hS.trans (hS2.trans hS3)) hx
      · refine ⟨_, rfl, hS.trans hS2, fun y hy => ?_⟩
        rw [List.take_add_one, hzi] at hy
        rcases List.mem_append.mp hy with hy | hy
        · exact hno y hy
        · have e : y = z := by simpa using hy
          rw [e]
          exact Bool.eq_false_iff.mpr h
    · rintro σ H' ⟨v, rfl, hS, hno⟩
      have e : zs.find? (fun z => !isNm z) = none := by
        rw [List.find?_eq_none]
        intro y hy
        rw [List.length_map, List.take_length] at hno
        rw [hno y hy]
        decide
      unfold DueN at k
      rw [e] at k
      exact k H' hS
end
end Wm
namespace Wm
open PySem PySem.Spec PyProof.Rows L2
/-- enumerate(v): its two new cells -/
theorem meets_enum1 {v : Value} {o : Obj} {H : Heap → Prop} (B : Begins v o H) :
    Meets (Builtin.«enumerate.__new__» ⟨[.type "enumerate", v], []⟩) (fun _ R s => H s.heap ∧
      R (.ok (.ret (.ref (s.heap.push o).objs.size))) { s with heap := (s.heap.push o).push { cls := .type "enumerate", data := .fields #[.none, .bool false, .ref s.heap.objs.size, rawInt 0, .none, .none] } }) :=
  .of_wp fun prog w A R s hh => by
    obtain ⟨hp, g, d, tk, os⟩ := s
    obtain ⟨h1, h⟩ := hh
    have hsub := sub_enumerate
    have q1 : ∀ {A' : Around} {E : Value → Shared → Prop} {Q : Value → Shared → Prop}, Q (.ref hp.objs.size) ⟨hp.push o, g, d, tk, os⟩ → wpAny (model prog w) A' (pyIter v) Q E ⟨hp, g, d, tk, os⟩ := fun q => B.iter prog w _ _ ⟨hp, g, d, tk, os⟩ _ h1 q
    wp_walk using q1
    refine wpAny_stack_any fun stk => wpAny_pure ?_
    split
    · rename_i c _ _ _ _ _
      cases (c == Value.type "enumerate") <;> (wp_walk using q1; exact ⟨_, rfl, h⟩)
    · wp_walk using q1
      exact ⟨_, rfl, h⟩
theorem call_enum_tup {prog : Program} {w : World} {A : Around} {E : Value → Shared → Prop} {s : Shared} {t : Addr} {items : Array Value} {Q : Value → Shared → Prop} (hL : s.heap.IsTuple t items)
    (h : ∀ h', IsEnum h' (s.heap.objs.size + 1) s.heap.objs.size 0 .none → h'.IsTupleIter s.heap.objs.size t 0 → (∀ b o, s.heap.get? b = some o → h'.get? b = some o) → Q (.ref (s.heap.objs.size + 1)) { s with heap := h' }) :
    wpAny (model prog w) A (call (.type "enumerate") [.ref t]) Q E s := by
  refine callType_new F.called_enumerate (by decide) (F.typeCall_enumerate_1 _) (F.newCall_enumerate_1 _) (fun obj => F.args_object_init_2 obj _) F.entry_enumerate_new (meets_enum1 (begins_tuple t items)) ⟨hL, ?_⟩
  generalize ho : ({ cls := .type "tuple_iterator", data := .fields #[.ref t, .int 0 0] } : Obj) = o
  have hz : (s.heap.push o).objs.size = s.heap.objs.size + 1 := Heap.size_push ..
  show _ ∧ _
  rw [hz]
  generalize he : ({ cls := .type "enumerate", data := .fields #[.none, .bool false, .ref s.heap.objs.size, rawInt 0, .none, .none] } : Obj) = eo
  have h2 : ((s.heap.push o).push eo).get? (s.heap.objs.size + 1) = some eo := by
    have q := Heap.get?_push_size (s.heap.push o) (o := eo) (by rw [← he]; rfl)
    rw [hz] at q
    exact q
  have h3 : ((s.heap.push o).push eo).get? s.heap.objs.size = some o := Heap.get?_push_of_some _ (Heap.get?_push_size _ (by rw [← ho]; rfl))
  refine ⟨⟨_, h2, by rw [← he]⟩, h _ ?_ ⟨o, h3, by rw [← ho], by rw [← ho]; rfl⟩ fun b o x => Heap.get?_push_of_some _ (Heap.get?_push_of_some _ x)⟩
  show ((s.heap.push o).push eo).get? (s.heap.objs.size + 1) = some _
  rw [h2, ← he]
/-- the tuple at a, each item in a new pair -/
def IteT (K : PySem.W.Frag) (a : Addr) (xs : List V) : It :=
  ⟨fun i H => SqT K H a xs ∧ i < xs.length, fun i H v H' => ∃ T x, v = .ref T ∧ H T = none ∧ H' = upd H T (.tup [.int (i : Nat), x]) ∧ xs[i]? = some x, fun i H => SqT K H a xs ∧ i = xs.length⟩
theorem turn_enumT {P : Program} {w : World} {K : PySem.W.Frag} {elts : List Expr} {kk : Nat} {tpos : Pos} {xs : List V} (a e it : Addr) (his : List Value) :
    Turn P w K (.Tuple elts kk tpos) (IteT K a xs) [e, it] e (fun i h => (∃ old, IsEnum h e it ((i : Nat) : Int) old) ∧ h.IsTupleIter it a i ∧ e ≠ it ∧ a ≠ it ∧ a ≠ e) where
  mem := by simp
  obj := fun i h st b hb => by
    obtain ⟨⟨old, he⟩, ⟨o, ho, hc, hd⟩, _⟩ := st
    rcases (show b = e ∨ b = it by simpa using hb) with z | z
    · rw [z]
      exact ⟨_, he, fun v q => nomatch q⟩
    · rw [z]
      exact ⟨o, ho, fun v q => by rw [hd] at q; cases q⟩
  keep := fun i h h' st k => let ⟨⟨old, he⟩, hi, hne⟩ := st; ⟨⟨old, k e (by simp) _ he⟩, hi.at fun o q => k it (by simp) o q, hne⟩
  item := by
    intro X hP hw hK hc i pins s σ H E I hf st hg
    subst hP hw hK
    obtain ⟨⟨old, he⟩, hit, hne, nai, nae⟩ := st
    obtain ⟨hq, hlt⟩ := hg
    obtain ⟨its, rv, p, hz⟩ := I.tuple hq
    have hlen := rv.length
    have hel : e < s.heap.objs.size := Heap.lt_size he
    have hil : it < s.heap.objs.size := by obtain ⟨_, q, _⟩ := hit; exact Heap.lt_size q
    have D : Draws X.prog X.w X.A.in1 it [it, a] its.toArray.size (fun i v => its.toArray[i]? = some v) (fun i h => h.IsTupleIter it a i ∧ h.IsTuple a its.toArray) := Draws.tuple (A := X.A.in1) (show X.A.in1.handled = none from I.ok.hd hc) it a nai its.toArray
    refine wpAny_pyNext_enum_itemC D he ⟨hit, p⟩ (by rw [List.size_toArray]; omega) hne (by simp [hne, Ne.symm nae]) fun u h' tk hu ho hst' hT hsz hk => ?_
    have hu' : its[i]? = some u := by simpa using hu
    obtain ⟨x, hx, ru⟩ : ∃ x, xs[i]? = some x ∧ RelV x u := by
      obtain ⟨u2, h2, r2⟩ := rv.get (List.getElem?_eq_getElem hlt)
      rw [hu'] at h2
      cases h2
      exact ⟨_, List.getElem?_eq_getElem hlt, r2⟩
    refine ⟨_, rfl, wpAny_letOwnedTupleGo_enum (s := { s with heap := h', toks := tk + 1 }) ho fun h'' he' sb => ?_⟩
    have hT2 : h''.get? s.heap.objs.size = some { cls := .type "tuple", data := .seq #[.int i tk, u] } := (sb.2 _ (Nat.ne_of_gt hel)).trans hT
    have new : ObjOk X.prog X.w (upd H s.heap.objs.size (.tup [.int (i : Nat), x])) h'' s.heap.objs.size (.tup [.int (i : Nat), x]) := ⟨by show 2 ≤ sizeLine; decide, [.int i tk, u], .cons ⟨_, rfl⟩ (.cons ru .nil), ⟨_, hT2, rfl, _, rfl⟩⟩
    have I1 : Inv X pins σ (upd H s.heap.objs.size (.tup [.int (i : Nat), x])) { s with heap := h'', toks := tk + 1 } :=
      I.turnedNew (ch := [e, it]) (fun b ob hb q => (sb.2 b (fun z => hb (by simp [z]))).trans (hk b ob (fun z => hb (by simp [z])) (fun z => hb (by simp [z])) q)) hf (Nat.le_refl _) new
    refine ⟨.ref s.heap.objs.size, _, I1, rfl, ⟨_, x, rfl, I.hok.fresh (Nat.le_refl _), rfl, hx⟩, ⟨⟨u, ?_⟩, hst'.1.at fun o q => (sb.2 it (Ne.symm hne)).trans q, hne, nai, nae⟩, fun b hb => ?_⟩
    · have e1 : ((i + 1 : Nat) : Int) = (i : Int) + 1 := by omega
      rw [e1]
      exact he'
    · have hb' : b < s.heap.objs.size := by
        rcases (show b = e ∨ b = it by simpa using hb) with z | z
        · rw [z]; exact hel
        · rw [z]; exact hil
      rw [upd_ne (Nat.ne_of_lt hb')]
      exact (hf b hb).1
  done := by
    intro X hP hw hK hc i pins s σ H E I hf st hg
    subst hP hw hK
    obtain ⟨⟨old, he⟩, hit, hne, nai, nae⟩ := st
    obtain ⟨hq, hi⟩ := hg
    obtain ⟨its, rv, p, hz⟩ := I.tuple hq
    have hlen := rv.length
    obtain ⟨f0, f1, f2, f3, f4, f5⟩ := hf it (by simp)
    have D : Draws X.prog X.w X.A.in1 it [it, a] its.toArray.size (fun i v => its.toArray[i]? = some v) (fun i h => h.IsTupleIter it a i ∧ h.IsTuple a its.toArray) := Draws.tuple (A := X.A.in1) (show X.A.in1.handled = none from I.ok.hd hc) it a nai its.toArray
    have en : i = its.toArray.size := by rw [List.size_toArray]; omega
    rw [en] at he hit
    exact wpAny_pyNext_enum_endD D he ⟨hit, p⟩ fun h' eb => ⟨rfl, I.turned (t' := s.toks) (fun b o hb q => eb b o hb q) f0 f1 f3 f4 f5⟩
  self := fun A i s Q E st h => let ⟨⟨_, he⟩, _⟩ := st; wpAny_pyIter_enum he h
def iEnumT (K : PySem.W.Frag) (ta : TA) : TI := fun σ H R => ta σ H fun vs H1 => ∃ a xs, vs = [.ref a] ∧ SqT K H1 a xs ∧ R (IteT K a xs) H1
theorem pi_enumT {X : Cx} {e : Expr} {ta : TA} {p pos tpos : Pos} {elts : List Expr} {kk : Nat} (hg : Gl X "enumerate") (hm : X.mg "enumerate" = none) (ha : PA X [e] ta) (hs : starEach [e] X.env = [(false, eval e X.env)] := by rfl) :
    PI X (.Tuple elts kk tpos) (.Call (.Name "enumerate" p) [e] [] pos) (iEnumT X.K ta) := by
  refine ⟨fun pins s σ H R I h => ?_⟩
  refine Call_ (ld_blt I hg hm boot_enumerate (PyProof.Rows.callWith_type1 (thn (ha.run pos pins s σ H _ I h) fun us s1 ⟨vs, H1, I1, r1, a, xs, ex, hq, q⟩ => ?_) hs rfl))
  subst ex
  cases r1 with
  | cons r rr =>
    cases rr
    cases r
    obtain ⟨its, rv, p', hz⟩ := I1.tuple hq
    have hal : a < s1.heap.objs.size := by obtain ⟨_, z, _⟩ := p'; exact Heap.lt_size z
    refine call_enum_tup (items := its.toArray) p' fun h' he hit hk => wpAny_pyIter_enum he ?_
    have I2 : Inv X pins σ H1 { s1 with heap := h' } := I1.kept (t' := s1.toks) hk
    refine ⟨s1.heap.objs.size + 1, [s1.heap.objs.size + 1, s1.heap.objs.size], _, _, H1, rfl, I2, turn_enumT a (s1.heap.objs.size + 1) s1.heap.objs.size its, ⟨⟨.none, he⟩, hit, Nat.succ_ne_self _, Nat.ne_of_lt hal, Nat.ne_of_lt (Nat.lt_succ_of_lt hal)⟩, fun b hb => ?_, q⟩
    have hle : s1.heap.objs.size ≤ b := by
      rcases (show b = s1.heap.objs.size + 1 ∨ b = s1.heap.objs.size by simpa using hb) with z | z
      · rw [z]; exact Nat.le_add_right _ _
      · rw [z]; exact Nat.le_refl _
    exact I1.fpOk hle (I1.hok.fresh hle)
theorem walk_enumT {K : PySem.W.Frag} {a : Addr} {xs : List V} : Walk (IteT K a xs) xs.length (fun H => SqT K H a xs) (YPair (fun i => some (.int (i : Nat))) (fun i => xs[i]?)) := by
  refine ⟨fun i _ hi q => ⟨q, hi⟩, fun _ q => ⟨q, rfl⟩, fun i H v H' _ q y => ?_⟩
  obtain ⟨T, x, h1, h2, h3, h4⟩ := y
  exact ⟨T, .int (i : Nat), x, h1, h2, h3, rfl, h4⟩
end Wm
namespace Wm
open PySem L2
/-- the outer walk of a comprehension of two clauses -/
theorem lc2_it {J : It} {n : Nat} {G : Hp → Prop} {Y : Nat → Hp → V → Hp → Prop} (w : Walk J n G Y) {g : TG} {vs : List Nat} {σ : St} {H1 : Hp} {D : Addr} {Qd : Hp → Prop} {inner : St → Hp → (Hp → Prop) → Prop} (Pv : Nat → Hp → Prop) (h0 : Pv 0 (upd H1 D (.lst []))) (hG : ∀ i H, i ≤ n → Pv i H → G H)
    (hs : ∀ i x H H', i < n → Pv i H → Y i H x H' → g x (wipe σ vs) H' fun σ2 H2 => wipe σ2 vs = wipe σ vs ∧ inner σ2 H2 (Pv (i + 1))) (hd : ∀ H, Pv n H → Qd H) :
    ∃ W : Nat → Nat → Hp → Prop, (∃ m, W 0 m (upd H1 D (.lst []))) ∧ ∀ i m H, W i m H →
      (J.stop i H ∧ Qd H) ∨ (J.go i H ∧ ∃ Nx : Hp → Prop, (∀ H', Nx H' → ∃ m', m' < m ∧ W (i + 1) m' H') ∧ ∀ x H', J.yld i H x H' → g x (wipe σ vs) H' fun σ2 H2 => wipe σ2 vs = wipe σ vs ∧ inner σ2 H2 Nx) := by
  refine ⟨fun i m H => m = n - i ∧ i ≤ n ∧ Pv i H, ⟨n, by simp, Nat.zero_le _, h0⟩, ?_⟩
  rintro i m H ⟨rfl, hi, p⟩
  have q := hG i H hi p
  by_cases hlt : i < n
  · exact .inr ⟨w.goes i H hlt q, Pv (i + 1), fun H' p' => ⟨n - (i + 1), by omega, rfl, hlt, p'⟩, fun x H' y => hs i x H H' hlt p (w.yields i H x H' hlt q y)⟩
  · have e : i = n := by omega
    subst e
    exact .inl ⟨w.stops H q, hd H p⟩
/-- the inner one -/
theorem lc1_it {J : It} {n : Nat} {G : Hp → Prop} {Y : Nat → Hp → V → Hp → Prop} (w : Walk J n G Y) {g : TG} {te : TE} {vs : List Nat} {σ : St} {H4 : Hp} {D : Addr} {Nx : Hp → Prop} (Pv : Nat → Hp → Prop) (h0 : Pv 0 H4) (hG : ∀ i H, i ≤ n → Pv i H → G H)
    (hs : ∀ i x H H', i < n → Pv i H → Y i H x H' → g x (wipe σ vs) H' fun σ3 H5 => wipe σ3 vs = wipe σ vs ∧ te σ3 H5 fun y H7 => ∃ acc, H7 D = some (.lst acc) ∧ acc.length < sizeLine ∧ Pv (i + 1) (upd H7 D (.lst (acc ++ [y])))) (hd : ∀ H, Pv n H → Nx H) :
    ∃ W1 : Nat → Nat → Hp → Prop, (∃ m, W1 0 m H4) ∧ ∀ j k H, W1 j k H →
      (J.stop j H ∧ Nx H) ∨ (J.go j H ∧ ∃ Nx1 : Hp → Prop, (∀ H', Nx1 H' → ∃ k', k' < k ∧ W1 (j + 1) k' H') ∧ ∀ x H', J.yld j H x H' → g x (wipe σ vs) H' fun σ3 H5 => wipe σ3 vs = wipe σ vs ∧ tYes σ3 H5 fun b H6 =>
        if b = true then te σ3 H6 fun y H7 => ∃ acc, H7 D = some (.lst acc) ∧ acc.length < sizeLine ∧ Nx1 (upd H7 D (.lst (acc ++ [y]))) else Nx1 H6) := by
  refine ⟨fun i m H => m = n - i ∧ i ≤ n ∧ Pv i H, ⟨n, by simp, Nat.zero_le _, h0⟩, ?_⟩
  rintro i m H ⟨rfl, hi, p⟩
  have q := hG i H hi p
  by_cases hlt : i < n
  · exact .inr ⟨w.goes i H hlt q, Pv (i + 1), fun H' p' => ⟨n - (i + 1), by omega, rfl, hlt, p'⟩, fun x H' y => hs i x H H' hlt p (w.yields i H x H' hlt q y)⟩
  · have e : i = n := by omega
    subst e
    exact .inl ⟨w.stops H q, hd H p⟩
/-- tuple(x) of a list or a tuple -/
def rTupOf (K : PySem.W.Frag) : List V → Hp → VK → Prop := fun xs H Q => ∃ p ys, xs = [.ref p] ∧ ((SqL K H p ys ∧ ∀ l, H l = none → Q (.ref l) (upd H l (.tup ys))) ∨ (SqT K H p ys ∧ Q (.ref p) H))
theorem call_tupN {X : Cx} : CallR X (.type "tuple") (rTupOf X.K) := call_tuple_of
theorem same_seqT {K : PySem.W.Frag} {H H' : Hp} {a : Addr} {xs : List V} (e : Same H H') (h : SqT K H a xs) : SqT K H' a xs := by
  rcases h with (h | ⟨o, h⟩) | h
  · exact .inl (.inl (e _ _ h))
  · exact .inl (.inr ⟨o, e _ _ h⟩)
  · exact .inr h
/-- to be read as a list or a tuple -/
def Sq (K : PySem.W.Frag) (H : Hp) (a : Addr) (xs : List V) : Prop := SqL K H a xs ∨ SqT K H a xs
theorem same_sq {K : PySem.W.Frag} {H H' : Hp} {a : Addr} {xs : List V} (e : Same H H') (h : Sq K H a xs) : Sq K H' a xs := h.imp (fun h => e.seq h) (fun h => same_seqT e h)
theorem cut_take (xs : List V) (i : Nat) : cutV xs none (some (i : Int)) = xs.take i := by
  unfold cutV
  rw [HT.sIx_none, HT.sIx_nat, List.drop_zero, Nat.sub_zero]
  by_cases h : i ≤ xs.length
  · rw [Nat.min_eq_left h]
  · rw [Nat.min_eq_right (by omega), List.take_length, List.take_of_length_le (by omega)]
theorem all_take {xs : List V} (h : xs.all flatV = true) (i : Nat) : (xs.take i).all flatV = true := by
  rw [List.all_eq_true] at h ⊢
  exact fun x hx => h x (List.mem_of_mem_take hx)
end Wm
namespace Wm
open PySem L2
/-- no item stands ahead of itself -/
def NoTw (xs : List V) : Prop := ∀ (i : Nat) (x : V), xs[i]? = some x → inV x (xs.take i) = false
def spFT (K : PySem.W.Frag) : Sp := fun vs H Q _ => ∃ (l : Addr) (xs : List V), vs = [.ref l] ∧ Sq K H l xs ∧ xs.all flatV = true ∧ NoTw xs ∧ ∀ H', Same H H' → Q .non H'
def spRC : Sp := fun vs H Q _ => ∃ (z : V) (c lo hi : Int), vs = [z, .int c, .int lo, .int hi] ∧ lo ≤ c ∧ c ≤ hi ∧ Q .non H
section
variable {P : Program} {w : World} {K : PySem.W.Frag} {mg : Str → Option Value} {base : Heap}
theorem scRC : FnScope ["what", "count", "least", "most"] ["what", "count", "least", "most"] (defScope sRC) := ⟨rfl, rfl, rfl, by decide +kernel, rfl, by decide +kernel, by decide +kernel⟩
theorem ok_rc {f : Addr} {fd : FuncData} (F : Fun K "refuse_count" "refuse_count" sRC f fd) : FnOk P w K mg base CX0 1 f fd ["what", "count", "least", "most"] spRC := by
  refine F.ok scRC (fun vs H Q E h => ?_) (fun cdv A outer s H vs Q E hr h => ?_)
  · obtain ⟨z, c, lo, hi, rfl, _⟩ := h
    rfl
  · obtain ⟨z, c, lo, hi, rfl, h1, h2, k⟩ := h
    refine ⟨_, (pss_one (ps_if (PW.pt (pw_or (pt_cmpR op_lt (pv 1) (pv 2) (nomark _)) (pw_or1 (pt_cmpR op_gt (pv 1) (pv 3) (nomark _))))) (pss_one ps_never) pss_nil)), ?_⟩
    refine ⟨_, rfl, _, rfl, _, _, rfl, rfl, _, rfl, ?_⟩
    refine ite2 (fun h => absurd (of_decide_eq_true h) (by omega)) (fun _ => ?_)
    refine ⟨_, rfl, _, rfl, _, _, rfl, rfl, _, rfl, ?_⟩
    exact ite2 (fun h => absurd (of_decide_eq_true h) (by omega)) (fun _ => k)
theorem scFT : FnScope ["row", "place", "part"] ["row"] (defScope sFT) := ⟨rfl, rfl, rfl, by decide +kernel, rfl, by decide +kernel, by decide +kernel⟩
theorem ok_ft {f : Addr} {fd : FuncData} (F : Fun K "first_twice" "first_twice" sFT f fd) (T : TxB mg) : FnOk P w K mg base CX0 1 f fd ["row"] (spFT K) := by
  refine F.ok scFT (fun vs H Q E h => ?_) (fun cdv A outer s H vs Q E hr h => ?_)
  · obtain ⟨l, xs, rfl, _⟩ := h
    rfl
  · obtain ⟨l, xs, rfl, hl, hf, hno, k⟩ := h
    rcases hl with hl | hl
    · refine ⟨_, (pss_cons (ps_for PassesOwn.never rfl (pi_enum rfl T.enumerate (pa_cons (pv 0) pa_nil)) (pg_tup rfl (pgs_cons (pg_name (i := 1) scFT.nd rfl (Or.inl rfl)) (pgs_cons (pg_name (i := 2) scFT.nd rfl (Or.inl rfl)) pgs_nil))) (pss_one (ps_if (pt_cmpR op_in_seq (pv 2) (pe_slice sl_list (pv 0) po_none (po_some (pv 1))) (by rfl)) (pss_one (ps_ret (pv 1))) pss_nil)))
      (pss_one (ps_ret pe_non))), ?_⟩
      refine ⟨_, rfl, l, xs, rfl, hl, for_it walk_enum (fun i σ H' => (∃ u v, σ = [some (.ref l), u, v]) ∧ Same H H') ⟨⟨none, none, rfl⟩, Same.refl H⟩ (fun i σ H' _ p => p.2.seq hl) ?_ ?_⟩
      · rintro i x σ H1 H2 hi ⟨⟨u, v, rfl⟩, hS⟩ ⟨t, y, z, rfl, ht, rfl, e1, e2⟩
        cases e1
        refine ⟨t, _, rfl, SqT.of upd_same, rfl, _, _, rfl, _, _, rfl, rfl, ?_⟩
        have S2 := hS.trans (Same.upd (o := .tup [.int (i : Nat), z]) ht)
        refine ⟨_, rfl, _, rfl, _, rfl, _, rfl, l, xs, rfl, S2.seq hl, fun p hp => ?_⟩
        refine ⟨p, _, rfl, .inl (SqL.of upd_same), ?_, ?_, _, rfl, ?_⟩
        · exact List.all_eq_true.mp hf _ (List.mem_of_getElem? e2)
        · show (cutV xs none (some (i : Int))).all flatV = true
          rw [cut_take]
          exact all_take hf i
        · have e : inV z (cutV xs none (some (i : Int))) = false := by
            rw [cut_take]
            exact hno i z e2
          show if inV z (cutV xs none (some (i : Int))) = true then _ else _
          rw [e]
          exact iteF ⟨⟨_, _, rfl⟩, S2.trans (Same.upd hp)⟩
      · rintro σ H' ⟨_, hS⟩
        exact k H' hS
    · refine ⟨_, (pss_cons (ps_for PassesOwn.never rfl (pi_enumT rfl T.enumerate (pa_cons (pv 0) pa_nil)) (pg_tup rfl (pgs_cons (pg_name (i := 1) scFT.nd rfl (Or.inl rfl)) (pgs_cons (pg_name (i := 2) scFT.nd rfl (Or.inl rfl)) pgs_nil))) (pss_one (ps_if (pt_cmpR op_in_seq (pv 2) (pe_slice sl_tupA (pv 0) po_none (po_some (pv 1))) (by rfl)) (pss_one (ps_ret (pv 1))) pss_nil)))
      (pss_one (ps_ret pe_non))), ?_⟩
      refine ⟨_, rfl, l, xs, rfl, hl, for_it walk_enumT (fun i σ H' => (∃ u v, σ = [some (.ref l), u, v]) ∧ Same H H') ⟨⟨none, none, rfl⟩, Same.refl H⟩ (fun i σ H' _ p => same_seqT p.2 hl) ?_ ?_⟩
      · rintro i x σ H1 H2 hi ⟨⟨u, v, rfl⟩, hS⟩ ⟨t, y, z, rfl, ht, rfl, e1, e2⟩
        cases e1
        refine ⟨t, _, rfl, SqT.of upd_same, rfl, _, _, rfl, _, _, rfl, rfl, ?_⟩
        have S2 := hS.trans (Same.upd (o := .tup [.int (i : Nat), z]) ht)
        refine ⟨_, rfl, _, rfl, _, rfl, _, rfl, l, xs, rfl, same_seqT S2 hl, fun h => ?_, fun h p hp => ?_⟩
        · have en : xs.take i = xs := by
            rw [HT.sIx_nat] at h
            exact List.take_of_length_le (by omega)
          have e : inV z xs = false := by
            have q := hno i z e2
            rw [en] at q
            exact q
          refine ⟨l, xs, rfl, .inr (same_seqT S2 hl), List.all_eq_true.mp hf _ (List.mem_of_getElem? e2), hf, _, rfl, ?_⟩
          show if inV z xs = true then _ else _
          rw [e]
          exact iteF ⟨⟨_, _, rfl⟩, S2⟩
        · refine ⟨p, _, rfl, .inr (SqT.of upd_same), List.all_eq_true.mp hf _ (List.mem_of_getElem? e2), ?_, _, rfl, ?_⟩
          · show (cutV xs none (some (i : Int))).all flatV = true
            rw [cut_take]
            exact all_take hf i
          · have e : inV z (cutV xs none (some (i : Int))) = false := by
              rw [cut_take]
              exact hno i z e2
            show if inV z (cutV xs none (some (i : Int))) = true then _ else _
            rw [e]
            exact iteF ⟨⟨_, _, rfl⟩, S2.trans (Same.upd hp)⟩
      · rintro σ H' ⟨_, hS⟩
        exact k H' hS
theorem scRT : FnScope ["names", "place"] ["names"] (defScope sRT) := ⟨rfl, rfl, rfl, by decide +kernel, rfl, by decide +kernel, by decide +kernel⟩
theorem ok_rt {f fF : Addr} {fd fdF : FuncData} (F : Fun K "refuse_twice" "refuse_twice" sRT f fd) (T : TxB mg) (D : Dn K mg "first_twice" sFT ["row"] fF fdF) : FnOk P w K mg base CX0 2 f fd ["names"] (spFT K) := by
  have G : FnOk P w K mg base CX0 1 fF fdF ["row"] (spFT K) := ok_ft D.F T
  refine F.ok scRT (fun vs H Q E h => ?_) (fun cdv A outer s H vs Q E hr h => ?_)
  · obtain ⟨l, xs, rfl, _⟩ := h
    rfl
  · obtain ⟨l, xs, rfl, hl, hf, hno, k⟩ := h
    refine ⟨_, (pss_cons (ps_set (i := 1) scRT.nd rfl (Or.inl rfl) (pe_call G hr rfl D.g D.F.kp D.b .nil pass0 (pa_cons (pv 0) pa_nil)))
      (pss_one (ps_if (pt_cmp (pc_notN (pv 1))) (pss_one ps_never) pss_nil))), ?_⟩
    refine ⟨_, rfl, l, xs, rfl, hl, hf, hno, fun H' hS => ?_⟩
    refine ⟨_, rfl, _, rfl, ?_⟩
    exact iteF (k H' hS)
end
end Wm
namespace Wm
open PySem L2
/-- the tuples at the addresses -/
def RowsAt (K : PySem.W.Frag) (H : Hp) : List Addr → List (List V) → Prop
  | [], [] => True
  | p :: ps, r :: rs => SqT K H p r ∧ RowsAt K H ps rs
  | _, _ => False
theorem RowsAt.same {K : PySem.W.Frag} {H H' : Hp} (e : Same H H') : ∀ {ps : List Addr} {rs : List (List V)}, RowsAt K H ps rs → RowsAt K H' ps rs
  | [], [], _ => True.intro
  | _ :: _, _ :: _, h => ⟨same_seqT e h.1, RowsAt.same e h.2⟩
  | [], _ :: _, h => h.elim
  | _ :: _, [], h => h.elim
theorem RowsAt.len {K : PySem.W.Frag} {H : Hp} : ∀ {ps : List Addr} {rs : List (List V)}, RowsAt K H ps rs → ps.length = rs.length
  | [], [], _ => rfl
  | _ :: _, _ :: _, h => congrArg Nat.succ (RowsAt.len h.2)
  | [], _ :: _, h => h.elim
  | _ :: _, [], h => h.elim
theorem RowsAt.get {K : PySem.W.Frag} {H : Hp} : ∀ {ps : List Addr} {rs : List (List V)} {i : Nat} {p : Addr}, RowsAt K H ps rs → ps[i]? = some p → ∃ r, rs[i]? = some r ∧ SqT K H p r
  | [], [], i, p, _, e => by simp at e
  | _ :: _, r :: _, 0, p, h, e => by
    have e' := Option.some.inj e
    subst e'
    exact ⟨r, rfl, h.1⟩
  | _ :: ps, _ :: rs, i + 1, p, h, e => by
    obtain ⟨r, h1, h2⟩ := RowsAt.get (i := i) h.2 (by simpa using e)
    exact ⟨r, by simpa using h1, h2⟩
  | [], _ :: _, _, _, h, _ => h.elim
  | _ :: _, [], _, _, h, _ => h.elim
theorem RowsAt.append {K : PySem.W.Frag} {H : Hp} : ∀ {ps qs : List Addr} {rs us : List (List V)}, RowsAt K H ps rs → RowsAt K H qs us → RowsAt K H (ps ++ qs) (rs ++ us)
  | [], _, [], _, _, h => h
  | _ :: _, _, _ :: _, _, h, g => ⟨h.1, RowsAt.append h.2 g⟩
  | [], _, _ :: _, _, h, _ => h.elim
  | _ :: _, _, [], _, h, _ => h.elim
theorem RowsAt.take {K : PySem.W.Frag} {H : Hp} : ∀ {ps : List Addr} {rs : List (List V)} (n : Nat), RowsAt K H ps rs → RowsAt K H (ps.take n) (rs.take n)
  | _, _, 0, _ => True.intro
  | [], [], _ + 1, _ => True.intro
  | _ :: _, _ :: _, n + 1, h => ⟨h.1, RowsAt.take n h.2⟩
  | [], _ :: _, _ + 1, h => h.elim
  | _ :: _, [], _ + 1, h => h.elim
theorem map_ref_get {ps : List Addr} {i : Nat} {x : V} (h : (ps.map V.ref)[i]? = some x) : ∃ p, ps[i]? = some p ∧ x = .ref p := by
  rw [List.getElem?_map] at h
  cases e : ps[i]? with
  | none =>
    rw [e] at h
    cases h
  | some p =>
    rw [e] at h
    exact ⟨p, rfl, (Option.some.inj h).symm⟩
theorem map_str_get {ps : List Str} {i : Nat} {x : V} (h : (ps.map V.str)[i]? = some x) : ∃ p, ps[i]? = some p ∧ x = .str p := by
  rw [List.getElem?_map] at h
  cases e : ps[i]? with
  | none =>
    rw [e] at h
    cases h
  | some p =>
    rw [e] at h
    exact ⟨p, rfl, (Option.some.inj h).symm⟩
abbrev Tri := Str × Str × Str
def triV (t : Tri) : List V := [.str t.1, .str t.2.1, .str t.2.2]
def endsL (ts : List Tri) : List Str := ts.flatMap fun t => [t.1, t.2.2]
theorem endsL_take {ts : List Tri} {i : Nat} {t : Tri} (h : ts[i]? = some t) : endsL (ts.take (i + 1)) = endsL (ts.take i) ++ [t.1, t.2.2] := by
  unfold endsL
  rw [List.take_add_one, h, List.flatMap_append]
  rfl
theorem endsL_len (ts : List Tri) : (endsL ts).length = 2 * ts.length := by
  induction ts with
  | nil => rfl
  | cons t r ih =>
    have e : (endsL (t :: r)).length = 2 + (endsL r).length := by
      show ([t.1, t.2.2] ++ endsL r).length = _
      rw [List.length_append]
      rfl
    have e2 : (t :: r).length = r.length + 1 := rfl
    omega
theorem tri_get {ts : List Tri} {i : Nat} {r : List V} (h : (ts.map triV)[i]? = some r) : ∃ t, ts[i]? = some t ∧ r = triV t := by
  rw [List.getElem?_map] at h
  cases e : ts[i]? with
  | none =>
    rw [e] at h
    cases h
  | some p =>
    rw [e] at h
    exact ⟨p, rfl, (Option.some.inj h).symm⟩
def spTT (K : PySem.W.Frag) : Sp := fun vs H Q _ => ∃ (l : Addr) (ps : List Addr) (rs : List (List V)), vs = [.ref l] ∧ SqL K H l (ps.map V.ref) ∧ RowsAt K H ps rs ∧ ps.length ≤ 1000 ∧ ∀ t H', H t = none → Same H H' → H' t = some (.tup (ps.map V.ref)) → Q (.ref t) H'
def spEO (K : PySem.W.Frag) : Sp := fun vs H Q _ => ∃ (l : Addr) (ps : List Addr) (ts : List Tri), vs = [.ref l] ∧ Sq K H l (ps.map V.ref) ∧ RowsAt K H ps (ts.map triV) ∧ ps.length ≤ 1000 ∧ ∀ d H', H d = none → Same H H' → H' d = some (.lst ((endsL ts).map V.str)) → Q (.ref d) H'
section
variable {P : Program} {w : World} {K : PySem.W.Frag} {mg : Str → Option Value} {base : Heap}
theorem scTT : FnScope ["rows", "row"] ["rows"] (defScope sTT) := ⟨rfl, rfl, rfl, by decide +kernel, rfl, by decide +kernel, by decide +kernel⟩
theorem ok_tt {f : Addr} {fd : FuncData} (F : Fun K "tuple_of_tuples" "tuple_of_tuples" sTT f fd) (T : TxB mg) : FnOk P w K mg base CX0 1 f fd ["rows"] (spTT K) := by
  refine F.ok scTT (fun vs H Q E h => ?_) (fun cdv A outer s H vs Q E hr h => ?_)
  · obtain ⟨l, ps, rs, rfl, _⟩ := h
    rfl
  · obtain ⟨l, ps, rs, rfl, hl, hrs, hn, k⟩ := h
    refine ⟨_, (pss_one (ps_ret (pe_callTy call_tupN (by rfl) T.tuple (by decide +kernel) (pa_cons (pe_lc (own := [("row", 1)]) (g := gName 1) (te := tCB (rTupOf K) (tCons (tVar 1) tNil)) rfl scTT.nd (pi_list (pv 0)) (blkOk_by (N := ["rows", "row"]) (sc := defScope sTT) (by decide +kernel)) (fun _ _ _ _ _ => (pg_name (i := 1) scTT.nd rfl (Or.inl rfl))) (fun _ _ _ _ _ => pts_nil) (fun _ _ _ _ _ => (pe_callTy call_tupN (by rfl) T.tuple (by decide +kernel) (pa_cons (pv 1) pa_nil)))) pa_nil)))), ?_⟩
    refine ⟨_, rfl, l, rfl, ⟨_, hl⟩, fun D hD => ?_⟩
    refine lc_it walk_list (fun i H' => Same H H' ∧ H' D = some (.lst ((ps.take i).map V.ref))) ⟨Same.upd hD, upd_same⟩ (fun i H' _ p => p.1.seq hl) ?_ ?_
    · rintro i x H1 H2 hi ⟨hS, hd⟩ ⟨rfl, hx⟩
      obtain ⟨p, hp, rfl⟩ := map_ref_get hx
      obtain ⟨r, _, hr'⟩ := hrs.get hp
      refine ⟨rfl, ?_⟩
      refine ⟨_, rfl, p, r, rfl, .inr ⟨same_seqT hS hr', _, hd, ?_, ?_, ?_⟩⟩
      · rw [List.length_map, List.length_take]
        exact Nat.lt_of_le_of_lt (show _ ≤ 1000 by omega) (by decide)
      · intro b o h
        rw [upd_ne (ne_of_none h hD)]
        exact hS b o h
      · rw [upd_same, List.take_add_one, hp, List.map_append]
        rfl
    · rintro H' ⟨hS, hd⟩
      rw [List.length_map, List.take_length] at hd
      exact ⟨D, _, rfl, .inl ⟨SqL.of hd, fun t ht => k t _ (hS.free ht) (hS.trans (Same.upd ht)) upd_same⟩⟩
theorem scEO : FnScope ["triples", "x", "word", "y", "end"] ["triples"] (defScope sEO) := ⟨rfl, rfl, rfl, by decide +kernel, rfl, by decide +kernel, by decide +kernel⟩
theorem ok_eo {f : Addr} {fd : FuncData} (F : Fun K "ends_of" "ends_of" sEO f fd) : FnOk P w K mg base CX0 1 f fd ["triples"] (spEO K) := by
  refine F.ok scEO (fun vs H Q E h => ?_) (fun cdv A outer s H vs Q E hr h => ?_)
  · obtain ⟨l, ps, ts, rfl, _⟩ := h
    rfl
  · obtain ⟨l, ps, ts, rfl, hl, hrs, hn, k⟩ := h
    have hlen := hrs.len
    rw [List.length_map] at hlen
    rcases hl with hl | hl
    · refine ⟨_, (pss_one (ps_ret (pe_lc2 (own := [("x", 1), ("word", 2), ("y", 3), ("end", 4)]) (vs1 := [4]) (g := gTup K 3 (gCons (gName 1) (gCons (gName 2) (gCons (gName 3) gNil)))) (g1 := gName 4) (wi1 := iTup K (tTup (tCons (tVar 1) (tCons (tVar 3) tNil)))) rfl scEO.nd (pi_list (pv 0)) (blkOk_by (N := ["triples", "x", "word", "y", "end"]) (sc := defScope sEO) (by decide +kernel)) (by decide) (fun _ _ _ _ _ => (pg_tup rfl (pgs_cons (pg_name (i := 1) scEO.nd rfl (Or.inl rfl)) (pgs_cons (pg_name (i := 2) scEO.nd rfl (Or.inl rfl)) (pgs_cons (pg_name (i := 3) scEO.nd rfl (Or.inl rfl)) pgs_nil))))) (fun _ _ _ _ _ => pts_nil) (fun _ _ _ _ _ => (pi_tup (pe_tup (pa_cons (pv 1) (pa_cons (pv 3) pa_nil))))) (fun _ _ _ _ _ => (pg_name (i := 4) scEO.nd rfl (Or.inl rfl))) (fun _ _ _ _ _ => pts_nil) (fun _ _ _ _ _ => (pv 4))))), ?_⟩
      refine ⟨_, rfl, l, rfl, ⟨_, hl⟩, fun D hD => ?_⟩
      refine lc2_it walk_list (fun i H' => Same H H' ∧ H' D = some (.lst ((endsL (ts.take i)).map V.str))) ⟨Same.upd hD, upd_same⟩ (fun i H' _ p => p.1.seq hl) ?_ ?_
      · rintro i x H1 H2 hi ⟨hS, hd⟩ ⟨rfl, hx⟩
        obtain ⟨p, hp, rfl⟩ := map_ref_get hx
        obtain ⟨r, hr1, hr'⟩ := hrs.get hp
        obtain ⟨t, ht, rfl⟩ := tri_get hr1
        refine ⟨p, _, rfl, same_seqT hS hr', rfl, _, _, rfl, _, _, rfl, _, _, rfl, rfl, rfl, ?_⟩
        refine ⟨_, rfl, _, rfl, by show 2 ≤ sizeLine; decide, fun q hq => ⟨q, rfl, ⟨_, SqT.of upd_same⟩, ?_⟩⟩
        have nDq : D ≠ q := ne_of_none hd hq
        refine lc1_it walk_tup (fun j H' => Same H H' ∧ SqT K H' q [.str t.1, .str t.2.2] ∧ H' D = some (.lst ((endsL (ts.take i) ++ [t.1, t.2.2].take j).map V.str))) ⟨hS.trans (Same.upd hq), SqT.of upd_same, ?_⟩ (fun _ _ _ p => p.2.1) ?_ ?_
        · rw [upd_ne nDq, hd, List.take_zero, List.append_nil]
        · rintro j y H3 H4 hj ⟨hS3, hq3, hd3⟩ ⟨rfl, hy⟩
          refine ⟨rfl, _, rfl, _, hd3, ?_, ?_, ?_, ?_⟩
          · rw [List.length_map, List.length_append, endsL_len, List.length_take, List.length_take]
            have l2 : [t.1, t.2.2].length = 2 := rfl
            exact Nat.lt_of_le_of_lt (show _ ≤ 4000 by omega) (by decide)
          · intro b o h
            rw [upd_ne (ne_of_none h hD)]
            exact hS3 b o h
          · rcases hq3 with (h | ⟨o, h⟩) | h
            · exact .inl (.inl (by rw [upd_ne (ne_of h hd3 (by intro z; cases z))]; exact h))
            · exact .inl (.inr ⟨o, by rw [upd_ne (ne_of h hd3 (by intro z; cases z))]; exact h⟩)
            · exact .inr h
          · have hy' : ([t.1, t.2.2].map V.str)[j]? = some y := hy
            obtain ⟨z, hz, rfl⟩ := map_str_get hy'
            have e : ∀ l : List Str, (l ++ (some z).toList).map V.str = l.map V.str ++ [V.str z] := fun l => by
              rw [List.map_append]
              rfl
            rw [upd_same, List.take_add_one, hz, ← List.append_assoc, e]
        · rintro H3 ⟨hS3, hq3, hd3⟩
          refine ⟨hS3, ?_⟩
          rw [hd3, endsL_take ht]
          rfl
      · rintro H' ⟨hS, hd⟩
        refine k D H' hD hS ?_
        rw [hd, List.length_map, List.take_of_length_le (by omega)]
    · refine ⟨_, (pss_one (ps_ret (pe_lc2 (own := [("x", 1), ("word", 2), ("y", 3), ("end", 4)]) (vs1 := [4]) (g := gTup K 3 (gCons (gName 1) (gCons (gName 2) (gCons (gName 3) gNil)))) (g1 := gName 4) (wi1 := iTup K (tTup (tCons (tVar 1) (tCons (tVar 3) tNil)))) rfl scEO.nd (pi_tup (pv 0)) (blkOk_by (N := ["triples", "x", "word", "y", "end"]) (sc := defScope sEO) (by decide +kernel)) (by decide) (fun _ _ _ _ _ => (pg_tup rfl (pgs_cons (pg_name (i := 1) scEO.nd rfl (Or.inl rfl)) (pgs_cons (pg_name (i := 2) scEO.nd rfl (Or.inl rfl)) (pgs_cons (pg_name (i := 3) scEO.nd rfl (Or.inl rfl)) pgs_nil))))) (fun _ _ _ _ _ => pts_nil) (fun _ _ _ _ _ => (pi_tup (pe_tup (pa_cons (pv 1) (pa_cons (pv 3) pa_nil))))) (fun _ _ _ _ _ => (pg_name (i := 4) scEO.nd rfl (Or.inl rfl))) (fun _ _ _ _ _ => pts_nil) (fun _ _ _ _ _ => (pv 4))))), ?_⟩
      refine ⟨_, rfl, l, rfl, ⟨_, hl⟩, fun D hD => ?_⟩
      refine lc2_it walk_tup (fun i H' => Same H H' ∧ H' D = some (.lst ((endsL (ts.take i)).map V.str))) ⟨Same.upd hD, upd_same⟩ (fun i H' _ p => same_seqT p.1 hl) ?_ ?_
      · rintro i x H1 H2 hi ⟨hS, hd⟩ ⟨rfl, hx⟩
        obtain ⟨p, hp, rfl⟩ := map_ref_get hx
        obtain ⟨r, hr1, hr'⟩ := hrs.get hp
        obtain ⟨t, ht, rfl⟩ := tri_get hr1
        refine ⟨p, _, rfl, same_seqT hS hr', rfl, _, _, rfl, _, _, rfl, _, _, rfl, rfl, rfl, ?_⟩
        refine ⟨_, rfl, _, rfl, by show 2 ≤ sizeLine; decide, fun q hq => ⟨q, rfl, ⟨_, SqT.of upd_same⟩, ?_⟩⟩
        have nDq : D ≠ q := ne_of_none hd hq
        refine lc1_it walk_tup (fun j H' => Same H H' ∧ SqT K H' q [.str t.1, .str t.2.2] ∧ H' D = some (.lst ((endsL (ts.take i) ++ [t.1, t.2.2].take j).map V.str))) ⟨hS.trans (Same.upd hq), SqT.of upd_same, ?_⟩ (fun _ _ _ p => p.2.1) ?_ ?_
        · rw [upd_ne nDq, hd, List.take_zero, List.append_nil]
        · rintro j y H3 H4 hj ⟨hS3, hq3, hd3⟩ ⟨rfl, hy⟩
          refine ⟨rfl, _, rfl, _, hd3, ?_, ?_, ?_, ?_⟩
          · rw [List.length_map, List.length_append, endsL_len, List.length_take, List.length_take]
            have l2 : [t.1, t.2.2].length = 2 := rfl
            exact Nat.lt_of_le_of_lt (show _ ≤ 4000 by omega) (by decide)
          · intro b o h
            rw [upd_ne (ne_of_none h hD)]
            exact hS3 b o h
          · rcases hq3 with (h | ⟨o, h⟩) | h
            · exact .inl (.inl (by rw [upd_ne (ne_of h hd3 (by intro z; cases z))]; exact h))
            · exact .inl (.inr ⟨o, by rw [upd_ne (ne_of h hd3 (by intro z; cases z))]; exact h⟩)
            · exact .inr h
          · have hy' : ([t.1, t.2.2].map V.str)[j]? = some y := hy
            obtain ⟨z, hz, rfl⟩ := map_str_get hy'
            have e : ∀ l : List Str, (l ++ (some z).toList).map V.str = l.map V.str ++ [V.str z] := fun l => by
              rw [List.map_append]
              rfl
            rw [upd_same, List.take_add_one, hz, ← List.append_assoc, e]
        · rintro H3 ⟨hS3, hq3, hd3⟩
          refine ⟨hS3, ?_⟩
          rw [hd3, endsL_take ht]
          rfl
      · rintro H' ⟨hS, hd⟩
        refine k D H' hD hS ?_
        rw [hd, List.length_map, List.take_of_length_le (by omega)]
end
end Wm
namespace Wm
open PySem L2
abbrev Var := Str × Option Str
def sortV : Option Str → V
  | none => .non
  | some s => .str s
def varV (v : Var) : List V := [.str v.1, sortV v.2]
def varT (v : Var) : List Str := v.1 :: v.2.toList
def textsL (nm : Str) (vars : List Var) (ts : List Tri) : List Str := (nm :: vars.flatMap varT) ++ ts.map (·.2.1)
theorem flat_take {vars : List Var} {i : Nat} {v : Var} (h : vars[i]? = some v) : (vars.take (i + 1)).flatMap varT = (vars.take i).flatMap varT ++ varT v := by
  rw [List.take_add_one, h, List.flatMap_append]
  simp
theorem var_get {vars : List Var} {i : Nat} {r : List V} (h : (vars.map varV)[i]? = some r) : ∃ t, vars[i]? = some t ∧ r = varV t := by
  rw [List.getElem?_map] at h
  cases e : vars[i]? with
  | none =>
    rw [e] at h
    cases h
  | some p =>
    rw [e] at h
    exact ⟨p, rfl, (Option.some.inj h).symm⟩
theorem inV_str {z : Str} {ns : List Str} : inV (.str z) (ns.map V.str) = decide (z ∈ ns) := by
  unfold inV
  induction ns with
  | nil => rfl
  | cons a r ih =>
    rw [List.map_cons, List.any_cons, ih]
    show (a == z || _) = _
    by_cases h : a = z
    · subst h
      simp
    · have h2 : ¬ z = a := fun q => h q.symm
      by_cases h3 : z ∈ r <;> simp [h, h2, h3]
theorem flat_strs (ns : List Str) : (ns.map V.str).all flatV = true := by
  rw [List.all_eq_true]
  intro x hx
  obtain ⟨z, _, rfl⟩ := List.mem_map.mp hx
  rfl
def spTP (K : PySem.W.Frag) : Sp := fun vs H Q _ => ∃ (nm : Str) (a b : Addr) (ps qs : List Addr) (vars : List Var) (ts : List Tri), vs = [.str nm, .ref a, .ref b] ∧ SqT K H a (ps.map V.ref) ∧ RowsAt K H ps (vars.map varV) ∧ SqL K H b (qs.map V.ref) ∧ RowsAt K H qs (ts.map triV) ∧
  ps.length ≤ 1000 ∧ qs.length ≤ 1000 ∧ ∀ d H', H d = none → Same H H' → H' d = some (.lst ((textsL nm vars ts).map V.str)) → Q (.ref d) H'
def spRV (K : PySem.W.Frag) : Sp := fun vs H Q _ => ∃ (a b : Addr) (ns zs : List Str), vs = [.ref a, .ref b] ∧ SqL K H a (ns.map V.str) ∧ SqL K H b (zs.map V.str) ∧ (∀ z ∈ zs, z ∈ ns) ∧ ∀ H', Same H H' → Q .non H'
def spRL (K : PySem.W.Frag) : Sp := fun vs H Q _ => ∃ (a b : Addr) (ns : List Str) (ps : List Addr) (ts : List Tri), vs = [.ref a, .ref b] ∧ SqL K H a (ns.map V.str) ∧ SqT K H b (ps.map V.ref) ∧ RowsAt K H ps (ts.map triV) ∧ ps.length ≤ 1000 ∧ (∀ z ∈ ns, z ∈ endsL ts) ∧ ∀ H', Same H H' → Q .non H'
def Hangs (ts : List Tri) : Prop := ∀ (i : Nat) (t : Tri), 0 < i → ts[i]? = some t → t.1 ∈ endsL (ts.take i) ∨ t.2.2 ∈ endsL (ts.take i)
def spRA (K : PySem.W.Frag) : Sp := fun vs H Q _ => ∃ (b : Addr) (ps : List Addr) (ts : List Tri), vs = [.ref b] ∧ SqT K H b (ps.map V.ref) ∧ RowsAt K H ps (ts.map triV) ∧ ps.length ≤ 1000 ∧ Hangs ts ∧ ∀ H', Same H H' → Q .non H'
section
variable {P : Program} {w : World} {K : PySem.W.Frag} {mg : Str → Option Value} {base : Heap}
theorem scTP : FnScope ["name", "variables", "triples", "texts", "variable", "sort", "x", "word", "y"] ["name", "variables", "triples"] (defScope sTP) := ⟨rfl, rfl, rfl, by decide +kernel, rfl, by decide +kernel, by decide +kernel⟩
theorem ok_tp {f : Addr} {fd : FuncData} (F : Fun K "texts_of_pattern" "texts_of_pattern" sTP f fd) : FnOk P w K mg base CX0 1 f fd ["name", "variables", "triples"] (spTP K) := by
  refine F.ok scTP (fun vs H Q E h => ?_) (fun cdv A outer s H vs Q E hr h => ?_)
  · obtain ⟨nm, a, b, ps, qs, vars, ts, rfl, _⟩ := h
    rfl
  · obtain ⟨nm, a, b, ps, qs, vars, ts, rfl, ha, hva, hb, htr, hn, hn2, k⟩ := h
    have hlen := hva.len
    rw [List.length_map] at hlen
    have hlen2 := htr.len
    rw [List.length_map] at hlen2
    have fl : ∀ i, ((vars.take i).flatMap varT).length ≤ 2 * vars.length := fun i => by
      have e : ∀ l : List Var, (l.flatMap varT).length ≤ 2 * l.length := fun l => by
        induction l with
        | nil => exact Nat.le_refl _
        | cons v r ih =>
          have e : ((v :: r).flatMap varT).length = (varT v).length + (r.flatMap varT).length := by
            rw [List.flatMap_cons, List.length_append]
          have e2 : (varT v).length ≤ 2 := by
            unfold varT
            cases v.2 <;> simp
          have e3 : (v :: r).length = r.length + 1 := rfl
          omega
      have q := e (vars.take i)
      rw [List.length_take] at q
      omega
    refine ⟨_, (pss_cons (ps_set (i := 3) scTP.nd rfl (Or.inl rfl) (pe_lst (pa_cons (pv 0) pa_nil)))
      (pss_cons (ps_for PassesOwn.never rfl (pi_tup (pv 1)) (pg_tup rfl (pgs_cons (pg_name (i := 4) scTP.nd rfl (Or.inl rfl)) (pgs_cons (pg_name (i := 5) scTP.nd rfl (Or.inl rfl)) pgs_nil))) (pss_cons (ps_expr (pe_bm PySem.F.plainAttrs_list PySem.F.slot_list_append PySem.F.type_list_append mt_append (pv 3) (pa_cons (pv 4) pa_nil)))
      (pss_one (ps_if (pt_cmp (pc_notN (pv 5))) (pss_one (ps_expr (pe_bm PySem.F.plainAttrs_list PySem.F.slot_list_append PySem.F.type_list_append mt_append (pv 3) (pa_cons (pv 5) pa_nil)))) pss_nil))))
      (pss_cons (ps_expr (pe_bm PySem.F.plainAttrs_list PySem.F.slot_list_extend PySem.F.type_list_extend mt_extend (pv 3) (pa_cons (pe_lc (own := [("x", 6), ("word", 7), ("y", 8)]) (g := gTup K 3 (gCons (gName 6) (gCons (gName 7) (gCons (gName 8) gNil)))) rfl scTP.nd (pi_list (pv 2)) (blkOk_by (N := ["name", "variables", "triples", "texts", "variable", "sort", "x", "word", "y"]) (sc := defScope sTP) (by decide +kernel)) (fun _ _ _ _ _ => (pg_tup rfl (pgs_cons (pg_name (i := 6) scTP.nd rfl (Or.inl rfl)) (pgs_cons (pg_name (i := 7) scTP.nd rfl (Or.inl rfl)) (pgs_cons (pg_name (i := 8) scTP.nd rfl (Or.inl rfl)) pgs_nil))))) (fun _ _ _ _ _ => pts_nil) (fun _ _ _ _ _ => (pv 7))) pa_nil)))
      (pss_one (ps_ret (pv 3)))))), ?_⟩
    refine ⟨_, rfl, by show 1 ≤ sizeLine; decide, fun d hd => ?_⟩
    have S0 : Same H (upd H d (.lst [.str nm])) := Same.upd hd
    refine ⟨_, rfl, a, rfl, ⟨_, same_seqT S0 ha⟩, for_it walk_tup (fun i σ H' => (∃ u v, σ = [some (.str nm), some (.ref a), some (.ref b), some (.ref d), u, v, none, none, none]) ∧ Same H H' ∧ H' d = some (.lst ((nm :: (vars.take i).flatMap varT).map V.str)))
      ⟨⟨none, none, rfl⟩, S0, upd_same⟩ (fun i σ H' _ p => same_seqT p.2.1 ha) ?_ ?_⟩
    · rintro i x σ H1 H2 hi ⟨⟨u, v, rfl⟩, hS, hl⟩ ⟨rfl, hx⟩
      obtain ⟨p, hp, rfl⟩ := map_ref_get hx
      obtain ⟨r, hr1, hr'⟩ := hva.get hp
      obtain ⟨⟨n, so⟩, ht, rfl⟩ := var_get hr1
      have fi := fl i
      refine ⟨p, _, rfl, same_seqT hS hr', rfl, _, _, rfl, _, _, rfl, rfl, ?_⟩
      refine ⟨_, rfl, .inl ⟨rfl, _, SqL.of hl⟩, _, rfl, d, _, _, rfl, rfl, hl, ?_, ?_⟩
      · rw [List.length_map, List.length_cons]
        exact Nat.lt_of_le_of_lt (show _ ≤ 4000 by omega) (by decide)
      have S1 : Same H (upd H2 d (.lst ((nm :: (vars.take i).flatMap varT).map V.str ++ [.str n]))) := fun b' o h => by
        rw [upd_ne (ne_of_none h hd)]
        exact hS b' o h
      refine ⟨_, rfl, _, rfl, ?_⟩
      cases so with
      | none =>
        refine iteF ⟨⟨_, _, rfl⟩, S1, ?_⟩
        rw [upd_same, flat_take ht]
        have e : (nm :: ((vars.take i).flatMap varT ++ varT (n, none))) = (nm :: (vars.take i).flatMap varT) ++ [n] := rfl
        rw [e, List.map_append]
        rfl
      | some so =>
        refine iteT ?_
        refine ⟨_, rfl, .inl ⟨rfl, _, SqL.of upd_same⟩, _, rfl, d, _, _, rfl, rfl, upd_same, ?_, ?_⟩
        · rw [List.length_append, List.length_map, List.length_cons, List.length_singleton]
          exact Nat.lt_of_le_of_lt (show _ ≤ 4000 by omega) (by decide)
        · refine ⟨⟨_, _, rfl⟩, fun b' o h => ?_, ?_⟩
          · rw [upd_ne (ne_of_none h hd)]
            exact S1 b' o h
          · rw [upd_same, flat_take ht]
            have e : (nm :: ((vars.take i).flatMap varT ++ varT (n, some so))) = (nm :: (vars.take i).flatMap varT) ++ [n, so] := rfl
            rw [e, List.map_append, List.append_assoc]
            rfl
    · rintro σ H1 ⟨⟨u, v, rfl⟩, hS, hl⟩
      rw [List.length_map, List.take_of_length_le (by omega)] at hl
      have fi := fl vars.length
      rw [List.take_length] at fi
      refine ⟨_, rfl, .inl ⟨rfl, _, SqL.of hl⟩, _, rfl, b, rfl, ⟨_, hS.seq hb⟩, fun D hD => ?_⟩
      have nDd : D ≠ d := (ne_of_none hl hD).symm
      refine lc_it walk_list (fun i H' => Same H H' ∧ H' d = some (.lst ((nm :: vars.flatMap varT).map V.str)) ∧ H' D = some (.lst (((ts.take i).map (·.2.1)).map V.str))) ⟨hS.trans (Same.upd hD), by rw [upd_ne nDd.symm]; exact hl, upd_same⟩ (fun i H' _ p => p.1.seq hb) ?_ ?_
      · rintro i x H2 H3 hi ⟨hS2, hl2, hD2⟩ ⟨rfl, hx⟩
        obtain ⟨p, hp, rfl⟩ := map_ref_get hx
        obtain ⟨r, hr1, hr'⟩ := htr.get hp
        obtain ⟨t, ht, rfl⟩ := tri_get hr1
        refine ⟨p, _, rfl, same_seqT hS2 hr', rfl, _, _, rfl, _, _, rfl, _, _, rfl, rfl, rfl, ?_⟩
        refine ⟨_, rfl, _, hD2, ?_, ?_, ?_, ?_⟩
        · rw [List.length_map, List.length_map, List.length_take]
          exact Nat.lt_of_le_of_lt (show _ ≤ 1000 by omega) (by decide)
        · intro b' o h
          rw [upd_ne (ne_of_none h (hS.free hD))]
          exact hS2 b' o h
        · rw [upd_ne nDd.symm]
          exact hl2
        · rw [upd_same, List.take_add_one, ht, List.map_append, List.map_append]
          rfl
      · rintro H2 ⟨hS2, hl2, hD2⟩
        rw [List.length_map, List.take_of_length_le (by omega)] at hD2
        refine ⟨d, D, _, _, rfl, rfl, hl2, hD2, ?_, ?_⟩
        · rw [List.length_map, List.length_map, List.length_map, List.length_cons]
          exact Nat.le_trans (show _ ≤ 4000 by omega) (by decide)
        · refine ⟨_, rfl, ?_⟩
          refine k d _ hd (fun b' o h => ?_) ?_
          · rw [upd_ne (ne_of_none h hd)]
            exact hS2 b' o h
          · rw [upd_same]
            unfold textsL
            rw [List.map_append]
theorem scRV : FnScope ["names", "texts", "text"] ["names", "texts"] (defScope sRV) := ⟨rfl, rfl, rfl, by decide +kernel, rfl, by decide +kernel, by decide +kernel⟩
theorem ok_rv {f : Addr} {fd : FuncData} (F : Fun K "refuse_no_variable" "refuse_no_variable" sRV f fd) : FnOk P w K mg base CX0 1 f fd ["names", "texts"] (spRV K) := by
  refine F.ok scRV (fun vs H Q E h => ?_) (fun cdv A outer s H vs Q E hr h => ?_)
  · obtain ⟨a, b, ns, zs, rfl, _⟩ := h
    rfl
  · obtain ⟨a, b, ns, zs, rfl, ha, hb, hin, k⟩ := h
    refine ⟨_, (pss_one (ps_for PassesOwn.never rfl (pi_list (pv 1)) (pg_name (i := 2) scRV.nd rfl (Or.inl rfl)) (pss_one (ps_if (pt_cmpR op_notIn_seq (pv 2) (pv 0) (by rfl)) (pss_one ps_never) pss_nil)))), ?_⟩
    refine ⟨_, rfl, b, rfl, ⟨_, hb⟩, for_list (K := K) (a := b) (xs := zs.map V.str) (fun i σ H' => (∃ v, σ = [some (.ref a), some (.ref b), v]) ∧ H' = H) ⟨⟨none, rfl⟩, rfl⟩ (fun i σ H' _ p => by rw [p.2]; exact hb) ?_ ?_⟩
    · rintro i y σ H' hi ⟨⟨v, rfl⟩, rfl⟩
      obtain ⟨z, hz, rfl⟩ := map_str_get hi
      refine ⟨_, rfl, _, rfl, a, _, rfl, .inl ha, rfl, flat_strs ns, _, rfl, ?_⟩
      show if (!inV (.str z) (ns.map V.str)) = true then _ else _
      rw [inV_str, decide_eq_true (hin z (List.mem_of_getElem? hz))]
      exact iteF ⟨⟨_, rfl⟩, rfl⟩
    · rintro σ H' ⟨_, rfl⟩
      exact k H' (Same.refl H')
theorem scRL : FnScope ["names", "conditions", "tied", "name"] ["names", "conditions"] (defScope sRL) := ⟨rfl, rfl, rfl, by decide +kernel, rfl, by decide +kernel, by decide +kernel⟩
theorem ok_rl {f fE : Addr} {fd fdE : FuncData} (F : Fun K "refuse_loose" "refuse_loose" sRL f fd) (D : Dn K mg "ends_of" sEO ["triples"] fE fdE) : FnOk P w K mg base CX0 2 f fd ["names", "conditions"] (spRL K) := by
  have G : FnOk P w K mg base CX0 1 fE fdE ["triples"] (spEO K) := ok_eo D.F
  refine F.ok scRL (fun vs H Q E h => ?_) (fun cdv A outer s H vs Q E hr h => ?_)
  · obtain ⟨a, b, ns, ps, ts, rfl, _⟩ := h
    rfl
  · obtain ⟨a, b, ns, ps, ts, rfl, ha, hb, htr, hn, hin, k⟩ := h
    refine ⟨_, (pss_cons (ps_set (i := 2) scRL.nd rfl (Or.inl rfl) (pe_call G hr rfl D.g D.F.kp D.b .nil pass0 (pa_cons (pv 1) pa_nil)))
      (pss_one (ps_for PassesOwn.never rfl (pi_list (pv 0)) (pg_name (i := 3) scRL.nd rfl (Or.inl rfl)) (pss_one (ps_if (pt_cmpR op_notIn_seq (pv 3) (pv 2) (by rfl)) (pss_one ps_never) pss_nil))))), ?_⟩
    refine ⟨_, rfl, b, ps, ts, rfl, .inr hb, htr, hn, fun d H1 hd hS hl => ?_⟩
    refine ⟨_, rfl, a, rfl, ⟨_, hS.seq ha⟩, for_list (K := K) (a := a) (xs := ns.map V.str) (fun i σ H' => (∃ v, σ = [some (.ref a), some (.ref b), some (.ref d), v]) ∧ H' = H1) ⟨⟨none, rfl⟩, rfl⟩ (fun i σ H' _ p => by rw [p.2]; exact hS.seq ha) ?_ ?_⟩
    · rintro i y σ H' hi ⟨⟨v, rfl⟩, rfl⟩
      obtain ⟨z, hz, rfl⟩ := map_str_get hi
      refine ⟨_, rfl, _, rfl, d, _, rfl, .inl (SqL.of hl), rfl, flat_strs _, _, rfl, ?_⟩
      show if (!inV (.str z) ((endsL ts).map V.str)) = true then _ else _
      rw [inV_str, decide_eq_true (hin z (List.mem_of_getElem? hz))]
      exact iteF ⟨⟨_, rfl⟩, rfl⟩
    · rintro σ H' ⟨_, rfl⟩
      exact k H' hS
theorem scRA : FnScope ["conditions", "place", "x", "word", "y", "ahead"] ["conditions"] (defScope sRA) := ⟨rfl, rfl, rfl, by decide +kernel, rfl, by decide +kernel, by decide +kernel⟩
theorem ok_ra {f fE : Addr} {fd fdE : FuncData} (F : Fun K "refuse_apart" "refuse_apart" sRA f fd) (T : TxB mg) (D : Dn K mg "ends_of" sEO ["triples"] fE fdE) : FnOk P w K mg base CX0 2 f fd ["conditions"] (spRA K) := by
  have G : FnOk P w K mg base CX0 1 fE fdE ["triples"] (spEO K) := ok_eo D.F
  refine F.ok scRA (fun vs H Q E h => ?_) (fun cdv A outer s H vs Q E hr h => ?_)
  · obtain ⟨b, ps, ts, rfl, _⟩ := h
    rfl
  · obtain ⟨b, ps, ts, rfl, hb, htr, hn, hh, k⟩ := h
    have hlen := htr.len
    rw [List.length_map] at hlen
    refine ⟨_, (pss_one (ps_for PassesOwn.never rfl (pi_enumT rfl T.enumerate (pa_cons (pv 0) pa_nil)) (pg_tup rfl (pgs_cons (pg_name (i := 1) scRA.nd rfl (Or.inl rfl)) (pgs_cons (pg_tup rfl (pgs_cons (pg_name (i := 2) scRA.nd rfl (Or.inl rfl)) (pgs_cons (pg_name (i := 3) scRA.nd rfl (Or.inl rfl)) (pgs_cons (pg_name (i := 4) scRA.nd rfl (Or.inl rfl)) pgs_nil)))) pgs_nil))) (pss_cons (ps_set (i := 5) scRA.nd rfl (Or.inl rfl) (pe_call G hr rfl D.g D.F.kp D.b .nil pass0 (pa_cons (pe_slice sl_tupA (pv 0) po_none (po_some (pv 1))) pa_nil)))
      (pss_one (ps_if (PW.pt (pw_and (pt_cmpR op_gt (pv 1) pe_int (nomark _)) (pw_and (pt_cmpR op_notIn_seq (pv 2) (pv 5) (by rfl)) (pw_and1 (pt_cmpR op_notIn_seq (pv 4) (pv 5) (by rfl)))))) (pss_one ps_never) pss_nil))))), ?_⟩
    refine ⟨_, rfl, b, _, rfl, hb, for_it walk_enumT (fun i σ H' => (∃ u v x y z, σ = [some (.ref b), u, v, x, y, z]) ∧ Same H H') ⟨⟨none, none, none, none, none, rfl⟩, Same.refl H⟩ (fun i σ H' _ p => same_seqT p.2 hb) ?_ ?_⟩
    · rintro i x σ H1 H2 hi ⟨⟨u, v, x1, x2, x3, rfl⟩, hS⟩ ⟨q, y, z, rfl, hq, rfl, e1, e2⟩
      cases e1
      obtain ⟨p, hp, rfl⟩ := map_ref_get e2
      obtain ⟨r, hr1, hr'⟩ := htr.get hp
      obtain ⟨t, ht, rfl⟩ := tri_get hr1
      have S2 := hS.trans (Same.upd (o := .tup [.int (i : Nat), .ref p]) hq)
      have hi' : i < ps.length := by rw [List.length_map] at hi; exact hi
      refine ⟨q, _, rfl, SqT.of upd_same, rfl, _, _, rfl, _, _, rfl, ⟨p, _, rfl, same_seqT S2 hr', rfl, _, _, rfl, _, _, rfl, _, _, rfl, rfl, rfl, ?_⟩⟩
      refine ⟨_, rfl, _, rfl, _, rfl, b, _, rfl, same_seqT S2 hb, fun h => ?_, fun _ c hc => ?_⟩
      · exfalso
        rw [HT.sIx_nat, List.length_map] at h
        omega
      have S3 := S2.trans (Same.upd (o := .tup (cutV (ps.map V.ref) none (some (i : Int)))) hc)
      have hcut : cutV (ps.map V.ref) none (some (i : Int)) = (ps.take i).map V.ref := by rw [cut_take, List.map_take]
      refine ⟨c, ps.take i, ts.take i, rfl, .inr (SqT.of (by rw [upd_same, hcut])), ?_, by rw [List.length_take]; omega, fun d H3 hd hS3 hl => ?_⟩
      · rw [List.map_take]
        exact (htr.take i).same S3
      refine ⟨_, rfl, _, _, rfl, rfl, _, rfl, ?_⟩
      refine ite2 (fun h0 => ?_) (fun _ => ?_)
      · have h0' : (0 : Int) < (i : Int) := of_decide_eq_true h0
        refine ⟨_, rfl, _, rfl, d, _, rfl, .inl (SqL.of hl), rfl, flat_strs _, _, rfl, ?_⟩
        show if (!inV (.str t.1) ((endsL (ts.take i)).map V.str)) = true then _ else _
        rw [inV_str]
        by_cases m1 : t.1 ∈ endsL (ts.take i)
        · rw [decide_eq_true m1]
          exact iteF (iteF ⟨⟨_, _, _, _, _, rfl⟩, S3.trans hS3⟩)
        · rw [decide_eq_false m1]
          refine iteT ?_
          refine ⟨_, rfl, _, rfl, d, _, rfl, .inl (SqL.of hl), rfl, flat_strs _, _, rfl, ?_⟩
          show if (!inV (.str t.2.2) ((endsL (ts.take i)).map V.str)) = true then _ else _
          have m2 : t.2.2 ∈ endsL (ts.take i) := (hh i t (by omega) ht).resolve_left m1
          rw [inV_str, decide_eq_true m2]
          exact iteF ⟨⟨_, _, _, _, _, rfl⟩, S3.trans hS3⟩
      · exact iteF ⟨⟨_, _, _, _, _, rfl⟩, S3.trans hS3⟩
    · rintro σ H' ⟨_, hS⟩
      exact k H' hS
end
end Wm
namespace Wm
open PySem L2 StX
structure TxP (mg : Str → Option Value) : Prop where
  mv : ∃ t, mg "MOST_VARIABLES" = some (.int 4 t)
  mc : ∃ t, mg "MOST_CONDITIONS" = some (.int 3 t)
theorem DueN.mono {C : Addr} {zs : List Str} {H H1 : Hp} {Q : VK} {E : XK} (hS : Same H H1) (h : DueN C zs H Q E) : DueN C zs H1 Q E := by
  unfold DueN at h ⊢
  split
  · rename_i e
    rw [e] at h
    exact fun H' h1 => h H' (hS.trans h1)
  · rename_i z e
    rw [e] at h
    exact fun d H' h0 h1 h2 => h d H' (hS.free h0) (hS.trans h1) h2
theorem DueN.next {C : Addr} {zs : List Str} {H H1 : Hp} {Q Q' : VK} {E : XK} (h : DueN C zs H Q E) (hS : Same H H1) (r : zs.find? (fun z => !isNm z) = none → ∀ H', Same H1 H' → Q' .non H') : DueN C zs H1 Q' E := by
  have h' := DueN.mono hS h
  unfold DueN at h' ⊢
  cases e : zs.find? (fun z => !isNm z) with
  | none => exact r e
  | some z =>
    rw [e] at h'
    exact h'
theorem flat_len (l : List Var) : (l.flatMap varT).length ≤ 2 * l.length := by
  induction l with
  | nil => exact Nat.le_refl _
  | cons v r ih =>
    have e : ((v :: r).flatMap varT).length = (varT v).length + (r.flatMap varT).length := by
      rw [List.flatMap_cons, List.length_append]
    have e2 : (varT v).length ≤ 2 := by
      unfold varT
      cases v.2 <;> simp
    have e3 : (v :: r).length = r.length + 1 := rfl
    omega
/-- a pattern of which nothing but a text that is no name is to be refused -/
structure PatOk (vars : List Var) (cs gs : List Tri) (hs : List Str) : Prop where
  v1 : 1 ≤ vars.length
  v4 : vars.length ≤ 4
  c1 : 1 ≤ cs.length
  c3 : cs.length ≤ 3
  g3 : gs.length ≤ 1
  h3 : hs.length ≤ 1
  tw : NoTw ((vars.map (·.1)).map V.str)
  en : ∀ z ∈ endsL (cs ++ gs) ++ hs, z ∈ vars.map (·.1)
  lo : ∀ z ∈ vars.map (·.1), z ∈ endsL cs
  ap : Hangs cs
def spCP (K : PySem.W.Frag) (C : Addr) : Sp := fun vs H Q E => ∃ (nm : Str) (a b g h : Addr) (ps qs us : List Addr) (vars : List Var) (cs gs : List Tri) (hs : List Str), vs = [.str nm, .ref a, .ref b, .ref g, .ref h] ∧ SqT K H a (ps.map V.ref) ∧ RowsAt K H ps (vars.map varV) ∧
  SqT K H b (qs.map V.ref) ∧ RowsAt K H qs (cs.map triV) ∧ SqL K H g (us.map V.ref) ∧ RowsAt K H us (gs.map triV) ∧ SqL K H h (hs.map V.str) ∧ PatOk vars cs gs hs ∧ (∀ z ∈ textsL nm vars (cs ++ gs), z.length ≤ 1000) ∧ DueN C (textsL nm vars (cs ++ gs)) H Q E
section
variable {P : Program} {w : World} {K : PySem.W.Frag} {mg : Str → Option Value} {base : Heap}
theorem scCP : FnScope ["name", "variables", "conditions", "given", "hands", "triples", "names", "variable", "sort"] ["name", "variables", "conditions", "given", "hands"] (defScope sCP) := ⟨rfl, rfl, rfl, by decide +kernel, rfl, by decide +kernel, by decide +kernel⟩
theorem ok_cp {f fRC fRN fTP fRT fRV fEO fRL fRA C : Addr} {fd dRC dRN dTP dRT dRV dEO dRL dRA : FuncData} (F : Fun K "check_pattern" "check_pattern" sCP f fd) (T : TxB mg) (TP : TxP mg)
    (RC : Dn K mg "refuse_count" sRC ["what", "count", "least", "most"] fRC dRC) (RN : Dn K mg "refuse_no_name" sRN ["texts"] fRN dRN) (TX : Dn K mg "texts_of_pattern" sTP ["name", "variables", "triples"] fTP dTP) (RT : Dn K mg "refuse_twice" sRT ["names"] fRT dRT)
    (RV : Dn K mg "refuse_no_variable" sRV ["names", "texts"] fRV dRV) (EO : Dn K mg "ends_of" sEO ["triples"] fEO dEO) (RL : Dn K mg "refuse_loose" sRL ["names", "conditions"] fRL dRL) (RA : Dn K mg "refuse_apart" sRA ["conditions"] fRA dRA)
    (GRN : FnOk P w K mg base (L2.CX P w) 4 fRN dRN ["texts"] (spRN K C)) (GRT : FnOk P w K mg base CX0 2 fRT dRT ["names"] (spFT K)) :
    FnOk P w K mg base (L2.CX P w) 5 f fd ["name", "variables", "conditions", "given", "hands"] (spCP K C) := by
  have GRC : FnOk P w K mg base CX0 1 fRC dRC _ spRC := ok_rc RC.F
  have GTX : FnOk P w K mg base CX0 1 fTP dTP _ (spTP K) := ok_tp TX.F
  have GRV : FnOk P w K mg base CX0 1 fRV dRV _ (spRV K) := ok_rv RV.F
  have GEO : FnOk P w K mg base CX0 1 fEO dEO _ (spEO K) := ok_eo EO.F
  have GRL : FnOk P w K mg base CX0 2 fRL dRL _ (spRL K) := ok_rl RL.F EO
  have GRA : FnOk P w K mg base CX0 2 fRA dRA _ (spRA K) := ok_ra RA.F T EO
  obtain ⟨t1, hmv⟩ := TP.mv
  obtain ⟨t2, hmc⟩ := TP.mc
  refine F.okX scCP (fun vs H Q E h => ?_) (fun cdv A outer s H vs Q E hr h => ?_)
  · obtain ⟨nm, a, b, g, h, ps, qs, us, vars, cs, gs, hs, rfl, _⟩ := h
    rfl
  · obtain ⟨nm, a, b, g, h, ps, qs, us, vars, cs, gs, hs, rfl, ha, hva, hb, hcs, hg, hgs, hh, ok, hz, k⟩ := h
    have hr1 : Room 1 _ := hr.mono (by decide)
    have hr2 : Room 2 _ := hr.mono (by decide)
    have l1 := hva.len
    have l2 := hcs.len
    have l3 := hgs.len
    rw [List.length_map] at l1 l2 l3
    have o1 := ok.v4
    have o2 := ok.c3
    have o3 := ok.g3
    have o4 := ok.v1
    have o5 := ok.c1
    have o6 := ok.h3
    refine ⟨_, (pss_cons (ps_expr (pe_call GRC hr1 rfl RC.g RC.F.kp RC.b .nil pass0 (pa_cons pe_str (pa_cons (pe_callB call_len_seq (by rfl) T.len (by decide +kernel) (pa_cons (pv 1) pa_nil)) (pa_cons pe_int (pa_cons (pe_glob (v := .int 4) (by rfl) hmv ⟨_, rfl⟩) pa_nil))))))
      (pss_cons (ps_expr (pe_call GRC hr1 rfl RC.g RC.F.kp RC.b .nil pass0 (pa_cons pe_str (pa_cons (pe_callB call_len_seq (by rfl) T.len (by decide +kernel) (pa_cons (pv 2) pa_nil)) (pa_cons pe_int (pa_cons (pe_glob (v := .int 3) (by rfl) hmc ⟨_, rfl⟩) pa_nil))))))
      (pss_cons (ps_set (i := 5) scCP.nd rfl (Or.inl rfl) (pe_lst (pa_star (pv 2) (pa_star (pv 3) pa_nil))))
      (pss_cons (ps_expr (pe_call GRN hr rfl RN.g RN.F.kp RN.b .nil (passes_call (takes_of rfl rfl rfl rfl) (fun _ _ _ _ h => h)) (pa_cons (pe_call GTX hr1 rfl TX.g TX.F.kp TX.b .nil pass0 (pa_cons (pv 0) (pa_cons (pv 1) (pa_cons (pv 5) pa_nil)))) pa_nil)))
      (pss_cons (ps_setLc (i := 6) (own := [("variable", 7), ("sort", 8)]) (g := gTup K 2 (gCons (gName 7) (gCons (gName 8) gNil))) rfl scCP.nd rfl rfl (sw_true rfl rfl rfl (by decide +kernel)) (pi_tup (pv 1)) (blkOk_by (N := ["name", "variables", "conditions", "given", "hands", "triples", "names", "variable", "sort"]) (sc := defScope sCP) (by decide +kernel)) (fun _ _ _ _ _ => (pg_tup rfl (pgs_cons (pg_name (i := 7) scCP.nd rfl (Or.inl rfl)) (pgs_cons (pg_name (i := 8) scCP.nd rfl (Or.inl rfl)) pgs_nil)))) (fun _ _ _ _ _ => pts_nil) (fun _ _ _ _ _ => (pv 7)))
      (pss_cons (ps_expr (pe_call GRT hr2 rfl RT.g RT.F.kp RT.b .nil pass0 (pa_cons (pv 6) pa_nil)))
      (pss_cons (ps_expr (pe_call GRV hr1 rfl RV.g RV.F.kp RV.b .nil pass0 (pa_cons (pv 6) (pa_cons (pe_lst (pa_star (pe_call GEO hr1 rfl EO.g EO.F.kp EO.b .nil pass0 (pa_cons (pv 5) pa_nil)) (pa_star (pv 4) pa_nil))) pa_nil))))
      (pss_cons (ps_expr (pe_call GRL hr2 rfl RL.g RL.F.kp RL.b .nil pass0 (pa_cons (pv 6) (pa_cons (pv 2) pa_nil))))
      (pss_one (ps_expr (pe_call GRA hr2 rfl RA.g RA.F.kp RA.b .nil pass0 (pa_cons (pv 2) pa_nil)))))))))))), ?_⟩
    refine ⟨_, rfl, a, _, rfl, .inr ha, _, _, _, _, rfl, ?_, ?_, ?_⟩
    · rw [List.length_map]; omega
    · rw [List.length_map]; omega
    refine ⟨_, rfl, b, _, rfl, .inr hb, _, _, _, _, rfl, ?_, ?_, ?_⟩
    · rw [List.length_map]; omega
    · rw [List.length_map]; omega
    -- triples = [*conditions, *given]
    refine ⟨_, rfl, b, _, rfl, .inl hb, _, rfl, g, _, rfl, .inr hg, ?_, fun tr htr => ?_⟩
    · show (qs.map V.ref ++ (us.map V.ref ++ [])).length ≤ sizeLine
      rw [List.append_nil, List.length_append, List.length_map, List.length_map]
      exact Nat.le_trans (show _ ≤ 1000 by omega) (by decide)
    have etr : qs.map V.ref ++ (us.map V.ref ++ []) = (qs ++ us).map V.ref := by rw [List.append_nil, List.map_append]
    have S1 : Same H (upd H tr (.lst (qs.map V.ref ++ (us.map V.ref ++ [])))) := Same.upd htr
    refine ⟨_, rfl, _, rfl, _, rfl, nm, a, tr, ps, qs ++ us, vars, cs ++ gs, rfl, same_seqT S1 ha, hva.same S1, SqL.of (by rw [upd_same, etr]), ?_, by omega, by rw [List.length_append]; omega, fun d H2 hd hS2 hl => ?_⟩
    · rw [List.map_append]
      exact (hcs.append hgs).same S1
    have S2 := S1.trans hS2
    refine ⟨d, _, rfl, SqL.of hl, ?_, hz, ?_⟩
    · unfold textsL
      have e : ∀ l : List Var, (l.flatMap varT).length ≤ 2 * l.length := flat_len
      have e2 := e vars
      rw [List.length_append, List.length_cons, List.length_map, List.length_append]
      omega
    refine DueN.next k S2 fun hn H3 hS3 => ?_
    have S3 := S2.trans hS3
    -- names = [variable for variable, sort in variables]
    refine ⟨_, rfl, a, rfl, ⟨_, same_seqT S3 ha⟩, fun D hD => ?_⟩
    refine lc_it walk_tup (fun i H' => Same H3 H' ∧ H' D = some (.lst (((vars.take i).map (·.1)).map V.str))) ⟨Same.upd hD, upd_same⟩ (fun i H' _ p => same_seqT (S3.trans p.1) ha) ?_ ?_
    · rintro i x H4 H5 hi ⟨hS4, hD4⟩ ⟨rfl, hx⟩
      obtain ⟨p, hp, rfl⟩ := map_ref_get hx
      obtain ⟨r, hr1', hr'⟩ := hva.get hp
      obtain ⟨⟨n, so⟩, ht, rfl⟩ := var_get hr1'
      refine ⟨p, _, rfl, same_seqT (S3.trans hS4) hr', rfl, _, _, rfl, _, _, rfl, rfl, rfl, ?_⟩
      refine ⟨_, rfl, _, hD4, ?_, ?_, ?_⟩
      · rw [List.length_map, List.length_map, List.length_take]
        exact Nat.lt_of_le_of_lt (show _ ≤ 1000 by omega) (by decide)
      · intro b' o h
        rw [upd_ne (ne_of_none h hD)]
        exact hS4 b' o h
      · rw [upd_same, List.take_add_one, ht, List.map_append, List.map_append]
        rfl
    rintro H4 ⟨hS4, hD4⟩
    rw [List.length_map, List.take_of_length_le (by omega)] at hD4
    have S4 := S3.trans hS4
    have tr4 : H4 tr = some (.lst ((qs ++ us).map V.ref)) := by
      have q : (upd H tr (.lst (qs.map V.ref ++ (us.map V.ref ++ [])))) tr = some (.lst ((qs ++ us).map V.ref)) := by rw [upd_same, etr]
      exact hS4 _ _ (hS3 _ _ (hS2 _ _ q))
    -- refuse_twice(names)
    refine ⟨_, rfl, D, _, rfl, .inl (SqL.of hD4), flat_strs _, ok.tw, fun H5 hS5 => ?_⟩
    have S5 := S4.trans hS5
    -- refuse_no_variable(names, [*ends_of(triples), *hands])
    refine ⟨_, rfl, _, rfl, tr, qs ++ us, cs ++ gs, rfl, .inl (SqL.of (hS5 _ _ tr4)), ?_, by rw [List.length_append]; omega, fun e H6 he hS6 hl6 => ?_⟩
    · rw [List.map_append]
      exact (hcs.append hgs).same S5
    have S6 := S5.trans hS6
    refine ⟨e, _, rfl, .inr (SqL.of hl6), _, rfl, h, _, rfl, .inr (S6.seq hh), ?_, fun l hl => ?_⟩
    · rw [List.length_append, List.length_map, endsL_len, List.length_append, List.append_nil, List.length_map]
      exact Nat.le_trans (show _ ≤ 1000 by omega) (by decide)
    refine ⟨D, l, _, endsL (cs ++ gs) ++ hs, rfl, SqL.of (Same.upd hl _ _ (hS6 _ _ (hS5 _ _ hD4))), SqL.of ?_, ok.en, fun H7 hS7 => ?_⟩
    · rw [upd_same, List.append_nil, List.map_append]
    have S7 := S6.trans ((Same.upd hl).trans hS7)
    have D7 := hS7 _ _ (Same.upd hl _ _ (hS6 _ _ (hS5 _ _ hD4)))
    -- refuse_loose(names, conditions)
    refine ⟨_, rfl, _, rfl, D, b, _, qs, cs, rfl, SqL.of D7, same_seqT S7 hb, hcs.same S7, by omega, ok.lo, fun H8 hS8 => ?_⟩
    have S8 := S7.trans hS8
    -- refuse_apart(conditions)
    refine ⟨_, rfl, b, qs, cs, rfl, same_seqT S8 hb, hcs.same S8, by omega, ok.ap, fun H9 hS9 => ?_⟩
    unfold DueN at k
    rw [hn] at k
    exact k H9 (S8.trans hS9)
end
end Wm
namespace Wm
open PySem L2 StX
def barF (nm : Str) (t1 t2 : Addr) : List (Str × V) := putF "conditions" (.ref t2) (putF "variables" (.ref t1) (putF "name" (.str nm) []))
theorem ne1 : ¬ (("variables" : Str) = "conditions") := by decide +kernel
theorem ne2 : ¬ (("name" : Str) = "conditions") := by decide +kernel
theorem ne3 : ¬ (("name" : Str) = "variables") := by decide +kernel
theorem barF_name (nm : Str) (t1 t2 : Addr) : (barF nm t1 t2).lookup ("name" : Str) = some (.str nm) := by
  unfold barF
  rw [lookup_putF, if_neg ne2, lookup_putF, if_neg ne3, lookup_putF, if_pos rfl]
theorem barF_vars (nm : Str) (t1 t2 : Addr) : (barF nm t1 t2).lookup ("variables" : Str) = some (.ref t1) := by
  unfold barF
  rw [lookup_putF, if_neg ne1, lookup_putF, if_pos rfl]
theorem barF_cond (nm : Str) (t1 t2 : Addr) : (barF nm t1 t2).lookup ("conditions" : Str) = some (.ref t2) := by
  unfold barF
  rw [lookup_putF, if_pos rfl]
theorem putF_len (f : Str) (v : V) : ∀ fs : List (Str × V), (putF f v fs).length ≤ fs.length + 1
  | [] => Nat.le_refl _
  | (g, x) :: r => by
    unfold putF
    split
    · exact Nat.le_succ _
    · have := putF_len f v r
      simp only [List.length_cons]
      omega
/-- what the making of an object that may be refused by a text is to bring; H0: what stood ahead of it -/
def DueM (C : Addr) (zs : List Str) (H0 : Hp) (ok : Hp → Prop) (E : XK) : Prop := match zs.find? (fun z => !isNm z) with
  | none => ∀ H', Same H0 H' → ok H'
  | some z => ∀ d H', H0 d = none → Same H0 H' → H' d = some (.xd (ef1 "name" "noname" (.str z))) → E (.ref C) (some d) H'
theorem DueM.toN {C : Addr} {zs : List Str} {H0 H1 : Hp} {ok : Hp → Prop} {Q : VK} {E : XK} (h : DueM C zs H0 ok E) (hS : Same H0 H1) (r : zs.find? (fun z => !isNm z) = none → ∀ H', Same H1 H' → Q .non H') : DueN C zs H1 Q E := by
  unfold DueM at h
  unfold DueN
  cases e : zs.find? (fun z => !isNm z) with
  | none => exact r e
  | some z =>
    rw [e] at h
    exact fun d H' h0 h1 h2 => h d H' (hS.free h0) (hS.trans h1) h2
structure TxBar (K : PySem.W.Frag) (mg : Str → Option Value) (B fB : Addr) : Prop where
  cl : Cls K B
  nn : NoAttr K B "name"
  nv : NoAttr K B "variables"
  nc : NoAttr K B "conditions"
section
variable {P : Program} {w : World} {K : PySem.W.Frag} {mg : Str → Option Value} {base : Heap}
end
end Wm
namespace Wm
open PySem L2
/-- str(o), o an instance of the class at C, whose __str__ is the def at f -/
def rStrO (C : Addr) (sp : Sp) : List V → Hp → VK → Prop := fun xs H Q => ∃ (a dx : Addr) (fs : List (Str × V)), xs = [.ref a] ∧ H a = some (.ins C dx fs) ∧ sp [.ref a] H (fun v H' => ∃ z : Str, v = .str z ∧ Q (.str z) H') E0
theorem call_strO {X : Cx} {C f : Addr} {fd : FuncData} {k : Nat} {sp : Sp} (hs : PySem.W.findIn X.K (.ref C) "__str__" = some (some (.ref f))) (hf : PySem.W.isFn X.K (.ref f) = true) (F : FnOk X.prog X.w X.K X.mg X.base CX0 k f fd ["self"] sp) (hr : Room (k + 2) X.A) (hb : Binds X.K fd ["self"] []) :
    CallR X (.type "str") (rStrO C sp) := by
  intro pins s σ H xs us Q I r h
  obtain ⟨a, dx, fs, rfl, ha, h⟩ := h
  cases r with
  | cons rx rr =>
    cases rr
    cases rx
    obtain ⟨mA, ob, _⟩ := ins_get I.hok ha
    obtain ⟨od, J, _⟩ := ob.look
    have hr1 : Room (k + 1) X.A.in1 := hr.in1
    have hr2 : Room k X.A.in1.in1 := hr1.in1
    refine PySem.W.kso_call hr2.units0 I.kIn J hs hf ?_
    have hl : ([Value.ref a] ++ []).length = (["self"] : List Str).length := rfl
    have rv : Vals [V.ref a] [Value.ref a] := .cons rfl .nil
    refine wpAny_call (codeAny_mono (F.run X.A.in1.in1 X.stack s H ⟨[Value.ref a], []⟩ [Value.ref a] [V.ref a] _ E0 hr2 I.env0.in1.in1 (hb s [Value.ref a] I.kIn hl) rv h) fun r s' hq => ?_)
    cases r with
    | error e => exact hq.elim
    | ok fl =>
      cases fl with
      | ret u =>
        obtain ⟨v, H', J', ru, z, rfl, q⟩ := I.after (Q := fun v H' => ∃ z : Str, v = .str z ∧ Q (.str z) H') hq
        obtain ⟨t, rfl⟩ := ru
        exact ⟨.str z, H', J', ⟨t, rfl⟩, q⟩
      | next => exact False.elim hq
      | brk => exact False.elim hq
      | cont => exact False.elim hq
end Wm
namespace Wm
open PySem L2 PySem.W
/-- a == b, a an instance of the class at C, whose __eq__ is the def at f -/
def rEqO (K : Frag) (C : Addr) (sp : Sp) : V → V → Hp → VK → Prop := fun x y H Q => ∃ (a b D dx dy : Addr) (fs gs : List (Str × V)), x = .ref a ∧ y = .ref b ∧ H a = some (.ins C dx fs) ∧ H b = some (.ins D dy gs) ∧ notFirst K C (.ref D) = true ∧
  sp [.ref a, .ref b] H (fun v H' => ∃ t : Bool, v = .bl t ∧ Q (.bl t) H') E0
theorem op_eqO {X : Cx} {C f : Addr} {fd : FuncData} {k : Nat} {sp : Sp} {ps : List Str} (hs : findIn X.K (.ref C) "__eq__" = some (some (.ref f))) (hf : isFn X.K (.ref f) = true) (F : FnOk X.prog X.w X.K X.mg X.base CX0 k f fd ps sp) (hr : Room k X.A) (hb : L2.Binds X.K fd ps []) :
    OpR X (compareOp .Eq) (rEqO X.K C sp) := by
  intro pins s σ H x y v u Q I rx ry h
  obtain ⟨a, b, D, dx, dy, fs, gs, rfl, rfl, ha, hb', nf, h⟩ := h
  cases rx
  cases ry
  obtain ⟨mA, oa, _⟩ := ins_get I.hok ha
  obtain ⟨mB, ob, _⟩ := ins_get I.hok hb'
  obtain ⟨od, J, _⟩ := oa.look
  obtain ⟨od', J', _⟩ := ob.look
  obtain ⟨m, hF⟩ := I.fr
  show wpAny _ _ (richCompare .Eq (.ref a) (.ref b)) _ _ _
  refine cmp_K hr.units0 hF I.ok.mod.kin J (InstAt.type J') nf hs hf ?_
  have rv : Vals [V.ref a, V.ref b] [Value.ref a, Value.ref b] := .cons rfl (.cons rfl .nil)
  have hl : ([Value.ref a, Value.ref b] ++ []).length = ps.length := F.len _ _ _ _ h
  have bd := hb s [Value.ref a, Value.ref b] I.kIn hl
  rw [List.append_nil] at bd
  refine wpAny_call (codeAny_mono (F.run X.A X.stack s H ⟨[Value.ref a, Value.ref b], []⟩ [Value.ref a, Value.ref b] [V.ref a, V.ref b] _ E0 hr I.env0 bd rv h) fun r s' hq => ?_)
  cases r with
  | error e => exact hq.elim
  | ok fl =>
    cases fl with
    | next => exact hq.elim
    | brk => exact hq.elim
    | cont => exact hq.elim
    | ret u =>
      obtain ⟨v, H', I2, rv, t, rfl, q⟩ := I.after hq
      cases rv
      exact ⟨.bl t, H', I2, rfl, q⟩
/-- the class at C has its own __eq__, at f, and no __ne__ -/
structure EqNe (K : Frag) (C f : Addr) : Prop where
  ex : ∃ nm q N bs hdct sn sub ab col dd k0 k1 k2 k3 k5 newId oc od es ep osl of, K.lookup C = some (excClassObj nm q C N bs [.type "object"] hdct sn sub ab col dd k0 k1 k2 k3 k5 newId) ∧
    K.lookup N = some ⟨oc, od, .dict es ep, osl⟩ ∧ StrKeys es ∧ nsFind es "__eq__" = some (.ref f) ∧ nsFind es "__ne__" = none ∧ K.lookup f = some of ∧ of.cls = .type "function"
theorem EqNe.at {K : Frag} {C f x dx : Addr} (e : EqNe K C f) {h : Heap} (X : K.In h) (hx : h.get? x = some (instObj C dx)) : h.OwnEqNoNe x C f "object" [.type "object"] := by
  obtain ⟨nm, q, N, bs, hdct, sn, sub, ab, col, dd, k0, k1, k2, k3, k5, newId, oc, od, es, ep, osl, of, h1, h2, h3, h4, h5, h6, h7⟩ := e.ex
  exact ⟨_, of, nm, q, N, bs, hdct, sn, sub, ab, col, dd, k0, k1, k2, k3, k5, newId, nsFind es, _, hx, rfl, X C _ h1, ⟨_, es, ep, X N _ h2, rfl, h3, fun _ => rfl⟩, h4, X f _ h6, h7, PySem.F.cmp_object.mro, PySem.F.cmp_object.eq.lookup, h5⟩
def rNeO (C : Addr) (sp : Sp) : V → V → Hp → VK → Prop := fun x y H Q => ∃ (a b dx dy : Addr) (fs gs : List (Str × V)), x = .ref a ∧ y = .ref b ∧ H a = some (.ins C dx fs) ∧ H b = some (.ins C dy gs) ∧
  sp [.ref a, .ref b] H (fun v H' => ∃ t : Bool, v = .bl t ∧ Q (.bl !t) H') E0
theorem op_neO {X : Cx} {C f : Addr} {fd : FuncData} {k : Nat} {sp : Sp} {ps : List Str} (hs : EqNe X.K C f) (F : FnOk X.prog X.w X.K X.mg X.base CX0 k f fd ps sp) (hr : Room (k + 1) X.A) (hb : L2.Binds X.K fd ps []) :
    OpR X (compareOp .NotEq) (rNeO C sp) := by
  intro pins s σ H x y v u Q I rx ry h
  obtain ⟨a, b, dx, dy, fs, gs, rfl, rfl, ha, hb', h⟩ := h
  cases rx
  cases ry
  have oa := (I.hok a _ ha).2.2.2.1
  have ob := (I.hok b _ hb').2.2.2.1
  have hr1 : Room k X.A.in1 := hr.in1
  refine compareOp_ne_ownEq PySem.F.cmp_object (hs.at I.kIn oa) ob rfl ?_ ?_
  · exact hr1.units0
  have rv : Vals [V.ref a, V.ref b] [Value.ref a, Value.ref b] := .cons rfl (.cons rfl .nil)
  have hl : ([Value.ref a, Value.ref b] ++ []).length = ps.length := F.len _ _ _ _ h
  have bd := hb s [Value.ref a, Value.ref b] I.kIn hl
  rw [List.append_nil] at bd
  refine wpAny_call (codeAny_mono (F.run X.A.in1 X.stack s H ⟨[Value.ref a, Value.ref b], []⟩ [Value.ref a, Value.ref b] [V.ref a, V.ref b] _ E0 hr1 I.env0.in1 bd rv h) fun r s' hq => ?_)
  cases r with
  | error e => exact hq.elim
  | ok fl =>
    cases fl with
    | next => exact hq.elim
    | brk => exact hq.elim
    | cont => exact hq.elim
    | ret u =>
      obtain ⟨v, H', I2, rv, t, rfl, q⟩ := I.after (Q := fun v H' => ∃ t : Bool, v = .bl t ∧ Q (.bl !t) H') hq
      cases rv
      exact ⟨t, rfl, .bl !t, H', I2, rfl, q⟩
end Wm
namespace Wm
open PySem L2 StX
def rulF (nm : Str) (t1 t2 t3 : Addr) (by_ : Str) : List (Str × V) := putF "by" (.str by_) (putF "gives" (.ref t3) (barF nm t1 t2))
theorem nr1 : ¬ (("gives" : Str) = "by") := by decide +kernel
theorem nr2 : ¬ (("name" : Str) = "by") := by decide +kernel
theorem nr3 : ¬ (("name" : Str) = "gives") := by decide +kernel
theorem nr4 : ¬ (("variables" : Str) = "by") := by decide +kernel
theorem nr5 : ¬ (("variables" : Str) = "gives") := by decide +kernel
theorem nr6 : ¬ (("conditions" : Str) = "by") := by decide +kernel
theorem nr7 : ¬ (("conditions" : Str) = "gives") := by decide +kernel
theorem rulF_name (nm : Str) (t1 t2 t3 : Addr) (b : Str) : (rulF nm t1 t2 t3 b).lookup ("name" : Str) = some (.str nm) := by
  unfold rulF
  rw [lookup_putF, if_neg nr2, lookup_putF, if_neg nr3]
  exact barF_name _ _ _
theorem rulF_vars (nm : Str) (t1 t2 t3 : Addr) (b : Str) : (rulF nm t1 t2 t3 b).lookup ("variables" : Str) = some (.ref t1) := by
  unfold rulF
  rw [lookup_putF, if_neg nr4, lookup_putF, if_neg nr5]
  exact barF_vars _ _ _
theorem rulF_cond (nm : Str) (t1 t2 t3 : Addr) (b : Str) : (rulF nm t1 t2 t3 b).lookup ("conditions" : Str) = some (.ref t2) := by
  unfold rulF
  rw [lookup_putF, if_neg nr6, lookup_putF, if_neg nr7]
  exact barF_cond _ _ _
theorem rulF_gives (nm : Str) (t1 t2 t3 : Addr) (b : Str) : (rulF nm t1 t2 t3 b).lookup ("gives" : Str) = some (.ref t3) := by
  unfold rulF
  rw [lookup_putF, if_neg nr1, lookup_putF, if_pos rfl]
theorem rulF_by (nm : Str) (t1 t2 t3 : Addr) (b : Str) : (rulF nm t1 t2 t3 b).lookup ("by" : Str) = some (.str b) := by
  unfold rulF
  rw [lookup_putF, if_pos rfl]
theorem barF_len (nm : Str) (t1 t2 : Addr) : (barF nm t1 t2).length ≤ 3 := Nat.le_trans (putF_len _ _ _) (Nat.succ_le_succ (Nat.le_trans (putF_len _ _ _) (Nat.succ_le_succ (putF_len _ _ _))))
structure TxRul (K : PySem.W.Frag) (mg : Str → Option Value) (B fB : Addr) : Prop where
  cl : Cls K B
  nn : NoAttr K B "name"
  nv : NoAttr K B "variables"
  nc : NoAttr K B "conditions"
  ng : NoAttr K B "gives"
  nb : NoAttr K B "by"
  g : mg "Rule" = some (.ref B)
  m : Mk K B fB
def spRul (K : PySem.W.Frag) (C B : Addr) : Sp := fun vs H Q E => ∃ (H0 : Hp) (x dx l1 l2 g : Addr) (nm b : Str) (ps qs : List Addr) (vars : List Var) (cs : List Tri) (gt : Tri), vs = [.ref x, .str nm, .ref l1, .ref l2, .ref g, .str b] ∧ Same H0 H ∧ H0 x = none ∧ H x = some (.ins B dx []) ∧
  SqL K H0 l1 (ps.map V.ref) ∧ RowsAt K H0 ps (vars.map varV) ∧ SqL K H0 l2 (qs.map V.ref) ∧ RowsAt K H0 qs (cs.map triV) ∧ H0 g = some (.tup (triV gt)) ∧ PatOk vars cs [gt] [b] ∧ (∀ z ∈ textsL nm vars (cs ++ [gt]), z.length ≤ 1000) ∧
  DueM C (textsL nm vars (cs ++ [gt])) H0 (fun H' => ∀ t1 t2, H' x = some (.ins B dx (rulF nm t1 t2 g b)) → H' t1 = some (.tup (ps.map V.ref)) → H' t2 = some (.tup (qs.map V.ref)) → Q .non H') E
section
variable {P : Program} {w : World} {K : PySem.W.Frag} {mg : Str → Option Value} {base : Heap}
theorem scRul : FnScope ["self", "name", "variables", "conditions", "gives", "by"] ["self", "name", "variables", "conditions", "gives", "by"] (defScope sRul) := ⟨rfl, rfl, rfl, by decide +kernel, rfl, by decide +kernel, by decide +kernel⟩
theorem ok_rul {f fTT fCP C B : Addr} {fd dTT dCP : FuncData} (F : Fun K "__init__" "Rule.__init__" sRul f fd) (T : TxB mg) (TB : TxRul K mg B f) (TT : Dn K mg "tuple_of_tuples" sTT ["rows"] fTT dTT)
    (CP : Dn K mg "check_pattern" sCP ["name", "variables", "conditions", "given", "hands"] fCP dCP) (GCP : FnOk P w K mg base (L2.CX P w) 5 fCP dCP ["name", "variables", "conditions", "given", "hands"] (spCP K C)) :
    FnOk P w K mg base (L2.CX P w) 6 f fd ["self", "name", "variables", "conditions", "gives", "by"] (spRul K C B) := by
  have GTT : FnOk P w K mg base CX0 1 fTT dTT _ (spTT K) := ok_tt TT.F T
  refine F.okX scRul (fun vs H Q E h => ?_) (fun cdv A outer s H vs Q E hr h => ?_)
  · obtain ⟨H0, x, dx, l1, l2, g, nm, b, ps, qs, vars, cs, gt, rfl, _⟩ := h
    rfl
  · obtain ⟨H0, x, dx, l1, l2, g, nm, b, ps, qs, vars, cs, gt, rfl, S0, x0, hx, h1, hv, h2, hc, hg, ok, hz, k⟩ := h
    have hr1 : Room 1 _ := hr.mono (by decide)
    have b1 := hv.len
    have b2 := hc.len
    rw [List.length_map] at b1 b2
    have o1 := ok.v4
    have o2 := ok.c3
    have ngx : g ≠ x := ne_of_none hg x0
    refine ⟨_, (pss_cons (ps_fld (pv 0) (pv 1) rfl)
      (pss_cons (ps_fld (pv 0) (pe_call GTT hr1 rfl TT.g TT.F.kp TT.b .nil pass0 (pa_cons (pv 2) pa_nil)) rfl)
      (pss_cons (ps_fld (pv 0) (pe_call GTT hr1 rfl TT.g TT.F.kp TT.b .nil pass0 (pa_cons (pv 3) pa_nil)) rfl)
      (pss_cons (ps_fld (pv 0) (pe_callTy call_tupN (by rfl) T.tuple (by decide +kernel) (pa_cons (pv 4) pa_nil)) rfl)
      (pss_cons (ps_fld (pv 0) (pv 5) rfl)
      (pss_one (ps_expr (pe_call GCP hr rfl CP.g CP.F.kp CP.b .nil (passes_call (takes_of rfl rfl rfl rfl) (fun _ _ _ _ h => h)) (pa_cons (pv 1) (pa_cons (pe_fld (pv 0) rfl) (pa_cons (pe_fld (pv 0) rfl) (pa_cons (pe_lst (pa_cons (pe_fld (pv 0) rfl) pa_nil)) (pa_cons (pe_lst (pa_cons (pv 5) pa_nil)) pa_nil))))))))))))), ?_⟩
    have Sx : ∀ {H1 : Hp} {o : HO}, Same H0 H1 → Same H0 (upd H1 x o) := fun hs b o e => by
      rw [upd_ne (ne_of_none e x0)]
      exact hs b o e
    refine ⟨_, rfl, _, rfl, x, B, dx, [], rfl, hx, TB.cl, TB.nn, (by show 0 < 1000; decide), ?_⟩
    have S1 := Sx (o := .ins B dx (putF "name" (.str nm) [])) S0
    refine ⟨_, rfl, l1, ps, _, rfl, S1.seq h1, hv.same S1, by omega, fun t1 H2 ht1 hS2 hl1 => ?_⟩
    have S2 := S1.trans hS2
    have hx2 := hS2 _ _ (upd_same (H := H) (a := x) (o := .ins B dx (putF "name" (.str nm) [])))
    have n1x : t1 ≠ x := fun z => by
      rw [z, upd_same] at ht1
      cases ht1
    refine ⟨_, rfl, x, B, dx, _, rfl, hx2, TB.cl, TB.nv, Nat.lt_of_le_of_lt (putF_len _ _ _) (by decide), ?_⟩
    have S3 := Sx (o := .ins B dx (putF "variables" (.ref t1) (putF "name" (.str nm) []))) S2
    refine ⟨_, rfl, l2, qs, _, rfl, S3.seq h2, hc.same S3, by omega, fun t2 H4 ht2 hS4 hl2 => ?_⟩
    have S4 := S3.trans hS4
    have hx4 := hS4 _ _ (upd_same (H := H2) (a := x) (o := .ins B dx (putF "variables" (.ref t1) (putF "name" (.str nm) []))))
    have hl1' := hS4 t1 _ (by rw [upd_ne n1x]; exact hl1)
    have n2x : t2 ≠ x := fun z => by
      rw [z, upd_same] at ht2
      cases ht2
    refine ⟨_, rfl, x, B, dx, _, rfl, hx4, TB.cl, TB.nc, Nat.lt_of_le_of_lt (putF_len _ _ _) (Nat.lt_of_le_of_lt (Nat.succ_le_succ (putF_len _ _ _)) (by decide)), ?_⟩
    have S5 := Sx (o := .ins B dx (barF nm t1 t2)) S4
    -- self.gives = tuple(gives); self.by = by
    refine ⟨_, rfl, g, _, rfl, .inr ⟨SqT.of (S5 _ _ hg), ?_⟩⟩
    refine ⟨_, rfl, x, B, dx, _, rfl, upd_same, TB.cl, TB.ng, Nat.lt_of_le_of_lt (barF_len nm t1 t2) (by decide), ?_⟩
    refine ⟨_, rfl, _, rfl, x, B, dx, _, rfl, upd_same, TB.cl, TB.nb, Nat.lt_of_le_of_lt (Nat.le_trans (putF_len _ _ _) (Nat.succ_le_succ (barF_len nm t1 t2))) (by decide), ?_⟩
    rw [upd_upd, upd_upd]
    show _
    generalize hH6 : upd H4 x (.ins B dx (putF "by" (.str b) (putF "gives" (.ref g) (putF "conditions" (.ref t2) (putF "variables" (.ref t1) (putF "name" (.str nm) [])))))) = H6
    have S6 : Same H0 H6 := by
      rw [← hH6]
      exact Sx S4
    have hx6 : H6 x = some (.ins B dx (rulF nm t1 t2 g b)) := by rw [← hH6, upd_same]; rfl
    have h16 : H6 t1 = some (.tup (ps.map V.ref)) := by rw [← hH6, upd_ne n1x]; exact hl1'
    have h26 : H6 t2 = some (.tup (qs.map V.ref)) := by rw [← hH6, upd_ne n2x]; exact hl2
    -- check_pattern(name, self.variables, self.conditions, [self.gives], [by])
    refine ⟨_, rfl, _, rfl, x, B, dx, _, _, rfl, hx6, TB.cl, TB.nv, rulF_vars _ _ _ _ _, _, rfl, x, B, dx, _, _, rfl, hx6, TB.cl, TB.nc, rulF_cond _ _ _ _ _, _, rfl, x, B, dx, _, _, rfl, hx6, TB.cl, TB.ng, rulF_gives _ _ _ _ _, by show 1 ≤ sizeLine; decide, fun gl hgl => ⟨_, rfl, by show 1 ≤ sizeLine; decide, fun h hh => ?_⟩⟩
    have S7 : Same H6 (upd (upd H6 gl (.lst [.ref g])) h (.lst [.str b])) := (Same.upd hgl).trans (Same.upd hh)
    have S67 := S6.trans S7
    refine ⟨nm, t1, t2, gl, h, ps, qs, [g], vars, cs, [gt], [b], rfl, SqT.of (S7 _ _ h16), hv.same S67, SqT.of (S7 _ _ h26), hc.same S67, SqL.of (Same.upd hh _ _ upd_same), ⟨SqT.of (S67 _ _ hg), True.intro⟩, SqL.of upd_same, ok, hz, ?_⟩
    refine k.toN S67 fun hn H8 hS8 => ?_
    unfold DueM at k
    rw [hn] at k
    exact k H8 (S67.trans hS8) t1 t2 (hS8 _ _ (S7 _ _ hx6)) (hS8 _ _ (S7 _ _ h16)) (hS8 _ _ (S7 _ _ h26))
end
end Wm
/-! names as the laws draw them: texts of at most six signs -/
namespace Wm
open PySem L2
def lowC (c : Nat) : Prop := 97 ≤ c ∧ c ≤ 122
def figC (c : Nat) : Prop := 48 ≤ c ∧ c ≤ 57
/-- a text of small letters and figures, the first a letter -/
def NmP (z : Str) : Prop := ∃ c cs, z.cps.toList = c :: cs ∧ lowC c ∧ ∀ d ∈ cs, lowC d ∨ figC d
theorem toList_app (a b : Str) : (a ++ b).cps.toList = a.cps.toList ++ b.cps.toList := by
  show (a.cps ++ b.cps).toList = _
  simp
theorem NmP.app {a b : Str} (h : NmP a) (hb : ∀ d ∈ b.cps.toList, lowC d ∨ figC d) : NmP (a ++ b) := by
  obtain ⟨c, cs, e, l, r⟩ := h
  refine ⟨c, cs ++ b.cps.toList, by rw [toList_app, e]; rfl, l, fun d hd => ?_⟩
  rcases List.mem_append.mp hd with h | h
  · exact r d h
  · exact hb d h
theorem NmP.one {c : Nat} (h : lowC c) : NmP ⟨#[c]⟩ := ⟨c, [], rfl, h, fun _ z => nomatch z⟩
theorem NmP.ok {z : Str} (h : NmP z) : ∀ c ∈ z.cps.toList, c < 1114112 := by
  obtain ⟨c, cs, e, l, r⟩ := h
  intro d hd
  rw [e] at hd
  rcases List.mem_cons.mp hd with h | h
  · rw [h]
    exact Nat.lt_of_le_of_lt l.2 (by decide)
  · rcases r d h with q | q
    · exact Nat.lt_of_le_of_lt q.2 (by decide)
    · exact Nat.lt_of_le_of_lt q.2 (by decide)
def ABC36 : Str := PySem.Str.ofString "abcdefghijklmnopqrstuvwxyz0123456789"
theorem abc36_len : ABC36.length = 36 := by decide +kernel
theorem abc_low {i : Nat} {c : Nat} (hi : i < 26) (h : ABC36.cps.toList[i]? = some c) : lowC c := by
  have q : ∀ j : Fin 26, ∀ d ∈ ABC36.cps.toList[j.1]?, 97 ≤ d ∧ d ≤ 122 := by decide +kernel
  exact q ⟨i, hi⟩ c (by rw [h]; exact rfl)
theorem abc_any {i : Nat} {c : Nat} (h : ABC36.cps.toList[i]? = some c) : lowC c ∨ figC c := by
  have q : ∀ d ∈ ABC36.cps.toList, (97 ≤ d ∧ d ≤ 122) ∨ (48 ≤ d ∧ d ≤ 57) := by decide +kernel
  exact q c (List.mem_of_getElem? h)
/-- the text of a number -/
def numS (n : Nat) : Str := PySem.Str.ofString (toString (n : Int))
def numB (n : Nat) : Bool := (numS n).cps.toList.all (fun d => decide (48 ≤ d ∧ d ≤ 57)) && (decide ((numS n).length ≤ 2) && decide (1 ≤ (numS n).length))
theorem num_all : ∀ n : Fin 70, numB n.1 = true := by decide +kernel
theorem num_inj0 : ∀ n m : Fin 70, (numS n.1).cps.toList = (numS m.1).cps.toList → n = m := by decide +kernel
theorem num_sign {n : Nat} (h : n < 70) : (∀ d ∈ (numS n).cps.toList, lowC d ∨ figC d) ∧ (numS n).length ≤ 2 ∧ 1 ≤ (numS n).length := by
  obtain ⟨a, b⟩ := Bool.and_eq_true_iff.mp (num_all ⟨n, h⟩)
  obtain ⟨b, c⟩ := Bool.and_eq_true_iff.mp b
  refine ⟨fun d hd => .inr ?_, of_decide_eq_true b, of_decide_eq_true c⟩
  have q := List.all_eq_true.mp a d hd
  exact of_decide_eq_true (p := 48 ≤ d ∧ d ≤ 57) q
theorem num_inj {n m : Nat} (hn : n < 70) (hm : m < 70) (h : numS n = numS m) : n = m := congrArg Fin.val (num_inj0 ⟨n, hn⟩ ⟨m, hm⟩ (by rw [h]))
/-- the tries for a name: the word, then the word with 1, 2 .. -/
def tryS (z : Str) : Nat → Str
  | 0 => z
  | n + 1 => z ++ numS (n + 1)
theorem app_inj {a b c : Str} (h : a ++ b = a ++ c) : b = c := by
  have e := congrArg (fun z : Str => z.cps.toList) h
  simp only [toList_app] at e
  have q := List.append_cancel_left e
  cases b; cases c
  simp only at q
  congr
  exact Array.toList_inj.mp q
theorem try_inj {z : Str} {n m : Nat} (hn : n < 70) (hm : m < 70) (h : tryS z n = tryS z m) : n = m := by
  have key : ∀ k, k + 1 < 70 → z ≠ z ++ numS (k + 1) := fun k hk e => by
    have l := congrArg (fun z : Str => z.cps.toList.length) e
    simp only [toList_app, List.length_append] at l
    have q := (num_sign hk).2.2
    have q' : 1 ≤ (numS (k + 1)).cps.toList.length := by simpa [PySem.Str.length] using q
    omega
  cases n with
  | zero =>
    cases m with
    | zero => rfl
    | succ m => exact (key m hm h).elim
  | succ n =>
    cases m with
    | zero => exact (key n hn h.symm).elim
    | succ m => exact num_inj hn hm (app_inj h)
theorem holes {α : Type} [BEq α] [LawfulBEq α] {f : Nat → α} : ∀ {n : Nat} {l : List α}, (∀ i j, i < n → j < n → f i = f j → i = j) → (∀ i, i < n → f i ∈ l) → n ≤ l.length
  | 0, _, _, _ => Nat.zero_le _
  | n + 1, l, inj, h => by
    have hm := h n (Nat.lt_succ_self n)
    have q := holes (n := n) (l := l.erase (f n)) (fun i j hi hj => inj i j (by omega) (by omega)) (fun i hi => by
      refine (List.mem_erase_of_ne fun e => ?_).mpr (h i (by omega))
      have := inj i n (by omega) (by omega) e
      omega)
    rw [List.length_erase_of_mem hm] at q
    have := List.length_pos_of_mem hm
    omega
theorem try_end {z : Str} {taken : List Str} {n : Nat} (ht : taken.length ≤ 60) (h : ∀ i, i < n → tryS z i ∈ taken) (hn : n ≤ 61) : n ≤ taken.length :=
  holes (f := tryS z) (fun i j hi hj e => try_inj (by omega) (by omega) e) h
theorem inV_strs {z : Str} {ns : List Str} : inV (.str z) (ns.map V.str) = decide (z ∈ ns) := by
  unfold inV
  rw [List.any_map]
  induction ns with
  | nil => simp
  | cons a r ih =>
    rw [List.any_cons, ih]
    have e : eqV (.str a) (.str z) = decide (a = z) := by
      unfold eqV
      by_cases h : a = z
      · simp [h]
      · simp [h]
    show (eqV (.str a) (.str z) || _) = _
    rw [e]
    by_cases h : a = z
    · simp [h]
    · have h' : ¬ z = a := fun x => h x.symm
      simp [h, h']
end Wm
namespace Wm
open PySem L2
theorem StOk.upd {p d : Addr} {H : Hp} {o : HO} (n : d ≠ p) (h : StOk H p) : StOk (L2.upd H d o) p := by
  obtain ⟨a, b, c, e, r⟩ := h
  exact ⟨a, b, c, by rw [upd_ne n.symm]; exact e, r⟩
theorem StOk.same {p : Addr} {H H' : Hp} (e : Same H H') (h : StOk H p) : StOk H' p := by
  obtain ⟨a, b, c, q, r⟩ := h
  exact ⟨a, b, c, e _ _ q, r⟩
theorem st_free {p d : Addr} {H : Hp} (h : StOk H p) (n : H d = none) : d ≠ p := by
  obtain ⟨a, b, c, e, _⟩ := h
  exact fun z => by
    rw [z, e] at n
    cases n
theorem but_new {p d : Addr} {H H1 : Hp} {o : HO} (b : But p H H1) (n : d ≠ p) (h0 : H d = none) : But p H (L2.upd H1 d o) := fun q u nq e => by
  rw [upd_ne (ne_of_none e h0)]
  exact b q u nq e
theorem flats (ns : List Str) : (ns.map V.str).all flatV = true := by
  induction ns with
  | nil => rfl
  | cons a r ih => rw [List.map_cons, List.all_cons, ih]; rfl
theorem cut1 {a R : TS} {D : Ends} {σ : L2.St} {H : Hp} (Good : L2.St → Hp → Prop) (fin : ∀ σ' H', Good σ' H' → R D σ' H') (h : ∀ R' : TS, (∀ σ' H', Good σ' H' → R' D σ' H') → tSeq a R' D σ H) : tSeq a R D σ H := h R fin
theorem str_get {ws : List Str} {d : Int} (h0 : 0 ≤ d) (h1 : d < ((ws.map V.str).length : Int)) : ∃ w, w ∈ ws ∧ (ws.map V.str)[d.toNat]? = some (.str w) := by
  rw [List.length_map] at h1
  have hlt : d.toNat < ws.length := by omega
  refine ⟨ws[d.toNat], List.getElem_mem hlt, ?_⟩
  rw [List.getElem?_map, List.getElem?_eq_getElem hlt]
  rfl
theorem StN.upd {n : Nat} {p d : Addr} {H : Hp} {o : HO} (q : d ≠ p) (h : StN n H p) : StN n (L2.upd H d o) p := by
  obtain ⟨a, b, c, e, r⟩ := h
  exact ⟨a, b, c, by rw [upd_ne q.symm]; exact e, r⟩
theorem StN.same {n : Nat} {p : Addr} {H H' : Hp} (e : Same H H') (h : StN n H p) : StN n H' p := by
  obtain ⟨a, b, c, q, r⟩ := h
  exact ⟨a, b, c, e _ _ q, r⟩
def spPkS : Sp := fun vs H Q _ => ∃ (p : Addr) (z : Str) (k : Nat), vs = [.ref p, .str z] ∧ StN k H p ∧ k ≤ 1000000 ∧ 1 ≤ z.length ∧ z.length ≤ 1000 ∧ ∀ (j c : Nat) H', z.cps.toList[j]? = some c → But p H H' → StN (k + 1) H' p → Q (.str ⟨#[c]⟩) H'
def spPkL : Sp := fun vs H Q _ => ∃ (p l : Addr) (xs : List V) (k : Nat), vs = [.ref p, .ref l] ∧ StN k H p ∧ k ≤ 1000000 ∧ H l = some (.lst xs) ∧ l ≠ p ∧ 1 ≤ xs.length ∧ xs.length ≤ 1000 ∧ ∀ (j : Nat) (v : V) H', xs[j]? = some v → But p H H' → StN (k + 1) H' p → Q v H'
abbrev L26 : Str := PySem.Str.ofString "abcdefghijklmnopqrstuvwxyz"
theorem l26_len : L26.length = 26 := by decide +kernel
theorem l26_low0 : L26.cps.toList.all (fun c => decide (97 ≤ c ∧ c ≤ 122)) = true := by decide +kernel
theorem l26_low {j c : Nat} (h : L26.cps.toList[j]? = some c) : lowC c := by
  have q : 97 ≤ c ∧ c ≤ 122 := of_decide_eq_true (List.all_eq_true.mp l26_low0 c (List.mem_of_getElem? h))
  exact q
theorem l36_eq : L26 ++ PySem.Str.ofString "0123456789" = ABC36 := by decide +kernel
def nS (k : Nat) : Str := PySem.Str.ofString "n" ++ numS k
def mS (k : Nat) : Str := PySem.Str.ofString "m" ++ numS k
theorem n_low : NmP (PySem.Str.ofString "n") := ⟨110, [], by decide +kernel, ⟨by decide, by decide⟩, fun _ h => nomatch h⟩
theorem m_low : NmP (PySem.Str.ofString "m") := ⟨109, [], by decide +kernel, ⟨by decide, by decide⟩, fun _ h => nomatch h⟩
theorem nS_nm {k : Nat} (h : k < 70) : NmP (nS k) ∧ (nS k).length ≤ 12 := by
  have q := num_sign h
  refine ⟨n_low.app q.1, ?_⟩
  show (PySem.Str.ofString "n" ++ numS k).length ≤ 12
  rw [len_app, show (PySem.Str.ofString "n").length = 1 by decide +kernel]
  omega
theorem mS_nm {k : Nat} (h : k < 70) : NmP (mS k) ∧ (mS k).length ≤ 12 := by
  have q := num_sign h
  refine ⟨m_low.app q.1, ?_⟩
  show (PySem.Str.ofString "m" ++ numS k).length ≤ 12
  rw [len_app, show (PySem.Str.ofString "m").length = 1 by decide +kernel]
  omega
theorem log_small {n : Nat} (h : n ≤ 100) : ((n : Int)).natAbs.log2 < 1920 := by
  have e : ((n : Int)).natAbs = n := by omega
  rw [e]
  have q : n.log2 ≤ n := Nat.log2_le_self _
  omega
def spNam (K : PySem.W.Frag) : Sp := fun vs H Q _ => ∃ (p ln : Addr) (taken : List Str) (k : Nat), vs = [.ref p, .ref ln] ∧ StN k H p ∧ k ≤ 900000 ∧ ln ≠ p ∧ H ln = some (.lst (taken.map V.str)) ∧ taken.length ≤ 60 ∧
  ∀ (z : Str) H', NmP z → z.length ≤ 12 → z ∉ taken → But p H H' → StN (k + 20) H' p → Q (.str z) H'
def spNms (K : PySem.W.Frag) : Sp := fun vs H Q _ => ∃ (p : Addr) (n : Int) (k : Nat), vs = [.ref p, .int n] ∧ StN k H p ∧ k ≤ 800000 ∧ 0 ≤ n ∧ n ≤ 60 ∧
  ∀ (zs : List Str) d H', H d = none → d ≠ p → But p H H' → StN (k + 20 * n.toNat) H' p → H' d = some (.lst (zs.map V.str)) → zs.length = n.toNat → zs.Nodup → (∀ z ∈ zs, NmP z ∧ z.length ≤ 12) → Q (.ref d) H'
section
variable {P : Program} {w : World} {K : PySem.W.Frag} {mg : Str → Option Value} {base : Heap}
theorem scPck : FnScope ["_law_well_here", "_law_some"] ["_law_well_here", "_law_some"] (defScope sPck) := ⟨rfl, rfl, rfl, by decide +kernel, rfl, by decide +kernel, by decide +kernel⟩
theorem ok_pks {f fG : Addr} {fd dG : FuncData} (F : Fun K "_law_pick" "_law_pick" sPck f fd) (T : TxB mg) (DG : Dn K mg "_law_draw" sDrw ["_law_well_here", "_law_many"] fG dG) : FnOk P w K mg base CX0 2 f fd ["_law_well_here", "_law_some"] spPkS := by
  have GG : FnOk P w K mg base CX0 1 fG dG _ spDrw := ok_drw DG.F
  refine F.ok scPck (fun vs H Q E h => ?_) (fun cdv A outer s H vs Q E hr h => ?_)
  · obtain ⟨p, z, k, rfl, _⟩ := h
    rfl
  · obtain ⟨p, z, k, rfl, hS, hk, z1, z2, kk⟩ := h
    have hr1 : Room 1 _ := hr
    refine ⟨_, (pss_one (ps_ret (pe_ix ix_str (pv 1) (pe_call GG hr1 rfl DG.g DG.F.kp DG.b .nil pass0 (pa_cons (pv 0) (pa_cons (pe_callB call_len_str (by rfl) T.len (by decide +kernel) (pa_cons (pv 1) pa_nil)) pa_nil))) (fun _ _ => rfl)))), ?_⟩
    refine ⟨_, rfl, _, rfl, _, rfl, z, rfl, Nat.le_trans z2 (by decide), p, _, k, rfl, hS, hk, by omega, by omega, fun d H1 d0 d1 B1 S1 => ?_⟩
    exact rdItem rfl d0 (by omega) (by omega) fun c hc => kk _ c H1 hc B1 S1
theorem ok_pkl {f fG : Addr} {fd dG : FuncData} (F : Fun K "_law_pick" "_law_pick" sPck f fd) (T : TxB mg) (DG : Dn K mg "_law_draw" sDrw ["_law_well_here", "_law_many"] fG dG) : FnOk P w K mg base CX0 2 f fd ["_law_well_here", "_law_some"] spPkL := by
  have GG : FnOk P w K mg base CX0 1 fG dG _ spDrw := ok_drw DG.F
  refine F.ok scPck (fun vs H Q E h => ?_) (fun cdv A outer s H vs Q E hr h => ?_)
  · obtain ⟨p, l, xs, k, rfl, _⟩ := h
    rfl
  · obtain ⟨p, l, xs, k, rfl, hS, hk, hl, nl, z1, z2, kk⟩ := h
    have hr1 : Room 1 _ := hr
    refine ⟨_, (pss_one (ps_ret (pe_ix ix_list (pv 1) (pe_call GG hr1 rfl DG.g DG.F.kp DG.b .nil pass0 (pa_cons (pv 0) (pa_cons (pe_callB call_len_seq (by rfl) T.len (by decide +kernel) (pa_cons (pv 1) pa_nil)) pa_nil))) (fun _ _ => rfl)))), ?_⟩
    refine ⟨_, rfl, _, rfl, _, rfl, l, _, rfl, .inl (SqL.of hl), p, _, k, rfl, hS, hk, by omega, by omega, fun d H1 d0 d1 B1 S1 => ?_⟩
    have hd : d.toNat < xs.length := by omega
    have e : xs[d.toNat]? = some xs[d.toNat] := List.getElem?_eq_getElem hd
    exact rdList (B1 _ _ nl hl) (j := d.toNat) (by omega) e (kk _ _ H1 e B1 S1)
theorem scNam : FnScope ["_law_well_here", "_law_taken", "_law_letters", "_law_way", "_law_name_here", "_law_k", "_law_some", "_law_one"] ["_law_well_here", "_law_taken"] (defScope sNam) := ⟨rfl, rfl, rfl, by decide +kernel, rfl, by decide +kernel, by decide +kernel⟩
theorem ok_nam {f fG fP : Addr} {fd dG dP : FuncData} (F : Fun K "_law_name" "_law_name" sNam f fd) (T : TxB mg) (tstr : mg "str" = none) (DG : Dn K mg "_law_draw" sDrw ["_law_well_here", "_law_many"] fG dG) (DP : Dn K mg "_law_pick" sPck ["_law_well_here", "_law_some"] fP dP) : FnOk P w K mg base CX0 3 f fd ["_law_well_here", "_law_taken"] (spNam K) := by
  have GG : FnOk P w K mg base CX0 1 fG dG _ spDrw := ok_drw DG.F
  have GP : FnOk P w K mg base CX0 2 fP dP _ spPkS := ok_pks DP.F T DG
  refine F.ok scNam (fun vs H Q E h => ?_) (fun cdv A outer s H vs Q E hr h => ?_)
  · obtain ⟨p, ln, tk, k, rfl, _⟩ := h
    rfl
  · obtain ⟨p, ln, tk, k, rfl, hS, hk, nlp, hT, hl, kk⟩ := h
    have hr1 : Room 1 _ := hr.mono (by decide)
    have hr2 : Room 2 _ := hr
    refine ⟨_, (pss_cons (ps_set (i := 2) scNam.nd rfl (Or.inl rfl) pe_str)
      (pss_cons (ps_set (i := 3) scNam.nd rfl (Or.inl rfl) (pe_call GG hr1 rfl DG.g DG.F.kp DG.b .nil pass0 (pa_cons (pv 0) (pa_cons pe_int pa_nil))))
      (pss_cons (ps_set (i := 4) scNam.nd rfl (Or.inl rfl) (pe_call GP hr2 rfl DP.g DP.F.kp DP.b .nil pass0 (pa_cons (pv 0) (pa_cons (pv 2) pa_nil))))
      (pss_cons (ps_if (pt_cmpR op_eq (pv 3) pe_int (nomark _)) (pss_one (ps_set (i := 4) scNam.nd rfl (Or.inl rfl) (pe_op op_add_str pe_str (pe_callTy call_str_int (by rfl) tstr (by decide +kernel) (pa_cons (pe_op op_add pe_int (pe_call GG hr1 rfl DG.g DG.F.kp DG.b .nil pass0 (pa_cons (pv 0) (pa_cons pe_int pa_nil)))) pa_nil))))) (pss_one (ps_if (pt_cmpR op_lt (pv 3) pe_int (nomark _)) (pss_one (ps_for PassesOwn.never rfl (pi_range1 rfl T.range (pa_cons (pe_ix ix_list (pe_lst (pa_cons pe_int (pa_cons pe_int (pa_cons pe_int (pa_cons pe_int pa_nil))))) (pe_call GG hr1 rfl DG.g DG.F.kp DG.b .nil pass0 (pa_cons (pv 0) (pa_cons pe_int pa_nil))) (fun _ _ => rfl)) pa_nil)) (pg_name (i := 5) scNam.nd rfl (Or.inl rfl)) (pss_one (ps_set (i := 4) scNam.nd rfl (Or.inl rfl) (pe_op op_add_str (pv 4) (pe_call GP hr2 rfl DP.g DP.F.kp DP.b .nil pass0 (pa_cons (pv 0) (pa_cons (pe_op op_add_str (pv 2) pe_str) pa_nil)))))))) pss_nil)))
      (pss_cons (ps_set (i := 6) scNam.nd rfl (Or.inl rfl) (pe_op op_cat (pe_lst (pa_cons (pv 4) pa_nil)) (pe_lc (own := [("_law_k", 5)]) (g := gName 5) rfl scNam.nd (pi_range1 rfl T.range (pa_cons (pe_op op_add (pe_callB call_len_seq (by rfl) T.len (by decide +kernel) (pa_cons (pv 1) pa_nil)) pe_int) pa_nil)) (blkOk_by (N := ["_law_well_here", "_law_taken", "_law_letters", "_law_way", "_law_name_here", "_law_k", "_law_some", "_law_one"]) (sc := defScope sNam) (by decide +kernel)) (fun _ _ _ _ _ => (pg_name (i := 5) scNam.nd rfl (Or.inl rfl))) (fun _ _ _ _ _ => pts_nil) (fun _ _ _ _ _ => (pe_op op_add_str pe_str (pe_callTy call_str_int (by rfl) tstr (by decide +kernel) (pa_cons (pv 5) pa_nil)))))))
      (pss_one (ps_ret (pe_ix ix_list (pe_lc (own := [("_law_one", 7)]) (g := gName 7) (tt := tTest (tOp (rIn K true) (tVar 7) (tVar 1))) (te := tVar 7) rfl scNam.nd (pi_list (pv 6)) (blkOk_by (N := ["_law_well_here", "_law_taken", "_law_letters", "_law_way", "_law_name_here", "_law_k", "_law_some", "_law_one"]) (sc := defScope sNam) (by decide +kernel)) (fun _ _ _ _ _ => (pg_name (i := 7) scNam.nd rfl (Or.inl rfl))) (fun _ _ _ _ _ => (pts_one (pt_cmpR op_notIn_seq (pv 7) (pv 1) (by rfl)))) (fun _ _ _ _ _ => (pv 7))) pe_int (fun _ _ => rfl))))))))), ?_⟩
    refine ⟨_, rfl, p, 5, k, rfl, hS, by omega, by decide, by decide, fun wy H1 w0 w1 B1 S1 => ?_⟩
    refine ⟨_, rfl, _, rfl, p, L26, k + 1, rfl, S1, by omega, by rw [l26_len]; decide, by rw [l26_len]; decide, fun j c H2 hc B2 S2 => ?_⟩
    have hc' := l26_low hc
    have B12 := B1.trans B2
    -- the name that is drawn
    dsimp only [gName]
    show tSeq _ _ _ [some (.ref p), some (.ref ln), some (.str L26), some (.int wy), some (.str ⟨#[c]⟩), none, none, none] _
    refine cut1 (fun σ' H' => ∃ (z : Str) (u5 : Option V), σ' = [some (.ref p), some (.ref ln), some (.str L26), some (.int wy), some (.str z), u5, none, none] ∧ NmP z ∧ z.length ≤ 12 ∧ But p H H' ∧ StN (k + 20) H' p) ?_ (fun R' fin => ?_)
    · rintro σ' H3 ⟨z, u5, rfl, hz, hzl, B3, S3⟩
      have hT3 := B3 _ _ nlp hT
      refine ⟨_, rfl, by show 1 ≤ sizeLine; decide, fun l1 hl1 => ?_⟩
      have T1 : Same H3 (L2.upd H3 l1 (.lst [.str z])) := Same.upd hl1
      have e1 : (L2.upd H3 l1 (.lst [.str z])) l1 = some (.lst [.str z]) := upd_same
      generalize L2.upd H3 l1 (.lst [.str z]) = H4 at T1 e1
      refine ⟨_, rfl, ln, _, rfl, .inl (SqL.of (T1 _ _ hT3)), _, _, rfl, rfl, _, rfl, by omega, by rw [List.length_map]; omega, fun D hD => ?_⟩
      refine lc_range (lo := 0) (n := _) (fun i H' => Same H4 H' ∧ H' D = some (.lst (((List.range i).map nS).map V.str))) ⟨Same.upd hD, upd_same⟩ ?_ ?_
      · rintro i H5 hi ⟨S5, h5⟩
        rw [List.length_map] at hi
        have hi' : i ≤ 60 := by omega
        have ei : (0 + (i : Int)) = ((i : Nat) : Int) := by omega
        refine ⟨rfl, _, rfl, _, rfl, by rw [ei]; exact log_small (by omega), _, _, rfl, rfl, ?_, _, h5, ?_, fun b o e => ?_, ?_⟩
        · have q := num_sign (n := i) (by omega)
          rw [ei]
          exact Nat.le_trans (show 1 + (numS i).length ≤ 100 by omega) (by decide)
        · rw [List.length_map, List.length_map, List.length_range]
          exact Nat.lt_of_le_of_lt (show _ ≤ 1000 by omega) (by decide)
        · rw [upd_ne (ne_of_none e hD)]
          exact S5 _ _ e
        · rw [upd_same, List.range_succ, List.map_append, List.map_append, ei]
          rfl
      rintro H5 ⟨S5, h5⟩
      rw [List.length_map, show (((tk.length : Nat) : Int) + 1).toNat = tk.length + 1 by omega] at h5
      refine ⟨l1, D, _, _, rfl, rfl, S5 _ _ e1, h5, ?_, fun sm hsm => ?_⟩
      · rw [List.length_map, List.length_map, List.length_range]
        exact Nat.le_trans (show _ ≤ 1000 by show 1 + (tk.length + 1) ≤ 1000; omega) (by decide)
      have T6 : Same H5 (L2.upd H5 sm (.lst ([.str z] ++ ((List.range (tk.length + 1)).map nS).map V.str))) := Same.upd hsm
      have e6 : (L2.upd H5 sm (.lst ([.str z] ++ ((List.range (tk.length + 1)).map nS).map V.str))) sm = some (.lst ((z :: (List.range (tk.length + 1)).map nS).map V.str)) := upd_same
      generalize L2.upd H5 sm (.lst ([.str z] ++ ((List.range (tk.length + 1)).map nS).map V.str)) = H6 at T6 e6
      have S36 := (T1.trans S5).trans T6
      have hT6 := S36 _ _ hT3
      have all12 : ∀ y ∈ z :: (List.range (tk.length + 1)).map nS, NmP y ∧ y.length ≤ 12 := fun y hy => by
        rcases List.mem_cons.mp hy with rfl | hy
        · exact ⟨hz, hzl⟩
        · obtain ⟨i, hi, rfl⟩ := List.mem_map.mp hy
          exact nS_nm (by have := List.mem_range.mp hi; omega)
      have some1 : ∃ y ∈ z :: (List.range (tk.length + 1)).map nS, y ∉ tk := by
        apply Classical.byContradiction
        intro q
        have q2 : ∀ i, i < tk.length + 1 → nS i ∈ tk := fun i hi => Classical.byContradiction fun z' => q ⟨nS i, List.mem_cons_of_mem _ (List.mem_map.mpr ⟨i, List.mem_range.mpr hi, rfl⟩), z'⟩
        have q3 := holes (f := nS) (n := tk.length + 1) (l := tk) (fun i j hi hj e => num_inj (by omega) (by omega) (app_inj e)) q2
        omega
      generalize hal : z :: (List.range (tk.length + 1)).map nS = al at e6 all12 some1
      have al9 : al.length ≤ 100 := by
        rw [← hal, List.length_cons, List.length_map, List.length_range]
        omega
      refine ⟨_, rfl, sm, rfl, ⟨_, SqL.of e6⟩, fun M hM => ?_⟩
      refine lc_list (K := K) (a := sm) (xs := al.map V.str) (fun i H' => Same H6 H' ∧ H' M = some (.lst (((al.take i).filter fun y => !decide (y ∈ tk)).map V.str))) ⟨Same.upd hM, upd_same⟩ (fun i H' _ h => SqL.of (h.1 _ _ e6)) ?_ ?_
      · rintro i v H7 hv ⟨S7, h7⟩
        obtain ⟨y, hy, rfl⟩ := map_str_get hv
        refine ⟨rfl, _, rfl, _, rfl, ln, _, rfl, .inl (SqL.of (S7 _ _ hT6)), rfl, flats tk, _, rfl, ?_⟩
        rw [if_pos rfl, inV_strs]
        by_cases hin : y ∈ tk
        · rw [decide_eq_true hin]
          refine iteF ⟨S7, ?_⟩
          rw [h7, List.take_add_one, hy, List.filter_append]
          simp [hin]
        · rw [decide_eq_false hin]
          refine iteT ⟨_, rfl, _, h7, ?_, fun b o e => ?_, ?_⟩
          · rw [List.length_map]
            exact Nat.lt_of_le_of_lt (Nat.le_trans (List.length_filter_le _ _) (show _ ≤ 1000 by rw [List.length_take]; omega)) (by decide)
          · rw [upd_ne (ne_of_none e hM)]
            exact S7 _ _ e
          · rw [upd_same, List.take_add_one, hy, List.filter_append]
            simp [hin]
      rintro H7 ⟨S7, h7⟩
      rw [List.length_map, List.take_length] at h7
      have ne : (al.filter fun y => !decide (y ∈ tk)) ≠ [] := fun q => by
        obtain ⟨y, hy, hn⟩ := some1
        have hq : y ∈ al.filter fun y => !decide (y ∈ tk) := List.mem_filter.mpr ⟨hy, by simpa using hn⟩
        rw [q] at hq
        cases hq
      obtain ⟨y, r, hyr⟩ := List.exists_cons_of_ne_nil ne
      have hym := List.mem_filter.mp (show y ∈ al.filter fun y => !decide (y ∈ tk) by rw [hyr]; exact List.mem_cons_self ..)
      rw [hyr] at h7
      refine ⟨M, _, 0, .str y, rfl, rfl, SqL.of h7, atI_nat (j := 0) rfl, ?_⟩
      exact kk y H7 (all12 y hym.1).1 (all12 y hym.1).2 (by simpa using hym.2) (fun q o n e => S7 _ _ (S36 _ _ (B3 q o n e))) (S3.same (S36.trans S7))
    · refine ⟨_, rfl, rfl, _, rfl, ite2 (fun _ => ?_) (fun _ => ?_)⟩
      · refine ⟨_, rfl, p, 4, k + 2, rfl, S2, by omega, by decide, by decide, fun d H3 d0 d1 B3 S3 => ?_⟩
        have ed : (1 + d) = ((1 + d.toNat : Nat) : Int) := by omega
        refine ⟨_, _, rfl, rfl, _, rfl, by rw [ed]; exact log_small (by omega), _, _, rfl, rfl, ?_, ?_⟩
        · have q := num_sign (n := 1 + d.toNat) (by omega)
          rw [ed]
          exact Nat.le_trans (show 1 + (numS (1 + d.toNat)).length ≤ 100 by omega) (by decide)
        · have q := mS_nm (k := 1 + d.toNat) (by omega)
          rw [ed]
          exact fin _ _ ⟨_, _, rfl, q.1, q.2, B12.trans B3, S3.mono (by omega)⟩
      · refine ⟨_, rfl, _, _, rfl, rfl, _, rfl, ite2 (fun _ => ?_) (fun _ => ?_)⟩
        · refine ⟨by show 4 ≤ sizeLine; decide, fun l hl => ?_⟩
          have nlq := st_free S2.ok hl
          refine ⟨_, rfl, p, 4, k + 2, rfl, S2.upd nlq, by omega, by decide, by decide, fun d H3 d0 d1 B3 S3 => ?_⟩
          have hl3 := B3 l _ nlq upd_same
          obtain ⟨m, hm, m11⟩ : ∃ m : Nat, [V.int 0, .int 1, .int 2, .int 11][d.toNat]? = some (.int (m : Int)) ∧ m ≤ 11 := by
            rcases (by omega : d = 0 ∨ d = 1 ∨ d = 2 ∨ d = 3) with rfl | rfl | rfl | rfl
            · exact ⟨0, rfl, by decide⟩
            · exact ⟨1, rfl, by decide⟩
            · exact ⟨2, rfl, by decide⟩
            · exact ⟨11, rfl, by decide⟩
          refine rdList hl3 (j := d.toNat) (by omega) hm ⟨_, rfl, by omega, by omega, ?_⟩
          have B13 : But p H H3 := (but_new B12 nlq (B12.free nlq hl)).trans B3
          refine for_range (n := ((m : Nat) : Int).toNat) (fun i σ H' => ∃ (z : Str) (v : Option V), σ = [some (.ref p), some (.ref ln), some (.str L26), some (.int wy), some (.str z), v, none, none] ∧ z.length ≤ i + 1 ∧ NmP z ∧ But p H H' ∧ StN (k + 3 + i) H' p) ⟨⟨#[c]⟩, none, rfl, Nat.le_refl _, NmP.one hc', B13, S3⟩ ?_ ?_
          · rintro i σ H4 hi ⟨z, v, rfl, hz, hp, B4, S4⟩
            rw [Int.toNat_natCast] at hi
            refine ⟨_, rfl, _, rfl, _, rfl, _, _, rfl, rfl, ?_, ?_⟩
            · show L26.length + (PySem.Str.ofString "0123456789").length ≤ _
              rw [l26_len, show (PySem.Str.ofString "0123456789").length = 10 by decide +kernel]
              decide
            rw [l36_eq]
            refine ⟨p, ABC36, k + 3 + i, rfl, S4, by omega, by rw [abc36_len]; decide, by rw [abc36_len]; decide, fun j c H5 hc B5 S5 => ?_⟩
            refine ⟨_, _, rfl, rfl, ?_, _, _, rfl, ?_, hp.app (fun d hd => ?_), B4.trans B5, S5⟩
            · rw [len_one]
              exact Nat.le_trans (show z.length + 1 ≤ 100 by omega) (by decide)
            · rw [len_app, len_one]
              omega
            · have e : d = c := by simpa using hd
              rw [e]
              exact abc_any hc
          · rintro σ H4 ⟨z, v, rfl, hz, hp, B4, S4⟩
            rw [Int.toNat_natCast] at hz S4
            exact fin _ _ ⟨z, v, rfl, hp, by omega, B4, S4.mono (by omega)⟩
        · exact fin _ _ ⟨⟨#[c]⟩, none, rfl, NmP.one hc', by show 1 ≤ 12; decide, B12, S2.mono (by omega)⟩
theorem scNms : FnScope ["_law_well_here", "_law_many", "_law_found", "_law_k"] ["_law_well_here", "_law_many"] (defScope sNms) := ⟨rfl, rfl, rfl, by decide +kernel, rfl, by decide +kernel, by decide +kernel⟩
theorem ok_nms {f fL : Addr} {fd dL : FuncData} (F : Fun K "_law_names" "_law_names" sNms f fd) (T : TxB mg) (D : Dn K mg "_law_name" sNam ["_law_well_here", "_law_taken"] fL dL) (G : FnOk P w K mg base CX0 3 fL dL ["_law_well_here", "_law_taken"] (spNam K)) : FnOk P w K mg base CX0 4 f fd ["_law_well_here", "_law_many"] (spNms K) := by
  refine F.ok scNms (fun vs H Q E h => ?_) (fun cdv A outer s H vs Q E hr h => ?_)
  · obtain ⟨p, n, k, rfl, _⟩ := h
    rfl
  · obtain ⟨p, n, q, rfl, hS, hq, n0, n6, k⟩ := h
    have hr3 : Room 3 _ := hr
    refine ⟨_, (pss_cons (ps_set (i := 2) scNms.nd rfl (Or.inl rfl) (pe_lst pa_nil))
      (pss_cons (ps_for PassesOwn.never rfl (pi_range1 rfl T.range (pa_cons (pv 1) pa_nil)) (pg_name (i := 3) scNms.nd rfl (Or.inl rfl)) (pss_one (ps_expr (pe_bm PySem.F.plainAttrs_list PySem.F.slot_list_append PySem.F.type_list_append mt_append (pv 2) (pa_cons (pe_call G hr3 rfl D.g D.F.kp D.b .nil pass0 (pa_cons (pv 0) (pa_cons (pv 2) pa_nil))) pa_nil)))))
      (pss_one (ps_ret (pv 2))))), ?_⟩
    refine ⟨Nat.zero_le _, fun d hd => ?_⟩
    have ndp := st_free hS.ok hd
    refine ⟨_, rfl, n, rfl, by omega, by omega, ?_⟩
    refine for_range (n := n.toNat) (fun i σ H' => (∃ u, σ = [some (.ref p), some (.int n), some (.ref d), u]) ∧ ∃ zs : List Str, H' d = some (.lst (zs.map V.str)) ∧ zs.Nodup ∧ (∀ z ∈ zs, NmP z ∧ z.length ≤ 12) ∧ zs.length = i ∧ But p H H' ∧ StN (q + 20 * i) H' p)
      ⟨⟨none, rfl⟩, [], upd_same, List.nodup_nil, fun z hz => (List.not_mem_nil hz).elim, rfl, but_new (But.refl p H) ndp hd, hS.upd ndp⟩ ?_ ?_
    · rintro i σ H1 hi ⟨⟨u, rfl⟩, zs, hl, nd, nm, len, B, S⟩
      refine ⟨_, rfl, .inl ⟨rfl, _, SqL.of hl⟩, _, rfl, _, rfl, p, d, zs, q + 20 * i, rfl, S, by omega, ndp, hl, by omega, fun z H2 hz hz6 hm B2 S2 => ?_⟩
      have hl2 := B2 d _ ndp hl
      refine ⟨d, _, _, rfl, rfl, hl2, ?_, ?_⟩
      · rw [List.length_map]
        exact Nat.lt_of_le_of_lt (show _ ≤ 1000 by omega) (by decide)
      · refine ⟨⟨_, rfl⟩, zs ++ [z], ?_, ?_, ?_, ?_, but_new (B.trans B2) ndp hd, (S2.upd ndp).mono (by omega)⟩
        · rw [upd_same, List.map_append]
          rfl
        · rw [List.nodup_append]
          exact ⟨nd, (by simp : [z].Nodup), fun a ha b hb e => by
            have eb : b = z := by simpa using hb
            rw [e, eb] at ha
            exact hm ha⟩
        · intro y hy
          rcases List.mem_append.mp hy with hy | hy
          · exact nm y hy
          · rw [List.mem_singleton.mp hy]
            exact ⟨hz, hz6⟩
        · rw [List.length_append, List.length_singleton]
          omega
    · rintro σ H1 ⟨⟨u, rfl⟩, zs, hl, nd, nm, len, B, S⟩
      exact ⟨_, rfl, k zs d H1 hd ndp B S hl len nd nm⟩
end
end Wm
namespace Wm
open PySem L2 StX
def makF (mk md : Str) (t1 t2 : Addr) : List (Str × V) := putF "up" (.ref t2) (putF "down" (.ref t1) (putF "made" (.str md) (putF "maker" (.str mk) [])))
theorem nm1 : ¬ (("maker" : Str) = "up") := by decide +kernel
theorem nm2 : ¬ (("maker" : Str) = "down") := by decide +kernel
theorem nm3 : ¬ (("maker" : Str) = "made") := by decide +kernel
theorem nm4 : ¬ (("made" : Str) = "up") := by decide +kernel
theorem nm5 : ¬ (("made" : Str) = "down") := by decide +kernel
theorem nm6 : ¬ (("down" : Str) = "up") := by decide +kernel
theorem makF_maker (mk md : Str) (t1 t2 : Addr) : (makF mk md t1 t2).lookup ("maker" : Str) = some (.str mk) := by
  unfold makF
  rw [lookup_putF, if_neg nm1, lookup_putF, if_neg nm2, lookup_putF, if_neg nm3, lookup_putF, if_pos rfl]
theorem makF_made (mk md : Str) (t1 t2 : Addr) : (makF mk md t1 t2).lookup ("made" : Str) = some (.str md) := by
  unfold makF
  rw [lookup_putF, if_neg nm4, lookup_putF, if_neg nm5, lookup_putF, if_pos rfl]
theorem makF_down (mk md : Str) (t1 t2 : Addr) : (makF mk md t1 t2).lookup ("down" : Str) = some (.ref t1) := by
  unfold makF
  rw [lookup_putF, if_neg nm6, lookup_putF, if_pos rfl]
theorem makF_up (mk md : Str) (t1 t2 : Addr) : (makF mk md t1 t2).lookup ("up" : Str) = some (.ref t2) := by
  unfold makF
  rw [lookup_putF, if_pos rfl]
structure TxMak (K : PySem.W.Frag) (mg : Str → Option Value) (B fB : Addr) : Prop where
  cl : Cls K B
  nk : NoAttr K B "maker"
  nd : NoAttr K B "made"
  nw : NoAttr K B "down"
  nu : NoAttr K B "up"
  g : mg "Making" = some (.ref B)
  m : Mk K B fB
def spMak (K : PySem.W.Frag) (C B : Addr) : Sp := fun vs H Q E => ∃ (H0 : Hp) (x dx l1 l2 : Addr) (mk md : Str) (ds us : List Str), vs = [.ref x, .str mk, .str md, .ref l1, .ref l2] ∧ Same H0 H ∧ H0 x = none ∧ H x = some (.ins B dx []) ∧
  SqL K H0 l1 (ds.map V.str) ∧ SqL K H0 l2 (us.map V.str) ∧ ds.length ≤ 100 ∧ us.length ≤ 100 ∧ NoTw (ds.map V.str) ∧ NoTw (us.map V.str) ∧ (∀ z ∈ mk :: md :: (ds ++ us), z.length ≤ 1000) ∧
  DueM C (mk :: md :: (ds ++ us)) H0 (fun H' => ∀ t1 t2, H' x = some (.ins B dx (makF mk md t1 t2)) → H' t1 = some (.tup (ds.map V.str)) → H' t2 = some (.tup (us.map V.str)) → Q .non H') E
section
variable {P : Program} {w : World} {K : PySem.W.Frag} {mg : Str → Option Value} {base : Heap}
theorem scMak : FnScope ["self", "maker", "made", "down", "up"] ["self", "maker", "made", "down", "up"] (defScope sMak) := ⟨rfl, rfl, rfl, by decide +kernel, rfl, by decide +kernel, by decide +kernel⟩
theorem ok_mak {f fRN fRT C B : Addr} {fd dRN dRT : FuncData} (F : Fun K "__init__" "Making.__init__" sMak f fd) (T : TxB mg) (TM : TxMak K mg B f) (RN : Dn K mg "refuse_no_name" sRN ["texts"] fRN dRN) (RT : Dn K mg "refuse_twice" sRT ["names"] fRT dRT)
    (GRN : FnOk P w K mg base (L2.CX P w) 4 fRN dRN ["texts"] (spRN K C)) (GRT : FnOk P w K mg base CX0 2 fRT dRT ["names"] (spFT K)) : FnOk P w K mg base (L2.CX P w) 5 f fd ["self", "maker", "made", "down", "up"] (spMak K C B) := by
  refine F.okX scMak (fun vs H Q E h => ?_) (fun cdv A outer s H vs Q E hr h => ?_)
  · obtain ⟨H0, x, dx, l1, l2, mk, md, ds, us, rfl, _⟩ := h
    rfl
  · obtain ⟨H0, x, dx, l1, l2, mk, md, ds, us, rfl, S0, x0, hx, h1, h2, n1, n2, w1, w2, hz, k⟩ := h
    have hr2 : Room 2 _ := hr.mono (by decide)
    have Sx : ∀ {H1 : Hp} {o : HO}, Same H0 H1 → Same H0 (upd H1 x o) := fun hs b o e => by
      rw [upd_ne (ne_of_none e x0)]
      exact hs b o e
    refine ⟨_, (pss_cons (ps_fld (pv 0) (pv 1) rfl)
      (pss_cons (ps_fld (pv 0) (pv 2) rfl)
      (pss_cons (ps_fld (pv 0) (pe_callTy call_tupN (by rfl) T.tuple (by decide +kernel) (pa_cons (pv 3) pa_nil)) rfl)
      (pss_cons (ps_fld (pv 0) (pe_callTy call_tupN (by rfl) T.tuple (by decide +kernel) (pa_cons (pv 4) pa_nil)) rfl)
      (pss_cons (ps_expr (pe_call GRN hr rfl RN.g RN.F.kp RN.b .nil (passes_call (takes_of rfl rfl rfl rfl) (fun _ _ _ _ h => h)) (pa_cons (pe_lst (pa_cons (pv 1) (pa_cons (pv 2) (pa_star (pe_fld (pv 0) rfl) (pa_star (pe_fld (pv 0) rfl) pa_nil))))) pa_nil)))
      (pss_cons (ps_expr (pe_call GRT hr2 rfl RT.g RT.F.kp RT.b .nil pass0 (pa_cons (pe_fld (pv 0) rfl) pa_nil)))
      (pss_one (ps_expr (pe_call GRT hr2 rfl RT.g RT.F.kp RT.b .nil pass0 (pa_cons (pe_fld (pv 0) rfl) pa_nil)))))))))), ?_⟩
    refine ⟨_, rfl, _, rfl, x, B, dx, [], rfl, hx, TM.cl, TM.nk, (by show 0 < 1000; decide), ?_⟩
    have S1 := Sx (o := .ins B dx (putF "maker" (.str mk) [])) S0
    refine ⟨_, rfl, _, rfl, x, B, dx, _, rfl, upd_same, TM.cl, TM.nd, Nat.lt_of_le_of_lt (putF_len _ _ _) (by decide), ?_⟩
    rw [upd_upd]
    have S2 := Sx (o := .ins B dx (putF "made" (.str md) (putF "maker" (.str mk) []))) S0
    have few2 : (putF "made" (.str md) (putF "maker" (.str mk) [])).length ≤ 10 := Nat.le_trans (putF_len _ _ _) (Nat.le_trans (Nat.succ_le_succ (putF_len _ _ _)) (by decide))
    -- self.down = tuple(down)
    refine ⟨_, rfl, l1, _, rfl, .inl ⟨S2.seq h1, fun t1 ht1 => ?_⟩⟩
    have n1x : t1 ≠ x := fun z => by
      rw [z, upd_same] at ht1
      cases ht1
    refine ⟨_, rfl, x, B, dx, _, rfl, Eq.trans (upd_ne n1x.symm) upd_same, TM.cl, TM.nw, Nat.lt_of_le_of_lt few2 (by decide), ?_⟩
    generalize hH3 : upd (upd (upd H x (.ins B dx (putF "made" (.str md) (putF "maker" (.str mk) [])))) t1 (.tup (ds.map V.str))) x (.ins B dx (putF "down" (.ref t1) (putF "made" (.str md) (putF "maker" (.str mk) [])))) = H3
    have S3 : Same H0 H3 := by
      rw [← hH3]
      exact Sx (S2.trans (Same.upd ht1))
    have hx3 : H3 x = some (.ins B dx (putF "down" (.ref t1) (putF "made" (.str md) (putF "maker" (.str mk) [])))) := by rw [← hH3, upd_same]
    have h13 : H3 t1 = some (.tup (ds.map V.str)) := by rw [← hH3, upd_ne n1x, upd_same]
    -- self.up = tuple(up)
    refine ⟨_, rfl, l2, _, rfl, .inl ⟨S3.seq h2, fun t2 ht2 => ?_⟩⟩
    have n2x : t2 ≠ x := (ne_of_none hx3 ht2).symm
    have n21 : t2 ≠ t1 := (ne_of_none h13 ht2).symm
    refine ⟨_, rfl, x, B, dx, _, rfl, Eq.trans (upd_ne n2x.symm) hx3, TM.cl, TM.nu, Nat.lt_of_le_of_lt (Nat.le_trans (putF_len _ _ _) (Nat.succ_le_succ few2)) (by decide), ?_⟩
    show _
    generalize hH4 : upd (upd H3 t2 (.tup (us.map V.str))) x (.ins B dx (putF "up" (.ref t2) (putF "down" (.ref t1) (putF "made" (.str md) (putF "maker" (.str mk) []))))) = H4
    have S4 : Same H0 H4 := by
      rw [← hH4]
      exact Sx (S3.trans (Same.upd ht2))
    have hx4 : H4 x = some (.ins B dx (makF mk md t1 t2)) := by rw [← hH4, upd_same]; rfl
    have h14 : H4 t1 = some (.tup (ds.map V.str)) := by rw [← hH4, upd_ne n1x, upd_ne n21.symm]; exact h13
    have h24 : H4 t2 = some (.tup (us.map V.str)) := by rw [← hH4, upd_ne n2x, upd_same]
    -- refuse_no_name([maker, made, *self.down, *self.up])
    refine ⟨_, rfl, _, rfl, _, rfl, x, B, dx, _, _, rfl, hx4, TM.cl, TM.nw, makF_down _ _ _ _, t1, _, rfl, .inl (SqT.of h14), _, rfl, x, B, dx, _, _, rfl, hx4, TM.cl, TM.nu, makF_up _ _ _ _, t2, _, rfl, .inl (SqT.of h24), ?_, fun l hl => ?_⟩
    · show (V.str mk :: V.str md :: (ds.map V.str ++ (us.map V.str ++ []))).length ≤ sizeLine
      rw [List.append_nil, List.length_cons, List.length_cons, List.length_append, List.length_map, List.length_map]
      exact Nat.le_trans (show _ ≤ 1000 by omega) (by decide)
    have el : V.str mk :: V.str md :: (ds.map V.str ++ (us.map V.str ++ [])) = (mk :: md :: (ds ++ us)).map V.str := by
      rw [List.append_nil, List.map_cons, List.map_cons, List.map_append]
    have S5 := S4.trans (Same.upd (o := .lst (V.str mk :: V.str md :: (ds.map V.str ++ (us.map V.str ++ [])))) hl)
    refine ⟨l, mk :: md :: (ds ++ us), rfl, SqL.of (by rw [upd_same, ← el]), ?_, hz, ?_⟩
    · rw [List.length_cons, List.length_cons, List.length_append]
      omega
    refine k.toN S5 fun hn H6 hS6 => ?_
    have hx6 := hS6 _ _ (Same.upd (o := .lst (V.str mk :: V.str md :: (ds.map V.str ++ (us.map V.str ++ [])))) hl _ _ hx4)
    have h16 := hS6 _ _ (Same.upd (o := .lst (V.str mk :: V.str md :: (ds.map V.str ++ (us.map V.str ++ [])))) hl _ _ h14)
    have h26 := hS6 _ _ (Same.upd (o := .lst (V.str mk :: V.str md :: (ds.map V.str ++ (us.map V.str ++ [])))) hl _ _ h24)
    refine ⟨_, rfl, x, B, dx, _, _, rfl, hx6, TM.cl, TM.nw, makF_down _ _ _ _, t1, _, rfl, .inr (SqT.of h16), flat_strs _, w1, fun H7 hS7 => ?_⟩
    refine ⟨_, rfl, x, B, dx, _, _, rfl, hS7 _ _ hx6, TM.cl, TM.nu, makF_up _ _ _ _, t2, _, rfl, .inr (SqT.of (hS7 _ _ h26)), flat_strs _, w2, fun H8 hS8 => ?_⟩
    unfold DueM at k
    rw [hn] at k
    exact k H8 (S5.trans (hS6.trans (hS7.trans hS8))) t1 t2 (hS8 _ _ (hS7 _ _ hx6)) (hS8 _ _ (hS7 _ _ h16)) (hS8 _ _ (hS7 _ _ h26))
end
end Wm
namespace Wm
open PySem L2 StX
theorem strOk_of {z : Str} (h : okS z) : PyData.strOk z = true := by
  unfold PyData.strOk
  rw [Array.all_eq_true_iff_forall_mem]
  intro c hc
  exact decide_eq_true (h c (by simpa using hc))
/-! ### rows of objects -/
def AllAt {α : Type} (R : Addr → α → Prop) : List Addr → List α → Prop
  | [], [] => True
  | a :: as, x :: xs => R a x ∧ AllAt R as xs
  | _, _ => False
theorem AllAt.imp {α : Type} {R R' : Addr → α → Prop} (h : ∀ a x, R a x → R' a x) : ∀ {as : List Addr} {xs : List α}, AllAt R as xs → AllAt R' as xs
  | [], [], _ => True.intro
  | _ :: _, _ :: _, q => ⟨h _ _ q.1, AllAt.imp h q.2⟩
  | [], _ :: _, q => q.elim
  | _ :: _, [], q => q.elim
theorem AllAt.len {α : Type} {R : Addr → α → Prop} : ∀ {as : List Addr} {xs : List α}, AllAt R as xs → as.length = xs.length
  | [], [], _ => rfl
  | _ :: _, _ :: _, q => congrArg (· + 1) (AllAt.len q.2)
  | [], _ :: _, q => q.elim
  | _ :: _, [], q => q.elim
theorem AllAt.get {α : Type} {R : Addr → α → Prop} : ∀ {as : List Addr} {xs : List α} {j : Nat} {y : V}, AllAt R as xs → (as.map V.ref)[j]? = some y → ∃ a x, y = .ref a ∧ xs[j]? = some x ∧ R a x
  | a :: as, x :: xs, 0, y, h, e => ⟨a, x, (Option.some.inj e).symm, rfl, h.1⟩
  | a :: as, x :: xs, j + 1, y, h, e => by
    obtain ⟨a', x', p, q, r⟩ := AllAt.get (j := j) h.2 (by simpa using e)
    exact ⟨a', x', p, by simpa using q, r⟩
  | [], _, _, _, _, e => by simp at e
  | _ :: _, [], _, _, h, _ => h.elim
theorem AllAt.append {α : Type} {R : Addr → α → Prop} : ∀ {as bs : List Addr} {xs ys : List α}, AllAt R as xs → AllAt R bs ys → AllAt R (as ++ bs) (xs ++ ys)
  | [], _, [], _, _, q => q
  | _ :: _, _, _ :: _, _, h, q => ⟨h.1, AllAt.append h.2 q⟩
  | [], _, _ :: _, _, h, _ => h.elim
  | _ :: _, _, [], _, h, _ => h.elim
structure MkD where
  mr : Str
  md : Str
  dn : List Str
  up : List Str
structure PtD where
  nm : Str
  vars : List Var
  cs : List Tri
structure RlD where
  p : PtD
  g : Tri
  bh : Str
def MkAt (K : PySem.W.Frag) (B : Addr) (H : Hp) (a : Addr) (m : MkD) : Prop := ∃ d t1 t2, H a = some (.ins B d (makF m.mr m.md t1 t2)) ∧ SqT K H t1 (m.dn.map V.str) ∧ SqT K H t2 (m.up.map V.str)
def BrAt (K : PySem.W.Frag) (B : Addr) (H : Hp) (a : Addr) (b : PtD) : Prop := ∃ d t1 t2 ps qs, H a = some (.ins B d (barF b.nm t1 t2)) ∧ SqT K H t1 (ps.map V.ref) ∧ RowsAt K H ps (b.vars.map varV) ∧ SqT K H t2 (qs.map V.ref) ∧ RowsAt K H qs (b.cs.map triV)
def RlAt (K : PySem.W.Frag) (B : Addr) (H : Hp) (a : Addr) (r : RlD) : Prop := ∃ d t1 t2 t3 ps qs, H a = some (.ins B d (rulF r.p.nm t1 t2 t3 r.bh)) ∧ SqT K H t1 (ps.map V.ref) ∧ RowsAt K H ps (r.p.vars.map varV) ∧ SqT K H t2 (qs.map V.ref) ∧ RowsAt K H qs (r.p.cs.map triV) ∧ SqT K H t3 (triV r.g)
theorem MkAt.same {K : PySem.W.Frag} {B : Addr} {H H' : Hp} {a : Addr} {m : MkD} (s : Same H H') (h : MkAt K B H a m) : MkAt K B H' a m := by
  obtain ⟨d, t1, t2, x, y, z⟩ := h
  exact ⟨d, t1, t2, s _ _ x, same_seqT s y, same_seqT s z⟩
theorem BrAt.same {K : PySem.W.Frag} {B : Addr} {H H' : Hp} {a : Addr} {b : PtD} (s : Same H H') (h : BrAt K B H a b) : BrAt K B H' a b := by
  obtain ⟨d, t1, t2, ps, qs, x, y, z, u, v⟩ := h
  exact ⟨d, t1, t2, ps, qs, s _ _ x, same_seqT s y, z.same s, same_seqT s u, v.same s⟩
theorem RlAt.same {K : PySem.W.Frag} {B : Addr} {H H' : Hp} {a : Addr} {r : RlD} (s : Same H H') (h : RlAt K B H a r) : RlAt K B H' a r := by
  obtain ⟨d, t1, t2, t3, ps, qs, x, y, z, u, v, w⟩ := h
  exact ⟨d, t1, t2, t3, ps, qs, s _ _ x, same_seqT s y, z.same s, same_seqT s u, v.same s, same_seqT s w⟩
/-! ### pairs that do not stand twice -/
def prV (p : Str × Str) : List V := [.str p.1, .str p.2]
def prD (p : Str × Str) : PyData := .tuple [.str p.1, .str p.2]
theorem prD_eqv (a b : Str × Str) : PyData.eqv (prD a) (prD b) = decide (a = b) := by
  obtain ⟨a1, a2⟩ := a
  obtain ⟨b1, b2⟩ := b
  simp only [prD, PyData.eqv, PyData.eqvAll, Prod.mk.injEq]
  by_cases h1 : a1 = b1 <;> by_cases h2 : a2 = b2 <;> simp [h1, h2]
theorem u65 {k : Nat} {A : Around} (r : Room k A) : A.units + 65 < cLine := by
  have := r.un
  omega
theorem prs_dp {K : PySem.W.Frag} {H : Hp} : ∀ {qs : List Addr} {ps : List (Str × Str)}, RowsAt K H qs (ps.map prV) → DpAll K H (qs.map V.ref) (ps.map prD)
  | [], [], _ => .nil
  | _ :: _, _ :: _, h => .cons (.tup h.1 (.cons (.str _) (.cons (.str _) .nil))) (prs_dp h.2)
  | [], _ :: _, h => h.elim
  | _ :: _, [], h => h.elim
theorem prs_sh : ∀ {ps : List (Str × Str)}, (∀ p ∈ ps, okS p.1 ∧ okS p.2) → PyData.canLayAll0 (ps.map prD) = true ∧ PyData.depthAll (ps.map prD) ≤ 2
  | [], _ => by simp [PyData.canLayAll0, PyData.depthAll]
  | p :: r, h => by
    obtain ⟨a, b⟩ := h p List.mem_cons_self
    obtain ⟨h2, h3⟩ := prs_sh (ps := r) fun y hy => h y (List.mem_cons_of_mem _ hy)
    have sa := strOk_of a
    have sb := strOk_of b
    have e : (prD p).canLay0 = true := by simp [prD, PyData.canLay0, PyData.canLayAll0, sa, sb]
    have d : (prD p).depth ≤ 2 := by simp [prD, PyData.depth, PyData.depthAll]
    refine ⟨by simp only [List.map_cons, PyData.canLayAll0, e, h2, Bool.and_self], ?_⟩
    simp only [List.map_cons, PyData.depthAll]
    omega
theorem rows_imp {K : PySem.W.Frag} {H H' : Hp} (s : ∀ {q : Addr} {xs : List V}, SqT K H q xs → SqT K H' q xs) : ∀ {ps : List Addr} {rs : List (List V)}, RowsAt K H ps rs → RowsAt K H' ps rs
  | [], [], _ => True.intro
  | _ :: _, _ :: _, h => ⟨s h.1, rows_imp s h.2⟩
  | [], _ :: _, h => h.elim
  | _ :: _, [], h => h.elim
def spFT2 (K : PySem.W.Frag) : Sp := fun vs H Q _ => ∃ (l : Addr) (qs : List Addr) (ps : List (Str × Str)), vs = [.ref l] ∧ SqL K H l (qs.map V.ref) ∧ RowsAt K H qs (ps.map prV) ∧ ps.Nodup ∧ (∀ p ∈ ps, okS p.1 ∧ okS p.2) ∧ ∀ H', Same H H' → Q .non H'
def spRMT (K : PySem.W.Frag) (B : Addr) : Sp := fun vs H Q _ => ∃ (m : Addr) (as : List Addr) (ms : List MkD), vs = [.ref m] ∧ SqL K H m (as.map V.ref) ∧ AllAt (MkAt K B H) as ms ∧ ms.length ≤ 1000 ∧ (ms.map fun x => (x.mr, x.md)).Nodup ∧ (∀ x ∈ ms, okS x.mr ∧ okS x.md) ∧ ∀ H', Same H H' → Q .non H'
section
variable {P : Program} {w : World} {K : PySem.W.Frag} {mg : Str → Option Value} {base : Heap}
theorem ok_ft2 {f : Addr} {fd : FuncData} (F : Fun K "first_twice" "first_twice" sFT f fd) (T : TxB mg) : FnOk P w K mg base CX0 1 f fd ["row"] (spFT2 K) := by
  refine F.ok scFT (fun vs H Q E h => ?_) (fun cdv A outer s H vs Q E hr h => ?_)
  · obtain ⟨l, qs, ps, rfl, _⟩ := h
    rfl
  · obtain ⟨l, qs, ps, rfl, hl, hq, hnd, hok, k⟩ := h
    refine ⟨_, (pss_cons (ps_for PassesOwn.never rfl (pi_enum rfl T.enumerate (pa_cons (pv 0) pa_nil)) (pg_tup rfl (pgs_cons (pg_name (i := 1) scFT.nd rfl (Or.inl rfl)) (pgs_cons (pg_name (i := 2) scFT.nd rfl (Or.inl rfl)) pgs_nil))) (pss_one (ps_if (pt_cmpR (op_inD (u65 hr)) (pv 2) (pe_slice sl_list (pv 0) po_none (po_some (pv 1))) (by rfl)) (pss_one (ps_ret (pv 1))) pss_nil)))
      (pss_one (ps_ret pe_non))), ?_⟩
    refine ⟨_, rfl, l, _, rfl, hl, for_it walk_enum (fun i σ H' => (∃ u v, σ = [some (.ref l), u, v]) ∧ Same H H') ⟨⟨none, none, rfl⟩, Same.refl H⟩ (fun i σ H' _ p => p.2.seq hl) ?_ ?_⟩
    · rintro i x σ H1 H2 hi ⟨⟨u, v, rfl⟩, hS⟩ ⟨t, y, z, rfl, ht, rfl, e1, e2⟩
      cases e1
      refine ⟨t, _, rfl, SqT.of upd_same, rfl, _, _, rfl, _, _, rfl, rfl, ?_⟩
      have S2 := hS.trans (Same.upd (o := .tup [.int (i : Nat), z]) ht)
      have e2 : (qs.map V.ref)[i]? = some z := e2
      rw [List.getElem?_map] at e2
      obtain ⟨q, hqi, rfl⟩ := Option.map_eq_some_iff.mp e2
      obtain ⟨r, hri, hqt⟩ := hq.get hqi
      rw [List.getElem?_map] at hri
      obtain ⟨p, hpi, rfl⟩ := Option.map_eq_some_iff.mp hri
      refine ⟨_, rfl, _, rfl, _, rfl, _, rfl, l, _, rfl, S2.seq hl, fun c hc => ?_⟩
      rw [show cutV (qs.map V.ref) none (some (i : Int)) = (qs.take i).map V.ref by rw [cut_take, List.map_take]]
      have S3 := S2.trans (Same.upd (o := .lst ((qs.take i).map V.ref)) hc)
      have hrow : RowsAt K (upd (upd H1 t (.tup [.int (i : Nat), .ref q])) c (.lst ((qs.take i).map V.ref))) (qs.take i) ((ps.take i).map prV) := by
        have e := (hq.same S3).take i
        rw [← List.map_take] at e
        exact e
      obtain ⟨l1, l2⟩ := prs_sh (ps := ps.take i) fun p hp => hok p (List.mem_of_mem_take hp)
      have shl : SeqAt.shaped (.list ((ps.take i).map prD)) = true := by
        generalize (ps.take i).map prD = X at l1 l2
        simp [SeqAt.shaped, PyData.canLay0, PyData.depth, l1]
        omega
      have shp : SeqAt.shaped (prD p) = true := by
        obtain ⟨a, b⟩ := hok p (List.mem_of_getElem? hpi)
        have sa := strOk_of a
        have sb := strOk_of b
        simp [prD, SeqAt.shaped, PyData.canLay0, PyData.canLayAll0, PyData.depth, PyData.depthAll, sa, sb]
      refine ⟨prD p, _, .tup (same_seqT S3 hqt) (.cons (.str _) (.cons (.str _) .nil)), .lst (SqL.of upd_same) (prs_dp hrow), shp, shl, _, rfl, ?_⟩
      have no : ((ps.take i).map prD).any (fun z => PyData.eqv z (prD p)) = false := by
        rw [List.any_map, List.any_eq_false]
        intro y hy
        show ¬ PyData.eqv (prD y) (prD p) = true
        rw [prD_eqv]
        intro e
        have e := of_decide_eq_true e
        subst e
        obtain ⟨j, hj⟩ := List.mem_iff_getElem?.mp hy
        have hlt : j < i := by
          have q := (List.getElem?_eq_some_iff.mp hj).1
          rw [List.length_take] at q
          omega
        rw [List.getElem?_take_of_lt hlt] at hj
        have hjl := (List.getElem?_eq_some_iff.mp hj).1
        have hil := (List.getElem?_eq_some_iff.mp hpi).1
        exact (List.pairwise_iff_getElem.mp hnd) j i hjl hil hlt ((List.getElem?_eq_some_iff.mp hj).2.trans (List.getElem?_eq_some_iff.mp hpi).2.symm)
      rw [no]
      exact iteF ⟨⟨_, _, rfl⟩, S3⟩
    · rintro σ H' ⟨_, hS⟩
      exact k H' hS
theorem scRMT : FnScope ["makings", "pairs", "place", "making"] ["makings"] (defScope sRMT) := ⟨rfl, rfl, rfl, by decide +kernel, rfl, by decide +kernel, by decide +kernel⟩
theorem ok_rmt {f fF B fB : Addr} {fd fdF : FuncData} (F : Fun K "refuse_makings_twice" "refuse_makings_twice" sRMT f fd) (T : TxB mg) (TM : TxMak K mg B fB) (D : Dn K mg "first_twice" sFT ["row"] fF fdF) : FnOk P w K mg base CX0 2 f fd ["makings"] (spRMT K B) := by
  have G : FnOk P w K mg base CX0 1 fF fdF ["row"] (spFT2 K) := ok_ft2 D.F T
  refine F.ok scRMT (fun vs H Q E h => ?_) (fun cdv A outer s H vs Q E hr h => ?_)
  · obtain ⟨m, as, ms, rfl, _⟩ := h
    rfl
  · obtain ⟨m, as, ms, rfl, hm, hms, hl, hnd, hok, k⟩ := h
    refine ⟨_, (pss_cons (ps_setLc (i := 1) (own := [("making", 3)]) (g := gName 3) (te := tTup (tCons (tFld K (tVar 3) "maker") (tCons (tFld K (tVar 3) "made") tNil))) rfl scRMT.nd rfl rfl (sw_true rfl rfl rfl (by decide +kernel)) (pi_list (pv 0)) (blkOk_by (N := ["makings", "pairs", "place", "making"]) (sc := defScope sRMT) (by decide +kernel)) (fun _ _ _ _ _ => (pg_name (i := 3) scRMT.nd rfl (Or.inl rfl))) (fun _ _ _ _ _ => pts_nil) (fun _ _ _ _ _ => (pe_tup (pa_cons (pe_fld (pv 3) rfl) (pa_cons (pe_fld (pv 3) rfl) pa_nil)))))
      (pss_cons (ps_set (i := 2) scRMT.nd rfl (Or.inl rfl) (pe_call G hr rfl D.g D.F.kp D.b .nil pass0 (pa_cons (pv 1) pa_nil)))
      (pss_one (ps_if (pt_cmp (pc_notN (pv 2))) (pss_one ps_never) pss_nil)))), ?_⟩
    refine ⟨_, rfl, m, rfl, ⟨_, hm⟩, fun D' hD => ?_⟩
    refine lc_list (K := K) (a := m) (xs := as.map V.ref) (fun i H' => Same H H' ∧ ∃ qs : List Addr, H' D' = some (.lst (qs.map V.ref)) ∧ qs.length = i ∧ RowsAt K H' qs (((ms.map fun x => (x.mr, x.md)).take i).map prV)) ⟨Same.upd hD, [], upd_same, rfl, True.intro⟩ (fun i H' _ p => p.1.seq hm) ?_ ?_
    · rintro i x H' hi ⟨hS, qs, hq, hql, hrow⟩
      obtain ⟨a, y, rfl, hy, hat⟩ := hms.get hi
      obtain ⟨d, t1, t2, ha, _, _⟩ := MkAt.same hS hat
      refine ⟨rfl, ?_⟩
      refine ⟨_, rfl, a, B, d, _, _, rfl, ha, TM.cl, TM.nk, makF_maker _ _ _ _, ?_⟩
      refine ⟨_, rfl, a, B, d, _, _, rfl, ha, TM.cl, TM.nd, makF_made _ _ _ _, ?_⟩
      refine ⟨by show 2 ≤ sizeLine; decide, fun t ht => ?_⟩
      have nt : t ≠ D' := (ne_of_none hq ht).symm
      have il : i < ms.length := (List.getElem?_eq_some_iff.mp hy).1
      refine ⟨_, Same.upd ht _ _ hq, ?_, ?_, qs ++ [t], ?_, ?_, ?_⟩
      · rw [List.length_map]
        exact Nat.lt_of_le_of_lt (show qs.length ≤ 1000 by omega) (by decide)
      · intro b o h
        rw [upd_ne (ne_of_none h hD)]
        exact Same.upd ht _ _ (hS b o h)
      · rw [upd_same, List.map_append]
        rfl
      · rw [List.length_append, List.length_singleton]
        omega
      · rw [List.take_add_one, List.getElem?_map, hy, List.map_append]
        have B' : But D' (upd H' t (.tup [.str y.mr, .str y.md])) (upd (upd H' t (.tup [.str y.mr, .str y.md])) D' (.lst (qs.map V.ref ++ [.ref t]))) := But.upd
        have keep : ∀ {q : Addr} {xs : List V}, SqT K (upd H' t (.tup [.str y.mr, .str y.md])) q xs → SqT K (upd (upd H' t (.tup [.str y.mr, .str y.md])) D' (.lst (qs.map V.ref ++ [.ref t]))) q xs := fun {q xs} h => by
          have hp : (upd H' t (.tup [.str y.mr, .str y.md])) D' = some (.lst (qs.map V.ref)) := Same.upd ht _ _ hq
          rcases h with (h | ⟨u, h⟩) | h
          · exact .inl (.inl (B' _ _ (ne_of h hp (by intro z; cases z)) h))
          · exact .inl (.inr ⟨u, B' _ _ (ne_of h hp (by intro z; cases z)) h⟩)
          · exact .inr h
        have r1 : RowsAt K (upd H' t (.tup [.str y.mr, .str y.md])) (qs ++ [t]) (((ms.map fun x => (x.mr, x.md)).take i).map prV ++ [prV (y.mr, y.md)]) := (hrow.same (Same.upd ht)).append ⟨SqT.of upd_same, True.intro⟩
        exact rows_imp keep r1
    · rintro H' ⟨hS, qs, hq, hql, hrow⟩
      rw [List.length_map, hms.len] at hql
      rw [List.length_map, hms.len, List.take_of_length_le (by rw [List.length_map]; exact Nat.le_refl _)] at hrow
      dsimp only [List.set_cons_succ, List.set_cons_zero]
      refine ⟨_, rfl, D', qs, _, rfl, SqL.of hq, hrow, hnd, fun p hp => ?_, fun H2 S2 => ?_⟩
      · obtain ⟨x, hx, rfl⟩ := List.mem_map.mp hp
        exact hok x hx
      · refine ⟨_, rfl, _, rfl, ?_⟩
        exact iteF (k _ (hS.trans S2))
end
end Wm
namespace Wm
open PySem L2 StX
/-- what a pattern's variables are, be it a rule or a bar -/
def PvAt (K : PySem.W.Frag) (H : Hp) (a : Addr) (vars : List Var) : Prop := ∃ C d fs t1 ps, H a = some (.ins C d fs) ∧ Cls K C ∧ NoAttr K C "variables" ∧ fs.lookup ("variables" : Str) = some (.ref t1) ∧ SqT K H t1 (ps.map V.ref) ∧ RowsAt K H ps (vars.map varV)
theorem PvAt.same {K : PySem.W.Frag} {H H' : Hp} {a : Addr} {v : List Var} (s : Same H H') (h : PvAt K H a v) : PvAt K H' a v := by
  obtain ⟨C, d, fs, t1, ps, a1, a2, a3, a4, a5, a6⟩ := h
  exact ⟨C, d, fs, t1, ps, s _ _ a1, a2, a3, a4, same_seqT s a5, a6.same s⟩
def spRNS (K : PySem.W.Frag) (B : Addr) : Sp := fun vs H Q _ => ∃ (s m p : Addr) (ss : List Str) (as bs : List Addr) (ms : List MkD) (vv : List (List Var)), vs = [.ref s, .ref m, .ref p] ∧ SqL K H s (ss.map V.str) ∧ SqL K H m (as.map V.ref) ∧ AllAt (MkAt K B H) as ms ∧ SqL K H p (bs.map V.ref) ∧ AllAt (PvAt K H) bs vv ∧ ms.length ≤ 1000 ∧ vv.length ≤ 1000 ∧ (∀ v ∈ vv, v.length ≤ 4) ∧ (∀ x ∈ ms, x.mr ∈ ss ∧ x.md ∈ ss) ∧ (∀ v ∈ vv, ∀ y ∈ v, ∀ z, y.2 = some z → z ∈ ss) ∧ ∀ H', Same H H' → Q .non H'
def spRU (K : PySem.W.Frag) (B : Addr) : Sp := fun vs H Q _ => ∃ (s m : Addr) (ss : List Str) (as : List Addr) (ms : List MkD), vs = [.ref s, .ref m] ∧ SqL K H s (ss.map V.str) ∧ SqL K H m (as.map V.ref) ∧ AllAt (MkAt K B H) as ms ∧ ss.Nodup ∧ (∀ x ∈ ms, ∃ i j : Nat, i < j ∧ ss[i]? = some x.mr ∧ ss[j]? = some x.md) ∧ Q .non H
theorem flat_of (zs : List Str) : (zs.map V.str).all flatV = true := by
  rw [List.all_map]
  exact List.all_eq_true.mpr fun _ _ => rfl
theorem idx_first {ss : List Str} {i m : Nat} {x z : Str} (nd : ss.Nodup) (hi : ss[i]? = some x) (hm : m < i) (hz : ss[m]? = some z) : eqV (.str z) (.str x) = false := by
  have hne : z ≠ x := fun e => by
    subst e
    have a := List.getElem?_eq_some_iff.mp hi
    have b := List.getElem?_eq_some_iff.mp hz
    exact (List.pairwise_iff_getElem.mp nd) m i b.1 a.1 hm (b.2.trans a.2.symm)
  unfold eqV
  simp [hne]
section
variable {P : Program} {w : World} {K : PySem.W.Frag} {mg : Str → Option Value} {base : Heap}
theorem scRU : FnScope ["sorts", "makings", "making"] ["sorts", "makings"] (defScope sRU) := ⟨rfl, rfl, rfl, by decide +kernel, rfl, by decide +kernel, by decide +kernel⟩
theorem ok_ru {f B fB : Addr} {fd : FuncData} (F : Fun K "refuse_upward" "refuse_upward" sRU f fd) (TM : TxMak K mg B fB) : FnOk P w K mg base CX0 1 f fd ["sorts", "makings"] (spRU K B) := by
  refine F.ok scRU (fun vs H Q E h => ?_) (fun cdv A outer s H vs Q E hr h => ?_)
  · obtain ⟨s, m, ss, as, ms, rfl, _⟩ := h
    rfl
  · obtain ⟨s, m, ss, as, ms, rfl, hs, hm, hms, nd, hx, k⟩ := h
    refine ⟨_, (pss_one (ps_for PassesOwn.never rfl (pi_list (pv 1)) (pg_name (i := 2) scRU.nd rfl (Or.inl rfl)) (pss_one (ps_if (pt_cmpR op_le (pe_bm PySem.F.plainAttrs_list PySem.F.slot_list_index PySem.F.type_list_index mt_index (pv 0) (pa_cons (pe_fld (pv 2) rfl) pa_nil)) (pe_bm PySem.F.plainAttrs_list PySem.F.slot_list_index PySem.F.type_list_index mt_index (pv 0) (pa_cons (pe_fld (pv 2) rfl) pa_nil)) (nomark _)) (pss_one ps_never) pss_nil)))), ?_⟩
    refine ⟨_, rfl, m, rfl, ⟨_, hm⟩, for_list (K := K) (a := m) (xs := as.map V.ref) (fun i σ H' => (∃ v, σ = [some (.ref s), some (.ref m), v]) ∧ H' = H) ⟨⟨none, rfl⟩, rfl⟩ (fun i σ H' _ p => by rw [p.2]; exact hm) ?_ (fun σ H' p => by rw [p.2]; exact k)⟩
    rintro i y σ H' hi ⟨⟨v, rfl⟩, rfl⟩
    obtain ⟨a, x, rfl, hxi, hat⟩ := hms.get hi
    obtain ⟨d, t1, t2, ha, _, _⟩ := hat
    obtain ⟨p, q, hpq, hp, hq⟩ := hx x (List.mem_of_getElem? hxi)
    have gp : (ss.map V.str)[p]? = some (.str x.mr) := by rw [List.getElem?_map, hp]; rfl
    have gq : (ss.map V.str)[q]? = some (.str x.md) := by rw [List.getElem?_map, hq]; rfl
    have first : ∀ {n : Nat} {z0 : Str}, ss[n]? = some z0 → ∀ (m : Nat) (z' : V), m < n → (ss.map V.str)[m]? = some z' → eqV z' (.str z0) = false := fun {n z0} hn m z' hm hz => by
      rw [List.getElem?_map] at hz
      obtain ⟨z, hz2, rfl⟩ := Option.map_eq_some_iff.mp hz
      exact idx_first nd hn hm hz2
    dsimp only [gName, List.set_cons_succ, List.set_cons_zero]
    refine ⟨_, rfl, .inl ⟨rfl, _, hs⟩, _, rfl, a, B, d, _, _, rfl, ha, TM.cl, TM.nd, makF_made _ _ _ _, ?_⟩
    refine ⟨s, _, .str x.md, q, .str x.md, rfl, rfl, hs, rfl, flat_of ss, gq, by unfold eqV; simp, first hq, ?_⟩
    refine ⟨_, rfl, .inl ⟨rfl, _, hs⟩, _, rfl, a, B, d, _, _, rfl, ha, TM.cl, TM.nk, makF_maker _ _ _ _, ?_⟩
    refine ⟨s, _, .str x.mr, p, .str x.mr, rfl, rfl, hs, rfl, flat_of ss, gp, by unfold eqV; simp, first hp, ?_⟩
    refine ⟨_, _, rfl, rfl, _, rfl, ?_⟩
    exact ite2 (fun z => absurd (of_decide_eq_true z) (by omega)) (fun _ => ⟨⟨_, rfl⟩, rfl⟩)
theorem scRNS : FnScope ["sorts", "makings", "patterns", "asked", "making", "pattern", "name", "variable", "sort"] ["sorts", "makings", "patterns"] (defScope sRNS) := ⟨rfl, rfl, rfl, by decide +kernel, rfl, by decide +kernel, by decide +kernel⟩
theorem ok_rns {f B fB : Addr} {fd : FuncData} (F : Fun K "refuse_no_sort" "refuse_no_sort" sRNS f fd) (TM : TxMak K mg B fB) : FnOk P w K mg base CX0 1 f fd ["sorts", "makings", "patterns"] (spRNS K B) := by
  refine F.ok scRNS (fun vs H Q E h => ?_) (fun cdv A outer s H vs Q E hr h => ?_)
  · obtain ⟨s, m, p, ss, as, bs, ms, vv, rfl, _⟩ := h
    rfl
  · obtain ⟨s, m, p, ss, as, bs, ms, vv, rfl, hs, hm, hms, hp, hvv, ml, vl, v4, hx, hy, k⟩ := h
    refine ⟨_, (pss_cons (ps_set (i := 3) scRNS.nd rfl (Or.inl rfl) (pe_lst pa_nil))
      (pss_cons (ps_for PassesOwn.never rfl (pi_list (pv 1)) (pg_name (i := 4) scRNS.nd rfl (Or.inl rfl)) (pss_one (ps_expr (pe_bm PySem.F.plainAttrs_list PySem.F.slot_list_extend PySem.F.type_list_extend mt_extend (pv 3) (pa_cons (pe_lst (pa_cons (pe_fld (pv 4) rfl) (pa_cons (pe_fld (pv 4) rfl) pa_nil))) pa_nil)))))
      (pss_cons (ps_for PassesOwn.never rfl (pi_list (pv 2)) (pg_name (i := 5) scRNS.nd rfl (Or.inl rfl)) (pss_one (ps_expr (pe_bm PySem.F.plainAttrs_list PySem.F.slot_list_extend PySem.F.type_list_extend mt_extend (pv 3) (pa_cons (pe_lc (own := [("variable", 7), ("sort", 8)]) (g := gTup K 2 (gCons (gName 7) (gCons (gName 8) gNil))) rfl scRNS.nd (pi_tup (pe_fld (pv 5) rfl)) (blkOk_by (N := ["sorts", "makings", "patterns", "asked", "making", "pattern", "name", "variable", "sort"]) (sc := defScope sRNS) (by decide +kernel)) (fun _ _ _ _ _ => (pg_tup rfl (pgs_cons (pg_name (i := 7) scRNS.nd rfl (Or.inl rfl)) (pgs_cons (pg_name (i := 8) scRNS.nd rfl (Or.inl rfl)) pgs_nil)))) (fun _ _ _ _ _ => (pts_one (pt_cmp (pc_notN (pv 8))))) (fun _ _ _ _ _ => (pv 8))) pa_nil)))))
      (pss_one (ps_for PassesOwn.never rfl (pi_list (pv 3)) (pg_name (i := 6) scRNS.nd rfl (Or.inl rfl)) (pss_one (ps_if (pt_cmpR op_notIn_seq (pv 6) (pv 0) (by rfl)) (pss_one ps_never) pss_nil))))))), ?_⟩
    refine ⟨Nat.zero_le _, fun d hd => ?_⟩
    dsimp only [List.set_cons_succ, List.set_cons_zero]
    have Sd : ∀ {H1 : Hp} {o : HO}, Same H H1 → Same H (upd H1 d o) := fun hs b o e => by
      rw [upd_ne (ne_of_none e hd)]
      exact hs b o e
    have S0 : Same H (upd H d (.lst [])) := Same.upd hd
    refine ⟨_, rfl, m, rfl, ⟨_, S0.seq hm⟩, for_list (K := K) (a := m) (xs := as.map V.ref) (fun i σ H' => (∃ v, σ = [some (.ref s), some (.ref m), some (.ref p), some (.ref d), v, none, none, none, none]) ∧ Same H H' ∧ ∃ zs : List Str, H' d = some (.lst (zs.map V.str)) ∧ zs.length ≤ 2 * i ∧ ∀ z ∈ zs, z ∈ ss) ⟨⟨none, rfl⟩, S0, [], upd_same, Nat.le_refl _, fun z hz => (List.not_mem_nil hz).elim⟩ (fun i σ H' _ p => p.2.1.seq hm) ?_ ?_⟩
    · rintro i y σ H' hi ⟨⟨v, rfl⟩, hS, zs, hz, zl, zo⟩
      obtain ⟨a, x, rfl, hxi, hat⟩ := hms.get hi
      obtain ⟨d', t1, t2, ha, _, _⟩ := MkAt.same hS hat
      have il : i < ms.length := (List.getElem?_eq_some_iff.mp hxi).1
      have ox := hx x (List.mem_of_getElem? hxi)
      dsimp only [gName, List.set_cons_succ, List.set_cons_zero]
      refine ⟨_, rfl, .inl ⟨rfl, _, SqL.of hz⟩, _, rfl, a, B, d', _, _, rfl, ha, TM.cl, TM.nk, makF_maker _ _ _ _, _, rfl, a, B, d', _, _, rfl, ha, TM.cl, TM.nd, makF_made _ _ _ _, by show 2 ≤ sizeLine; decide, fun l2 nl2 => ?_⟩
      refine ⟨d, l2, _, _, rfl, rfl, Same.upd nl2 _ _ hz, upd_same, ?_, ⟨_, rfl⟩, Sd (hS.trans (Same.upd nl2)), zs ++ [x.mr, x.md], ?_, ?_, ?_⟩
      · rw [List.length_map]
        exact Nat.le_trans (show zs.length + 2 ≤ 10000 by omega) (by decide)
      · rw [upd_same, List.map_append]
        rfl
      · rw [List.length_append]
        show zs.length + 2 ≤ _
        omega
      · intro z hzm
        rcases List.mem_append.mp hzm with q | q
        · exact zo z q
        · rcases List.mem_cons.mp q with e | q
          · rw [e]; exact ox.1
          · rw [List.mem_singleton.mp q]; exact ox.2
    rintro σ H1 ⟨⟨v, rfl⟩, hS1, zs, hz, zl, zo⟩
    rw [List.length_map, hms.len] at zl
    refine ⟨_, rfl, p, rfl, ⟨_, hS1.seq hp⟩, for_list (K := K) (a := p) (xs := bs.map V.ref) (fun i σ H' => (∃ v u, σ = [some (.ref s), some (.ref m), some (.ref p), some (.ref d), v, u, none, none, none]) ∧ Same H H' ∧ ∃ zs : List Str, H' d = some (.lst (zs.map V.str)) ∧ zs.length ≤ 2 * ms.length + 4 * i ∧ ∀ z ∈ zs, z ∈ ss) ⟨⟨_, none, rfl⟩, hS1, zs, hz, by omega, zo⟩ (fun i σ H' _ p => p.2.1.seq hp) ?_ ?_⟩
    · rintro i y σ H' hi ⟨⟨v, u, rfl⟩, hS, zs, hz, zl, zo⟩
      obtain ⟨a, x, rfl, hxi, hat⟩ := hvv.get hi
      obtain ⟨C, d', fs, t1, ps, ha, hc, hn, hlk, ht, hrow⟩ := PvAt.same hS hat
      have il : i < vv.length := (List.getElem?_eq_some_iff.mp hxi).1
      have xm := List.mem_of_getElem? hxi
      have x4 := v4 x xm
      dsimp only [gName, List.set_cons_succ, List.set_cons_zero]
      refine ⟨_, rfl, .inl ⟨rfl, _, SqL.of hz⟩, _, rfl, a, C, d', _, _, rfl, ha, hc, hn, hlk, t1, rfl, ⟨_, ht⟩, fun D hD => ?_⟩
      have ndD : d ≠ D := ne_of_none hz hD
      refine lc_it walk_tup (fun j G => Same H' G ∧ ∃ us : List Str, G D = some (.lst (us.map V.str)) ∧ us.length ≤ j ∧ ∀ z ∈ us, z ∈ ss) ⟨Same.upd hD, [], upd_same, Nat.le_refl _, fun z hz => (List.not_mem_nil hz).elim⟩ (fun j G _ p => same_seqT p.1 ht) ?_ ?_
      · rintro j x' G G' hj ⟨hSG, us, hu, ul, uo⟩ ⟨rfl, hxj⟩
        obtain ⟨q, hqj, rfl⟩ := map_ref_get hxj
        obtain ⟨r, hrj, hqr⟩ := hrow.get hqj
        obtain ⟨⟨n, so⟩, hvj, rfl⟩ := var_get hrj
        have jl : j < x.length := (List.getElem?_eq_some_iff.mp hvj).1
        refine ⟨q, _, rfl, same_seqT hSG hqr, rfl, _, _, rfl, _, _, rfl, rfl, rfl, ?_⟩
        cases so with
        | none =>
          refine ⟨_, rfl, _, rfl, ?_⟩
          refine iteF ?_
          exact ⟨hSG, us, hu, by omega, uo⟩
        | some z =>
          refine ⟨_, rfl, _, rfl, ?_⟩
          refine iteT ?_
          refine ⟨_, rfl, _, hu, ?_, ?_, us ++ [z], ?_, ?_, ?_⟩
          · rw [List.length_map]
            exact Nat.lt_of_le_of_lt (show us.length ≤ 100 by omega) (by decide)
          · intro b o h
            rw [upd_ne (ne_of_none h hD)]
            exact hSG b o h
          · rw [upd_same, List.map_append]
            rfl
          · rw [List.length_append, List.length_singleton]
            omega
          · intro y hyy
            rcases List.mem_append.mp hyy with q | q
            · exact uo y q
            · rw [List.mem_singleton.mp q]
              exact hy x xm (n, some z) (List.mem_of_getElem? hvj) z rfl
      · rintro G ⟨hSG, us, hu, ul, uo⟩
        have ul4 : us.length ≤ 4 := by
          rw [List.length_map, hrow.len, List.length_map] at ul
          omega
        refine ⟨d, D, _, _, rfl, rfl, hSG _ _ hz, hu, ?_, ⟨_, _, rfl⟩, Sd (hS.trans hSG), zs ++ us, ?_, ?_, ?_⟩
        · rw [List.length_map, List.length_map]
          exact Nat.le_trans (show zs.length + us.length ≤ 10000 by omega) (by decide)
        · rw [upd_same, List.map_append]
        · rw [List.length_append]
          omega
        · intro z hzm
          rcases List.mem_append.mp hzm with q | q
          · exact zo z q
          · exact uo z q
    rintro σ H2 ⟨⟨v, u, rfl⟩, hS2, zs, hz, zl, zo⟩
    refine ⟨_, rfl, d, rfl, ⟨_, SqL.of hz⟩, for_list (K := K) (a := d) (xs := zs.map V.str) (fun i σ H' => (∃ v u t, σ = [some (.ref s), some (.ref m), some (.ref p), some (.ref d), v, u, t, none, none]) ∧ H' = H2) ⟨⟨_, _, none, rfl⟩, rfl⟩ (fun i σ H' _ p => by rw [p.2]; exact SqL.of hz) ?_ (fun σ H' p => by rw [p.2]; exact k _ hS2)⟩
    rintro i y σ H' hi ⟨⟨v, u, t, rfl⟩, rfl⟩
    rw [List.getElem?_map] at hi
    obtain ⟨z, hzi, rfl⟩ := Option.map_eq_some_iff.mp hi
    dsimp only [gName, List.set_cons_succ, List.set_cons_zero]
    refine ⟨_, rfl, _, rfl, s, _, rfl, .inl (hS2.seq hs), rfl, flat_of ss, _, rfl, ?_⟩
    show if (!inV (.str z) (ss.map V.str)) = true then _ else _
    rw [inV_strs, decide_eq_true (zo z (List.mem_of_getElem? hzi))]
    exact iteF ⟨⟨_, _, _, rfl⟩, rfl⟩
end
end Wm
namespace Wm
open PySem L2 StX
def spRNW (K : PySem.W.Frag) (MB RB BB : Addr) : Sp := fun vs H Q _ => ∃ (w m r b : Addr) (ws : List Str) (as bs cs : List Addr) (ms : List MkD) (rs : List RlD) (ps : List PtD), vs = [.ref w, .ref m, .ref r, .ref b] ∧ SqL K H w (ws.map V.str) ∧ SqL K H m (as.map V.ref) ∧ AllAt (MkAt K MB H) as ms ∧ SqL K H r (bs.map V.ref) ∧ AllAt (RlAt K RB H) bs rs ∧ SqL K H b (cs.map V.ref) ∧ AllAt (BrAt K BB H) cs ps ∧
  ms.length ≤ 1000 ∧ rs.length ≤ 1000 ∧ ps.length ≤ 1000 ∧ (∀ x ∈ ms, x.dn.length ≤ 100 ∧ x.up.length ≤ 100) ∧ (∀ x ∈ rs, x.p.cs.length ≤ 3) ∧ (∀ x ∈ ps, x.cs.length ≤ 3) ∧ (∀ x ∈ ms, (∀ z ∈ x.dn, z ∈ ws) ∧ ∀ z ∈ x.up, z ∈ ws) ∧ (∀ x ∈ rs, (∀ t ∈ x.p.cs, t.2.1 ∈ ws) ∧ x.g.2.1 ∈ ws) ∧ (∀ x ∈ ps, ∀ t ∈ x.cs, t.2.1 ∈ ws) ∧ ∀ H', Same H H' → Q .non H'
section
variable {P : Program} {w : World} {K : PySem.W.Frag} {mg : Str → Option Value} {base : Heap}
theorem scRNW : FnScope ["words", "makings", "rules", "bars", "asked", "making", "rule", "bar", "name", "x", "word", "y"] ["words", "makings", "rules", "bars"] (defScope sRNW) := ⟨rfl, rfl, rfl, by decide +kernel, rfl, by decide +kernel, by decide +kernel⟩
theorem ok_rnw {f MB fM RB fR BB fB : Addr} {fd : FuncData} (F : Fun K "refuse_no_word" "refuse_no_word" sRNW f fd) (TM : TxMak K mg MB fM) (TR : TxRul K mg RB fR) (TB : TxBar K mg BB fB) : FnOk P w K mg base CX0 1 f fd ["words", "makings", "rules", "bars"] (spRNW K MB RB BB) := by
  refine F.ok scRNW (fun vs H Q E h => ?_) (fun cdv A outer s H vs Q E hr h => ?_)
  · obtain ⟨w, m, r, b, ws, as, bs, cs, ms, rs, ps, rfl, _⟩ := h
    rfl
  · obtain ⟨w, m, r, b, ws, as, bs, cs, ms, rs, ps, rfl, hw, hm, hms, hr', hrs, hb, hps, ml, rl, pl, m1, r1, p1, mo, ro, po, k⟩ := h
    refine ⟨_, (pss_cons (ps_set (i := 4) scRNW.nd rfl (Or.inl rfl) (pe_lst pa_nil))
      (pss_cons (ps_for PassesOwn.never rfl (pi_list (pv 1)) (pg_name (i := 5) scRNW.nd rfl (Or.inl rfl)) (pss_one (ps_expr (pe_bm PySem.F.plainAttrs_list PySem.F.slot_list_extend PySem.F.type_list_extend mt_extend (pv 4) (pa_cons (pe_lst (pa_star (pe_fld (pv 5) rfl) (pa_star (pe_fld (pv 5) rfl) pa_nil))) pa_nil)))))
      (pss_cons (ps_for PassesOwn.never rfl (pi_list (pv 2)) (pg_name (i := 6) scRNW.nd rfl (Or.inl rfl)) (pss_one (ps_expr (pe_bm PySem.F.plainAttrs_list PySem.F.slot_list_extend PySem.F.type_list_extend mt_extend (pv 4) (pa_cons (pe_lc (own := [("x", 9), ("word", 10), ("y", 11)]) (g := gTup K 3 (gCons (gName 9) (gCons (gName 10) (gCons (gName 11) gNil)))) rfl scRNW.nd (pi_list (pe_lst (pa_star (pe_fld (pv 6) rfl) (pa_cons (pe_fld (pv 6) rfl) pa_nil)))) (blkOk_by (N := ["words", "makings", "rules", "bars", "asked", "making", "rule", "bar", "name", "x", "word", "y"]) (sc := defScope sRNW) (by decide +kernel)) (fun _ _ _ _ _ => (pg_tup rfl (pgs_cons (pg_name (i := 9) scRNW.nd rfl (Or.inl rfl)) (pgs_cons (pg_name (i := 10) scRNW.nd rfl (Or.inl rfl)) (pgs_cons (pg_name (i := 11) scRNW.nd rfl (Or.inl rfl)) pgs_nil))))) (fun _ _ _ _ _ => pts_nil) (fun _ _ _ _ _ => (pv 10))) pa_nil)))))
      (pss_cons (ps_for PassesOwn.never rfl (pi_list (pv 3)) (pg_name (i := 7) scRNW.nd rfl (Or.inl rfl)) (pss_one (ps_expr (pe_bm PySem.F.plainAttrs_list PySem.F.slot_list_extend PySem.F.type_list_extend mt_extend (pv 4) (pa_cons (pe_lc (own := [("x", 9), ("word", 10), ("y", 11)]) (g := gTup K 3 (gCons (gName 9) (gCons (gName 10) (gCons (gName 11) gNil)))) rfl scRNW.nd (pi_tup (pe_fld (pv 7) rfl)) (blkOk_by (N := ["words", "makings", "rules", "bars", "asked", "making", "rule", "bar", "name", "x", "word", "y"]) (sc := defScope sRNW) (by decide +kernel)) (fun _ _ _ _ _ => (pg_tup rfl (pgs_cons (pg_name (i := 9) scRNW.nd rfl (Or.inl rfl)) (pgs_cons (pg_name (i := 10) scRNW.nd rfl (Or.inl rfl)) (pgs_cons (pg_name (i := 11) scRNW.nd rfl (Or.inl rfl)) pgs_nil))))) (fun _ _ _ _ _ => pts_nil) (fun _ _ _ _ _ => (pv 10))) pa_nil)))))
      (pss_one (ps_for PassesOwn.never rfl (pi_list (pv 4)) (pg_name (i := 8) scRNW.nd rfl (Or.inl rfl)) (pss_one (ps_if (pt_cmpR op_notIn_seq (pv 8) (pv 0) (by rfl)) (pss_one ps_never) pss_nil)))))))), ?_⟩
    refine ⟨Nat.zero_le _, fun d hd => ?_⟩
    dsimp only [List.set_cons_succ, List.set_cons_zero]
    have Sd : ∀ {H1 : Hp} {o : HO}, Same H H1 → Same H (upd H1 d o) := fun hs b o e => by
      rw [upd_ne (ne_of_none e hd)]
      exact hs b o e
    have S0 : Same H (upd H d (.lst [])) := Same.upd hd
    -- the words of the makings
    refine ⟨_, rfl, m, rfl, ⟨_, S0.seq hm⟩, for_list (K := K) (a := m) (xs := as.map V.ref) (fun i σ H' => (∃ v, σ = [some (.ref w), some (.ref m), some (.ref r), some (.ref b), some (.ref d), v, none, none, none, none, none, none]) ∧ Same H H' ∧ ∃ zs : List Str, H' d = some (.lst (zs.map V.str)) ∧ zs.length ≤ 200 * i ∧ ∀ z ∈ zs, z ∈ ws) ⟨⟨none, rfl⟩, S0, [], upd_same, Nat.le_refl _, fun z hz => (List.not_mem_nil hz).elim⟩ (fun i σ H' _ p => p.2.1.seq hm) ?_ ?_⟩
    · rintro i y σ H' hi ⟨⟨v, rfl⟩, hS, zs, hz, zl, zo⟩
      obtain ⟨a, x, rfl, hxi, hat⟩ := hms.get hi
      obtain ⟨d', t1, t2, ha, ht1, ht2⟩ := MkAt.same hS hat
      have il : i < ms.length := (List.getElem?_eq_some_iff.mp hxi).1
      have xm := List.mem_of_getElem? hxi
      have x1 := m1 x xm
      have xo := mo x xm
      dsimp only [gName, List.set_cons_succ, List.set_cons_zero]
      refine ⟨_, rfl, .inl ⟨rfl, _, SqL.of hz⟩, _, rfl, a, MB, d', _, _, rfl, ha, TM.cl, TM.nw, makF_down _ _ _ _, t1, _, rfl, .inl ht1, _, rfl, a, MB, d', _, _, rfl, ha, TM.cl, TM.nu, makF_up _ _ _ _, t2, _, rfl, .inl ht2, ?_⟩
      show (x.dn.map V.str ++ (x.up.map V.str ++ [])).length ≤ sizeLine ∧ _
      rw [show (x.dn.map V.str ++ (x.up.map V.str ++ [])) = (x.dn ++ x.up).map V.str by rw [List.append_nil, List.map_append]]
      refine ⟨Nat.le_trans (show _ ≤ 1000 by rw [List.length_map, List.length_append]; omega) (by decide), fun l2 nl2 => ?_⟩
      refine ⟨d, l2, _, _, rfl, rfl, Same.upd nl2 _ _ hz, upd_same, ?_, ⟨_, rfl⟩, Sd (hS.trans (Same.upd nl2)), zs ++ (x.dn ++ x.up), ?_, ?_, ?_⟩
      · rw [List.length_map, List.length_map, List.length_append]
        exact Nat.le_trans (show _ ≤ 1000000 by omega) (by decide)
      · rw [upd_same]
        simp
      · rw [List.length_append, List.length_append]
        omega
      · intro z hzm
        rcases List.mem_append.mp hzm with q | q
        · exact zo z q
        · rcases List.mem_append.mp q with q | q
          · exact xo.1 z q
          · exact xo.2 z q
    rintro σ H1 ⟨⟨v, rfl⟩, hS1, zs, hz, zl, zo⟩
    rw [List.length_map, hms.len] at zl
    -- those of the rules
    refine ⟨_, rfl, r, rfl, ⟨_, hS1.seq hr'⟩, for_list (K := K) (a := r) (xs := bs.map V.ref) (fun i σ H' => (∃ v u, σ = [some (.ref w), some (.ref m), some (.ref r), some (.ref b), some (.ref d), v, u, none, none, none, none, none]) ∧ Same H H' ∧ ∃ zs : List Str, H' d = some (.lst (zs.map V.str)) ∧ zs.length ≤ 200 * ms.length + 4 * i ∧ ∀ z ∈ zs, z ∈ ws) ⟨⟨_, none, rfl⟩, hS1, zs, hz, by omega, zo⟩ (fun i σ H' _ p => p.2.1.seq hr') ?_ ?_⟩
    · rintro i y σ H' hi ⟨⟨v, u, rfl⟩, hS, zs, hz, zl, zo⟩
      obtain ⟨a, x, rfl, hxi, hat⟩ := hrs.get hi
      obtain ⟨d', t1, t2, t3, us, qs, ha, ht1, hu, ht2, hq, ht3⟩ := RlAt.same hS hat
      have il : i < rs.length := (List.getElem?_eq_some_iff.mp hxi).1
      have xm := List.mem_of_getElem? hxi
      have x1 := r1 x xm
      have xo := ro x xm
      have ql : qs.length = x.p.cs.length := by rw [hq.len, List.length_map]
      dsimp only [gName, List.set_cons_succ, List.set_cons_zero]
      refine ⟨_, rfl, .inl ⟨rfl, _, SqL.of hz⟩, _, rfl, a, RB, d', _, _, rfl, ha, TR.cl, TR.nc, rulF_cond _ _ _ _ _, t2, _, rfl, .inl ht2, _, rfl, a, RB, d', _, _, rfl, ha, TR.cl, TR.ng, rulF_gives _ _ _ _ _, ?_⟩
      show (qs.map V.ref ++ [V.ref t3]).length ≤ sizeLine ∧ _
      rw [show (qs.map V.ref ++ [V.ref t3]) = (qs ++ [t3]).map V.ref by rw [List.map_append]; rfl]
      refine ⟨Nat.le_trans (show _ ≤ 1000 by rw [List.length_map, List.length_append, List.length_singleton]; omega) (by decide), fun l2 nl2 => ?_⟩
      have S2 : Same H' (upd H' l2 (.lst ((qs ++ [t3]).map V.ref))) := Same.upd nl2
      have e2 : (upd H' l2 (.lst ((qs ++ [t3]).map V.ref))) l2 = some (.lst ((qs ++ [t3]).map V.ref)) := upd_same
      have rows : RowsAt K (upd H' l2 (.lst ((qs ++ [t3]).map V.ref))) (qs ++ [t3]) ((x.p.cs ++ [x.g]).map triV) := by
        have e : (x.p.cs ++ [x.g]).map triV = x.p.cs.map triV ++ [triV x.g] := by rw [List.map_append]; rfl
        rw [e]
        exact (hq.same S2).append (show RowsAt K _ [t3] [triV x.g] from ⟨same_seqT S2 ht3, True.intro⟩)
      generalize upd H' l2 (.lst ((qs ++ [t3]).map V.ref)) = G2 at S2 e2 rows
      refine ⟨l2, rfl, ⟨_, SqL.of e2⟩, fun D hD => ?_⟩
      refine lc_it walk_list (fun j G => Same G2 G ∧ G D = some (.lst ((((x.p.cs ++ [x.g]).take j).map (·.2.1)).map V.str))) ⟨Same.upd hD, upd_same⟩ (fun j G _ p => p.1.seq (SqL.of e2)) ?_ ?_
      · rintro j x' G G' hj ⟨hSG, hu'⟩ ⟨rfl, hxj⟩
        obtain ⟨q, hqj, rfl⟩ := map_ref_get hxj
        obtain ⟨rr, hrj, hqr⟩ := rows.get hqj
        obtain ⟨t, htj, rfl⟩ := tri_get hrj
        have jl : j < (x.p.cs ++ [x.g]).length := (List.getElem?_eq_some_iff.mp htj).1
        refine ⟨q, _, rfl, same_seqT hSG hqr, rfl, _, _, rfl, _, _, rfl, _, _, rfl, rfl, rfl, ?_⟩
        refine ⟨_, rfl, _, hu', ?_, ?_, ?_⟩
        · rw [List.length_map, List.length_map, List.length_take]
          rw [List.length_append, List.length_singleton] at jl ⊢
          exact Nat.lt_of_le_of_lt (show _ ≤ 100 by omega) (by decide)
        · intro b o h
          rw [upd_ne (ne_of_none h hD)]
          exact hSG b o h
        · rw [upd_same, List.take_add_one, htj, List.map_append, List.map_append]
          rfl
      · rintro G ⟨hSG, hu'⟩
        rw [List.length_map, rows.len, List.length_map, List.take_length] at hu'
        have hzG := hSG _ _ (S2 _ _ hz)
        refine ⟨d, D, _, _, rfl, rfl, hzG, hu', ?_, ⟨_, _, rfl⟩, Sd ((hS.trans S2).trans hSG), zs ++ (x.p.cs ++ [x.g]).map (·.2.1), ?_, ?_, ?_⟩
        · rw [List.length_map, List.length_map, List.length_map, List.length_append, List.length_singleton]
          exact Nat.le_trans (show _ ≤ 1000000 by omega) (by decide)
        · rw [upd_same]
          simp
        · rw [List.length_append, List.length_map, List.length_append, List.length_singleton]
          omega
        · intro z hzm
          rcases List.mem_append.mp hzm with q | q
          · exact zo z q
          · obtain ⟨t, ht, rfl⟩ := List.mem_map.mp q
            rcases List.mem_append.mp ht with q | q
            · exact xo.1 t q
            · rw [List.mem_singleton.mp q]
              exact xo.2
    rintro σ H2 ⟨⟨v, u, rfl⟩, hS2, zs, hz, zl, zo⟩
    rw [List.length_map, hrs.len] at zl
    -- those of the bars
    refine ⟨_, rfl, b, rfl, ⟨_, hS2.seq hb⟩, for_list (K := K) (a := b) (xs := cs.map V.ref) (fun i σ H' => (∃ v u t, σ = [some (.ref w), some (.ref m), some (.ref r), some (.ref b), some (.ref d), v, u, t, none, none, none, none]) ∧ Same H H' ∧ ∃ zs : List Str, H' d = some (.lst (zs.map V.str)) ∧ zs.length ≤ 200 * ms.length + 4 * rs.length + 4 * i ∧ ∀ z ∈ zs, z ∈ ws) ⟨⟨_, _, none, rfl⟩, hS2, zs, hz, by omega, zo⟩ (fun i σ H' _ p => p.2.1.seq hb) ?_ ?_⟩
    · rintro i y σ H' hi ⟨⟨v, u, t, rfl⟩, hS, zs, hz, zl, zo⟩
      obtain ⟨a, x, rfl, hxi, hat⟩ := hps.get hi
      obtain ⟨d', t1, t2, us, qs, ha, ht1, hu, ht2, hq⟩ := BrAt.same hS hat
      have il : i < ps.length := (List.getElem?_eq_some_iff.mp hxi).1
      have xm := List.mem_of_getElem? hxi
      have x1 := p1 x xm
      have xo := po x xm
      dsimp only [gName, List.set_cons_succ, List.set_cons_zero]
      refine ⟨_, rfl, .inl ⟨rfl, _, SqL.of hz⟩, _, rfl, a, BB, d', _, _, rfl, ha, TB.cl, TB.nc, barF_cond _ _ _, t2, rfl, ⟨_, ht2⟩, fun D hD => ?_⟩
      refine lc_it walk_tup (fun j G => Same H' G ∧ G D = some (.lst (((x.cs.take j).map (·.2.1)).map V.str))) ⟨Same.upd hD, upd_same⟩ (fun j G _ p => same_seqT p.1 ht2) ?_ ?_
      · rintro j x' G G' hj ⟨hSG, hu'⟩ ⟨rfl, hxj⟩
        obtain ⟨q, hqj, rfl⟩ := map_ref_get hxj
        obtain ⟨rr, hrj, hqr⟩ := hq.get hqj
        obtain ⟨t, htj, rfl⟩ := tri_get hrj
        have jl : j < x.cs.length := (List.getElem?_eq_some_iff.mp htj).1
        refine ⟨q, _, rfl, same_seqT hSG hqr, rfl, _, _, rfl, _, _, rfl, _, _, rfl, rfl, rfl, ?_⟩
        refine ⟨_, rfl, _, hu', ?_, ?_, ?_⟩
        · rw [List.length_map, List.length_map, List.length_take]
          exact Nat.lt_of_le_of_lt (show _ ≤ 100 by omega) (by decide)
        · intro b o h
          rw [upd_ne (ne_of_none h hD)]
          exact hSG b o h
        · rw [upd_same, List.take_add_one, htj, List.map_append, List.map_append]
          rfl
      · rintro G ⟨hSG, hu'⟩
        rw [List.length_map, hq.len, List.length_map, List.take_length] at hu'
        refine ⟨d, D, _, _, rfl, rfl, hSG _ _ hz, hu', ?_, ⟨_, _, _, rfl⟩, Sd (hS.trans hSG), zs ++ x.cs.map (·.2.1), ?_, ?_, ?_⟩
        · rw [List.length_map, List.length_map, List.length_map]
          exact Nat.le_trans (show _ ≤ 1000000 by omega) (by decide)
        · rw [upd_same, List.map_append]
        · rw [List.length_append, List.length_map]
          omega
        · intro z hzm
          rcases List.mem_append.mp hzm with q | q
          · exact zo z q
          · obtain ⟨t, ht, rfl⟩ := List.mem_map.mp q
            exact xo t ht
    rintro σ H3 ⟨⟨v, u, t, rfl⟩, hS3, zs, hz, zl, zo⟩
    refine ⟨_, rfl, d, rfl, ⟨_, SqL.of hz⟩, for_list (K := K) (a := d) (xs := zs.map V.str) (fun i σ H' => (∃ v u t n, σ = [some (.ref w), some (.ref m), some (.ref r), some (.ref b), some (.ref d), v, u, t, n, none, none, none]) ∧ H' = H3) ⟨⟨_, _, _, none, rfl⟩, rfl⟩ (fun i σ H' _ p => by rw [p.2]; exact SqL.of hz) ?_ (fun σ H' p => by rw [p.2]; exact k _ hS3)⟩
    rintro i y σ H' hi ⟨⟨v, u, t, n, rfl⟩, rfl⟩
    rw [List.getElem?_map] at hi
    obtain ⟨z, hzi, rfl⟩ := Option.map_eq_some_iff.mp hi
    dsimp only [gName, List.set_cons_succ, List.set_cons_zero]
    refine ⟨_, rfl, _, rfl, w, _, rfl, .inl (hS3.seq hw), rfl, flat_of ws, _, rfl, ?_⟩
    show if (!inV (.str z) (ws.map V.str)) = true then _ else _
    rw [inV_strs, decide_eq_true (zo z (List.mem_of_getElem? hzi))]
    exact iteF ⟨⟨_, _, _, _, rfl⟩, rfl⟩
end
end Wm
namespace Wm
open PySem L2 StX
/-- names in a row, of which the program refuses none -/
structure Row (zs : List Str) : Prop where
  nm : ∀ z ∈ zs, isNm z = true ∧ z.length ≤ 12
  nd : zs.Nodup
theorem Row.noTw {zs : List Str} (h : Row zs) : NoTw (zs.map V.str) := fun i x e => by
  rw [List.getElem?_map] at e
  obtain ⟨z, ez, rfl⟩ := Option.map_eq_some_iff.mp e
  rw [← List.map_take, inV_strs]
  refine decide_eq_false fun hm => ?_
  obtain ⟨j, hj⟩ := List.mem_iff_getElem?.mp hm
  have hlt : j < i := by
    have q := (List.getElem?_eq_some_iff.mp hj).1
    rw [List.length_take] at q
    omega
  rw [List.getElem?_take_of_lt hlt] at hj
  have hil := (List.getElem?_eq_some_iff.mp ez).1
  have e1 := (List.getElem?_eq_some_iff.mp ez).2
  have hjl := (List.getElem?_eq_some_iff.mp hj).1
  have e2 := (List.getElem?_eq_some_iff.mp hj).2
  exact (List.pairwise_iff_getElem.mp h.nd) j i hjl hil hlt (e2.trans e1.symm)
structure TxS (mg : Str → Option Value) : Prop where
  so : ∃ t, mg "MOST_SORTS" = some (.int 4 t)
  wo : ∃ t, mg "MOST_WORDS" = some (.int 5 t)
  ru : ∃ t, mg "MOST_RULES" = some (.int 8 t)
  ba : ∃ t, mg "MOST_BARS" = some (.int 4 t)
def spRNv (K : PySem.W.Frag) : Sp := fun vs H Q _ => ∃ (l : Addr) (zs : List Str), vs = [.ref l] ∧ SqL K H l (zs.map V.str) ∧ (∀ z ∈ zs, isNm z = true ∧ z.length ≤ 12) ∧ ∀ H', Same H H' → Q .non H'
/-- a scheme that is refused by nothing -/
structure SchOk (ss ws : List Str) (ms : List MkD) (rs : List RlD) (ps : List PtD) : Prop where
  sr : Row ss
  wr : Row ws
  s1 : 1 ≤ ss.length
  s4 : ss.length ≤ 4
  w1 : 1 ≤ ws.length
  w5 : ws.length ≤ 5
  m9 : ms.length ≤ 1000
  r8 : rs.length ≤ 8
  b4 : ps.length ≤ 4
  mt : (ms.map fun x => (x.mr, x.md)).Nodup
  rn : (rs.map (·.p.nm)).Nodup
  bn : (ps.map (·.nm)).Nodup
  so : ∀ z ∈ ss, okS z
  mo : ∀ x ∈ ms, x.mr ∈ ss ∧ x.md ∈ ss
  mu : ∀ x ∈ ms, ∃ i j : Nat, i < j ∧ ss[i]? = some x.mr ∧ ss[j]? = some x.md
  ml : ∀ x ∈ ms, x.dn.length ≤ 100 ∧ x.up.length ≤ 100
  mw : ∀ x ∈ ms, (∀ z ∈ x.dn, z ∈ ws) ∧ ∀ z ∈ x.up, z ∈ ws
  rv : ∀ x ∈ rs, x.p.vars.length ≤ 4 ∧ x.p.cs.length ≤ 3 ∧ (∀ y ∈ x.p.vars, ∀ z, y.2 = some z → z ∈ ss) ∧ (∀ t ∈ x.p.cs, t.2.1 ∈ ws) ∧ x.g.2.1 ∈ ws
  bv : ∀ x ∈ ps, x.vars.length ≤ 4 ∧ x.cs.length ≤ 3 ∧ (∀ y ∈ x.vars, ∀ z, y.2 = some z → z ∈ ss) ∧ ∀ t ∈ x.cs, t.2.1 ∈ ws
def spOL (K : PySem.W.Frag) : Sp := fun vs H Q _ => ∃ x : V, vs = [x] ∧ ((x = .non ∧ ∀ d, H d = none → Q (.ref d) (upd H d (.lst []))) ∨ ∃ (l : Addr) (xs : List V), x = .ref l ∧ SqL K H l xs ∧ ∀ d, H d = none → Q (.ref d) (upd H d (.lst xs)))
def spCS (K : PySem.W.Frag) (MB RB BB : Addr) : Sp := fun vs H Q _ => ∃ (s w m r b : Addr) (ss ws : List Str) (as bs cs : List Addr) (ms : List MkD) (rs : List RlD) (ps : List PtD), vs = [.ref s, .ref w, .ref m, .ref r, .ref b] ∧ SqL K H s (ss.map V.str) ∧ SqL K H w (ws.map V.str) ∧ SqL K H m (as.map V.ref) ∧ AllAt (MkAt K MB H) as ms ∧ SqL K H r (bs.map V.ref) ∧ AllAt (RlAt K RB H) bs rs ∧ SqL K H b (cs.map V.ref) ∧ AllAt (BrAt K BB H) cs ps ∧ SchOk ss ws ms rs ps ∧ ∀ H', Same H H' → Q .non H'
theorem noTw_of {zs : List Str} (h : zs.Nodup) : NoTw (zs.map V.str) := fun i x e => by
  rw [List.getElem?_map] at e
  obtain ⟨z, ez, rfl⟩ := Option.map_eq_some_iff.mp e
  rw [← List.map_take, inV_strs]
  refine decide_eq_false fun hm => ?_
  obtain ⟨j, hj⟩ := List.mem_iff_getElem?.mp hm
  have hlt : j < i := by
    have q := (List.getElem?_eq_some_iff.mp hj).1
    rw [List.length_take] at q
    omega
  rw [List.getElem?_take_of_lt hlt] at hj
  have hil := (List.getElem?_eq_some_iff.mp ez).1
  have hjl := (List.getElem?_eq_some_iff.mp hj).1
  exact (List.pairwise_iff_getElem.mp h) j i hjl hil hlt ((List.getElem?_eq_some_iff.mp hj).2.trans (List.getElem?_eq_some_iff.mp ez).2.symm)
theorem RlAt.pv {K : PySem.W.Frag} {mg : Str → Option Value} {RB fR : Addr} {H : Hp} {a : Addr} {x : RlD} (T : TxRul K mg RB fR) (h : RlAt K RB H a x) : PvAt K H a x.p.vars := by
  obtain ⟨d, t1, t2, t3, ps, qs, a1, a2, a3, _⟩ := h
  exact ⟨RB, d, _, t1, ps, a1, T.cl, T.nv, rulF_vars _ _ _ _ _, a2, a3⟩
theorem BrAt.pv {K : PySem.W.Frag} {mg : Str → Option Value} {BB fB : Addr} {H : Hp} {a : Addr} {x : PtD} (T : TxBar K mg BB fB) (h : BrAt K BB H a x) : PvAt K H a x.vars := by
  obtain ⟨d, t1, t2, ps, qs, a1, a2, a3, _⟩ := h
  exact ⟨BB, d, _, t1, ps, a1, T.cl, T.nv, barF_vars _ _ _, a2, a3⟩
theorem AllAt.map {α β : Type} {R : Addr → β → Prop} {f : α → β} : ∀ {as : List Addr} {xs : List α}, AllAt (fun a x => R a (f x)) as xs → AllAt R as (xs.map f)
  | [], [], _ => True.intro
  | _ :: _, _ :: _, q => ⟨q.1, AllAt.map q.2⟩
  | [], _ :: _, q => q.elim
  | _ :: _, [], q => q.elim
section
variable {P : Program} {w : World} {K : PySem.W.Frag} {mg : Str → Option Value} {base : Heap}
theorem ok_rnv {f fN : Addr} {fd fdN : FuncData} (F : Fun K "refuse_no_name" "refuse_no_name" sRN f fd) (D : Dn K mg "is_name" sName ["text"] fN fdN) (GN : FnOk P w K mg base CX0 1 fN fdN ["text"] spName) : FnOk P w K mg base CX0 2 f fd ["texts"] (spRNv K) := by
  refine F.ok scRN (fun vs H Q E h => ?_) (fun cdv A outer s H vs Q E hr h => ?_)
  · obtain ⟨l, zs, rfl, _⟩ := h
    rfl
  · obtain ⟨l, zs, rfl, hl, hn, k⟩ := h
    refine ⟨_, (pss_one (ps_for PassesOwn.never rfl (pi_list (pv 0)) (pg_name (i := 1) scRN.nd rfl (Or.inl rfl)) (pss_one (ps_if (pt_not (pt_val (pe_call GN hr rfl D.g D.F.kp D.b .nil pass0 (pa_cons (pv 1) pa_nil)))) (pss_one ps_never) pss_nil)))), ?_⟩
    refine ⟨_, rfl, l, rfl, ⟨_, hl⟩, for_list (K := K) (a := l) (xs := zs.map V.str) (fun i σ H' => (∃ v, σ = [some (.ref l), v]) ∧ Same H H') ⟨⟨none, rfl⟩, Same.refl H⟩ (fun i σ H' _ p => p.2.seq hl) ?_ (fun σ H' p => k H' p.2)⟩
    rintro i y σ H' hi ⟨⟨v, rfl⟩, hS⟩
    rw [List.getElem?_map] at hi
    obtain ⟨z, hz, rfl⟩ := Option.map_eq_some_iff.mp hi
    have hq := hn z (List.mem_of_getElem? hz)
    refine ⟨_, rfl, z, rfl, Nat.le_trans hq.2 (by decide), fun H2 hS2 => ⟨_, rfl, ?_⟩⟩
    rw [hq.1]
    exact iteF ⟨⟨_, rfl⟩, hS.trans hS2⟩
theorem scOL : FnScope ["rows"] ["rows"] (defScope sOL) := ⟨rfl, rfl, rfl, by decide +kernel, rfl, by decide +kernel, by decide +kernel⟩
theorem ok_ol {f : Addr} {fd : FuncData} (F : Fun K "own_list" "own_list" sOL f fd) (tl : mg "list" = none) : FnOk P w K mg base CX0 1 f fd ["rows"] (spOL K) := by
  refine F.ok scOL (fun vs H Q E h => ?_) (fun cdv A outer s H vs Q E hr h => ?_)
  · obtain ⟨x, rfl, _⟩ := h
    rfl
  · obtain ⟨x, rfl, h⟩ := h
    refine ⟨_, (pss_cons (ps_if (pt_cmp (pc_isN (pv 0))) (pss_one (ps_ret (pe_lst pa_nil))) pss_nil)
      (pss_one (ps_ret (pe_callTy call_list_of (by rfl) tl (by decide +kernel) (pa_cons (pv 0) pa_nil))))), ?_⟩
    refine ⟨_, rfl, _, rfl, ?_⟩
    rcases h with ⟨rfl, k⟩ | ⟨l, xs, rfl, hl, k⟩
    · exact iteT ⟨Nat.zero_le _, fun d hd => k d hd⟩
    · exact iteF ⟨_, rfl, l, _, rfl, .inl hl, fun d hd => k d hd⟩
theorem scCS : FnScope ["sorts", "words", "makings", "rules", "bars", "rule", "bar"] ["sorts", "words", "makings", "rules", "bars"] (defScope sCS) := ⟨rfl, rfl, rfl, by decide +kernel, rfl, by decide +kernel, by decide +kernel⟩
theorem ok_cs {f fRC fRN fRT fRM fNS fRU fNW fF MB fM RB fR BB fB : Addr} {fd dRC dRN dRT dRM dNS dRU dNW dF : FuncData} (F : Fun K "check_scheme" "check_scheme" sCS f fd) (T : TxB mg) (TS : TxS mg) (TM : TxMak K mg MB fM) (TR : TxRul K mg RB fR) (TB : TxBar K mg BB fB)
    (DC : Dn K mg "refuse_count" sRC ["what", "count", "least", "most"] fRC dRC) (DN : Dn K mg "refuse_no_name" sRN ["texts"] fRN dRN) (DT : Dn K mg "refuse_twice" sRT ["names"] fRT dRT) (DM : Dn K mg "refuse_makings_twice" sRMT ["makings"] fRM dRM) (DS : Dn K mg "refuse_no_sort" sRNS ["sorts", "makings", "patterns"] fNS dNS) (DU : Dn K mg "refuse_upward" sRU ["sorts", "makings"] fRU dRU) (DW : Dn K mg "refuse_no_word" sRNW ["words", "makings", "rules", "bars"] fNW dNW) (DF : Dn K mg "first_twice" sFT ["row"] fF dF)
    (GN : FnOk P w K mg base CX0 2 fRN dRN ["texts"] (spRNv K)) (GT : FnOk P w K mg base CX0 2 fRT dRT ["names"] (spFT K)) : FnOk P w K mg base CX0 3 f fd ["sorts", "words", "makings", "rules", "bars"] (spCS K MB RB BB) := by
  have GC : FnOk P w K mg base CX0 1 fRC dRC _ spRC := ok_rc DC.F
  have GM : FnOk P w K mg base CX0 2 fRM dRM _ (spRMT K MB) := ok_rmt DM.F T TM DF
  have GS : FnOk P w K mg base CX0 1 fNS dNS _ (spRNS K MB) := ok_rns DS.F TM
  have GU : FnOk P w K mg base CX0 1 fRU dRU _ (spRU K MB) := ok_ru DU.F TM
  have GW : FnOk P w K mg base CX0 1 fNW dNW _ (spRNW K MB RB BB) := ok_rnw DW.F TM TR TB
  refine F.ok scCS (fun vs H Q E h => ?_) (fun cdv A outer s H vs Q E hr h => ?_)
  · obtain ⟨s, w, m, r, b, ss, ws, as, bs, cs, ms, rs, ps, rfl, _⟩ := h
    rfl
  · obtain ⟨s, w, m, r, b, ss, ws, as, bs, cs, ms, rs, ps, rfl, hs, hw, hm, hms, hr', hrs, hb, hps, ok, k⟩ := h
    have hr1 : Room 1 _ := hr.mono (by decide)
    obtain ⟨t1, g1⟩ := TS.so
    obtain ⟨t2, g2⟩ := TS.wo
    obtain ⟨t3, g3⟩ := TS.ru
    obtain ⟨t4, g4⟩ := TS.ba
    have sl1 := ok.s1
    have sl4 := ok.s4
    have wl1 := ok.w1
    have wl5 := ok.w5
    have rl8 := ok.r8
    have bl4 := ok.b4
    have lr := hrs.len
    have lb := hps.len
    refine ⟨_, (pss_cons (ps_expr (pe_call GC hr1 rfl DC.g DC.F.kp DC.b .nil pass0 (pa_cons pe_str (pa_cons (pe_callB call_len_seq (by rfl) T.len (by decide +kernel) (pa_cons (pv 0) pa_nil)) (pa_cons pe_int (pa_cons (pe_glob (v := .int 4) rfl g1 ⟨t1, rfl⟩) pa_nil))))))
      (pss_cons (ps_expr (pe_call GC hr1 rfl DC.g DC.F.kp DC.b .nil pass0 (pa_cons pe_str (pa_cons (pe_callB call_len_seq (by rfl) T.len (by decide +kernel) (pa_cons (pv 1) pa_nil)) (pa_cons pe_int (pa_cons (pe_glob (v := .int 5) rfl g2 ⟨t2, rfl⟩) pa_nil))))))
      (pss_cons (ps_expr (pe_call GC hr1 rfl DC.g DC.F.kp DC.b .nil pass0 (pa_cons pe_str (pa_cons (pe_callB call_len_seq (by rfl) T.len (by decide +kernel) (pa_cons (pv 3) pa_nil)) (pa_cons pe_int (pa_cons (pe_glob (v := .int 8) rfl g3 ⟨t3, rfl⟩) pa_nil))))))
      (pss_cons (ps_expr (pe_call GC hr1 rfl DC.g DC.F.kp DC.b .nil pass0 (pa_cons pe_str (pa_cons (pe_callB call_len_seq (by rfl) T.len (by decide +kernel) (pa_cons (pv 4) pa_nil)) (pa_cons pe_int (pa_cons (pe_glob (v := .int 4) rfl g4 ⟨t4, rfl⟩) pa_nil))))))
      (pss_cons (ps_expr (pe_call GN hr rfl DN.g DN.F.kp DN.b .nil pass0 (pa_cons (pv 0) pa_nil)))
      (pss_cons (ps_expr (pe_call GN hr rfl DN.g DN.F.kp DN.b .nil pass0 (pa_cons (pv 1) pa_nil)))
      (pss_cons (ps_expr (pe_call GT hr rfl DT.g DT.F.kp DT.b .nil pass0 (pa_cons (pv 0) pa_nil)))
      (pss_cons (ps_expr (pe_call GT hr rfl DT.g DT.F.kp DT.b .nil pass0 (pa_cons (pv 1) pa_nil)))
      (pss_cons (ps_expr (pe_call GM hr rfl DM.g DM.F.kp DM.b .nil pass0 (pa_cons (pv 2) pa_nil)))
      (pss_cons (ps_expr (pe_call GT hr rfl DT.g DT.F.kp DT.b .nil pass0 (pa_cons (pe_lc (own := [("rule", 5)]) (g := gName 5) (te := tFld K (tVar 5) "name") rfl scCS.nd (pi_list (pv 3)) (blkOk_by (N := ["sorts", "words", "makings", "rules", "bars", "rule", "bar"]) (sc := defScope sCS) (by decide +kernel)) (fun _ _ _ _ _ => (pg_name (i := 5) scCS.nd rfl (Or.inl rfl))) (fun _ _ _ _ _ => pts_nil) (fun _ _ _ _ _ => (pe_fld (pv 5) rfl))) pa_nil)))
      (pss_cons (ps_expr (pe_call GT hr rfl DT.g DT.F.kp DT.b .nil pass0 (pa_cons (pe_lc (own := [("bar", 6)]) (g := gName 6) (te := tFld K (tVar 6) "name") rfl scCS.nd (pi_list (pv 4)) (blkOk_by (N := ["sorts", "words", "makings", "rules", "bars", "rule", "bar"]) (sc := defScope sCS) (by decide +kernel)) (fun _ _ _ _ _ => (pg_name (i := 6) scCS.nd rfl (Or.inl rfl))) (fun _ _ _ _ _ => pts_nil) (fun _ _ _ _ _ => (pe_fld (pv 6) rfl))) pa_nil)))
      (pss_cons (ps_expr (pe_call GS hr1 rfl DS.g DS.F.kp DS.b .nil pass0 (pa_cons (pv 0) (pa_cons (pv 2) (pa_cons (pe_lst (pa_star (pv 3) (pa_star (pv 4) pa_nil))) pa_nil)))))
      (pss_cons (ps_expr (pe_call GU hr1 rfl DU.g DU.F.kp DU.b .nil pass0 (pa_cons (pv 0) (pa_cons (pv 2) pa_nil))))
      (pss_one (ps_expr (pe_call GW hr1 rfl DW.g DW.F.kp DW.b .nil pass0 (pa_cons (pv 1) (pa_cons (pv 2) (pa_cons (pv 3) (pa_cons (pv 4) pa_nil)))))))))))))))))))), ?_⟩
    refine ⟨_, rfl, s, _, rfl, .inl hs, _, _, _, _, rfl, by rw [List.length_map]; omega, by rw [List.length_map]; omega, ?_⟩
    refine ⟨_, rfl, w, _, rfl, .inl hw, _, _, _, _, rfl, by rw [List.length_map]; omega, by rw [List.length_map]; omega, ?_⟩
    refine ⟨_, rfl, r, _, rfl, .inl hr', _, _, _, _, rfl, by rw [List.length_map]; omega, by rw [List.length_map]; omega, ?_⟩
    refine ⟨_, rfl, b, _, rfl, .inl hb, _, _, _, _, rfl, by rw [List.length_map]; omega, by rw [List.length_map]; omega, ?_⟩
    refine ⟨_, rfl, s, ss, rfl, hs, ok.sr.nm, fun H1 S1 => ?_⟩
    refine ⟨_, rfl, w, ws, rfl, S1.seq hw, ok.wr.nm, fun H2 S2 => ?_⟩
    have S12 := S1.trans S2
    refine ⟨_, rfl, s, _, rfl, .inl (S12.seq hs), flat_of ss, ok.sr.noTw, fun H3 S3 => ?_⟩
    have S13 := S12.trans S3
    refine ⟨_, rfl, w, _, rfl, .inl (S13.seq hw), flat_of ws, ok.wr.noTw, fun H4 S4 => ?_⟩
    have S14 := S13.trans S4
    refine ⟨_, rfl, m, as, ms, rfl, S14.seq hm, hms.imp fun _ _ q => q.same S14, ok.m9, ok.mt, fun x hx => ⟨ok.so _ (ok.mo x hx).1, ok.so _ (ok.mo x hx).2⟩, fun H5 S5 => ?_⟩
    have S15 := S14.trans S5
    -- names of the rules
    refine ⟨_, rfl, r, rfl, ⟨_, S15.seq hr'⟩, fun D hD => ?_⟩
    refine lc_list (K := K) (a := r) (xs := bs.map V.ref) (fun i H' => Same H5 H' ∧ H' D = some (.lst (((rs.take i).map (·.p.nm)).map V.str))) ⟨Same.upd hD, upd_same⟩ (fun i H' _ p => (S15.trans p.1).seq hr') ?_ ?_
    · rintro i x H' hi ⟨hS, hl⟩
      obtain ⟨a, y, rfl, hy, hat⟩ := hrs.get hi
      obtain ⟨d, t1, t2, t3, us, qs, ha, _⟩ := RlAt.same (S15.trans hS) hat
      have il : i < rs.length := (List.getElem?_eq_some_iff.mp hy).1
      refine ⟨rfl, ?_⟩
      refine ⟨_, rfl, a, RB, d, _, _, rfl, ha, TR.cl, TR.nn, rulF_name _ _ _ _ _, _, hl, ?_, ?_, ?_⟩
      · rw [List.length_map, List.length_map, List.length_take]
        exact Nat.lt_of_le_of_lt (show _ ≤ 100 by omega) (by decide)
      · intro b o h
        rw [upd_ne (ne_of_none h hD)]
        exact hS b o h
      · rw [upd_same, List.take_add_one, hy, List.map_append, List.map_append]
        rfl
    rintro H6 ⟨S6, hl6⟩
    rw [List.length_map, lr, List.take_length] at hl6
    refine ⟨D, _, rfl, .inl (SqL.of hl6), flat_of _, noTw_of ok.rn, fun H7 S7 => ?_⟩
    have S17 := (S15.trans S6).trans S7
    -- names of the bars
    refine ⟨_, rfl, b, rfl, ⟨_, S17.seq hb⟩, fun D2 hD2 => ?_⟩
    refine lc_list (K := K) (a := b) (xs := cs.map V.ref) (fun i H' => Same H7 H' ∧ H' D2 = some (.lst (((ps.take i).map (·.nm)).map V.str))) ⟨Same.upd hD2, upd_same⟩ (fun i H' _ p => (S17.trans p.1).seq hb) ?_ ?_
    · rintro i x H' hi ⟨hS, hl⟩
      obtain ⟨a, y, rfl, hy, hat⟩ := hps.get hi
      obtain ⟨d, t1, t2, us, qs, ha, _⟩ := BrAt.same (S17.trans hS) hat
      have il : i < ps.length := (List.getElem?_eq_some_iff.mp hy).1
      refine ⟨rfl, ?_⟩
      refine ⟨_, rfl, a, BB, d, _, _, rfl, ha, TB.cl, TB.nn, barF_name _ _ _, _, hl, ?_, ?_, ?_⟩
      · rw [List.length_map, List.length_map, List.length_take]
        exact Nat.lt_of_le_of_lt (show _ ≤ 100 by omega) (by decide)
      · intro b o h
        rw [upd_ne (ne_of_none h hD2)]
        exact hS b o h
      · rw [upd_same, List.take_add_one, hy, List.map_append, List.map_append]
        rfl
    rintro H8 ⟨S8, hl8⟩
    rw [List.length_map, lb, List.take_length] at hl8
    refine ⟨D2, _, rfl, .inl (SqL.of hl8), flat_of _, noTw_of ok.bn, fun H9 S9 => ?_⟩
    have S19 := (S17.trans S8).trans S9
    -- sorts
    refine ⟨_, rfl, _, rfl, _, rfl, r, _, rfl, .inr (S19.seq hr'), _, rfl, b, _, rfl, .inr (S19.seq hb), ?_⟩
    show (bs.map V.ref ++ (cs.map V.ref ++ [])).length ≤ sizeLine ∧ _
    rw [show (bs.map V.ref ++ (cs.map V.ref ++ [])) = (bs ++ cs).map V.ref by rw [List.append_nil, List.map_append]]
    refine ⟨Nat.le_trans (show _ ≤ 1000 by rw [List.length_map, List.length_append]; omega) (by decide), fun q hq => ?_⟩
    have Sq : Same H9 (upd H9 q (.lst ((bs ++ cs).map V.ref))) := Same.upd hq
    have eq : (upd H9 q (.lst ((bs ++ cs).map V.ref))) q = some (.lst ((bs ++ cs).map V.ref)) := upd_same
    generalize upd H9 q (.lst ((bs ++ cs).map V.ref)) = Hq at Sq eq
    have S1q := S19.trans Sq
    have pvs : AllAt (PvAt K Hq) (bs ++ cs) (rs.map (·.p.vars) ++ ps.map (·.vars)) := (AllAt.map (f := fun x : RlD => x.p.vars) (hrs.imp fun _ _ z => (z.same S1q).pv TR)).append (AllAt.map (f := fun x : PtD => x.vars) (hps.imp fun _ _ z => (z.same S1q).pv TB))
    refine ⟨s, m, q, ss, as, bs ++ cs, ms, _, rfl, S1q.seq hs, S1q.seq hm, hms.imp fun _ _ z => z.same S1q, SqL.of eq, pvs, ok.m9, ?_, ?_, ok.mo, ?_, fun HA SA => ?_⟩
    · rw [List.length_append, List.length_map, List.length_map]
      omega
    · intro v hv
      rcases List.mem_append.mp hv with z | z
      · obtain ⟨x, hx, rfl⟩ := List.mem_map.mp z
        exact (ok.rv x hx).1
      · obtain ⟨x, hx, rfl⟩ := List.mem_map.mp z
        exact (ok.bv x hx).1
    · intro v hv
      rcases List.mem_append.mp hv with z | z
      · obtain ⟨x, hx, rfl⟩ := List.mem_map.mp z
        exact (ok.rv x hx).2.2.1
      · obtain ⟨x, hx, rfl⟩ := List.mem_map.mp z
        exact (ok.bv x hx).2.2.1
    have S1A := S1q.trans SA
    refine ⟨_, rfl, _, rfl, s, m, ss, as, ms, rfl, S1A.seq hs, S1A.seq hm, hms.imp fun _ _ z => z.same S1A, ok.sr.nd, ok.mu, ?_⟩
    exact ⟨_, rfl, _, rfl, _, rfl, _, rfl, w, m, r, b, ws, as, bs, cs, ms, rs, ps, rfl, S1A.seq hw, S1A.seq hm, hms.imp fun _ _ z => z.same S1A, S1A.seq hr', hrs.imp fun _ _ z => z.same S1A, S1A.seq hb, hps.imp fun _ _ z => z.same S1A, ok.m9, by omega, by omega, ok.ml, fun x hx => (ok.rv x hx).2.1, fun x hx => (ok.bv x hx).2.1, ok.mw, fun x hx => (ok.rv x hx).2.2.2, fun x hx => (ok.bv x hx).2.2.2, fun HB SB => k _ (S1A.trans SB)⟩
end
end Wm
namespace Wm
open PySem L2 StX
def schF (l1 l2 l3 l4 l5 : Addr) : List (Str × V) := putF "own_bars" (.ref l5) (putF "own_rules" (.ref l4) (putF "own_makings" (.ref l3) (putF "own_words" (.ref l2) (putF "own_sorts" (.ref l1) []))))
theorem lookF {f : Str} {v : V} {fs : List (Str × V)} : (putF f v fs).lookup f = some v := by rw [lookup_putF, if_pos rfl]
theorem lookN {f g : Str} {v : V} {fs : List (Str × V)} (h : ¬ g = f) : (putF f v fs).lookup g = fs.lookup g := by rw [lookup_putF, if_neg h]
theorem schF_so (l1 l2 l3 l4 l5 : Addr) : (schF l1 l2 l3 l4 l5).lookup ("own_sorts" : Str) = some (.ref l1) := by
  unfold schF
  rw [lookN (by decide +kernel), lookN (by decide +kernel), lookN (by decide +kernel), lookN (by decide +kernel), lookF]
theorem schF_wo (l1 l2 l3 l4 l5 : Addr) : (schF l1 l2 l3 l4 l5).lookup ("own_words" : Str) = some (.ref l2) := by
  unfold schF
  rw [lookN (by decide +kernel), lookN (by decide +kernel), lookN (by decide +kernel), lookF]
theorem schF_mk (l1 l2 l3 l4 l5 : Addr) : (schF l1 l2 l3 l4 l5).lookup ("own_makings" : Str) = some (.ref l3) := by
  unfold schF
  rw [lookN (by decide +kernel), lookN (by decide +kernel), lookF]
theorem schF_ru (l1 l2 l3 l4 l5 : Addr) : (schF l1 l2 l3 l4 l5).lookup ("own_rules" : Str) = some (.ref l4) := by
  unfold schF
  rw [lookN (by decide +kernel), lookF]
theorem schF_ba (l1 l2 l3 l4 l5 : Addr) : (schF l1 l2 l3 l4 l5).lookup ("own_bars" : Str) = some (.ref l5) := by
  unfold schF
  rw [lookF]
/-- no other field -/
theorem schF_no {g : Str} (h1 : ¬ g = "own_bars") (h2 : ¬ g = "own_rules") (h3 : ¬ g = "own_makings") (h4 : ¬ g = "own_words") (h5 : ¬ g = "own_sorts") (l1 l2 l3 l4 l5 : Addr) : (schF l1 l2 l3 l4 l5).lookup g = none := by
  unfold schF
  rw [lookN h1, lookN h2, lookN h3, lookN h4, lookN h5]
  rfl
structure TxSch (K : PySem.W.Frag) (mg : Str → Option Value) (S fS : Addr) : Prop where
  cl : Cls K S
  n1 : NoAttr K S "own_sorts"
  n2 : NoAttr K S "own_words"
  n3 : NoAttr K S "own_makings"
  n4 : NoAttr K S "own_rules"
  n5 : NoAttr K S "own_bars"
  g : mg "Scheme" = some (.ref S)
  m : Mk K S fS
/-- a scheme at x, of these sorts, words, makings, rules, bars -/
def SchG (S : Addr) (H : Hp) (x : Addr) (ss ws : List Str) (as bs cs : List Addr) : Prop := ∃ dx l1 l2 l3 l4 l5, H x = some (.ins S dx (schF l1 l2 l3 l4 l5)) ∧ H l1 = some (.lst (ss.map V.str)) ∧ H l2 = some (.lst (ws.map V.str)) ∧ H l3 = some (.lst (as.map V.ref)) ∧ H l4 = some (.lst (bs.map V.ref)) ∧ H l5 = some (.lst (cs.map V.ref))
theorem SchG.same {S : Addr} {H H' : Hp} {x : Addr} {ss ws : List Str} {as bs cs : List Addr} (s : Same H H') (h : SchG S H x ss ws as bs cs) : SchG S H' x ss ws as bs cs := by
  obtain ⟨dx, l1, l2, l3, l4, l5, h0, h1, h2, h3, h4, h5⟩ := h
  exact ⟨dx, l1, l2, l3, l4, l5, s _ _ h0, s _ _ h1, s _ _ h2, s _ _ h3, s _ _ h4, s _ _ h5⟩
/-- what is handed in for a list that may be left out -/
def Own (K : PySem.W.Frag) (H : Hp) (v : V) (xs : List V) : Prop := (v = .non ∧ xs = []) ∨ ∃ l, v = .ref l ∧ SqL K H l xs
theorem Own.same {K : PySem.W.Frag} {H H' : Hp} {v : V} {xs : List V} (s : Same H H') (h : Own K H v xs) : Own K H' v xs := by
  rcases h with h | ⟨l, e, h⟩
  · exact .inl h
  · exact .inr ⟨l, e, s.seq h⟩
def spOL2 (K : PySem.W.Frag) : Sp := fun vs H Q _ => ∃ (x : V) (xs : List V), vs = [x] ∧ Own K H x xs ∧ ∀ d, H d = none → Q (.ref d) (upd H d (.lst xs))
/-- the parts of a whole scheme stand -/
structure Parts (K : PySem.W.Frag) (MB RB BB : Addr) (H : Hp) (as bs cs : List Addr) (ms : List MkD) (rs : List RlD) (ps : List PtD) : Prop where
  am : AllAt (MkAt K MB H) as ms
  ar : AllAt (RlAt K RB H) bs rs
  ab : AllAt (BrAt K BB H) cs ps
theorem Parts.same {K : PySem.W.Frag} {MB RB BB : Addr} {H H' : Hp} {as bs cs : List Addr} {ms : List MkD} {rs : List RlD} {ps : List PtD} (s : Same H H') (h : Parts K MB RB BB H as bs cs ms rs ps) : Parts K MB RB BB H' as bs cs ms rs ps :=
  ⟨h.am.imp fun _ _ q => q.same s, h.ar.imp fun _ _ q => q.same s, h.ab.imp fun _ _ q => q.same s⟩
def spSch (K : PySem.W.Frag) (S MB RB BB : Addr) : Sp := fun vs H Q _ => ∃ (H0 : Hp) (x dx s w : Addr) (vm vr vb : V) (ss ws : List Str) (as bs cs : List Addr) (ms : List MkD) (rs : List RlD) (ps : List PtD), vs = [.ref x, .ref s, .ref w, vm, vr, vb] ∧ Same H0 H ∧ H0 x = none ∧ H x = some (.ins S dx []) ∧ SqL K H0 s (ss.map V.str) ∧ SqL K H0 w (ws.map V.str) ∧
  Own K H0 vm (as.map V.ref) ∧ Own K H0 vr (bs.map V.ref) ∧ Own K H0 vb (cs.map V.ref) ∧ Parts K MB RB BB H0 as bs cs ms rs ps ∧ SchOk ss ws ms rs ps ∧ ∀ H', Same H0 H' → SchG S H' x ss ws as bs cs → Q .non H'
/-- all but x stands -/
def Keep (x : Addr) (H H' : Hp) : Prop := ∀ a o, a ≠ x → H a = some o → H' a = some o
theorem fstep {H0 H : Hp} {x l S dx : Addr} {fs : List (Str × V)} {f : Str} {xs : List V} (S0 : Same H0 H) (x0 : H0 x = none) (hx : H x = some (.ins S dx fs)) (hl : H l = none) :
    l ≠ x ∧ (upd H l (.lst xs)) x = some (.ins S dx fs) ∧ ∃ H', H' = upd (upd H l (.lst xs)) x (.ins S dx (putF f (.ref l) fs)) ∧ Same H0 H' ∧ H' l = some (.lst xs) ∧ H' x = some (.ins S dx (putF f (.ref l) fs)) ∧ Keep x H H' := by
  have n : l ≠ x := fun z => by
    rw [z, hx] at hl
    cases hl
  refine ⟨n, (upd_ne n.symm).trans hx, _, rfl, ?_, (upd_ne n).trans upd_same, upd_same, ?_⟩
  · intro b o e
    rw [upd_ne (ne_of_none e x0), upd_ne (ne_of_none (S0 b o e) hl)]
    exact S0 b o e
  · intro a o na e
    rw [upd_ne na, upd_ne (ne_of_none e hl)]
    exact e
section
variable {P : Program} {w : World} {K : PySem.W.Frag} {mg : Str → Option Value} {base : Heap}
theorem ok_ol2 {f : Addr} {fd : FuncData} (F : Fun K "own_list" "own_list" sOL f fd) (tl : mg "list" = none) : FnOk P w K mg base CX0 1 f fd ["rows"] (spOL2 K) := by
  refine F.ok scOL (fun vs H Q E h => ?_) (fun cdv A outer s H vs Q E hr h => ?_)
  · obtain ⟨x, xs, rfl, _⟩ := h
    rfl
  · obtain ⟨x, xs, rfl, h, k⟩ := h
    refine ⟨_, (pss_cons (ps_if (pt_cmp (pc_isN (pv 0))) (pss_one (ps_ret (pe_lst pa_nil))) pss_nil)
      (pss_one (ps_ret (pe_callTy call_list_of (by rfl) tl (by decide +kernel) (pa_cons (pv 0) pa_nil))))), ?_⟩
    refine ⟨_, rfl, _, rfl, ?_⟩
    rcases h with ⟨rfl, rfl⟩ | ⟨l, rfl, hl⟩
    · exact iteT ⟨Nat.zero_le _, fun d hd => k d hd⟩
    · exact iteF ⟨_, rfl, l, _, rfl, .inl hl, fun d hd => k d hd⟩
theorem scSch : FnScope ["self", "sorts", "words", "makings", "rules", "bars"] ["self", "sorts", "words", "makings", "rules", "bars"] (defScope sSch) := ⟨rfl, rfl, rfl, by decide +kernel, rfl, by decide +kernel, by decide +kernel⟩
theorem ok_sch {f fO fC S MB RB BB : Addr} {fd dO dC : FuncData} {dvs : List V} (F : FunD K "__init__" "Scheme.__init__" (defArgs sSch) (defBody sSch) (defScope sSch) dvs [] f fd) (tl : mg "list" = none) (TC : TxSch K mg S f) (DO : Dn K mg "own_list" sOL ["rows"] fO dO) (DC : Dn K mg "check_scheme" sCS ["sorts", "words", "makings", "rules", "bars"] fC dC)
    (GC : FnOk P w K mg base CX0 3 fC dC ["sorts", "words", "makings", "rules", "bars"] (spCS K MB RB BB)) : FnOk P w K mg base CX0 4 f fd ["self", "sorts", "words", "makings", "rules", "bars"] (spSch K S MB RB BB) := by
  have GO : FnOk P w K mg base CX0 1 fO dO _ (spOL2 K) := ok_ol2 DO.F tl
  refine F.ok scSch (fun vs H Q E h => ?_) (fun cdv A outer s H vs Q E hr h => ?_)
  · obtain ⟨H0, x, dx, s, w, vm, vr, vb, ss, ws, as, bs, cs, ms, rs, ps, rfl, _⟩ := h
    rfl
  · obtain ⟨H0, x, dx, s, w, vm, vr, vb, ss, ws, as, bs, cs, ms, rs, ps, rfl, S0, x0, hx, hs, hw, hm, hr', hb, pt, ok, k⟩ := h
    have hr1 : Room 1 _ := hr.mono (by decide)
    refine ⟨_, (pss_cons (ps_fld (pv 0) (pe_callTy call_list_of (by rfl) tl (by decide +kernel) (pa_cons (pv 1) pa_nil)) rfl)
      (pss_cons (ps_fld (pv 0) (pe_callTy call_list_of (by rfl) tl (by decide +kernel) (pa_cons (pv 2) pa_nil)) rfl)
      (pss_cons (ps_fld (pv 0) (pe_call GO hr1 rfl DO.g DO.F.kp DO.b .nil pass0 (pa_cons (pv 3) pa_nil)) rfl)
      (pss_cons (ps_fld (pv 0) (pe_call GO hr1 rfl DO.g DO.F.kp DO.b .nil pass0 (pa_cons (pv 4) pa_nil)) rfl)
      (pss_cons (ps_fld (pv 0) (pe_call GO hr1 rfl DO.g DO.F.kp DO.b .nil pass0 (pa_cons (pv 5) pa_nil)) rfl)
      (pss_one (ps_expr (pe_call GC hr rfl DC.g DC.F.kp DC.b .nil pass0 (pa_cons (pe_fld (pv 0) rfl) (pa_cons (pe_fld (pv 0) rfl) (pa_cons (pe_fld (pv 0) rfl) (pa_cons (pe_fld (pv 0) rfl) (pa_cons (pe_fld (pv 0) rfl) pa_nil))))))))))))), ?_⟩
    refine ⟨_, rfl, s, _, rfl, .inl (S0.seq hs), fun l1 h1 => ?_⟩
    obtain ⟨n1, u1, H1, e1, S1, a1, x1, _⟩ := fstep (f := "own_sorts") (xs := ss.map V.str) S0 x0 hx h1
    refine ⟨_, rfl, x, S, dx, _, rfl, u1, TC.cl, TC.n1, by show 0 < 1000; decide, ?_⟩
    rw [← e1]
    clear e1 u1 h1
    refine ⟨_, rfl, w, _, rfl, .inl (S1.seq hw), fun l2 h2 => ?_⟩
    obtain ⟨n2, u2, H2, e2, S2, a2, x2, k2⟩ := fstep (f := "own_words") (xs := ws.map V.str) S1 x0 x1 h2
    refine ⟨_, rfl, x, S, dx, _, rfl, u2, TC.cl, TC.n2, Nat.lt_of_le_of_lt (putF_len _ _ _) (by decide), ?_⟩
    rw [← e2]
    clear e2 u2 h2
    have b1 := k2 _ _ n1 a1
    refine ⟨_, rfl, _, _, rfl, hm.same S2, fun l3 h3 => ?_⟩
    obtain ⟨n3, u3, H3, e3, S3, a3, x3, k3⟩ := fstep (f := "own_makings") (xs := as.map V.ref) S2 x0 x2 h3
    refine ⟨_, rfl, x, S, dx, _, rfl, u3, TC.cl, TC.n3, ?_, ?_⟩
    · have q1 := putF_len "own_sorts" (.ref l1) []
      have q2 := putF_len "own_words" (.ref l2) (putF "own_sorts" (.ref l1) [])
      simp only [List.length_nil] at *
      omega
    rw [← e3]
    clear e3 u3 h3
    have b1 := k3 _ _ n1 b1
    have b2 := k3 _ _ n2 a2
    refine ⟨_, rfl, _, _, rfl, hr'.same S3, fun l4 h4 => ?_⟩
    obtain ⟨n4, u4, H4, e4, S4, a4, x4, k4⟩ := fstep (f := "own_rules") (xs := bs.map V.ref) S3 x0 x3 h4
    refine ⟨_, rfl, x, S, dx, _, rfl, u4, TC.cl, TC.n4, ?_, ?_⟩
    · have q1 := putF_len "own_sorts" (.ref l1) []
      have q2 := putF_len "own_words" (.ref l2) (putF "own_sorts" (.ref l1) [])
      have q3 := putF_len "own_makings" (.ref l3) (putF "own_words" (.ref l2) (putF "own_sorts" (.ref l1) []))
      simp only [List.length_nil] at *
      omega
    rw [← e4]
    clear e4 u4 h4
    have b1 := k4 _ _ n1 b1
    have b2 := k4 _ _ n2 b2
    have b3 := k4 _ _ n3 a3
    refine ⟨_, rfl, _, _, rfl, hb.same S4, fun l5 h5 => ?_⟩
    obtain ⟨n5, u5, H5, e5, S5, a5, x5, k5⟩ := fstep (f := "own_bars") (xs := cs.map V.ref) S4 x0 x4 h5
    refine ⟨_, rfl, x, S, dx, _, rfl, u5, TC.cl, TC.n5, ?_, ?_⟩
    · have q1 := putF_len "own_sorts" (.ref l1) []
      have q2 := putF_len "own_words" (.ref l2) (putF "own_sorts" (.ref l1) [])
      have q3 := putF_len "own_makings" (.ref l3) (putF "own_words" (.ref l2) (putF "own_sorts" (.ref l1) []))
      have q4 := putF_len "own_rules" (.ref l4) (putF "own_makings" (.ref l3) (putF "own_words" (.ref l2) (putF "own_sorts" (.ref l1) [])))
      simp only [List.length_nil] at *
      omega
    rw [← e5]
    clear e5 u5 h5
    have b1 := k5 _ _ n1 b1
    have b2 := k5 _ _ n2 b2
    have b3 := k5 _ _ n3 b3
    have b4 := k5 _ _ n4 a4
    have x5 : H5 x = some (.ins S dx (schF l1 l2 l3 l4 l5)) := x5
    have pt5 := pt.same S5
    refine ⟨_, rfl, x, S, dx, _, _, rfl, x5, TC.cl, TC.n1, schF_so _ _ _ _ _, _, rfl, x, S, dx, _, _, rfl, x5, TC.cl, TC.n2, schF_wo _ _ _ _ _, _, rfl, x, S, dx, _, _, rfl, x5, TC.cl, TC.n3, schF_mk _ _ _ _ _, _, rfl, x, S, dx, _, _, rfl, x5, TC.cl, TC.n4, schF_ru _ _ _ _ _, _, rfl, x, S, dx, _, _, rfl, x5, TC.cl, TC.n5, schF_ba _ _ _ _ _, ?_⟩
    exact ⟨l1, l2, l3, l4, l5, ss, ws, as, bs, cs, ms, rs, ps, rfl, SqL.of b1, SqL.of b2, SqL.of b3, pt5.am, SqL.of b4, pt5.ar, SqL.of a5, pt5.ab, ok, fun H6 S6 => k H6 (S5.trans S6) ⟨dx, l1, l2, l3, l4, l5, S6 _ _ x5, S6 _ _ b1, S6 _ _ b2, S6 _ _ b3, S6 _ _ b4, S6 _ _ a5⟩⟩
/-! ### lists told -/
def spSMk (S : Addr) : Sp := fun vs H Q _ => ∃ (x : Addr) (ss ws : List Str) (as bs cs : List Addr), vs = [.ref x] ∧ SchG S H x ss ws as bs cs ∧ ∀ l, H l = none → Q (.ref l) (upd H l (.lst (as.map V.ref)))
def spSRu (S : Addr) : Sp := fun vs H Q _ => ∃ (x : Addr) (ss ws : List Str) (as bs cs : List Addr), vs = [.ref x] ∧ SchG S H x ss ws as bs cs ∧ ∀ l, H l = none → Q (.ref l) (upd H l (.lst (bs.map V.ref)))
theorem scSMk : FnScope ["self"] ["self"] (defScope sSMk) := ⟨rfl, rfl, rfl, by decide +kernel, rfl, by decide +kernel, by decide +kernel⟩
theorem ok_smk {f S fS : Addr} {fd : FuncData} (F : Fun K "makings" "Scheme.makings" sSMk f fd) (tl : mg "list" = none) (TC : TxSch K mg S fS) : FnOk P w K mg base CX0 1 f fd ["self"] (spSMk S) := by
  refine F.ok scSMk (fun vs H Q E h => ?_) (fun cdv A outer s H vs Q E hr h => ?_)
  · obtain ⟨x, ss, ws, as, bs, cs, rfl, _⟩ := h
    rfl
  · obtain ⟨x, ss, ws, as, bs, cs, rfl, ⟨dx, l1, l2, l3, l4, l5, h0, h1, h2, h3, h4, h5⟩, k⟩ := h
    refine ⟨_, (pss_one (ps_ret (pe_callTy call_list_of (by rfl) tl (by decide +kernel) (pa_cons (pe_fld (pv 0) rfl) pa_nil)))), ?_⟩
    exact ⟨_, rfl, x, S, dx, _, _, rfl, h0, TC.cl, TC.n3, schF_mk _ _ _ _ _, l3, _, rfl, .inl (SqL.of h3), fun l hl => k l hl⟩
theorem scSRu : FnScope ["self"] ["self"] (defScope sSRu) := ⟨rfl, rfl, rfl, by decide +kernel, rfl, by decide +kernel, by decide +kernel⟩
theorem ok_sru {f S fS : Addr} {fd : FuncData} (F : Fun K "rules" "Scheme.rules" sSRu f fd) (tl : mg "list" = none) (TC : TxSch K mg S fS) : FnOk P w K mg base CX0 1 f fd ["self"] (spSRu S) := by
  refine F.ok scSRu (fun vs H Q E h => ?_) (fun cdv A outer s H vs Q E hr h => ?_)
  · obtain ⟨x, ss, ws, as, bs, cs, rfl, _⟩ := h
    rfl
  · obtain ⟨x, ss, ws, as, bs, cs, rfl, ⟨dx, l1, l2, l3, l4, l5, h0, h1, h2, h3, h4, h5⟩, k⟩ := h
    refine ⟨_, (pss_one (ps_ret (pe_callTy call_list_of (by rfl) tl (by decide +kernel) (pa_cons (pe_fld (pv 0) rfl) pa_nil)))), ?_⟩
    exact ⟨_, rfl, x, S, dx, _, _, rfl, h0, TC.cl, TC.n4, schF_ru _ _ _ _ _, l4, _, rfl, .inl (SqL.of h4), fun l hl => k l hl⟩
end
/-- a scheme at x, of these sorts and words -/
structure SchAt (S : Addr) (H : Hp) (x : Addr) (ss ws : List Str) : Prop where
  ex : ∃ dx l1 l2 l3 l4 l5, H x = some (.ins S dx (schF l1 l2 l3 l4 l5)) ∧ H l1 = some (.lst (ss.map V.str)) ∧ H l2 = some (.lst (ws.map V.str))
theorem SchG.weak {S : Addr} {H : Hp} {x : Addr} {ss ws : List Str} {as bs cs : List Addr} (h : SchG S H x ss ws as bs cs) : SchAt S H x ss ws := by
  obtain ⟨dx, l1, l2, l3, l4, l5, h0, h1, h2, _⟩ := h
  exact ⟨⟨dx, l1, l2, l3, l4, l5, h0, h1, h2⟩⟩
section
variable {P : Program} {w : World} {K : PySem.W.Frag} {mg : Str → Option Value} {base : Heap}
theorem scSor : FnScope ["self"] ["self"] (defScope sSor) := ⟨rfl, rfl, rfl, by decide +kernel, rfl, by decide +kernel, by decide +kernel⟩
def spSor (S : Addr) : Sp := fun vs H Q _ => ∃ (x : Addr) (ss ws : List Str), vs = [.ref x] ∧ SchAt S H x ss ws ∧ ∀ l, H l = none → Q (.ref l) (upd H l (.lst (ss.map V.str)))
def spWor (S : Addr) : Sp := fun vs H Q _ => ∃ (x : Addr) (ss ws : List Str), vs = [.ref x] ∧ SchAt S H x ss ws ∧ ∀ l, H l = none → Q (.ref l) (upd H l (.lst (ws.map V.str)))
theorem ok_sor {f S fS : Addr} {fd : FuncData} (F : Fun K "sorts" "Scheme.sorts" sSor f fd) (tl : mg "list" = none) (TC : TxSch K mg S fS) : FnOk P w K mg base CX0 1 f fd ["self"] (spSor S) := by
  refine F.ok scSor (fun vs H Q E h => ?_) (fun cdv A outer s H vs Q E hr h => ?_)
  · obtain ⟨x, ss, ws, rfl, _⟩ := h
    rfl
  · obtain ⟨x, ss, ws, rfl, hx, k⟩ := h
    obtain ⟨dx, l1, l2, l3, l4, l5, hx, h1, h2⟩ := hx.ex
    refine ⟨_, (pss_one (ps_ret (pe_callTy call_list_of (by rfl) tl (by decide +kernel) (pa_cons (pe_fld (pv 0) rfl) pa_nil)))), ?_⟩
    exact ⟨_, rfl, x, S, dx, _, _, rfl, hx, TC.cl, TC.n1, schF_so _ _ _ _ _, l1, _, rfl, .inl (SqL.of h1), fun l hl => k l hl⟩
theorem scWor : FnScope ["self"] ["self"] (defScope sWor) := ⟨rfl, rfl, rfl, by decide +kernel, rfl, by decide +kernel, by decide +kernel⟩
theorem ok_wor {f S fS : Addr} {fd : FuncData} (F : Fun K "words" "Scheme.words" sWor f fd) (tl : mg "list" = none) (TC : TxSch K mg S fS) : FnOk P w K mg base CX0 1 f fd ["self"] (spWor S) := by
  refine F.ok scWor (fun vs H Q E h => ?_) (fun cdv A outer s H vs Q E hr h => ?_)
  · obtain ⟨x, ss, ws, rfl, _⟩ := h
    rfl
  · obtain ⟨x, ss, ws, rfl, hx, k⟩ := h
    obtain ⟨dx, l1, l2, l3, l4, l5, hx, h1, h2⟩ := hx.ex
    refine ⟨_, (pss_one (ps_ret (pe_callTy call_list_of (by rfl) tl (by decide +kernel) (pa_cons (pe_fld (pv 0) rfl) pa_nil)))), ?_⟩
    exact ⟨_, rfl, x, S, dx, _, _, rfl, hx, TC.cl, TC.n2, schF_wo _ _ _ _ _, l2, _, rfl, .inl (SqL.of h2), fun l hl => k l hl⟩
end
end Wm
namespace Wm
open PySem L2 StX
theorem low_let : ∀ c : Fin 123, 97 ≤ c.1 → c.1 ∈ LET := by decide +kernel
theorem fig_fig : ∀ c : Fin 58, 48 ≤ c.1 → c.1 ∈ FIG := by decide +kernel
theorem nm_is {z : Str} (h : NmP z) (hl : z.length ≤ 12) : isNm z = true := by
  obtain ⟨c, cs, e, l, r⟩ := h
  have ol : ∀ d, lowC d → d ∈ LET := fun d q => low_let ⟨d, Nat.lt_succ_of_le q.2⟩ q.1
  have of' : ∀ d, figC d → d ∈ FIG := fun d q => fig_fig ⟨d, Nat.lt_succ_of_le q.2⟩ q.1
  have hlen : z.length = (c :: cs).length := by
    rw [← e]
    exact (Array.length_toList).symm
  unfold isNm
  rw [e]
  have a1 : (c :: cs).all okc = true := by
    rw [List.all_eq_true]
    intro d hd
    unfold okc
    rcases List.mem_cons.mp hd with h | h
    · rw [h, decide_eq_true (ol c l)]
      rfl
    · rcases r d h with q | q
      · rw [decide_eq_true (ol d q)]
        rfl
      · rw [decide_eq_true (of' d q), Bool.or_true]
  have a2 : first (c :: cs) = true := by
    unfold first
    exact decide_eq_true (ol c l)
  rw [a1, a2, decide_eq_true hl]
  simp [hlen]

def NotSt (o : HO) : Prop := ∀ x y z : Int, o ≠ .lst [.int x, .int y, .int z]
def Kp (H H' : Hp) : Prop := ∀ a o, NotSt o → H a = some o → H' a = some o
theorem Kp.refl (H : Hp) : Kp H H := fun _ _ _ h => h
theorem Kp.trans {H H1 H2 : Hp} (a : Kp H H1) (b : Kp H1 H2) : Kp H H2 := fun c o n h => b c o n (a c o n h)
theorem Same.kp {H H' : Hp} (s : Same H H') : Kp H H' := fun a o _ h => s a o h
theorem But.kp {p : Addr} {H H' : Hp} (b : But p H H') (s : StOk H p) : Kp H H' := fun a o n h => by
  obtain ⟨x, y, z, e, _⟩ := s
  refine b a o (fun q => ?_) h
  rw [q, e] at h
  exact n x y z (Option.some.inj h).symm
theorem Kp.new {D : Addr} {H H' : Hp} {o : HO} (k : Kp H H') (h : H D = none) : Kp H (upd H' D o) := fun a u n e => by
  rw [upd_ne (ne_of_none e h)]
  exact k a u n e
theorem ns_tup {xs : List V} : NotSt (.tup xs) := fun _ _ _ z => by cases z
theorem ns_dK {xs : List (L2.Key × V)} : NotSt (.dK xs) := fun _ _ _ z => by cases z
theorem ns_ins {C d : Addr} {fs : List (Str × V)} : NotSt (.ins C d fs) := fun _ _ _ z => by cases z
theorem ns_strs {xs : List Str} : NotSt (.lst (xs.map V.str)) := fun _ _ _ z => by
  cases xs with
  | nil => cases z
  | cons a r =>
    have e := HO.lst.inj z
    rw [List.map_cons] at e
    cases (List.cons.inj e).1
theorem ns_refs {xs : List Addr} : NotSt (.lst (xs.map V.ref)) := fun _ _ _ z => by
  cases xs with
  | nil => cases z
  | cons a r =>
    have e := HO.lst.inj z
    rw [List.map_cons] at e
    cases (List.cons.inj e).1
theorem ns_nil : NotSt (.lst []) := fun _ _ _ z => by cases z
theorem ns_frz {ob : Obj} {u : HO} : NotSt (.frz ob u) := fun _ _ _ z => by cases z
theorem Kp.sqT {K : PySem.W.Frag} {H H' : Hp} {a : Addr} {xs : List V} (e : Kp H H') (h : SqT K H a xs) : SqT K H' a xs := by
  rcases h with (h | ⟨o, h⟩) | h
  · exact .inl (.inl (e _ _ ns_tup h))
  · exact .inl (.inr ⟨o, e _ _ ns_frz h⟩)
  · exact .inr h
theorem Kp.rows {K : PySem.W.Frag} {H H' : Hp} (e : Kp H H') {ps : List Addr} {rs : List (List V)} (h : RowsAt K H ps rs) : RowsAt K H' ps rs := rows_imp (fun q => e.sqT q) h
/-- a list is written: tuples stand -/
theorem sqT_put {K : PySem.W.Frag} {H : Hp} {l a : Addr} {ys : List V} {o : HO} {xs : List V} (hl : H l = some (.lst ys)) (h : SqT K H a xs) : SqT K (upd H l o) a xs := by
  rcases h with (h | ⟨ob, h⟩) | h
  · exact .inl (.inl (by rw [upd_ne (ne_of h hl (by intro z; cases z))]; exact h))
  · exact .inl (.inr ⟨ob, by rw [upd_ne (ne_of h hl (by intro z; cases z))]; exact h⟩)
  · exact .inr h
theorem rows_put {K : PySem.W.Frag} {H : Hp} {l : Addr} {ys : List V} {o : HO} (hl : H l = some (.lst ys)) {ps : List Addr} {rs : List (List V)} (h : RowsAt K H ps rs) : RowsAt K (upd H l o) ps rs := rows_imp (fun q => sqT_put hl q) h
theorem But.ne {p a : Addr} {H : Hp} {o : HO} (s : StOk H p) (h : H a = some o) (n : NotSt o) : a ≠ p := fun q => by
  obtain ⟨x, y, z, e, _⟩ := s
  rw [q, e] at h
  exact n x y z (Option.some.inj h).symm
theorem endsL_app (a b : List Tri) : endsL (a ++ b) = endsL a ++ endsL b := by
  unfold endsL
  rw [List.flatMap_append]
structure RuleOk (ss ws : List Str) (r : RlD) : Prop where
  pt : PatOk r.p.vars r.p.cs [r.g] [r.bh]
  vn : ∀ v ∈ r.p.vars, isNm v.1 = true ∧ v.1.length ≤ 12 ∧ okS v.1
  vs : ∀ v ∈ r.p.vars, ∀ z, v.2 = some z → z ∈ ss
  cw : ∀ t ∈ r.p.cs, t.2.1 ∈ ws
  gw : r.g.2.1 ∈ ws
def MRul (K : PySem.W.Frag) (H : Hp) (a : Addr) (r : RlD) : Prop := ∃ lv lc g ps qs, H a = some (.tup [.str r.p.nm, .ref lv, .ref lc, .ref g, .str r.bh]) ∧ H lv = some (.lst (ps.map V.ref)) ∧ RowsAt K H ps (r.p.vars.map varV) ∧ H lc = some (.lst (qs.map V.ref)) ∧ RowsAt K H qs (r.p.cs.map triV) ∧ H g = some (.tup (triV r.g))
/-- as MRul, its lists not of H0 -/
def MRulF (K : PySem.W.Frag) (H0 H : Hp) (a : Addr) (r : RlD) : Prop := ∃ lv lc g ps qs, H0 lv = none ∧ H0 lc = none ∧ H a = some (.tup [.str r.p.nm, .ref lv, .ref lc, .ref g, .str r.bh]) ∧ H lv = some (.lst (ps.map V.ref)) ∧ RowsAt K H ps (r.p.vars.map varV) ∧ H lc = some (.lst (qs.map V.ref)) ∧ RowsAt K H qs (r.p.cs.map triV) ∧ H g = some (.tup (triV r.g))
theorem MRulF.rul {K : PySem.W.Frag} {H0 H : Hp} {a : Addr} {r : RlD} (h : MRulF K H0 H a r) : MRul K H a r := by
  obtain ⟨lv, lc, g, ps, qs, _, _, h⟩ := h
  exact ⟨lv, lc, g, ps, qs, h⟩
theorem MRulF.back {K : PySem.W.Frag} {H0 H1 H : Hp} {a : Addr} {r : RlD} (b : ∀ q, H1 q = none → H0 q = none) (h : MRulF K H1 H a r) : MRulF K H0 H a r := by
  obtain ⟨lv, lc, g, ps, qs, h1, h2, h⟩ := h
  exact ⟨lv, lc, g, ps, qs, b _ h1, b _ h2, h⟩
theorem MRulF.kp {K : PySem.W.Frag} {H0 H H' : Hp} {a : Addr} {r : RlD} (k : Kp H H') (h : MRulF K H0 H a r) : MRulF K H0 H' a r := by
  obtain ⟨lv, lc, g, ps, qs, n1, n2, h1, h2, h3, h4, h5, h6⟩ := h
  exact ⟨lv, lc, g, ps, qs, n1, n2, k _ _ ns_tup h1, k _ _ ns_refs h2, k.rows h3, k _ _ ns_refs h4, k.rows h5, k _ _ ns_tup h6⟩
theorem MRulF.put {K : PySem.W.Frag} {H0 H : Hp} {a D : Addr} {r : RlD} {xs : List V} {o o' : HO} (h0 : H0 D = some o') (hD : H D = some (.lst xs)) (h : MRulF K H0 H a r) : MRulF K H0 (upd H D o) a r := by
  obtain ⟨lv, lc, g, ps, qs, n1, n2, h1, h2, h3, h4, h5, h6⟩ := h
  have ne : ∀ {q : Addr}, H0 q = none → q ≠ D := fun {q} z e => by
    rw [e, h0] at z
    cases z
  exact ⟨lv, lc, g, ps, qs, n1, n2, (upd_ne (ne_of h1 hD (by intro z; cases z))).trans h1, (upd_ne (ne n1)).trans h2, rows_put hD h3, (upd_ne (ne n2)).trans h4, rows_put hD h5, (upd_ne (ne_of h6 hD (by intro z; cases z))).trans h6⟩
theorem MRul.kp {K : PySem.W.Frag} {H H' : Hp} {a : Addr} {r : RlD} (k : Kp H H') (h : MRul K H a r) : MRul K H' a r := by
  obtain ⟨lv, lc, g, ps, qs, h1, h2, h3, h4, h5, h6⟩ := h
  exact ⟨lv, lc, g, ps, qs, k _ _ ns_tup h1, k _ _ ns_refs h2, k.rows h3, k _ _ ns_refs h4, k.rows h5, k _ _ ns_tup h6⟩
theorem cut_drop (xs : List V) (i : Nat) : cutV xs (some (i : Int)) none = xs.drop i := by
  unfold cutV
  rw [HT.sIx_none, HT.sIx_nat]
  by_cases h : i ≤ xs.length
  · rw [Nat.min_eq_left h, List.take_of_length_le (by rw [List.length_drop]; omega)]
  · rw [Nat.min_eq_right (by omega), List.drop_of_length_le (Nat.le_refl _), List.drop_of_length_le (by omega)]
    simp
/-! ### the conditions as they are drawn, over the names known so far -/
structure KInv (nm ws : List Str) (m : Nat) (cs : List Tri) : Prop where
  m1 : 1 ≤ m
  ml : m ≤ nm.length
  wd : ∀ t ∈ cs, t.2.1 ∈ ws
  en : ∀ z ∈ endsL cs, z ∈ nm.take m
  al : cs ≠ [] → ∀ z ∈ nm.take m, z ∈ endsL cs
  e0 : cs = [] → m = 1
  ha : Hangs cs
theorem KInv.nil {nm ws : List Str} (h : 1 ≤ nm.length) : KInv nm ws 1 [] := ⟨Nat.le_refl _, h, fun _ h => (List.not_mem_nil h).elim, fun _ h => (List.not_mem_nil h).elim, fun h => (h rfl).elim, fun _ => rfl, fun i u _ h => by simp at h⟩
theorem KInv.step {nm ws : List Str} {m m' : Nat} {x y w : Str} {cs : List Tri} {t : Tri} (h : KInv nm ws m cs) (hx : x ∈ nm.take m) (hy : (m' = m ∧ y ∈ nm.take m) ∨ (m' = m + 1 ∧ nm[m]? = some y)) (hw : w ∈ ws) (ht : t = (x, w, y) ∨ t = (y, w, x)) : KInv nm ws m' (cs ++ [t]) := by
  have e : endsL (cs ++ [t]) = endsL cs ++ [t.1, t.2.2] := by
    rw [endsL_app]
    rfl
  have hxm : x ∈ [t.1, t.2.2] := by rcases ht with rfl | rfl <;> simp
  have hym : y ∈ [t.1, t.2.2] := by rcases ht with rfl | rfl <;> simp
  have hmm : ∀ z ∈ [t.1, t.2.2], z = x ∨ z = y := fun z hz => by
    rcases ht with rfl | rfl
    · simp at hz
      exact hz
    · simp at hz
      exact hz.symm
  have m1 := h.m1
  have ml := h.ml
  have sub : ∀ z ∈ nm.take m, z ∈ nm.take m' := fun z hz => by
    rcases hy with ⟨rfl, _⟩ | ⟨rfl, _⟩
    · exact hz
    · rw [List.take_add_one]
      exact List.mem_append_left _ hz
  have hy' : y ∈ nm.take m' := by
    rcases hy with ⟨rfl, q⟩ | ⟨rfl, q⟩
    · exact q
    · rw [List.take_add_one, q]
      exact List.mem_append_right _ (by simp)
  have inv : ∀ z ∈ nm.take m', z ∈ nm.take m ∨ z = y := fun z hz => by
    rcases hy with ⟨rfl, q⟩ | ⟨rfl, q⟩
    · exact .inl hz
    · rw [List.take_add_one, q] at hz
      rcases List.mem_append.mp hz with r | r
      · exact .inl r
      · exact .inr (by simpa using r)
  refine ⟨?_, ?_, fun u hu => ?_, fun z hz => ?_, fun _ z hz => ?_, fun z => ?_, fun i u hi hu => ?_⟩
  · rcases hy with ⟨rfl, _⟩ | ⟨rfl, _⟩ <;> omega
  · rcases hy with ⟨rfl, _⟩ | ⟨rfl, q⟩
    · exact ml
    · have := (List.getElem?_eq_some_iff.mp q).1
      omega
  · rcases List.mem_append.mp hu with q | q
    · exact h.wd u q
    · rw [List.mem_singleton.mp q]
      rcases ht with rfl | rfl <;> exact hw
  · rw [e] at hz
    rcases List.mem_append.mp hz with q | q
    · exact sub z (h.en z q)
    · rcases hmm z q with rfl | rfl
      · exact sub _ hx
      · exact hy'
  · rw [e]
    by_cases hc : cs = []
    · have m0 := h.e0 hc
      rcases inv z hz with q | q
      · have zx : z = x := by
          rw [m0] at q hx
          cases nm with
          | nil => simp at q
          | cons a r =>
            simp at q hx
            rw [q, hx]
        rw [zx]
        exact List.mem_append_right _ hxm
      · rw [q]
        exact List.mem_append_right _ hym
    · rcases inv z hz with q | q
      · exact List.mem_append_left _ (h.al hc z q)
      · rw [q]
        exact List.mem_append_right _ hym
  · simp at z
  · by_cases hlt : i < cs.length
    · rw [List.getElem?_append_left hlt] at hu
      rw [List.take_append_of_le_length (Nat.le_of_lt hlt)]
      exact h.ha i u hi hu
    · have hl := (List.getElem?_eq_some_iff.mp hu).1
      rw [List.length_append, List.length_singleton] at hl
      have ei : i = cs.length := by omega
      rw [ei, List.getElem?_append_right (Nat.le_refl _)] at hu
      simp at hu
      rw [ei, List.take_append_of_le_length (Nat.le_refl _), List.take_length]
      have hc : cs ≠ [] := fun z => by rw [z] at ei; simp at ei; omega
      have q := h.al hc x hx
      rw [← hu]
      rcases ht with rfl | rfl
      · exact .inl q
      · exact .inr q
def spAny (K : PySem.W.Frag) : Sp := fun vs H Q _ => ∃ (p ls lw : Addr) (nm : Str) (ss ws : List Str) (mo : Int) (k : Nat), vs = [.ref p, .str nm, .ref ls, .ref lw, .int mo] ∧ StN k H p ∧ k ≤ 700000 ∧ H ls = some (.lst (ss.map V.str)) ∧ H lw = some (.lst (ws.map V.str)) ∧ 1 ≤ ws.length ∧ ss.length ≤ 60 ∧ ws.length ≤ 60 ∧ 1 ≤ mo ∧ mo ≤ 3 ∧
  ∀ t (r : RlD) H', r.p.nm = nm → RuleOk ss ws r → H t = none → But p H H' → StN (k + 200) H' p → MRulF K H H' t r → Q (.ref t) H'
theorem ns_sorts (ss : List Str) : NotSt (.lst (ss.map V.str ++ [V.non])) := fun x y z e => by
  have e := HO.lst.inj e
  cases ss with
  | nil => cases e
  | cons a r => cases e
theorem sort_of {ss : List Str} {j : Nat} {v : V} (h : (ss.map V.str ++ [V.non])[j]? = some v) : ∃ o : Option Str, v = sortV o ∧ ∀ z, o = some z → z ∈ ss := by
  rcases List.mem_append.mp (List.mem_of_getElem? h) with q | q
  · obtain ⟨z, hz, rfl⟩ := List.mem_map.mp q
    exact ⟨some z, rfl, fun y e => by cases e; exact hz⟩
  · rw [List.mem_singleton.mp q]
    exact ⟨none, rfl, fun y e => by cases e⟩
theorem cut_mid (xs : List V) (i : Nat) : cutV xs (some (i : Int)) (some ((i : Int) + 1)) = (xs.drop i).take 1 := by
  have e : ((i : Int) + 1) = ((i + 1 : Nat) : Int) := by omega
  rw [e]
  unfold cutV
  rw [HT.sIx_nat, HT.sIx_nat]
  by_cases h : i < xs.length
  · rw [Nat.min_eq_left (by omega), Nat.min_eq_left (by omega)]
    congr 1
    omega
  · rw [List.drop_of_length_le (show xs.length ≤ i by omega), List.drop_of_length_le (by omega)]
    simp
theorem st_strs {n : Nat} {H : Hp} {p l : Addr} {zs : List Str} (s : StN n H p) (h : H l = some (.lst (zs.map V.str))) : l ≠ p := But.ne s.ok h ns_strs
section
variable {P : Program} {w : World} {K : PySem.W.Frag} {mg : Str → Option Value} {base : Heap}
theorem scAny : FnScope ["_law_well_here", "_law_name_here", "_law_sorts", "_law_words", "_law_most", "_law_names_here", "_law_known", "_law_conditions", "_law_k", "_law_one", "_law_other", "_law_turn", "_law_variables", "_law_gives"] ["_law_well_here", "_law_name_here", "_law_sorts", "_law_words", "_law_most"] (defScope sAny) := ⟨rfl, rfl, rfl, by decide +kernel, rfl, by decide +kernel, by decide +kernel⟩
theorem ok_any {f fG fP fN : Addr} {fd dG dP dN : FuncData} (F : Fun K "_law_any_rule" "_law_any_rule" sAny f fd) (T : TxB mg) (DG : Dn K mg "_law_draw" sDrw ["_law_well_here", "_law_many"] fG dG) (DP : Dn K mg "_law_pick" sPck ["_law_well_here", "_law_some"] fP dP) (DN : Dn K mg "_law_names" sNms ["_law_well_here", "_law_many"] fN dN) (GN : FnOk P w K mg base CX0 4 fN dN ["_law_well_here", "_law_many"] (spNms K)) :
    FnOk P w K mg base CX0 5 f fd ["_law_well_here", "_law_name_here", "_law_sorts", "_law_words", "_law_most"] (spAny K) := by
  have GG : FnOk P w K mg base CX0 1 fG dG _ spDrw := ok_drw DG.F
  have GP : FnOk P w K mg base CX0 2 fP dP _ spPkL := ok_pkl DP.F T DG
  refine F.ok scAny (fun vs H Q E h => ?_) (fun cdv A outer s H vs Q E hr h => ?_)
  · obtain ⟨p, ls, lw, nm, ss, ws, mo, k, rfl, _⟩ := h
    rfl
  · obtain ⟨p, ls, lw, nm, ss, ws, mo, k, rfl, hS, hk, hls, hlw, w1, s6, w6, mo1, mo3, kk⟩ := h
    have hr1 : Room 1 _ := hr.mono (by decide)
    have hr2 : Room 2 _ := hr.mono (by decide)
    have hr4 : Room 4 _ := hr
    have hu := hu_of hr
    refine ⟨_, (pss_cons (ps_set (i := 5) scAny.nd rfl (Or.inl rfl) (pe_call GN hr4 rfl DN.g DN.F.kp DN.b .nil pass0 (pa_cons (pv 0) (pa_cons pe_int pa_nil))))
      (pss_cons (ps_set (i := 6) scAny.nd rfl (Or.inl rfl) (pe_slice sl_list (pv 5) po_none (po_some pe_int)))
      (pss_cons (ps_set (i := 7) scAny.nd rfl (Or.inl rfl) (pe_lst pa_nil))
      (pss_cons (ps_for PassesOwn.never rfl (pi_range1 rfl T.range (pa_cons (pe_op op_add pe_int (pe_call GG hr1 rfl DG.g DG.F.kp DG.b .nil pass0 (pa_cons (pv 0) (pa_cons (pv 4) pa_nil)))) pa_nil)) (pg_name (i := 8) scAny.nd rfl (Or.inl rfl)) (pss_cons (ps_set (i := 9) scAny.nd rfl (Or.inl rfl) (pe_call GP hr2 rfl DP.g DP.F.kp DP.b .nil pass0 (pa_cons (pv 0) (pa_cons (pv 6) pa_nil))))
      (pss_cons (ps_set (i := 10) scAny.nd rfl (Or.inl rfl) (pe_call GP hr2 rfl DP.g DP.F.kp DP.b .nil pass0 (pa_cons (pv 0) (pa_cons (pe_op op_cat (pv 6) (pe_op op_rep (pe_slice sl_list (pv 5) (po_some (pe_callB call_len_seq (by rfl) T.len (by decide +kernel) (pa_cons (pv 6) pa_nil))) (po_some (pe_op op_add (pe_callB call_len_seq (by rfl) T.len (by decide +kernel) (pa_cons (pv 6) pa_nil)) pe_int))) pe_int)) pa_nil))))
      (pss_cons (ps_if (pt_cmpR op_notIn_seq (pv 10) (pv 6) (by rfl)) (pss_one (ps_set (i := 6) scAny.nd rfl (Or.inl rfl) (pe_op op_cat (pv 6) (pe_lst (pa_cons (pv 10) pa_nil))))) pss_nil)
      (pss_cons (ps_asg (pe_ix ix_list (pe_lst (pa_cons (pe_tup (pa_cons (pv 9) (pa_cons (pv 10) pa_nil))) (pa_cons (pe_tup (pa_cons (pv 10) (pa_cons (pv 9) pa_nil))) pa_nil))) (pe_call GG hr1 rfl DG.g DG.F.kp DG.b .nil pass0 (pa_cons (pv 0) (pa_cons pe_int pa_nil))) (fun _ _ => rfl)) (pg_tup rfl (pgs_cons (pg_name (i := 9) scAny.nd rfl (Or.inl rfl)) (pgs_cons (pg_name (i := 10) scAny.nd rfl (Or.inl rfl)) pgs_nil))))
      (pss_one (ps_expr (pe_bm PySem.F.plainAttrs_list PySem.F.slot_list_append PySem.F.type_list_append mt_append (pv 7) (pa_cons (pe_tup (pa_cons (pv 9) (pa_cons (pe_call GP hr2 rfl DP.g DP.F.kp DP.b .nil pass0 (pa_cons (pv 0) (pa_cons (pv 3) pa_nil))) (pa_cons (pv 10) pa_nil)))) pa_nil)))))))))
      (pss_cons (ps_set (i := 11) scAny.nd rfl (Or.inl rfl) (pe_call GG hr1 rfl DG.g DG.F.kp DG.b .nil pass0 (pa_cons (pv 0) (pa_cons (pe_callB call_len_seq (by rfl) T.len (by decide +kernel) (pa_cons (pv 6) pa_nil)) pa_nil))))
      (pss_cons (ps_setLc (i := 12) (own := [("_law_one", 9)]) (g := gName 9) rfl scAny.nd rfl rfl (sw_true rfl rfl rfl (by decide +kernel)) (pi_list (pe_op op_cat (pe_slice sl_list (pv 6) (po_some (pv 11)) po_none) (pe_slice sl_list (pv 6) po_none (po_some (pv 11))))) (blkOk_by (N := ["_law_well_here", "_law_name_here", "_law_sorts", "_law_words", "_law_most", "_law_names_here", "_law_known", "_law_conditions", "_law_k", "_law_one", "_law_other", "_law_turn", "_law_variables", "_law_gives"]) (sc := defScope sAny) (by decide +kernel)) (fun _ _ _ _ _ => (pg_name (i := 9) scAny.nd rfl (Or.inl rfl))) (fun _ _ _ _ _ => pts_nil) (fun _ _ _ _ _ => (pe_tup (pa_cons (pv 9) (pa_cons (pe_call GP hr2 rfl DP.g DP.F.kp DP.b .nil pass0 (pa_cons (pv 0) (pa_cons (pe_op op_cat (pv 2) (pe_lst (pa_cons pe_non pa_nil))) pa_nil))) pa_nil)))))
      (pss_cons (ps_set (i := 13) scAny.nd rfl (Or.inl rfl) (pe_tup (pa_cons (pe_call GP hr2 rfl DP.g DP.F.kp DP.b .nil pass0 (pa_cons (pv 0) (pa_cons (pv 6) pa_nil))) (pa_cons (pe_call GP hr2 rfl DP.g DP.F.kp DP.b .nil pass0 (pa_cons (pv 0) (pa_cons (pv 3) pa_nil))) (pa_cons (pe_call GP hr2 rfl DP.g DP.F.kp DP.b .nil pass0 (pa_cons (pv 0) (pa_cons (pv 6) pa_nil))) pa_nil)))))
      (pss_one (ps_ret (pe_tup (pa_cons (pv 1) (pa_cons (pv 12) (pa_cons (pv 7) (pa_cons (pv 13) (pa_cons (pe_call GP hr2 rfl DP.g DP.F.kp DP.b .nil pass0 (pa_cons (pv 0) (pa_cons (pv 6) pa_nil))) pa_nil))))))))))))))), ?_⟩
    refine ⟨_, rfl, p, 4, k, rfl, hS, by omega, by decide, by decide, fun ns nl H1 nl0 nlp B1 S1 hnl nlen nnd nnm => ?_⟩
    have S1 : StN (k + 80) H1 p := S1
    have nlen : ns.length = 4 := nlen
    dsimp only [List.set_cons_succ, List.set_cons_zero]
    refine ⟨_, rfl, _, rfl, nl, _, rfl, SqL.of hnl, fun kl hkl => ?_⟩
    rw [show cutV (ns.map V.str) none (some 1) = (ns.take 1).map V.str by rw [show (1 : Int) = ((1 : Nat) : Int) from rfl, cut_take, List.map_take]]
    dsimp only [List.set_cons_succ, List.set_cons_zero]
    have nkp := st_free S1.ok hkl
    have T1 : Same H1 (upd H1 kl (.lst ((ns.take 1).map V.str))) := Same.upd hkl
    have e1 : (upd H1 kl (.lst ((ns.take 1).map V.str))) kl = some (.lst ((ns.take 1).map V.str)) := upd_same
    have kl0 : H kl = none := B1.free nkp hkl
    generalize upd H1 kl (.lst ((ns.take 1).map V.str)) = H2 at T1 e1
    refine ⟨Nat.zero_le _, fun lc hlc => ?_⟩
    dsimp only [List.set_cons_succ, List.set_cons_zero]
    have S2 := S1.same T1
    have ncp := st_free S2.ok hlc
    have B2 : But p H H2 := fun q o n e => T1 _ _ (B1 q o n e)
    have lc0 : H lc = none := B2.free ncp hlc
    have T2 : Same H2 (upd H2 lc (.lst [])) := Same.upd hlc
    have e2 : (upd H2 lc (.lst [])) lc = some (.lst []) := upd_same
    generalize upd H2 lc (.lst []) = H3 at T2 e2
    have S3 := S2.same T2
    have B3 : But p H H3 := fun q o n e => T2 _ _ (B2 q o n e)
    have nsp := st_strs hS hls
    have nwp := st_strs hS hlw
    refine ⟨_, rfl, _, rfl, p, mo, k + 80, rfl, S3, by omega, by omega, by omega, fun d H4 d0 d1 B4 S4 => ⟨_, _, rfl, rfl, _, rfl, by omega, by omega, ?_⟩⟩
    have k34 := B4.kp S3.ok
    have hnl4 := k34 _ _ ns_strs (T2 _ _ (T1 _ _ hnl))
    have e14 := k34 _ _ ns_strs (T2 _ _ e1)
    have e24 := B4 _ _ ncp e2
    have nnl : nl ≠ lc := ne_of_none (T1 _ _ hnl) hlc
    have nclL : ∀ {l : Addr} {zs : List Str}, H2 l = some (.lst (zs.map V.str)) → l ≠ lc := fun h => ne_of_none h hlc
    have B34 := B3.trans B4
    refine for_range (n := (1 + d).toNat) (fun i σ H' => ∃ (m : Nat) (cs : List Tri) (qs : List Addr) (kl : Addr) (u8 u9 u10 : Option V), σ = [some (.ref p), some (.str nm), some (.ref ls), some (.ref lw), some (.int mo), some (.ref nl), some (.ref kl), some (.ref lc), u8, u9, u10, none, none, none] ∧ But p H H' ∧ StN (k + 81 + 4 * i) H' p ∧ H' nl = some (.lst (ns.map V.str)) ∧ H' kl = some (.lst ((ns.take m).map V.str)) ∧ kl ≠ lc ∧ H' lc = some (.lst (qs.map V.ref)) ∧ RowsAt K H' qs (cs.map triV) ∧ KInv ns ws m cs ∧ cs.length = i) ⟨1, [], [], kl, none, none, none, rfl, B34, S4, hnl4, e14, nclL e1, e24, True.intro, KInv.nil (by omega), rfl⟩ ?_ ?_
    · rintro i σ H5 hi ⟨m, cs, qs, kl, u8, u9, u10, rfl, B5, S5, hnl5, hkl5, nkl, hlc5, hrow, ki, len⟩
      have m1 := ki.m1
      have ml := ki.ml
      have i3 : i < 3 := by omega
      have tlen : ((ns.take m).map V.str).length = m := by
        rw [List.length_map, List.length_take]
        omega
      dsimp only [gName, List.set_cons_succ, List.set_cons_zero]
      refine ⟨_, rfl, _, rfl, p, kl, _, k + 81 + 4 * i, rfl, S5, by omega, hkl5, st_strs S5 hkl5, by omega, by omega, fun j v H6 hv B6 S6 => ?_⟩
      obtain ⟨x, hx, rfl⟩ := map_str_get hv
      have hxm : x ∈ ns.take m := List.mem_of_getElem? hx
      dsimp only [gName, List.set_cons_succ, List.set_cons_zero]
      have k6 := B6.kp S5.ok
      have hnl6 := k6 _ _ ns_strs hnl5
      have hkl6 := k6 _ _ ns_strs hkl5
      have hlc6 := k6 _ _ ns_refs hlc5
      have hrow6 := k6.rows hrow
      have B56 := B5.trans B6
      refine ⟨_, rfl, _, rfl, _, rfl, _, rfl, kl, _, rfl, .inl (SqL.of hkl6), _, rfl, _, rfl, kl, _, rfl, .inl (SqL.of hkl6), _, _, rfl, rfl, _, rfl, nl, _, rfl, SqL.of hnl6, fun l1 hl1 => ?_⟩
      rw [tlen, cut_mid, List.map_drop.symm, List.map_take.symm]
      have T1 : Same H6 (upd H6 l1 (.lst (((ns.drop m).take 1).map V.str))) := Same.upd hl1
      have f1 : (upd H6 l1 (.lst (((ns.drop m).take 1).map V.str))) l1 = some (.lst (((ns.drop m).take 1).map V.str)) := upd_same
      have nl1p := st_free S6.ok hl1
      generalize upd H6 l1 (.lst (((ns.drop m).take 1).map V.str)) = H7 at T1 f1
      have dl : (((ns.drop m).take 1).map V.str).length ≤ 1 := by
        rw [List.length_map, List.length_take]
        omega
      refine ⟨l1, _, _, rfl, rfl, f1, by decide, by decide, Nat.le_trans (show _ ≤ 1000 by show _ * 2 ≤ 1000; omega) (by decide), fun l2 hl2 => ?_⟩
      rw [show (List.replicate (2 : Int).toNat (((ns.drop m).take 1).map V.str)).flatten = ((ns.drop m).take 1 ++ (ns.drop m).take 1).map V.str by rw [List.map_append]; show _ ++ (_ ++ []) = _; rw [List.append_nil]]
      have T2 : Same H7 (upd H7 l2 (.lst (((ns.drop m).take 1 ++ (ns.drop m).take 1).map V.str))) := Same.upd hl2
      have f2 : (upd H7 l2 (.lst (((ns.drop m).take 1 ++ (ns.drop m).take 1).map V.str))) l2 = some (.lst (((ns.drop m).take 1 ++ (ns.drop m).take 1).map V.str)) := upd_same
      generalize upd H7 l2 (.lst (((ns.drop m).take 1 ++ (ns.drop m).take 1).map V.str)) = H8 at T2 f2
      have dl2 : (((ns.drop m).take 1 ++ (ns.drop m).take 1).map V.str).length ≤ 2 := by
        rw [List.length_map, List.length_append, List.length_take]
        omega
      refine ⟨kl, l2, _, _, rfl, rfl, T2 _ _ (T1 _ _ hkl6), f2, Nat.le_trans (show _ ≤ 1000 by omega) (by decide), fun l3 hl3 => ?_⟩
      rw [← List.map_append]
      have T3 : Same H8 (upd H8 l3 (.lst ((ns.take m ++ ((ns.drop m).take 1 ++ (ns.drop m).take 1)).map V.str))) := Same.upd hl3
      have f3 : (upd H8 l3 (.lst ((ns.take m ++ ((ns.drop m).take 1 ++ (ns.drop m).take 1)).map V.str))) l3 = some (.lst ((ns.take m ++ ((ns.drop m).take 1 ++ (ns.drop m).take 1)).map V.str)) := upd_same
      generalize upd H8 l3 (.lst ((ns.take m ++ ((ns.drop m).take 1 ++ (ns.drop m).take 1)).map V.str)) = H9 at T3 f3
      have T13 := (T1.trans T2).trans T3
      have S9 := S6.same T13
      have ll : ((ns.take m ++ ((ns.drop m).take 1 ++ (ns.drop m).take 1)).map V.str).length = m + (((ns.drop m).take 1 ++ (ns.drop m).take 1).map V.str).length := by
        rw [List.map_append, List.length_append, tlen]
      refine ⟨p, l3, _, k + 81 + 4 * i + 1, rfl, S9, by omega, f3, st_strs S9 f3, by omega, by omega, fun j v H10 hv B10 S10 => ?_⟩
      obtain ⟨y, hy, rfl⟩ := map_str_get hv
      have hyy : y ∈ ns.take m ∨ ns[m]? = some y := by
        rcases List.mem_append.mp (List.mem_of_getElem? hy) with q | q
        · exact .inl q
        · have q : y ∈ (ns.drop m).take 1 := by
            rcases List.mem_append.mp q with q | q <;> exact q
          right
          cases hd : ns.drop m with
          | nil =>
            rw [hd] at q
            simp at q
          | cons a r =>
            rw [hd] at q
            have e : y = a := by simpa using q
            have := List.getElem?_drop (xs := ns) (i := m) (j := 0)
            rw [hd] at this
            simp at this
            rw [e, ← this]
      dsimp only [gName, List.set_cons_succ, List.set_cons_zero]
      have k10 := ((Same.kp T13).trans (B10.kp S9.ok))
      have hnl10 := k10 _ _ ns_strs hnl6
      have hkl10 := k10 _ _ ns_strs hkl6
      have hlc10 := k10 _ _ ns_refs hlc6
      have hrow10 := k10.rows hrow6
      have B10' : But p H H10 := (fun q o n e => B10 q o n (T13 _ _ (B56 q o n e)))
      clear T1 T2 T3 T13 f1 f2 f3 hl1 hl2 hl3 k6 hnl6 hkl6 hlc6 hrow6 S9 B10 S6 B6 hy hv hx
      -- is it new
      refine cut1 (fun σ' H' => ∃ (m' : Nat) (kl' : Addr), σ' = [some (.ref p), some (.str nm), some (.ref ls), some (.ref lw), some (.int mo), some (.ref nl), some (.ref kl'), some (.ref lc), some (.int (0 + (i : Int))), some (.str x), some (.str y), none, none, none] ∧ Same H10 H' ∧ H' kl' = some (.lst ((ns.take m').map V.str)) ∧ kl' ≠ lc ∧ ((m' = m ∧ y ∈ ns.take m) ∨ (m' = m + 1 ∧ ns[m]? = some y))) ?_ (fun R' fin => ?_)
      · rintro σ' H11 ⟨m', kl', rfl, S11, hkl11, nkl', hm'⟩
        have st11 := S10.same S11
        refine ⟨_, rfl, _, rfl, by show 2 ≤ sizeLine; decide, fun t1 ht1 => ⟨_, rfl, _, rfl, by show 2 ≤ sizeLine; decide, fun t2 ht2 => ⟨by show 2 ≤ sizeLine; decide, fun l hl => ?_⟩⟩⟩
        have T1 : Same H11 (upd H11 t1 (.tup [.str x, .str y])) := Same.upd ht1
        have T2 : Same (upd H11 t1 (.tup [.str x, .str y])) (upd (upd H11 t1 (.tup [.str x, .str y])) t2 (.tup [.str y, .str x])) := Same.upd ht2
        have g1 := T2 _ _ (upd_same (H := H11) (a := t1) (o := .tup [.str x, .str y]))
        have g2 : (upd (upd H11 t1 (.tup [.str x, .str y])) t2 (.tup [.str y, .str x])) t2 = some (.tup [.str y, .str x]) := upd_same
        have T12 := T1.trans T2
        generalize upd (upd H11 t1 (.tup [.str x, .str y])) t2 (.tup [.str y, .str x]) = H12 at T12 g1 g2 hl
        have T3 : Same H12 (upd H12 l (.lst [.ref t1, .ref t2])) := Same.upd hl
        have g3 : (upd H12 l (.lst [.ref t1, .ref t2])) l = some (.lst ([t1, t2].map V.ref)) := upd_same
        generalize upd H12 l (.lst [.ref t1, .ref t2]) = H13 at T3 g3
        have T13 := T12.trans T3
        have st13 := st11.same T13
        refine ⟨_, rfl, p, 2, k + 81 + 4 * i + 2, rfl, st13, by omega, by decide, by decide, fun d2 H14 d20 d21 B14 S14 => ?_⟩
        have k14 := B14.kp st13.ok
        have g1' := k14 _ _ ns_tup (T3 _ _ g1)
        have g2' := k14 _ _ ns_tup (T3 _ _ g2)
        have g3' := k14 _ _ ns_refs g3
        obtain ⟨t, a, b, hta, ht14, hab⟩ : ∃ t a b, ([t1, t2].map V.ref)[d2.toNat]? = some (.ref t) ∧ H14 t = some (.tup [.str a, .str b]) ∧ ((a = x ∧ b = y) ∨ (a = y ∧ b = x)) := by
          rcases (by omega : d2 = 0 ∨ d2 = 1) with rfl | rfl
          · exact ⟨t1, x, y, rfl, g1', .inl ⟨rfl, rfl⟩⟩
          · exact ⟨t2, y, x, rfl, g2', .inr ⟨rfl, rfl⟩⟩
        refine rdList g3' (j := d2.toNat) (by omega) hta ⟨t, _, rfl, SqT.of ht14, rfl, _, _, rfl, _, _, rfl, rfl, ?_⟩
        dsimp only [gName, List.set_cons_succ, List.set_cons_zero]
        have k1014 := ((Same.kp S11).trans (Same.kp T13)).trans k14
        have B14' : But p H H14 := (fun q o n e => B14 q o n (T13 _ _ (S11 _ _ (B10' q o n e))))
        have hlc14 := k1014 _ _ ns_refs hlc10
        have hlw14 := B14' _ _ nwp hlw
        refine ⟨_, rfl, .inl ⟨rfl, _, SqL.of hlc14⟩, _, rfl, _, rfl, _, rfl, p, lw, _, k + 81 + 4 * i + 3, rfl, S14, by omega, hlw14, nwp, by rw [List.length_map]; omega, by rw [List.length_map]; omega, fun jw vw H15 hvw B15 S15 => ?_⟩
        obtain ⟨wd, hwd, rfl⟩ := map_str_get hvw
        refine ⟨_, rfl, by show 3 ≤ sizeLine; decide, fun tt htt => ?_⟩
        have k15 := B15.kp S14.ok
        have T16 : Same H15 (upd H15 tt (.tup [.str a, .str wd, .str b])) := Same.upd htt
        have g16 : (upd H15 tt (.tup [.str a, .str wd, .str b])) tt = some (.tup (triV (a, wd, b))) := upd_same
        generalize upd H15 tt (.tup [.str a, .str wd, .str b]) = H16 at T16 g16
        have kk16 := k1014.trans (k15.trans (Same.kp T16))
        have hlc16 := kk16 _ _ ns_refs hlc10
        have B16 : But p H H16 := fun q o n e => T16 _ _ (B15 q o n (B14' q o n e))
        have ql : qs.length = i := by
          have q := hrow.len
          rw [List.length_map] at q
          omega
        refine ⟨lc, _, _, rfl, rfl, hlc16, ?_, ?_⟩
        · rw [List.length_map]
          exact Nat.lt_of_le_of_lt (show _ ≤ 1000 by omega) (by decide)
        refine ⟨m', cs ++ [(a, wd, b)], qs ++ [tt], kl', _, _, _, rfl, but_new B16 ncp lc0, ((S15.same T16).upd ncp).mono (by omega), (upd_ne nnl).trans (kk16 _ _ ns_strs hnl10), (upd_ne nkl').trans ?_, nkl', ?_, ?_, ki.step hxm hm' (List.mem_of_getElem? hwd) ?_, ?_⟩
        · exact (((Same.kp T13).trans k14).trans (k15.trans (Same.kp T16))) _ _ ns_strs hkl11
        · rw [upd_same, List.map_append]
          rfl
        · rw [List.map_append]
          exact RowsAt.append (rows_put hlc16 (kk16.rows hrow10)) ⟨sqT_put hlc16 (SqT.of g16), True.intro⟩
        · rcases hab with ⟨rfl, rfl⟩ | ⟨rfl, rfl⟩
          · exact .inl rfl
          · exact .inr rfl
        · rw [List.length_append, len]
          rfl
      · refine ⟨_, rfl, _, rfl, kl, _, rfl, .inl (SqL.of hkl10), rfl, flats _, _, rfl, ?_⟩
        rw [if_pos rfl, inV_strs]
        by_cases hin : y ∈ ns.take m
        · rw [decide_eq_true hin]
          exact iteF (fin _ _ ⟨m, kl, rfl, Same.refl _, hkl10, nkl, .inl ⟨rfl, hin⟩⟩)
        · rw [decide_eq_false hin]
          have hnm : ns[m]? = some y := by
            rcases hyy with q | q
            · exact absurd q hin
            · exact q
          refine iteT ⟨_, rfl, _, rfl, by show 1 ≤ sizeLine; decide, fun l1 hl1 => ?_⟩
          have T1 : Same H10 (upd H10 l1 (.lst [.str y])) := Same.upd hl1
          have f1 : (upd H10 l1 (.lst [.str y])) l1 = some (.lst [.str y]) := upd_same
          generalize upd H10 l1 (.lst [.str y]) = H11 at T1 f1
          refine ⟨kl, l1, _, _, rfl, rfl, T1 _ _ hkl10, f1, Nat.le_trans (show _ ≤ 1000 by rw [tlen]; show m + 1 ≤ 1000; omega) (by decide), fun l2 hl2 => ?_⟩
          have e : (ns.take m).map V.str ++ [.str y] = (ns.take (m + 1)).map V.str := by
            rw [List.take_add_one, hnm, List.map_append]
            rfl
          rw [e]
          have nlc : l2 ≠ lc := fun q => by
            rw [q, T1 _ _ hlc10] at hl2
            cases hl2
          exact fin _ _ ⟨m + 1, l2, rfl, T1.trans (Same.upd hl2), upd_same, nlc, .inr ⟨rfl, hnm⟩⟩
    rintro σ H5 ⟨m, cs, qs, kl, u8, u9, u10, rfl, B5, S5, hnl5, hkl5, nkl, hlc5, hrow, ki, len⟩
    have m1 := ki.m1
    have ml := ki.ml
    have hn3 : (1 + d).toNat ≤ 3 := by omega
    have hn1 : 1 ≤ (1 + d).toNat := by omega
    generalize (1 + d).toNat = nc at len S5 hn3 hn1
    have cne : cs ≠ [] := fun z => by
      rw [z] at len
      simp at len
      omega
    have tlen : ((ns.take m).map V.str).length = m := by
      rw [List.length_map, List.length_take]
      omega
    have knl : (ns.take m).length = m := by
      rw [List.length_take]
      omega
    have knd : (ns.take m).Nodup := List.Pairwise.sublist (List.take_sublist _ _) nnd
    have knm : ∀ z ∈ ns.take m, NmP z ∧ z.length ≤ 12 := fun z hz => nnm z (List.mem_of_mem_take hz)
    have kien := ki.en
    have kial := ki.al cne
    generalize ns.take m = kn at hkl5 tlen knl knd knm kien kial
    dsimp only [gName, List.set_cons_succ, List.set_cons_zero]
    refine ⟨_, rfl, _, rfl, kl, _, rfl, .inl (SqL.of hkl5), p, _, k + 81 + 4 * nc, rfl, S5, by omega, by omega, by omega, fun tn H6 t0 t1 B6 S6 => ?_⟩
    rw [tlen] at t1
    dsimp only [gName, List.set_cons_succ, List.set_cons_zero]
    have k6 := B6.kp S5.ok
    have B56 := B5.trans B6
    have hkl6 := k6 _ _ ns_strs hkl5
    have hlc6 := k6 _ _ ns_refs hlc5
    have hrow6 := k6.rows hrow
    have et : tn = ((tn.toNat : Nat) : Int) := by omega
    refine ⟨_, rfl, _, rfl, _, rfl, kl, _, rfl, SqL.of hkl6, fun l1 hl1 => ?_⟩
    rw [show cutV (kn.map V.str) (some tn) none = (kn.drop tn.toNat).map V.str by rw [et, cut_drop, List.map_drop, Int.toNat_natCast]]
    have T1 : Same H6 (upd H6 l1 (.lst ((kn.drop tn.toNat).map V.str))) := Same.upd hl1
    have f1 : (upd H6 l1 (.lst ((kn.drop tn.toNat).map V.str))) l1 = some (.lst ((kn.drop tn.toNat).map V.str)) := upd_same
    generalize upd H6 l1 (.lst ((kn.drop tn.toNat).map V.str)) = H7 at T1 f1
    refine ⟨_, rfl, _, rfl, _, rfl, kl, _, rfl, SqL.of (T1 _ _ hkl6), fun l2 hl2 => ?_⟩
    rw [show cutV (kn.map V.str) none (some tn) = (kn.take tn.toNat).map V.str by rw [et, cut_take, List.map_take, Int.toNat_natCast]]
    have T2 : Same H7 (upd H7 l2 (.lst ((kn.take tn.toNat).map V.str))) := Same.upd hl2
    have f2 : (upd H7 l2 (.lst ((kn.take tn.toNat).map V.str))) l2 = some (.lst ((kn.take tn.toNat).map V.str)) := upd_same
    generalize upd H7 l2 (.lst ((kn.take tn.toNat).map V.str)) = H8 at T2 f2
    refine ⟨l1, l2, _, _, rfl, rfl, T2 _ _ f1, f2, ?_, fun l3 hl3 => ?_⟩
    · rw [List.length_map, List.length_map, List.length_drop, List.length_take]
      exact Nat.le_trans (show _ ≤ 1000 by omega) (by decide)
    rw [← List.map_append]
    have rmem : ∀ z, z ∈ kn.drop tn.toNat ++ kn.take tn.toNat ↔ z ∈ kn := fun z => by
      have q : z ∈ kn ↔ z ∈ kn.take tn.toNat ++ kn.drop tn.toNat := by rw [List.take_append_drop]
      rw [q, List.mem_append, List.mem_append]
      exact Or.comm
    have rnd : (kn.drop tn.toNat ++ kn.take tn.toNat).Nodup := by
      have q : (kn.take tn.toNat ++ kn.drop tn.toNat).Nodup := by rw [List.take_append_drop]; exact knd
      rw [List.nodup_append] at q ⊢
      exact ⟨q.2.1, q.1, fun a ha b hb e => q.2.2 b hb a ha e.symm⟩
    have rlen : (kn.drop tn.toNat ++ kn.take tn.toNat).length = m := by
      rw [List.length_append, List.length_drop, List.length_take, knl]
      omega
    have T3 : Same H8 (upd H8 l3 (.lst ((kn.drop tn.toNat ++ kn.take tn.toNat).map V.str))) := Same.upd hl3
    have f3 : (upd H8 l3 (.lst ((kn.drop tn.toNat ++ kn.take tn.toNat).map V.str))) l3 = some (.lst ((kn.drop tn.toNat ++ kn.take tn.toNat).map V.str)) := upd_same
    generalize upd H8 l3 (.lst ((kn.drop tn.toNat ++ kn.take tn.toNat).map V.str)) = H9 at T3 f3
    generalize kn.drop tn.toNat ++ kn.take tn.toNat = rot at f3 rmem rnd rlen
    have T13 := (T1.trans T2).trans T3
    have S9 := S6.same T13
    have B9 : But p H H9 := fun q o n e => T13 _ _ (B56 q o n e)
    have hkl9 := T13 _ _ hkl6
    have hlc9 := T13 _ _ hlc6
    have hrow9 := hrow6.same T13
    refine ⟨l3, rfl, ⟨_, SqL.of f3⟩, fun D hD => ?_⟩
    have nDp := st_free S9.ok hD
    have D0 : H D = none := B9.free nDp hD
    refine lc_list (K := K) (a := l3) (xs := rot.map V.str) (fun i H' => Kp H9 H' ∧ But p H H' ∧ StN (k + 81 + 4 * nc + 1 + i) H' p ∧ ∃ (ps : List Addr) (vs : List Var), H' D = some (.lst (ps.map V.ref)) ∧ RowsAt K H' ps (vs.map varV) ∧ vs.map (fun v => v.1) = rot.take i ∧ ∀ v ∈ vs, ∀ z, v.2 = some z → z ∈ ss) ⟨Same.kp (Same.upd hD), but_new B9 nDp D0, S9.upd nDp, [], [], upd_same, True.intro, rfl, fun _ h => (List.not_mem_nil h).elim⟩ (fun i H' _ h => SqL.of (h.1 _ _ ns_strs f3)) ?_ ?_
    · rintro i v H10 hv ⟨K10, B10, S10, ps, vs, hD10, hr10, ev, hvs⟩
      obtain ⟨z, hz, rfl⟩ := map_str_get hv
      have hi : i < rot.length := (List.getElem?_eq_some_iff.mp hz).1
      have hls10 := B10 _ _ nsp hls
      refine ⟨rfl, _, rfl, _, rfl, _, rfl, by show 1 ≤ sizeLine; decide, fun q1 hq1 => ?_⟩
      have U1 : Same H10 (upd H10 q1 (.lst [.non])) := Same.upd hq1
      have g1 : (upd H10 q1 (.lst [.non])) q1 = some (.lst [.non]) := upd_same
      generalize upd H10 q1 (.lst [.non]) = H11 at U1 g1
      refine ⟨ls, q1, _, _, rfl, rfl, U1 _ _ hls10, g1, ?_, fun q2 hq2 => ?_⟩
      · rw [List.length_map]
        exact Nat.le_trans (show _ ≤ 1000 by show ss.length + 1 ≤ 1000; omega) (by decide)
      have U2 : Same H11 (upd H11 q2 (.lst (ss.map V.str ++ [.non]))) := Same.upd hq2
      have g2 : (upd H11 q2 (.lst (ss.map V.str ++ [.non]))) q2 = some (.lst (ss.map V.str ++ [.non])) := upd_same
      generalize upd H11 q2 (.lst (ss.map V.str ++ [.non])) = H12 at U2 g2
      have U12 := U1.trans U2
      have S12 := S10.same U12
      have sl : (ss.map V.str ++ [V.non]).length = ss.length + 1 := by
        rw [List.length_append, List.length_map]
        rfl
      refine ⟨p, q2, _, k + 81 + 4 * nc + 1 + i, rfl, S12, by omega, g2, But.ne S12.ok g2 (ns_sorts _), by omega, by omega, fun j v H13 hv B13 S13 => ?_⟩
      obtain ⟨o, rfl, ho⟩ := sort_of hv
      refine ⟨by show 2 ≤ sizeLine; decide, fun tt htt => ?_⟩
      have k13 := (Same.kp U12).trans (B13.kp S12.ok)
      have U3 : Same H13 (upd H13 tt (.tup [.str z, sortV o])) := Same.upd htt
      have g3 : (upd H13 tt (.tup [.str z, sortV o])) tt = some (.tup (varV (z, o))) := upd_same
      generalize upd H13 tt (.tup [.str z, sortV o]) = H14 at U3 g3
      have k14 := k13.trans (Same.kp U3)
      have hD14 := k14 _ _ ns_refs hD10
      have vl : vs.length = i := by
        have q := congrArg List.length ev
        rw [List.length_map, List.length_take] at q
        omega
      refine ⟨_, hD14, ?_, (K10.trans k14).new hD, but_new (fun q o n e => U3 _ _ (B13 q o n (U12 _ _ (B10 q o n e)))) nDp D0, ((S13.same U3).upd nDp).mono (by omega), ps ++ [tt], vs ++ [(z, o)], ?_, ?_, ?_, ?_⟩
      · have q := hr10.len
        rw [List.length_map] at q ⊢
        exact Nat.lt_of_le_of_lt (show _ ≤ 1000 by omega) (by decide)
      · rw [upd_same, List.map_append]
        rfl
      · rw [List.map_append]
        exact RowsAt.append (rows_put hD14 (k14.rows hr10)) ⟨sqT_put hD14 (SqT.of g3), True.intro⟩
      · rw [List.map_append, ev, List.take_add_one, hz]
        rfl
      · intro v hv y ey
        rcases List.mem_append.mp hv with q | q
        · exact hvs v q y ey
        · rw [List.mem_singleton.mp q] at ey
          exact ho y ey
    rintro H10 ⟨K10, B10, S10, ps, vs, hD10, hr10, ev, hvs⟩
    rw [List.length_map, List.take_length] at ev
    rw [List.length_map, rlen] at S10
    dsimp only [gName, List.set_cons_succ, List.set_cons_zero]
    have hkl10 := K10 _ _ ns_strs hkl9
    have hlc10 := K10 _ _ ns_refs hlc9
    have hrow10 := K10.rows hrow9
    have pickK : ∀ {H' : Hp} {q : Nat} {j : Nat} {v : V}, (kn.map V.str)[j]? = some v → ∃ z, v = .str z ∧ z ∈ kn := fun {H' q j v} h => by
      obtain ⟨z, hz, rfl⟩ := map_str_get h
      exact ⟨z, rfl, List.mem_of_getElem? hz⟩
    refine ⟨_, rfl, _, rfl, p, kl, _, k + 81 + 4 * nc + 1 + m, rfl, S10, by omega, hkl10, st_strs S10 hkl10, by omega, by omega, fun j1 v1 H11 hv1 B11 S11 => ?_⟩
    obtain ⟨ga, rfl, hga⟩ := pickK (H' := H11) (q := 0) hv1
    have k11 := B11.kp S10.ok
    have hlw11 := (B10.trans B11) _ _ nwp hlw
    refine ⟨_, rfl, _, rfl, p, lw, _, k + 81 + 4 * nc + 1 + m + 1, rfl, S11, by omega, hlw11, nwp, by rw [List.length_map]; omega, by rw [List.length_map]; omega, fun j2 v2 H12 hv2 B12 S12 => ?_⟩
    obtain ⟨gw, hgw, rfl⟩ := map_str_get hv2
    have k12 := k11.trans (B12.kp S11.ok)
    have hkl12 := k12 _ _ ns_strs hkl10
    refine ⟨_, rfl, _, rfl, p, kl, _, k + 81 + 4 * nc + 1 + m + 2, rfl, S12, by omega, hkl12, st_strs S12 hkl12, by omega, by omega, fun j3 v3 H13 hv3 B13 S13 => ?_⟩
    obtain ⟨gb, rfl, hgb⟩ := pickK (H' := H13) (q := 0) hv3
    have k13 := k12.trans (B13.kp S12.ok)
    refine ⟨by show 3 ≤ sizeLine; decide, fun g hg => ?_⟩
    dsimp only [gName, List.set_cons_succ, List.set_cons_zero]
    have U3 : Same H13 (upd H13 g (.tup [.str ga, .str gw, .str gb])) := Same.upd hg
    have g3 : (upd H13 g (.tup [.str ga, .str gw, .str gb])) g = some (.tup (triV (ga, gw, gb))) := upd_same
    generalize upd H13 g (.tup [.str ga, .str gw, .str gb]) = H14 at U3 g3
    have S14 := S13.same U3
    have k14 := k13.trans (Same.kp U3)
    have hkl14 := k14 _ _ ns_strs hkl10
    have B14 : But p H H14 := fun q o n e => U3 _ _ (B13 q o n (B12 q o n (B11 q o n (B10 q o n e))))
    refine ⟨_, rfl, _, rfl, _, rfl, _, rfl, _, rfl, _, rfl, p, kl, _, k + 81 + 4 * nc + 1 + m + 3, rfl, S14, by omega, hkl14, st_strs S14 hkl14, by omega, by omega, fun j4 v4 H15 hv4 B15 S15 => ?_⟩
    obtain ⟨bh, rfl, hbh⟩ := pickK (H' := H15) (q := 0) hv4
    have k15 := k14.trans (B15.kp S14.ok)
    refine ⟨by show 5 ≤ sizeLine; decide, fun t ht => ?_⟩
    have ntp := st_free S15.ok ht
    have B15' := B14.trans B15
    have t0' : H t = none := B15'.free ntp ht
    have U4 : Same H15 (upd H15 t (.tup [.str nm, .ref D, .ref lc, .ref g, .str bh])) := Same.upd ht
    have k16 := k15.trans (Same.kp U4)
    have vmem : ∀ z, z ∈ vs.map (fun v => v.1) ↔ z ∈ kn := fun z => by
      rw [ev]
      exact rmem z
    have vlen : vs.length = m := by
      have q := congrArg List.length ev
      rw [List.length_map] at q
      omega
    refine kk t ⟨⟨nm, vs, cs⟩, (ga, gw, gb), bh⟩ _ rfl ⟨⟨by show 1 ≤ vs.length; omega, by show vs.length ≤ 4; omega, by show 1 ≤ cs.length; omega, by show cs.length ≤ 3; omega, by show 1 ≤ 1; decide, by show 1 ≤ 1; decide, ?_, fun z hz => ?_, fun z hz => ?_, ki.ha⟩, fun v hv => ?_, hvs, ki.wd, List.mem_of_getElem? hgw⟩ t0' (but_new B15' ntp t0') ((S15.upd ntp).mono (by omega)) ⟨D, lc, g, ps, qs, D0, lc0, upd_same, k16 _ _ ns_refs hD10, k16.rows hr10, k16 _ _ ns_refs hlc10, k16.rows hrow10, ?_⟩
    · show NoTw ((vs.map (fun v => v.1)).map V.str)
      rw [ev]
      exact noTw_of rnd
    · show z ∈ vs.map (fun v => v.1)
      rw [vmem]
      rcases List.mem_append.mp hz with hz | hz
      · rw [endsL_app] at hz
        rcases List.mem_append.mp hz with hz | hz
        · exact kien z hz
        · have hz : z = ga ∨ z = gb := by simpa [endsL] using hz
          rcases hz with rfl | rfl
          · exact hga
          · exact hgb
      · rw [List.mem_singleton.mp hz]
        exact hbh
    · exact kial z ((vmem z).mp hz)
    · have q := knm v.1 ((vmem v.1).mp (List.mem_map_of_mem hv))
      exact ⟨nm_is q.1 q.2, q.2, q.1.ok⟩
    · exact U4 _ _ ((B15.kp S14.ok) _ _ ns_tup g3)
end
end Wm
/-! bs.count(True), a list of bools; also while an error is handled -/
namespace Wm
open PySem PySem.Spec PyProof.Rows L2
theorem vals_bls : ∀ {bs : List Bool} {us : List Value}, Vals (bs.map V.bl) us → us = bs.map Value.bool
  | [], _, .nil => rfl
  | b :: bs, _, .cons h r => by
    have e := vals_bls (bs := bs) r
    cases h
    rw [e]
    rfl
def isTru (v : Value) : Bool := match v with
  | .bool b => b
  | _ => false
def rCntB (K : PySem.W.Frag) : V → List V → Hp → VK → Prop := fun x xs H Q => ∃ (p : Addr) (bs : List Bool), x = .ref p ∧ xs = [.bl true] ∧ SqL K H p (bs.map V.bl) ∧ Q (.int (bs.count true : Nat)) H
theorem mt_bcount {X : Cx} : MtR X "list.count" (rCntB X.K) := by
  intro pins s σ H x xs v us Q I rx rxs h
  obtain ⟨p, bs, rfl, rfl, hs, q⟩ := h
  cases rx
  obtain ⟨u, rfl, ru⟩ := rxs.one
  cases ru
  obtain ⟨its, rv, ⟨⟨cls, dd, data, sl⟩, n, ho, hc, hdn, hd⟩, hlen⟩ := I.list hs
  simp only at hc hd
  subst hc hd
  have hb := vals_bls rv
  subst hb
  refine call_meets PySem.F.slot_list_count ⟨_, ho, rfl⟩ PySem.F.entry_list_count (PySem.F.args_list_count_2 _ _)
    (SeqAt.list_countAt p (bs.map Value.bool).toArray n dd sl (.bool true) isTru) ⟨ho, fun y hy => ?_, ?_⟩
  · obtain ⟨b, _, rfl⟩ := List.mem_map.mp (show y ∈ bs.map Value.bool by simpa using hy)
    have h := SeqAt.EqAt.bool_bool (A := X.A.in1) (s := s) b true
    rw [beq_true] at h
    exact h
  have ec : (bs.map Value.bool).toArray.toList.countP isTru = bs.count true := by
    show (bs.map Value.bool).countP isTru = _
    rw [List.countP_map, List.count]
    congr 1
    funext b
    show b = (b == true)
    cases b <;> rfl
  refine ⟨.int (bs.count true : Nat), H, I.tok _, ⟨s.toks, ?_⟩, q⟩
  show Value.int (((bs.map Value.bool).toArray.toList.countP isTru : Nat) : Int) s.toks = Value.int ((bs.count true : Nat) : Int) s.toks
  rw [ec]
end Wm
namespace Wm
open PySem L2 StX
/-! ### what is strange in a rule -/
def oddS (ss : List Str) (vs : List Var) : Option Str := (vs.filterMap (fun v => v.2)).find? fun z => !decide (z ∈ ss)
def oddW (ws : List Str) (ts : List Tri) : Option Str := (ts.map (fun t => t.2.1)).find? fun z => !decide (z ∈ ws)
theorem odd_none {ss : List Str} {vs : List Var} (h : ∀ v ∈ vs, ∀ z, v.2 = some z → z ∈ ss) : oddS ss vs = none := by
  unfold oddS
  rw [List.find?_eq_none]
  intro z hz
  obtain ⟨v, hv, e⟩ := List.mem_filterMap.mp hz
  simp [h v hv z e]
theorem oddW_none {ws : List Str} {ts : List Tri} (h : ∀ t ∈ ts, t.2.1 ∈ ws) : oddW ws ts = none := by
  unfold oddW
  rw [List.find?_eq_none]
  intro z hz
  obtain ⟨t, ht, rfl⟩ := List.mem_map.mp hz
  simp [h t ht]
theorem odd_some {ss : List Str} {vs : List Var} {i : Nat} {v : Var} {z : Str} (h : ∀ v ∈ vs.take i, ∀ z, v.2 = some z → z ∈ ss) (hv : vs[i]? = some v) (e : v.2 = some z) (hz : z ∉ ss) : oddS ss vs = some z := by
  have hi := (List.getElem?_eq_some_iff.mp hv).1
  have sp : vs = vs.take i ++ v :: vs.drop (i + 1) := by
    rw [← List.getElem?_eq_some_iff.mp hv |>.2, List.getElem_cons_drop, List.take_append_drop]
  have q := odd_none h
  unfold oddS at q ⊢
  rw [sp, List.filterMap_append, List.find?_append, q, List.filterMap_cons, e]
  simp [hz]
theorem oddW_some {ws : List Str} {ts : List Tri} {i : Nat} {t : Tri} (h : ∀ t ∈ ts.take i, t.2.1 ∈ ws) (ht : ts[i]? = some t) (hz : t.2.1 ∉ ws) : oddW ws ts = some t.2.1 := by
  have sp : ts = ts.take i ++ t :: ts.drop (i + 1) := by
    rw [← List.getElem?_eq_some_iff.mp ht |>.2, List.getElem_cons_drop, List.take_append_drop]
  have q := oddW_none h
  unfold oddW at q ⊢
  rw [sp, List.map_append, List.find?_append, q, List.map_cons]
  simp [hz]
/-- what is due of the rule -/
def DueS (CS CW : Addr) (ss ws : List Str) (r : RlD) (H : Hp) (ok : Hp → Prop) (E : XK) : Prop := match oddS ss r.p.vars with
  | some z => ∀ d H', H d = none → Same H H' → H' d = some (.xd (ef1 "name" "nosort" (.str z))) → E (.ref CS) (some d) H'
  | none => match oddW ws (r.p.cs ++ [r.g]) with
    | some z => ∀ d H', H d = none → Same H H' → H' d = some (.xd (ef1 "name" "noword" (.str z))) → E (.ref CW) (some d) H'
    | none => ∀ H', Same H H' → ok H'
def spRSR (K : PySem.W.Frag) (S RB CS CW : Addr) : Sp := fun vs H Q E => ∃ (x a : Addr) (ss ws : List Str) (r : RlD), vs = [.ref x, .ref a] ∧ SchAt S H x ss ws ∧ RlAt K RB H a r ∧ r.p.vars.length ≤ 4 ∧ r.p.cs.length ≤ 3 ∧ DueS CS CW ss ws r H (fun H' => Q .non H') E
theorem SchAt.same {S : Addr} {H H' : Hp} {x : Addr} {ss ws : List Str} (s : Same H H') (h : SchAt S H x ss ws) : SchAt S H' x ss ws := by
  obtain ⟨dx, l1, l2, l3, l4, l5, h0, h1, h2⟩ := h.ex
  exact ⟨⟨dx, l1, l2, l3, l4, l5, s _ _ h0, s _ _ h1, s _ _ h2⟩⟩
section
variable {P : Program} {w : World} {K : PySem.W.Frag} {mg : Str → Option Value} {base : Heap}
theorem scNS : FnScope ["self", "name"] ["self", "name"] (defScope sNS) := ⟨rfl, rfl, rfl, by decide +kernel, rfl, by decide +kernel, by decide +kernel⟩
theorem ok_nosort {f C f0 W : Addr} {fd fd0 : FuncData} (F : Fun K "__init__" "NoSort.__init__" sNS f fd) (T : ErrT K mg "NoSort" "name" C f) (TW : WhoT K mg W f0 fd0) (G0 : FnOk P w K mg base CX0 1 f0 fd0 ["self", "kind"] (spWI K)) :
    FnOk P w K mg base CX0 2 f fd ["self", "name"] (spE1 C "name" "nosort") := by
  refine F.ok scNS (fun vs H Q E h => ?_) (fun cdv A outer s H vs Q E hr h => ?_)
  · obtain ⟨a, v, rfl, _⟩ := h
    rfl
  · obtain ⟨a, v, rfl, ha, k⟩ := h
    refine ⟨_, pss_cons (ps_expr (pe_clsFn rfl TW.g TW.r TW.m TW.k G0 hr TW.b .nil pass0 (pa_cons (pv 0) (pa_cons pe_str pa_nil)))) (pss_one (ps_ost (pv 0) (pv 1))), ?_⟩
    refine ⟨_, rfl, a, C, _, rfl, T.o, T.nk, ha, fun dx n ne => ?_⟩
    refine ⟨_, rfl, _, rfl, a, C, rfl, T.o, T.nf, .inr ⟨dx, _, upd_same, Eq.trans (upd_ne ne) upd_same, by decide, ?_⟩⟩
    refine k dx _ n ne (fun b o nb e => ?_) ?_ upd_same
    · have nd : b ≠ dx := ne_of_none e n
      rw [upd_ne nd, upd_ne nb, upd_ne nd]
      exact e
    · rw [upd_ne ne.symm, upd_same]
theorem scNW : FnScope ["self", "name"] ["self", "name"] (defScope sNW) := ⟨rfl, rfl, rfl, by decide +kernel, rfl, by decide +kernel, by decide +kernel⟩
theorem ok_noword {f C f0 W : Addr} {fd fd0 : FuncData} (F : Fun K "__init__" "NoWord.__init__" sNW f fd) (T : ErrT K mg "NoWord" "name" C f) (TW : WhoT K mg W f0 fd0) (G0 : FnOk P w K mg base CX0 1 f0 fd0 ["self", "kind"] (spWI K)) :
    FnOk P w K mg base CX0 2 f fd ["self", "name"] (spE1 C "name" "noword") := by
  refine F.ok scNW (fun vs H Q E h => ?_) (fun cdv A outer s H vs Q E hr h => ?_)
  · obtain ⟨a, v, rfl, _⟩ := h
    rfl
  · obtain ⟨a, v, rfl, ha, k⟩ := h
    refine ⟨_, pss_cons (ps_expr (pe_clsFn rfl TW.g TW.r TW.m TW.k G0 hr TW.b .nil pass0 (pa_cons (pv 0) (pa_cons pe_str pa_nil)))) (pss_one (ps_ost (pv 0) (pv 1))), ?_⟩
    refine ⟨_, rfl, a, C, _, rfl, T.o, T.nk, ha, fun dx n ne => ?_⟩
    refine ⟨_, rfl, _, rfl, a, C, rfl, T.o, T.nf, .inr ⟨dx, _, upd_same, Eq.trans (upd_ne ne) upd_same, by decide, ?_⟩⟩
    refine k dx _ n ne (fun b o nb e => ?_) ?_ upd_same
    · have nd : b ≠ dx := ne_of_none e n
      rw [upd_ne nd, upd_ne nb, upd_ne nd]
      exact e
    · rw [upd_ne ne.symm, upd_same]
theorem scRSR : FnScope ["scheme", "rule", "variable", "sort", "x", "word", "y"] ["scheme", "rule"] (defScope sRSR) := ⟨rfl, rfl, rfl, by decide +kernel, rfl, by decide +kernel, by decide +kernel⟩
theorem ok_rsr {f S fS RB fR CS CW fI fJ fSo fWo : Addr} {fd dI dJ dSo dWo : FuncData} (F : Fun K "refuse_strange_rule" "refuse_strange_rule" sRSR f fd) (TC : TxSch K mg S fS) (TR : TxRul K mg RB fR) (TES : ErrT K mg "NoSort" "name" CS fI) (bI : Binds K dI ["self", "name"] []) (GI : FnOk P w K mg base CX0 2 fI dI ["self", "name"] (spE1 CS "name" "nosort"))
    (TEW : ErrT K mg "NoWord" "name" CW fJ) (bJ : Binds K dJ ["self", "name"] []) (GJ : FnOk P w K mg base CX0 2 fJ dJ ["self", "name"] (spE1 CW "name" "noword")) (mSo : Meth K S "sorts" fSo) (bSo : Binds K dSo ["self"] []) (GSo : FnOk P w K mg base CX0 1 fSo dSo ["self"] (spSor S)) (mWo : Meth K S "words" fWo) (bWo : Binds K dWo ["self"] []) (GWo : FnOk P w K mg base CX0 1 fWo dWo ["self"] (spWor S)) :
    FnOk P w K mg base (L2.CX P w) 4 f fd ["scheme", "rule"] (spRSR K S RB CS CW) := by
  refine F.okX scRSR (fun vs H Q E h => ?_) (fun cdv A outer s H vs Q E hr h => ?_)
  · obtain ⟨x, a, ss, ws, r, rfl, _⟩ := h
    rfl
  · obtain ⟨x, a, ss, ws, r, rfl, hsc, hat, v4, c3, due⟩ := h
    have hr1 : Room 1 _ := hr.mono (by decide)
    have hr3 : Room 3 _ := hr
    refine ⟨_, (pss_cons (ps_for (passes_of rfl) rfl (pi_tup (pe_fld (pv 1) rfl)) (pg_tup rfl (pgs_cons (pg_name (i := 2) scRSR.nd rfl (Or.inl rfl)) (pgs_cons (pg_name (i := 3) scRSR.nd rfl (Or.inl rfl)) pgs_nil)))
        (pss_one (ps_if (PW.pt (pw_and (pt_cmp (pc_notN (pv 3))) (pw_and1 (pt_cmpR op_notIn_seq (pv 3) (pe_meth0 (pv 0) TC.cl mSo GSo hr1 bSo .nil pass0) (by rfl))))) (pss_one (ps_raise rfl (takes_of rfl rfl rfl rfl) (pmk_oex TES.o TES.iC TES.tI GI hr3 bI .nil pass0 rfl TES.g (pa_cons (pv 3) pa_nil)))) pss_nil)))
      (pss_one (ps_for (passes_of rfl) rfl (pi_list (pe_lst (pa_star (pe_fld (pv 1) rfl) (pa_cons (pe_fld (pv 1) rfl) pa_nil)))) (pg_tup rfl (pgs_cons (pg_name (i := 4) scRSR.nd rfl (Or.inl rfl)) (pgs_cons (pg_name (i := 5) scRSR.nd rfl (Or.inl rfl)) (pgs_cons (pg_name (i := 6) scRSR.nd rfl (Or.inl rfl)) pgs_nil))))
        (pss_one (ps_if (pt_cmpR op_notIn_seq (pv 5) (pe_meth0 (pv 0) TC.cl mWo GWo hr1 bWo .nil pass0) (by rfl)) (pss_one (ps_raise rfl (takes_of rfl rfl rfl rfl) (pmk_oex TEW.o TEW.iC TEW.tI GJ hr3 bJ .nil pass0 rfl TEW.g (pa_cons (pv 5) pa_nil)))) pss_nil))))), ?_⟩
    obtain ⟨dx, q1, q2, q3, q4, q5, h0, h1, h2⟩ := hsc.ex
    obtain ⟨d, t1, t2, t3, us, qs, k0, k1, k2, k3, k4, k5⟩ := hat
    have ul := k2.len
    have ql := k4.len
    rw [List.length_map] at ul ql
    have noS : ∀ {g : Str}, ¬ g = "own_bars" → ¬ g = "own_rules" → ¬ g = "own_makings" → ¬ g = "own_words" → ¬ g = "own_sorts" → (schF q1 q2 q3 q4 q5).lookup g = none := fun a b c d e => schF_no a b c d e _ _ _ _ _
    unfold DueS at due
    refine ⟨_, rfl, a, RB, d, _, _, rfl, k0, TR.cl, TR.nv, rulF_vars _ _ _ _ _, t1, rfl, ⟨_, k1⟩, for_tup (K := K) (a := t1) (xs := us.map V.ref) (fun i σ H' => Same H H' ∧ (∃ u2 u3, σ = [some (.ref x), some (.ref a), u2, u3, none, none, none]) ∧ ∀ v ∈ r.p.vars.take i, ∀ z, v.2 = some z → z ∈ ss) ⟨Same.refl H, ⟨_, _, rfl⟩, fun v hv => by simp at hv⟩ (fun i σ H' _ h => same_seqT h.1 k1) ?_ ?_⟩
    · rintro i v σ H1 hv ⟨S1, ⟨u2, u3, rfl⟩, hno⟩
      obtain ⟨u, hu, rfl⟩ := map_ref_get hv
      obtain ⟨rw_, hrw, hsq⟩ := k2.get hu
      obtain ⟨vr, hvr, rfl⟩ := var_get hrw
      refine ⟨u, _, rfl, same_seqT S1 hsq, rfl, _, _, rfl, _, _, rfl, rfl, ?_⟩
      dsimp only [gName, List.set_cons_succ, List.set_cons_zero]
      rcases vr with ⟨vn, _ | z⟩
      · have ho : ((vn, none) : Var).2 = none := rfl
        refine ⟨_, rfl, _, rfl, iteF (iteF ⟨S1, ⟨_, _, rfl⟩, fun v' hv' z e => ?_⟩)⟩
        rw [List.take_add_one, hvr] at hv'
        rcases List.mem_append.mp hv' with q | q
        · exact hno v' q z e
        · rw [show v' = (vn, _) by simpa using q, ho] at e
          cases e
      · have ho : ((vn, some z) : Var).2 = some z := rfl
        dsimp only [varV, sortV]
        refine ⟨_, rfl, _, rfl, iteT ⟨_, rfl, _, rfl, x, dx, _, rfl, S1 _ _ h0, noS (by decide +kernel) (by decide +kernel) (by decide +kernel) (by decide +kernel) (by decide +kernel), x, ss, ws, rfl, hsc.same S1, fun l hl => ?_⟩⟩
        refine ⟨l, _, rfl, .inl (SqL.of upd_same), rfl, flats ss, _, rfl, ?_⟩
        rw [if_pos rfl, inV_strs]
        have S2 : Same H (upd H1 l (.lst (ss.map V.str))) := S1.trans (Same.upd hl)
        by_cases hz : z ∈ ss
        · rw [decide_eq_true hz]
          refine iteF ⟨S2, ⟨_, _, rfl⟩, fun v' hv' y e => ?_⟩
          rw [List.take_add_one, hvr] at hv'
          rcases List.mem_append.mp hv' with q | q
          · exact hno v' q y e
          · rw [show v' = (vn, _) by simpa using q, ho] at e
            cases e
            exact hz
        · rw [decide_eq_false hz]
          rw [odd_some hno hvr ho hz] at due
          exact iteT ⟨_, rfl, mk1 fun d H' hd S' hx => due d H' (S2.free hd) (S2.trans S') hx⟩
    rintro σ H1 ⟨S1, ⟨u2, u3, rfl⟩, hno⟩
    rw [List.length_map, ul, List.take_length] at hno
    rw [odd_none hno] at due
    refine ⟨_, rfl, a, RB, d, _, _, rfl, S1 _ _ k0, TR.cl, TR.nc, rulF_cond _ _ _ _ _, t2, _, rfl, .inl (same_seqT S1 k3), _, rfl, a, RB, d, _, _, rfl, S1 _ _ k0, TR.cl, TR.ng, rulF_gives _ _ _ _ _, ?_⟩
    show (qs.map V.ref ++ [V.ref t3]).length ≤ sizeLine ∧ _
    rw [show qs.map V.ref ++ [V.ref t3] = (qs ++ [t3]).map V.ref by rw [List.map_append]; rfl]
    refine ⟨Nat.le_trans (show _ ≤ 1000 by rw [List.length_map, List.length_append]; show qs.length + 1 ≤ 1000; omega) (by decide), fun L hL => ?_⟩
    have T1 : Same H1 (upd H1 L (.lst ((qs ++ [t3]).map V.ref))) := Same.upd hL
    have e1 : (upd H1 L (.lst ((qs ++ [t3]).map V.ref))) L = some (.lst ((qs ++ [t3]).map V.ref)) := upd_same
    generalize upd H1 L (.lst ((qs ++ [t3]).map V.ref)) = H2 at T1 e1
    have S2 := S1.trans T1
    have rr : RowsAt K H2 (qs ++ [t3]) ((r.p.cs ++ [r.g]).map triV) := by
      rw [List.map_append]
      exact RowsAt.append (k4.same S2) ⟨same_seqT S2 k5, True.intro⟩
    have rl := rr.len
    rw [List.length_map] at rl
    refine ⟨L, rfl, ⟨_, SqL.of e1⟩, for_list (K := K) (a := L) (xs := (qs ++ [t3]).map V.ref) (fun i σ H' => Same H2 H' ∧ (∃ u4 u5 u6, σ = [some (.ref x), some (.ref a), u2, u3, u4, u5, u6]) ∧ ∀ t ∈ (r.p.cs ++ [r.g]).take i, t.2.1 ∈ ws) ⟨Same.refl _, ⟨_, _, _, rfl⟩, fun v hv => by simp at hv⟩ (fun i σ H' _ h => SqL.of (h.1 _ _ e1)) ?_ ?_⟩
    · rintro i v σ H3 hv ⟨S3, ⟨u4, u5, u6, rfl⟩, hno⟩
      obtain ⟨u, hu, rfl⟩ := map_ref_get hv
      obtain ⟨rw_, hrw, hsq⟩ := rr.get hu
      obtain ⟨tr, htr, rfl⟩ := tri_get hrw
      refine ⟨u, _, rfl, same_seqT S3 hsq, rfl, _, _, rfl, _, _, rfl, _, _, rfl, rfl, ?_⟩
      dsimp only [gName, List.set_cons_succ, List.set_cons_zero]
      have S23 := S2.trans S3
      refine ⟨_, rfl, _, rfl, x, dx, _, rfl, S23 _ _ h0, noS (by decide +kernel) (by decide +kernel) (by decide +kernel) (by decide +kernel) (by decide +kernel), x, ss, ws, rfl, hsc.same S23, fun l hl => ?_⟩
      refine ⟨l, _, rfl, .inl (SqL.of upd_same), rfl, flats ws, _, rfl, ?_⟩
      rw [if_pos rfl, inV_strs]
      have S4 : Same H2 (upd H3 l (.lst (ws.map V.str))) := S3.trans (Same.upd hl)
      by_cases hz : tr.2.1 ∈ ws
      · rw [decide_eq_true hz]
        refine iteF ⟨S4, ⟨_, _, _, rfl⟩, fun t ht => ?_⟩
        rw [List.take_add_one, htr] at ht
        rcases List.mem_append.mp ht with q | q
        · exact hno t q
        · rw [show t = tr by simpa using q]
          exact hz
      · rw [decide_eq_false hz]
        rw [oddW_some hno htr hz] at due
        exact iteT ⟨_, rfl, mk1 fun d H' hd S' hx => due d H' ((S2.trans S4).free hd) ((S2.trans S4).trans S') hx⟩
    rintro σ H3 ⟨S3, ⟨u4, u5, u6, rfl⟩, hno⟩
    rw [List.length_map, rl, List.take_length] at hno
    rw [oddW_none hno] at due
    exact due H3 (S2.trans S3)
end
end Wm
namespace Wm
open PySem L2 StX
/-! ### rows of sorts -/
def cart : List (List Str) → List (List Str)
  | [] => [[]]
  | f :: fs => f.flatMap fun e => (cart fs).map fun r => e :: r
def freeS (ss : List Str) (v : Var) : List Str := match v.2 with
  | none => ss
  | some z => [z]
def stepS (rows : List (List Str)) (f : List Str) : List (List Str) := rows.flatMap fun r => f.map fun e => r ++ [e]
theorem fold_cart : ∀ (fs : List (List Str)) (rows : List (List Str)), fs.foldl stepS rows = rows.flatMap fun r => (cart fs).map fun q => r ++ q
  | [], rows => by
    show rows = _
    simp [cart]
  | f :: fs, rows => by
    show fs.foldl stepS (stepS rows f) = _
    rw [fold_cart fs]
    unfold stepS
    rw [List.flatMap_assoc]
    congr 1
    funext r
    show List.flatMap _ (f.map fun e => r ++ [e]) = _
    rw [List.flatMap_map]
    show _ = (f.flatMap fun e => (cart fs).map fun q => e :: q).map fun q => r ++ q
    rw [List.map_flatMap]
    congr 1
    funext e
    rw [List.map_map]
    congr 1
    funext q
    show (r ++ [e]) ++ q = r ++ (e :: q)
    simp
theorem fold_cart0 (fs : List (List Str)) : fs.foldl stepS [[]] = cart fs := by
  rw [fold_cart]
  simp
theorem cart_len : ∀ {fs : List (List Str)}, (∀ f ∈ fs, f.length ≤ 4) → (cart fs).length ≤ 4 ^ fs.length
  | [], _ => by simp [cart]
  | f :: fs, h => by
    have h1 := h f List.mem_cons_self
    have h2 := cart_len (fs := fs) fun g hg => h g (List.mem_cons_of_mem _ hg)
    show (f.flatMap fun e => (cart fs).map fun r => e :: r).length ≤ 4 ^ (fs.length + 1)
    rw [List.length_flatMap]
    simp only [List.length_map, List.map_const', List.sum_replicate_nat]
    rw [Nat.pow_succ, Nat.mul_comm]
    exact Nat.mul_le_mul h2 h1
theorem cart_row : ∀ {fs : List (List Str)} {r : List Str}, r ∈ cart fs → r.length = fs.length
  | [], r, h => by
    have e : r = [] := by simpa [cart] using h
    rw [e]
    rfl
  | f :: fs, r, h => by
    obtain ⟨e, _, h⟩ := List.mem_flatMap.mp (show r ∈ f.flatMap fun e => (cart fs).map fun r => e :: r from h)
    obtain ⟨q, hq, rfl⟩ := List.mem_map.mp h
    rw [List.length_cons, cart_row hq]
    rfl
theorem stepS_app (a b : List (List Str)) (f : List Str) : stepS (a ++ b) f = stepS a f ++ stepS b f := by
  unfold stepS
  rw [List.flatMap_append]
def rowV (r : List Str) : List V := r.map V.str
def spSrw (K : PySem.W.Frag) (S RB CS CW : Addr) : Sp := fun vs H Q E => ∃ (x a : Addr) (ss ws : List Str) (r : RlD), vs = [.ref x, .ref a] ∧ SchAt S H x ss ws ∧ RlAt K RB H a r ∧ r.p.vars.length ≤ 4 ∧ r.p.cs.length ≤ 3 ∧ ss.length ≤ 4 ∧ 1 ≤ ss.length ∧ DueS CS CW ss ws r H (fun H1 => ∀ l qs H', H l = none → Same H H' → H' l = some (.lst (qs.map V.ref)) → RowsAt K H' qs ((cart (r.p.vars.map (freeS ss))).map rowV) → Q (.ref l) H') E
theorem free_len {ss : List Str} (h : ss.length ≤ 4) (h1 : 1 ≤ ss.length) (v : Var) : (freeS ss v).length ≤ 4 := by
  unfold freeS
  split
  · exact h
  · show 1 ≤ 4
    decide
section
variable {P : Program} {w : World} {K : PySem.W.Frag} {mg : Str → Option Value} {base : Heap}
theorem scSrw : FnScope ["scheme", "rule", "rows", "variable", "sort", "free", "row", "each"] ["scheme", "rule"] (defScope sSrw) := ⟨rfl, rfl, rfl, by decide +kernel, rfl, by decide +kernel, by decide +kernel⟩
theorem ok_srw {f S fS RB fR CS CW fRS fSo : Addr} {fd dRS dSo : FuncData} (F : Fun K "sort_rows" "sort_rows" sSrw f fd) (TC : TxSch K mg S fS) (TR : TxRul K mg RB fR) (DRS : Dn K mg "refuse_strange_rule" sRSR ["scheme", "rule"] fRS dRS) (GRS : FnOk P w K mg base (L2.CX P w) 4 fRS dRS ["scheme", "rule"] (spRSR K S RB CS CW)) (mSo : Meth K S "sorts" fSo) (bSo : Binds K dSo ["self"] []) (GSo : FnOk P w K mg base CX0 1 fSo dSo ["self"] (spSor S)) :
    FnOk P w K mg base (L2.CX P w) 5 f fd ["scheme", "rule"] (spSrw K S RB CS CW) := by
  refine F.okX scSrw (fun vs H Q E h => ?_) (fun cdv A outer s H vs Q E hr h => ?_)
  · obtain ⟨x, a, ss, ws, r, rfl, _⟩ := h
    rfl
  · obtain ⟨x, a, ss, ws, r, rfl, hsc, hat, v4, c3, s4, s1, due⟩ := h
    have hr1 : Room 1 _ := hr.mono (by decide)
    have hr4 : Room 4 _ := hr
    refine ⟨_, (pss_cons (ps_expr (pe_call GRS hr4 rfl DRS.g DRS.F.kp DRS.b .nil (passes_call (takes_of rfl rfl rfl rfl) (fun _ _ _ _ h => h)) (pa_cons (pv 0) (pa_cons (pv 1) pa_nil))))
      (pss_cons (ps_set (i := 2) scSrw.nd rfl (Or.inl rfl) (pe_lst (pa_cons (pe_tup pa_nil) pa_nil)))
      (pss_cons (ps_for (passes_of rfl) rfl (pi_tup (pe_fld (pv 1) rfl)) (pg_tup rfl (pgs_cons (pg_name (i := 3) scSrw.nd rfl (Or.inl rfl)) (pgs_cons (pg_name (i := 4) scSrw.nd rfl (Or.inl rfl)) pgs_nil)))
        (pss_cons (ps_set (i := 5) scSrw.nd rfl (Or.inr rfl) (pe_ifExp (pt_cmp (pc_isN (pv 4))) (pe_meth0 (pv 0) TC.cl mSo GSo hr1 bSo .nil pass0) (pe_lst (pa_cons (pv 4) pa_nil))))
        (pss_one (ps_setLc2 (i := 2) (own := [("row", 6), ("each", 7)]) (vs1 := [7]) (g := gName 6) (g1 := gName 7) (wi1 := iList K (tVar 5)) (te := tTup (tStar K (tVar 6) (tCons (tVar 7) tNil))) rfl scSrw.nd rfl rfl (sw_true rfl rfl rfl (by decide +kernel)) (pi_list (pv 2)) (blkOk_by (N := ["scheme", "rule", "rows", "variable", "sort", "free", "row", "each"]) (sc := defScope sSrw) (by decide +kernel)) (by decide) (fun _ _ _ _ _ => (pg_name (i := 6) scSrw.nd rfl (Or.inl rfl))) (fun _ _ _ _ _ => pts_nil) (fun _ _ _ _ _ => (pi_list (pv 5))) (fun _ _ _ _ _ => (pg_name (i := 7) scSrw.nd rfl (Or.inl rfl))) (fun _ _ _ _ _ => pts_nil) (fun _ _ _ _ _ => (pe_tup (pa_star (pv 6) (pa_cons (pv 7) pa_nil))))))))
      (pss_one (ps_ret (pv 2)))))), ?_⟩
    refine ⟨_, rfl, _, rfl, x, a, ss, ws, r, rfl, hsc, hat, v4, c3, ?_⟩
    unfold DueS at due ⊢
    cases ho : oddS ss r.p.vars with
    | some z =>
      rw [ho] at due
      exact due
    | none =>
      rw [ho] at due
      cases hw : oddW ws (r.p.cs ++ [r.g]) with
      | some z =>
        rw [hw] at due
        exact due
      | none =>
        rw [hw] at due
        intro H1 S1
        have hat1 := hat.same S1
        obtain ⟨d, t1, t2, t3, us, qs, k0, k1, k2, k3, k4, k5⟩ := hat1
        have ul := k2.len
        rw [List.length_map] at ul
        refine ⟨Nat.zero_le _, fun e he => ⟨by show 1 ≤ sizeLine; decide, fun l hl => ?_⟩⟩
        have T1 : Same H1 (upd H1 e (.tup [])) := Same.upd he
        have e1 : (upd H1 e (.tup [])) e = some (.tup []) := upd_same
        generalize upd H1 e (.tup []) = H2 at T1 e1 hl
        have T2 : Same H2 (upd H2 l (.lst [.ref e])) := Same.upd hl
        have e2 : (upd H2 l (.lst [.ref e])) l = some (.lst ([e].map V.ref)) := upd_same
        generalize upd H2 l (.lst [.ref e]) = H3 at T2 e2
        have S13 := T1.trans T2
        have l0 : H l = none := (S1.trans T1).free hl
        have fl := free_len s4 s1
        refine ⟨_, rfl, a, RB, d, _, _, rfl, S13 _ _ k0, TR.cl, TR.nv, rulF_vars _ _ _ _ _, t1, rfl, ⟨_, same_seqT S13 k1⟩, for_tup (K := K) (a := t1) (xs := us.map V.ref) (fun i σ H' => Same H1 H' ∧ ∃ u3 u4 u5 l zs, σ = [some (.ref x), some (.ref a), some (.ref l), u3, u4, u5, none, none] ∧ H l = none ∧ H' l = some (.lst (zs.map V.ref)) ∧ RowsAt K H' zs ((((r.p.vars.take i).map (freeS ss)).foldl stepS [[]]).map rowV)) ⟨S13, _, _, _, l, [e], rfl, l0, e2, ⟨SqT.of (T2 _ _ e1), True.intro⟩⟩ (fun i σ H' _ h => same_seqT h.1 k1) ?_ ?_⟩
        · rintro i v σ H4 hv ⟨S4, u3, u4, u5, l, zs, rfl, l0, hl4, rows4⟩
          obtain ⟨u, hu, rfl⟩ := map_ref_get hv
          have hi : i < us.length := (List.getElem?_eq_some_iff.mp hu).1
          obtain ⟨rw_, hrw, hsq⟩ := k2.get hu
          obtain ⟨vr, hvr, rfl⟩ := var_get hrw
          refine ⟨u, _, rfl, same_seqT S4 hsq, rfl, _, _, rfl, _, _, rfl, rfl, ?_⟩
          dsimp only [gName, List.set_cons_succ, List.set_cons_zero]
          refine cut1 (fun σ' H' => ∃ fl, σ' = [some (.ref x), some (.ref a), some (.ref l), some (.str vr.1), some (sortV vr.2), some (.ref fl), none, none] ∧ Same H4 H' ∧ H' fl = some (.lst ((freeS ss vr).map V.str))) ?_ (fun R' fin => ?_)
          · rintro σ' H5 ⟨fr, rfl, S5, hfr⟩
            have hl5 := S5 _ _ hl4
            have rows5 := rows4.same S5
            have zl := rows5.len
            rw [List.length_map] at zl
            have frl := fl vr
            have hvi : i < r.p.vars.length := by omega
            have tkl : ((r.p.vars.take i).map (freeS ss)).length = i := by
              rw [List.length_map, List.length_take]
              omega
            have cl : (((r.p.vars.take i).map (freeS ss)).foldl stepS [[]]).length ≤ 256 := by
              rw [fold_cart0]
              have q := cart_len (fs := (r.p.vars.take i).map (freeS ss)) fun g hg => by
                obtain ⟨y, _, rfl⟩ := List.mem_map.mp hg
                exact fl y
              rw [tkl] at q
              have q4 : 4 ^ i ≤ 4 ^ 4 := Nat.pow_le_pow_right (by decide) (by omega)
              omega
            have rl : ∀ y ∈ ((r.p.vars.take i).map (freeS ss)).foldl stepS [[]], y.length ≤ 4 := fun y hy => by
              rw [fold_cart0] at hy
              rw [cart_row hy, tkl]
              omega
            have nx : ((r.p.vars.take (i + 1)).map (freeS ss)).foldl stepS [[]] = stepS (((r.p.vars.take i).map (freeS ss)).foldl stepS [[]]) (freeS ss vr) := by
              rw [List.take_add_one, hvr, List.map_append, List.foldl_append]
              rfl
            generalize hrw : ((r.p.vars.take i).map (freeS ss)).foldl stepS [[]] = rws at rows5 zl cl rl nx
            generalize freeS ss vr = fr_ at hfr frl nx
            refine ⟨_, rfl, l, rfl, ⟨_, SqL.of hl5⟩, fun D hD => ?_⟩
            have D0 : H D = none := (S1.trans (S4.trans S5)).free hD
            refine lc2_it walk_list (fun i' H' => Same H5 H' ∧ ∃ ws', H' D = some (.lst (ws'.map V.ref)) ∧ RowsAt K H' ws' ((stepS (rws.take i') fr_).map rowV)) ⟨Same.upd hD, [], upd_same, True.intro⟩ (fun i' H' _ p => SqL.of (p.1 _ _ hl5)) ?_ ?_
            · rintro i' y H6 H7 hi' ⟨S6, ws', hD6, rows6⟩ ⟨rfl, hy⟩
              obtain ⟨z, hz, rfl⟩ := map_ref_get hy
              obtain ⟨rz, hrz, hsz⟩ := rows5.get hz
              rw [List.getElem?_map] at hrz
              obtain ⟨row, hrow, rfl⟩ := Option.map_eq_some_iff.mp hrz
              have hzi : i' < zs.length := (List.getElem?_eq_some_iff.mp hz).1
              refine ⟨rfl, ?_⟩
              refine ⟨_, rfl, fr, rfl, ⟨_, SqL.of (S6 _ _ hfr)⟩, ?_⟩
              refine lc1_it walk_list (fun j H' => Same H5 H' ∧ ∃ ws', H' D = some (.lst (ws'.map V.ref)) ∧ RowsAt K H' ws' ((stepS (rws.take i') fr_ ++ (fr_.take j).map fun e => row ++ [e]).map rowV)) ⟨S6, ws', hD6, by rw [List.take_zero, List.map_nil, List.append_nil]; exact rows6⟩ (fun j H' _ p => SqL.of (p.1 _ _ hfr)) ?_ ?_
              · rintro j y H8 H9 hj ⟨S8, ws8, hD8, rows8⟩ ⟨rfl, hy⟩
                obtain ⟨e, he, rfl⟩ := map_str_get hy
                have rowl := rl row (List.mem_of_getElem? hrow)
                refine ⟨rfl, _, rfl, z, _, rfl, .inl (same_seqT S8 hsz), _, rfl, Nat.le_trans (show _ ≤ 1000 by rw [List.length_append]; show (row.map V.str).length + 1 ≤ 1000; rw [List.length_map]; omega) (by decide), fun tt htt => ?_⟩
                have hDt : (upd H9 tt (.tup (rowV row ++ [.str e]))) D = some (.lst (ws8.map V.ref)) := (upd_ne (ne_of_none hD8 htt)).trans hD8
                have T9 : Same H9 (upd H9 tt (.tup (rowV row ++ [.str e]))) := Same.upd htt
                have et : (upd H9 tt (.tup (rowV row ++ [.str e]))) tt = some (.tup (rowV (row ++ [e]))) := by
                  rw [upd_same]
                  unfold rowV
                  rw [List.map_append]
                  rfl
                generalize upd H9 tt (.tup (rowV row ++ [.str e])) = H10 at hDt T9 et
                have wl := rows8.len
                have sl : (stepS (rws.take i') fr_).length ≤ 1024 := by
                  unfold stepS
                  rw [List.length_flatMap]
                  simp only [List.length_map, List.map_const', List.sum_replicate_nat]
                  have q : (rws.take i').length ≤ 256 := by rw [List.length_take]; omega
                  exact Nat.le_trans (Nat.mul_le_mul q frl) (by decide)
                rw [List.length_map, List.length_append, List.length_map, List.length_take] at wl
                refine ⟨_, hDt, ?_, fun b o h => ?_, ws8 ++ [tt], ?_, ?_⟩
                · rw [List.length_map]
                  exact Nat.lt_of_le_of_lt (show _ ≤ 2000 by omega) (by decide)
                · rw [upd_ne (ne_of_none h hD)]
                  exact T9 _ _ (S8 _ _ h)
                · rw [upd_same, List.map_append]
                  rfl
                · have ee : (stepS (rws.take i') fr_ ++ (fr_.take (j + 1)).map fun e => row ++ [e]).map rowV = (stepS (rws.take i') fr_ ++ (fr_.take j).map fun e => row ++ [e]).map rowV ++ [rowV (row ++ [e])] := by
                    rw [List.take_add_one, he, List.map_append (f := fun e => row ++ [e]), ← List.append_assoc, List.map_append]
                    rfl
                  rw [ee]
                  exact RowsAt.append (rows_put hDt (rows8.same T9)) ⟨sqT_put hDt (SqT.of et), True.intro⟩
              · rintro H8 ⟨S8, ws8, hD8, rows8⟩
                rw [List.length_map, List.take_length] at rows8
                refine ⟨S8, ws8, hD8, ?_⟩
                rw [List.take_add_one, hrow, stepS_app]
                have e : stepS (some row).toList fr_ = fr_.map fun e => row ++ [e] := by
                  unfold stepS
                  simp
                rw [e]
                exact rows8
            · rintro H6 ⟨S6, ws', hD6, rows6⟩
              rw [List.length_map, zl, List.take_length] at rows6
              refine ⟨S4.trans (S5.trans S6), _, _, _, D, ws', rfl, D0, hD6, ?_⟩
              rw [nx]
              exact rows6
          · obtain ⟨dx, q1, q2, q3, q4, q5, h0, h1, h2⟩ := hsc.ex
            rcases vr with ⟨vn, _ | z⟩
            · have S14 := S1.trans S4
              refine ⟨_, rfl, _, rfl, iteT ⟨_, rfl, x, dx, _, rfl, S14 _ _ h0, schF_no (by decide +kernel) (by decide +kernel) (by decide +kernel) (by decide +kernel) (by decide +kernel) _ _ _ _ _, x, ss, ws, rfl, hsc.same S14, fun fr hfr => ?_⟩⟩
              exact fin _ _ ⟨fr, rfl, Same.upd hfr, upd_same⟩
            · refine ⟨_, rfl, _, rfl, iteF ⟨_, rfl, by show 1 ≤ sizeLine; decide, fun fr hfr => ?_⟩⟩
              exact fin _ _ ⟨fr, rfl, Same.upd hfr, upd_same⟩
        · rintro σ H4 ⟨S4, u3, u4, u5, l, zs, rfl, l0, hl4, rows4⟩
          rw [List.length_map, ul, List.take_length, fold_cart0] at rows4
          exact ⟨_, rfl, due H1 S1 l zs H4 l0 (S1.trans S4) hl4 rows4⟩
end
end Wm
namespace Wm
open PySem L2 StX
theorem same_make {H : Hp} {x dx C : Addr} (nx : H x = none) (ndx : H dx = none) : Same H (upd (upd H dx (.own x)) x (.ins C dx [])) := fun b o e => by
  rw [upd_ne (ne_of_none e nx), upd_ne (ne_of_none e ndx)]
  exact e
theorem dueM_all {C : Addr} {zs : List Str} {H0 : Hp} {ok : Hp → Prop} {E : XK} (h : ∀ z ∈ zs, isNm z = true) (k : ∀ H', Same H0 H' → ok H') : DueM C zs H0 ok E := by
  unfold DueM
  have e : zs.find? (fun z => !isNm z) = none := by
    rw [List.find?_eq_none]
    intro z hz
    rw [h z hz]
    decide
  rw [e]
  exact k
theorem rul_new {K : PySem.W.Frag} {C RB : Addr} {H : Hp} {l1 l2 g : Addr} {nm b : Str} {ps qs : List Addr} {vars : List Var} {cs : List Tri} {gt : Tri} {R : Addr → Hp → Prop} {E : XK} (h1 : SqL K H l1 (ps.map V.ref)) (r1 : RowsAt K H ps (vars.map varV)) (h2 : SqL K H l2 (qs.map V.ref)) (r2 : RowsAt K H qs (cs.map triV)) (hg : H g = some (.tup (triV gt)))
    (ok : PatOk vars cs [gt] [b]) (hn : ∀ z ∈ textsL nm vars (cs ++ [gt]), isNm z = true ∧ z.length ≤ 12) (k : ∀ x H', H x = none → Same H H' → RlAt K RB H' x ⟨⟨nm, vars, cs⟩, gt, b⟩ → R x H') :
    ∀ x dx, H x = none → H dx = none → dx ≠ x → spRul K C RB [.ref x, .str nm, .ref l1, .ref l2, .ref g, .str b] (upd (upd H dx (.own x)) x (.ins RB dx [])) (fun v H3 => v = .non ∧ R x H3) E := fun x dx hx hd ne => by
  refine ⟨H, x, dx, l1, l2, g, nm, b, ps, qs, vars, cs, gt, rfl, same_make hx hd, hx, upd_same, h1, r1, h2, r2, hg, ok, fun z hz => Nat.le_trans (hn z hz).2 (by decide), dueM_all (fun z hz => (hn z hz).1) fun H' S' t1 t2 a1 a2 a3 => ⟨rfl, ?_⟩⟩
  exact k x H' hx S' ⟨dx, t1, t2, g, ps, qs, a1, SqT.of a2, r1.same S', SqT.of a3, r2.same S', SqT.of (S' _ _ hg)⟩
def spMdR (K : PySem.W.Frag) (RB : Addr) : Sp := fun vs H Q _ => ∃ (t : Addr) (r : RlD), vs = [.ref t] ∧ MRul K H t r ∧ PatOk r.p.vars r.p.cs [r.g] [r.bh] ∧ (∀ z ∈ textsL r.p.nm r.p.vars (r.p.cs ++ [r.g]), isNm z = true ∧ z.length ≤ 12) ∧ ∀ x H', H x = none → Same H H' → RlAt K RB H' x r → Q (.ref x) H'
theorem filter_one {z : Str} : ∀ {ss : List Str}, ss.Nodup → z ∈ ss → (ss.filter fun e => decide (e = z)) = [z]
  | [], _, h => (List.not_mem_nil h).elim
  | y :: r, nd, h => by
    rw [List.nodup_cons] at nd
    by_cases e : y = z
    · subst e
      have q : (r.filter fun e => decide (e = y)) = [] := by
        rw [List.filter_eq_nil_iff]
        intro x hx
        rw [decide_eq_true_eq]
        intro e
        rw [e] at hx
        exact nd.1 hx
      rw [List.filter_cons, if_pos (decide_eq_true rfl), q]
    · rw [List.filter_cons, if_neg (by rw [decide_eq_false e]; decide)]
      rcases List.mem_cons.mp h with q | q
      · exact absurd q.symm e
      · exact filter_one nd.2 q
def inF (o : Option Str) (e : Str) : Bool := inV (sortV o) [V.non, .str e]
theorem inF_none (e : Str) : inF none e = true := rfl
theorem inF_some (z e : Str) : inF (some z) e = decide (e = z) := by
  have q := inV_strs (z := z) (ns := [e])
  have h : inF (some z) e = inV (.str z) ([e].map V.str) := rfl
  rw [h, q]
  simp [eq_comm]
theorem filt_free {ss : List Str} (nd : ss.Nodup) {v : Var} (h : ∀ z, v.2 = some z → z ∈ ss) : (ss.filter fun e => inF v.2 e) = freeS ss v := by
  obtain ⟨n, o⟩ := v
  cases o with
  | none =>
    unfold freeS
    show ss.filter _ = ss
    rw [List.filter_eq_self]
    intro e he
    exact inF_none e
  | some z =>
    unfold freeS
    show ss.filter (fun e => inF (some z) e) = [z]
    rw [show (fun e => inF (some z) e) = fun e => decide (e = z) from funext fun e => inF_some z e]
    exact filter_one nd (h z rfl)
section
variable {P : Program} {w : World} {K : PySem.W.Frag} {mg : Str → Option Value} {base : Heap}
theorem scMdR : FnScope ["_law_rule"] ["_law_rule"] (defScope sMdR) := ⟨rfl, rfl, rfl, by decide +kernel, rfl, by decide +kernel, by decide +kernel⟩
theorem ok_mdr {f RB fR C : Addr} {fd dR : FuncData} (F : Fun K "_law_made_rule" "_law_made_rule" sMdR f fd) (tl : mg "list" = none) (TR : TxRul K mg RB fR) (bR : Binds K dR ["self", "name", "variables", "conditions", "gives", "by"] []) (GR : FnOk P w K mg base (L2.CX P w) 6 fR dR ["self", "name", "variables", "conditions", "gives", "by"] (spRul K C RB)) : FnOk P w K mg base CX0 8 f fd ["_law_rule"] (spMdR K RB) := by
  refine F.ok scMdR (fun vs H Q E h => ?_) (fun cdv A outer s H vs Q E hr h => ?_)
  · obtain ⟨t, r, rfl, _⟩ := h
    rfl
  · obtain ⟨t, r, rfl, ⟨lv, lc, g, us, qs, q1, q2, q3, q4, q5, q6⟩, pt, hn, k⟩ := h
    have hr7 : Room 7 _ := hr
    refine ⟨_, (pss_one (ps_ret (pe_make TR.m GR hr7 rfl TR.g bR .nil passL (pa_cons (pe_ix ix_tup (pv 0) pe_int (fun _ _ => rfl)) (pa_cons (pe_callTy call_list_of (by rfl) tl (by decide +kernel) (pa_cons (pe_ix ix_tup (pv 0) pe_int (fun _ _ => rfl)) pa_nil)) (pa_cons (pe_callTy call_list_of (by rfl) tl (by decide +kernel) (pa_cons (pe_ix ix_tup (pv 0) pe_int (fun _ _ => rfl)) pa_nil)) (pa_cons (pe_ix ix_tup (pv 0) pe_int (fun _ _ => rfl)) (pa_cons (pe_ix ix_tup (pv 0) pe_int (fun _ _ => rfl)) pa_nil)))))))), ?_⟩
    refine ⟨_, rfl, t, _, 0, _, rfl, rfl, SqT.of q1, atI_nat (j := 0) rfl, _, rfl, t, _, 1, _, rfl, rfl, SqT.of q1, atI_nat (j := 1) rfl, lv, _, rfl, .inl (SqL.of q2), fun lv' hlv => ?_⟩
    have S4 : Same H (upd H lv' (.lst (us.map V.ref))) := Same.upd hlv
    refine ⟨_, rfl, t, _, 2, _, rfl, rfl, SqT.of (S4 _ _ q1), atI_nat (j := 2) rfl, lc, _, rfl, .inl (SqL.of (S4 _ _ q4)), fun lc' hlc => ?_⟩
    have S5 : Same (upd H lv' (.lst (us.map V.ref))) (upd (upd H lv' (.lst (us.map V.ref))) lc' (.lst (qs.map V.ref))) := Same.upd hlc
    have e1 := S5 _ _ (upd_same (H := H) (a := lv') (o := .lst (us.map V.ref)))
    have e2 : (upd (upd H lv' (.lst (us.map V.ref))) lc' (.lst (qs.map V.ref))) lc' = some (.lst (qs.map V.ref)) := upd_same
    have SS := S4.trans S5
    generalize upd (upd H lv' (.lst (us.map V.ref))) lc' (.lst (qs.map V.ref)) = H4 at SS e1 e2
    have t4 := SS _ _ q1
    refine ⟨_, rfl, t, _, 3, _, rfl, rfl, SqT.of t4, atI_nat (j := 3) rfl, _, rfl, t, _, 4, _, rfl, rfl, SqT.of t4, atI_nat (j := 4) rfl, ?_⟩
    refine rul_new (SqL.of e1) (q3.same SS) (SqL.of e2) (q5.same SS) (SS _ _ q6) pt hn fun x H5 nx S6 hat => ?_
    exact k x H5 (SS.free nx) (SS.trans S6) hat
end
end Wm
namespace Wm
open PySem L2 StX
/-- a making as it is drawn, its lists apart from D -/
def MMkN (H : Hp) (D t : Addr) (m : MkD) : Prop := ∃ ld lu, ld ≠ D ∧ lu ≠ D ∧ H t = some (.tup [.str m.mr, .str m.md, .ref ld, .ref lu]) ∧ H ld = some (.lst (m.dn.map V.str)) ∧ H lu = some (.lst (m.up.map V.str))
def MMk (H : Hp) (t : Addr) (m : MkD) : Prop := ∃ ld lu, H t = some (.tup [.str m.mr, .str m.md, .ref ld, .ref lu]) ∧ H ld = some (.lst (m.dn.map V.str)) ∧ H lu = some (.lst (m.up.map V.str))
theorem MMkN.mk {H : Hp} {D t : Addr} {m : MkD} (h : MMkN H D t m) : MMk H t m := by
  obtain ⟨ld, lu, _, _, a⟩ := h
  exact ⟨ld, lu, a⟩
theorem MMk.kp {H H' : Hp} {t : Addr} {m : MkD} (k : Kp H H') (h : MMk H t m) : MMk H' t m := by
  obtain ⟨ld, lu, a, b, c⟩ := h
  exact ⟨ld, lu, k _ _ ns_tup a, k _ _ ns_strs b, k _ _ ns_strs c⟩
theorem MMkN.kp {H H' : Hp} {D t : Addr} {m : MkD} (k : Kp H H') (h : MMkN H D t m) : MMkN H' D t m := by
  obtain ⟨ld, lu, n1, n2, a, b, c⟩ := h
  exact ⟨ld, lu, n1, n2, k _ _ ns_tup a, k _ _ ns_strs b, k _ _ ns_strs c⟩
theorem MMkN.put {H : Hp} {D t : Addr} {m : MkD} {xs : List V} {o : HO} (hD : H D = some (.lst xs)) (h : MMkN H D t m) : MMkN (upd H D o) D t m := by
  obtain ⟨ld, lu, n1, n2, a, b, c⟩ := h
  exact ⟨ld, lu, n1, n2, (upd_ne (ne_of a hD (by intro z; cases z))).trans a, (upd_ne n1).trans b, (upd_ne n2).trans c⟩
structure KmOk (ss ws : List Str) (ms : List MkD) : Prop where
  at_ : ∀ x ∈ ms, ∃ i j : Nat, i < j ∧ ss[i]? = some x.mr ∧ ss[j]? = some x.md
  sb : ∀ x ∈ ms, (∀ z ∈ x.dn, z ∈ ws) ∧ ∀ z ∈ x.up, z ∈ ws
  ln : ∀ x ∈ ms, x.dn.length ≤ ws.length ∧ x.up.length ≤ ws.length
  un : ∀ x ∈ ms, x.dn.Nodup ∧ x.up.Nodup
  nd : (ms.map fun x => (x.mr, x.md)).Nodup
def spMks (K : PySem.W.Frag) : Sp := fun vs H Q _ => ∃ (p ls lw : Addr) (n k : Nat) (ss ws : List Str), vs = [.ref p, .ref ls, .ref lw, .int (n : Int)] ∧ StN k H p ∧ k ≤ 700000 ∧ n ≤ 10 ∧ H ls = some (.lst (ss.map V.str)) ∧ H lw = some (.lst (ws.map V.str)) ∧ 1 ≤ ss.length ∧ ss.length ≤ 10 ∧ ws.length ≤ 10 ∧ ws.Nodup ∧ (∀ z ∈ ss, okS z) ∧
  ∀ l as ms H', KmOk ss ws ms → ms.length ≤ n → H l = none → But p H H' → StN (k + 300) H' p → H' l = some (.lst (as.map V.ref)) → AllAt (MMk H') as ms → Q (.ref l) H'
theorem stA {zs : List Str} {i : Nat} (h : i < zs.length) : (zs.map V.str)[i]? = some (V.str (zs[i]'h)) := by
  rw [List.getElem?_map, List.getElem?_eq_getElem h]
  rfl
theorem mak_new {K : PySem.W.Frag} {C MB : Addr} {H : Hp} {l1 l2 : Addr} {mk md : Str} {ds us : List Str} {R : Addr → Hp → Prop} {E : XK} (h1 : SqL K H l1 (ds.map V.str)) (h2 : SqL K H l2 (us.map V.str)) (n1 : ds.length ≤ 100) (n2 : us.length ≤ 100) (w1 : NoTw (ds.map V.str)) (w2 : NoTw (us.map V.str))
    (hn : ∀ z ∈ mk :: md :: (ds ++ us), isNm z = true ∧ z.length ≤ 12) (k : ∀ x H', H x = none → Same H H' → MkAt K MB H' x ⟨mk, md, ds, us⟩ → R x H') :
    ∀ x dx, H x = none → H dx = none → dx ≠ x → spMak K C MB [.ref x, .str mk, .str md, .ref l1, .ref l2] (upd (upd H dx (.own x)) x (.ins MB dx [])) (fun v H3 => v = .non ∧ R x H3) E := fun x dx hx hd ne => by
  refine ⟨H, x, dx, l1, l2, mk, md, ds, us, rfl, same_make hx hd, hx, upd_same, h1, h2, n1, n2, w1, w2, fun z hz => Nat.le_trans (hn z hz).2 (by decide), dueM_all (fun z hz => (hn z hz).1) fun H' S' t1 t2 a1 a2 a3 => ⟨rfl, ?_⟩⟩
  exact k x H' hx S' ⟨dx, t1, t2, a1, SqT.of a2, SqT.of a3⟩
theorem MkAt.put {K : PySem.W.Frag} {B D : Addr} {H : Hp} {a : Addr} {m : MkD} {xs : List V} {o : HO} (hD : H D = some (.lst xs)) (h : MkAt K B H a m) : MkAt K B (upd H D o) a m := by
  obtain ⟨d, t1, t2, h0, h1, h2⟩ := h
  exact ⟨d, t1, t2, (upd_ne (ne_of h0 hD (by intro z; cases z))).trans h0, sqT_put hD h1, sqT_put hD h2⟩
theorem RlAt.put {K : PySem.W.Frag} {B D : Addr} {H : Hp} {a : Addr} {r : RlD} {xs : List V} {o : HO} (hD : H D = some (.lst xs)) (h : RlAt K B H a r) : RlAt K B (upd H D o) a r := by
  obtain ⟨d, t1, t2, t3, ps, qs, h0, h1, h2, h3, h4, h5⟩ := h
  exact ⟨d, t1, t2, t3, ps, qs, (upd_ne (ne_of h0 hD (by intro z; cases z))).trans h0, sqT_put hD h1, rows_put hD h2, sqT_put hD h3, rows_put hD h4, sqT_put hD h5⟩
structure SkOk (ss ws : List Str) (ms : List MkD) (rs : List RlD) : Prop where
  sch : SchOk ss ws ms rs []
  mt : ∀ x ∈ ms, ∀ z ∈ x.mr :: x.md :: (x.dn ++ x.up), isNm z = true ∧ z.length ≤ 12
  mn : ∀ x ∈ ms, x.dn.Nodup ∧ x.up.Nodup
  rp : ∀ r ∈ rs, PatOk r.p.vars r.p.cs [r.g] [r.bh]
  rt : ∀ r ∈ rs, ∀ z ∈ textsL r.p.nm r.p.vars (r.p.cs ++ [r.g]), isNm z = true ∧ z.length ≤ 12
def spMdS (K : PySem.W.Frag) (S MB RB BB : Addr) : Sp := fun vs H Q _ => ∃ (ls lw lm lr : Addr) (ss ws : List Str) (as bs : List Addr) (ms : List MkD) (rs : List RlD), vs = [.ref ls, .ref lw, .ref lm, .ref lr] ∧ H ls = some (.lst (ss.map V.str)) ∧ H lw = some (.lst (ws.map V.str)) ∧ H lm = some (.lst (as.map V.ref)) ∧ AllAt (MMk H) as ms ∧ H lr = some (.lst (bs.map V.ref)) ∧ AllAt (MRul K H) bs rs ∧ SkOk ss ws ms rs ∧
  ∀ x H' xs ys, H x = none → Same H H' → SchG S H' x ss ws xs ys [] → Parts K MB RB BB H' xs ys [] ms rs [] → Q (.ref x) H'
theorem pr_shaped {a b : Str} (ha : okS a) (hb : okS b) : SeqAt.shaped (prD (a, b)) = true := by
  obtain ⟨h1, h2⟩ := prs_sh (ps := [(a, b)]) fun p hp => by
    rw [List.mem_singleton.mp hp]
    exact ⟨ha, hb⟩
  rw [List.map_singleton] at h1 h2
  simp only [PyData.canLayAll0, Bool.and_true, PyData.depthAll] at h1 h2
  generalize prD (a, b) = X at h1 h2
  simp [SeqAt.shaped, h1]
  omega
theorem prs_shaped {ps : List (Str × Str)} (h : ∀ p ∈ ps, okS p.1 ∧ okS p.2) : SeqAt.shaped (.list (ps.map prD)) = true := by
  obtain ⟨h1, h2⟩ := prs_sh h
  generalize ps.map prD = X at h1 h2
  simp [SeqAt.shaped, PyData.canLay0, PyData.depth, h1]
  omega
section
variable {P : Program} {w : World} {K : PySem.W.Frag} {mg : Str → Option Value} {base : Heap}
theorem scMks : FnScope ["_law_well_here", "_law_sorts", "_law_words", "_law_many", "_law_found", "_law_k", "_law_at", "_law_to", "_law_pair", "_law_down", "_law_up", "_law_one", "_law_word"] ["_law_well_here", "_law_sorts", "_law_words", "_law_many"] (defScope sMks) := ⟨rfl, rfl, rfl, by decide +kernel, rfl, by decide +kernel, by decide +kernel⟩
theorem ok_mks {f fG : Addr} {fd dG : FuncData} (F : Fun K "_law_makings" "_law_makings" sMks f fd) (T : TxB mg) (DG : Dn K mg "_law_draw" sDrw ["_law_well_here", "_law_many"] fG dG) : FnOk P w K mg base CX0 2 f fd ["_law_well_here", "_law_sorts", "_law_words", "_law_many"] (spMks K) := by
  have GG : FnOk P w K mg base CX0 1 fG dG _ spDrw := ok_drw DG.F
  refine F.ok scMks (fun vs H Q E h => ?_) (fun cdv A outer s H vs Q E hr h => ?_)
  · obtain ⟨p, ls, lw, n, k, ss, ws, rfl, _⟩ := h
    rfl
  · obtain ⟨p, ls, lw, n, k, ss, ws, rfl, hS, hk, n10, hls, hlw, s1, s10, w10, wnd, oks, kk⟩ := h
    have hr1 : Room 1 _ := hr
    have hu := hu_of hr
    refine ⟨_, (pss_cons (ps_set (i := 4) scMks.nd rfl (Or.inl rfl) (pe_lst pa_nil))
      (pss_cons (ps_for PassesOwn.never rfl (pi_range1 rfl T.range (pa_cons (pv 3) pa_nil)) (pg_name (i := 5) scMks.nd rfl (Or.inl rfl)) (pss_cons (ps_set (i := 6) scMks.nd rfl (Or.inl rfl) (pe_call GG hr1 rfl DG.g DG.F.kp DG.b .nil pass0 (pa_cons (pv 0) (pa_cons (pe_callB call_len_seq (by rfl) T.len (by decide +kernel) (pa_cons (pv 1) pa_nil)) pa_nil))))
      (pss_cons (ps_set (i := 7) scMks.nd rfl (Or.inl rfl) (pe_call GG hr1 rfl DG.g DG.F.kp DG.b .nil pass0 (pa_cons (pv 0) (pa_cons (pe_callB call_len_seq (by rfl) T.len (by decide +kernel) (pa_cons (pv 1) pa_nil)) pa_nil))))
      (pss_cons (ps_set (i := 8) scMks.nd rfl (Or.inl rfl) (pe_tup (pa_cons (pe_ix ix_list (pv 1) (pv 6) (fun _ _ => rfl)) (pa_cons (pe_ix ix_list (pv 1) (pv 7) (fun _ _ => rfl)) pa_nil))))
      (pss_one (ps_if (PW.pt (pw_and (pt_cmpR op_lt (pv 6) (pv 7) (nomark _)) (pw_and1 (pt_cmpR (op_notInD (u65 hr)) (pv 8) (pe_lc (own := [("_law_one", 11)]) (g := gName 11) (tt := tYes) (te := (tSl (rSlA K) (tVar 11) tNoPart (tPart (tC (.int 2))))) rfl scMks.nd (pi_list (pv 4)) (blkOk_by (N := ["_law_well_here", "_law_sorts", "_law_words", "_law_many", "_law_found", "_law_k", "_law_at", "_law_to", "_law_pair", "_law_down", "_law_up", "_law_one", "_law_word"]) (sc := defScope sMks) (by decide +kernel)) (fun _ _ _ _ _ => (pg_name (i := 11) scMks.nd rfl (Or.inl rfl))) (fun _ _ _ _ _ => pts_nil) (fun _ _ _ _ _ => (pe_slice sl_tupA (pv 11) po_none (po_some pe_int)))) (by rfl))))) (pss_cons (ps_setLc (i := 9) (own := [("_law_word", 12)]) (g := gName 12) (tt := (tTest (tOp rEq (tCall spDrw [] E0 (tCons (tVar 0) (tCons (tC (.int 2)) tNil))) (tC (.int 0))))) (te := (tVar 12)) rfl scMks.nd rfl rfl (sw_true rfl rfl rfl (by decide +kernel)) (pi_list (pv 2)) (blkOk_by (N := ["_law_well_here", "_law_sorts", "_law_words", "_law_many", "_law_found", "_law_k", "_law_at", "_law_to", "_law_pair", "_law_down", "_law_up", "_law_one", "_law_word"]) (sc := defScope sMks) (by decide +kernel)) (fun _ _ _ _ _ => (pg_name (i := 12) scMks.nd rfl (Or.inl rfl))) (fun _ _ _ _ _ => (pts_one (pt_cmpR op_eq (pe_call GG hr1 rfl DG.g DG.F.kp DG.b .nil pass0 (pa_cons (pv 0) (pa_cons pe_int pa_nil))) pe_int (nomark _)))) (fun _ _ _ _ _ => (pv 12)))
      (pss_cons (ps_setLc (i := 10) (own := [("_law_word", 12)]) (g := gName 12) (tt := (tTest (tOp rEq (tCall spDrw [] E0 (tCons (tVar 0) (tCons (tC (.int 3)) tNil))) (tC (.int 0))))) (te := (tVar 12)) rfl scMks.nd rfl rfl (sw_true rfl rfl rfl (by decide +kernel)) (pi_list (pv 2)) (blkOk_by (N := ["_law_well_here", "_law_sorts", "_law_words", "_law_many", "_law_found", "_law_k", "_law_at", "_law_to", "_law_pair", "_law_down", "_law_up", "_law_one", "_law_word"]) (sc := defScope sMks) (by decide +kernel)) (fun _ _ _ _ _ => (pg_name (i := 12) scMks.nd rfl (Or.inl rfl))) (fun _ _ _ _ _ => (pts_one (pt_cmpR op_eq (pe_call GG hr1 rfl DG.g DG.F.kp DG.b .nil pass0 (pa_cons (pv 0) (pa_cons pe_int pa_nil))) pe_int (nomark _)))) (fun _ _ _ _ _ => (pv 12)))
      (pss_one (ps_expr (pe_bm PySem.F.plainAttrs_list PySem.F.slot_list_append PySem.F.type_list_append mt_append (pv 4) (pa_cons (pe_op op_catA (pv 8) (pe_tup (pa_cons (pe_revL (pv 9)) (pa_cons (pv 10) pa_nil)))) pa_nil)))))) pss_nil))))))
      (pss_one (ps_ret (pv 4))))), ?_⟩
    have nsp := st_strs hS hls
    have nwp := st_strs hS hlw
    refine ⟨Nat.zero_le _, fun D hD => ?_⟩
    dsimp only [List.set_cons_succ, List.set_cons_zero]
    have nDp := st_free hS.ok hD
    refine ⟨_, rfl, _, rfl, by omega, by omega, ?_⟩
    refine for_range (n := ((n : Nat) : Int).toNat) (fun i σ H' => ∃ (u5 u6 u7 u8 u9 u10 : Option V) (as : List Addr) (ms : List MkD), σ = [some (.ref p), some (.ref ls), some (.ref lw), some (.int n), some (.ref D), u5, u6, u7, u8, u9, u10, none, none] ∧ But p H H' ∧ StN (k + 30 * i) H' p ∧ H' D = some (.lst (as.map V.ref)) ∧ AllAt (MMkN H' D) as ms ∧ KmOk ss ws ms ∧ ms.length ≤ i)
      ⟨none, none, none, none, none, none, [], [], rfl, but_new (But.refl p H) nDp hD, hS.upd nDp, upd_same, True.intro, ⟨fun x h => absurd h List.not_mem_nil, fun x h => absurd h List.not_mem_nil, fun x h => absurd h List.not_mem_nil, fun x h => absurd h List.not_mem_nil, List.nodup_nil⟩, Nat.le_refl _⟩ ?_ ?_
    · rintro i σ H1 hi ⟨u5, u6, u7, u8, u9, u10, as, ms, rfl, B, S, hl, al, ok, len⟩
      have hls1 := B _ _ nsp hls
      have hlw1 := B _ _ nwp hlw
      dsimp only [gName, List.set_cons_succ, List.set_cons_zero]
      refine ⟨_, rfl, _, rfl, ls, _, rfl, .inl (SqL.of hls1), p, _, k + 30 * i, rfl, S, by omega, by rw [List.length_map]; omega, by rw [List.length_map]; omega, fun d1 H2 a0 a1 B2 S2 => ?_⟩
      rw [List.length_map] at a1
      obtain ⟨i1, rfl⟩ := Int.eq_ofNat_of_zero_le a0
      have hls2 := B2 _ _ nsp hls1
      dsimp only [gName, List.set_cons_succ, List.set_cons_zero]
      refine ⟨_, rfl, _, rfl, ls, _, rfl, .inl (SqL.of hls2), p, _, _, rfl, S2, by omega, by rw [List.length_map]; omega, by rw [List.length_map]; omega, fun d2 H3 b0 b1 B3 S3 => ?_⟩
      rw [List.length_map] at b1
      obtain ⟨i2, rfl⟩ := Int.eq_ofNat_of_zero_le b0
      have hls3 := B3 _ _ nsp hls2
      dsimp only [gName, List.set_cons_succ, List.set_cons_zero]
      have l1 : i1 < ss.length := by omega
      have l2 : i2 < ss.length := by omega
      refine ⟨_, rfl, _, rfl, rdList hls3 (j := i1) rfl (stA l1) ⟨_, rfl, _, rfl, rdList hls3 (j := i2) rfl (stA l2) ⟨by show 2 ≤ sizeLine; decide, fun t ht => ?_⟩⟩⟩
      dsimp only [gName, List.set_cons_succ, List.set_cons_zero]
      have T4 : Same H3 (upd H3 t (.tup [.str ss[i1], .str ss[i2]])) := Same.upd ht
      have e4 : (upd H3 t (.tup [.str ss[i1], .str ss[i2]])) t = some (.tup (prV (ss[i1], ss[i2]))) := upd_same
      generalize upd H3 t (.tup [.str ss[i1], .str ss[i2]]) = H4 at T4 e4
      have S4 := S3.same T4
      have B14 : But p H H4 := fun q o n e => T4 _ _ (((B.trans B2).trans B3) q o n e)
      have K14 : Kp H1 H4 := ((B2.trans B3).kp S.ok).trans (Same.kp T4)
      have hl4 := K14 _ _ ns_refs hl
      have al4 := al.imp fun _ _ q => MMkN.kp K14 q
      have prs : ∀ x ∈ ms.map (fun x => (x.mr, x.md)), okS x.1 ∧ okS x.2 := fun x hx => by
        obtain ⟨m, hm, rfl⟩ := List.mem_map.mp hx
        obtain ⟨a, b, _, h1, h2⟩ := ok.at_ m hm
        exact ⟨oks _ (List.mem_of_getElem? h1), oks _ (List.mem_of_getElem? h2)⟩
      refine ⟨_, rfl, _, rfl, _, _, rfl, rfl, _, rfl, ite2 (fun hlt => ?_) (fun _ => ?_)⟩
      · refine ⟨_, rfl, _, rfl, D, rfl, ⟨_, SqL.of hl4⟩, fun M hM => ?_⟩
        refine lc_list (K := K) (a := D) (xs := as.map V.ref) (fun j H' => Same H4 H' ∧ ∃ qs : List Addr, H' M = some (.lst (qs.map V.ref)) ∧ RowsAt K H' qs (((ms.take j).map fun x => (x.mr, x.md)).map prV)) ⟨Same.upd hM, [], upd_same, True.intro⟩ (fun j H' _ z => SqL.of (z.1 _ _ hl4)) ?_ ?_
        · rintro j v H5 hv ⟨S5, qs, h5, r5⟩
          obtain ⟨a, m, rfl, hm, ld, lu, n1, n2, ea, _, _⟩ := al4.get hv
          have il := (List.getElem?_eq_some_iff.mp hm).1
          refine ⟨rfl, ?_⟩
          refine ⟨_, rfl, _, rfl, a, _, rfl, SqT.of (S5 _ _ ea), fun z => ?_, fun _ q hq => ?_⟩
          · have z2 : HT.sIx 4 4 (some 2) = 4 := z.2
            exact absurd z2 (by decide)
          have hM5 : (upd H5 q (.tup (cutV [.str m.mr, .str m.md, .ref ld, .ref lu] none (some 2)))) M = some (.lst (qs.map V.ref)) := (upd_ne (ne_of_none h5 hq)).trans h5
          have T6 : Same H5 (upd H5 q (.tup (cutV [.str m.mr, .str m.md, .ref ld, .ref lu] none (some 2)))) := Same.upd hq
          have e6 : (upd H5 q (.tup (cutV [.str m.mr, .str m.md, .ref ld, .ref lu] none (some 2)))) q = some (.tup (prV (m.mr, m.md))) := upd_same
          generalize upd H5 q (.tup (cutV [.str m.mr, .str m.md, .ref ld, .ref lu] none (some 2))) = H6 at hM5 T6 e6
          refine ⟨_, hM5, ?_, fun b o e => ?_, qs ++ [q], ?_, ?_⟩
          · have z := r5.len
            rw [List.length_map, List.length_map, List.length_take] at z
            rw [List.length_map]
            exact Nat.lt_of_le_of_lt (show _ ≤ 1000 by omega) (by decide)
          · rw [upd_ne (ne_of_none e hM)]
            exact T6 _ _ (S5 _ _ e)
          · rw [upd_same, List.map_append]
            rfl
          · rw [List.take_add_one, hm, List.map_append, List.map_append]
            exact RowsAt.append (rows_put hM5 (r5.same T6)) ⟨sqT_put hM5 (SqT.of e6), True.intro⟩
        · rintro H5 ⟨S5, qs, h5, r5⟩
          rw [List.length_map, al4.len, List.take_length] at r5
          obtain ⟨q1, q2⟩ := prs_sh prs
          have dpl := prs_dp (K := K) (ps := ms.map fun x : MkD => (x.mr, x.md)) r5
          refine ⟨prD (ss[i1], ss[i2]), (ms.map fun x : MkD => (x.mr, x.md)).map prD, .tup (SqT.of (S5 _ _ e4)) (.cons (.str _) (.cons (.str _) .nil)), .lst (SqL.of h5) dpl, pr_shaped (oks _ (List.getElem_mem l1)) (oks _ (List.getElem_mem l2)), prs_shaped prs, _, rfl, ?_⟩
          have B15 : But p H H5 := fun q o n e => S5 _ _ (B14 q o n e)
          have st5 := S4.same S5
          have hlw5 := B15 _ _ nwp hlw
          have hl5 := S5 _ _ hl4
          have al5 := al4.imp fun _ _ q => MMkN.kp (Same.kp S5) q
          refine ite2 (fun hno => ?_) (fun _ => ?_)
          · have hnot : (ss[i1], ss[i2]) ∉ ms.map fun x : MkD => (x.mr, x.md) := fun hin => by
              have z : (((ms.map fun x : MkD => (x.mr, x.md)).map prD).any fun z => PyData.eqv z (prD (ss[i1], ss[i2]))) = true := by
                rw [List.any_map, List.any_eq_true]
                exact ⟨_, hin, by show PyData.eqv (prD _) (prD _) = true; rw [prD_eqv]; exact decide_eq_true rfl⟩
              rw [z] at hno
              cases hno
            have grow : ∀ {j : Nat} {z : Str} {ds : List Str}, ws[j]? = some z → ds.Sublist (ws.take j) → (ds ++ [z]).Sublist (ws.take (j + 1)) ∧ ds.Sublist (ws.take (j + 1)) := fun {j z ds} hz hd => by
              rw [List.take_add_one, hz]
              exact ⟨hd.append (List.Sublist.refl _), hd.trans (List.sublist_append_left _ _)⟩
            refine ⟨_, rfl, lw, rfl, ⟨_, SqL.of hlw5⟩, fun D1 hD1 => ?_⟩
            have nD1 := st_free st5.ok hD1
            have nDD1 : D ≠ D1 := ne_of_none hl5 hD1
            refine lc_list (K := K) (a := lw) (xs := ws.map V.str) (fun j H' => ∃ ds : List Str, ds.Sublist (ws.take j) ∧ H' D1 = some (.lst (ds.map V.str)) ∧ But p H5 H' ∧ StN (k + 30 * i + 2 + j) H' p) ⟨[], List.Sublist.refl _, upd_same, but_new (But.refl p H5) nD1 hD1, (st5.mono (by omega)).upd nD1⟩ (fun j H' _ ⟨ds, _, _, B, _⟩ => SqL.of (B _ _ nwp hlw5)) ?_ ?_
            · rintro j x H6 hx ⟨ds, sb, hd, B6, S6⟩
              obtain ⟨z, hz, rfl⟩ := map_str_get hx
              have jl := (List.getElem?_eq_some_iff.mp hz).1
              obtain ⟨g1, g2⟩ := grow hz sb
              refine ⟨rfl, _, rfl, p, 2, _, rfl, S6, by omega, by decide, by decide, fun d H7 d0 d1 B7 S7 => ⟨rfl, _, rfl, ?_⟩⟩
              have hd2 := B7 _ _ nD1 hd
              refine ite2 (fun _ => ⟨_, rfl, _, hd2, ?_, ds ++ [z], g1, ?_, but_new (B6.trans B7) nD1 hD1, (S7.upd nD1).mono (by omega)⟩) (fun _ => ⟨ds, g2, hd2, B6.trans B7, S7.mono (by omega)⟩)
              · have q := sb.length_le
                rw [List.length_take] at q
                rw [List.length_map]
                exact Nat.lt_of_le_of_lt (show _ ≤ 1000 by omega) (by decide)
              · rw [upd_same, List.map_append]
                rfl
            rintro H6 ⟨ds, sbd, hd6, B6, S6⟩
            rw [List.length_map, List.take_length] at sbd
            rw [List.length_map] at S6
            dsimp only [gName, List.set_cons_succ, List.set_cons_zero]
            have hlw6 := B6 _ _ nwp hlw5
            refine ⟨_, rfl, lw, rfl, ⟨_, SqL.of hlw6⟩, fun D2 hD2 => ?_⟩
            have nD2 := st_free S6.ok hD2
            have nDD : D1 ≠ D2 := ne_of_none hd6 hD2
            have D20 : H5 D2 = none := B6.free nD2 hD2
            refine lc_list (K := K) (a := lw) (xs := ws.map V.str) (fun j H' => H' D1 = some (.lst (ds.map V.str)) ∧ ∃ us : List Str, us.Sublist (ws.take j) ∧ H' D2 = some (.lst (us.map V.str)) ∧ But p H5 H' ∧ StN (k + 30 * i + 2 + ws.length + j) H' p) ⟨(upd_ne nDD).trans hd6, [], List.Sublist.refl _, upd_same, but_new B6 nD2 D20, (S6.mono (by omega)).upd nD2⟩ (fun j H' _ ⟨_, us, _, _, B, _⟩ => SqL.of (B _ _ nwp hlw5)) ?_ ?_
            · rintro j x H7 hx ⟨hdd, us, sb, hd, B7, S7⟩
              obtain ⟨z, hz, rfl⟩ := map_str_get hx
              have jl := (List.getElem?_eq_some_iff.mp hz).1
              obtain ⟨g1, g2⟩ := grow hz sb
              refine ⟨rfl, _, rfl, p, 3, _, rfl, S7, by omega, by decide, by decide, fun d H8 d0 d1 B8 S8 => ⟨rfl, _, rfl, ?_⟩⟩
              have hd2 := B8 _ _ nD2 hd
              refine ite2 (fun _ => ⟨_, rfl, _, hd2, ?_, (upd_ne nDD).trans (B8 _ _ nD1 hdd), us ++ [z], g1, ?_, but_new (B7.trans B8) nD2 D20, (S8.upd nD2).mono (by omega)⟩) (fun _ => ⟨B8 _ _ nD1 hdd, us, g2, hd2, B7.trans B8, S8.mono (by omega)⟩)
              · have q := sb.length_le
                rw [List.length_take] at q
                rw [List.length_map]
                exact Nat.lt_of_le_of_lt (show _ ≤ 1000 by omega) (by decide)
              · rw [upd_same, List.map_append]
                rfl
            rintro H7 ⟨hd7, us, sbu, hu7, B7, S7⟩
            rw [List.length_map, List.take_length] at sbu
            rw [List.length_map] at S7
            dsimp only [gName, List.set_cons_succ, List.set_cons_zero]
            have hl7 := B7 _ _ nDp hl5
            have al7 := al5.imp fun _ _ q => MMkN.kp (B7.kp st5.ok) q
            have et7 := B7 _ _ (But.ne st5.ok (S5 _ _ e4) ns_tup) (S5 _ _ e4)
            refine ⟨_, rfl, .inl ⟨rfl, _, SqL.of hl7⟩, _, rfl, _, rfl, D1, _, rfl, SqL.of hd7, fun R hR => ⟨_, rfl, by show 2 ≤ sizeLine; decide, fun v hv => ?_⟩⟩
            have T8 := (Same.upd (o := .lst (ds.map V.str).reverse) hR).trans (Same.upd (o := .tup [.ref R, .ref D2]) hv)
            have eR : (upd (upd H7 R (.lst (ds.map V.str).reverse)) v (.tup [.ref R, .ref D2])) R = some (.lst (ds.reverse.map V.str)) := by
              rw [List.map_reverse]
              exact (Same.upd (o := .tup [.ref R, .ref D2]) hv) _ _ upd_same
            have ev : (upd (upd H7 R (.lst (ds.map V.str).reverse)) v (.tup [.ref R, .ref D2])) v = some (.tup [.ref R, .ref D2]) := upd_same
            generalize upd (upd H7 R (.lst (ds.map V.str).reverse)) v (.tup [.ref R, .ref D2]) = H8 at T8 eR ev
            refine ⟨t, v, _, _, rfl, rfl, SqT.of (T8 _ _ et7), SqT.of ev, by show 2 + 2 ≤ sizeLine; decide, fun z => (nomatch z), fun _ z => (nomatch z), fun _ _ u hu => ?_⟩
            have T9 : Same H8 (upd H8 u (.tup (prV (ss[i1], ss[i2]) ++ [.ref R, .ref D2]))) := Same.upd hu
            have eu : (upd H8 u (.tup (prV (ss[i1], ss[i2]) ++ [.ref R, .ref D2]))) u = some (.tup [.str ss[i1], .str ss[i2], .ref R, .ref D2]) := upd_same
            generalize upd H8 u (.tup (prV (ss[i1], ss[i2]) ++ [.ref R, .ref D2])) = H9 at T9 eu
            have T79 := T8.trans T9
            have hl9 := T79 _ _ hl7
            have nRD : R ≠ D := fun z => by
              rw [z, hl7] at hR
              cases hR
            have n2D : D2 ≠ D := fun z => by
              rw [z, B6 _ _ nDp hl5] at hD2
              cases hD2
            have S9 := S7.same T79
            refine ⟨D, _, _, rfl, rfl, hl9, ?_, _, _, _, _, _, _, as ++ [u], ms ++ [⟨ss[i1], ss[i2], ds.reverse, us⟩], rfl, ?_, (S9.upd nDp).mono (by omega), ?_, ?_, ?_, ?_⟩
            · have z := al.len
              rw [List.length_map]
              exact Nat.lt_of_le_of_lt (show _ ≤ 1000 by omega) (by decide)
            · refine but_new ((B15.trans B7).trans fun q o n e => T79 _ _ e) nDp hD
            · rw [upd_same, List.map_append]
              rfl
            · exact AllAt.append (al7.imp fun _ _ q => (q.kp (Same.kp T79)).put hl9) ⟨⟨R, D2, nRD, n2D, (upd_ne (ne_of eu hl9 (by intro z; cases z))).trans eu, (upd_ne nRD).trans (T9 _ _ eR), (upd_ne n2D).trans (T79 _ _ hu7)⟩, True.intro⟩
            · have q1 := sbd.length_le
              have q2 := sbu.length_le
              have nw : ∀ x ∈ ms ++ [(⟨ss[i1], ss[i2], ds.reverse, us⟩ : MkD)], x ∈ ms ∨ x = ⟨ss[i1], ss[i2], ds.reverse, us⟩ := fun x hx => by
                rcases List.mem_append.mp hx with h | h
                · exact .inl h
                · exact .inr (List.mem_singleton.mp h)
              refine ⟨fun x hx => ?_, fun x hx => ?_, fun x hx => ?_, fun x hx => ?_, ?_⟩
              · rcases nw x hx with h | rfl
                · exact ok.at_ x h
                · exact ⟨i1, i2, by simpa using hlt, List.getElem?_eq_getElem l1, List.getElem?_eq_getElem l2⟩
              · rcases nw x hx with h | rfl
                · exact ok.sb x h
                · exact ⟨fun z hz => sbd.subset (List.mem_reverse.mp hz), fun z hz => sbu.subset hz⟩
              · rcases nw x hx with h | rfl
                · exact ok.ln x h
                · exact ⟨by rw [List.length_reverse]; exact q1, q2⟩
              · rcases nw x hx with h | rfl
                · exact ok.un x h
                · exact ⟨List.pairwise_reverse.mpr ((List.Pairwise.sublist sbd wnd).imp fun z => Ne.symm z), List.Pairwise.sublist sbu wnd⟩
              · rw [List.map_append, List.nodup_append]
                refine ⟨ok.nd, by simp, fun a ha b hb e => ?_⟩
                rw [List.map_singleton, List.mem_singleton] at hb
                rw [e, hb] at ha
                exact hnot ha
            · rw [List.length_append, List.length_singleton]
              omega
          · dsimp only [tNext]
            exact ⟨_, _, _, _, _, _, as, ms, rfl, B15, st5.mono (by omega), hl5, al5, ok, by omega⟩
      · dsimp only [tNext]
        exact ⟨_, _, _, _, _, _, as, ms, rfl, B14, S4.mono (by omega), hl4, al4, ok, by omega⟩
    · rintro σ H1 ⟨u5, u6, u7, u8, u9, u10, as, ms, rfl, B, S, hl, al, ok, len⟩
      exact ⟨_, rfl, kk D as ms H1 ok (by omega) hD B (S.mono (by omega)) hl (al.imp fun _ _ q => q.mk)⟩
theorem scMdS : FnScope ["_law_sorts", "_law_words", "_law_makings_here", "_law_rules", "_law_some", "_law_one", "_law_rule"] ["_law_sorts", "_law_words", "_law_makings_here", "_law_rules"] (defScope sMdS) := ⟨rfl, rfl, rfl, by decide +kernel, rfl, by decide +kernel, by decide +kernel⟩
theorem ok_mds {f S MB RB BB C fM fS fD : Addr} {fd dM dS dD : FuncData} (F : Fun K "_law_made_scheme" "_law_made_scheme" sMdS f fd) (tl : mg "list" = none) (TM : TxMak K mg MB fM) (TC : TxSch K mg S fS)
    (bM : Binds K dM ["self", "maker", "made", "down", "up"] []) (GM : FnOk P w K mg base (L2.CX P w) 5 fM dM ["self", "maker", "made", "down", "up"] (spMak K C MB))
    (DMr : Dn K mg "_law_made_rule" sMdR ["_law_rule"] fD dD) (GMr : FnOk P w K mg base CX0 8 fD dD ["_law_rule"] (spMdR K RB))
    (bS : Binds K dS ["self", "sorts", "words", "makings", "rules", "bars"] [.none]) (GS : FnOk P w K mg base CX0 4 fS dS ["self", "sorts", "words", "makings", "rules", "bars"] (spSch K S MB RB BB)) :
    FnOk P w K mg base CX0 9 f fd ["_law_sorts", "_law_words", "_law_makings_here", "_law_rules"] (spMdS K S MB RB BB) := by
  refine F.ok scMdS (fun vs H Q E h => ?_) (fun cdv A outer s H vs Q E hr h => ?_)
  · obtain ⟨ls, lw, lm, lr, ss, ws, as, bs, ms, rs, rfl, _⟩ := h
    rfl
  · obtain ⟨ls, lw, lm, lr, ss, ws, as, bs, ms, rs, rfl, h1, h2, h3, h4, h5, h6, ok, k⟩ := h
    have hr5 : Room 5 _ := hr.mono (by decide)
    have hr6 : Room 6 _ := hr.mono (by decide)
    have hr8 : Room 8 _ := hr
    refine ⟨_, (pss_cons (ps_setLc (i := 4) (own := [("_law_one", 5)]) (g := gName 5) (tt := tYes) (te := tMake MB (spMak K C MB) [] E0 (tCons (tOp (rIxT K) (tVar 5) (tC (.int 0))) (tCons (tOp (rIxT K) (tVar 5) (tC (.int 1))) (tCons (tCB (fun xs H Q => ∃ p ys, xs = [V.ref p] ∧ (SqL K H p ys ∨ SqT K H p ys) ∧ ∀ l, H l = none → Q (.ref l) (upd H l (.lst ys))) (tCons (tOp (rIxT K) (tVar 5) (tC (.int 2))) tNil)) (tCons (tCB (fun xs H Q => ∃ p ys, xs = [V.ref p] ∧ (SqL K H p ys ∨ SqT K H p ys) ∧ ∀ l, H l = none → Q (.ref l) (upd H l (.lst ys))) (tCons (tOp (rIxT K) (tVar 5) (tC (.int 3))) tNil)) tNil))))) rfl scMdS.nd rfl rfl (sw_true rfl rfl rfl (by decide +kernel)) (pi_list (pv 2)) (blkOk_by (N := ["_law_sorts", "_law_words", "_law_makings_here", "_law_rules", "_law_some", "_law_one", "_law_rule"]) (sc := defScope sMdS) (by decide +kernel)) (fun _ _ _ _ _ => (pg_name (i := 5) scMdS.nd rfl (Or.inl rfl))) (fun _ _ _ _ _ => pts_nil) (fun _ _ _ _ _ => (pe_make TM.m GM hr6 rfl TM.g bM .nil passL (pa_cons (pe_ix ix_tup (pv 5) pe_int (fun _ _ => rfl)) (pa_cons (pe_ix ix_tup (pv 5) pe_int (fun _ _ => rfl)) (pa_cons (pe_callTy call_list_of (by rfl) tl (by decide +kernel) (pa_cons (pe_ix ix_tup (pv 5) pe_int (fun _ _ => rfl)) pa_nil)) (pa_cons (pe_callTy call_list_of (by rfl) tl (by decide +kernel) (pa_cons (pe_ix ix_tup (pv 5) pe_int (fun _ _ => rfl)) pa_nil)) pa_nil)))))))
      (pss_one (ps_ret (pe_make (dvs := [.non]) TC.m GS hr5 rfl TC.g bS (.cons rfl .nil) pass0 (pa_cons (pe_callTy call_list_of (by rfl) tl (by decide +kernel) (pa_cons (pv 0) pa_nil)) (pa_cons (pe_callTy call_list_of (by rfl) tl (by decide +kernel) (pa_cons (pv 1) pa_nil)) (pa_cons (pv 4) (pa_cons (pe_lc (own := [("_law_rule", 6)]) (g := gName 6) (tt := tYes) (te := (tCall (spMdR K RB) [] E0 (tCons (tVar 6) tNil))) rfl scMdS.nd (pi_list (pv 3)) (blkOk_by (N := ["_law_sorts", "_law_words", "_law_makings_here", "_law_rules", "_law_some", "_law_one", "_law_rule"]) (sc := defScope sMdS) (by decide +kernel)) (fun _ _ _ _ _ => (pg_name (i := 6) scMdS.nd rfl (Or.inl rfl))) (fun _ _ _ _ _ => pts_nil) (fun _ _ _ _ _ => (pe_call GMr hr8 rfl DMr.g DMr.F.kp DMr.b .nil pass0 (pa_cons (pv 6) pa_nil)))) pa_nil)))))))), ?_⟩
    have S0 : Same H H := Same.refl H
    refine ⟨_, rfl, lm, rfl, ⟨_, SqL.of h3⟩, fun D hD => ?_⟩
    refine lc_list (K := K) (a := lm) (xs := as.map V.ref) (fun i H' => Same H H' ∧ ∃ xs : List Addr, H' D = some (.lst (xs.map V.ref)) ∧ AllAt (MkAt K MB H') xs (ms.take i)) ⟨Same.upd hD, [], upd_same, True.intro⟩ (fun i H' _ h => SqL.of (h.1 _ _ h3)) ?_ ?_
    · rintro i x H1 hx ⟨S1, xs, hD1, al⟩
      obtain ⟨a, mk, rfl, hmk, ld, lu, q1, q2, q3⟩ := h4.get hx
      have hmem : mk ∈ ms := List.mem_of_getElem? hmk
      have t1 := S1 _ _ q1
      refine ⟨rfl, ?_⟩
      refine ⟨_, rfl, a, _, 0, _, rfl, rfl, SqT.of t1, atI_nat (j := 0) rfl, _, rfl, a, _, 1, _, rfl, rfl, SqT.of t1, atI_nat (j := 1) rfl, _, rfl, a, _, 2, _, rfl, rfl, SqT.of t1, atI_nat (j := 2) rfl, ld, _, rfl, .inl (SqL.of (S1 _ _ q2)), fun ld' hld => ?_⟩
      have S2 : Same H1 (upd H1 ld' (.lst (mk.dn.map V.str))) := Same.upd hld
      refine ⟨_, rfl, a, _, 3, _, rfl, rfl, SqT.of (S2 _ _ t1), atI_nat (j := 3) rfl, lu, _, rfl, .inl (SqL.of (S2 _ _ (S1 _ _ q3))), fun lu' hlu => ?_⟩
      have S3 : Same (upd H1 ld' (.lst (mk.dn.map V.str))) (upd (upd H1 ld' (.lst (mk.dn.map V.str))) lu' (.lst (mk.up.map V.str))) := Same.upd hlu
      have e1 := S3 _ _ (upd_same (H := H1) (a := ld') (o := .lst (mk.dn.map V.str)))
      have e2 : (upd (upd H1 ld' (.lst (mk.dn.map V.str))) lu' (.lst (mk.up.map V.str))) lu' = some (.lst (mk.up.map V.str)) := upd_same
      have S23 := S2.trans S3
      generalize upd (upd H1 ld' (.lst (mk.dn.map V.str))) lu' (.lst (mk.up.map V.str)) = H2 at S23 e1 e2
      obtain ⟨sd, su⟩ := ok.mn mk hmem
      obtain ⟨ld9, lu9⟩ := ok.sch.ml mk hmem
      refine mak_new (SqL.of e1) (SqL.of e2) ld9 lu9 (noTw_of sd) (noTw_of su) (ok.mt mk hmem) fun x H3 nx S4 hat => ?_
      have hD3 := S4 _ _ (S23 _ _ hD1)
      refine ⟨_, hD3, ?_, fun b o e => ?_, xs ++ [x], ?_, ?_⟩
      · have q := al.len
        have ln := ok.sch.m9
        rw [List.length_take] at q
        rw [List.length_map]
        exact Nat.lt_of_le_of_lt (show _ ≤ 1000 by omega) (by decide)
      · rw [upd_ne (ne_of_none e hD)]
        exact S4 _ _ (S23 _ _ (S1 _ _ e))
      · rw [upd_same, List.map_append]
        rfl
      · rw [List.take_add_one, hmk]
        exact AllAt.append (al.imp fun _ _ q => ((q.same S23).same S4).put hD3) ⟨hat.put hD3, True.intro⟩
    rintro H1 ⟨S1, xs, hD1, al⟩
    rw [List.length_map, h4.len, List.take_length] at al
    dsimp only [gName, List.set_cons_succ, List.set_cons_zero]
    refine ⟨_, rfl, ls, _, rfl, .inl (SqL.of (S1 _ _ h1)), fun a1 ha1 => ?_⟩
    have S4 : Same H1 (upd H1 a1 (.lst (ss.map V.str))) := Same.upd ha1
    refine ⟨_, rfl, lw, _, rfl, .inl (SqL.of (S4 _ _ (S1 _ _ h2))), fun a2 ha2 => ?_⟩
    have S5 : Same (upd H1 a1 (.lst (ss.map V.str))) (upd (upd H1 a1 (.lst (ss.map V.str))) a2 (.lst (ws.map V.str))) := Same.upd ha2
    have e1 := S5 _ _ (upd_same (H := H1) (a := a1) (o := .lst (ss.map V.str)))
    have e2 : (upd (upd H1 a1 (.lst (ss.map V.str))) a2 (.lst (ws.map V.str))) a2 = some (.lst (ws.map V.str)) := upd_same
    have S45 := S4.trans S5
    generalize upd (upd H1 a1 (.lst (ss.map V.str))) a2 (.lst (ws.map V.str)) = H2 at S45 e1 e2
    have S02 := S1.trans S45
    refine ⟨_, rfl, _, rfl, lr, rfl, ⟨_, SqL.of (S02 _ _ h5)⟩, fun D2 hD2 => ?_⟩
    refine lc_list (K := K) (a := lr) (xs := bs.map V.ref) (fun i H' => Same H2 H' ∧ ∃ ys : List Addr, H' D2 = some (.lst (ys.map V.ref)) ∧ AllAt (RlAt K RB H') ys (rs.take i)) ⟨Same.upd hD2, [], upd_same, True.intro⟩ (fun i H' _ h => SqL.of (h.1 _ _ (S02 _ _ h5))) ?_ ?_
    · rintro i x H3 hx ⟨S3, ys, hD3, ar⟩
      obtain ⟨a, r, rfl, hrl, hm⟩ := h6.get hx
      have hmem : r ∈ rs := List.mem_of_getElem? hrl
      refine ⟨rfl, ?_⟩
      refine ⟨_, rfl, a, r, rfl, hm.kp (Same.kp (S02.trans S3)), ok.rp r hmem, ok.rt r hmem, fun x H5 nx S6 hat => ?_⟩
      have hD5 := S6 _ _ hD3
      refine ⟨_, hD5, ?_, fun b o e => ?_, ys ++ [x], ?_, ?_⟩
      · have q := ar.len
        have r8 := ok.sch.r8
        rw [List.length_take] at q
        rw [List.length_map]
        exact Nat.lt_of_le_of_lt (show _ ≤ 1000 by omega) (by decide)
      · rw [upd_ne (ne_of_none e hD2)]
        exact S6 _ _ (S3 _ _ e)
      · rw [upd_same, List.map_append]
        rfl
      · rw [List.take_add_one, hrl]
        exact AllAt.append (ar.imp fun _ _ q => (q.same S6).put hD5) ⟨hat.put hD5, True.intro⟩
    rintro H3 ⟨S3, ys, hD3, ar⟩
    rw [List.length_map, h6.len, List.take_length] at ar
    refine fun x dx nx ndx ne => ?_
    have S03 := S02.trans S3
    have pt : Parts K MB RB BB H3 xs ys [] ms rs [] := ⟨al.imp fun _ _ q => (q.same S45).same S3, ar, True.intro⟩
    refine ⟨H3, x, dx, a1, a2, .ref D, .ref D2, .non, ss, ws, xs, ys, [], ms, rs, [], rfl, same_make nx ndx, nx, upd_same, SqL.of (S3 _ _ e1), SqL.of (S3 _ _ e2), .inr ⟨D, rfl, SqL.of (S3 _ _ (S45 _ _ hD1))⟩, .inr ⟨D2, rfl, SqL.of hD3⟩, .inl ⟨rfl, rfl⟩, pt, ok.sch, fun H5 S6 hg => ⟨rfl, ?_⟩⟩
    exact k x H5 xs ys (S03.free nx) (S03.trans S6) hg (pt.same S6)
end
end Wm
/-! sorted of triples of texts, as a list and as the keys of a dict -/
namespace Wm
open PySem PySem.Spec PyProof.Rows L2
def triD3 (t : Str × Str × Str) : PyData := .tuple [.str t.1, .str t.2.1, .str t.2.2]
def triV3 (t : Str × Str × Str) : List V := [.str t.1, .str t.2.1, .str t.2.2]
/-- the triples in their order -/
def sortT (ts : List (Str × Str × Str)) : List (Str × Str × Str) := ts.mergeSort (PySem.W.dataLe false triD3)
def TrisAt (K : PySem.W.Frag) (H : Hp) : List Addr → List (Str × Str × Str) → Prop
  | [], [] => True
  | p :: ps, t :: ts => SqT K H p (triV3 t) ∧ TrisAt K H ps ts
  | [], _ :: _ => False
  | _ :: _, [] => False
theorem TrisAt.len {K : PySem.W.Frag} {H : Hp} : ∀ {ps : List Addr} {ts : List (Str × Str × Str)}, TrisAt K H ps ts → ps.length = ts.length
  | [], [], _ => rfl
  | _ :: _, _ :: _, h => by rw [List.length_cons, List.length_cons, TrisAt.len h.2]
  | [], _ :: _, h => h.elim
  | _ :: _, [], h => h.elim
theorem TrisAt.same {K : PySem.W.Frag} {H H' : Hp} (e : ∀ {a : Addr} {xs : List V}, SqT K H a xs → SqT K H' a xs) : ∀ {ps : List Addr} {ts : List (Str × Str × Str)}, TrisAt K H ps ts → TrisAt K H' ps ts
  | [], [], _ => True.intro
  | _ :: _, _ :: _, h => ⟨e h.1, TrisAt.same e h.2⟩
  | [], _ :: _, h => h.elim
  | _ :: _, [], h => h.elim
/-- a value that is a triple -/
def isTri (K : PySem.W.Frag) (H : Hp) (u : Value) (t : Str × Str × Str) : Prop := ∃ p, u = .ref p ∧ SqT K H p (triV3 t)
theorem tris_each {K : PySem.W.Frag} {H : Hp} : ∀ {ps : List Addr} {ts : List (Str × Str × Str)} {us : List Value}, TrisAt K H ps ts → Vals (ps.map V.ref) us → PySem.W.EachIs (isTri K H) us ts
  | [], [], _, _, r => by
    cases r
    exact .nil
  | p :: ps, t :: ts, _, h, r => by
    cases r with
    | cons r1 r2 =>
      cases r1
      exact .cons ⟨p, rfl, h.1⟩ (tris_each h.2 r2)
  | [], _ :: _, _, h, _ => h.elim
  | _ :: _, [], _, h, _ => h.elim
theorem each_tris {K : PySem.W.Frag} {H : Hp} : ∀ {us : List Value} {ts : List (Str × Str × Str)}, PySem.W.EachIs (isTri K H) us ts → ∃ qs : List Addr, TrisAt K H qs ts ∧ Vals (qs.map V.ref) us
  | _, _, .nil => ⟨[], True.intro, .nil⟩
  | _, _, .cons h r => by
    obtain ⟨p, rfl, hp⟩ := h
    obtain ⟨qs, hq, hv⟩ := each_tris r
    exact ⟨p :: qs, ⟨hp, hq⟩, .cons rfl hv⟩
theorem tri_dp {K : PySem.W.Frag} {H : Hp} {p : Addr} {t : Str × Str × Str} (h : SqT K H p (triV3 t)) : Dp K H (.ref p) (triD3 t) := .tup h (.cons (.str _) (.cons (.str _) (.cons (.str _) .nil)))
theorem tri_depth (t : Str × Str × Str) : (triD3 t).depth ≤ 2 := by
  simp [triD3, PyData.depth, PyData.depthAll]
section
variable {X : Cx} {pins : List (Addr × Obj)} {σ : L2.St} {H : Hp} {s : Shared}
theorem tri_reads (I : Inv X pins σ H s) : ∀ {us : List Value} {ts : List (Str × Str × Str)}, PySem.W.EachIs (isTri X.K H) us ts → PySem.W.EachIs (fun v b => ∃ as, Reads s.heap v (triD3 b) as) us ts
  | _, _, .nil => .nil
  | _, _, .cons h r => by
    obtain ⟨p, rfl, hp⟩ := h
    exact .cons (Dp.reads I _ _ _ (tri_dp hp) rfl) (tri_reads I r)
theorem tri_alike (ts : List (Str × Str × Str)) : PySem.W.AllAlike (ts.map triD3) := PySem.W.AllAlike.of fun b b' => by
  simp [triD3, PySem.W.alike, PySem.W.alikeAll]
theorem tri_sortable (ts : List (Str × Str × Str)) : PySem.W.Sortable (ts.map triD3) := PySem.W.Sortable.tuples fun b => ⟨_, _, rfl⟩
theorem sortT_len (ts : List (Str × Str × Str)) : (sortT ts).length = ts.length := List.length_mergeSort _
/-- sorted(xs) -/
def rSortTL (K : PySem.W.Frag) : List V → Hp → VK → Prop := fun vs H Q => ∃ (a : Addr) (ps : List Addr) (ts : List (Str × Str × Str)), vs = [.ref a] ∧ SqL K H a (ps.map V.ref) ∧ TrisAt K H ps ts ∧
  ∀ (qs : List Addr) (p : Addr), TrisAt K H qs (sortT ts) → H p = none → Q (.ref p) (upd H p (.lst (qs.map V.ref)))
theorem cr_sortTL (hu : X.A.units + 64 < cLine) : CallR X (.builtin "sorted") (rSortTL X.K) := by
  intro pins s σ H xs us Q I r h
  obtain ⟨a, ps, ts, rfl, hs, ht, q⟩ := h
  obtain ⟨its, rv, hl, hz⟩ := I.list hs
  obtain ⟨u, rfl, ru⟩ := vals1 r
  obtain rfl : u = Value.ref a := ru
  have he := tris_each ht rv
  have hlen : ts.length ≤ sizeLine := by
    rw [← ht.len]
    rw [List.length_map] at hz
    exact hz
  refine PySem.W.sorted_data (bs := ts) (enc := triD3) (R := isTri X.K H) hl.isList he (tri_reads I he) (tri_alike ts) (tri_sortable ts) hlen (fun b _ => by have := tri_depth b; omega) fun out ho hout => ?_
  obtain ⟨qs, hq, hv⟩ := each_tris hout
  obtain ⟨e, hat⟩ := sortedAll_at s.heap its out.toArray
  have hle : s.heap.objs.size ≤ s.heap.objs.size + 1 := Nat.le_succ _
  refine ⟨.ref (s.heap.objs.size + 1), upd H (s.heap.objs.size + 1) (.lst (qs.map V.ref)), I.laid (t' := s.toks) (fun b o z => sortedAll_old z) hle ⟨?_, out, e, hv, hat⟩, rfl, q qs _ hq (I.hok.fresh hle)⟩
  rw [List.length_map, hq.len, List.length_mergeSort]
  exact hlen
def triK (t : Str × Str × Str) : List L2.Key := [Sum.inr t.1, Sum.inr t.2.1, Sum.inr t.2.2]
/-- sorted(d), d a dict whose keys are triples -/
def rSortTD (K : PySem.W.Frag) : List V → Hp → VK → Prop := fun vs H Q => ∃ (a : Addr) (kvs : List (List L2.Key × V)) (ts : List (Str × Str × Str)), vs = [.ref a] ∧ H a = some (.dT kvs) ∧ kvs.map (·.1) = ts.map triK ∧
  ∀ (qs : List Addr) (p : Addr), TrisAt K H qs (sortT ts) → H p = none → Q (.ref p) (upd H p (.lst (qs.map V.ref)))
theorem keys_tris {K : PySem.W.Frag} {H : Hp} : ∀ {kvs : List (List L2.Key × V)} {bs : List Addr} {ts : List (Str × Str × Str)}, IsKeys H kvs bs → kvs.map (·.1) = ts.map triK → TrisAt K H bs ts
  | [], _, ts, h, e => by
    cases h
    cases ts with
    | nil => exact True.intro
    | cons t r => cases e
  | kv :: kvs, _, ts, h, e => by
    cases h with
    | cons h1 h2 =>
      cases ts with
      | nil => cases e
      | cons t r =>
        have e1 : kv.1 = triK t := (List.cons.inj e).1
        rw [e1] at h1
        exact ⟨SqT.of h1, keys_tris h2 (List.cons.inj e).2⟩
theorem cr_sortTD (hc : X.calm = true) (hu : X.A.units + 64 < cLine) : CallR X (.builtin "sorted") (rSortTD X.K) := by
  intro pins s σ H xs us Q I r h
  obtain ⟨d, kvs, ts, rfl, hd, hk, q⟩ := h
  obtain ⟨u, rfl, ru⟩ := vals1 r
  obtain rfl : u = Value.ref d := ru
  obtain ⟨z, hs, ks, pr, o, es, ep, ho, hx, hdt, he, hn⟩ := (show ObjOk X.prog X.w H s.heap d (.dT kvs) from I.hok d _ hd)
  have l1 : es.size = ks.length := size_of_entries he
  have l2 : kvs.length = ks.length := Paired.length pr
  have l3 : ts.length = kvs.length := by
    have e := congrArg List.length hk
    rw [List.length_map, List.length_map] at e
    exact e.symm
  have hT : TrisAt X.K H (ks.map fun x => x.2.1) ts := keys_tris (isKeys_of pr) hk
  refine Calls.call_function_entry kind_sorted plain_sorted entry_sorted (args_sorted1 _) ?_
  unfold Builtin.«sorted»
  refine wpAny_bind (m := checkCount "sorted" 1 1 _) (wpAny_pure ?_)
  refine wpAny_bind (PySem.W.kdu_collect (A := X.A.in1) (kdl_raw hs hx hdt) (I.ok.hd hc) ho (by omega) fun h' tk acc kp it => ?_)
  have ea : acc.toList = (ks.map fun x => x.2.1).map Value.ref := by
    apply List.ext_getElem?
    intro j
    have hl : acc.toList.length = ks.length := by rw [Array.length_toList, it.1]; exact l1
    rw [List.getElem?_map, List.getElem?_map]
    cases hb : ks[j]? with
    | none =>
      have := List.getElem?_eq_none_iff.mp hb
      rw [List.getElem?_eq_none (by omega)]
      rfl
    | some b =>
      have hj : j < acc.toList.length := by rw [hl]; exact (List.getElem?_eq_some_iff.mp hb).1
      have e1 := List.getElem?_eq_getElem hj
      obtain ⟨en, hen, hv⟩ := it.2 j _ (by rw [← Array.getElem?_toList]; exact e1)
      have qe := entry_at he j
      rw [hen, hb] at qe
      have e2 : en = entryOfKey (tupleKind (mixKind X.prog X.w)) b := Option.some.inj qe
      rw [e1, hv, e2]
      rfl
  have I1 : Inv X pins σ H { s with heap := h', toks := tk } := I.kept (t' := tk) kp
  have rv : Vals ((ks.map fun x => x.2.1).map V.ref) acc.toList := by rw [ea]; exact vals_refs _
  have each := tris_each hT rv
  have alen : acc.toList.length ≤ sizeLine := by
    rw [Array.length_toList, it.1]
    omega
  refine wpAny_bind (wpAny_newList ?_ alen)
  have hoL : (h'.push (seqObj "list" acc.toList.toArray 0)).get? h'.objs.size = some (seqObj "list" acc.toList.toArray 0) := Heap.get?_push_size _ rfl
  show wpAny _ _ _ _ _ { s with heap := h'.push (seqObj "list" acc.toList.toArray 0), toks := tk }
  have er : PySem.W.EachIs (fun v b => ∃ as, Reads (PySem.W.sortingHeap (h'.push (seqObj "list" acc.toList.toArray 0)) h'.objs.size acc.toList) v (triD3 b) as) acc.toList ts :=
    (tri_reads I1 each).mono fun _ _ ⟨as, rr⟩ => ⟨as, Reads.keeps (fun b o zz => PySem.W.sortingHeap_old (Nat.ne_of_lt (Heap.lt_size zz)) (Heap.get?_push_of_some _ zz)) rr⟩
  refine wpAny_bind (wpAny_holding (wpAny_call_entry slot_list_sort ⟨_, hoL, rfl⟩ entry_list_sort
    (PySem.W.list_sort_vals (s := { s with heap := h'.push (seqObj "list" acc.toList.toArray 0), toks := tk }) hoL
      (PySem.W.SortsAt.data (A := X.A.in1.in1) (s := { s with heap := PySem.W.sortingHeap (h'.push (seqObj "list" acc.toList.toArray 0)) h'.objs.size acc.toList, toks := tk }) (PySem.W.each_map (R := fun v d => ∃ as, Reads (PySem.W.sortingHeap (h'.push (seqObj "list" acc.toList.toArray 0)) h'.objs.size acc.toList) v d as) triD3 er) (tri_alike ts) (tri_sortable ts) (PySem.W.bound_map fun b _ => by
        have := tri_depth b
        have e2 : X.A.in1.in1.units ≤ X.A.units + 2 := Nat.le_refl _
        omega)) alen ⟨_, rfl, ?_⟩)
    (args_list_sort _)))
  have hout := PySem.W.sortVals_data (R := isTri X.K H) false each er (tri_alike ts)
  obtain ⟨qs, hq, hv⟩ := each_tris hout
  obtain ⟨e, hat⟩ := sortedHeap_at (vs := acc.toList) (out := (PySem.W.sortVals _ false acc.toList acc.toList).toArray) hoL
  refine wpAny_pure ⟨_, rfl, .ref h'.objs.size, upd H h'.objs.size (.lst (qs.map V.ref)), I1.laid (t' := tk) (fun b o zz => ?_) (Nat.le_refl _) ⟨?_, _, e, hv, hat⟩, rfl, q qs _ hq (I1.hok.fresh (Nat.le_refl _))⟩
  · have lt := Heap.lt_size zz
    have lt2 : b < (h'.push (seqObj "list" acc.toList.toArray 0)).objs.size := Heap.lt_size (Heap.get?_push_of_some _ zz)
    rw [sortedHeap_old (Nat.ne_of_lt lt) lt2]
    exact Heap.get?_push_of_some _ zz
  · rw [List.length_map, hq.len, List.length_mergeSort]
    omega
end
end Wm
/-! del d[t], d.pop(t): keys that are tuples -/
namespace Wm
open PySem PySem.Spec PyProof.Rows L2 L2.DX
section
variable {X : Cx} {pins : List (Addr × Obj)} {σ : L2.St} {H : Hp} {s : Shared} {a b : Addr} {kvs : List (List L2.Key × V)} {k : List L2.Key} {o i e : Expr} {td ty : TE} {tpos pos apos cpos : Pos}
theorem at_of {H : Hp} {kvs : List (List L2.Key × V)} {xs : List (List L2.Key × Addr × Value)} {v : V} (rel : KT H kvs xs) (ev : valV kvs k = some v) : ∃ p, atKey xs k = some p ∧ RelV v p.2 := by
  have r := rel.val k
  rw [ev] at r
  cases h : atKey xs k with
  | none =>
    rw [h] at r
    exact (show False from r).elim
  | some p =>
    rw [h] at r
    exact ⟨p, rfl, r⟩
theorem inv_drop {h' : Heap} {tk : Nat} {xs : List (List L2.Key × Addr × Value)} (I : Inv X pins σ H s) (ha : H a = some (.dT kvs)) (z : kvs.length ≤ sizeLine) (hd : (a == sysModules) = false) (rel : KT H kvs xs)
    (dd : h'.DictOfH (tupleKind (mixKind X.prog X.w)) a (withoutH xs k)) (hs : Heap.SameBut a s.heap h') : Inv X pins σ (upd H a (.dT (dropK kvs k))) { s with heap := h', toks := tk } := by
  obtain ⟨o, es, ep, hq, h2, h3, h4, _, h5⟩ := dd
  exact d_write I (by rw [ha]; exact True.intro) hs ⟨o, hq⟩ ⟨Nat.le_trans (dropK_le kvs k) z, hd, _, (KT_drop k rel).keeps (fun c ys ec => (by rw [upd_ne (ne_of ec ha (fun z => nomatch z))]; exact ec)), o, es, ep, hq, h2, h3, h4, h5⟩
def sDDelT (td ty : TE) : TS := fun D σ H => td σ H fun x H1 => ty σ H1 fun y H2 => ∃ a kvs k b, x = .ref a ∧ y = .ref b ∧ H2 a = some (.dT kvs) ∧ H2 b = some (.tup (k.map kV)) ∧ (valV kvs k).isSome = true ∧ D.nx σ (upd H2 a (.dT (dropK kvs k)))
theorem ps_ddelT (hu : X.A.units + 1 < cLine) (ho : PE X o td) (hi : PE X i ty) : PS X (.Delete [.Subscript o i tpos] pos) (sDDelT td ty) := by
  refine ⟨fun pins s σ H D I h => ?_⟩
  refine wpAny_Delete (wpAny_deleteEach_cons (wpAny_delete_Subscript (thn (ho.run pins s σ H _ I h) fun u s1 ⟨x, H1, I1, rx, q1⟩ => thn (hi.run pins s1 σ H1 _ I1 q1) fun iv s2 ⟨y, H2, I2, ry, a, kvs, k, b, ex, ey, ea, eb, l, q2⟩ => ?_)))
  subst ex ey
  obtain rfl : u = Value.ref a := rx
  obtain rfl : iv = Value.ref b := ry
  obtain ⟨z, hd, xs, rel, dd⟩ := dt_of I2.hok ea
  obtain ⟨v, ev⟩ := Option.isSome_iff_exists.mp l
  obtain ⟨p, hp, _⟩ := at_of rel ev
  exact wpAny_delItem_heap (hsz := by rw [← Paired.length rel]; exact z) (knd := tupleKind (mixKind X.prog X.w)) (tupleKind_room_in1 hu) (key_of I2.hok eb) hd dd hp fun h' hm' hs => wpAny_deleteEach_nil ⟨σ, _, inv_drop I2 ea z hd rel hm' hs, q2⟩
def tDPopT1 (td ty : TE) : TE := fun σ H Q => td σ H fun x H1 => ∃ a, x = .ref a ∧ IsD H1 a ∧ ty σ H1 fun y H2 => ∃ kvs k b v, y = .ref b ∧ H2 a = some (.dT kvs) ∧ H2 b = some (.tup (k.map kV)) ∧ valV kvs k = some v ∧ Q v (upd H2 a (.dT (dropK kvs k)))
theorem pe_dpopT1 (hu : X.A.units + 1 < cLine) (ho : PE X o td) (he : PE X e ty) (m : M1 X o "pop" apos e cpos) : PE X (.Call (.Attribute o "pop" apos) [e] [] cpos) (tDPopT1 td ty) := by
  refine ⟨fun pins s σ H Q I h => ?_⟩
  refine wpAny_Call_method m.base m.few m.line PySem.F.plainAttrs_dict PySem.F.slot_dict_pop PySem.F.type_dict_pop (thn (ho.run pins s σ H _ I h) fun u s1 ⟨x, H1, I1, rx, a, ex, d, q1⟩ => ?_)
  subst ex
  obtain rfl : u = Value.ref a := rx
  obtain ⟨t1, t2, _⟩ := isD_at I1 d
  refine ⟨t1, t2, ?_⟩
  rw [m.trees]
  refine Calls.callWith_builtin rfl (Calls.evalArgs_plain (Calls.spliced_cons (thn (he.run pins s1 σ H1 _ I1 q1) fun iv s2 ⟨y, H2, I2, ry, kvs, k, b, v, ey, ea, eb, ev, q2⟩ => Calls.spliced_nil ?_)))
  subst ey
  obtain rfl : iv = Value.ref b := ry
  obtain ⟨z, hd, xs, rel, dd⟩ := dt_of I2.hok ea
  obtain ⟨p, hp, rp⟩ := at_of rel ev
  exact call_pop_heap (more := []) (hsz := by rw [← Paired.length rel]; exact z) (knd := tupleKind (mixKind X.prog X.w)) (.inl rfl) (PySem.F.args_dict_pop_2 _ _) (tupleKind_room_in1 hu) (key_of I2.hok eb) hd dd hp fun h' hm' hs => ⟨v, _, inv_drop I2 ea z hd rel hm' hs, rp, q2⟩
end
end Wm
namespace Wm
open PySem PyProof.Rows L2
/-- triples that stand as tuples -/
def TupsAt (H : Hp) : List Addr → List (Str × Str × Str) → Prop
  | [], [] => True
  | p :: ps, t :: ts => H p = some (.tup (triV3 t)) ∧ TupsAt H ps ts
  | _, _ => False
theorem tups_len {H : Hp} : ∀ {qs : List Addr} {us : List (Str × Str × Str)}, TupsAt H qs us → qs.length = us.length
  | [], [], _ => rfl
  | _ :: _, _ :: _, h => congrArg (· + 1) (tups_len h.2)
  | [], _ :: _, h => h.elim
  | _ :: _, [], h => h.elim
theorem tups_snoc {H : Hp} {q : Addr} {t : (Str × Str × Str)} : ∀ {qs : List Addr} {ts : List (Str × Str × Str)}, TupsAt H qs ts → H q = some (.tup (triV3 t)) → TupsAt H (qs ++ [q]) (ts ++ [t])
  | [], [], _, h => ⟨h, True.intro⟩
  | _ :: _, _ :: _, h, g => ⟨h.1, tups_snoc h.2 g⟩
  | [], _ :: _, h, _ => h.elim
  | _ :: _, [], h, _ => h.elim
theorem tups_imp {H H' : Hp} (s : ∀ {q : Addr} {xs : List V}, H q = some (.tup xs) → H' q = some (.tup xs)) : ∀ {qs : List Addr} {ts : List (Str × Str × Str)}, TupsAt H qs ts → TupsAt H' qs ts
  | [], [], _ => True.intro
  | _ :: _, _ :: _, h => ⟨s h.1, tups_imp s h.2⟩
  | [], _ :: _, h => h.elim
  | _ :: _, [], h => h.elim
theorem tups_app {H : Hp} : ∀ {qs ps : List Addr} {ts us : List (Str × Str × Str)}, TupsAt H qs ts → TupsAt H ps us → TupsAt H (qs ++ ps) (ts ++ us)
  | [], _, [], _, _, g => g
  | _ :: _, _, _ :: _, _, h, g => ⟨h.1, tups_app h.2 g⟩
  | [], _, _ :: _, _, h, _ => h.elim
  | _ :: _, _, [], _, h, _ => h.elim
theorem tups_at {H : Hp} : ∀ {qs : List Addr} {ts : List (Str × Str × Str)} {i : Nat} {y : V}, TupsAt H qs ts → (qs.map V.ref)[i]? = some y → ∃ q t, y = .ref q ∧ ts[i]? = some t ∧ H q = some (.tup (triV3 t))
  | [], [], _, _, _, h => by simp at h
  | q :: _, t :: _, 0, y, h, e => ⟨q, t, (Option.some.inj e).symm, rfl, h.1⟩
  | _ :: _, _ :: _, i + 1, y, h, e => by
    obtain ⟨q, t, a, b, c⟩ := tups_at (i := i) (y := y) h.2 (by simpa using e)
    exact ⟨q, t, a, by simpa using b, c⟩
  | [], _ :: _, _, _, h, _ => h.elim
  | _ :: _, [], _, _, h, _ => h.elim
theorem tups_tris {K : PySem.W.Frag} {H : Hp} : ∀ {qs : List Addr} {ts : List (Str × Str × Str)}, TupsAt H qs ts → TrisAt K H qs ts
  | [], [], _ => True.intro
  | _ :: _, _ :: _, h => ⟨SqT.of h.1, tups_tris h.2⟩
  | [], _ :: _, h => h.elim
  | _ :: _, [], h => h.elim
theorem tup_put {H : Hp} {D q : Addr} {o : HO} {xs ys : List V} (hD : H D = some (.lst xs)) (h : H q = some (.tup ys)) : upd H D o q = some (.tup ys) := (upd_ne (ne_of h hD (by intro z; cases z))).trans h

/-! ### sorted(d) again: the keys are tuples -/
def isTup3 (H : Hp) (u : Value) (t : Str × Str × Str) : Prop := ∃ p, u = .ref p ∧ H p = some (.tup (triV3 t))
theorem tups_each {H : Hp} : ∀ {ps : List Addr} {ts : List (Str × Str × Str)} {us : List Value}, TupsAt H ps ts → Vals (ps.map V.ref) us → PySem.W.EachIs (isTup3 H) us ts
  | [], [], _, _, r => by
    cases r
    exact .nil
  | p :: ps, t :: ts, _, h, r => by
    cases r with
    | cons r1 r2 =>
      cases r1
      exact .cons ⟨p, rfl, h.1⟩ (tups_each h.2 r2)
  | [], _ :: _, _, h, _ => h.elim
  | _ :: _, [], _, h, _ => h.elim
theorem each_tups {H : Hp} : ∀ {us : List Value} {ts : List (Str × Str × Str)}, PySem.W.EachIs (isTup3 H) us ts → ∃ qs : List Addr, TupsAt H qs ts ∧ Vals (qs.map V.ref) us
  | _, _, .nil => ⟨[], True.intro, .nil⟩
  | _, _, .cons h r => by
    obtain ⟨p, rfl, hp⟩ := h
    obtain ⟨qs, hq, hv⟩ := each_tups r
    exact ⟨p :: qs, ⟨hp, hq⟩, .cons rfl hv⟩
theorem keys_tups {H : Hp} : ∀ {kvs : List (List L2.Key × V)} {bs : List Addr} {ts : List (Str × Str × Str)}, IsKeys H kvs bs → kvs.map (·.1) = ts.map triK → TupsAt H bs ts
  | [], _, ts, h, e => by
    cases h
    cases ts with
    | nil => exact True.intro
    | cons t r => cases e
  | kv :: kvs, _, ts, h, e => by
    cases h with
    | cons h1 h2 =>
      cases ts with
      | nil => cases e
      | cons t r =>
        have e1 : kv.1 = triK t := (List.cons.inj e).1
        rw [e1] at h1
        exact ⟨h1, keys_tups h2 (List.cons.inj e).2⟩
def rSortTU : List V → Hp → VK → Prop := fun vs H Q => ∃ (a : Addr) (kvs : List (List L2.Key × V)) (ts : List (Str × Str × Str)), vs = [.ref a] ∧ H a = some (.dT kvs) ∧ kvs.map (·.1) = ts.map triK ∧
  ∀ (qs : List Addr) (p : Addr), TupsAt H qs (sortT ts) → H p = none → Q (.ref p) (upd H p (.lst (qs.map V.ref)))
section
variable {X : Cx}
theorem cr_sortTU (hc : X.calm = true) (hu : X.A.units + 64 < cLine) : CallR X (.builtin "sorted") rSortTU := by
  intro pins s σ H xs us Q I r h
  obtain ⟨d, kvs, ts, rfl, hd, hk, q⟩ := h
  obtain ⟨u, rfl, ru⟩ := vals1 r
  obtain rfl : u = Value.ref d := ru
  obtain ⟨z, hs, ks, pr, o, es, ep, ho, hx, hdt, he, hn⟩ := (show ObjOk X.prog X.w H s.heap d (.dT kvs) from I.hok d _ hd)
  have l1 : es.size = ks.length := size_of_entries he
  have l2 : kvs.length = ks.length := Paired.length pr
  have l3 : ts.length = kvs.length := by
    have e := congrArg List.length hk
    rw [List.length_map, List.length_map] at e
    exact e.symm
  have hT : TupsAt H (ks.map fun x => x.2.1) ts := keys_tups (isKeys_of pr) hk
  refine Calls.call_function_entry kind_sorted plain_sorted entry_sorted (args_sorted1 _) ?_
  unfold Builtin.«sorted»
  refine wpAny_bind (m := checkCount "sorted" 1 1 _) (wpAny_pure ?_)
  refine wpAny_bind (PySem.W.kdu_collect (A := X.A.in1) (kdl_raw hs hx hdt) (I.ok.hd hc) ho (by omega) fun h' tk acc kp it => ?_)
  have ea : acc.toList = (ks.map fun x => x.2.1).map Value.ref := by
    apply List.ext_getElem?
    intro j
    have hl : acc.toList.length = ks.length := by rw [Array.length_toList, it.1]; exact l1
    rw [List.getElem?_map, List.getElem?_map]
    cases hb : ks[j]? with
    | none =>
      have := List.getElem?_eq_none_iff.mp hb
      rw [List.getElem?_eq_none (by omega)]
      rfl
    | some b =>
      have hj : j < acc.toList.length := by rw [hl]; exact (List.getElem?_eq_some_iff.mp hb).1
      have e1 := List.getElem?_eq_getElem hj
      obtain ⟨en, hen, hv⟩ := it.2 j _ (by rw [← Array.getElem?_toList]; exact e1)
      have qe := entry_at he j
      rw [hen, hb] at qe
      have e2 : en = entryOfKey (tupleKind (mixKind X.prog X.w)) b := Option.some.inj qe
      rw [e1, hv, e2]
      rfl
  have I1 : Inv X pins σ H { s with heap := h', toks := tk } := I.kept (t' := tk) kp
  have rv : Vals ((ks.map fun x => x.2.1).map V.ref) acc.toList := by rw [ea]; exact vals_refs _
  have each := tups_each hT rv
  have alen : acc.toList.length ≤ sizeLine := by
    rw [Array.length_toList, it.1]
    omega
  refine wpAny_bind (wpAny_newList ?_ alen)
  have hoL : (h'.push (seqObj "list" acc.toList.toArray 0)).get? h'.objs.size = some (seqObj "list" acc.toList.toArray 0) := Heap.get?_push_size _ rfl
  show wpAny _ _ _ _ _ { s with heap := h'.push (seqObj "list" acc.toList.toArray 0), toks := tk }
  have er : PySem.W.EachIs (fun v b => ∃ as, Reads (PySem.W.sortingHeap (h'.push (seqObj "list" acc.toList.toArray 0)) h'.objs.size acc.toList) v (triD3 b) as) acc.toList ts :=
    (tri_reads I1 (each.mono fun _ _ ⟨p, e, h⟩ => ⟨p, e, SqT.of h⟩)).mono fun _ _ ⟨as, rr⟩ => ⟨as, Reads.keeps (fun b o zz => PySem.W.sortingHeap_old (Nat.ne_of_lt (Heap.lt_size zz)) (Heap.get?_push_of_some _ zz)) rr⟩
  refine wpAny_bind (wpAny_holding (wpAny_call_entry slot_list_sort ⟨_, hoL, rfl⟩ entry_list_sort
    (PySem.W.list_sort_vals (s := { s with heap := h'.push (seqObj "list" acc.toList.toArray 0), toks := tk }) hoL
      (PySem.W.SortsAt.data (A := X.A.in1.in1) (s := { s with heap := PySem.W.sortingHeap (h'.push (seqObj "list" acc.toList.toArray 0)) h'.objs.size acc.toList, toks := tk }) (PySem.W.each_map (R := fun v d => ∃ as, Reads (PySem.W.sortingHeap (h'.push (seqObj "list" acc.toList.toArray 0)) h'.objs.size acc.toList) v d as) triD3 er) (tri_alike ts) (tri_sortable ts) (PySem.W.bound_map fun b _ => by
        have := tri_depth b
        have e2 : X.A.in1.in1.units ≤ X.A.units + 2 := Nat.le_refl _
        omega)) alen ⟨_, rfl, ?_⟩)
    (args_list_sort _)))
  have hout := PySem.W.sortVals_data (R := isTup3 H) false each er (tri_alike ts)
  obtain ⟨qs, hq, hv⟩ := each_tups hout
  obtain ⟨e, hat⟩ := sortedHeap_at (vs := acc.toList) (out := (PySem.W.sortVals _ false acc.toList acc.toList).toArray) hoL
  refine wpAny_pure ⟨_, rfl, .ref h'.objs.size, upd H h'.objs.size (.lst (qs.map V.ref)), I1.laid (t' := tk) (fun b o zz => ?_) (Nat.le_refl _) ⟨?_, _, e, hv, hat⟩, rfl, q qs _ hq (I1.hok.fresh (Nat.le_refl _))⟩
  · have lt := Heap.lt_size zz
    have lt2 : b < (h'.push (seqObj "list" acc.toList.toArray 0)).objs.size := Heap.lt_size (Heap.get?_push_of_some _ zz)
    rw [sortedHeap_old (Nat.ne_of_lt lt) lt2]
    exact Heap.get?_push_of_some _ zz
  · rw [List.length_map, tups_len hq, List.length_mergeSort]
    omega
end
end Wm
namespace Wm
open PySem L2 StX
abbrev Thing := Str × Str × Bool
abbrev T3 := Str × Str × Str
def k1 (th : List Thing) : List (L2.Key × V) := th.map fun t => (Sum.inr t.1, .str t.2.1)
def k2 (th : List Thing) : List (L2.Key × V) := th.map fun t => (Sum.inr t.1, .bl t.2.2)
def k3 (ts : List T3) : List (List L2.Key × V) := ts.map fun t => (triK t, .bl true)
def nmL (th : List Thing) : List Str := th.map (·.1)
theorem val_is {κ : Type} [DecidableEq κ] (kvs : List (κ × V)) (k : κ) : (valV kvs k).isSome = decide (k ∈ kvs.map (·.1)) := by
  unfold valV
  rw [Option.isSome_map]
  by_cases h : k ∈ kvs.map (·.1)
  · rw [decide_eq_true h, List.find?_isSome]
    obtain ⟨x, hx, e⟩ := List.mem_map.mp h
    exact ⟨x, hx, decide_eq_true e⟩
  · rw [decide_eq_false h]
    cases e : kvs.find? (fun kv => decide (kv.1 = k)) with
    | none => rfl
    | some x =>
      have q := List.find?_some e
      exact (h (List.mem_map.mpr ⟨x, List.mem_of_find?_eq_some e, of_decide_eq_true q⟩)).elim
theorem keys1 (th : List Thing) : (k1 th).map (·.1) = (nmL th).map Sum.inr := by
  unfold k1 nmL
  rw [List.map_map, List.map_map]
  rfl
theorem keys2 (th : List Thing) : (k2 th).map (·.1) = (nmL th).map Sum.inr := by
  unfold k2 nmL
  rw [List.map_map, List.map_map]
  rfl
theorem inr_mem {n : Str} {l : List Str} : (Sum.inr n : L2.Key) ∈ l.map Sum.inr ↔ n ∈ l := by
  rw [List.mem_map]
  exact ⟨fun ⟨x, hx, e⟩ => by cases e; exact hx, fun h => ⟨n, h, rfl⟩⟩
theorem is1 (th : List Thing) (n : Str) : (valV (k1 th) (Sum.inr n)).isSome = decide (n ∈ nmL th) := by
  rw [val_is, keys1]
  exact decide_eq_decide.mpr inr_mem
theorem is2 (th : List Thing) (n : Str) : (valV (k2 th) (Sum.inr n)).isSome = decide (n ∈ nmL th) := by
  rw [val_is, keys2]
  exact decide_eq_decide.mpr inr_mem
theorem put_new {κ : Type} [DecidableEq κ] {kvs : List (κ × V)} {k : κ} {v : V} (h : k ∉ kvs.map (·.1)) : putK kvs k v = kvs ++ [(k, v)] := by
  unfold putK
  rw [if_neg]
  intro e
  obtain ⟨x, hx, q⟩ := List.any_eq_true.mp e
  exact h (List.mem_map.mpr ⟨x, hx, of_decide_eq_true q⟩)
theorem put_old {κ : Type} [DecidableEq κ] {kvs : List (κ × V)} {k : κ} {v : V} (h : k ∈ kvs.map (·.1)) : putK kvs k v = kvs.map (fun kv => if kv.1 = k then (kv.1, v) else kv) := by
  unfold putK
  rw [if_pos]
  obtain ⟨x, hx, e⟩ := List.mem_map.mp h
  exact List.any_eq_true.mpr ⟨x, hx, decide_eq_true e⟩
def setA (th : List Thing) (n : Str) (b : Bool) : List Thing := th.map fun t => if t.1 = n then (t.1, t.2.1, b) else t
theorem setA_nm (th : List Thing) (n : Str) (b : Bool) : nmL (setA th n b) = nmL th := by
  unfold nmL setA
  rw [List.map_map]
  refine List.map_congr_left fun t _ => ?_
  show (if t.1 = n then (t.1, t.2.1, b) else t).1 = t.1
  split <;> rfl
theorem setA_k1 (th : List Thing) (n : Str) (b : Bool) : k1 (setA th n b) = k1 th := by
  unfold k1 setA
  rw [List.map_map]
  refine List.map_congr_left fun t _ => ?_
  show (Sum.inr (if t.1 = n then (t.1, t.2.1, b) else t).1, V.str (if t.1 = n then (t.1, t.2.1, b) else t).2.1) = _
  split <;> rfl
theorem setA_put {th : List Thing} {n : Str} (b : Bool) (h : n ∈ nmL th) : putK (k2 th) (Sum.inr n) (.bl b) = k2 (setA th n b) := by
  rw [put_old (by rw [keys2]; exact inr_mem.mpr h)]
  unfold k2 setA
  rw [List.map_map, List.map_map]
  refine List.map_congr_left fun t _ => ?_
  show (if (Sum.inr t.1 : L2.Key) = Sum.inr n then (Sum.inr t.1, V.bl b) else (Sum.inr t.1, V.bl t.2.2)) = (Sum.inr (if t.1 = n then (t.1, t.2.1, b) else t).1, V.bl (if t.1 = n then (t.1, t.2.1, b) else t).2.2)
  by_cases e : t.1 = n
  · rw [if_pos e, if_pos (by rw [e])]
  · rw [if_neg e, if_neg (fun z => e (Sum.inr.inj z))]
theorem new1 {th : List Thing} {n s : Str} {b : Bool} (h : n ∉ nmL th) : putK (k1 th) (Sum.inr n) (.str s) = k1 (th ++ [(n, s, b)]) := by
  rw [put_new (by rw [keys1]; exact fun z => h (inr_mem.mp z))]
  unfold k1
  rw [List.map_append]
  rfl
theorem new2 {th : List Thing} {n s : Str} {b : Bool} (h : n ∉ nmL th) : putK (k2 th) (Sum.inr n) (.bl b) = k2 (th ++ [(n, s, b)]) := by
  rw [put_new (by rw [keys2]; exact fun z => h (inr_mem.mp z))]
  unfold k2
  rw [List.map_append]
  rfl
theorem triK_inj {t u : T3} (h : triK t = triK u) : t = u := by
  obtain ⟨a, b, c⟩ := t
  obtain ⟨d, e, f⟩ := u
  simp only [triK, List.cons.injEq, Sum.inr.injEq, and_true] at h
  obtain ⟨rfl, rfl, rfl⟩ := h
  rfl
def addT (ts : List T3) (t : T3) : List T3 := if t ∈ ts then ts else ts ++ [t]
theorem keys3 (ts : List T3) : (k3 ts).map (·.1) = ts.map triK := by
  unfold k3
  rw [List.map_map]
  rfl
theorem triK_mem {t : T3} {ts : List T3} : triK t ∈ ts.map triK ↔ t ∈ ts := by
  rw [List.mem_map]
  exact ⟨fun ⟨x, hx, e⟩ => by rw [← triK_inj e]; exact hx, fun h => ⟨t, h, rfl⟩⟩
theorem put3 (ts : List T3) (t : T3) : putK (k3 ts) (triK t) (.bl true) = k3 (addT ts t) := by
  unfold addT
  by_cases h : t ∈ ts
  · rw [if_pos h, put_old (by rw [keys3]; exact triK_mem.mpr h)]
    unfold k3
    rw [List.map_map]
    refine List.map_congr_left fun u _ => ?_
    show (if triK u = triK t then (triK u, V.bl true) else (triK u, V.bl true)) = _
    split <;> rfl
  · rw [if_neg h, put_new (by rw [keys3]; exact fun z => h (triK_mem.mp z))]
    unfold k3
    rw [List.map_append]
    rfl
def hsF (sc d1 d2 d3 : Addr) : List (Str × V) := putF "standing" (.ref d3) (putF "awake_by_name" (.ref d2) (putF "sort_by_name" (.ref d1) (putF "own_scheme" (.ref sc) [])))
theorem hsF_sc (sc d1 d2 d3 : Addr) : (hsF sc d1 d2 d3).lookup ("own_scheme" : Str) = some (.ref sc) := by
  unfold hsF
  rw [lookN (by decide +kernel), lookN (by decide +kernel), lookN (by decide +kernel), lookF]
theorem hsF_1 (sc d1 d2 d3 : Addr) : (hsF sc d1 d2 d3).lookup ("sort_by_name" : Str) = some (.ref d1) := by
  unfold hsF
  rw [lookN (by decide +kernel), lookN (by decide +kernel), lookF]
theorem hsF_2 (sc d1 d2 d3 : Addr) : (hsF sc d1 d2 d3).lookup ("awake_by_name" : Str) = some (.ref d2) := by
  unfold hsF
  rw [lookN (by decide +kernel), lookF]
theorem hsF_3 (sc d1 d2 d3 : Addr) : (hsF sc d1 d2 d3).lookup ("standing" : Str) = some (.ref d3) := by
  unfold hsF
  rw [lookF]
theorem hsF_no {f : Str} (h1 : ¬ f = "standing") (h2 : ¬ f = "awake_by_name") (h3 : ¬ f = "sort_by_name") (h4 : ¬ f = "own_scheme") (sc d1 d2 d3 : Addr) : (hsF sc d1 d2 d3).lookup f = none := by
  unfold hsF
  rw [lookN h1, lookN h2, lookN h3, lookN h4]
  rfl
structure TxH (K : PySem.W.Frag) (mg : Str → Option Value) (HC fH : Addr) : Prop where
  cl : Cls K HC
  n0 : NoAttr K HC "own_scheme"
  n1 : NoAttr K HC "sort_by_name"
  n2 : NoAttr K HC "awake_by_name"
  n3 : NoAttr K HC "standing"
  g : mg "House" = some (.ref HC)
  m : Mk K HC fH
structure HsAt (HC S : Addr) (H : Hp) (x dx sc d1 d2 d3 : Addr) (ss ws : List Str) (th : List Thing) (ts : List T3) : Prop where
  hx : H x = some (.ins HC dx (hsF sc d1 d2 d3))
  hs : SchAt S H sc ss ws
  h1 : H d1 = some (.dK (k1 th))
  h2 : H d2 = some (.dK (k2 th))
  h3 : H d3 = some (.dT (k3 ts))
  ne : d1 ≠ d2
theorem SchAt.but {S x d : Addr} {H H' : Hp} {ss ws : List Str} {o : HO} (s : But d H H') (hd : H d = some o) (n1 : ∀ C dx fs, o ≠ .ins C dx fs) (n2 : ∀ xs, o ≠ .lst xs) (h : SchAt S H x ss ws) : SchAt S H' x ss ws := by
  obtain ⟨dx, l1, l2, l3, l4, l5, a, b, c⟩ := h.ex
  exact ⟨dx, l1, l2, l3, l4, l5, s _ _ (ne_of a hd (n1 _ _ _).symm) a, s _ _ (ne_of b hd (n2 _).symm) b, s _ _ (ne_of c hd (n2 _).symm) c⟩
theorem HsAt.same {HC S x dx sc d1 d2 d3 : Addr} {H H' : Hp} {ss ws : List Str} {th : List Thing} {ts : List T3} (s : Same H H') (h : HsAt HC S H x dx sc d1 d2 d3 ss ws th ts) : HsAt HC S H' x dx sc d1 d2 d3 ss ws th ts :=
  ⟨s _ _ h.hx, h.hs.same s, s _ _ h.h1, s _ _ h.h2, s _ _ h.h3, h.ne⟩
/-- behind a change of a list that is none of the house's -/
theorem HsAt.but {HC S x dx sc d1 d2 d3 p : Addr} {H H' : Hp} {ss ws : List Str} {th : List Thing} {ts : List T3} (s : But p H H') (st : StOk H p) (hp : ∀ l1 l2 : Addr, H l1 = some (.lst (ss.map V.str)) → H l2 = some (.lst (ws.map V.str)) → l1 ≠ p ∧ l2 ≠ p) (h : HsAt HC S H x dx sc d1 d2 d3 ss ws th ts) : HsAt HC S H' x dx sc d1 d2 d3 ss ws th ts := by
  obtain ⟨a, b, c, e, _⟩ := st
  obtain ⟨dy, l1, l2, l3, l4, l5, q1, q2, q3⟩ := h.hs.ex
  have z := hp l1 l2 q2 q3
  exact ⟨s _ _ (ne_of h.hx e (by intro z; cases z)) h.hx, ⟨dy, l1, l2, l3, l4, l5, s _ _ (ne_of q1 e (by intro z; cases z)) q1, s _ _ z.1 q2, s _ _ z.2 q3⟩, s _ _ (ne_of h.h1 e (by intro z; cases z)) h.h1, s _ _ (ne_of h.h2 e (by intro z; cases z)) h.h2, s _ _ (ne_of h.h3 e (by intro z; cases z)) h.h3, h.ne⟩
def spHin (HC : Addr) : Sp := fun vs H Q _ => ∃ (H0 : Hp) (x dx sc : Addr), vs = [.ref x, .ref sc] ∧ Same H0 H ∧ H0 x = none ∧ H x = some (.ins HC dx []) ∧
  ∀ d1 d2 d3 H', H0 d1 = none → H0 d2 = none → H0 d3 = none → d1 ≠ d2 → Same H0 H' → H' x = some (.ins HC dx (hsF sc d1 d2 d3)) → H' d1 = some (.dK []) → H' d2 = some (.dK []) → H' d3 = some (.dT []) → Q .non H'
def remT (ts : List T3) (t : T3) : List T3 := ts.filter fun u => decide (u ≠ t)
theorem drop3 (ts : List T3) (t : T3) : dropK (k3 ts) (triK t) = k3 (remT ts t) := by
  unfold dropK k3 remT
  rw [List.filter_map]
  congr 1
  refine List.filter_congr fun u _ => ?_
  show decide (triK u ≠ triK t) = decide (u ≠ t)
  exact decide_eq_decide.mpr ⟨fun z e => z (by rw [e]), fun z e => z (triK_inj e)⟩
theorem is3 (ts : List T3) (t : T3) : (valV (k3 ts) (triK t)).isSome = decide (t ∈ ts) := by
  rw [val_is, keys3]
  exact decide_eq_decide.mpr triK_mem
/-- behind a change of what stands -/
theorem HsAt.put3 {HC S x dx sc d1 d2 d3 : Addr} {H : Hp} {ss ws : List Str} {th : List Thing} {ts us : List T3} (h2 : HsAt HC S H x dx sc d1 d2 d3 ss ws th ts) : HsAt HC S (upd H d3 (.dT (k3 us))) x dx sc d1 d2 d3 ss ws th us := by
  refine ⟨?_, h2.hs.but But.upd h2.h3 (fun _ _ _ z => by cases z) (fun _ z => by cases z), ?_, ?_, upd_same, h2.ne⟩
  · rw [upd_ne (ne_of h2.hx h2.h3 (by intro z; cases z))]
    exact h2.hx
  · rw [upd_ne (ne_of h2.h1 h2.h3 (by intro z; cases z))]
    exact h2.h1
  · rw [upd_ne (ne_of h2.h2 h2.h3 (by intro z; cases z))]
    exact h2.h2
def spHen (HC S : Addr) : Sp := fun vs H Q _ => ∃ (x dx sc d1 d2 d3 : Addr) (n so : Str) (b : Bool) (ss ws : List Str) (th : List Thing) (ts : List T3), vs = [.ref x, .str n, .str so, .bl b] ∧ HsAt HC S H x dx sc d1 d2 d3 ss ws th ts ∧ isNm n = true ∧ n.length ≤ 12 ∧ n ∉ nmL th ∧ so ∈ ss ∧ th.length < 60 ∧
  ∀ H', (∀ q o, q ≠ d1 → q ≠ d2 → H q = some o → H' q = some o) → HsAt HC S H' x dx sc d1 d2 d3 ss ws (th ++ [(n, so, b)]) ts → Q .non H'
def spHhe (K : PySem.W.Frag) (HC S : Addr) : Sp := fun vs H Q _ => ∃ (x dx sc d1 d2 d3 : Addr) (ss ws : List Str) (th : List Thing) (ts : List T3), vs = [.ref x] ∧ HsAt HC S H x dx sc d1 d2 d3 ss ws th ts ∧ ∀ qs l, TrisAt K H qs (sortT ts) → H l = none → Q (.ref l) (upd H l (.lst (qs.map V.ref)))
def spHrt (HC S : Addr) : Sp := fun vs H Q _ => ∃ (x dx sc d1 d2 d3 : Addr) (n : Str) (ss ws : List Str) (th : List Thing) (ts : List T3), vs = [.ref x, .str n] ∧ HsAt HC S H x dx sc d1 d2 d3 ss ws th ts ∧ n ∈ nmL th ∧ Q .non H
def spHrs (HC S : Addr) : Sp := fun vs H Q _ => ∃ (x dx sc d1 d2 d3 : Addr) (n wd m : Str) (ss ws : List Str) (th : List Thing) (ts : List T3), vs = [.ref x, .str n, .str wd, .str m] ∧ HsAt HC S H x dx sc d1 d2 d3 ss ws th ts ∧ n ∈ nmL th ∧ m ∈ nmL th ∧ wd ∈ ws ∧ ∀ H', Same H H' → Q .non H'
def spHgi (HC S : Addr) : Sp := fun vs H Q _ => ∃ (x dx sc d1 d2 d3 : Addr) (n wd m : Str) (ss ws : List Str) (th : List Thing) (ts : List T3), vs = [.ref x, .str n, .str wd, .str m] ∧ HsAt HC S H x dx sc d1 d2 d3 ss ws th ts ∧ n ∈ nmL th ∧ m ∈ nmL th ∧ wd ∈ ws ∧ ts.length ≤ 1000 ∧
  ∀ H', But d3 H H' → HsAt HC S H' x dx sc d1 d2 d3 ss ws th (addT ts (n, wd, m)) → Q .non H'
/-- who is awake -/
def awk (th : List Thing) (n : Str) : Option Bool := (th.find? fun t => decide (t.1 = n)).map (·.2.2)
theorem val2 (th : List Thing) (n : Str) : valV (k2 th) (Sum.inr n) = (awk th n).map V.bl := by
  unfold valV k2 awk
  rw [List.find?_map]
  have e : ((fun kv : L2.Key × V => decide (kv.1 = Sum.inr n)) ∘ fun t : Thing => ((Sum.inr t.1 : L2.Key), V.bl t.2.2)) = fun t : Thing => decide (t.1 = n) := by
    funext t
    exact decide_eq_decide.mpr ⟨fun z => Sum.inr.inj z, fun z => congrArg Sum.inr z⟩
  rw [e, Option.map_map, Option.map_map]
  rfl
def spHln (HC S : Addr) : Sp := fun vs H Q _ => ∃ (x dx sc d1 d2 d3 : Addr) (ss ws : List Str) (th : List Thing) (ts : List T3), vs = [.ref x] ∧ HsAt HC S H x dx sc d1 d2 d3 ss ws th ts ∧ Q (.int th.length) H
def spHia (HC S : Addr) : Sp := fun vs H Q _ => ∃ (x dx sc d1 d2 d3 : Addr) (n : Str) (b : Bool) (ss ws : List Str) (th : List Thing) (ts : List T3), vs = [.ref x, .str n] ∧ HsAt HC S H x dx sc d1 d2 d3 ss ws th ts ∧ n ∈ nmL th ∧ awk th n = some b ∧ Q (.bl b) H
def spHth (HC S : Addr) : Sp := fun vs H Q _ => ∃ (x dx sc d1 d2 d3 : Addr) (ss ws : List Str) (th : List Thing) (ts : List T3), vs = [.ref x] ∧ HsAt HC S H x dx sc d1 d2 d3 ss ws th ts ∧ ∀ l, H l = none → Q (.ref l) (upd H l (.lst ((nmL th).map V.str)))
def spHsc (HC S : Addr) : Sp := fun vs H Q _ => ∃ (x dx sc d1 d2 d3 : Addr) (ss ws : List Str) (th : List Thing) (ts : List T3), vs = [.ref x] ∧ HsAt HC S H x dx sc d1 d2 d3 ss ws th ts ∧ Q (.ref sc) H
/-- the sort of a thing -/
def srt (th : List Thing) (n : Str) : Option Str := (th.find? fun t => decide (t.1 = n)).map (·.2.1)
theorem val_srt (th : List Thing) (n : Str) : valV (k1 th) (Sum.inr n) = (srt th n).map V.str := by
  unfold valV k1 srt
  rw [List.find?_map]
  have e : ((fun kv : L2.Key × V => decide (kv.1 = Sum.inr n)) ∘ fun t : Thing => ((Sum.inr t.1 : L2.Key), V.str t.2.1)) = fun t : Thing => decide (t.1 = n) := by
    funext t
    exact decide_eq_decide.mpr ⟨fun z => Sum.inr.inj z, fun z => congrArg Sum.inr z⟩
  rw [e, Option.map_map, Option.map_map]
  rfl
theorem srt_some {th : List Thing} {n : Str} (h : n ∈ nmL th) : ∃ z, srt th n = some z := by
  have q : (valV (k1 th) (Sum.inr n)).isSome = true := by
    rw [is1]
    exact decide_eq_true h
  rw [val_srt, Option.isSome_map] at q
  exact Option.isSome_iff_exists.mp q
def spHso (HC S : Addr) : Sp := fun vs H Q _ => ∃ (x dx sc d1 d2 d3 : Addr) (n z : Str) (ss ws : List Str) (th : List Thing) (ts : List T3), vs = [.ref x, .str n] ∧ HsAt HC S H x dx sc d1 d2 d3 ss ws th ts ∧ srt th n = some z ∧ Q (.str z) H
def spHta (HC S : Addr) : Sp := fun vs H Q _ => ∃ (x dx sc d1 d2 d3 : Addr) (n wd m : Str) (ss ws : List Str) (th : List Thing) (ts : List T3), vs = [.ref x, .str n, .str wd, .str m] ∧ HsAt HC S H x dx sc d1 d2 d3 ss ws th ts ∧ n ∈ nmL th ∧ m ∈ nmL th ∧ wd ∈ ws ∧ (n, wd, m) ∈ ts ∧
  ∀ H', But d3 H H' → HsAt HC S H' x dx sc d1 d2 d3 ss ws th (remT ts (n, wd, m)) → Q .non H'
def spHsl (HC S : Addr) : Sp := fun vs H Q _ => ∃ (x dx sc d1 d2 d3 : Addr) (n : Str) (ss ws : List Str) (th : List Thing) (ts : List T3), vs = [.ref x, .str n] ∧ HsAt HC S H x dx sc d1 d2 d3 ss ws th ts ∧ n ∈ nmL th ∧ th.length ≤ 1000 ∧
  ∀ H', But d2 H H' → HsAt HC S H' x dx sc d1 d2 d3 ss ws (setA th n false) ts → Q .non H'
section
variable {P : Program} {w : World} {K : PySem.W.Frag} {mg : Str → Option Value} {base : Heap}
theorem scHin : FnScope ["self", "scheme"] ["self", "scheme"] (defScope sHin) := ⟨rfl, rfl, rfl, by decide +kernel, rfl, by decide +kernel, by decide +kernel⟩
theorem ok_hin {f HC : Addr} {fd : FuncData} (F : Fun K "__init__" "House.__init__" sHin f fd) (TH : TxH K mg HC f) : FnOk P w K mg base CX0 1 f fd ["self", "scheme"] (spHin HC) := by
  refine F.ok scHin (fun vs H Q E h => ?_) (fun cdv A outer s H vs Q E hr h => ?_)
  · obtain ⟨H0, x, dx, sc, rfl, _⟩ := h
    rfl
  · obtain ⟨H0, x, dx, sc, rfl, S0, x0, hx, k⟩ := h
    have Sx : ∀ {H1 : Hp} {o : HO}, Same H0 H1 → Same H0 (upd H1 x o) := fun hs b o e => by
      rw [upd_ne (ne_of_none e x0)]
      exact hs b o e
    refine ⟨_, (pss_cons (ps_fld (pv 0) (pv 1) rfl) (pss_cons (ps_fld (pv 0) pe_dnewK rfl) (pss_cons (ps_fld (pv 0) pe_dnewK rfl) (pss_one (ps_fld (pv 0) pe_dnewT rfl))))), ?_⟩
    have L1 := putF_len "own_scheme" (.ref sc) []
    refine ⟨_, rfl, _, rfl, x, HC, dx, _, rfl, hx, TH.cl, TH.n0, by show 0 < 1000; decide, fun d1 g1 => ?_⟩
    have n1 : d1 ≠ x := fun z => by
      rw [z, upd_same] at g1
      cases g1
    have L2' := putF_len "sort_by_name" (.ref d1) (putF "own_scheme" (.ref sc) [])
    have L3 : ∀ d2, (putF "awake_by_name" (.ref d2) (putF "sort_by_name" (.ref d1) (putF "own_scheme" (.ref sc) []))).length ≤ _ := fun d2 => putF_len "awake_by_name" (.ref d2) (putF "sort_by_name" (.ref d1) (putF "own_scheme" (.ref sc) []))
    simp only [List.length_nil] at L1
    refine ⟨_, rfl, x, HC, dx, _, rfl, (upd_ne n1.symm).trans upd_same, TH.cl, TH.n1, by omega, fun d2 g2 => ?_⟩
    have n2 : d2 ≠ x := fun z => by
      rw [z, upd_same] at g2
      cases g2
    have n12 : d1 ≠ d2 := fun z => by
      rw [← z, upd_ne n1, upd_same] at g2
      cases g2
    refine ⟨_, rfl, x, HC, dx, _, rfl, (upd_ne n2.symm).trans upd_same, TH.cl, TH.n2, by omega, fun d3 g3 => ?_⟩
    have n3 : d3 ≠ x := fun z => by
      rw [z, upd_same] at g3
      cases g3
    have n23 : d2 ≠ d3 := fun z => by
      rw [← z, upd_ne n2, upd_same] at g3
      cases g3
    have n13 : d1 ≠ d3 := fun z => by
      rw [← z, upd_ne n1, upd_ne n12, upd_ne n1, upd_same] at g3
      cases g3
    refine ⟨_, rfl, x, HC, dx, _, rfl, (upd_ne n3.symm).trans upd_same, TH.cl, TH.n3, by have := L3 d2; omega, ?_⟩
    have SA := Sx (o := .ins HC dx (putF "own_scheme" (.ref sc) [])) S0
    have SB := Sx (o := .ins HC dx (putF "sort_by_name" (.ref d1) (putF "own_scheme" (.ref sc) []))) (SA.trans (Same.upd (o := .dK []) g1))
    have SC := Sx (o := .ins HC dx (putF "awake_by_name" (.ref d2) (putF "sort_by_name" (.ref d1) (putF "own_scheme" (.ref sc) [])))) (SB.trans (Same.upd (o := .dK []) g2))
    refine k d1 d2 d3 _ (SA.free g1) (SB.free g2) (SC.free g3) n12 (Sx (SC.trans (Same.upd g3))) upd_same ?_ ?_ ?_
    · rw [upd_ne n1, upd_ne n13, upd_ne n1, upd_ne n12, upd_ne n1, upd_same]
    · rw [upd_ne n2, upd_ne n23, upd_ne n2, upd_same]
    · rw [upd_ne n3, upd_same]
theorem scHrt : FnScope ["self", "name"] ["self", "name"] (defScope sHrt) := ⟨rfl, rfl, rfl, by decide +kernel, rfl, by decide +kernel, by decide +kernel⟩
theorem ok_hrt {f HC S fH : Addr} {fd : FuncData} (F : Fun K "refuse_no_thing" "House.refuse_no_thing" sHrt f fd) (TH : TxH K mg HC fH) : FnOk P w K mg base CX0 1 f fd ["self", "name"] (spHrt HC S) := by
  refine F.ok scHrt (fun vs H Q E h => ?_) (fun cdv A outer s H vs Q E hr h => ?_)
  · obtain ⟨x, dx, sc, d1, d2, d3, n, ss, ws, th, ts, rfl, _⟩ := h
    rfl
  · obtain ⟨x, dx, sc, d1, d2, d3, n, ss, ws, th, ts, rfl, hh, hn, q⟩ := h
    refine ⟨_, (pss_one (ps_if (pt_cmp (pc_dnotin (hu_of hr) (pv 1) (pe_fld (pv 0) rfl))) (pss_one ps_never) pss_nil)), ?_⟩
    refine ⟨_, rfl, _, rfl, x, HC, dx, _, _, rfl, hh.hx, TH.cl, TH.n1, hsF_1 _ _ _ _, d1, _, rfl, DGet.k (k := Sum.inr n) hh.h1, _, rfl, ?_⟩
    rw [is1, decide_eq_true hn]
    exact iteF q
theorem scHrs : FnScope ["self", "x", "word", "y"] ["self", "x", "word", "y"] (defScope sHrs) := ⟨rfl, rfl, rfl, by decide +kernel, rfl, by decide +kernel, by decide +kernel⟩
theorem ok_hrs {f HC S fH fR fS fW : Addr} {fd dR dW : FuncData} (F : Fun K "refuse_strange" "House.refuse_strange" sHrs f fd) (TH : TxH K mg HC fH) (mR : Meth K HC "refuse_no_thing" fR) (bR : Binds K dR ["self", "name"] []) (GR : FnOk P w K mg base CX0 1 fR dR ["self", "name"] (spHrt HC S))
    (TC : TxSch K mg S fS) (mW : Meth K S "words" fW) (bW : Binds K dW ["self"] []) (GW : FnOk P w K mg base CX0 1 fW dW ["self"] (spWor S)) : FnOk P w K mg base CX0 2 f fd ["self", "x", "word", "y"] (spHrs HC S) := by
  refine F.ok scHrs (fun vs H Q E h => ?_) (fun cdv A outer s H vs Q E hr h => ?_)
  · obtain ⟨x, dx, sc, d1, d2, d3, n, wd, m, ss, ws, th, ts, rfl, _⟩ := h
    rfl
  · obtain ⟨x, dx, sc, d1, d2, d3, n, wd, m, ss, ws, th, ts, rfl, hh, hn, hm, hw, q⟩ := h
    have no : (hsF sc d1 d2 d3).lookup ("refuse_no_thing" : Str) = none := hsF_no (by decide +kernel) (by decide +kernel) (by decide +kernel) (by decide +kernel) _ _ _ _
    refine ⟨_, (pss_cons (ps_expr (pe_meth (pv 0) TH.cl mR GR hr bR .nil pass0 (pa_cons (pv 1) pa_nil))) (pss_cons (ps_expr (pe_meth (pv 0) TH.cl mR GR hr bR .nil pass0 (pa_cons (pv 3) pa_nil)))
      (pss_one (ps_if (pt_cmpR op_notIn_seq (pv 2) (pe_meth0 (pe_fld (pv 0) rfl) TC.cl mW GW hr bW .nil pass0) (by rfl)) (pss_one ps_never) pss_nil)))), ?_⟩
    refine ⟨_, rfl, x, dx, _, rfl, hh.hx, no, _, rfl, x, dx, sc, d1, d2, d3, n, ss, ws, th, ts, rfl, hh, hn, ?_⟩
    refine ⟨_, rfl, x, dx, _, rfl, hh.hx, no, _, rfl, x, dx, sc, d1, d2, d3, m, ss, ws, th, ts, rfl, hh, hm, ?_⟩
    obtain ⟨dy, l1, l2, l3, l4, l5, e1, e2, e3⟩ := hh.hs.ex
    refine ⟨_, rfl, _, rfl, x, HC, dx, _, _, rfl, hh.hx, TH.cl, TH.n0, hsF_sc _ _ _ _, sc, dy, _, rfl, e1, schF_no (by decide +kernel) (by decide +kernel) (by decide +kernel) (by decide +kernel) (by decide +kernel) _ _ _ _ _, sc, ss, ws, rfl, hh.hs, fun l hl => ?_⟩
    refine ⟨l, _, rfl, .inl (SqL.of upd_same), rfl, flats ws, _, rfl, ?_⟩
    show if (!inV (.str wd) (ws.map V.str)) = true then _ else _
    rw [inV_strs, decide_eq_true hw]
    exact iteF (q _ (Same.upd hl))
theorem scHgi : FnScope ["self", "x", "word", "y"] ["self", "x", "word", "y"] (defScope sHgi) := ⟨rfl, rfl, rfl, by decide +kernel, rfl, by decide +kernel, by decide +kernel⟩
theorem ok_hgi {f HC S fH fR : Addr} {fd dR : FuncData} (F : Fun K "give" "House.give" sHgi f fd) (TH : TxH K mg HC fH) (mR : Meth K HC "refuse_strange" fR) (bR : Binds K dR ["self", "x", "word", "y"] []) (GR : FnOk P w K mg base CX0 2 fR dR ["self", "x", "word", "y"] (spHrs HC S)) : FnOk P w K mg base CX0 3 f fd ["self", "x", "word", "y"] (spHgi HC S) := by
  refine F.ok scHgi (fun vs H Q E h => ?_) (fun cdv A outer s H vs Q E hr h => ?_)
  · obtain ⟨x, dx, sc, d1, d2, d3, n, wd, m, ss, ws, th, ts, rfl, _⟩ := h
    rfl
  · obtain ⟨x, dx, sc, d1, d2, d3, n, wd, m, ss, ws, th, ts, rfl, hh, hn, hm, hw, hts, q⟩ := h
    refine ⟨_, (pss_cons (ps_expr (pe_meth (pv 0) TH.cl mR GR hr bR .nil pass0 (pa_cons (pv 1) (pa_cons (pv 2) (pa_cons (pv 3) pa_nil))))) (pss_one (ps_dput (hu_of hr) (pe_fld (pv 0) rfl) (pe_tup (pa_cons (pv 1) (pa_cons (pv 2) (pa_cons (pv 3) pa_nil)))) pe_bl rfl))), ?_⟩
    refine ⟨_, rfl, x, dx, _, rfl, hh.hx, hsF_no (by decide +kernel) (by decide +kernel) (by decide +kernel) (by decide +kernel) _ _ _ _, _, rfl, _, rfl, _, rfl, x, dx, sc, d1, d2, d3, n, wd, m, ss, ws, th, ts, rfl, hh, hn, hm, hw, fun H1 S1 => ?_⟩
    have h1 := hh.same S1
    refine ⟨_, rfl, x, HC, dx, _, _, rfl, h1.hx, TH.cl, TH.n3, hsF_3 _ _ _ _, _, rfl, _, rfl, _, rfl, by show 3 ≤ sizeLine; decide, fun t ht => ?_⟩
    have S2 := Same.upd (o := .tup [.str n, .str wd, .str m]) ht
    have h2 := h1.same S2
    refine ⟨d3, _, rfl, DPut.t (k := triK (n, wd, m)) h2.h3 upd_same ?_, ?_⟩
    · unfold k3
      rw [List.length_map]
      exact Nat.lt_of_le_of_lt hts (by decide)
    · rw [put3]
      have B : But d3 H (upd (upd H1 t (.tup [.str n, .str wd, .str m])) d3 (.dT (k3 (addT ts (n, wd, m))))) := fun q o nq e => by
        rw [upd_ne nq]
        exact S2 _ _ (S1 _ _ e)
      refine q _ B ⟨?_, h2.hs.but But.upd h2.h3 (fun _ _ _ z => by cases z) (fun _ z => by cases z), ?_, ?_, upd_same, hh.ne⟩
      · rw [upd_ne (ne_of h2.hx h2.h3 (by intro z; cases z))]
        exact h2.hx
      · rw [upd_ne (ne_of h2.h1 h2.h3 (by intro z; cases z))]
        exact h2.h1
      · rw [upd_ne (ne_of h2.h2 h2.h3 (by intro z; cases z))]
        exact h2.h2
theorem scHso : FnScope ["self", "x"] ["self", "x"] (defScope sHso) := ⟨rfl, rfl, rfl, by decide +kernel, rfl, by decide +kernel, by decide +kernel⟩
theorem ok_hso {f HC S fH fR : Addr} {fd dR : FuncData} (F : Fun K "sort_of" "House.sort_of" sHso f fd) (TH : TxH K mg HC fH) (mR : Meth K HC "refuse_no_thing" fR) (bR : Binds K dR ["self", "name"] []) (GR : FnOk P w K mg base CX0 1 fR dR ["self", "name"] (spHrt HC S)) : FnOk P w K mg base CX0 2 f fd ["self", "x"] (spHso HC S) := by
  refine F.ok scHso (fun vs H Q E h => ?_) (fun cdv A outer s H vs Q E hr h => ?_)
  · obtain ⟨x, dx, sc, d1, d2, d3, n, s0, ss, ws, th, ts, rfl, _⟩ := h
    rfl
  · obtain ⟨x, dx, sc, d1, d2, d3, n, z, ss, ws, th, ts, rfl, hh, hz, q⟩ := h
    have hn : n ∈ nmL th := by
      have e := val_srt th n
      rw [hz] at e
      have q := is1 th n
      rw [e] at q
      exact of_decide_eq_true q.symm
    refine ⟨_, (pss_cons (ps_expr (pe_meth (pv 0) TH.cl mR GR hr bR .nil pass0 (pa_cons (pv 1) pa_nil))) (pss_one (ps_ret (pe_dget (hu_of hr) (pe_fld (pv 0) rfl) (pv 1) (fun _ _ => rfl))))), ?_⟩
    refine ⟨_, rfl, x, dx, _, rfl, hh.hx, hsF_no (by decide +kernel) (by decide +kernel) (by decide +kernel) (by decide +kernel) _ _ _ _, _, rfl, x, dx, sc, d1, d2, d3, n, ss, ws, th, ts, rfl, hh, hn, ?_⟩
    refine ⟨_, rfl, x, HC, dx, _, _, rfl, hh.hx, TH.cl, TH.n1, hsF_1 _ _ _ _, _, rfl, d1, .str z, rfl, ?_, q⟩
    have e : valV (k1 th) (Sum.inr n) = some (.str z) := by rw [val_srt, hz]; rfl
    rw [← e]
    exact DGet.k (k := Sum.inr n) hh.h1
theorem scHta : FnScope ["self", "x", "word", "y"] ["self", "x", "word", "y"] (defScope sHta) := ⟨rfl, rfl, rfl, by decide +kernel, rfl, by decide +kernel, by decide +kernel⟩
theorem ok_hta {f HC S fH fR : Addr} {fd dR : FuncData} (F : Fun K "take" "House.take" sHta f fd) (TH : TxH K mg HC fH) (mR : Meth K HC "refuse_strange" fR) (bR : Binds K dR ["self", "x", "word", "y"] []) (GR : FnOk P w K mg base CX0 2 fR dR ["self", "x", "word", "y"] (spHrs HC S)) : FnOk P w K mg base CX0 3 f fd ["self", "x", "word", "y"] (spHta HC S) := by
  refine F.ok scHta (fun vs H Q E h => ?_) (fun cdv A outer s H vs Q E hr h => ?_)
  · obtain ⟨x, dx, sc, d1, d2, d3, n, wd, m, ss, ws, th, ts, rfl, _⟩ := h
    rfl
  · obtain ⟨x, dx, sc, d1, d2, d3, n, wd, m, ss, ws, th, ts, rfl, hh, hn, hm, hw, hin, q⟩ := h
    refine ⟨_, (pss_cons (ps_expr (pe_meth (pv 0) TH.cl mR GR hr bR .nil pass0 (pa_cons (pv 1) (pa_cons (pv 2) (pa_cons (pv 3) pa_nil)))))
      (pss_cons (ps_if (pt_cmp (pc_dnotin (hu_of hr) (pe_tup (pa_cons (pv 1) (pa_cons (pv 2) (pa_cons (pv 3) pa_nil)))) (pe_fld (pv 0) rfl))) (pss_one ps_never) pss_nil)
      (pss_one (ps_ddelT (hu_of hr) (pe_fld (pv 0) rfl) (pe_tup (pa_cons (pv 1) (pa_cons (pv 2) (pa_cons (pv 3) pa_nil)))))))), ?_⟩
    refine ⟨_, rfl, x, dx, _, rfl, hh.hx, hsF_no (by decide +kernel) (by decide +kernel) (by decide +kernel) (by decide +kernel) _ _ _ _, _, rfl, _, rfl, _, rfl, x, dx, sc, d1, d2, d3, n, wd, m, ss, ws, th, ts, rfl, hh, hn, hm, hw, fun H1 S1 => ?_⟩
    have h1 := hh.same S1
    refine ⟨_, rfl, _, rfl, _, rfl, by show 3 ≤ sizeLine; decide, fun t ht => ?_⟩
    have S2 := Same.upd (o := .tup [.str n, .str wd, .str m]) ht
    have h2 := h1.same S2
    refine ⟨_, rfl, x, HC, dx, _, _, rfl, h2.hx, TH.cl, TH.n3, hsF_3 _ _ _ _, ?_⟩
    refine ⟨d3, _, rfl, DGet.t (k := triK (n, wd, m)) h2.h3 upd_same, _, rfl, ?_⟩
    rw [is3, decide_eq_true hin]
    refine iteF ?_
    refine ⟨_, rfl, x, HC, dx, _, _, rfl, h2.hx, TH.cl, TH.n3, hsF_3 _ _ _ _, _, rfl, _, rfl, _, rfl, by show 3 ≤ sizeLine; decide, fun t2 ht2 => ?_⟩
    have S3 := Same.upd (o := .tup [.str n, .str wd, .str m]) ht2
    have h3 := h2.same S3
    refine ⟨d3, _, triK (n, wd, m), t2, rfl, rfl, h3.h3, upd_same, by rw [is3]; exact decide_eq_true hin, ?_⟩
    rw [drop3]
    refine q _ (fun q o nq e => ?_) h3.put3
    rw [upd_ne nq]
    exact S3 _ _ (S2 _ _ (S1 _ _ e))
theorem scHsl : FnScope ["self", "x"] ["self", "x"] (defScope sHsl) := ⟨rfl, rfl, rfl, by decide +kernel, rfl, by decide +kernel, by decide +kernel⟩
theorem ok_hsl {f HC S fH fR : Addr} {fd dR : FuncData} (F : Fun K "sleep" "House.sleep" sHsl f fd) (TH : TxH K mg HC fH) (mR : Meth K HC "refuse_no_thing" fR) (bR : Binds K dR ["self", "name"] []) (GR : FnOk P w K mg base CX0 1 fR dR ["self", "name"] (spHrt HC S)) : FnOk P w K mg base CX0 2 f fd ["self", "x"] (spHsl HC S) := by
  refine F.ok scHsl (fun vs H Q E h => ?_) (fun cdv A outer s H vs Q E hr h => ?_)
  · obtain ⟨x, dx, sc, d1, d2, d3, n, ss, ws, th, ts, rfl, _⟩ := h
    rfl
  · obtain ⟨x, dx, sc, d1, d2, d3, n, ss, ws, th, ts, rfl, hh, hn, hl, q⟩ := h
    refine ⟨_, (pss_cons (ps_expr (pe_meth (pv 0) TH.cl mR GR hr bR .nil pass0 (pa_cons (pv 1) pa_nil))) (pss_one (ps_dput (hu_of hr) (pe_fld (pv 0) rfl) (pv 1) pe_bl rfl))), ?_⟩
    refine ⟨_, rfl, x, dx, _, rfl, hh.hx, hsF_no (by decide +kernel) (by decide +kernel) (by decide +kernel) (by decide +kernel) _ _ _ _, _, rfl, x, dx, sc, d1, d2, d3, n, ss, ws, th, ts, rfl, hh, hn, ?_⟩
    refine ⟨_, rfl, x, HC, dx, _, _, rfl, hh.hx, TH.cl, TH.n2, hsF_2 _ _ _ _, _, rfl, d2, _, rfl, DPut.k (k := Sum.inr n) hh.h2 ?_, ?_⟩
    · unfold k2
      rw [List.length_map]
      exact Nat.lt_of_le_of_lt hl (by decide)
    · rw [setA_put false hn]
      refine q _ But.upd ⟨?_, hh.hs.but But.upd hh.h2 (fun _ _ _ z => by cases z) (fun _ z => by cases z), ?_, upd_same, ?_, hh.ne⟩
      · rw [upd_ne (ne_of hh.hx hh.h2 (by intro z; cases z))]
        exact hh.hx
      · rw [upd_ne hh.ne, setA_k1]
        exact hh.h1
      · rw [upd_ne (ne_of hh.h3 hh.h2 (by intro z; cases z))]
        exact hh.h3
theorem scHhe : FnScope ["self"] ["self"] (defScope sHhe) := ⟨rfl, rfl, rfl, by decide +kernel, rfl, by decide +kernel, by decide +kernel⟩
theorem ok_hhe {f HC S fH : Addr} {fd : FuncData} (F : Fun K "held" "House.held" sHhe f fd) (tsr : mg "sorted" = none) (TH : TxH K mg HC fH) : FnOk P w K mg base CX0 1 f fd ["self"] (spHhe K HC S) := by
  refine F.ok scHhe (fun vs H Q E h => ?_) (fun cdv A outer s H vs Q E hr h => ?_)
  · obtain ⟨x, dx, sc, d1, d2, d3, ss, ws, th, ts, rfl, _⟩ := h
    rfl
  · obtain ⟨x, dx, sc, d1, d2, d3, ss, ws, th, ts, rfl, hh, q⟩ := h
    refine ⟨_, (pss_one (ps_ret (pe_callB (cr_sortTD rfl hr.units) (by rfl) tsr (by decide +kernel) (pa_cons (pe_fld (pv 0) rfl) pa_nil)))), ?_⟩
    exact ⟨_, rfl, x, HC, dx, _, _, rfl, hh.hx, TH.cl, TH.n3, hsF_3 _ _ _ _, d3, _, ts, rfl, hh.h3, keys3 ts, fun qs l hq hl => q qs l hq hl⟩
theorem scHen : FnScope ["self", "name", "sort", "awake"] ["self", "name", "sort", "awake"] (defScope sHen) := ⟨rfl, rfl, rfl, by decide +kernel, rfl, by decide +kernel, by decide +kernel⟩
theorem ok_hen {f HC S fH fS fN fO : Addr} {fd dN dO : FuncData} {dvs : List V} (F : FunD K "enter" "House.enter" (defArgs sHen) (defBody sHen) (defScope sHen) dvs [] f fd) (T : TxB mg) (MT : ∃ t, mg "MOST_THINGS" = some (.int 60 t)) (TH : TxH K mg HC fH) (DN : Dn K mg "refuse_no_name" sRN ["texts"] fN dN) (GN : FnOk P w K mg base CX0 2 fN dN ["texts"] (spRNv K))
    (TC : TxSch K mg S fS) (mO : Meth K S "sorts" fO) (bO : Binds K dO ["self"] []) (GO : FnOk P w K mg base CX0 1 fO dO ["self"] (spSor S)) : FnOk P w K mg base CX0 3 f fd ["self", "name", "sort", "awake"] (spHen HC S) := by
  refine F.ok scHen (fun vs H Q E h => ?_) (fun cdv A outer s H vs Q E hr h => ?_)
  · obtain ⟨x, dx, sc, d1, d2, d3, n, so, b, ss, ws, th, ts, rfl, _⟩ := h
    rfl
  · obtain ⟨x, dx, sc, d1, d2, d3, n, so, b, ss, ws, th, ts, rfl, hh, hn, hn12, hnew, hso, h60, q⟩ := h
    have hr1 : Room 1 _ := hr.mono (by decide)
    obtain ⟨t60, g60⟩ := MT
    refine ⟨_, (pss_cons (ps_expr (pe_call GN hr rfl DN.g DN.F.kp DN.b .nil pass0 (pa_cons (pe_lst (pa_cons (pv 1) pa_nil)) pa_nil)))
      (pss_cons (ps_if (pt_cmp (pc_din (hu_of hr) (pv 1) (pe_fld (pv 0) rfl))) (pss_one ps_never) pss_nil)
      (pss_cons (ps_if (pt_cmpR op_notIn_seq (pv 2) (pe_meth0 (pe_fld (pv 0) rfl) TC.cl mO GO hr1 bO .nil pass0) (by rfl)) (pss_one ps_never) pss_nil)
      (pss_cons (ps_if (pt_cmpR op_ge (pe_callB call_lenD (by rfl) T.len (by decide +kernel) (pa_cons (pe_fld (pv 0) rfl) pa_nil)) (pe_glob (v := .int 60) rfl g60 ⟨t60, rfl⟩) (nomark _)) (pss_one ps_never) pss_nil)
      (pss_cons (ps_dput (hu_of hr) (pe_fld (pv 0) rfl) (pv 1) (pv 2) rfl)
      (pss_one (ps_dput (hu_of hr) (pe_fld (pv 0) rfl) (pv 1) (pv 3) rfl))))))), ?_⟩
    refine ⟨_, rfl, by show 1 ≤ sizeLine; decide, fun l0 hl0 => ?_⟩
    refine ⟨l0, [n], rfl, SqL.of upd_same, fun z hz => by rw [List.mem_singleton.mp hz]; exact ⟨hn, hn12⟩, fun H1 S1 => ?_⟩
    have SA : Same H H1 := (Same.upd hl0).trans S1
    have h1 := hh.same SA
    refine ⟨_, rfl, _, rfl, x, HC, dx, _, _, rfl, h1.hx, TH.cl, TH.n1, hsF_1 _ _ _ _, d1, _, rfl, DGet.k (k := Sum.inr n) h1.h1, _, rfl, ?_⟩
    rw [is1, decide_eq_false hnew]
    refine iteF ?_
    obtain ⟨dy, l1, l2, l3, l4, l5, e1, e2, e3⟩ := h1.hs.ex
    refine ⟨_, rfl, _, rfl, x, HC, dx, _, _, rfl, h1.hx, TH.cl, TH.n0, hsF_sc _ _ _ _, sc, dy, _, rfl, e1, schF_no (by decide +kernel) (by decide +kernel) (by decide +kernel) (by decide +kernel) (by decide +kernel) _ _ _ _ _, sc, ss, ws, rfl, h1.hs, fun l hl => ?_⟩
    refine ⟨l, _, rfl, .inl (SqL.of upd_same), rfl, flats ss, _, rfl, ?_⟩
    show if (!inV (.str so) (ss.map V.str)) = true then _ else _
    rw [inV_strs, decide_eq_true hso]
    refine iteF ?_
    have SB : Same H1 (upd H1 l (.lst (ss.map V.str))) := Same.upd hl
    have h2 := h1.same SB
    have S02 := SA.trans SB
    generalize upd H1 l (.lst (ss.map V.str)) = H2 at SB h2 S02
    refine ⟨_, rfl, x, HC, dx, _, _, rfl, h2.hx, TH.cl, TH.n1, hsF_1 _ _ _ _, d1, _, rfl, h2.h1, _, _, rfl, rfl, _, rfl, ?_⟩
    have el : (k1 th).length = th.length := by unfold k1; rw [List.length_map]
    have el2 : (k2 th).length = th.length := by unfold k2; rw [List.length_map]
    refine ite2 (fun z => absurd (of_decide_eq_true z) (by rw [el]; omega)) (fun _ => ?_)
    have lt1 : (k1 th).length < sizeLine := Nat.lt_of_lt_of_le (by rw [el]; exact h60) (by decide)
    have lt2 : (k2 th).length < sizeLine := Nat.lt_of_lt_of_le (by rw [el2]; exact h60) (by decide)
    refine ⟨_, rfl, _, rfl, x, HC, dx, _, _, rfl, h2.hx, TH.cl, TH.n1, hsF_1 _ _ _ _, _, rfl, d1, _, rfl, DPut.k (k := Sum.inr n) h2.h1 lt1, ?_⟩
    rw [new1 (b := b) hnew]
    have ne1x : x ≠ d1 := ne_of h2.hx h2.h1 (by intro z; cases z)
    refine ⟨_, rfl, _, rfl, x, HC, dx, _, _, rfl, (upd_ne ne1x).trans h2.hx, TH.cl, TH.n2, hsF_2 _ _ _ _, _, rfl, d2, _, rfl, DPut.k (k := Sum.inr n) ((upd_ne hh.ne.symm).trans h2.h2) lt2, ?_⟩
    rw [new2 (s := so) hnew]
    have ne2x : x ≠ d2 := ne_of h2.hx h2.h2 (by intro z; cases z)
    have ne31 : d3 ≠ d1 := ne_of h2.h3 h2.h1 (by intro z; cases z)
    have ne32 : d3 ≠ d2 := ne_of h2.h3 h2.h2 (by intro z; cases z)
    refine q _ (fun z o n1 n2 e => by rw [upd_ne n2, upd_ne n1]; exact S02 _ _ e) ⟨?_, ?_, ?_, upd_same, ?_, hh.ne⟩
    · rw [upd_ne ne2x, upd_ne ne1x]
      exact h2.hx
    · have q1 := h2.hs.but (But.upd (o := .dK (k1 (th ++ [(n, so, b)])))) h2.h1 (fun _ _ _ z => by cases z) (fun _ z => by cases z)
      exact q1.but But.upd ((upd_ne hh.ne.symm).trans h2.h2) (fun _ _ _ z => by cases z) (fun _ z => by cases z)
    · rw [upd_ne hh.ne, upd_same]
    · rw [upd_ne ne32, upd_ne ne31]
      exact h2.h3
theorem scHln : FnScope ["self"] ["self"] (defScope sHln) := ⟨rfl, rfl, rfl, by decide +kernel, rfl, by decide +kernel, by decide +kernel⟩
theorem ok_hln {f HC S fH : Addr} {fd : FuncData} (F : Fun K "__len__" "House.__len__" sHln f fd) (T : TxB mg) (TH : TxH K mg HC fH) : FnOk P w K mg base CX0 1 f fd ["self"] (spHln HC S) := by
  refine F.ok scHln (fun vs H Q E h => ?_) (fun cdv A outer s H vs Q E hr h => ?_)
  · obtain ⟨x, dx, sc, d1, d2, d3, ss, ws, th, ts, rfl, _⟩ := h
    rfl
  · obtain ⟨x, dx, sc, d1, d2, d3, ss, ws, th, ts, rfl, hh, q⟩ := h
    refine ⟨_, (pss_one (ps_ret (pe_callB call_lenD (by rfl) T.len (by decide +kernel) (pa_cons (pe_fld (pv 0) rfl) pa_nil)))), ?_⟩
    refine ⟨_, rfl, x, HC, dx, _, _, rfl, hh.hx, TH.cl, TH.n1, hsF_1 _ _ _ _, d1, _, rfl, hh.h1, ?_⟩
    have el : (k1 th).length = th.length := by unfold k1; rw [List.length_map]
    rw [el]
    exact q
theorem scHia : FnScope ["self", "x"] ["self", "x"] (defScope sHia) := ⟨rfl, rfl, rfl, by decide +kernel, rfl, by decide +kernel, by decide +kernel⟩
theorem ok_hia {f HC S fH fR : Addr} {fd dR : FuncData} (F : Fun K "is_awake" "House.is_awake" sHia f fd) (TH : TxH K mg HC fH) (mR : Meth K HC "refuse_no_thing" fR) (bR : Binds K dR ["self", "name"] []) (GR : FnOk P w K mg base CX0 1 fR dR ["self", "name"] (spHrt HC S)) : FnOk P w K mg base CX0 2 f fd ["self", "x"] (spHia HC S) := by
  refine F.ok scHia (fun vs H Q E h => ?_) (fun cdv A outer s H vs Q E hr h => ?_)
  · obtain ⟨x, dx, sc, d1, d2, d3, n, b, ss, ws, th, ts, rfl, _⟩ := h
    rfl
  · obtain ⟨x, dx, sc, d1, d2, d3, n, b, ss, ws, th, ts, rfl, hh, hn, hb, q⟩ := h
    refine ⟨_, (pss_cons (ps_expr (pe_meth (pv 0) TH.cl mR GR hr bR .nil pass0 (pa_cons (pv 1) pa_nil))) (pss_one (ps_ret (pe_dget (hu_of hr) (pe_fld (pv 0) rfl) (pv 1) (fun _ _ => rfl))))), ?_⟩
    refine ⟨_, rfl, x, dx, _, rfl, hh.hx, hsF_no (by decide +kernel) (by decide +kernel) (by decide +kernel) (by decide +kernel) _ _ _ _, _, rfl, x, dx, sc, d1, d2, d3, n, ss, ws, th, ts, rfl, hh, hn, ?_⟩
    refine ⟨_, rfl, x, HC, dx, _, _, rfl, hh.hx, TH.cl, TH.n2, hsF_2 _ _ _ _, _, rfl, d2, .bl b, rfl, ?_, q⟩
    have e : valV (k2 th) (Sum.inr n) = some (.bl b) := by rw [val2, hb]; rfl
    rw [← e]
    exact DGet.k (k := Sum.inr n) hh.h2
theorem scHth : FnScope ["self"] ["self"] (defScope sHth) := ⟨rfl, rfl, rfl, by decide +kernel, rfl, by decide +kernel, by decide +kernel⟩
theorem ok_hth {f HC S fH : Addr} {fd : FuncData} (F : Fun K "things" "House.things" sHth f fd) (tl : mg "list" = none) (TH : TxH K mg HC fH) : FnOk P w K mg base CX0 1 f fd ["self"] (spHth HC S) := by
  refine F.ok scHth (fun vs H Q E h => ?_) (fun cdv A outer s H vs Q E hr h => ?_)
  · obtain ⟨x, dx, sc, d1, d2, d3, ss, ws, th, ts, rfl, _⟩ := h
    rfl
  · obtain ⟨x, dx, sc, d1, d2, d3, ss, ws, th, ts, rfl, hh, q⟩ := h
    refine ⟨_, (pss_one (ps_ret (pe_callTy (call_listD rfl) (by rfl) tl (by decide +kernel) (pa_cons (pe_fld (pv 0) rfl) pa_nil)))), ?_⟩
    refine ⟨_, rfl, x, HC, dx, _, _, rfl, hh.hx, TH.cl, TH.n1, hsF_1 _ _ _ _, d1, _, rfl, .inl hh.h1, fun l hl => ?_⟩
    have e : ((k1 th).map fun kv => kV kv.1) = (nmL th).map V.str := by
      unfold k1 nmL
      rw [List.map_map, List.map_map]
      rfl
    rw [e]
    exact q l hl
theorem scHsc : FnScope ["self"] ["self"] (defScope sHsc) := ⟨rfl, rfl, rfl, by decide +kernel, rfl, by decide +kernel, by decide +kernel⟩
theorem ok_hsc {f HC S fH : Addr} {fd : FuncData} (F : Fun K "scheme" "House.scheme" sHsc f fd) (TH : TxH K mg HC fH) : FnOk P w K mg base CX0 1 f fd ["self"] (spHsc HC S) := by
  refine F.ok scHsc (fun vs H Q E h => ?_) (fun cdv A outer s H vs Q E hr h => ?_)
  · obtain ⟨x, dx, sc, d1, d2, d3, ss, ws, th, ts, rfl, _⟩ := h
    rfl
  · obtain ⟨x, dx, sc, d1, d2, d3, ss, ws, th, ts, rfl, hh, k⟩ := h
    refine ⟨_, (pss_one (ps_ret (pe_fld (pv 0) rfl))), ?_⟩
    exact ⟨_, rfl, x, HC, dx, _, _, rfl, hh.hx, TH.cl, TH.n0, hsF_sc _ _ _ _, k⟩
end
end Wm
/-! zip of a list and a tuple -/
namespace Wm
open PySem PySem.Spec PyProof.Rows L2
/-- the list at a and the tuple at b as they stand at each turn, the items in new pairs -/
def ItzM (K : PySem.W.Frag) (a b : Addr) : It :=
  ⟨fun i H => ∃ (xs ys : List V) (x y : V), SqL K H a xs ∧ SqT K H b ys ∧ xs[i]? = some x ∧ ys[i]? = some y,
    fun i H v H' => ∃ T x y, v = .ref T ∧ H T = none ∧ H' = upd H T (.tup [x, y]) ∧ (∀ xs, SqL K H a xs → xs[i]? = some x) ∧ ∀ ys, SqT K H b ys → ys[i]? = some y,
    fun i H => ∃ xs ys : List V, SqL K H a xs ∧ SqT K H b ys ∧ i ≤ xs.length ∧ i ≤ ys.length ∧ (i = xs.length ∨ i = ys.length)⟩
theorem sepM {z TI TO i1 i2 a b : Addr} (D : ZipApart z TI TO i1 i2 a b) : ZipSep2 z TI TO i1 i2 [i1, a] [i2, b] :=
  ⟨D.TIz, D.TOz, D.TITO, D.TIi1, by simp, by simp [D.i1z.symm, D.l1z.symm], by simp [D.TOi1, D.l1TO.symm], D.TIi2, by simp, by simp [D.i2z.symm, D.l2z.symm], by simp [D.TOi2, D.l2TO.symm], by simp [D.i12, D.l2i1.symm], by simp [D.i12.symm, D.l1i2.symm]⟩
theorem turn_zipM {P : Program} {w : World} {K : PySem.W.Frag} {elts : List Expr} {kk : Nat} {tpos : Pos} {a b z TI TO i1 i2 : Addr} (D : ZipApart z TI TO i1 i2 a b) :
    Turn P w K (.Tuple elts kk tpos) (ItzM K a b) [z, TI, TO, i1, i2] z (fun i h => IsZip h z TI TO .none ∧ IsPair h TI (.ref i1) (.ref i2) ∧ (∃ x y, IsPair h TO x y) ∧ h.IsListIter i1 a i ∧ h.IsTupleIter i2 b i) where
  mem := by simp
  obj := fun i h st c hc => by
    obtain ⟨hz, hTI, ⟨x, y, hTO⟩, ⟨o1, e1, _, d1⟩, ⟨o2, e2, _, d2⟩⟩ := st
    have e' : c = z ∨ c = TI ∨ c = TO ∨ c = i1 ∨ c = i2 := by simpa using hc
    rcases e' with q | q | q | q | q
    · rw [q]; exact ⟨_, hz, fun v q => nomatch q⟩
    · rw [q]; exact ⟨_, hTI, fun v q => nomatch q⟩
    · rw [q]; exact ⟨_, hTO, fun v q => nomatch q⟩
    · rw [q]; exact ⟨o1, e1, fun v q => by rw [d1] at q; cases q⟩
    · rw [q]; exact ⟨o2, e2, fun v q => by rw [d2] at q; cases q⟩
  keep := fun i h h' st k => by
    obtain ⟨hz, hTI, ⟨x, y, hTO⟩, h1, h2⟩ := st
    exact ⟨k z (by simp) _ hz, k TI (by simp) _ hTI, ⟨x, y, k TO (by simp) _ hTO⟩, h1.at fun o q => k i1 (by simp) o q, h2.at fun o q => k i2 (by simp) o q⟩
  item := by
    intro X hP hw hK hc i pins s σ H E I hf st hg
    subst hP hw hK
    obtain ⟨hz, hTI, ⟨x0, y0, hTO⟩, h1, h2⟩ := st
    obtain ⟨xs, ys, x, y, hqx, hqy, hx, hy⟩ := hg
    obtain ⟨its, rv, p, _⟩ := I.list hqx
    obtain ⟨its2, rv2, p2, _⟩ := I.tuple hqy
    obtain ⟨u, hu, ru⟩ := rv.get hx
    obtain ⟨u2, hu2, ru2⟩ := rv2.get hy
    have hzl : z < s.heap.objs.size := Heap.lt_size hz
    have hh : X.A.in1.handled = none := I.ok.hd hc
    have hu' : its.toArray[i]? = some u := by simpa using hu
    have hu2' : its2.toArray[i]? = some u2 := by simpa using hu2
    have lt1 : i < its.toArray.size := (Array.getElem?_eq_some_iff.mp hu').1
    have lt2 : i < its2.toArray.size := (Array.getElem?_eq_some_iff.mp hu2').1
    refine wpAny_pyNext_zipD2_item (sepM D) (Draws.list hh i1 a D.l1i1 its.toArray) (Draws.tuple hh i2 b D.l2i2 its2.toArray) hz hTI hTO ⟨h1, p.isList⟩ ⟨h2, p2⟩ lt1 lt2 fun x1 x2 h' tk P1 P2 z' TO' h1' h2' hT hsz hk => ?_
    have e1 : x1 = u := Option.some.inj (P1.symm.trans hu')
    have e2 : x2 = u2 := Option.some.inj (P2.symm.trans hu2')
    subst e1 e2
    refine ⟨_, rfl, wpAny_letOwnedTupleGo_zip (s := { s with heap := h', toks := tk }) z' fun h'' z'' sb => ?_⟩
    have hT2 : h''.get? s.heap.objs.size = some { cls := .type "tuple", data := .seq #[x1, x2] } := (sb.2 _ (Nat.ne_of_gt hzl)).trans hT
    have new : ObjOk X.prog X.w (upd H s.heap.objs.size (.tup [x, y])) h'' s.heap.objs.size (.tup [x, y]) :=
      ⟨by show 2 ≤ sizeLine; decide, [x1, x2], .cons ru (.cons ru2 .nil), ⟨_, hT2, rfl, _, rfl⟩⟩
    have I1 : Inv X pins σ (upd H s.heap.objs.size (.tup [x, y])) { s with heap := h'', toks := tk } :=
      I.turnedNew (t' := tk) (ch := [z, TI, TO, i1, i2]) (fun c o hb q => (sb.2 c (fun q' => hb (by simp [q']))).trans (hk c o (fun q' => hb (by simp [q'])) (fun q' => hb (by simp [q'])) (fun q' => hb (by simp [q'])) (fun q' => hb (by simp [q'])) q)) hf (Nat.le_refl _) new
    refine ⟨.ref s.heap.objs.size, _, I1, rfl, ⟨_, x, y, rfl, I.hok.fresh (Nat.le_refl _), rfl, fun l hl => by rw [I.list_inj hl hqx]; exact hx, fun l hl => by rw [I.tuple_inj hl hqy]; exact hy⟩, ⟨z'', ?_, ⟨x1, x2, ?_⟩, ?_, ?_⟩, fun c hcm => ?_⟩
    · exact (sb.2 _ D.TIz).trans (hk _ _ D.TIz D.TITO D.TIi1 D.TIi2 hTI)
    · exact (sb.2 _ D.TOz).trans TO'
    · exact h1'.1.at fun o q => (sb.2 _ D.i1z).trans q
    · exact h2'.1.at fun o q => (sb.2 _ D.i2z).trans q
    · have hlt : c < s.heap.objs.size := by
        have e' : c = z ∨ c = TI ∨ c = TO ∨ c = i1 ∨ c = i2 := by simpa using hcm
        rcases e' with q | q | q | q | q
        · rw [q]; exact hzl
        · rw [q]; exact Heap.lt_size hTI
        · rw [q]; exact Heap.lt_size hTO
        · rw [q]; obtain ⟨_, e1, _⟩ := h1; exact Heap.lt_size e1
        · rw [q]; obtain ⟨_, e2, _⟩ := h2; exact Heap.lt_size e2
      rw [upd_ne (Nat.ne_of_lt hlt)]
      exact (hf c hcm).1
  done := by
    intro X hP hw hK hc i pins s σ H E I hf st hg
    subst hP hw hK
    obtain ⟨hz, hTI, ⟨x0, y0, hTO⟩, h1, h2⟩ := st
    obtain ⟨xs, ys, hqx, hqy, le1, le2, hend⟩ := hg
    obtain ⟨its, rv, p, _⟩ := I.list hqx
    obtain ⟨its2, rv2, p2, _⟩ := I.tuple hqy
    have l1 := rv.length
    have l2 := rv2.length
    have hh : X.A.in1.handled = none := I.ok.hd hc
    exact wpAny_pyNext_zipD2_end (sepM D) (Draws.list hh i1 a D.l1i1 its.toArray) (Draws.tuple hh i2 b D.l2i2 its2.toArray) hz hTI hTO ⟨h1, p.isList⟩ ⟨h2, p2⟩ (by simp; omega) (by simp; omega) (by simp; omega) fun h' tk hk => ⟨rfl, I.turnedL (t' := tk) (ch := [z, TI, TO, i1, i2]) (fun c o hb q =>
      hk c o (fun q' => hb (by simp [q'])) (fun q' => hb (by simp [q'])) (fun q' => hb (by simp [q'])) (fun q' => hb (by simp [q'])) q) hf⟩
  self := fun A i s Q E st h => wpAny_pyIter_zip st.1 h
def iZipM (K : PySem.W.Frag) (ta : TA) : TI := fun σ H R => ta σ H fun vs H1 => ∃ a b xs ys, vs = [.ref a, .ref b] ∧ SqL K H1 a xs ∧ SqT K H1 b ys ∧ R (ItzM K a b) H1
theorem pi_zipM {X : Cx} {e e2 : Expr} {ta : TA} {p pos tpos : Pos} {elts : List Expr} {kk : Nat} (hg : Gl X "zip") (hm : X.mg "zip" = none) (ha : PA X [e, e2] ta)
    (hs : starEach [e, e2] X.env = (false, eval e X.env) :: starEach [e2] X.env := by rfl) (hpl : (backTo pos (starEach [e2] X.env)).any (·.1) = false := by rfl) :
    PI X (.Tuple elts kk tpos) (.Call (.Name "zip" p) [e, e2] [] pos) (iZipM X.K ta) := by
  refine ⟨fun pins s σ H R I h => ?_⟩
  refine Call_ (ld_blt I hg hm PyProof.Rows.boot_zip (PyProof.Rows.callWith_type1 (thn (ha.run pos pins s σ H _ I h) fun us s1 ⟨vs, H1, I1, r1, q1⟩ => ?_) hs hpl))
  obtain ⟨a, b, xs, ys, ex, hqx, hqy, q⟩ := q1
  subst ex
  cases r1 with
  | cons r rr =>
    cases rr with
    | cons r' rr =>
      cases rr
      cases r
      cases r'
      have fresh5 : ∀ c, c ∈ [s1.heap.objs.size + 4, s1.heap.objs.size + 2, s1.heap.objs.size + 3, s1.heap.objs.size, s1.heap.objs.size + 1] → FpOk X pins H1 c := fun c hcm => by
        have e' : c = s1.heap.objs.size + 4 ∨ c = s1.heap.objs.size + 2 ∨ c = s1.heap.objs.size + 3 ∨ c = s1.heap.objs.size ∨ c = s1.heap.objs.size + 1 := by simpa using hcm
        have hle : s1.heap.objs.size ≤ c := by
          rcases e' with z | z | z | z | z
          · rw [z]; exact Nat.le_add_right _ _
          · rw [z]; exact Nat.le_add_right _ _
          · rw [z]; exact Nat.le_add_right _ _
          · rw [z]; exact Nat.le_refl _
          · rw [z]; exact Nat.le_add_right _ _
        exact I1.fpOk hle (I1.hok.fresh hle)
      obtain ⟨its, rv, p1, _⟩ := I1.list hqx
      obtain ⟨its2, rv2, p2, _⟩ := I1.tuple hqy
      obtain ⟨o2, ho2, _⟩ := id p2
      refine zip_begins2 (begins_list a its.toArray) (begins_tuple b its2.toArray) p1.isList p2 fun h' hz hTI hTO h1 h2 hsz hk => wpAny_pyIter_zip hz ?_
      have I2 : Inv X pins σ H1 { s1 with heap := h' } := I1.kept (t' := s1.toks) hk
      exact ⟨s1.heap.objs.size + 4, [s1.heap.objs.size + 4, s1.heap.objs.size + 2, s1.heap.objs.size + 3, s1.heap.objs.size, s1.heap.objs.size + 1], _, _, H1, rfl, I2, turn_zipM (PySem.W.ktu_apart s1.heap.objs.size a b p1.lt (Heap.lt_size ho2)), ⟨hz, hTI, ⟨_, _, hTO⟩, ⟨_, h1, rfl, rfl⟩, ⟨_, h2, rfl, rfl⟩⟩, fresh5, q⟩
/-- a loop over zip of a list and a tuple of one length -/
theorem for_zipM {K : PySem.W.Frag} {a b : Addr} {xs ys : List V} {g : TG} {tb : TS} {D : Ends} {σ : L2.St} {H : Hp} (hl : xs.length = ys.length) (Pv : Nat → L2.St → Hp → Prop) (h0 : Pv 0 σ H) (hq : ∀ i σ H, Pv i σ H → SqL K H a xs ∧ SqT K H b ys)
    (hs : ∀ (i : Nat) (x y : V) (T : Addr) (σ : L2.St) (H : Hp), xs[i]? = some x → ys[i]? = some y → Pv i σ H → H T = none → g (.ref T) σ (upd H T (.tup [x, y])) fun σ2 H2 => tb { D with nx := Pv (i + 1), ct := Pv (i + 1), bk := D.nx } σ2 H2) (hd : ∀ σ H, Pv xs.length σ H → D.nx σ H) :
    ∃ W : Nat → Nat → L2.St → Hp → Prop, (∃ m, W 0 m σ H) ∧ ∀ i m σ H, W i m σ H →
      ((ItzM K a b).stop i H ∧ D.nx σ H) ∨ ((ItzM K a b).go i H ∧ ∃ N : L2.St → Hp → Prop, (∀ σ' H', N σ' H' → ∃ m', m' < m ∧ W (i + 1) m' σ' H') ∧ ∀ v H', (ItzM K a b).yld i H v H' → g v σ H' fun σ2 H2 => tb { D with nx := N, ct := N, bk := D.nx } σ2 H2) := by
  refine ⟨fun i m σ H => m = xs.length - i ∧ i ≤ xs.length ∧ Pv i σ H, ⟨xs.length, rfl, Nat.zero_le _, h0⟩, ?_⟩
  rintro i m σ H ⟨rfl, hi, p⟩
  obtain ⟨qx, qy⟩ := hq i σ H p
  by_cases hlt : i < xs.length
  · have hx : xs[i]? = some xs[i] := List.getElem?_eq_getElem hlt
    have hlt2 : i < ys.length := by omega
    have hy : ys[i]? = some ys[i] := List.getElem?_eq_getElem hlt2
    refine .inr ⟨⟨xs, ys, _, _, qx, qy, hx, hy⟩, Pv (i + 1), fun σ' H' p' => ⟨xs.length - (i + 1), by omega, rfl, hlt, p'⟩, fun v H' y => ?_⟩
    obtain ⟨T, x', y', rfl, hT, rfl, f1, f2⟩ := y
    exact hs i x' y' T σ H (f1 xs qx) (f2 ys qy) p hT
  · have e : i = xs.length := by omega
    subst e
    exact .inl ⟨⟨xs, ys, qx, qy, Nat.le_refl _, by omega, .inl rfl⟩, hd σ H p⟩
/-- a dict's comprehension over zip of two tuples of one length -/
theorem dc_zipT {K : PySem.W.Frag} {a b : Addr} {xs ys : List V} {g : TG} {tt : TT} {tk tv : TE} {vs : List Nat} {σ : L2.St} {H1 : Hp} {D : Addr} {Qd : Hp → Prop} (hl : xs.length = ys.length) (Pv : Nat → Hp → Prop) (h0 : Pv 0 (upd H1 D (.dK []))) (hq : ∀ i H, Pv i H → SqT K H a xs ∧ SqT K H b ys)
    (hs : ∀ (i : Nat) (x y : V) (T : Addr) (H : Hp), xs[i]? = some x → ys[i]? = some y → Pv i H → H T = none → g (.ref T) (wipe σ vs) (upd H T (.tup [x, y])) fun σ2 H2 => wipe σ2 vs = wipe σ vs ∧ tt σ2 H2 fun b H3 =>
      if b = true then tk σ2 H3 fun y H4 => tv σ2 H4 fun z H5 => ∃ kvs k, y = kV k ∧ H5 D = some (.dK kvs) ∧ kvs.length < sizeLine ∧ Pv (i + 1) (upd H5 D (.dK (putK kvs k z))) else Pv (i + 1) H3) (hd : ∀ H, Pv xs.length H → Qd H) :
    ∃ W : Nat → Nat → Hp → Prop, (∃ m, W 0 m (upd H1 D (.dK []))) ∧ ∀ i m H, W i m H →
      ((RZ.ItzT K a b).stop i H ∧ Qd H) ∨ ((RZ.ItzT K a b).go i H ∧ ∃ Nx : Hp → Prop, (∀ H', Nx H' → ∃ m', m' < m ∧ W (i + 1) m' H') ∧ ∀ x H', (RZ.ItzT K a b).yld i H x H' → g x (wipe σ vs) H' fun σ2 H2 => wipe σ2 vs = wipe σ vs ∧ tt σ2 H2 fun b H3 =>
        if b = true then tk σ2 H3 fun y H4 => tv σ2 H4 fun z H5 => ∃ kvs k, y = kV k ∧ H5 D = some (.dK kvs) ∧ kvs.length < sizeLine ∧ Nx (upd H5 D (.dK (putK kvs k z))) else Nx H3) := by
  refine ⟨fun i m H => m = xs.length - i ∧ i ≤ xs.length ∧ Pv i H, ⟨xs.length, by simp, Nat.zero_le _, h0⟩, ?_⟩
  rintro i m H ⟨rfl, hi, p⟩
  obtain ⟨qx, qy⟩ := hq i H p
  by_cases hlt : i < xs.length
  · have hx : xs[i]? = some xs[i] := List.getElem?_eq_getElem hlt
    have hlt2 : i < ys.length := by omega
    have hy : ys[i]? = some ys[i] := List.getElem?_eq_getElem hlt2
    refine .inr ⟨⟨xs, ys, _, _, qx, qy, hx, hy⟩, Pv (i + 1), fun H' p' => ⟨xs.length - (i + 1), by omega, rfl, hlt, p'⟩, fun v H' y => ?_⟩
    obtain ⟨T, x', y', rfl, hT, rfl, f1, f2⟩ := y
    exact hs i x' y' T H (f1 xs qx) (f2 ys qy) p hT
  · have e : i = xs.length := by omega
    subst e
    exact .inl ⟨⟨xs, ys, qx, qy, .inl (Nat.le_refl _)⟩, hd H p⟩
end Wm
namespace Wm
open PySem PySem.Spec PyProof.Rows L2
/-- for over zip of a list and a tuple of any lengths -/
theorem for_zipN {K : PySem.W.Frag} {a b : Addr} {xs ys : List V} {g : TG} {tb : TS} {D : Ends} {σ : L2.St} {H : Hp} (Pv : Nat → L2.St → Hp → Prop) (h0 : Pv 0 σ H) (hq : ∀ i σ H, Pv i σ H → SqL K H a xs ∧ SqT K H b ys)
    (hs : ∀ (i : Nat) (x y : V) (T : Addr) (σ : L2.St) (H : Hp), xs[i]? = some x → ys[i]? = some y → Pv i σ H → H T = none → g (.ref T) σ (upd H T (.tup [x, y])) fun σ2 H2 => tb { D with nx := Pv (i + 1), ct := Pv (i + 1), bk := D.nx } σ2 H2) (hd : ∀ σ H, Pv (min xs.length ys.length) σ H → D.nx σ H) :
    ∃ W : Nat → Nat → L2.St → Hp → Prop, (∃ m, W 0 m σ H) ∧ ∀ i m σ H, W i m σ H →
      ((ItzM K a b).stop i H ∧ D.nx σ H) ∨ ((ItzM K a b).go i H ∧ ∃ N : L2.St → Hp → Prop, (∀ σ' H', N σ' H' → ∃ m', m' < m ∧ W (i + 1) m' σ' H') ∧ ∀ v H', (ItzM K a b).yld i H v H' → g v σ H' fun σ2 H2 => tb { D with nx := N, ct := N, bk := D.nx } σ2 H2) := by
  refine ⟨fun i m σ H => m = min xs.length ys.length - i ∧ i ≤ min xs.length ys.length ∧ Pv i σ H, ⟨min xs.length ys.length, rfl, Nat.zero_le _, h0⟩, ?_⟩
  rintro i m σ H ⟨rfl, hi, p⟩
  obtain ⟨qx, qy⟩ := hq i σ H p
  by_cases hlt : i < min xs.length ys.length
  · have l1 : i < xs.length := by omega
    have l2 : i < ys.length := by omega
    refine .inr ⟨⟨xs, ys, _, _, qx, qy, List.getElem?_eq_getElem l1, List.getElem?_eq_getElem l2⟩, Pv (i + 1), fun σ' H' p' => ⟨min xs.length ys.length - (i + 1), by omega, rfl, hlt, p'⟩, fun v H' y => ?_⟩
    obtain ⟨T, x', y', rfl, hT, rfl, f1, f2⟩ := y
    exact hs i x' y' T σ H (f1 xs qx) (f2 ys qy) p hT
  · have e : i = min xs.length ys.length := by omega
    exact .inl ⟨⟨xs, ys, qx, qy, by omega, by omega, by omega⟩, hd σ H (by rw [← e]; exact p)⟩
end Wm
/-! sets of tuples whose items are texts or whole numbers: set(xs), {t for ..}, sorted(set) -/
namespace Wm
open PySem PySem.Spec PyProof.Rows L2

section
variable {P : Program} {w : World} {A : Around} {E : Value → Shared → Prop} {s : Shared}
/-! ### what a table asks of its keys -/
abbrev kHash (P : Program) (w : World) (k : List L2.Key) : Int := tupleKeyHash (mixKind P w) k
abbrev KeyAt (P : Program) (w : World) (h : Heap) (k : List L2.Key) (b : Addr) : Prop := IsTupleKey (mixKind P w) h k b
/-- an item of a key -/
inductive Flat : Value → Prop
  | int (i : Int) (t : Tok) : Flat (.int i t)
  | str (x : Str) (t : Tok) : Flat (.str x t)
theorem flat_items {k : List L2.Key} {vs : List Value} (h : ItemsAre (mixKind P w) k vs) : ∀ v ∈ vs, Flat v := by
  induction h with
  | nil => exact fun v hv => absurd hv List.not_mem_nil
  | cons hd _ ih =>
    intro v hv
    cases hv with
    | head =>
      obtain ⟨i, t, _, e⟩ | ⟨x, t, _, e⟩ := keyIs_shape hd
      · rw [e]
        exact .int i t
      · rw [e]
        exact .str x t
    | tail _ hv => exact ih v hv
theorem KeyAt.flat {k : List L2.Key} {b : Addr} {h : Heap} (hk : KeyAt P w h k b) : ∃ (o : Obj) (items : Array Value) (n : Nat), h.get? b = some o ∧ o.data = .seq items n ∧ ∀ v ∈ items.toList, Flat v := by
  obtain ⟨o, items, n, ho, _, hd, hi⟩ := hk
  exact ⟨o, items, n, ho, hd, flat_items hi⟩
/-- a walk over flat items whose every turn answers the same and goes on, or ends with an answer -/
theorem flat_walk {items : Array Value} {Q : Option Bool × PUnit → Shared → Prop} {f : Value → Option Bool × PUnit → Sem (ForInStep (Option Bool × PUnit))} (hf : ∀ v ∈ items.toList, Flat v) (none_ : Q (none, ⟨⟩) s)
    (turn : ∀ v, Flat v → ∀ (R : ForInStep (Option Bool × PUnit) → Shared → Prop), R (.yield (none, ⟨⟩)) s → (∀ b, Q b s → R (.done b) s) → wpAny (model P w) A (f v (none, ⟨⟩)) R E s) :
    wpAny (model P w) A (forIn items (none, ⟨⟩) f) Q E s := by
  rw [← Array.forIn_toList]
  generalize items.toList = vs at hf
  induction vs with
  | nil =>
    rw [List.forIn_nil]
    exact wpAny_pure none_
  | cons v r ih =>
    rw [List.forIn_cons]
    refine wpAny_bind (turn v (hf v List.mem_cons_self) _ ?_ fun b hb => wpAny_pure hb)
    exact ih fun u hu => hf u (List.mem_cons_of_mem _ hu)
/-- a flat value is no class's statement, and its hash is of no class's making -/
theorem flat_cls {v : Value} (f : Flat v) (n : Nat) : ofAClassStatement n v = pure false := by
  cases f <;> cases n <;> rfl
theorem flat_hash {v : Value} (f : Flat v) (n : Nat) : ∃ b, hashByValue n v = pure b := by
  cases f with
  | int i t => exact ⟨true, by cases n <;> rfl⟩
  | str x t => exact ⟨false, by cases n <;> rfl⟩
theorem key_cls {k : List L2.Key} {b : Addr} {Q : Bool → Shared → Prop} (hk : KeyAt P w s.heap k b) (q : Q false s) : wpAny (model P w) A (ofAClassStatement 8 (.ref b)) Q E s := by
  have ty := hk.typeIs
  obtain ⟨o, items, n, ho, hd, hf⟩ := hk.flat
  unfold ofAClassStatement
  refine wpAny_bind (wpAny_typeOf ty ?_)
  dsimp only
  rw [if_pos (show (("tuple" : String) == "tuple") = true by decide)]
  refine wpAny_bind (wpAny_pure ?_)
  refine wp_if_neg (by decide) ?_
  refine wpAny_bind (wpAny_seqItems ho hd ?_)
  dsimp only
  refine wpAny_bind (flat_walk hf (by exact wpAny_pure q) fun v hv R ry _ => ?_)
  rw [flat_cls hv]
  exact wpAny_bind (wpAny_pure (wpAny_pure ry))
theorem key_hash {k : List L2.Key} {b : Addr} {Q : Bool → Shared → Prop} (hk : KeyAt P w s.heap k b) (q : ∀ c, Q c s) : wpAny (model P w) A (hashByValue 8 (.ref b)) Q E s := by
  have ty := hk.typeIs
  obtain ⟨o, items, n, ho, hd, hf⟩ := hk.flat
  unfold hashByValue
  refine wpAny_bind (wpAny_specialOf ty F.slot_tuple_hash.lookup ?_)
  dsimp only
  refine wpAny_bind (wpAny_seqItems ho hd ?_)
  refine wpAny_bind (flat_walk hf (by exact wpAny_pure (q _)) fun v hv R ry rd => ?_)
  obtain ⟨c, e⟩ := flat_hash hv 7
  rw [e]
  refine wpAny_bind (wpAny_pure ?_)
  cases c with
  | true => exact wpAny_pure ry
  | false => exact wpAny_pure (rd _ (wpAny_pure (q _)))
/-- a search among keys shows nothing -/
theorem key_seen {k : List L2.Key} {b : Addr} {Q : Bool → Shared → Prop} (hk : KeyAt P w s.heap k b) {ys : List Value} (hy : ∀ y ∈ ys, ∃ k' c, y = .ref c ∧ KeyAt P w s.heap k' c) (q : Q false s) :
    wpAny (model P w) A (searchCouldBeSeen (.ref b) ys) Q E s := by
  unfold searchCouldBeSeen
  refine wpAny_bind (wpAny_forIn_list _ (fun rest r s' => (∀ y ∈ rest, ∃ k' c, y = Value.ref c ∧ KeyAt P w s.heap k' c) ∧ r = (none, PUnit.unit) ∧ s' = s) _ (fun y rest r s' hr => ?_) (fun r s' hr => ?_) ys _ ⟨hy, rfl, rfl⟩)
  · obtain ⟨all, rfl, rfl⟩ := hr
    obtain ⟨k', c, rfl, hc⟩ := all y List.mem_cons_self
    have next : (∀ u ∈ rest, ∃ k' c, u = Value.ref c ∧ KeyAt P w s'.heap k' c) ∧ ((none : Option Bool), PUnit.unit) = (none, PUnit.unit) ∧ s' = s' := ⟨fun u hu => all u (List.mem_cons_of_mem _ hu), rfl, rfl⟩
    dsimp only
    split
    · exact wpAny_pure next
    · refine wpAny_bind (wpAny_eqIsQuiet_tuple hk (wp_if_neg (by decide) ?_))
      refine wpAny_bind (wpAny_eqIsQuiet_tuple hc (wp_if_neg (by decide) ?_))
      refine wpAny_bind (key_cls hk (wp_if_neg (by decide) ?_))
      exact wpAny_bind (key_cls hc (wp_if_neg (by decide) (wpAny_pure next)))
  · obtain ⟨_, rfl, rfl⟩ := hr
    exact wpAny_pure q
/-! ### the table -/
/-- the set at a; its members stand in L as their slots do -/
structure KTab (P : Program) (w : World) (a : Addr) (L : List (Addr × List L2.Key)) (h : Heap) (es : Array (Int × Value)) (ep : Nat) (t : SetTable) : Prop where
  obj : ∃ o, h.get? a = some o ∧ o.ExactSet ∧ o.data = .set es ep t
  row : es.toList = L.map fun m => (kHash P w m.2, Value.ref m.1)
  tab : TabOk t (L.map fun m => kHash P w m.2)
  nod : (L.map (·.2)).Nodup
  led : w.params.followText "set-order" = true ∨ t.led = true
  room : L.length * 5 < t.mask * 3
  few : L.length < 64
/-- the members are keys -/
abbrev Mems (P : Program) (w : World) (h : Heap) (L : List (Addr × List L2.Key)) : Prop := ∀ m ∈ L, KeyAt P w h m.2 m.1
variable {a : Addr} {L : List (Addr × List L2.Key)} {es : Array (Int × Value)} {ep : Nat} {t : SetTable}
theorem rows_size {h : Array (Int × Value)} (e : h.toList = L.map fun m => (kHash P w m.2, Value.ref m.1)) : h.size = L.length := by
  rw [← Array.length_toList, e, List.length_map]
theorem rows_at {h : Array (Int × Value)} (e : h.toList = L.map fun m => (kHash P w m.2, Value.ref m.1)) {i : Nat} {m : Addr × List L2.Key} (hm : L[i]? = some m) : h[i]? = some (kHash P w m.2, Value.ref m.1) := by
  rw [← Array.getElem?_toList, e, List.getElem?_map, hm]
  rfl
theorem place_size (T : TabOk t (L.map fun m => kHash P w m.2)) : t.place.size = L.length := by
  rw [T.sz, List.length_map]
theorem fits_of (dm : t.dummies = #[]) {n : Nat} (e : t.place.size = n) (l : n ≤ t.mask) : t.fits n = true := by
  unfold SetTable.fits SetTable.fill
  rw [dm, Bool.and_eq_true, beq_iff_eq, decide_eq_true_eq]
  exact ⟨e, show t.place.size + 0 ≤ t.mask by omega⟩
theorem KTab.fits {h : Heap} (R : KTab P w a L h es ep t) : t.fits es.size = true := by
  have r := R.room
  have z := rows_size R.row
  exact fits_of R.tab.dm (by rw [place_size R.tab, z]) (by omega)
theorem not_gave {hs : List Int} (T : TabOk t hs) : ¬ t.gaveWay = true := by
  unfold SetTable.gaveWay
  rw [mask_odd T.mok]
  decide
/-- the way of a search for the hash h, behind c steps -/
abbrev step (t : SetTable) (h : Int) (c : Nat) : SetTable.Probe := nth t.mask (runAt t.mask (SetTable.bits h % (t.mask + 1)) (SetTable.bits h)) c
theorem step_clean (t : SetTable) (h : Int) (c : Nat) : (step t h c).dummy = none := by
  induction c with
  | zero => rfl
  | succ c ih =>
    show (nth _ _ _).dummy = none
    rw [nth_succ]
    unfold adv
    split <;> exact ih
theorem step_step (t : SetTable) (h : Int) (c q : Nat) : nth t.mask (step t h c) q = step t h (c + q) := (nth_add t.mask c _ q).symm
/-- what the probe that starts behind c steps meets: the first slot of that hash, or the free slot behind K steps -/
theorem step_probe {hs : List Int} (T : TabOk t hs) (hashAt : Nat → Int) {h : Int} {K c : Nat} (hc : c ≤ K) (hK : K < 10 * SetTable.turns t.mask) (free : (step t h K).j ∉ t.place.toList) (full : ∀ q, q < K → (step t h q).j ∈ t.place.toList) :
    (∃ q i, c ≤ q ∧ q < K ∧ t.place.toList[i]? = some (step t h q).j ∧ (∀ q' i', c ≤ q' → q' < q → t.place.toList[i']? = some (step t h q').j → hashAt i' ≠ h) ∧ t.probe hashAt h (step t h c) = some (.candidate (step t h q).j i (step t h (q + 1)))) ∨
    ((∀ q' i', c ≤ q' → q' < K → t.place.toList[i']? = some (step t h q').j → hashAt i' ≠ h) ∧ t.probe hashAt h (step t h c) = some (.empty (step t h K).j none)) := by
  have g := go_spec t T.ris T.dm hashAt h (10 * SetTable.turns t.mask) (K - c) (step t h c) (step_clean t h c) (by omega) (fun q hq => by rw [step_step]; exact full _ (by omega)) (by rw [step_step, show c + (K - c) = K by omega]; exact free)
  rcases g with ⟨q, i, hq, hi, _, no, pr⟩ | ⟨no, pr⟩
  · refine .inl ⟨c + q, i, by omega, by omega, by rw [← step_step]; exact hi, fun q' i' h1 h2 e => ?_, ?_⟩
    · refine no (q' - c) i' (by omega) ?_
      rw [step_step, show c + (q' - c) = q' by omega]
      exact e
    · rw [step_step, step_step] at pr
      exact pr
  · refine .inr ⟨fun q' i' h1 h2 e => ?_, ?_⟩
    · refine no (q' - c) i' (by omega) ?_
      rw [step_step, show c + (q' - c) = q' by omega]
      exact e
    · rw [step_step, show c + (K - c) = K by omega] at pr
      exact pr
/-- THE SEARCH, from behind c steps on; what is sought stands on the way still to go, if at all -/
theorem k_seek (R : KTab P w a L s.heap es ep t) (ms : Mems P w s.heap L) {x : Addr} {k : List L2.Key} (hx : KeyAt P w s.heap k x) (hu : A.units < cLine) {K : Nat} (hK : K < 10 * SetTable.turns t.mask)
    (free : (step t (kHash P w k) K).j ∉ t.place.toList) (full : ∀ q, q < K → (step t (kHash P w k) q).j ∈ t.place.toList) {Q : SetFound → Shared → Prop}
    (there : k ∈ L.map (·.2) → Q (.there none) s) (gone : k ∉ L.map (·.2) → Q (.free (step t (kHash P w k) K).j false) s) :
    ∀ (d c f : Nat) (stand : Option SetTable.Probe), c + d = K → d < f → stand.getD (t.probeStart (kHash P w k)) = step t (kHash P w k) c →
      (∀ (i : Nat) m, L[i]? = some m → m.2 = k → ∃ q, c ≤ q ∧ q < K ∧ t.place.toList[i]? = some (step t (kHash P w k) q).j) →
      wpAny (model P w) A (setSearchFrom a (.ref x) (kHash P w k) true f stand) Q E s := by
  intro d
  induction d using Nat.strongRecOn with
  | ind d ih =>
    intro c f stand hcd hf hst ahead
    obtain ⟨f, rfl⟩ : ∃ g, f = g + 1 := ⟨f - 1, by omega⟩
    obtain ⟨o, ho, hex, hd⟩ := R.obj
    rw [setSearchFrom_succ]
    refine wpAny_bind (wpAny_setState_of ho hd R.fits ?_)
    dsimp only
    refine wp_if_neg (not_gave R.tab) ?_
    rw [hst]
    have hashes : ∀ (i : Nat) m, L[i]? = some m → ((es[i]?.map (·.1)).getD 0) = kHash P w m.2 := fun i m e => by
      rw [rows_at R.row e]
      rfl
    rcases step_probe R.tab (fun i => (es[i]?.map (·.1)).getD 0) (h := kHash P w k) (c := c) (by omega) hK free full with ⟨q, i, h1, h2, hi, no, pr⟩ | ⟨no, pr⟩
    · rw [pr]
      dsimp only
      have il : i < L.length := by
        have z := (List.getElem?_eq_some_iff.mp hi).1
        rw [Array.length_toList, place_size R.tab] at z
        exact z
      obtain ⟨m, hm⟩ : ∃ m, L[i]? = some m := ⟨_, List.getElem?_eq_getElem il⟩
      have hmem := List.mem_of_getElem? hm
      have look : wpAny (model P w) A (searchRest a (.ref x) (kHash P w k) true f es t (step t (kHash P w k) q).j i (step t (kHash P w k) (q + 1))) Q E s := by
        unfold searchRest
        rw [rows_at R.row hm]
        dsimp only
        refine wpAny_bind (wpAny_holding (wpAny_eqBool_tuple hu (ms m hmem) hx ?_))
        refine wpAny_bind (wpAny_setState_of ho hd R.fits ?_)
        dsimp only
        by_cases ek : m.2 = k
        · exact wp_if_pos (by rw [decide_eq_true ek]; rfl) (wpAny_pure (there (List.mem_map.mpr ⟨m, hmem, ek⟩)))
        · refine wp_if_neg (by rw [decide_eq_false ek]; decide) ?_
          rw [sameMem]
          have sl := slot_live R.tab.ris hi
          dsimp only
          simp only [if_true, sl, rows_at R.row hm]
          refine wpAny_bind (wpAny_isSame_ref_self (wpAny_bind (wpAny_pure ?_)))
          simp only [if_true]
          refine wp_if_neg (by rw [decide_eq_false ek]; decide) ?_
          refine ih (K - (q + 1)) (by omega) (q + 1) f _ (by omega) (by omega) rfl fun i0 m0 e0 k0 => ?_
          obtain ⟨q0, a1, a2, a3⟩ := ahead i0 m0 e0 k0
          refine ⟨q0, ?_, a2, a3⟩
          rcases Nat.lt_trichotomy q0 q with z | z | z
          · exact absurd ((hashes i0 m0 e0).trans (by rw [k0])) (no q0 i0 a1 z a3)
          · rw [z] at a3
            have z2 : SetTable.Slot.live i0 = .live i := (slot_live R.tab.ris a3).symm.trans sl
            cases z2
            rw [hm] at e0
            cases e0
            exact absurd k0 ek
          · exact z
      by_cases hl : t.led = true
      · exact wp_if_neg (by rw [hl]; decide) look
      · refine wp_if_pos (by rw [Bool.not_eq_true] at hl; rw [hl]; rfl) ?_
        refine wpAny_bind (key_seen hx (fun y hy => ?_) (wp_if_neg (by decide) look))
        obtain ⟨e, he, rfl⟩ := List.mem_map.mp hy
        have he2 : e ∈ es.toList := by
          have z : e ∈ es ∧ e.1 = kHash P w k := by simpa using he
          simpa using z.1
        rw [R.row] at he2
        obtain ⟨m2, hm2, rfl⟩ := List.mem_map.mp he2
        exact ⟨m2.2, m2.1, rfl, ms m2 hm2⟩
    · rw [pr]
      dsimp only
      refine wpAny_pure (gone fun hm => ?_)
      obtain ⟨m0, h0, k0⟩ := List.mem_map.mp hm
      obtain ⟨i0, e0⟩ := List.mem_iff_getElem?.mp h0
      obtain ⟨q0, a1, a2, a3⟩ := ahead i0 m0 e0 k0
      exact no q0 i0 a1 a2 a3 ((hashes i0 m0 e0).trans (by rw [k0]))
/-- the search as set.add asks it -/
theorem k_search (R : KTab P w a L s.heap es ep t) (ms : Mems P w s.heap L) {x : Addr} {k : List L2.Key} (hx : KeyAt P w s.heap k x) (hu : A.units < cLine) {Q : SetFound → Shared → Prop} (there : k ∈ L.map (·.2) → Q (.there none) s)
    (gone : ∀ K, k ∉ L.map (·.2) → (step t (kHash P w k) K).j ∉ t.place.toList → (∀ q, q < K → (step t (kHash P w k) q).j ∈ t.place.toList) → Q (.free (step t (kHash P w k) K).j false) s) :
    wpAny (model P w) A (setSearch a (.ref x) (kHash P w k) true) Q E s := by
  have room := R.room
  obtain ⟨K, hK, free, full⟩ := R.tab.first (by rw [List.length_map]; omega) (kHash P w k)
  have few : 10 * SetTable.turns t.mask ≤ 1420 := by
    unfold SetTable.turns
    rcases R.tab.mok with e | e | e <;> omega
  unfold setSearch
  refine k_seek R ms hx hu hK free full there (fun no => gone K no free full) K 0 _ none (Nat.zero_add K) (by omega) rfl fun i m e ek => ?_
  have il : i < t.place.toList.length := by
    rw [Array.length_toList, place_size R.tab]
    exact (List.getElem?_eq_some_iff.mp e).1
  have hj := List.getElem?_eq_getElem il
  obtain ⟨q, hq, eq⟩ := R.tab.before free (i := i) (by rw [List.getElem?_map, e, ← ek]; rfl) hj
  exact ⟨q, Nat.zero_le _, hq, hj.trans (by rw [← eq])⟩
/-- rows taken in another order -/
theorem take_order {α β γ : Type} (f : α → β) (g : β → γ) (d : γ) {L : List α} {es : Array β} (he : es.toList = L.map f) : ∀ l : List Nat, (∀ i ∈ l, i < L.length) →
    ∃ M : List α, M = l.filterMap (fun i => L[i]?) ∧ l.filterMap (fun i => es[i]?) = M.map f ∧ (M.map fun m => g (f m)) = l.map fun i => (es.map g).getD i d
  | [], _ => ⟨[], rfl, rfl, rfl⟩
  | i :: l, h => by
    obtain ⟨M, e1, e2, e3⟩ := take_order f g d he l fun j hj => h j (List.mem_cons_of_mem _ hj)
    have hi := h i List.mem_cons_self
    have hL : L[i]? = some L[i] := List.getElem?_eq_getElem hi
    have hE : es[i]? = some (f L[i]) := by
      rw [← Array.getElem?_toList, he, List.getElem?_map, hL]
      rfl
    refine ⟨L[i] :: M, by rw [List.filterMap_cons_some hL, ← e1], by rw [List.filterMap_cons_some hE, e2, List.map_cons], ?_⟩
    have hg : (es.map g).getD i d = g (f L[i]) := by
      rw [Array.getD_eq_getD_getElem?, Array.getElem?_map, hE]
      rfl
    rw [List.map_cons, List.map_cons, e3, hg]
theorem range_all {α : Type} (L : List α) : (List.range L.length).filterMap (fun i => L[i]?) = L := by
  have go : ∀ n, n ≤ L.length → (List.range n).filterMap (fun i => L[i]?) = L.take n := fun n => by
    induction n with
    | zero => exact fun _ => rfl
    | succ n ih =>
      intro hn
      have e : L[n]? = some L[n] := List.getElem?_eq_getElem hn
      rw [List.range_succ, List.filterMap_append, ih (Nat.le_of_succ_le hn), List.take_add_one, e, List.filterMap_cons_some e]
      rfl
  rw [go _ (Nat.le_refl _), List.take_length]
/-- the table laid anew -/
theorem k_relay {o : Obj} (ho : s.heap.get? a = some o) (hex : o.ExactSet) (hd : o.data = .set es ep t) (row : es.toList = L.map fun m => (kHash P w m.2, Value.ref m.1)) (T : TabOk t (L.map fun m => kHash P w m.2)) (fill : L.length ≤ t.mask)
    (nod : (L.map (·.2)).Nodup) (led : w.params.followText "set-order" = true ∨ t.led = true) (few : L.length < 64) {wanted M : Nat} (hw : SetTable.sizeAbove wanted - 1 = M) (hM : MaskOk M) (small : SetTable.sizeAbove wanted ≤ 128) (room : L.length * 5 < M * 3) {Q : Unit → Shared → Prop}
    (q : ∀ h' L' es' ep' t', Heap.SameBut a s.heap h' → KTab P w a L' h' es' ep' t' → L'.Perm L → Q () { s with heap := h' }) : wpAny (model P w) A (setRelay a wanted) Q E s := by
  have size := rows_size row
  obtain ⟨t', order, e, perm, T', em, el, _, _⟩ := relaid_ok t (hs := es.map (·.1)) hw hM (by rw [Array.size_map, size]; omega)
  rw [Array.size_map, size] at perm
  obtain ⟨L', l1, l2, l3⟩ := take_order (fun m : Addr × List L2.Key => (kHash P w m.2, Value.ref m.1)) (·.1) 0 row order.toList fun i hi => List.mem_range.mp (perm.mem_iff.mp hi)
  have pL : L'.Perm L := by
    rw [l1]
    have z := perm.filterMap (fun i => L[i]?)
    rw [range_all] at z
    exact z
  have row' : (order.filterMap (es[·]?)).toList = L'.map fun m => (kHash P w m.2, Value.ref m.1) := by
    rw [← l2]
    simp
  have size' := rows_size row'
  rw [pL.length_eq] at size'
  rw [← l3] at T'
  rw [setRelay_eq]
  refine wpAny_bind (wpAny_setState_of ho hd (fits_of T.dm (by rw [place_size T, size]) (by omega)) ?_)
  dsimp only
  refine wp_if_neg (by rw [sizeLine_eq]; omega) ?_
  rw [e]
  dsimp only
  refine wpAny_bind (wp_if_neg (by rw [size', size]; simp) (wpAny_pure ?_))
  dsimp only
  refine wpAny_storeSet_of ho hd ?_ (by rw [size', sizeLine_eq]; omega)
  exact q _ L' _ (ep + 1) t' (Heap.SameBut.update ..) ⟨⟨_, store_at ho hd, ⟨hex.1, hex.2.1, hex.2.2⟩, rfl⟩, row', T', ((pL.map (·.2)).nodup_iff).mpr nod, by rw [el]; exact led, by rw [pL.length_eq, em]; exact room, by rw [pL.length_eq]; exact few⟩ pL
/-- whether a hash is by value is all that a table keeps of it -/
theorem TabOk.plain {hs : List Int} (T : TabOk t hs) (c : Bool) : TabOk (if c = true then t else { t with plain := false }) hs ∧ (if c = true then t else { t with plain := false }).mask = t.mask ∧
    (if c = true then t else { t with plain := false }).led = t.led ∧ (if c = true then t else { t with plain := false }).fill = t.fill := by
  cases c
  · exact ⟨⟨T.ris, T.dm, T.sz, T.mok, T.bd, T.reach⟩, rfl, rfl, rfl⟩
  · exact ⟨T, rfl, rfl, rfl⟩
/-- ADDING -/
theorem k_add (R : KTab P w a L s.heap es ep t) (ms : Mems P w s.heap L) {x : Addr} {k : List L2.Key} (hx : KeyAt P w s.heap k x) (hu : A.units < cLine) (few : L.length + 1 < 64) {Q : Bool → Shared → Prop}
    (q : ∀ b h' L' es' ep' t', Heap.SameBut a s.heap h' → KTab P w a L' h' es' ep' t' → (k ∈ L.map (·.2) → L' = L) → (k ∉ L.map (·.2) → L'.Perm ((x, k) :: L)) → Q b { s with heap := h' }) :
    wpAny (model P w) A (setAddHashed a (.ref x) (kHash P w k)) Q E s := by
  obtain ⟨o, ho, hex, hd⟩ := R.obj
  have size := rows_size R.row
  have room := R.room
  unfold setAddHashed
  refine wpAny_holding ?_
  rw [show (100000 : Nat) = 99999 + 1 from rfl, setAddHashedIn_succ]
  refine wpAny_bind (wpAny_setState_of ho hd R.fits ?_)
  dsimp only
  refine wp_if_neg (by unfold byScan; rw [show (Value.ref x).scannable = false from rfl, Bool.false_and, Bool.false_and]; exact Bool.false_ne_true) ?_
  refine wpAny_bind (k_search R ms hx hu (fun hm => ?_) fun K hm free full => ?_)
  · exact wpAny_pure (q false s.heap L es ep t (Heap.SameBut.refl a s.heap) R (fun _ => rfl) fun z => absurd hm z)
  dsimp only
  refine wpAny_bind (wpAny_setState_of ho hd R.fits ?_)
  dsimp only
  obtain ⟨p1, p2, p3, p4, p5, _, _, _, p9⟩ := R.tab.put free full
  generalize hpt : t.put (step t (kHash P w k) K).j = pt at p1 p3 p4 p5 p9 ⊢
  obtain ⟨t1, p⟩ := pt
  dsimp only at p1 p3 p4 p5 p9 ⊢
  rw [← p1] at p2 p3
  have rest : ∀ c : Bool, wpAny (model P w) A (do
      let t := if c = true then t1 else { t1 with plain := false }
      storeSet a (SetTable.insertAt es p (kHash P w k, .ref x)) t
      if (!false && t.tooFull) = true then setRelay a (SetTable.grown (es.size + 1))
      return true) Q E s := fun c => by
    obtain ⟨c1, c2, c3, c4⟩ := TabOk.plain p3 c
    generalize (if c = true then t1 else { t1 with plain := false }) = t2 at c1 c2 c3 c4 ⊢
    dsimp only
    -- the rows with the new one
    have pm : (L.take p ++ (x, k) :: L.drop p).Perm ((x, k) :: L) := by
      have z : (L.take p ++ (x, k) :: L.drop p).Perm ((x, k) :: (L.take p ++ L.drop p)) := List.perm_middle
      rw [List.take_append_drop] at z
      exact z
    have row1 : (SetTable.insertAt es p (kHash P w k, Value.ref x)).toList = (L.take p ++ (x, k) :: L.drop p).map fun m => (kHash P w m.2, Value.ref m.1) := by
      rw [SetTable.toList_insertAt, R.row, List.map_append, List.map_cons, List.map_take, List.map_drop]
    have tab1 : TabOk t2 ((L.take p ++ (x, k) :: L.drop p).map fun m => kHash P w m.2) := by
      rw [List.map_append, List.map_cons, List.map_take, List.map_drop]
      exact c1
    have nod1 : ((L.take p ++ (x, k) :: L.drop p).map (·.2)).Nodup := ((pm.map (·.2)).nodup_iff).mpr (List.nodup_cons.mpr ⟨hm, R.nod⟩)
    have size1 := rows_size row1
    have len1 : (L.take p ++ (x, k) :: L.drop p).length = L.length + 1 := pm.length_eq
    rw [len1] at size1
    generalize SetTable.insertAt es p (kHash P w k, Value.ref x) = es1 at row1 size1 ⊢
    generalize L.take p ++ (x, k) :: L.drop p = L1 at pm row1 tab1 nod1 len1
    refine wpAny_bind (wpAny_storeSet_of ho hd ?_ (by rw [size1, sizeLine_eq]; omega))
    have sb : Heap.SameBut a s.heap (s.heap.update a (Obj.putSet es1 t2)) := Heap.SameBut.update ..
    have ho1 := store_at (es' := es1) (t' := t2) ho hd
    generalize s.heap.update a (Obj.putSet es1 t2) = h1 at sb ho1 ⊢
    have led1 : w.params.followText "set-order" = true ∨ t2.led = true := by rw [c3, p5]; exact R.led
    have mask1 : t2.mask = t.mask := c2.trans p4
    have fill1 : t2.fill = L.length + 1 := by rw [c4, p9, List.length_map]
    by_cases full2 : t2.tooFull = true
    · have big : (L.length + 1) * 5 ≥ t2.mask * 3 := by
        have z := full2
        unfold SetTable.tooFull at z
        rw [decide_eq_true_eq, fill1] at z
        exact z
      rw [size]
      have go : ∀ M, SetTable.sizeAbove (SetTable.grown (L.length + 1)) - 1 = M → MaskOk M → SetTable.sizeAbove (SetTable.grown (L.length + 1)) ≤ 128 → (L.length + 1) * 5 < M * 3 → L.length + 1 ≤ t2.mask →
          wpAny (model P w) A (do setRelay a (SetTable.grown (L.length + 1)); pure true) Q E { s with heap := h1 } := fun M e1 e2 e3 e4 e5 =>
        wpAny_bind (k_relay (s := { s with heap := h1 }) ho1 ⟨hex.1, hex.2.1, hex.2.2⟩ rfl row1 tab1 (by rw [len1]; exact e5) nod1 led1 (by rw [len1]; exact few) e1 e2 e3 (by rw [len1]; exact e4) fun h' L' es' ep' t' sb' R' pm' =>
          wpAny_pure (q true h' L' es' ep' t' (sb.trans sb') R' (fun z => absurd z hm) fun _ => pm'.trans pm))
      refine wp_if_pos (by rw [full2]; rfl) ?_
      rcases R.tab.mok with e | e | e
      · have l4 : L.length = 4 := by rw [mask1, e] at big; rw [e] at room; omega
        exact go 31 (by rw [l4, size_20]) (.inr (.inl rfl)) (by rw [l4, size_20]; decide) (by omega) (by rw [mask1, e]; omega)
      · have l18 : L.length = 18 := by rw [mask1, e] at big; rw [e] at room; omega
        exact go 127 (by rw [l18, size_76]) (.inr (.inr rfl)) (by rw [l18, size_76]; decide) (by omega) (by rw [mask1, e]; omega)
      · exfalso
        rw [mask1, e] at big
        omega
    · refine wp_if_neg (by rw [Bool.not_eq_true] at full2; rw [full2]; decide) ?_
      refine wpAny_pure (q true h1 L1 es1 (ep + 1) t2 sb ⟨⟨_, ho1, ⟨hex.1, hex.2.1, hex.2.2⟩, rfl⟩, row1, tab1, nod1, led1, ?_, by rw [len1]; exact few⟩ (fun z => absurd z hm) fun _ => pm)
      have z := full2
      unfold SetTable.tooFull at z
      rw [decide_eq_true_eq, fill1] at z
      rw [len1]
      omega
  by_cases pl : t1.plain = true
  · first
      | exact wpAny_bind (wp_if_pos pl (key_hash hx rest))
      | exact wp_if_pos pl (wpAny_bind (key_hash hx rest))
  · first
      | exact wpAny_bind (wp_if_neg pl (wpAny_pure (rest true)))
      | exact wp_if_neg pl (rest true)
/-! ### set(xs) -/
/-- what a set has taken of the first i of ks -/
structure Took (ks : List (Addr × List L2.Key)) (i : Nat) (L : List (Addr × List L2.Key)) : Prop where
  sub : ∀ m ∈ L, m ∈ ks
  all : ∀ (j : Nat) m, j < i → ks[j]? = some m → m.2 ∈ L.map (·.2)
  len : L.length ≤ i
theorem Took.next {ks : List (Addr × List L2.Key)} {i : Nat} {L' : List (Addr × List L2.Key)} {m : Addr × List L2.Key} (T : Took ks i L) (hm : ks[i]? = some m) (c1 : m.2 ∈ L.map (·.2) → L' = L) (c2 : m.2 ∉ L.map (·.2) → L'.Perm (m :: L)) : Took ks (i + 1) L' := by
  have split_ : ∀ (j : Nat) u, j < i + 1 → ks[j]? = some u → u = m ∨ u.2 ∈ L.map (·.2) := fun j u hj e => by
    rcases Nat.lt_or_ge j i with z | z
    · exact .inr (T.all j u z e)
    · have ej : j = i := by omega
      rw [ej, hm] at e
      exact .inl (Option.some.inj e).symm
  by_cases h : m.2 ∈ L.map (·.2)
  · rw [c1 h]
    exact ⟨T.sub, fun j u hj e => (split_ j u hj e).elim (fun z => by rw [z]; exact h) id, Nat.le_succ_of_le T.len⟩
  · have pm := c2 h
    refine ⟨fun u hu => ?_, fun j u hj e => (pm.map (·.2)).mem_iff.mpr ?_, by rw [pm.length_eq]; exact Nat.succ_le_succ T.len⟩
    · rcases List.mem_cons.mp (pm.mem_iff.mp hu) with z | z
      · rw [z]
        exact List.mem_of_getElem? hm
      · exact T.sub u z
    · rw [List.map_cons]
      rcases split_ j u hj e with z | z
      · rw [z]
        exact List.mem_cons_self
      · exact List.mem_cons_of_mem _ z
theorem KeyAt.grow {h h' : Heap} {k : List L2.Key} {b : Addr} (x : KeyAt P w h k b) (g : ∀ c o, h.get? c = some o → h'.get? c = some o) : KeyAt P w h' k b := by
  obtain ⟨o, items, n, ho, r⟩ := x
  exact ⟨o, items, n, g b o ho, r⟩
theorem KTab.grow {h h' : Heap} (R : KTab P w a L h es ep t) (g : ∀ o, h.get? a = some o → h'.get? a = some o) : KTab P w a L h' es ep t := by
  obtain ⟨o, ho, r⟩ := R.obj
  exact ⟨⟨o, g o ho, r⟩, R.row, R.tab, R.nod, R.led, R.room, R.few⟩
abbrev emptySet (w : World) : Obj := { cls := .type "set", dict := none, data := .set #[] 0 (.fresh 0 0 (!w.params.followText "set-order")) }
theorem KTab.new {h : Heap} (ho : h.get? a = some (emptySet w)) : KTab P w a [] h #[] 0 (.fresh 0 0 (!w.params.followText "set-order")) where
  obj := ⟨_, ho, ⟨rfl, rfl, rfl⟩, rfl⟩
  row := rfl
  tab := ⟨List.Pairwise.nil, rfl, rfl, .inl rfl, fun x hx => absurd hx List.not_mem_nil, fun i h j hi => nomatch hi⟩
  nod := List.nodup_nil
  led := by
    show _ ∨ (!w.params.followText "set-order") = true
    cases w.params.followText "set-order" <;> simp
  room := show 0 * 5 < 7 * 3 by decide
  few := show 0 < 64 by decide
/-- the loop of set.update, over keys that stood when the set was made -/
theorem k_update {I : Addr} {fp wr : List Addr} {G : Array GenState → Array GenState → Prop} {Pv : Nat → Value → Prop} {St : Nat → Shared → Prop} {R : Result → Shared → Prop} {ks : List (Addr × List L2.Key)}
    (W : WalksS P w A.in1 I fp wr G ks.length Pv St) {S : Addr} (apart : S ∉ fp) (few : ks.length < 64) (val : ∀ i v, Pv i v → ∃ m, ks[i]? = some m ∧ v = .ref m.1)
    {h0 : Heap} (hk : Mems P w h0 ks) (new : h0.get? S = none) (newW : ∀ b ∈ wr, h0.get? b = none) (hu : A.in1.units < cLine) :
    ∀ (n i : Nat) (s : Shared), i + n = ks.length → St i s → (∀ b o, h0.get? b = some o → s.heap.get? b = some o) → (∃ L es ep t, KTab P w S L s.heap es ep t ∧ Took ks i L) →
      (∀ s' L es ep t, Moved (S :: wr) G s s' → KTab P w S L s'.heap es ep t → Took ks ks.length L → (∀ b o, h0.get? b = some o → s'.heap.get? b = some o) → R (.ok (.ret .none)) s') →
      codeAny (model P w) A (.builtin "set.update.loop" ⟨[.ref S, .ref I], []⟩) R s := by
  have apartW : S ∉ wr := fun z => apart (W.sub _ z)
  have wide : ∀ b ∈ wr, b ∈ S :: wr := fun b hb => List.mem_cons_of_mem _ hb
  have stay : ∀ {s s' : Shared}, Moved wr G s s' → (∀ b o, h0.get? b = some o → s.heap.get? b = some o) → ∀ b o, h0.get? b = some o → s'.heap.get? b = some o := fun mv g b o e =>
    mv.heap b o (fun hb => nomatch (newW b hb).symm.trans e) (g b o e)
  intro n
  induction n with
  | zero =>
    intro i s hi st g ⟨L, es, ep, t, T, took⟩ done
    obtain rfl : i = ks.length := hi
    refine codeAny_builtin F.entry_set_update_loop ?_
    rw [Around.under_plainId F.plain_set_update_loop _]
    refine wpAny_bind (W.done s _ _ st fun s' mv => ?_)
    exact wpAny_pure (done s' L es ep t (mv.mono wide) (T.grow fun o e => mv.heap S o apartW e) took (stay mv g))
  | succ n ih =>
    intro i s hi st g ⟨L, es, ep, t, T, took⟩ done
    refine codeAny_builtin F.entry_set_update_loop ?_
    rw [Around.under_plainId F.plain_set_update_loop _]
    refine wpAny_bind (W.item i s _ _ (by omega) st fun v s' pv st' mv => ?_)
    obtain ⟨m, hm, rfl⟩ := val i v pv
    have g' := stay mv g
    have T' := T.grow fun o e => mv.heap S o apartW e
    have hx := (hk m (List.mem_of_getElem? hm)).grow g'
    dsimp only
    refine wpAny_bind (wpAny_holding ?_)
    unfold setAdd
    refine wpAny_holding (wpAny_bind (wpAny_pyHash_tuple hu hx ?_))
    refine k_add (s := { s' with toks := s'.toks + (m.2.length + 1) }) T' (fun u hu' => (hk u (took.sub u hu')).grow g') hx hu (by have := took.len; omega) fun b h' L' es' ep' t' sb T2 c1 c2 => ?_
    have g2 : ∀ b o, h0.get? b = some o → h'.get? b = some o := fun b o e => (sb.2 b fun z => nomatch (z ▸ new).symm.trans e).trans (g' b o e)
    have frame : ∀ b, b ≠ S → ∀ o, s'.heap.get? b = some o → h'.get? b = some o := fun b nb o e => (sb.2 b nb).trans e
    refine wpAny_pure ⟨plainId_quiet F.plain_set_update_loop _, ih (i + 1) _ (by omega) (W.frame _ s' _ _ st' (Nat.le_add_right _ _) fun b hb o e => frame b (fun z => apart (z ▸ hb)) o e) g2 ⟨L', es', ep', t', T2, took.next hm c1 c2⟩ fun s2 L2 es2 ep2 t2 mv2 T3 took3 g3 => ?_⟩
    exact done s2 L2 es2 ep2 t2 (Moved.trans W.gtrans ((mv.mono wide).then_heap (Nat.le_add_right _ _) fun b o hb e => frame b (fun z => hb (z ▸ List.mem_cons_self)) o e) mv2) T3 took3 g3
theorem none_behind {h : Heap} {b : Addr} (l : h.objs.size ≤ b) : h.get? b = none := by
  cases e : h.get? b with
  | none => rfl
  | some o => exact absurd (Heap.lt_size e) (Nat.not_lt.mpr l)
set_option maxRecDepth 100000 in
set_option maxHeartbeats 3200000 in
/-- set(xs), xs a list of keys: what it makes -/
theorem k_make {l : Addr} {items : Array Value} {ks : List (Addr × List L2.Key)} {Q : Value → Shared → Prop} (hh : A.handled = none) (hl : s.heap.IsList l items) (hit : items.toList = ks.map fun m => Value.ref m.1) (hk : Mems P w s.heap ks) (few : ks.length < 64) (hu : A.units + 3 < cLine)
    (q : ∀ (h' : Heap) (tk : Nat) L es ep t, KTab P w s.heap.objs.size L h' es ep t → Took ks ks.length L → (∀ b o, s.heap.get? b = some o → h'.get? b = some o) → Q (.ref s.heap.objs.size) { s with heap := h', toks := tk }) :
    wpAny (model P w) A (call (.type "set") [.ref l]) Q E s := by
  have size : items.size = ks.length := by rw [← Array.length_toList, hit, List.length_map]
  obtain ⟨c, tl, hmro⟩ := F.called_set.mro
  have made := F.called_set.made
  have sub := F.called_set.sub
  have noType := F.called_set.notType
  have canMake := F.called_set.canCreate
  have callOk := F.typeCall_set_1 (.ref l)
  refine wpAny_call (codeAny_of_tree ?_)
  show wpAny _ _ (callAny (.type "set") _) _ _ _
  refine wpAny_pure ⟨Code.quiet_builtin _ (by decide +kernel), codeAny_builtin F.entry_type_call ?_⟩
  rw [Around.under_plain (weight_type_call_type "set" [.ref l] []) rfl]
  repeat any_goals first | assumption | wp_step
  refine codeAny_mono (code_set_led1 (.ref l) (E := E) (Q₁ := fun v s1 => v = .ref s.heap.objs.size ∧ s1 = { s with heap := s.heap.push (emptySet w) }) ⟨rfl, rfl⟩) fun r s1 hr => ?_
  rcases r with e | fl
  · exact hr
  · cases fl with
    | ret v =>
      obtain ⟨rfl, rfl⟩ := hr
      have at0 : (s.heap.push (emptySet w)).get? s.heap.objs.size = some (emptySet w) := Heap.get?_push_size _ rfl
      have ty : Shared.TypeIs { s with heap := s.heap.push (emptySet w) } (.ref s.heap.objs.size) "set" := ⟨_, at0, rfl⟩
      have initL := F.called_set.init.lookup
      have initB := F.called_set.init.bind (.ref s.heap.objs.size)
      repeat any_goals first | assumption | wp_step
      refine codeAny_mono (codeAny_call_builtin (R := wants (fun r s2 => r = .none ∧ ∃ h' tk L es ep t, s2 = { s with heap := h', toks := tk } ∧ KTab P w s.heap.objs.size L h' es ep t ∧ Took ks ks.length L ∧ (∀ b o, s.heap.get? b = some o → h'.get? b = some o)) E)
        F.called_set.init.plain F.entry_set_init (check_set_init_1 ty ?_)) fun r2 s2 hr2 => ?_
      · obtain ⟨ol, hol, hcl, nl, hdl⟩ := hl
        obtain ⟨ocls, odict, odata, oslots⟩ := ol
        dsimp only at hcl hdl
        subst hcl hdl
        have hol1 : (s.heap.push (emptySet w)).get? l = some { cls := .type "list", dict := odict, data := .seq items nl, slots := oslots } := Heap.get?_push_of_some _ hol
        have lst1 : (s.heap.push (emptySet w)).IsList l items := ⟨_, hol1, rfl, nl, rfl⟩
        have subL := F.sub_list_set
        have subF := F.sub_list_frozenset
        have noDict : (Value.type "list" == Value.type "dict") = false := by decide
        unfold Builtin.«set.__init__» noKeywords Builtin.Frozenset.updateFrom
        generalize hPI : pyIter = PI
        wp_walk
        subst hPI
        refine wpAny_pyIter_list lst1 (wpAny_bind (wpAny_runValue ?_))
        have lS : l < s.heap.objs.size := Heap.lt_size hol
        have size1 : (s.heap.push (emptySet w)).objs.size = s.heap.objs.size + 1 := Heap.size_push ..
        have nI : l ≠ (s.heap.push (emptySet w)).objs.size := by rw [size1]; exact Nat.ne_of_lt (Nat.lt_succ_of_lt lS)
        have apart : s.heap.objs.size ∉ [(s.heap.push (emptySet w)).objs.size, l] := by
          rw [size1]
          simp only [List.mem_cons, List.not_mem_nil, or_false, not_or]
          exact ⟨Nat.ne_of_lt (Nat.lt_succ_self _), Nat.ne_of_gt lS⟩
        have val : ∀ (i : Nat) (v : Value), items[i]? = some v → ∃ m, ks[i]? = some m ∧ v = .ref m.1 := fun i v hv => by
          rw [← Array.getElem?_toList, hit, List.getElem?_map] at hv
          obtain ⟨m, hm, e⟩ := Option.map_eq_some_iff.mp hv
          exact ⟨m, hm, e.symm⟩
        have W := (Walks.list (prog := P) (w := w) (A := A.in1.in1.in1) (by simp [hh]) _ l nI items).toS
        rw [size] at W
        refine k_update W apart few val hk (none_behind (Nat.le_refl _)) (fun b hb => none_behind (by rw [List.mem_singleton.mp hb, size1]; exact Nat.le_succ _)) hu ks.length 0 _ (Nat.zero_add _)
          ⟨⟨_, Heap.get?_push_size _ rfl, rfl, rfl⟩, lst1.push _⟩ (fun b o e => Heap.get?_push_of_some _ (Heap.get?_push_of_some _ e))
          ⟨[], #[], 0, _, KTab.new (Heap.get?_push_of_some _ at0), ⟨fun m hm => absurd hm List.not_mem_nil, fun j m hj => absurd hj (Nat.not_lt_zero _), Nat.le_refl _⟩⟩ fun s' L es ep t mv T took g => ?_
        obtain ⟨h', g', d', tk', os'⟩ := s'
        obtain rfl : g' = s.gens := mv.gens
        obtain rfl : d' = s.drawn := mv.drawn
        obtain rfl : os' = s.os := mv.os
        exact wpAny_pure (wpAny_pure ⟨rfl, h', tk', L, es, ep, t, rfl, T, took, g⟩)
      · rcases r2 with e | fl2
        · exact hr2
        · cases fl2 with
          | ret v =>
            obtain ⟨rfl, h', tk, L, es, ep, t, rfl, T, took, g⟩ := hr2
            repeat any_goals first | assumption | wp_step
            exact q _ _ _ _ _ _ T took g
          | _ => exact hr2.elim
    | _ => exact hr.elim
end
end Wm
namespace Wm
open PySem PySem.Spec PyProof.Rows L2
/-! ### the triples' order is one -/
theorem le3_trans (a b c : Str × Str × Str) (h1 : PySem.W.dataLe false triD3 a b = true) (h2 : PySem.W.dataLe false triD3 b c = true) : PySem.W.dataLe false triD3 a c = true := by
  rw [PySem.W.dataLe_eq] at *
  simp only [cond_false, Bool.not_eq_true', PySem.W.dataLt] at *
  cases e : PyProof.Rows.lexLt itemOrd (PySem.W.keyToks (triD3 c)) (PySem.W.keyToks (triD3 a)) with
  | false => rfl
  | true =>
    rcases lex_negTrans (O := itemOrd) _ (PySem.W.keyToks (triD3 b)) _ e with z | z
    · rw [h2] at z
      cases z
    · rw [h1] at z
      cases z
theorem le3_total (a b : Str × Str × Str) : (PySem.W.dataLe false triD3 a b || PySem.W.dataLe false triD3 b a) = true := by
  rw [PySem.W.dataLe_eq]
  simp only [cond_false, PySem.W.dataLt]
  cases e : PyProof.Rows.lexLt itemOrd (PySem.W.keyToks (triD3 b)) (PySem.W.keyToks (triD3 a)) with
  | false => rfl
  | true =>
    cases e2 : PyProof.Rows.lexLt itemOrd (PySem.W.keyToks (triD3 a)) (PySem.W.keyToks (triD3 b)) with
    | false => rfl
    | true =>
      have z := lex_trans (O := itemOrd) _ _ _ e e2
      rw [lex_irrefl] at z
      cases z
theorem le3_anti (a b : Str × Str × Str) (h1 : PySem.W.dataLe false triD3 a b = true) (h2 : PySem.W.dataLe false triD3 b a = true) : a = b := by
  rw [PySem.W.dataLe_eq] at *
  simp only [cond_false, Bool.not_eq_true', PySem.W.dataLt] at *
  have e := lex_total (O := itemOrd) _ _ h2 h1
  obtain ⟨x, y, z⟩ := a
  obtain ⟨x', y', z'⟩ := b
  simp only [triD3, PySem.W.keyToks, PySem.W.keyToksAll, List.singleton_append, List.cons_append, List.nil_append, List.cons.injEq, Sum.inr.injEq, and_true, true_and] at e
  obtain ⟨e1, e2, e3⟩ := e
  rw [PySem.W.str_of_cps e1, PySem.W.str_of_cps e2, PySem.W.str_of_cps e3]
theorem sortT_sorted (ts : List (Str × Str × Str)) : (sortT ts).Pairwise fun a b => PySem.W.dataLe false triD3 a b = true := List.pairwise_mergeSort le3_trans le3_total ts
theorem sortT_perm {ts us : List (Str × Str × Str)} (p : ts.Perm us) : sortT ts = sortT us := by
  have q : (sortT ts).Perm (sortT us) := (List.mergeSort_perm _ _).trans (p.trans (List.mergeSort_perm _ _).symm)
  have go : ∀ {xs ys : List (Str × Str × Str)}, xs.Perm ys → xs.Pairwise (fun a b => PySem.W.dataLe false triD3 a b = true) → ys.Pairwise (fun a b => PySem.W.dataLe false triD3 a b = true) → xs = ys := by
    intro xs
    induction xs with
    | nil => exact fun p _ _ => (List.nil_perm.mp p).symm ▸ rfl
    | cons x xs ih =>
      intro ys p h1 h2
      cases ys with
      | nil => exact absurd p.length_eq (by simp)
      | cons y ys =>
        have exy : x = y := by
          by_cases e : x = y
          · exact e
          · have m1 : y ∈ xs := (List.mem_cons.mp (p.symm.mem_iff.mp List.mem_cons_self)).resolve_left fun z => e z.symm
            have m2 : x ∈ ys := (List.mem_cons.mp (p.mem_iff.mp List.mem_cons_self)).resolve_left e
            exact le3_anti x y ((List.pairwise_cons.mp h1).1 y m1) ((List.pairwise_cons.mp h2).1 x m2)
        subst exy
        rw [ih ((List.perm_cons x).mp p) (List.pairwise_cons.mp h1).2 (List.pairwise_cons.mp h2).2]
  exact go q (sortT_sorted ts) (sortT_sorted us)
/-! ### the rules -/
def KSetO (P : Program) (w : World) (a : Addr) (L : List (Addr × List L2.Key)) : HO := .ext fun h => ∃ es ep t, KTab P w a L h es ep t
theorem kset_ok {P : Program} {w : World} {H : Hp} {h : Heap} {a : Addr} {L : List (Addr × List L2.Key)} {es : Array (Int × Value)} {ep : Nat} {t : SetTable} (R : KTab P w a L h es ep t) : ObjOk P w H h a (KSetO P w a L) := by
  have ⟨o, ho, _⟩ := R.obj
  exact ⟨⟨es, ep, t, R⟩, ⟨o, ho⟩, fun h1 h2 ⟨e1, p1, t1, R1⟩ g => ⟨e1, p1, t1, R1.grow g⟩⟩
theorem keys_vals {P : Program} {w : World} : ∀ {k : List L2.Key} {us : List Value}, Vals (k.map kV) us → ItemsAre (mixKind P w) k us
  | [], _, .nil => .nil
  | _ :: _, _, .cons r t => .cons (kV_is r) (keys_vals t)
theorem refs_vals {α : Type} {f : α → Addr} : ∀ {ks : List α} {us : List Value}, Vals (ks.map fun m => V.ref (f m)) us → us = ks.map fun m => Value.ref (f m)
  | [], _, .nil => rfl
  | _ :: _, _, .cons rfl t => by rw [refs_vals t, List.map_cons]
section
variable {X : Cx}
theorem inv_key {pins : List (Addr × Obj)} {σ : L2.St} {H : Hp} {s : Shared} {b : Addr} {k : List L2.Key} (I : Inv X pins σ H s) (h : SqT X.K H b (k.map kV)) : KeyAt X.prog X.w s.heap k b := by
  obtain ⟨its, r, ⟨o, ho, hc, n, hd⟩, _⟩ := I.tuple h
  exact ⟨o, its.toArray, n, ho, hc, hd, by simpa using keys_vals r⟩
/-- members that stand as tuples -/
abbrev MemT (K : PySem.W.Frag) (H : Hp) (L : List (Addr × List L2.Key)) : Prop := ∀ m ∈ L, SqT K H m.1 (m.2.map kV)
/-- set(xs) -/
def rSetK (K : PySem.W.Frag) (P : Program) (w : World) : List V → Hp → VK → Prop := fun xs H Q => ∃ (l : Addr) (ks : List (Addr × List L2.Key)), xs = [V.ref l] ∧ SqL K H l (ks.map fun m => V.ref m.1) ∧ MemT K H ks ∧ ks.length < 64 ∧
  ∀ a L, H a = none → (∀ m ∈ L, m ∈ ks) → (∀ m ∈ ks, m.2 ∈ L.map (·.2)) → (L.map (·.2)).Nodup → Q (.ref a) (upd H a (KSetO P w a L))
theorem cr_setK (hc : X.calm = true) (hu : X.A.units + 64 < cLine) : CallR X (.type "set") (rSetK X.K X.prog X.w) := by
  intro pins s σ H xs us Q I r h
  obtain ⟨l, ks, rfl, hl, hk, few, q⟩ := h
  rw [Vals.ref1 r]
  obtain ⟨its, rv, pl, _⟩ := I.list hl
  refine k_make (P := X.prog) (w := X.w) (ks := ks) (I.ok.hd hc) pl.isList (by simpa using refs_vals rv) (fun m hm => inv_key I (hk m hm)) few (by omega) fun h' tk L es ep t R T g => ?_
  refine ⟨.ref s.heap.objs.size, upd H s.heap.objs.size (KSetO X.prog X.w s.heap.objs.size L), I.laid (t' := tk) g (Nat.le_refl _) (kset_ok R), rfl, q _ L (I.hok.fresh (Nat.le_refl _)) T.sub (fun m hm => ?_) R.nod⟩
  obtain ⟨j, hj⟩ := List.mem_iff_getElem?.mp hm
  exact T.all j m (List.getElem?_eq_some_iff.mp hj).1 hj
/-- set.add of a key -/
theorem addK_ok {pins : List (Addr × Obj)} {σ : L2.St} {H : Hp} {s : Shared} {E : Value → Shared → Prop} {D b : Addr} {L : List (Addr × List L2.Key)} {k : List L2.Key} {Q : Value → Shared → Prop} (I : Inv X pins σ H s) (hu : X.A.units + 2 < cLine) (hD : H D = some (KSetO X.prog X.w D L)) (hL : MemT X.K H L) (hb : SqT X.K H b (k.map kV)) (few : L.length + 1 < 64)
    (q : ∀ s' L', (k ∈ L.map (·.2) → L' = L) → (k ∉ L.map (·.2) → L'.Perm ((b, k) :: L)) → Inv X pins σ (upd H D (KSetO X.prog X.w D L')) s' → Q .none s') : wpAny (model X.prog X.w) X.A (call (.builtin "set.add") [.ref D, .ref b]) Q E s := by
  have ⟨es, ep, t, R⟩ := (I.hok D _ hD).1
  have hx := inv_key I hb
  have ms : Mems X.prog X.w s.heap L := fun m hm => inv_key I (hL m hm)
  have ty : s.TypeIs (.ref D) "set" := by
    have ⟨o, ho, hex, _⟩ := R.obj
    exact ⟨o, ho, hex.1⟩
  refine wpAny_call_entry F.slot_set_add ty F.entry_set_add ?_ (F.args_set_add_2 _ _)
  unfold Builtin.«set.add» Builtin.Frozenset.oneOther
  simp only [List.isEmpty_nil, bind_assoc]
  unfold Builtin.Frozenset.addrOf setAdd
  have hu1 : X.A.in1.units < cLine := by show X.A.units + 1 < cLine; omega
  refine wpAny_bind (wpAny_pure (wpAny_bind (wpAny_pure (wpAny_bind (wpAny_holding ?_)))))
  refine wpAny_bind (wpAny_pyHash_tuple hu1 hx ?_)
  refine k_add (s := { s with toks := s.toks + (k.length + 1) }) R ms hx hu1 few fun c h' L' es' ep' t' sb R' c1 c2 => ?_
  refine wpAny_pure ⟨_, rfl, q _ L' c1 c2 (I.write (e := D) (t' := s.toks + (k.length + 1)) (by rw [hD]; trivial) (.inl rfl) (fun b u nb e => (sb.2 b nb).trans e) ?_ (kset_ok R'))⟩
  obtain ⟨o, ho, _⟩ := R'.obj
  exact ⟨o, ho⟩
/-- triples taken in another order stand so -/
theorem tris_order {K : PySem.W.Frag} {H : Hp} {L : List (Addr × List L2.Key)} {ts : List (Str × Str × Str)} (hL : MemT K H L) (hk : ∀ m ∈ L, ∃ t ∈ ts, m.2 = triK t) : ∀ vs : List Value, (∀ v ∈ vs, ∃ m ∈ L, v = Value.ref m.1) →
    ∃ us : List (Str × Str × Str), PySem.W.EachIs (isTri K H) vs us ∧ ∃ M : List (Addr × List L2.Key), vs = M.map (fun m => Value.ref m.1) ∧ (∀ m ∈ M, m ∈ L) ∧ M.map (·.2) = us.map triK
  | [], _ => ⟨[], .nil, [], rfl, fun m hm => absurd hm List.not_mem_nil, rfl⟩
  | v :: vs, h => by
    obtain ⟨m, hm, rfl⟩ := h v List.mem_cons_self
    obtain ⟨t, _, et⟩ := hk m hm
    obtain ⟨us, he, M, e1, e2, e3⟩ := tris_order hL hk vs fun u hu => h u (List.mem_cons_of_mem _ hu)
    have q := hL m hm
    rw [et] at q
    refine ⟨t :: us, .cons ⟨m.1, rfl, q⟩ he, m :: M, by rw [List.map_cons, ← e1], fun u hu => ?_, by rw [List.map_cons, List.map_cons, e3, et]⟩
    rcases List.mem_cons.mp hu with z | z
    · rw [z]
      exact hm
    · exact e2 u z
theorem triK_one {t u : Str × Str × Str} (h : triK t = triK u) : t = u := by
  obtain ⟨a, b, c⟩ := t
  obtain ⟨d, e, f⟩ := u
  simp only [triK, List.cons.injEq, Sum.inr.injEq, and_true] at h
  obtain ⟨rfl, rfl, rfl⟩ := h
  rfl
def unK : List L2.Key → Option (Str × Str × Str)
  | [.inr a, .inr b, .inr c] => some (a, b, c)
  | _ => none
theorem unK_map (l : List (Str × Str × Str)) : (l.map triK).filterMap unK = l := by
  induction l with
  | nil => rfl
  | cons t l ih => rw [List.map_cons, List.filterMap_cons_some (show unK (triK t) = some t from rfl), ih]
/-- sorted(a set of triples) -/
def rSortKS (K : PySem.W.Frag) (P : Program) (w : World) : List V → Hp → VK → Prop := fun vs H Q => ∃ (a : Addr) (L : List (Addr × List L2.Key)) (ts : List (Str × Str × Str)), vs = [.ref a] ∧ H a = some (KSetO P w a L) ∧ MemT K H L ∧ L.map (·.2) = ts.map triK ∧
  ∀ (qs : List Addr) (p : Addr), TrisAt K H qs (sortT ts) → H p = none → Q (.ref p) (upd H p (.lst (qs.map V.ref)))
theorem cr_sortKS (hc : X.calm = true) (hu : X.A.units + 64 < cLine) : CallR X (.builtin "sorted") (rSortKS X.K X.prog X.w) := by
  intro pins s σ H xs us Q I r h
  obtain ⟨a, L, ts, rfl, ha, hL, hk, q⟩ := h
  rw [Vals.ref1 r]
  have ⟨es, ep, t, R⟩ := (I.hok a _ ha).1
  have ⟨o, ho, hex, hd⟩ := R.obj
  have size := rows_size R.row
  have few := R.few
  refine Calls.call_function_entry kind_sorted plain_sorted entry_sorted (args_sorted1 _) ?_
  unfold Builtin.«sorted»
  refine wpAny_bind (m := checkCount "sorted" 1 1 _) (wpAny_pure ?_)
  refine wpAny_bind (collect_set (A := X.A.in1) (I.ok.hd hc) ⟨o, ho, hex.1, hd⟩ R.fits (by unfold scanBound; omega) R.tab.ris R.led fun s1 vs g big g1 o1 pm => ?_)
  have pm2 : vs.Perm (L.map fun m => Value.ref m.1) := by
    have e : es.toList.map (·.2) = L.map fun m => Value.ref m.1 := by
      rw [R.row, List.map_map]
      rfl
    rw [← e]
    exact pm
  have key : ∀ m ∈ L, ∃ t ∈ ts, m.2 = triK t := fun m hm => by
    have z : m.2 ∈ ts.map triK := by
      rw [← hk]
      exact List.mem_map.mpr ⟨m, hm, rfl⟩
    obtain ⟨t, ht, e⟩ := List.mem_map.mp z
    exact ⟨t, ht, e.symm⟩
  obtain ⟨us, each, M, eM, sub, eus⟩ := tris_order hL key vs fun v hv => by
    obtain ⟨m, hm, e⟩ := List.mem_map.mp (pm2.mem_iff.mp hv)
    exact ⟨m, hm, e.symm⟩
  -- the members taken are the members
  have one : ∀ m ∈ L, ∀ n ∈ L, m.1 = n.1 → m = n := fun m hm n hn e => by
    have a1 := inv_key I (hL m hm)
    rw [e] at a1
    exact Prod.ext e (IsTupleKey.inj a1 (inv_key I (hL n hn)))
  have pML : M.Perm L := by
    have nL : L.Nodup := nodup_of_map R.nod
    have refs : (L.map fun m => Value.ref m.1).Nodup := List.pairwise_map.mpr (List.Pairwise.imp_of_mem (fun hm hn ne e => ne (one _ hm _ hn (by injection e))) nL)
    rw [eM] at pm2
    have nM : M.Nodup := nodup_of_map (pm2.nodup_iff.mpr refs)
    refine (List.perm_ext_iff_of_nodup nM nL).mpr fun m => ⟨sub m, fun hm => ?_⟩
    obtain ⟨n, hn, e⟩ := List.mem_map.mp (pm2.mem_iff.mpr (List.mem_map.mpr ⟨m, hm, rfl⟩))
    rw [← one n (sub n hn) m hm (by injection e)]
    exact hn
  have put : us.Perm ts := by
    have z : (us.map triK).Perm (ts.map triK) := by
      rw [← eus, ← hk]
      exact pML.map _
    have e := z.filterMap unK
    rw [unK_map, unK_map] at e
    exact e
  have hvl : vs.length = L.length := by rw [pm2.length_eq, List.length_map]
  have alen : vs.length ≤ sizeLine := by rw [hvl, sizeLine_eq]; omega
  refine wpAny_bind (wpAny_newList ?_ alen)
  have hoL : (s1.heap.push (seqObj "list" vs.toArray 0)).get? s1.heap.objs.size = some (seqObj "list" vs.toArray 0) := Heap.get?_push_size _ rfl
  have er : PySem.W.EachIs (fun v b => ∃ as, Reads (PySem.W.sortingHeap (s1.heap.push (seqObj "list" vs.toArray 0)) s1.heap.objs.size vs) v (triD3 b) as) vs us :=
    (tri_reads I each).mono fun _ _ ⟨as, rr⟩ => ⟨as, Reads.keeps (fun b o zz => PySem.W.sortingHeap_old (Nat.ne_of_lt (Heap.lt_size (g b o zz))) (Heap.get?_push_of_some _ (g b o zz))) rr⟩
  refine wpAny_bind (wpAny_holding (wpAny_call_entry slot_list_sort ⟨_, hoL, rfl⟩ entry_list_sort
    (PySem.W.list_sort_vals (s := { s1 with heap := s1.heap.push (seqObj "list" vs.toArray 0) }) hoL
      (PySem.W.SortsAt.data (A := X.A.in1.in1) (s := { s1 with heap := PySem.W.sortingHeap (s1.heap.push (seqObj "list" vs.toArray 0)) s1.heap.objs.size vs }) (PySem.W.each_map (R := fun v d => ∃ as, Reads (PySem.W.sortingHeap (s1.heap.push (seqObj "list" vs.toArray 0)) s1.heap.objs.size vs) v d as) triD3 er) (tri_alike us) (tri_sortable us) (PySem.W.bound_map fun b _ => by
        have := tri_depth b
        have e2 : X.A.in1.in1.units ≤ X.A.units + 2 := Nat.le_refl _
        omega)) alen ⟨_, rfl, ?_⟩)
    (args_list_sort _)))
  have hout := PySem.W.sortVals_data (R := isTri X.K H) false each er (tri_alike us)
  dsimp only at hout ⊢
  generalize PySem.W.sortVals (PySem.W.dataKind (PySem.W.sortingHeap (s1.heap.push (seqObj "list" vs.toArray 0)) s1.heap.objs.size vs) (us.map triD3)) false vs vs = out at hout ⊢
  obtain ⟨qs, hq, hv⟩ := each_tris hout
  obtain ⟨e, hat⟩ := sortedHeap_at (vs := vs) (out := out.toArray) hoL
  have hq2 : TrisAt X.K H qs (sortT ts) := by
    rw [← sortT_perm put]
    exact hq
  have fresh : H s1.heap.objs.size = none := I.hok.fresh big
  have grow : ∀ b o, s.heap.get? b = some o → (sortedHeap (s1.heap.push (seqObj "list" vs.toArray 0)) s1.heap.objs.size vs out.toArray).get? b = some o := fun b o zz => by
    have lt := Heap.lt_size (g b o zz)
    rw [sortedHeap_old (Nat.ne_of_lt lt) (Heap.lt_size (Heap.get?_push_of_some _ (g b o zz)))]
    exact Heap.get?_push_of_some _ (g b o zz)
  have ulen : us.length = vs.length := by
    have z := congrArg List.length eus
    rw [List.length_map, List.length_map] at z
    rw [← z, eM, List.length_map]
  have J : Inv X pins σ (upd H s1.heap.objs.size (.lst (qs.map V.ref))) { s1 with heap := sortedHeap (s1.heap.push (seqObj "list" vs.toArray 0)) s1.heap.objs.size vs out.toArray } := by
    refine I.call' (ch := []) (s' := { s1 with heap := sortedHeap (s1.heap.push (seqObj "list" vs.toArray 0)) s1.heap.objs.size vs out.toArray }) o1 (Un.laid grow big fresh) (I.hok.laid grow big ⟨?_, _, e, hv, hat⟩) (by show AllBare s1.gens; rw [g1]; exact I.bare) (fun _ z => nomatch z)
    rw [List.length_map, hq2.len, sortT_len, put.symm.length_eq, ulen]
    exact alen
  exact wpAny_pure ⟨_, rfl, .ref s1.heap.objs.size, _, J, rfl, q qs _ hq2 fresh⟩
end
end Wm
/-! comprehensions of one clause whose turn ends in any deed to what is made: sets of keys, dicts whose keys are tuples -/
namespace Wm
open PySem PySem.Spec PyProof.Rows L2
/-- a comprehension, the deed at its turn's end apart -/
structure CompE (P : Program) (w : World) (e : Expr) (tg iter : Expr) (ifs : List Expr) (emit : Value → Env → Sem Unit) : Prop where
  turn : ∀ (it : Value) (D : Addr) (env : Env), compTurn e 0 it (.ref D) env = (do
    standAt iter.pos
    match ← pyNext it with
    | none => pure (.done .next)
    | some v => do
      letOwnedTupleGo tg it v
      assign tg env v
      let ok ← forIn ifs true fun c r => if r = true then do let ok ← isTrue c env (eval c env); pure (ForInStep.yield ok) else pure (ForInStep.yield r)
      if ok = true then do emit (.ref D) env; again (.compLoop e 0 it (.ref D) env) else again (.compLoop e 0 it (.ref D) env))
  den : ∀ (it : Value) (D : Addr) (env : Env), (model P w).den (.compLoop e 0 it (.ref D) env) = (compTurn e 0 it (.ref D) env).onRaise fun x => do noteFrame x env; theTreesLotGoes x
  und : ∀ (A : Around) (it : Value) (D : Addr) (env : Env), A.under (Code.compLoop e 0 it (.ref D) env) = A
  quiet : ∀ (it : Value) (D : Addr) (env : Env), (Code.compLoop e 0 it (.ref D) env).quiet = true
  cls : clausesOf e = [⟨tg, iter, ifs, 0⟩]
  start : ∀ {A : Around} {R : Result → Shared → Prop} {s : Shared} {it acc : Value} {env : Env}, codeAny (model P w) A (.compLoop e 0 it acc env) R s →
    wpAny (model P w) A (pyIter it) (fun it' s' => codeAny (model P w) A (.compLoop e 0 it' acc env) R s') (notedBy (model P w) A env fun x s' => R (.error x) s') s → codeAny (model P w) A (.compStart e 0 it acc env) R s
section
variable {P : Program} {w : World} {A : Around} {R : Result → Shared → Prop} {s : Shared} {e tg iter : Expr} {ifs : List Expr} {emit : Value → Env → Sem Unit}
/-- the loop, where no error leaves the block -/
theorem CompE.loop (C : CompE P w e tg iter ifs emit) {it : Value} {D : Addr} {env : Env} (I : Nat → Shared → Prop)
    (turn : ∀ n s, I n s → wpAny (model P w) A (pyNext it) (fun r s1 => match r with
      | none => R (.ok .next) s1
      | some v => wpAny (model P w) A (letOwnedTupleGo tg it v) (fun _ s2 => wpAny (model P w) A (assign tg env v) (fun _ s3 =>
          wpAny (model P w) A (forIn ifs true fun c r => if r = true then do let ok ← isTrue c env (eval c env); pure (ForInStep.yield ok) else pure (ForInStep.yield r)) (fun ok s4 =>
            if ok = true then wpAny (model P w) A (emit (.ref D) env) (fun _ s5 => ∃ m, m < n ∧ I m s5) (fun _ _ => False) s4 else ∃ m, m < n ∧ I m s4) (fun _ _ => False) s3) (fun _ _ => False) s2) (fun _ _ => False) s1) (fun _ _ => False) s)
    (n : Nat) (h : I n s) : codeAny (model P w) A (.compLoop e 0 it (.ref D) env) R s := by
  refine codeAny_loop (C.quiet it D env) I (fun n s hI => ?_) n h
  rw [C.und, C.den]
  refine wpAny_noted ?_
  rw [C.turn]
  refine wpAny_bind (wpAny_standAt (wpAny_bind (thnF (turn n s hI) fun r s1 h1 => ?_)))
  rcases r with _ | v
  · exact wpAny_pure h1
  · refine wpAny_bind (thnF h1 fun _ s2 h2 => wpAny_bind (thnF h2 fun _ s3 h3 => wpAny_bind (thnF h3 fun ok s4 h4 => ?_)))
    by_cases c : ok = true
    · rw [if_pos c] at h4 ⊢
      exact wpAny_bind (thnF h4 fun _ s5 h5 => wpAny_pure ⟨rfl, h5⟩)
    · rw [if_neg c] at h4 ⊢
      exact wpAny_pure ⟨rfl, h4⟩
end
/-- what a deed at a turn's end comes to: the new thing stands at D -/
abbrev TEm := L2.St → Hp → Addr → (Hp → Prop) → Prop
structure PEm (X : Cx) (emit : Value → Env → Sem Unit) (t : TEm) : Prop where
  run : ∀ (pins : List (Addr × Obj)) (s : Shared) (σ : L2.St) (H : Hp) (D : Addr) (Q : Hp → Prop), Inv X pins σ H s → t σ H D Q → wpAny (model X.prog X.w) X.A (emit (.ref D) X.env) (fun _ s' => ∃ H', Inv X pins σ H' s' ∧ Q H') X.xe s
/-- how the new thing is made, and what it is at first -/
structure NewE (P : Program) (w : World) (make : Sem Value) (o : Addr → HO) : Prop where
  ex : ∃ ob : Obj, (∀ {A : Around} {E : Value → Shared → Prop} {s : Shared} {Q : Value → Shared → Prop}, Q (.ref s.heap.objs.size) { s with heap := s.heap.push ob } → wpAny (model P w) A make Q E s) ∧
    ∀ (H : Hp) (h : Heap), sysModules < h.objs.size → ObjOk P w H (h.push ob) h.objs.size (o h.objs.size)
/-- the whole: D the new thing, W what holds ahead of each turn (with a measure), Nx what a turn is to reach -/
def tCp (o : Addr → HO) (wi : TI) (g : TG) (tt : TT) (te : TEm) (vs : List Nat) : TE := fun σ H Q => wi σ H fun J H1 => ∀ D, H1 D = none → ∃ W : Nat → Nat → Hp → Prop, (∃ m, W 0 m (upd H1 D (o D))) ∧ ∀ i m H, W i m H →
  (J.stop i H ∧ Q (.ref D) H) ∨ (J.go i H ∧ ∃ Nx : Hp → Prop, (∀ H', Nx H' → ∃ m', m' < m ∧ W (i + 1) m' H') ∧ ∀ x H', J.yld i H x H' → g x (wipe σ vs) H' fun σ2 H2 => wipe σ2 vs = wipe σ vs ∧ tt σ2 H2 fun b H3 =>
    if b = true then te σ2 H3 D Nx else Nx H3)
section
variable {X : Cx}
/-- the block of a comprehension as its own context, at whatever place it stands -/
abbrev InBlk (X : Cx) (scope : Scope) (T : Cx → Prop) : Prop := ∀ (s : Shared) (H : Hp) (C : Addr) (cl : List (Str × Addr)) (fp : List Addr), T (X.blk s H scope (compEnvC scope cl C X.env) fp)
theorem cp_core {pins : List (Addr × Obj)} {s : Shared} {σ : L2.St} {H : Hp} {Q : VK} {e tg iter : Expr} {ifs : List Expr} {emit : Value → Env → Sem Unit} {make : Sem Value} {o : Addr → HO} {scope : Scope} {own : List (Str × Nat)} {pos' : Pos} {wi : TI} {g : TG} {tt : TT} {te : TEm} {use : Option (Value → Sem Unit)} {Qf : Value → Shared → Prop}
    (C : CompE X.prog X.w e tg iter ifs emit) (N : NewE X.prog X.w make o) (hc : X.calm = true) (hN : X.N.Nodup) (I : Inv X pins σ H s) (hi : PI X tg iter wi) (ok : BlkOk X.N X.env.scope scope own)
    (hg : InBlk X scope fun Y => PG Y tg g) (ht : InBlk X scope fun Y => PTs Y ifs tt) (he : InBlk X scope fun Y => PEm Y emit te) (hs : ∀ x, foldedSetIterable iter X.env x = pure x)
    (h : tCp o wi g tt te (own.map (·.2)) σ H Q)
    (after : ∀ D B s' m H', Inv X pins σ H' s' → Q (.ref D) H' → s'.heap.Ns B m → FpOk X pins H' B → compPost (model X.prog X.w) X.A X.xe use Qf (.ref D) B (.ok .next) s') :
    wpAny (model X.prog X.w) X.A (comprehension e scope X.env pos' make false (eval iter X.env) use) Qf X.xe s := by
  have cells : ∀ y ∈ scope.names, y.2 = .free → ∃ c, X.env.cells.lookup y.1 = some c := fun y hy k => (ok.free y hy k).elim (fun z => I.ok.has _ (.inl z)) fun z => I.ok.has _ (.inr z)
  obtain ⟨ob, mk, isO⟩ := N.ex
  refine wpAny_comprehension_free (use := use) C.cls hs (closure_ok cells) ok.kind (fun y hy k => by rw [ok.uniq y hy, k]) (thn (hi.run pins s σ H _ I h) fun xv s1 hx => thn hx fun itv s2 ⟨it, fp, tn, J, H2, e1, I2, T, st2, f2, q⟩ => ?_)
  subst e1
  refine mk (newEnv_comp ?_)
  generalize hD : s2.heap.objs.size = D
  obtain ⟨W, ⟨m0, w0⟩, turn⟩ := q D (I2.hok.fresh (Nat.le_of_eq hD))
  have grow : ∀ b u, s2.heap.get? b = some u → (s2.heap.push ob).get? b = some u := fun b u z => Heap.get?_push_of_some _ z
  have I3 : Inv X pins σ (upd H2 D (o D)) { s2 with heap := s2.heap.push ob } := I2.laid (t' := s2.toks) grow (Nat.le_of_eq hD) (by rw [← hD]; exact isO _ _ I2.big)
  have f3 : ∀ b ∈ fp, FpOk X pins (upd H2 D (o D)) b ∧ b < (s2.heap.push ob).objs.size := fun b hb => by
    obtain ⟨u, eu, _⟩ := T.obj _ _ st2 b hb
    have lt := Heap.lt_size eu
    refine ⟨⟨?_, (f2 b hb).2⟩, by rw [Heap.size_push]; exact Nat.lt_succ_of_lt lt⟩
    rw [upd_ne (by rw [← hD]; exact Nat.ne_of_lt lt)]
    exact (f2 b hb).1
  have st3 : tn 0 (s2.heap.push ob) := T.keep _ _ _ st2 fun b _ u z => grow b u z
  generalize hs3 : ({ s2 with heap := s2.heap.push ob } : Shared) = s3 at I3
  have h3 : s2.heap.push ob = s3.heap := by rw [← hs3]
  rw [h3] at f3 st3
  generalize hH3 : upd H2 D (o D) = H3 at I3 f3 w0
  have I4 := block_start I3 ok hN f3
  have pg := hg s3 H3 s3.heap.objs.size (cellsFrom (s3.heap.objs.size + 1) scope.names (cloFrom X.env.cells scope.names [])) fp
  have pt := ht s3 H3 s3.heap.objs.size (cellsFrom (s3.heap.objs.size + 1) scope.names (cloFrom X.env.cells scope.names [])) fp
  have pe := he s3 H3 s3.heap.objs.size (cellsFrom (s3.heap.objs.size + 1) scope.names (cloFrom X.env.cells scope.names [])) fp
  show codeAny _ _ (.compStart e 0 (.ref it) (.ref D) (compEnvC scope (cellsFrom (s3.heap.objs.size + 1) scope.names (cloFrom X.env.cells scope.names [])) s3.heap.objs.size X.env)) (compPost (model X.prog X.w) X.A X.xe use Qf (.ref D) s3.heap.objs.size) { s3 with heap := pushCells (s3.heap.push { cls := .type "dict", data := .dict #[] }) scope.names }
  generalize hce : compEnvC scope (cellsFrom (s3.heap.objs.size + 1) scope.names (cloFrom X.env.cells scope.names [])) s3.heap.objs.size X.env = ce at I4 pg pt pe ⊢
  have cL : ce.locals = s3.heap.objs.size := by subst hce; rfl
  have st4 : tn 0 (pushCells (s3.heap.push { cls := .type "dict", data := .dict #[] }) scope.names) := T.keep _ _ _ st3 fun b _ u z => pushCells_keeps _ _ _ _ (Heap.get?_push_of_some _ z)
  generalize hs4 : ({ s3 with heap := pushCells (s3.heap.push { cls := .type "dict", data := .dict #[] }) scope.names } : Shared) = s4 at I4 ⊢
  have h4 : pushCells (s3.heap.push { cls := .type "dict", data := .dict #[] }) scope.names = s4.heap := by rw [← hs4]
  rw [h4] at st4
  have still : ∀ {σ' : L2.St} {H' : Hp} {s' : Shared}, Inv (X.blk s3 H3 scope ce fp) [] σ' H' s' → (∀ b ∈ fp, H' b = none) → ∀ b ∈ fp, FpOk (X.blk s3 H3 scope ce fp) [] H' b := fun {σ' H' s'} I' hn b hb =>
    ⟨hn b hb, (I'.ok.exf b hb).1, I'.ok.exfs b hb, .inl hb, (I'.ok.exf b hb).2, fun p hp => absurd (show p ∈ ([] : List (Addr × Obj)) ++ [] from hp) List.not_mem_nil⟩
  have loop : codeAny (model X.prog X.w) X.A (.compLoop e 0 (.ref it) (.ref D) ce) (compPost (model X.prog X.w) X.A X.xe use Qf (.ref D) s3.heap.objs.size) s4 := by
    refine C.loop (fun n s' => ∃ i H', Inv (X.blk s3 H3 scope ce fp) [] (wipe σ (own.map (·.2))) H' s' ∧ tn i s'.heap ∧ (∀ b ∈ fp, H' b = none) ∧ W i n H') ?_ m0 ⟨0, H3, I4, st4, fun b hb => (f3 b hb).1.1, w0⟩
    rintro n s5 ⟨i, H5, I5, st5, n5, w5⟩
    rcases turn i n H5 w5 with ⟨stop, qq⟩ | ⟨go, Nx, hNx, step⟩
    · refine wpAny_mono (T.done (X.blk s3 H3 scope ce fp) rfl rfl rfl hc i [] s5 _ H5 (fun _ _ => False) I5 (still I5 n5) st5 stop) (fun r s6 ⟨hr, I6⟩ => ?_) fun _ _ z => z
      subst hr
      -- in the def's own context again
      have I7 : Inv X pins σ H5 s6 := I3.call' (ch := fp) I6.os I6.base I6.hok I6.bare fun b hb => ⟨(f3 b hb).1.2.2.2.1, (f3 b hb).1.2.1, (f3 b hb).1.2.2.2.2.1, (f3 b hb).1.2.2.2.2.2⟩
      have nB : H5 s3.heap.objs.size = none := by
        rw [← cL]
        exact I6.free
      obtain ⟨m, hn, _⟩ := I6.loc
      exact after D s3.heap.objs.size s6 m H5 I7 qq (by rw [← cL]; exact hn) (I3.fpOk (Nat.le_refl _) nB)
    · refine wpAny_mono (T.item (X.blk s3 H3 scope ce fp) rfl rfl rfl hc i [] s5 _ H5 (fun _ _ => False) I5 (still I5 n5) st5 go) (fun r s6 ⟨u, hr, h6⟩ => ?_) fun _ _ z => z
      subst hr
      refine wpAny_mono h6 (fun _ s7 ⟨x, H7, I7, r7, y7, st7, n7⟩ => ?_) fun _ _ z => z
      have I7' := I7.pinned (still I7 n7) (T.obj _ _ st7)
      refine wpAny_mono (pg.run _ s7 _ H7 x u _ I7' r7 (step x H7 y7)) (fun _ s8 ⟨σ8, H8, I8, hw8, q8⟩ => ?_) fun _ _ z => z
      refine wpAny_mono (pt.run _ s8 σ8 H8 _ I8 q8) (fun b s9 ⟨H9, I9, q9⟩ => ?_) fun _ _ z => z
      have fin : ∀ {s' : Shared} {H' : Hp}, Inv (X.blk s3 H3 scope ce fp) ([] ++ pinsAt fp s7.heap) σ8 H' s' → Nx H' → ∃ m, m < n ∧ ∃ i H', Inv (X.blk s3 H3 scope ce fp) [] (wipe σ (own.map (·.2))) H' s' ∧ tn i s'.heap ∧ (∀ b ∈ fp, H' b = none) ∧ W i m H' := fun {s' H'} I' nx => by
        obtain ⟨m', hm, w'⟩ := hNx H' nx
        have pin' : ∀ b ∈ fp, ∀ u, s7.heap.get? b = some u → s'.heap.get? b = some u ∧ H' b = none := fun b hb u z =>
          have p := I'.pin (b, u) (List.mem_append_right _ (List.mem_append_right _ (mem_pinsAt hb z)))
          ⟨p.1, p.2.1⟩
        refine ⟨m', hm, i + 1, H', (I'.unpinned (pins := [])).weak (by rw [← hw8, wipe_length]) (fun j v z => ?_), T.keep _ _ _ st7 fun b hb u z => (pin' b hb u z).1, fun b hb => ?_, w'⟩
        · rw [← hw8] at z
          exact (wipe_some z).1
        · obtain ⟨u, z, _⟩ := T.obj _ _ st7 b hb
          exact (pin' b hb u z).2
      dsimp only at q9
      by_cases hb : b = true
      · rw [if_pos hb] at q9 ⊢
        exact wpAny_mono (pe.run _ s9 σ8 H9 D _ I9 q9) (fun _ s10 ⟨H10, I10, nx⟩ => fin I10 nx) fun _ _ z => z
      · rw [if_neg hb] at q9 ⊢
        exact fin I9 q9
  exact C.start loop (T.self X.A 0 _ _ _ st4 loop)
/-- as a value -/
theorem pe_cp {e tg iter : Expr} {ifs : List Expr} {emit : Value → Env → Sem Unit} {make : Sem Value} {o : Addr → HO} {scope : Scope} {own : List (Str × Nat)} {pos' : Pos} {wi : TI} {g : TG} {tt : TT} {te : TEm}
    (ev : eval e X.env = comprehension e scope X.env pos' make false (eval iter X.env)) (C : CompE X.prog X.w e tg iter ifs emit) (N : NewE X.prog X.w make o) (hc : X.calm = true) (hN : X.N.Nodup) (hi : PI X tg iter wi) (ok : BlkOk X.N X.env.scope scope own)
    (hg : InBlk X scope fun Y => PG Y tg g) (ht : InBlk X scope fun Y => PTs Y ifs tt) (he : InBlk X scope fun Y => PEm Y emit te) (hs : ∀ x, foldedSetIterable iter X.env x = pure x := by intro _; rfl) :
    PE X e (tCp o wi g tt te (own.map (·.2))) := by
  refine ⟨fun pins s σ H Q I h => ?_⟩
  rw [ev]
  refine cp_core C N hc hN I hi ok hg ht he hs h fun D B s' m H' I' q hn f => ⟨m, hn, fun h'' sb => ?_⟩
  exact ⟨.ref D, H', I'.turned (t' := s'.toks) (fun b u hb z => (sb.2 b hb).trans z) f.1 f.2.1 f.2.2.2.1 f.2.2.2.2.1 f.2.2.2.2.2, rfl, q⟩
/-- name = {..} on one line, the name a local -/
theorem ps_setCp {i : Nat} {y : Str} {py spos : Pos} {e tg iter : Expr} {ifs : List Expr} {emit : Value → Env → Sem Unit} {make : Sem Value} {o : Addr → HO} {scope : Scope} {own : List (Str × Nat)} {pos' : Pos} {wi : TI} {g : TG} {tt : TT} {te : TEm}
    (ev : ∀ use, evalThenUse e X.env use = (do let _ ← comprehension e scope X.env pos' make false (eval iter X.env) (some use))) (C : CompE X.prog X.w e tg iter ifs emit) (N : NewE X.prog X.w make o) (hc : X.calm = true) (hN : X.N.Nodup) (hy : X.N[i]? = some y) (hyl : X.env.scope.names.lookup y = some .local)
    (sw : swapsWith e (some (.Name y py)) spos.line X.env = pure true) (hi : PI X tg iter wi) (ok : BlkOk X.N X.env.scope scope own)
    (hg : InBlk X scope fun Y => PG Y tg g) (ht : InBlk X scope fun Y => PTs Y ifs tt) (he : InBlk X scope fun Y => PEm Y emit te) (hs : ∀ x, foldedSetIterable iter X.env x = pure x := by intro _; rfl) :
    PS X (.Assign [.Name y py] e spos) (tAsg (tCp o wi g tt te (own.map (·.2))) (gName i)) := by
  refine ⟨fun pins s σ H E I h => ?_⟩
  rw [exec_Assign_Name_used _ _ _ _ sw]
  refine wpAny_bind (wpAny_standAt (wpAny_bind ?_))
  rw [ev]
  have h : tCp o wi g tt te (own.map (·.2)) σ H (fun x H1 => gName i x σ H1 E.nx) := h
  refine wpAny_bind (thn (cp_core (Qf := fun _ s' => SP X pins E .next s') C N hc hN I hi ok hg ht he hs h fun D B s' m H' I' q hn f => ?_) fun _ s' hq => wpAny_pure (wpAny_pure hq))
  show wpAny _ _ (assign (.Name y py) X.env (.ref D)) _ _ _
  refine wpAny_assign_Name (store_ok2 (v := V.ref D) I' hN hy (.inl hyl) rfl (fun s2 I2 ⟨a, sb, ha⟩ => ?_) (.inr hyl))
  have nB : B ≠ a := ha.elim (fun z => by rw [z]; exact f.2.1) fun z k => f.2.2.2.2.1 y a z k.symm
  exact ⟨m, hn.sameBut sb nB, fun h3 sb3 => ⟨_, H', I2.turned (t' := s2.toks) (fun b u hb z => (sb3.2 b hb).trans z) f.1 f.2.1 f.2.2.2.1 f.2.2.2.2.1 f.2.2.2.2.2, q⟩⟩
end
/-! ### the forms one uses -/
section
variable {K : PySem.W.Frag} {a : Addr} {xs : List V} {g : TG} {tt : TT} {te : TEm} {vs : List Nat} {σ : L2.St} {H1 : Hp} {D : Addr} {o : HO} {Qd : Hp → Prop}
/-- over a list that the block leaves as it is -/
theorem cp_list (Pv : Nat → Hp → Prop) (h0 : Pv 0 (upd H1 D o)) (hl : ∀ i H, i ≤ xs.length → Pv i H → SqL K H a xs)
    (hs : ∀ i x H, xs[i]? = some x → Pv i H → g x (wipe σ vs) H fun σ2 H2 => wipe σ2 vs = wipe σ vs ∧ tt σ2 H2 fun b H3 => if b = true then te σ2 H3 D (Pv (i + 1)) else Pv (i + 1) H3) (hd : ∀ H, Pv xs.length H → Qd H) :
    ∃ W : Nat → Nat → Hp → Prop, (∃ m, W 0 m (upd H1 D o)) ∧ ∀ i m H, W i m H →
      ((Itl K a).stop i H ∧ Qd H) ∨ ((Itl K a).go i H ∧ ∃ Nx : Hp → Prop, (∀ H', Nx H' → ∃ m', m' < m ∧ W (i + 1) m' H') ∧ ∀ x H', (Itl K a).yld i H x H' → g x (wipe σ vs) H' fun σ2 H2 => wipe σ2 vs = wipe σ vs ∧ tt σ2 H2 fun b H3 =>
        if b = true then te σ2 H3 D Nx else Nx H3) := by
  refine ⟨fun i m H => m + i = xs.length ∧ Pv i H, ⟨xs.length, rfl, h0⟩, fun i m H ⟨hm, p⟩ => ?_⟩
  have q := hl i H (by omega) p
  by_cases c : i < xs.length
  · have e : xs[i]? = some xs[i] := List.getElem?_eq_getElem c
    refine .inr ⟨⟨xs, xs[i], q, e⟩, Pv (i + 1), fun H' p' => ⟨m - 1, by omega, by omega, p'⟩, fun x H' ⟨e', y⟩ => ?_⟩
    subst e'
    exact hs i x _ (y xs q) p
  · have e : i = xs.length := by omega
    subst e
    exact .inl ⟨⟨xs, q, Nat.le_refl _⟩, hd H p⟩
/-- over a tuple -/
theorem cp_tup (Pv : Nat → Hp → Prop) (h0 : Pv 0 (upd H1 D o)) (hl : ∀ i H, i ≤ xs.length → Pv i H → SqT K H a xs)
    (hs : ∀ i x H, xs[i]? = some x → Pv i H → g x (wipe σ vs) H fun σ2 H2 => wipe σ2 vs = wipe σ vs ∧ tt σ2 H2 fun b H3 => if b = true then te σ2 H3 D (Pv (i + 1)) else Pv (i + 1) H3) (hd : ∀ H, Pv xs.length H → Qd H) :
    ∃ W : Nat → Nat → Hp → Prop, (∃ m, W 0 m (upd H1 D o)) ∧ ∀ i m H, W i m H →
      ((Itt K a).stop i H ∧ Qd H) ∨ ((Itt K a).go i H ∧ ∃ Nx : Hp → Prop, (∀ H', Nx H' → ∃ m', m' < m ∧ W (i + 1) m' H') ∧ ∀ x H', (Itt K a).yld i H x H' → g x (wipe σ vs) H' fun σ2 H2 => wipe σ2 vs = wipe σ vs ∧ tt σ2 H2 fun b H3 =>
        if b = true then te σ2 H3 D Nx else Nx H3) := by
  refine ⟨fun i m H => m + i = xs.length ∧ Pv i H, ⟨xs.length, rfl, h0⟩, fun i m H ⟨hm, p⟩ => ?_⟩
  have q := hl i H (by omega) p
  by_cases c : i < xs.length
  · have e : xs[i]? = some xs[i] := List.getElem?_eq_getElem c
    refine .inr ⟨⟨xs, xs[i], q, e⟩, Pv (i + 1), fun H' p' => ⟨m - 1, by omega, by omega, p'⟩, fun x H' ⟨e', y⟩ => ?_⟩
    subst e'
    exact hs i x _ (y xs q) p
  · have e : i = xs.length := by omega
    subst e
    exact .inl ⟨⟨xs, q, Nat.le_refl _⟩, hd H p⟩
end
/-! ### sets of keys -/
abbrev emSet (elt : Expr) : Value → Env → Sem Unit := fun acc env => do let v ← eval elt env; standAt elt.pos; let _ ← call (.builtin "set.add") [acc, v]
theorem compSet {P : Program} {w : World} {elt tg iter : Expr} {ifs : List Expr} {scope : Scope} {pos : Pos} : CompE P w (.SetComp elt [⟨tg, iter, ifs, 0⟩] scope pos) tg iter ifs (emSet elt) where
  turn it D env := by first | rfl | (rw [PpSet.compTurn_set]; rfl)
  den it D env := rfl
  und A it D env := rfl
  quiet it D env := rfl
  cls := rfl
  start := PpSet.codeAny_compStart_set
theorem newSetE {P : Program} {w : World} : NewE P w (newSet (.type "set")) fun a => KSetO P w a [] :=
  ⟨emptySet w, fun h => PpSet.newSet_ok h, fun H h _ => kset_ok (KTab.new (Heap.get?_push_size _ rfl))⟩
def tEmK (K : PySem.W.Frag) (P : Program) (w : World) (te : TE) : TEm := fun σ H D Q => te σ H fun y H1 => ∃ (b : Addr) (L : List (Addr × List L2.Key)) (k : List L2.Key), y = .ref b ∧ H1 D = some (KSetO P w D L) ∧ MemT K H1 L ∧ SqT K H1 b (k.map kV) ∧ L.length + 1 < 64 ∧
  ∀ L', (k ∈ L.map (·.2) → L' = L) → (k ∉ L.map (·.2) → L'.Perm ((b, k) :: L)) → Q (upd H1 D (KSetO P w D L'))
section
variable {X : Cx}
theorem pem_set {elt : Expr} {te : TE} (hu : X.A.units + 2 < cLine) (he : PE X elt te) : PEm X (emSet elt) (tEmK X.K X.prog X.w te) := by
  refine ⟨fun pins s σ H D Q I h => ?_⟩
  refine wpAny_bind (thn (he.run pins s σ H _ I h) fun v s1 ⟨y, H1, I1, r, b, L, k, ey, hD, hL, hb, few, q⟩ => ?_)
  subst ey
  obtain rfl : v = Value.ref b := r
  refine wpAny_bind (wpAny_standAt (wpAny_bind (addK_ok I1 hu hD hL hb few fun s2 L' c1 c2 I2 => ?_)))
  exact wpAny_pure ⟨_, I2, q L' c1 c2⟩
/-- {elt for tg in iter if ..}, elt a key -/
theorem pe_scK {elt tg iter : Expr} {ifs : List Expr} {scope : Scope} {own : List (Str × Nat)} {pos : Pos} {wi : TI} {g : TG} {tt : TT} {te : TE} (hu : X.A.units + 2 < cLine) (hc : X.calm = true) (hN : X.N.Nodup) (hi : PI X tg iter wi) (ok : BlkOk X.N X.env.scope scope own)
    (hg : InBlk X scope fun Y => PG Y tg g) (ht : InBlk X scope fun Y => PTs Y ifs tt) (he : InBlk X scope fun Y => PE Y elt te) (hs : ∀ x, foldedSetIterable iter X.env x = pure x := by intro _; rfl) :
    PE X (.SetComp elt [⟨tg, iter, ifs, 0⟩] scope pos) (tCp (fun a => KSetO X.prog X.w a []) wi g tt (tEmK X.K X.prog X.w te) (own.map (·.2))) :=
  pe_cp (PpSet.eval_SetComp elt _ scope pos) compSet newSetE hc hN hi ok hg ht (fun s H C cl fp => pem_set (X := X.blk s H scope (compEnvC scope cl C X.env) fp) hu (he s H C cl fp)) hs
end
/-! ### dicts whose keys are tuples -/
abbrev emDict (kx vx : Expr) : Value → Env → Sem Unit := fun acc env => do
  let kv ← eval kx env
  let vv ← holding [kv] (eval vx env)
  match acc with
  | .ref d => do
    standAt { kx.pos with endLine := vx.pos.endLine, endCol := vx.pos.endCol }
    holding [kv, vv] (dictSet d kv vv)
  | _ => unsupported "internal:dictcomp"
theorem compDict {P : Program} {w : World} {kx vx tg iter : Expr} {ifs : List Expr} {scope : Scope} {pos : Pos} : CompE P w (.DictComp kx vx [⟨tg, iter, ifs, 0⟩] scope pos) tg iter ifs (emDict kx vx) where
  turn it D env := by first | rfl | (rw [compTurn_dict]; rfl)
  den it D env := rfl
  und A it D env := rfl
  quiet it D env := rfl
  cls := rfl
  start := codeAny_compStart_dict
theorem newDictT {P : Program} {w : World} : NewE P w newDict fun _ => .dT [] :=
  ⟨{ cls := .type "dict", data := .dict #[] }, fun h => wpAny_newObj_type h, fun H h hb => dt_empty h hb⟩
def tEmT (tk tv : TE) : TEm := fun σ H D Q => tk σ H fun y H1 => tv σ H1 fun z H2 => ∃ (kvs : List (List L2.Key × V)) (k : List L2.Key) (b : Addr), y = .ref b ∧ H2 b = some (.tup (k.map kV)) ∧ H2 D = some (.dT kvs) ∧ kvs.length < sizeLine ∧ Q (upd H2 D (.dT (putK kvs k z)))
section
variable {X : Cx}
theorem dictSet_tup {pins : List (Addr × Obj)} {σ : L2.St} {H : Hp} {s : Shared} {E : Value → Shared → Prop} {D b : Addr} {kvs : List (List L2.Key × V)} {k : List L2.Key} {v : V} {r : Value} {Q : Unit → Shared → Prop} (hu : X.A.units + 1 < cLine) (I : Inv X pins σ H s) (hD : H D = some (.dT kvs)) (hb : H b = some (.tup (k.map kV)))
    (hz : kvs.length < sizeLine) (rv : RelV v r) (h : ∀ s', Inv X pins σ (upd H D (.dT (putK kvs k v))) s' → Q () s') : wpAny (model X.prog X.w) X.A (dictSet D (.ref b) r) Q E s := by
  obtain ⟨z, hd, xs, rel, dd⟩ := dt_of I.hok hD
  have hzx : xs.length ≤ sizeLine := by rw [← Paired.length rel]; exact z
  have hl : (putK kvs k v).length ≤ sizeLine := by have := length_putK kvs k v; omega
  refine wpAny_dictSet_heap (hsz := hzx) (show X.A.units < cLine by omega) (key_of I.hok hb) dd fun h' dd' hs => h _ ?_
  obtain ⟨q, es, ep, hq, h2, h3, h4, _, h5⟩ := dd'
  refine d_write I (by rw [hD]; exact True.intro) hs ⟨q, hq⟩ ⟨hl, hd, _, (rel.put k hb rv).keeps fun c ys ec => ?_, q, es, ep, hq, h2, h3, h4, h5⟩
  rw [upd_ne (ne_of ec hD (fun z => nomatch z))]
  exact ec
theorem pem_dictT {kx vx : Expr} {tk tv : TE} (hu : X.A.units + 1 < cLine) (hk : PE X kx tk) (hv : PE X vx tv) : PEm X (emDict kx vx) (tEmT tk tv) := by
  refine ⟨fun pins s σ H D Q I h => ?_⟩
  refine wpAny_bind (thn (hk.run pins s σ H _ I h) fun u s1 ⟨y, H1, I1, ry, q1⟩ => wpAny_bind (wpAny_holding (thn (hv.run pins s1 σ H1 _ I1 q1) fun r s2 ⟨z, H2, I2, rz, kvs, k, b, ey, hb, hD, hz, q⟩ => ?_)))
  subst ey
  obtain rfl : u = Value.ref b := ry
  refine wpAny_bind (wpAny_standAt (wpAny_holding (dictSet_tup hu I2 hD hb hz rz fun s3 I3 => ⟨_, I3, q⟩)))
theorem pe_dcT {kx vx tg iter : Expr} {ifs : List Expr} {scope : Scope} {own : List (Str × Nat)} {pos : Pos} {wi : TI} {g : TG} {tt : TT} {tk tv : TE} (hu : X.A.units + 1 < cLine) (hc : X.calm = true) (hN : X.N.Nodup) (hi : PI X tg iter wi) (ok : BlkOk X.N X.env.scope scope own)
    (hg : InBlk X scope fun Y => PG Y tg g) (ht : InBlk X scope fun Y => PTs Y ifs tt) (hk : InBlk X scope fun Y => PE Y kx tk) (hv : InBlk X scope fun Y => PE Y vx tv) (hs : ∀ x, foldedSetIterable iter X.env x = pure x := by intro _; rfl) :
    PE X (.DictComp kx vx [⟨tg, iter, ifs, 0⟩] scope pos) (tCp (fun _ => .dT []) wi g tt (tEmT tk tv) (own.map (·.2))) :=
  pe_cp (arm_eval_DictComp ..) compDict newDictT hc hN hi ok hg ht (fun s H C cl fp => pem_dictT (X := X.blk s H scope (compEnvC scope cl C X.env) fp) hu (hk s H C cl fp) (hv s H C cl fp)) hs
theorem ps_setDcT {i : Nat} {y : Str} {py spos : Pos} {kx vx tg iter : Expr} {ifs : List Expr} {scope : Scope} {own : List (Str × Nat)} {pos : Pos} {wi : TI} {g : TG} {tt : TT} {tk tv : TE} (hu : X.A.units + 1 < cLine) (hc : X.calm = true) (hN : X.N.Nodup) (hy : X.N[i]? = some y) (hyl : X.env.scope.names.lookup y = some .local)
    (sw : swapsWith (.DictComp kx vx [⟨tg, iter, ifs, 0⟩] scope pos) (some (.Name y py)) spos.line X.env = pure true) (hi : PI X tg iter wi) (ok : BlkOk X.N X.env.scope scope own)
    (hg : InBlk X scope fun Y => PG Y tg g) (ht : InBlk X scope fun Y => PTs Y ifs tt) (hk : InBlk X scope fun Y => PE Y kx tk) (hv : InBlk X scope fun Y => PE Y vx tv) (hs : ∀ x, foldedSetIterable iter X.env x = pure x := by intro _; rfl) :
    PS X (.Assign [.Name y py] (.DictComp kx vx [⟨tg, iter, ifs, 0⟩] scope pos) spos) (tAsg (tCp (fun _ => .dT []) wi g tt (tEmT tk tv) (own.map (·.2))) (gName i)) :=
  ps_setCp (pos' := firstIterPos [⟨tg, iter, ifs, 0⟩] pos) (make := newDict) (fun use => rfl) compDict newDictT hc hN hy hyl sw hi ok hg ht (fun s H C cl fp => pem_dictT (X := X.blk s H scope (compEnvC scope cl C X.env) fp) hu (hk s H C cl fp) (hv s H C cl fp)) hs
end
end Wm
/-! lists walked to their end while an error is handled: sum, comprehensions -/
namespace Wm
open PySem PySem.Spec PyProof.Rows L2 HotX
section
variable {prog : Program} {w : World} {A : Around} {E : Value → Shared → Prop} {s : Shared}
/-- a list iterator at its end: the StopIteration gets the handled error as its context, nothing else is touched -/
theorem next_end_hot {it l x1 : Addr} {i : Nat} {items : Array Value} {Q : Option Value → Shared → Prop} (hot : HotAt A x1 s.heap) (hne : x1 ≠ it) (hit : s.heap.IsListIter it l i) (hl : s.heap.IsList l items) (hx : items[i]? = none)
    (hQ : ∀ h', Heap.ExtBut it s.heap h' → Q none { s with heap := h' }) : wpAny (model prog w) A (pyNext (.ref it)) Q E s := by
  obtain ⟨hh, o1, vs1, g1, f1, c1⟩ := hot
  obtain ⟨oi, gi, ci, di⟩ := id hit
  obtain ⟨ol, gl, _, nl, dl⟩ := hl
  have slot := slot_listiter_next
  unfold pyNext
  refine wpAny_bind (wpAny_attempt (wpAny_callSpecial?_slot (name := Str.ofString "__next__") hit.typeIs slot (wpAny_call_entry slot hit.typeIs entry_listiter_next ?_ (args_listiter_next _))))
  have rd0 : ∀ {Q' : Value → Shared → Prop} {E'} {A'}, Q' (.ref l) s → wpAny (model prog w) A' (field (.ref it) 0) Q' E' s := fun q => wpAny_field gi di (x := .ref l) rfl q
  have rd1 : ∀ {Q' : Value → Shared → Prop} {E'} {A'}, Q' (.int i 0) s → wpAny (model prog w) A' (field (.ref it) 1) Q' E' s := fun q => wpAny_field gi di (x := .int i 0) rfl q
  show wpAny _ _ (field (.ref it) 0 >>= _) _ _ s
  refine wpAny_bind (rd0 ?_)
  show wpAny _ _ (if (Value.ref l == Value.none) = true then _ else _) _ _ s
  rw [if_neg (show ¬ ((Value.ref l == Value.none) = true) from Bool.false_ne_true)]
  show wpAny _ _ (field (.ref it) 1 >>= _) _ _ s
  refine wpAny_bind (rd1 ?_)
  show wpAny _ _ (seqItems? (.ref l) >>= _) _ _ s
  refine wpAny_bind (wpAny_seqItems gl dl ?_)
  simp only [Int.toNat_natCast, hx]
  refine wpAny_bind (wpAny_rule (wpAny_bind (wpAny_setField gi di (by simp) ?_)))
  show wpAny _ _ (newExc (.type "StopIteration") [] >>= _) _ _ _
  refine wpAny_bind ?_
  simp only [newExc, newTuple]
  refine wpAny_bind (wpAny_newObj_type ?_ (by size_fits))
  refine wpAny_bind (m := firstArgMember _ _) (wpAny_of_eq (a := Value.none) (by first | rfl | (simp only [firstArgMember]; rfl)) ?_)
  refine wpAny_newObj_type ?_ (by size_fits)
  refine raiseNew_hot ⟨hh, o1, vs1, (((Heap.SameBut.update ..).extBut.push _).push _) x1 o1 hne g1, f1, c1⟩ (Nat.ne_of_lt (Heap.lt_size (((Heap.SameBut.update ..).extBut.push _) x1 o1 hne g1))) (Heap.get?_push_size _ rfl) rfl (by first | (simp; done) | (simp; omega) | (simp only [Array.size_append]; simp; omega)) ?_
  refine wpAny_bind (wpAny_isInstance (T := "StopIteration") (b := true) ⟨_, Heap.get?_update_self _ (Heap.get?_push_size _ rfl) rfl, rfl⟩ isSubtype_stop ?_)
  refine wpAny_pure (hQ _ fun b o nb e => ?_)
  rw [Heap.get?_update_other _ _ (Nat.ne_of_gt (Heap.lt_size (((Heap.SameBut.update ..).extBut.push _) b o nb e)))]
  exact (((Heap.SameBut.update ..).extBut.push _).push _) b o nb e
/-- the walk over a list, the handled error's object kept in sight -/
theorem walks_hot {x1 : Addr} {o1 : Obj} {v1 : Array Value} (hh : A.handled = some (.ref x1)) (d1 : o1.data = .fields v1) (c1 : v1[2]? = some .none) (I ax : Addr) (hne : ax ≠ I) (hx : x1 ≠ I) (items : Array Value) :
    Walks prog w A I [I, ax, x1] [I] items.size (fun i v => items[i]? = some v) (fun i h => h.IsListIter I ax i ∧ h.IsList ax items ∧ h.get? x1 = some o1) where
  sub := fun b hb => by
    rw [List.mem_singleton.mp hb]
    exact List.mem_cons_self
  frame := fun i h h' ⟨a, b, c⟩ k => ⟨a.at fun o e => k I (by simp) o e, b.at fun o e => k ax (by simp) o e, k x1 (by simp) o1 c⟩
  item := fun i s Q E hi ⟨a, b, c⟩ q => by
    refine wpAny_pyNext_list_item a b (Array.getElem?_eq_getElem hi) fun h' a' sb => ?_
    exact q _ h' s.toks (Array.getElem?_eq_getElem hi) ⟨a', b.at fun o e => (sb.2 ax hne).trans e, (sb.2 x1 hx).trans c⟩ fun y o ny e => (sb.2 y (fun z => ny (by rw [z]; exact List.mem_cons_self))).trans e
  done := fun s Q E ⟨a, b, c⟩ q => next_end_hot ⟨hh, o1, v1, c, d1, c1⟩ hx a b (Array.getElem?_eq_none (Nat.le_refl _)) fun h' eb => q h' s.toks fun y o ny e => eb y o (fun z => ny (by rw [z]; exact List.mem_cons_self)) e
  self := fun i s Q E ⟨a, _, _⟩ q => wpAny_pyIter_listiter a q
theorem sum_hot {l x1 : Addr} {o1 : Obj} {v1 : Array Value} {its : List Value} {ns : List Int} {Q : Value → Shared → Prop} (hh : A.handled = some (.ref x1)) (g1 : s.heap.get? x1 = some o1) (d1 : o1.data = .fields v1) (c1 : v1[2]? = some .none) (hl : s.heap.IsList l its.toArray) (hi : IntsAre its ns)
    (h : ∀ h' tk t', (∀ b o, s.heap.get? b = some o → h'.get? b = some o) → Q (.int ns.sum t') { s with heap := h', toks := tk }) : wpAny (model prog w) A (call (.builtin "sum") [.ref l]) Q E s := by
  obtain ⟨xs, e⟩ := hi.allInts.items
  have hn : numsOf (intItems xs).toList = ns := by rw [← e]; exact hi.numsOf
  rw [nums_intItems] at hn
  rw [e] at hl
  refine call_sum_walkG (iter_intList hl fun s2 e2 st fpl hlI => ?_)
  subst e2
  have hx : x1 ≠ s.heap.objs.size := Nat.ne_of_lt (Heap.lt_size g1)
  refine ⟨_, _, _, _, _, _, numAt xs, rfl, walks_hot (A := A.in1) hh d1 c1 _ l hlI hx (intItems xs), ⟨st.1, st.2, Heap.get?_push_of_some _ g1⟩, fun b hb => ?_, (fun _ _ => intItems_at), fun h' tk t' hk => ?_⟩
  · rcases List.mem_cons.mp hb with z | hb
    · exact fpl b (by rw [z]; simp)
    rcases List.mem_cons.mp hb with z | hb
    · exact fpl b (by rw [z]; simp)
    · rw [List.mem_singleton.mp hb]
      exact Heap.lt_size (Heap.get?_push_of_some _ g1)
  · have q := h h' tk t' (old_kept hk)
    have e3 : preSum (numAt xs) (intItems xs).size = ns.sum := by
      rw [preSum_eq, List.take_of_length_le (by simp [intItems]), hn]
    rw [e3]
    exact q
end
section
variable {X : Cx} {a : Addr} {oe : Obj} {vf : Array Value} {pn : List (Addr × Obj)}
theorem cr_sumH (hf : oe.data = .fields vf) (hn : vf[2]? = some .none) : CallR (X.suite a ((a, oe) :: pn)) (.builtin "sum") (rSum X.K) := by
  intro pins s σ H vs us Q I r h
  obtain ⟨l, ns, rfl, hs, q⟩ := h
  obtain ⟨its, rv, hl, _⟩ := I.list hs
  have P1 := I.pin (a, oe) (List.mem_append_left _ (List.mem_cons_self ..))
  rw [Vals.ref1 r]
  exact sum_hot (x1 := a) rfl P1.1 hf hn hl.isList rv.ints fun h' tk t' hk => ⟨.int _, H, I.kept hk, ⟨_, rfl⟩, q⟩
end
end Wm
/-! [elt for target in a list], no tests, while an error is handled -/
namespace Wm
open PySem PySem.Spec PyProof.Rows L2 HotX
/-- W i: what holds ahead of the turn i -/
def tLcH (K : PySem.W.Frag) (tl : TE) (g : TG) (te : TE) (vs : List Nat) : TE := fun σ H Q => tl σ H fun v H1 => ∃ (l : Addr) (xs : List V), v = .ref l ∧ SqL K H1 l xs ∧ ∀ D, H1 D = none → ∃ W : Nat → Hp → Prop, W 0 (upd H1 D (.lst [])) ∧ (∀ i H', W i H' → SqL K H' l xs) ∧
  (∀ i x H', xs[i]? = some x → W i H' → g x (wipe σ vs) H' fun σ2 H2 => wipe σ2 vs = wipe σ vs ∧ te σ2 H2 fun y H4 => ∃ acc, H4 D = some (.lst acc) ∧ acc.length < sizeLine ∧ W (i + 1) (upd H4 D (.lst (acc ++ [y])))) ∧ ∀ H', W xs.length H' → Q (.ref D) H'
section
variable {X : Cx} {a : Addr} {oe : Obj} {vf : Array Value}
theorem pe_lcH {elt tg l : Expr} {scope : Scope} {own : List (Str × Nat)} {pos : Pos} {tl : TE} {g : TG} {te : TE} (hA : X.A.handled = some (.ref a)) (hpn : (a, oe) ∈ X.pn) (hf : oe.data = .fields vf) (hn : vf[2]? = some .none) (hN : X.N.Nodup) (hl : PE X l tl) (ok : BlkOk X.N X.env.scope scope own)
    (hg : ∀ (s : Shared) (H : Hp) (C : Addr) (cl : List (Str × Addr)) (fp : List Addr), PG (X.blk s H scope (compEnvC scope cl C X.env) fp) tg g)
    (he : ∀ (s : Shared) (H : Hp) (C : Addr) (cl : List (Str × Addr)) (fp : List Addr), PE (X.blk s H scope (compEnvC scope cl C X.env) fp) elt te) (hs : ∀ x, foldedSetIterable l X.env x = pure x := by intro _; rfl) :
    PE X (.ListComp elt [⟨tg, l, [], 0⟩] scope pos) (tLcH X.K tl g te (own.map (·.2))) := by
  refine ⟨fun pins s σ H Q I h => ?_⟩
  rw [eval_ListComp]
  have cells : ∀ y ∈ scope.names, y.2 = .free → ∃ c, X.env.cells.lookup y.1 = some c := fun y hy e => (ok.free y hy e).elim (fun k => I.ok.has _ (.inl k)) (fun k => I.ok.has _ (.inr k))
  refine wpAny_comprehension_free (use := none) rfl hs (closure_ok cells) ok.kind (fun y hy e => by rw [ok.uniq y hy, e]) (thn (hl.run pins s σ H _ I h) fun v s1 ⟨x, H1, I1, r1, q1⟩ => ?_)
  obtain ⟨la, xs, rfl, hq, q⟩ := q1
  cases r1
  obtain ⟨its, rv, p, hz⟩ := I1.list hq
  refine wpAny_pyIter_list p.isList ?_
  -- the iterator, the new list, the block
  generalize hit : s1.heap.objs.size = it
  have itn : H1 it = none := I1.hok.fresh (Nat.le_of_eq hit)
  have I2 : Inv X pins σ H1 { s1 with heap := s1.heap.push { cls := .type "list_iterator", data := .fields #[.ref la, .int 0 0] } } := I1.kept (t' := s1.toks) fun b o e => Heap.get?_push_of_some _ e
  have st2 : ({ s1 with heap := s1.heap.push { cls := .type "list_iterator", data := .fields #[.ref la, .int 0 0] } } : Shared).heap.IsListIter it la 0 := by
    rw [← hit]
    exact ⟨_, Heap.get?_push_size _ rfl, rfl, rfl⟩
  have fp2 : FpOk X pins H1 it := I1.fpOk (Nat.le_of_eq hit) itn
  generalize hs2 : ({ s1 with heap := s1.heap.push { cls := .type "list_iterator", data := .fields #[.ref la, .int 0 0] } } : Shared) = s2 at I2 st2 ⊢
  refine wpAny_newObj_type (newEnv_comp ?_) (by show 0 ≤ sizeLine; decide)
  generalize hD : s2.heap.objs.size = D
  have Dn : H1 D = none := I2.hok.fresh (Nat.le_of_eq hD)
  have itD : it ≠ D := fun z => by
    obtain ⟨o, e, _⟩ := st2
    exact absurd (Heap.lt_size e) (by rw [z, ← hD]; exact Nat.lt_irrefl _)
  obtain ⟨W, w0, wq, step, fin⟩ := q D Dn
  have I3 : Inv X pins σ (upd H1 D (.lst [])) { s2 with heap := s2.heap.push { cls := .type "list", data := .seq ([] : List Value).toArray } } := by
    refine I2.laid (t' := s2.toks) (fun b o e => Heap.get?_push_of_some _ e) (Nat.le_of_eq hD) ⟨Nat.zero_le _, [], 0, .nil, ?_⟩
    rw [← hD]
    exact Heap.get?_push_size _ rfl
  have st3 : ({ s2 with heap := s2.heap.push { cls := .type "list", data := .seq ([] : List Value).toArray } } : Shared).heap.IsListIter it la 0 := st2.at fun o e => Heap.get?_push_of_some _ e
  generalize ({ s2 with heap := s2.heap.push { cls := .type "list", data := .seq ([] : List Value).toArray } } : Shared) = s3 at I3 st3 ⊢
  generalize hH3 : upd H1 D (.lst []) = H3 at I3 w0
  have it3 : H3 it = none := by rw [← hH3, upd_ne itD]; exact itn
  have fp3 : ∀ b ∈ [it], FpOk X pins H3 b ∧ b < s3.heap.objs.size := fun b hb => by
    rw [List.mem_singleton.mp hb]
    obtain ⟨o, e, _⟩ := st3
    exact ⟨⟨it3, fp2.2⟩, Heap.lt_size e⟩
  have I4 := block_start I3 ok hN fp3
  have pg := hg s3 H3 s3.heap.objs.size (cellsFrom (s3.heap.objs.size + 1) scope.names (cloFrom X.env.cells scope.names [])) [it]
  have pe := he s3 H3 s3.heap.objs.size (cellsFrom (s3.heap.objs.size + 1) scope.names (cloFrom X.env.cells scope.names [])) [it]
  have P3 := I3.pin (a, oe) (List.mem_append_left _ hpn)
  have aS : a ∉ frs X.stack := fun z => (List.mem_cons.mp (I3.stkSub a z)).elim P3.2.2.1 P3.2.2.2.1
  have aI : a ≠ it := fun z => fp2.2.2.2.2.2 (a, oe) (List.mem_append_left _ hpn) z
  show codeAny _ _ (.compStart (.ListComp elt [⟨tg, l, [], 0⟩] scope pos) 0 (.ref it) (.ref D) (compEnvC scope (cellsFrom (s3.heap.objs.size + 1) scope.names (cloFrom X.env.cells scope.names [])) s3.heap.objs.size X.env)) _ { s3 with heap := pushCells (s3.heap.push { cls := .type "dict", data := .dict #[] }) scope.names }
  generalize hce : compEnvC scope (cellsFrom (s3.heap.objs.size + 1) scope.names (cloFrom X.env.cells scope.names [])) s3.heap.objs.size X.env = ce at I4 pg pe ⊢
  have cL : ce.locals = s3.heap.objs.size := by subst hce; rfl
  have st4 : ({ s3 with heap := pushCells (s3.heap.push { cls := .type "dict", data := .dict #[] }) scope.names } : Shared).heap.IsListIter it la 0 := st3.at fun o e => pushCells_keeps _ _ _ _ (Heap.get?_push_of_some _ e)
  generalize ({ s3 with heap := pushCells (s3.heap.push { cls := .type "dict", data := .dict #[] }) scope.names } : Shared) = s4 at I4 st4 ⊢
  -- the iterator stands apart in every state of the block
  have apart : ∀ {σ' : L2.St} {H' : Hp} {s' : Shared}, Inv (X.blk s3 H3 scope ce [it]) [] σ' H' s' → H' it = none → FpOk (X.blk s3 H3 scope ce [it]) [] H' it := fun {σ' H' s'} I' z =>
    have m : it ∈ [it] := List.mem_cons_self
    ⟨z, (I'.ok.exf it m).1, I'.ok.exfs it m, .inl m, fun y c e => (I'.ok.exf it m).2 y c e, fun p hp => (List.not_mem_nil (show p ∈ ([] : List (Addr × Obj)) from hp)).elim⟩
  have loop : codeAny (model X.prog X.w) X.A (.compLoop (.ListComp elt [⟨tg, l, [], 0⟩] scope pos) 0 (.ref it) (.ref D) ce) (compPost (model X.prog X.w) X.A X.xe none (EP X pins σ Q) (.ref D) s3.heap.objs.size) s4 := by
    refine compLoop_any (fun n s' => ∃ i H', i + n = xs.length ∧ Inv (X.blk s3 H3 scope ce [it]) [] (wipe σ (own.map (·.2))) H' s' ∧ s'.heap.IsListIter it la i ∧ H' it = none ∧ W i H') ?_ xs.length ⟨0, H3, Nat.zero_add _, I4, st4, it3, w0⟩
    rintro n s5 ⟨i, H5, hi, I5, st5, n5, w5⟩
    obtain ⟨its5, rv5, p5, _⟩ := I5.list (wq i H5 w5)
    have hl5 := rv5.length
    have F5 := apart I5 n5
    obtain ⟨f0, f1, f2, f3, f4, f5⟩ := F5
    cases n with
    | zero =>
      have hot : HotAt X.A a s5.heap := ⟨hA, oe, vf, I5.base.keep a oe P3.1 P3.2.1 aS (fun z => aI (List.mem_singleton.mp z)), hf, hn⟩
      refine next_end_hot hot aI st5 p5.isList (by simp; omega) fun h' eb => ?_
      have I6 : Inv (X.blk s3 H3 scope ce [it]) [] (wipe σ (own.map (·.2))) H5 { s5 with heap := h' } := I5.turned (t' := s5.toks) (fun b o hb e => eb b o hb e) f0 f1 f3 f4 f5
      have I7 : Inv X pins σ H5 { s5 with heap := h' } := I3.call' (ch := [it]) I6.os I6.base I6.hok I6.bare fun b hb => ⟨(fp3 b hb).1.2.2.2.1, (fp3 b hb).1.2.1, (fp3 b hb).1.2.2.2.2.1, (fp3 b hb).1.2.2.2.2.2⟩
      have nC : H5 s3.heap.objs.size = none := by
        rw [← cL]
        exact I6.free
      obtain ⟨m, hm, _⟩ := I6.loc
      have hm : ({ s5 with heap := h' } : Shared).heap.Ns ce.locals m := hm
      rw [cL] at hm
      obtain ⟨k0, k1, k2, k3, k4, k5⟩ := I3.fpOk (Nat.le_refl _) nC
      refine ⟨m, hm, fun h'' sb => ⟨.ref D, H5, I7.turned (t' := s5.toks) (fun b o hb e => (sb.2 b hb).trans e) k0 k1 k3 k4 k5, rfl, fin H5 ?_⟩⟩
      have e : i = xs.length := by omega
      rw [← e]
      exact w5
    | succ n =>
      have hlt : i < xs.length := by omega
      obtain ⟨u, hu, ru⟩ := rv5.get (List.getElem?_eq_getElem hlt)
      refine wpAny_pyNext_list_item st5 p5.isList (x := u) (by simpa using hu) fun h' st6 sb => ?_
      have I6 : Inv (X.blk s3 H3 scope ce [it]) [] (wipe σ (own.map (·.2))) H5 { s5 with heap := h' } := I5.turned (t' := s5.toks) (fun b o hb e => (sb.2 b hb).trans e) f0 f1 f3 f4 f5
      obtain ⟨o6, e6, c6, d6⟩ := id st6
      refine go_of (s := { s5 with heap := h' }) e6 c6 d6 (by decide) ?_
      have I6' := I6.pinned (fp := [it]) (fun b hb => by rw [List.mem_singleton.mp hb]; exact apart I6 n5) (fun b hb => by rw [List.mem_singleton.mp hb]; exact ⟨o6, e6, fun v z => by rw [d6] at z; cases z⟩)
      refine thnF (pg.run _ _ _ H5 _ u _ I6' ru (step i _ H5 (List.getElem?_eq_getElem hlt) w5)) fun _ s8 ⟨σ8, H8, I8, hw8, q8⟩ => ?_
      refine wpAny_tests_nil ?_
      simp only [if_true]
      refine thnF (pe.run _ s8 σ8 H8 _ I8 q8) fun z s10 ⟨yv, H10, I10, r10, acc, hD10, hz10, nx⟩ => ?_
      refine app_ok (X := X.blk s3 H3 scope ce [it]) I10 hD10 hz10 r10 fun s11 I11 => ?_
      have pin := I11.pin (it, o6) (List.mem_append_right _ (List.mem_append_right _ (mem_pinsAt List.mem_cons_self e6)))
      refine ⟨n, Nat.lt_succ_self n, i + 1, _, by omega, (I11.unpinned (pins := [])).weak (by rw [← hw8, wipe_length]) (fun j v e => ?_), st6.at fun o e => ?_, pin.2.1, nx⟩
      · rw [← hw8] at e
        exact (wipe_some e).1
      · rw [e6] at e
        cases e
        exact pin.1
  exact codeAny_compStart_list loop (wpAny_pyIter_listiter st4 loop)
end
end Wm
namespace Wm
open L2 PySem PySem.W
/-- a def to which a caught error is handed within the suite that caught it -/
structure FnE (P : Program) (w : World) (K : Frag) (mg : Str → Option Value) (base : Heap) (k : Nat) (f : Addr) (fd : FuncData) (ps : List Str)
    (sp : Addr → Value → Option Addr → Sp) : Prop where
  len : ∀ a cls d vs H Q E, sp a cls d vs H Q E → vs.length = ps.length
  run : ∀ (A : Around) (outer : List Env) (s : Shared) (H : Hp) (args : Args) (us : List Value) (vs : List V) (Q : VK) (E : XK) (a : Addr) (oe : Obj) (cls : Value) (d : Option Addr),
    L2H.RoomH k A → A.handled = some (.ref a) → Zc cls d oe → (∃ vs, oe.data = .fields vs) → L2H.PinOk outer H s (a, oe) → Env0 P w K mg base A outer s H →
    BindsTo s fd args (ps.zip us) → Vals vs us → sp a cls d vs H Q E → codeAny (model P w) A (.call (.ref f) args) (CR CX0 outer P w H s Q E) s
theorem mark_self {A : Around} {a : Addr} (h : A.handled = some (.ref a)) : A.mark (some (.ref a)) = A := by
  cases A
  simp only at h
  subst h
  rfl
theorem fn_ofE {P : Program} {w : World} {K : Frag} {mg : Str → Option Value} {base : Heap} {k : Nat} {f : Addr} {name qual : Str} {params : Arguments} {body : List Stmt} {scope : Scope}
    {dV kV doc pm cdv ct oc : Value} {an od : Option Addr} {osl : Array (Option Value)} {N ps : List Str} {sp : Addr → Value → Option Addr → Sp}
    (lk : List.lookup f K = some { cls := oc, dict := od, data := .func (fnOf name qual params body scope dV kV doc pm an cdv ct), slots := osl })
    (hcd : codeIn K cdv qual = true) (S : FnScope N ps scope)
    (len : ∀ a cls d vs H Q E, sp a cls d vs H Q E → vs.length = ps.length)
    (hbody : ∀ (A : Around) (outer : List Env) (s : Shared) (H : Hp) (vs : List V) (Q : VK) (E : XK) (a : Addr) (oe : Obj) (cls : Value) (d : Option Addr),
      Zc cls d oe → (∃ vs, oe.data = .fields vs) → L2H.RoomH k (A.deeper (PyProof.Rows.envOfC qual scope s.heap.objs.size f cdv)) → sp a cls d vs H Q E →
      ∃ t, PSs ((cxOf CX0 P w K mg base N qual scope f cdv A outer s H E).suite a [(a, oe)]) body t ∧ t { nx := fun _ H' => Q .non H', rt := Q } (L2.start N vs) H) :
    FnE P w K mg base (k + 1) f (fnOf name qual params body scope dV kV doc pm an cdv ct) ps sp where
  len := len
  run := by
    intro A outer s H args us vs Q E a oe cls d hr hh hz hf hpin e0 hb r hsp
    have KX := Frag.In.keeps e0.mod.kin fun b o e => (e0.bs b o e).1
    have lim := Heap.NoLimit.keeps e0.mod.nolimit fun b o e => (e0.bs b o e).1
    refine codeAny_call_function hr.depth (KX f _ lk) rfl S.co S.gen rfl (codeRec_of KX hcd) (hb _ A.in1 _ _ (wpAny_newFunctionEnv_cells S.kind ?_ ?_))
    · rintro ⟨n, v⟩ hy
      rcases S.par n (List.of_mem_zip hy).1 with q | q
      · exact Or.inl q
      · exact Or.inr ⟨q, cellsFrom_some scope.names (s.heap.objs.size + 1) [] (Or.inl q)⟩
    · intro env he s1 x
      subst he
      refine ⟨Heap.NoLimit.keeps lim x.toInCall.keep, codeAny_func ?_⟩
      obtain ⟨t, ht, hq⟩ := hbody A outer s H vs Q E a oe cls d hz hf (L2H.RoomH.deeper hr _) hsp
      have I := L2H.inv_startH (CX := CX0) (E := E) S hpin e0 (len _ _ _ _ _ _ _ hsp) r x
      have hm : (A.deeper (PyProof.Rows.envOfC qual scope s.heap.objs.size f cdv)).mark (some (.ref a)) = A.deeper (PyProof.Rows.envOfC qual scope s.heap.objs.size f cdv) := mark_self hh
      have o := I.ok
      have I2 : Inv ((cxOf CX0 P w K mg base N qual scope f cdv A outer s H E).suite a [(a, oe)]) [] (L2.start N vs) H s1 :=
        ⟨⟨o.mod, o.kind, o.glob, o.blt, o.above, o.inj, o.has, o.cab, (fun h => by cases h), o.frames, o.stk, o.exf, o.bs, o.bsz, o.noex, o.exfs, o.funs, o.frf⟩,
          I.os, I.bare, I.base, I.loc, I.cell, I.free, I.freeC, I.pin, I.hok, I.len⟩
      have go := ht.run [] s1 (L2.start N vs) H { nx := fun _ H' => Q .non H', rt := Q } I2 hq
      dsimp only [Cx.suite, cxOf] at go
      rw [hm] at go
      refine wpAny_mono go (fun fl s' hs => ?_) fun e s' hs => hs.elim
      cases fl with
      | next =>
        obtain ⟨σ', H', J, q⟩ := hs
        exact ⟨.non, H', J.os, J.bare, J.base, J.hok, rfl, q⟩
      | brk =>
        obtain ⟨_, _, _, q⟩ := hs
        exact q.elim
      | cont =>
        obtain ⟨_, _, _, q⟩ := hs
        exact q.elim
      | ret u =>
        obtain ⟨v, σ', H', J, rv, q⟩ := hs
        exact ⟨v, H', J.os, J.bare, J.base, J.hok, rv, q⟩
theorem FunE_ok {P : Program} {w : World} {K : Frag} {mg : Str → Option Value} {base : Heap} {x qual : Str} {st : Stmt} {f : Addr} {fd : FuncData} {N ps : List Str} {k : Nat} {sp : Addr → Value → Option Addr → Sp}
    (F : Fun K x qual st f fd) (S : FnScope N ps (defScope st))
    (len : ∀ a cls d vs H Q E, sp a cls d vs H Q E → vs.length = ps.length)
    (hbody : ∀ (cdv : Value) (A : Around) (outer : List Env) (s : Shared) (H : Hp) (vs : List V) (Q : VK) (E : XK) (a : Addr) (oe : Obj) (cls : Value) (d : Option Addr),
      Zc cls d oe → (∃ vs, oe.data = .fields vs) → L2H.RoomH k (A.deeper (PyProof.Rows.envOfC qual (defScope st) s.heap.objs.size f cdv)) → sp a cls d vs H Q E →
      ∃ t, PSs ((cxOf CX0 P w K mg base N qual (defScope st) f cdv A outer s H E).suite a [(a, oe)]) (defBody st) t ∧ t { nx := fun _ H' => Q .non H', rt := Q } (L2.start N vs) H) :
    FnE P w K mg base (k + 1) f fd ps sp := by
  obtain ⟨oc, od, kV, doc, pm, an, cdv, ct, osl, rfl, lk, hcd⟩ := F.ex
  exact fn_ofE lk hcd S len fun A outer s H vs Q E a oe cls d hz hf hr hsp => hbody cdv A outer s H vs Q E a oe cls d hz hf hr hsp
/-- the call f(e, ..) of such a def within the suite -/
def tCallE (sp : Sp) (t : TA) : TE := fun σ H Q => t σ H fun vs H1 => sp vs H1 Q (fun _ _ _ => False)
theorem pe_callE {X : Cx} {k : Nat} {f : Addr} {fd : FuncData} {ps : List Str} {sp : Addr → Value → Option Addr → Sp} {a : Addr} {oe : Obj} {cls : Value} {d : Option Addr} {pn : List (Addr × Obj)}
    {x : Str} {q pos : Pos} {e : Expr} {es : List Expr} {t : TA}
    (F : FnE X.prog X.w X.K X.mg X.base k f fd ps sp) (hr : L2H.RoomH k X.A) (hz : Zc cls d oe) (hf : ∃ vs, oe.data = .fields vs) (hg : Gl X x) (hm : X.mg x = some (.ref f))
    (hk : keepIn X.K (.ref f) = true) (hb : L2.Binds X.K fd ps []) (ha : PA (X.suite a ((a, oe) :: pn)) (e :: es) t)
    (hdb : (x == Str.ofString "__debug__") = false := by rfl) (he : starEach (e :: es) X.env = (false, eval e X.env) :: starEach es X.env := by rfl)
    (hpl : ((backTo pos (starEach es X.env)).any fun x => x.1) = false := by rfl) :
    PE (X.suite a ((a, oe) :: pn)) (.Call (.Name x q) (e :: es) [] pos) (tCallE (sp a cls d) t) where
  run := by
    intro pins s σ H Q I h
    refine wpAny_Call_Name_kw (ld_glob I hg hm (callWith_K I.ok.mod.kin hk (thn (ha.run pos pins s σ H _ I h) ?_) he hpl) hdb)
    rintro us s1 ⟨vs, H1, I1, r, h1⟩
    refine ⟨I1.kIn, ?_⟩
    have P1 := I1.pin (a, oe) (List.mem_append_left _ (List.mem_cons_self ..))
    have hp : L2H.PinOk X.stack H1 s1 (a, oe) := ⟨P1.1, P1.2.1, fun hx => (List.mem_cons.mp (I1.stkSub a hx)).elim P1.2.2.1 P1.2.2.2.1, P1.2.2.2.2⟩
    have hl : (us ++ []).length = ps.length := by rw [List.append_nil, ← r.length]; exact F.len _ _ _ _ _ _ _ h1
    have b := hb s1 us I1.kIn hl
    rw [List.append_nil] at b
    have hr2 : L2H.RoomH k (X.suite a ((a, oe) :: pn)).A := ⟨hr.dp, hr.un⟩
    refine wpAny_call (codeAny_mono (F.run (X.suite a ((a, oe) :: pn)).A X.stack s1 H1 ⟨us, []⟩ us vs Q _ a oe cls d hr2 rfl hz hf hp I1.env0 b r h1) fun r s' hq => ?_)
    cases r with
    | error e => exact hq.elim
    | ok fl =>
      cases fl with
      | next => exact hq.elim
      | brk => exact hq.elim
      | cont => exact hq.elim
      | ret u => exact I1.after hq
end Wm
/-! own errors whose context is known to be None, from raise to the suite that hands them on -/
namespace Wm
open PySem PySem.Spec PyProof.Rows L2
section
variable {X : Cx} {e : Expr} {es : List Expr} {ta : TA} {p pos : Pos}
/-- an own error made: its context is None -/
theorem pmkN_oex {CX : CXT} {x : Str} {C fI : Addr} {k : Nat} {fd : FuncData} {ps : List Str} {sp : Sp} (T : OexC X.K C) (iC : PySem.W.findIn X.K (.ref C) "__init__" = some (some (.ref fI))) (tI : PySem.W.typeIn X.K (.ref fI) = some (.type "function"))
    (G : FnOk X.prog X.w X.K X.mg X.base CX k fI fd ps sp) (hr : Room (k + 1) X.A) (hb : L2.Binds X.K fd ps []) (hx : Passes CX X (fun _ _ _ => False)) (hg : Gl X x) (hm : X.mg x = some (.ref C)) (ha : PA X (e :: es) ta)
    (hdb : (x == ("__debug__" : Str)) = false := by decide) (he : starEach (e :: es) X.env = (false, eval e X.env) :: starEach es X.env := by rfl) (hpl : (backTo pos (starEach es X.env)).any (·.1) = false := by rfl) :
    L2N.PMk X (.Call (.Name x p) (e :: es) [] pos) (tMkO C sp [] ta) := by
  intro pins s σ H Q I h
  obtain ⟨nm, q, N, bs, bm, sn, sub, ab, col, dd, k0, k1, k2, k3, k5, hC, hbm⟩ := T.cls
  refine wpAny_Call_Name_kw (ld_glob I hg hm (PySem.W.callWith_K (h₀ := X.base) I.ok.mod.kin T.kC (thn (ha.run pos pins s σ H _ I h) ?_) he hpl) hdb)
  rintro us ⟨hp, g, dr, tk, os⟩ ⟨vs, H1, I1, r1, hz, q1⟩
  refine ⟨I1.kIn, ?_⟩
  generalize hA : hp.objs.size + 1 = A1 at *
  have le : hp.objs.size ≤ A1 := by omega
  have fr : H1 A1 = none := I1.hok.fresh le
  have hq := q1 A1 fr
  rw [List.append_nil] at hq
  have kp : ∀ b o, hp.get? b = some o → ((hp.push (PySem.W.kdv_tup us)).push (PySem.HandSPX.excO C hp.objs.size)).get? b = some o := fun b o z => Heap.get?_push_of_some _ (Heap.get?_push_of_some _ z)
  have new : ((hp.push (PySem.W.kdv_tup us)).push (PySem.HandSPX.excO C hp.objs.size)).get? A1 = some (PySem.HandSPX.excO C hp.objs.size) := by
    rw [← hA]
    heap_get
  have I2 : Inv X pins σ (upd H1 A1 (exo A1 C none)) ⟨(hp.push (PySem.W.kdv_tup us)).push (PySem.HandSPX.excO C hp.objs.size), g, dr, tk, os⟩ := I1.laid (t' := tk) (a := A1) (o := exo A1 C none) kp le (exo_ok new)
  have r2 : Vals (V.ref A1 :: vs) (Value.ref A1 :: us) := .cons rfl r1
  have ln : (Value.ref A1 :: us ++ []).length = ps.length := by
    rw [List.append_nil, ← r2.length]
    exact G.len _ _ _ _ hq
  have b2 := hb _ (Value.ref A1 :: us) I2.kIn ln
  rw [List.append_nil] at b2
  have big : us.length ≤ sizeLine := by
    rw [← Paired.length r1, sizeLine_eq]
    omega
  subst hA
  refine wpAny_call (PySem.HandSPX.call_own F.excBase_ValueError (fun Y => PySem.HandSPX.refsVE_contains Y bm hbm) (I1.kIn _ _ hC) (PySem.W.looks_findIn I1.kIn iC) (fun self => PySem.W.bind_fn I1.kIn self tI) big
    (codeAny_mono (G.run _ X.stack _ _ _ _ _ _ (fun _ _ _ => False) (hr.make C us []) (I2.env0.make C us []) b2 r2 hq) fun r s' hq' => ?_))
  cases r with
  | error er => exact hx pins σ _ _ er s' I2 hq'
  | ok fl =>
    cases fl with
    | next => exact hq'.elim
    | brk => exact hq'.elim
    | cont => exact hq'.elim
    | ret u =>
      obtain ⟨v, H2, os2, bare2, un2, hok2, rv, rfl, d, fs, ea, ed, hd1, q2⟩ := hq'
      obtain ⟨h2, g2, d2, t2, os'⟩ := s'
      obtain ⟨t0, W, J, kW, ge, hoe, na⟩ := mk_end0 (d2 := d2) (t2 := t2) I1 le kp un2 hok2 os2 bare2 ea ed hd1
      refine ⟨rv, hp.objs.size + 1, _, _, ⟨W, g2, d2, t2, os'⟩, _, .ref C, some d, rfl, J, kW, ge, hoe, ⟨rfl, rfl, fun vs hv => ?_⟩, rfl, rfl, na, rfl, bare2, raises_own T.exC T.tyC, q2⟩
      cases hv
      rfl
end
section
variable {P : Program} {w : World} {K : PySem.W.Frag} {mg : Str → Option Value} {base : Heap}
theorem okN {x qual : Str} {st : Stmt} {f : Addr} {fd : FuncData} {N ps : List Str} {k : Nat} {sp : Sp} (F : Fun K x qual st f fd) (S : FnScope N ps (defScope st)) (len : ∀ vs H Q E, sp vs H Q E → vs.length = ps.length)
    (hbody : ∀ (cdv : Value) (A : Around) (outer : List Env) (s : Shared) (H : Hp) (vs : List V) (Q : VK) (E : XK), Room k (A.deeper (envOfC qual (defScope st) s.heap.objs.size f cdv)) → sp vs H Q E →
      ∃ t, PSs (cxOf (L2N.CX P w) P w K mg base N qual (defScope st) f cdv A outer s H E) (defBody st) t ∧ t { nx := fun _ H' => Q .non H', rt := Q } (L2.start N vs) H) : FnOk P w K mg base (L2N.CX P w) (k + 1) f fd ps sp := by
  obtain ⟨oc, od, kV, doc, pm, an, cdv, ct, osl, rfl, lk, hcd⟩ := F.ex
  exact fn_of lk hcd S len fun A outer s H vs Q E hr hsp => hbody cdv A outer s H vs Q E hr hsp
end
/-- around a body nothing is let out -/
theorem takesN0 {X : Cx} : L2N.Takes X (fun _ _ _ _ => False) := fun _ _ x => by
  obtain ⟨_, _, _, _, _, _, _, _, _, _, _, _, _, _, _, _, z⟩ := x
  exact z.elim
end Wm
namespace Wm
open PySem PySem.Spec PyProof.Rows L2
/-- len(o), o an instance of the class at C, whose __len__ is the def at f -/
def rLenO (C : Addr) (sp : Sp) : List V → Hp → VK → Prop := fun xs H Q => ∃ (a dx : Addr) (fs : List (Str × V)), xs = [.ref a] ∧ H a = some (.ins C dx fs) ∧ sp [.ref a] H (fun v H' => ∃ n : Nat, v = .int n ∧ n ≤ 1000000 ∧ Q (.int n) H') E0
theorem call_lenO {X : Cx} {C f : Addr} {fd : FuncData} {k : Nat} {sp : Sp} (hs : PySem.W.findIn X.K (.ref C) "__len__" = some (some (.ref f))) (hf : PySem.W.isFn X.K (.ref f) = true) (F : FnOk X.prog X.w X.K X.mg X.base CX0 k f fd ["self"] sp) (hr : Room (k + 1) X.A) (hb : L2.Binds X.K fd ["self"] []) :
    CallR X (.builtin "len") (rLenO C sp) := by
  intro pins s σ H xs us Q I r h
  obtain ⟨a, dx, fs, rfl, ha, h⟩ := h
  cases r with
  | cons rx rr =>
    cases rr
    cases rx
    obtain ⟨mA, ob, _⟩ := ins_get I.hok ha
    obtain ⟨od, J, _⟩ := ob.look
    have hr1 : Room k X.A.in1 := hr.in1
    obtain ⟨m, hF⟩ := I.fr
    refine PySem.W.len_K hF I.ok.mod.kin J hs hf ?_
    have hl : ([Value.ref a] ++ []).length = (["self"] : List Str).length := rfl
    have rv : Vals [V.ref a] [Value.ref a] := .cons rfl .nil
    refine wpAny_call (codeAny_mono (F.run X.A.in1 X.stack s H ⟨[Value.ref a], []⟩ [Value.ref a] [V.ref a] _ E0 hr1 I.env0.in1 (hb s [Value.ref a] I.kIn hl) rv h) fun r s' hq => ?_)
    cases r with
    | error e => exact hq.elim
    | ok fl =>
      cases fl with
      | ret u =>
        obtain ⟨v, H', J', ru, n, rfl, hn, q⟩ := I.after (Q := fun v H' => ∃ n : Nat, v = .int n ∧ n ≤ 1000000 ∧ Q (.int n) H') hq
        obtain ⟨t, rfl⟩ := ru
        exact ⟨⟨by omega, by omega⟩, .int n, H', J'.tok _, ⟨_, rfl⟩, q⟩
      | next => exact False.elim hq
      | brk => exact False.elim hq
      | cont => exact False.elim hq
section
variable {X : Cx} {p pos : Pos}
/-- an own error made with nothing handed in: its context is None -/
theorem pmkN_oex0 {CX : CXT} {x : Str} {C fI : Addr} {k : Nat} {fd : FuncData} {ps : List Str} {sp : Sp} (T : OexC X.K C) (iC : PySem.W.findIn X.K (.ref C) "__init__" = some (some (.ref fI))) (tI : PySem.W.typeIn X.K (.ref fI) = some (.type "function"))
    (G : FnOk X.prog X.w X.K X.mg X.base CX k fI fd ps sp) (hr : Room (k + 1) X.A) (hb : L2.Binds X.K fd ps []) (hx : Passes CX X (fun _ _ _ => False)) (hg : Gl X x) (hm : X.mg x = some (.ref C))
    (hdb : (x == ("__debug__" : Str)) = false := by decide) :
    L2N.PMk X (.Call (.Name x p) [] [] pos) (tMkO C sp [] tNil) := by
  intro pins s σ H Q I h
  obtain ⟨nm, q, N, bs, bm, sn, sub, ab, col, dd, k0, k1, k2, k3, k5, hC, hbm⟩ := T.cls
  refine wpAny_Call_Name_kw (ld_glob I hg hm (PySem.W.callWith_K0 I.kIn T.kC ?_) hdb)
  obtain ⟨hp, g, dr, tk, os⟩ := s
  obtain ⟨hz, q1⟩ := h
  generalize hA : hp.objs.size + 1 = A1 at *
  have le : hp.objs.size ≤ A1 := by omega
  have fr : H A1 = none := I.hok.fresh le
  have hq := q1 A1 fr
  rw [List.append_nil] at hq
  have kp : ∀ b o, hp.get? b = some o → ((hp.push (PySem.W.kdv_tup [])).push (PySem.HandSPX.excO C hp.objs.size)).get? b = some o := fun b o z => Heap.get?_push_of_some _ (Heap.get?_push_of_some _ z)
  have new : ((hp.push (PySem.W.kdv_tup [])).push (PySem.HandSPX.excO C hp.objs.size)).get? A1 = some (PySem.HandSPX.excO C hp.objs.size) := by
    rw [← hA]
    heap_get
  have I2 : Inv X pins σ (upd H A1 (exo A1 C none)) ⟨(hp.push (PySem.W.kdv_tup [])).push (PySem.HandSPX.excO C hp.objs.size), g, dr, tk, os⟩ := I.laid (t' := tk) (a := A1) (o := exo A1 C none) kp le (exo_ok new)
  have r2 : Vals (V.ref A1 :: []) (Value.ref A1 :: []) := .cons rfl .nil
  have ln : (Value.ref A1 :: [] ++ []).length = ps.length := by
    rw [List.append_nil, ← r2.length]
    exact G.len _ _ _ _ hq
  have b2 := hb _ (Value.ref A1 :: []) I2.kIn ln
  rw [List.append_nil] at b2
  subst hA
  refine wpAny_call (PySem.HandSPX.call_own F.excBase_ValueError (fun Y => PySem.HandSPX.refsVE_contains Y bm hbm) (I.kIn _ _ hC) (PySem.W.looks_findIn I.kIn iC) (fun self => PySem.W.bind_fn I.kIn self tI) (Nat.zero_le _)
    (codeAny_mono (G.run _ X.stack _ _ _ _ _ _ (fun _ _ _ => False) (hr.make C [] []) (I2.env0.make C [] []) b2 r2 hq) fun r s' hq' => ?_))
  cases r with
  | error er => exact hx pins σ _ _ er s' I2 hq'
  | ok fl =>
    cases fl with
    | next => exact hq'.elim
    | brk => exact hq'.elim
    | cont => exact hq'.elim
    | ret u =>
      obtain ⟨v, H2, os2, bare2, un2, hok2, rv, rfl, d, fs, ea, ed, hd1, q2⟩ := hq'
      obtain ⟨h2, g2, d2, t2, os'⟩ := s'
      obtain ⟨t0, W, J, kW, ge, hoe, na⟩ := mk_end0 (d2 := d2) (t2 := t2) I le kp un2 hok2 os2 bare2 ea ed hd1
      refine ⟨rv, hp.objs.size + 1, _, _, ⟨W, g2, d2, t2, os'⟩, _, .ref C, some d, rfl, J, kW, ge, hoe, ⟨rfl, rfl, fun vs hv => ?_⟩, rfl, rfl, na, rfl, bare2, raises_own T.exC T.tyC, q2⟩
      cases hv
      rfl
end
end Wm
/-! methods called within a try, by place and by name -/
namespace Wm
open PySem PySem.Spec PyProof.Rows L2
def tMethZ (C : Addr) (m : Str) (sp : Sp) (E : L2.St → XK) (ta : TE) (t : TA) : TE := fun σ H Q => ta σ H fun x H1 => ∃ a dx fs, x = .ref a ∧ H1 a = some (.ins C dx fs) ∧ fs.lookup m = none ∧ t σ H1 fun vs H2 => sp (x :: vs) H2 Q (E σ)
section
variable {X : Cx} {CX : CXT} {k : Nat} {f C : Addr} {fd : FuncData} {ps : List Str} {sp : Sp} {E : L2.St → XK} {m : Str} {pos apos kpos : Pos} {e o : Expr} {es : List Expr} {ta te : TE} {t : TA}
theorem pe_methZ {pl : Sem Bool} (he : PE X o ta) (c : Cls X.K C) (hm : Meth X.K C m f) (F : FnOk X.prog X.w X.K X.mg X.base CX k f fd ps sp) (hr : Room k X.A) (hb : Binds X.K fd ps []) (hx : ∀ σ, PassesAt CX X σ (E σ)) (ha : PA X (e :: es) t)
    (hst : starEach (e :: es) X.env = (false, eval e X.env) :: starEach es X.env := by rfl) (hpl : (backTo pos (starEach es X.env)).any (·.1) = false := by rfl)
    (ht : eval (.Call (.Attribute o m apos) (e :: es) [] pos) X.env = (do
      let ov ← eval o X.env
      standAt apos.atName
      let (f, first) ← holding [ov] (getMethod ov m pl)
      callWith pos f first (backTo pos (starEach (e :: es) X.env)) (backToKw pos (keywordEach [] X.env))) := by rfl) :
    PE X (.Call (.Attribute o m apos) (e :: es) [] pos) (tMethZ C m sp E ta t) := by
  refine ⟨fun pins s σ H Q I h => ?_⟩
  refine PySem.W.methodCall_KW (pl := pl) (thn (he.run pins s σ H _ I h) fun u s1 hh => ?_) ht
  obtain ⟨x, H1, I1, rx, a, dx, fs, ex, ea, l, q⟩ := hh
  subst ex
  obtain rfl : u = Value.ref a := rx
  refine getmeth_ok I1 ea c hm l ?_
  refine PySem.W.callWith_K (first := [.ref a]) (h₀ := X.base) I.ok.mod.kin hm.kp (thn (ha.run pos pins s1 σ H1 _ I1 q) fun us s2 hh => ?_) hst hpl
  obtain ⟨vs, H2, I2, r, q2⟩ := hh
  exact ⟨I2.kIn, run_fnS (us := .ref a :: us) (vs := .ref a :: vs) F hr hb (hx σ) I2 (.cons rfl r) q2⟩
/-- how one keyword is bound behind the object itself -/
def KwOne (K : PySem.W.Frag) (fd : FuncData) (ps : List Str) (x : Str) : Prop := ∀ (s : Shared) (u v : Value), K.In s.heap → BindsTo s fd ⟨[u], [(x, v)]⟩ (ps.zip [u, v])
/-- o.m(x=e) -/
theorem pe_methKZ {pl : Sem Bool} {x : Str} (ho : PE X o ta) (c : Cls X.K C) (hm : Meth X.K C m f) (F : FnOk X.prog X.w X.K X.mg X.base CX k f fd ps sp) (hr : Room k X.A) (hb : KwOne X.K fd ps x) (hx : ∀ σ, PassesAt CX X σ (E σ)) (he : PE X e te)
    (ht : eval (.Call (.Attribute o m apos) [] [⟨some x, e, kpos⟩] pos) X.env = (do
      let ov ← eval o X.env
      standAt apos.atName
      let (f, first) ← holding [ov] (getMethod ov m pl)
      callWith pos f first (backTo pos (starEach [] X.env)) (backToKw pos (keywordEach [⟨some x, e, kpos⟩] X.env))) := by rfl)
    (hall : (backToKw pos (keywordEach [⟨some x, e, kpos⟩] X.env)).all (·.1.isSome) = true := by rfl) (hks : (backToKw pos (keywordEach [⟨some x, e, kpos⟩] X.env)).filterMap (·.1) = [x] := by rfl) (hpl : ((backTo pos (starEach [] X.env)).any (·.1) || (backToKw pos (keywordEach [⟨some x, e, kpos⟩] X.env)).any (·.1.isNone)) = false := by rfl) (hps : ps.length = 2 := by rfl) :
    PE X (.Call (.Attribute o m apos) [] [⟨some x, e, kpos⟩] pos) (tMethZ C m sp E ta (tCons te tNil)) := by
  refine ⟨fun pins s σ H Q I h => ?_⟩
  refine PySem.W.methodCall_KW (pl := pl) (thn (ho.run pins s σ H _ I h) fun u s1 hh => ?_) ht
  obtain ⟨y, H1, I1, rx, a, dx, fs, ex, ea, l, q⟩ := hh
  subst ex
  obtain rfl : u = Value.ref a := rx
  refine getmeth_ok I1 ea c hm l ?_
  have hkw : PK X [⟨some x, e, kpos⟩] (tCons te tNil) := pk_cons he pk_nil
  refine PySem.W.callWith_KW0 (first := [.ref a]) (h₀ := X.base) I.ok.mod.kin hm.kp hall (thn (hkw.run pos pins s1 σ H1 _ I1 q) fun ws s2 hh => ?_) hpl
  obtain ⟨zs, H2, I2, rz, q2⟩ := hh
  refine ⟨I2.kIn, ?_⟩
  rw [hks]
  have hl := F.len _ _ _ _ q2
  cases rz with
  | nil =>
    rw [hps] at hl
    simp at hl
  | @cons v0 u0 vr ur r1 r2 =>
    cases r2 with
    | cons _ _ =>
      rw [hps] at hl
      simp at hl
    | nil =>
      have rv : Vals [V.ref a, v0] [Value.ref a, u0] := .cons rfl (.cons r1 .nil)
      refine wpAny_call (codeAny_mono (F.run X.A X.stack s2 H2 ⟨[Value.ref a], [(x, u0)]⟩ [Value.ref a, u0] [V.ref a, v0] Q (E σ) hr I2.env0 (hb s2 _ u0 I2.kIn) rv q2) fun r s' hq => ?_)
      cases r with
      | error er => exact hx σ pins H2 s2 er s' I2 hq
      | ok fl =>
        cases fl with
        | ret u => exact I2.after hq
        | next => exact False.elim hq
        | brk => exact False.elim hq
        | cont => exact False.elim hq
end
end Wm
/-! methods called by several names; != of two lists that hold the very same objects; what keywords bind -/
namespace Wm
open PySem PySem.Spec PyProof.Rows L2
def tMethK (C : Addr) (m : Str) (n : Nat) (sp : Sp) (gV : List V → List V → List V) (E : L2.St → XK) (ta : TE) (tk : TA) : TE := fun σ H Q => ta σ H fun x H1 => ∃ a dx fs, x = .ref a ∧ H1 a = some (.ins C dx fs) ∧ fs.lookup m = none ∧ tk σ H1 fun zs H2 => zs.length = n ∧ sp (gV [x] zs) H2 Q (E σ)
section
variable {X : Cx} {CX : CXT} {k : Nat} {f C : Addr} {fd : FuncData} {ps ks : List Str} {sp : Sp} {E : L2.St → XK} {m : Str} {pos apos : Pos} {o : Expr} {kws : List Keyword} {ta : TE} {tk : TA} {g : List Value → List Value → List Value} {gV : List V → List V → List V}
/-- o.m(k = v, ..) -/
theorem pe_methKN {pl : Sem Bool} (ho : PE X o ta) (c : Cls X.K C) (hm : Meth X.K C m f) (F : FnOk X.prog X.w X.K X.mg X.base CX k f fd ps sp) (hr : Room k X.A) (hb : KBn X.K fd ps 1 ks g gV) (hx : ∀ σ, PassesAt CX X σ (E σ)) (hkw : PK X kws tk)
    (ht : eval (.Call (.Attribute o m apos) [] kws pos) X.env = (do
      let ov ← eval o X.env
      standAt apos.atName
      let (f, first) ← holding [ov] (getMethod ov m pl)
      callWith pos f first (backTo pos (starEach [] X.env)) (backToKw pos (keywordEach kws X.env))) := by rfl)
    (hall : (backToKw pos (keywordEach kws X.env)).all (·.1.isSome) = true := by rfl) (hks : (backToKw pos (keywordEach kws X.env)).filterMap (·.1) = ks := by rfl) (hpl : ((backTo pos (starEach [] X.env)).any (·.1) || (backToKw pos (keywordEach kws X.env)).any (·.1.isNone)) = false := by rfl) :
    PE X (.Call (.Attribute o m apos) [] kws pos) (tMethK C m ks.length sp gV E ta tk) := by
  refine ⟨fun pins s σ H Q I h => ?_⟩
  refine PySem.W.methodCall_KW (pl := pl) (thn (ho.run pins s σ H _ I h) fun u s1 hh => ?_) ht
  obtain ⟨y, H1, I1, rx, a, dx, fs, ex, ea, l, q⟩ := hh
  subst ex
  obtain rfl : u = Value.ref a := rx
  refine getmeth_ok I1 ea c hm l ?_
  refine PySem.W.callWith_KW0 (first := [.ref a]) (h₀ := X.base) I.ok.mod.kin hm.kp hall (thn (hkw.run pos pins s1 σ H1 _ I1 q) fun ws s2 hh => ?_) hpl
  obtain ⟨zs, H2, I2, rz, l2, q2⟩ := hh
  refine ⟨I2.kIn, ?_⟩
  rw [hks]
  have rv : Vals (gV [V.ref a] zs) (g [Value.ref a] ws) := hb.rel (.cons rfl .nil) rz
  refine wpAny_call (codeAny_mono (F.run X.A X.stack s2 H2 ⟨[Value.ref a], ks.zip ws⟩ (g [Value.ref a] ws) (gV [V.ref a] zs) Q (E σ) hr I2.env0 (hb.to s2 [Value.ref a] ws I2.kIn rfl (rz.length.symm.trans l2)) rv q2) fun r s' hq => ?_)
  cases r with
  | error er => exact hx σ pins H2 s2 er s' I2 hq
  | ok fl =>
    cases fl with
    | ret u => exact I2.after hq
    | next => exact False.elim hq
    | brk => exact False.elim hq
    | cont => exact False.elim hq
end
theorem pass0At {X : Cx} {E : L2.St → XK} : ∀ σ, PassesAt CX0 X σ (E σ) := fun _ _ _ _ _ _ _ h => h.elim
theorem vals_refs : ∀ {as : List Addr} {us : List Value}, Vals (as.map V.ref) us → us = as.map Value.ref
  | [], _, .nil => rfl
  | a :: as, _, .cons h r => by
    have e := vals_refs (as := as) r
    cases h
    rw [e]
    rfl
/-- a != b, two lists that hold the very same objects -/
def rNeS : R2 := fun x y H Q => ∃ (a b : Addr) (as : List Addr), x = .ref a ∧ y = .ref b ∧ H a = some (.lst (as.map V.ref)) ∧ H b = some (.lst (as.map V.ref)) ∧ Q (.bl false) H
theorem op_neS {X : Cx} (hu : X.A.units < cLine) : OpR X (compareOp .NotEq) rNeS := by
  intro pins s σ H x y v u Q I rx ry h
  obtain ⟨a, b, as, rfl, rfl, ha, hb, q⟩ := h
  cases rx
  cases ry
  obtain ⟨z, its, k, r, e⟩ := I.hok a _ ha
  obtain ⟨z2, its2, k2, r2, e2⟩ := I.hok b _ hb
  have h1 := vals_refs r
  have h2 := vals_refs r2
  subst h1
  subst h2
  have hr := SeqAt.RcNeAt.lists (A := X.A) (s := s) (l := a) (b := b) (items := (as.map Value.ref).toArray) (items2 := (as.map Value.ref).toArray) (e := fun _ => true) ⟨_, e, rfl, _, rfl⟩ ⟨_, e2, rfl, _, rfl⟩ rfl hu (fun j h1 h2 => SeqAt.EqAt.same _)
  have e3 : (!(List.range (as.map Value.ref).toArray.size).all fun _ => true) = false := by simp
  rw [e3] at hr
  show wpAny _ _ (richCompare .NotEq (.ref a) (.ref b)) _ _ _
  exact hr X.prog X.w X.xe _ ⟨.bl false, H, I, rfl, q⟩
theorem FunD.kb0 {K : PySem.W.Frag} {x qual : Str} {params : Arguments} {body : List Stmt} {scope : Scope} {f : Addr} {fd : FuncData} {ps : List Str} (F : FunD K x qual params body scope [] [] f fd) (n : Nat) (ks : List Str) (g : {α : Type} → List α → List α → List α)
    (hrel : ∀ {vs zs : List V} {us ws : List Value}, Vals vs us → Vals zs ws → Vals (g vs zs) (g us ws))
    (h : ∀ (kV doc pm : Value) (an : Option Addr) (cdv ct : Value) (us ws : List Value), us.length = n → ws.length = ks.length → bindArgs (PySem.W.fnOf x qual params body scope .none kV doc pm an cdv ct) ⟨us, ks.zip ws⟩ = pure (ps.zip (g us ws))) : KBn K fd ps n ks (fun us ws => g us ws) (fun vs zs => g vs zs) := by
  obtain ⟨oc, od, dV, kV, doc, pm, an, cdv, ct, osl, rfl, lk, hcd, hD, hK⟩ := F.ex
  rcases hD with ⟨_, rfl⟩ | ⟨e, _⟩
  · exact ⟨fun s us ws X l1 l2 => .of_eq (h kV doc pm an cdv ct us ws l1 l2), fun r1 r2 => hrel r1 r2⟩
  · exact absurd rfl e
/-! ### orders of what is handed in by name -/
def g1 {α : Type} : List α → List α → List α
  | [x], [a] => [x, a]
  | _, _ => []
def g2 {α : Type} : List α → List α → List α
  | [x], [a, b] => [x, b, a]
  | _, _ => []
def g3 {α : Type} : List α → List α → List α
  | [x], [c, n, v] => [x, n, v, c]
  | _, _ => []
def g4 {α : Type} : List α → List α → List α
  | [x], [u, d, md, mk] => [x, mk, md, d, u]
  | _, _ => []
def g5 {α : Type} : List α → List α → List α
  | [x], [b, g, c, v, n] => [x, n, v, c, g, b]
  | _, _ => []
def g5s {α : Type} : List α → List α → List α
  | [x], [b, r, w, m, s] => [x, s, w, m, r, b]
  | _, _ => []
def g3s {α : Type} : List α → List α → List α → List α
  | [x], [m0, _, b0], [r, s, w] => [x, s, w, m0, r, b0]
  | _, _, _ => []
theorem g1_rel {vs zs : List V} {us ws : List Value} (h1 : Vals vs us) (h2 : Vals zs ws) : Vals (g1 vs zs) (g1 us ws) := by
  rcases h1 with _ | ⟨a, _ | ⟨_, _⟩⟩
  · exact .nil
  · rcases h2 with _ | ⟨b, _ | ⟨_, _⟩⟩
    · exact .nil
    · exact .cons a (.cons b .nil)
    · exact .nil
  · exact .nil
theorem g2_rel {vs zs : List V} {us ws : List Value} (h1 : Vals vs us) (h2 : Vals zs ws) : Vals (g2 vs zs) (g2 us ws) := by
  rcases h1 with _ | ⟨a, _ | ⟨_, _⟩⟩
  · exact .nil
  · rcases h2 with _ | ⟨b, _ | ⟨c, _ | ⟨_, _⟩⟩⟩
    · exact .nil
    · exact .nil
    · exact .cons a (.cons c (.cons b .nil))
    · exact .nil
  · exact .nil
theorem g3_rel {vs zs : List V} {us ws : List Value} (h1 : Vals vs us) (h2 : Vals zs ws) : Vals (g3 vs zs) (g3 us ws) := by
  rcases h1 with _ | ⟨a, _ | ⟨_, _⟩⟩
  · exact .nil
  · rcases h2 with _ | ⟨b, _ | ⟨c, _ | ⟨d, _ | ⟨_, _⟩⟩⟩⟩
    · exact .nil
    · exact .nil
    · exact .nil
    · exact .cons a (.cons c (.cons d (.cons b .nil)))
    · exact .nil
  · exact .nil
theorem g4_rel {vs zs : List V} {us ws : List Value} (h1 : Vals vs us) (h2 : Vals zs ws) : Vals (g4 vs zs) (g4 us ws) := by
  rcases h1 with _ | ⟨a, _ | ⟨_, _⟩⟩
  · exact .nil
  · rcases h2 with _ | ⟨b, _ | ⟨c, _ | ⟨d, _ | ⟨e, _ | ⟨_, _⟩⟩⟩⟩⟩
    · exact .nil
    · exact .nil
    · exact .nil
    · exact .nil
    · exact .cons a (.cons e (.cons d (.cons c (.cons b .nil))))
    · exact .nil
  · exact .nil
theorem g5_rel {vs zs : List V} {us ws : List Value} (h1 : Vals vs us) (h2 : Vals zs ws) : Vals (g5 vs zs) (g5 us ws) := by
  rcases h1 with _ | ⟨a, _ | ⟨_, _⟩⟩
  · exact .nil
  · rcases h2 with _ | ⟨b, _ | ⟨c, _ | ⟨d, _ | ⟨e, _ | ⟨f, _ | ⟨_, _⟩⟩⟩⟩⟩⟩
    · exact .nil
    · exact .nil
    · exact .nil
    · exact .nil
    · exact .nil
    · exact .cons a (.cons f (.cons e (.cons d (.cons c (.cons b .nil)))))
    · exact .nil
  · exact .nil
theorem g5s_rel {vs zs : List V} {us ws : List Value} (h1 : Vals vs us) (h2 : Vals zs ws) : Vals (g5s vs zs) (g5s us ws) := by
  rcases h1 with _ | ⟨a, _ | ⟨_, _⟩⟩
  · exact .nil
  · rcases h2 with _ | ⟨b, _ | ⟨c, _ | ⟨d, _ | ⟨e, _ | ⟨f, _ | ⟨_, _⟩⟩⟩⟩⟩⟩
    · exact .nil
    · exact .nil
    · exact .nil
    · exact .nil
    · exact .nil
    · exact .cons a (.cons f (.cons d (.cons e (.cons c (.cons b .nil)))))
    · exact .nil
  · exact .nil
theorem g3s_rel {vs ds zs : List V} {us its ws : List Value} (h1 : Vals vs us) (h0 : Vals ds its) (h2 : Vals zs ws) : Vals (g3s vs ds zs) (g3s us its ws) := by
  rcases h1 with _ | ⟨a, _ | ⟨_, _⟩⟩
  · exact .nil
  · rcases h0 with _ | ⟨p, _ | ⟨q, _ | ⟨r, _ | ⟨_, _⟩⟩⟩⟩
    · exact .nil
    · exact .nil
    · exact .nil
    · rcases h2 with _ | ⟨b, _ | ⟨c, _ | ⟨d, _ | ⟨_, _⟩⟩⟩⟩
      · exact .nil
      · exact .nil
      · exact .nil
      · exact .cons a (.cons c (.cons d (.cons p (.cons b (.cons r .nil)))))
      · exact .nil
    · exact .nil
  · exact .nil
end Wm
/-! a list held against the empty list; a list of lists held against another of the same contents -/
namespace Wm
open PySem PySem.Spec PyProof.Rows L2
def rNeE : R2 := fun x y H Q => ∃ (a b : Addr) (xs : List V), x = .ref a ∧ y = .ref b ∧ H a = some (.lst xs) ∧ H b = some (.lst []) ∧ Q (.bl (!xs.isEmpty)) H
def rEqE : R2 := fun x y H Q => ∃ (a b : Addr) (xs : List V), x = .ref a ∧ y = .ref b ∧ H a = some (.lst xs) ∧ H b = some (.lst []) ∧ Q (.bl xs.isEmpty) H
theorem vals_len {xs : List V} {us : List Value} (h : Vals xs us) : us.length = xs.length := h.length.symm
theorem op_neE {X : Cx} (hu1 : X.A.units + 1 < cLine) : OpR X (compareOp .NotEq) rNeE := by
  have hu : X.A.units < cLine := by omega
  intro pins s σ H x y v u Q I rx ry h
  obtain ⟨a, b, xs, rfl, rfl, ha, hb, q⟩ := h
  cases rx
  cases ry
  obtain ⟨z, its, k, r, e⟩ := I.hok a _ ha
  obtain ⟨z2, its2, k2, r2, e2⟩ := I.hok b _ hb
  cases r2
  show wpAny _ _ (richCompare .NotEq (.ref a) (.ref b)) _ _ _
  cases xs with
  | nil =>
    cases r
    have hr := SeqAt.RcNeAt.lists (A := X.A) (s := s) (l := a) (b := b) (items := #[]) (items2 := #[]) (e := fun _ => true) ⟨_, e, rfl, _, rfl⟩ ⟨_, e2, rfl, _, rfl⟩ rfl hu (fun j h1 h2 => absurd h1 (by simp))
    exact hr X.prog X.w X.xe _ ⟨.bl false, H, I, rfl, q⟩
  | cons w ws =>
    have hr := SeqAt.RcNeAt.lists_lengths (A := X.A) (s := s) (l := a) (b := b) (items := its.toArray) (items2 := #[]) ⟨_, e, rfl, _, rfl⟩ ⟨_, e2, rfl, _, rfl⟩ (by
      have l := vals_len r
      simp at l
      simp [l]) hu
    exact hr X.prog X.w X.xe _ ⟨.bl true, H, I, rfl, q⟩
theorem op_eqE {X : Cx} (hu1 : X.A.units + 1 < cLine) : OpR X (compareOp .Eq) rEqE := by
  have hu : X.A.units < cLine := by omega
  intro pins s σ H x y v u Q I rx ry h
  obtain ⟨a, b, xs, rfl, rfl, ha, hb, q⟩ := h
  cases rx
  cases ry
  obtain ⟨z, its, k, r, e⟩ := I.hok a _ ha
  obtain ⟨z2, its2, k2, r2, e2⟩ := I.hok b _ hb
  cases r2
  show wpAny _ _ (richCompare .Eq (.ref a) (.ref b)) _ _ _
  cases xs with
  | nil =>
    cases r
    have hr := SeqAt.RcAt.lists (A := X.A) (s := s) (l := a) (b := b) (items := #[]) (items2 := #[]) (e := fun _ => true) ⟨_, e, rfl, _, rfl⟩ ⟨_, e2, rfl, _, rfl⟩ rfl hu (fun j h1 h2 => absurd h1 (by simp))
    exact hr X.prog X.w X.xe _ ⟨.bl true, H, I, rfl, q⟩
  | cons w ws =>
    have hr := SeqAt.RcAt.lists_lengths (A := X.A) (s := s) (l := a) (b := b) (items := its.toArray) (items2 := #[]) ⟨_, e, rfl, _, rfl⟩ ⟨_, e2, rfl, _, rfl⟩ (by
      have l := vals_len r
      simp at l
      simp [l]) hu
    exact hr X.prog X.w X.xe _ ⟨.bl false, H, I, rfl, q⟩
/-! ### lists of lists -/
def fltV (v : V) : Prop := (∃ z, v = .str z) ∨ ∃ a, v = .ref a
theorem eq_flat {A : Around} {s : Shared} {v : V} {u w : Value} (f : fltV v) (r1 : RelV v u) (r2 : RelV v w) : SeqAt.EqAt A s u w true := by
  rcases f with ⟨z, rfl⟩ | ⟨a, rfl⟩
  · obtain ⟨t, rfl⟩ := r1
    obtain ⟨t', rfl⟩ := r2
    have h := SeqAt.EqAt.str_str (A := A) (s := s) z t z t'
    rw [beq_self_eq_true] at h
    exact h
  · cases r1
    cases r2
    exact SeqAt.EqAt.same _
theorem vals_at : ∀ {xs : List V} {us : List Value}, Vals xs us → ∀ (j : Nat) (h1 : j < xs.length) (h2 : j < us.length), RelV xs[j] us[j]
  | _, _, .nil, j, h1, _ => absurd h1 (by simp)
  | _, _, .cons r t, 0, _, _ => r
  | _, _, .cons r t, j + 1, h1, h2 => vals_at t j (by simpa using h1) (by simpa using h2)
theorem eq_lsts {X : Cx} {pins : List (Addr × Obj)} {σ : L2.St} {H : Hp} {s : Shared} {A : Around} (I : Inv X pins σ H s) (hu : A.units < cLine) {p q : Addr} {xs : List V} (hp : H p = some (.lst xs)) (hq : H q = some (.lst xs)) (fl : ∀ v ∈ xs, fltV v) : SeqAt.EqAt A s (.ref p) (.ref q) true := by
  by_cases ne : p = q
  · rw [ne]
    exact SeqAt.EqAt.same _
  · obtain ⟨z, its, k, r, e⟩ := I.hok p _ hp
    obtain ⟨z2, its2, k2, r2, e2⟩ := I.hok q _ hq
    have l1 := vals_len r
    have l2 := vals_len r2
    have hr := SeqAt.RcAt.lists (A := A) (s := s) (l := p) (b := q) (items := its.toArray) (items2 := its2.toArray) (e := fun _ => true) ⟨_, e, rfl, _, rfl⟩ ⟨_, e2, rfl, _, rfl⟩ (by simp [l1, l2]) hu (fun j h1 h2 => by
      have h1' : j < its.length := by simpa using h1
      have h2' : j < its2.length := by simpa using h2
      have hx : j < xs.length := by omega
      have q := eq_flat (A := A.in1) (s := s) (fl _ (List.getElem_mem hx)) (vals_at r j hx h1') (vals_at r2 j hx h2')
      simpa using q)
    have e3 : ((List.range its.toArray.size).all fun _ => true) = true := by simp
    rw [e3] at hr
    exact SeqAt.EqAt.of_refs ne hr
def rNeLL : R2 := fun x y H Q => ∃ (a b : Addr) (as bs : List Addr), x = .ref a ∧ y = .ref b ∧ H a = some (.lst (as.map V.ref)) ∧ H b = some (.lst (bs.map V.ref)) ∧ as.length = bs.length ∧ (∀ (i : Nat) (p q : Addr), as[i]? = some p → bs[i]? = some q → ∃ xs, H p = some (.lst xs) ∧ H q = some (.lst xs) ∧ ∀ v ∈ xs, fltV v) ∧ Q (.bl false) H
theorem op_neLL {X : Cx} (hu : X.A.units + 1 < cLine) : OpR X (compareOp .NotEq) rNeLL := by
  intro pins s σ H x y v u Q I rx ry h
  obtain ⟨a, b, as, bs, rfl, rfl, ha, hb, hl, hi, q⟩ := h
  cases rx
  cases ry
  obtain ⟨z, its, k, r, e⟩ := I.hok a _ ha
  obtain ⟨z2, its2, k2, r2, e2⟩ := I.hok b _ hb
  have h1 := vals_refs r
  have h2 := vals_refs r2
  subst h1
  subst h2
  have hr := SeqAt.RcNeAt.lists (A := X.A) (s := s) (l := a) (b := b) (items := (as.map Value.ref).toArray) (items2 := (bs.map Value.ref).toArray) (e := fun _ => true) ⟨_, e, rfl, _, rfl⟩ ⟨_, e2, rfl, _, rfl⟩ (by simp [hl]) (by omega) (fun j h1 h2 => by
    have h1' : j < as.length := by simpa using h1
    have h2' : j < bs.length := by simpa using h2
    obtain ⟨xs, hp, hq, fl⟩ := hi j as[j] bs[j] (List.getElem?_eq_getElem h1') (List.getElem?_eq_getElem h2')
    have q := eq_lsts (A := X.A.in1) I (by show X.A.units + 1 < cLine; exact hu) hp hq fl
    simpa using q)
  have e3 : (!(List.range (as.map Value.ref).toArray.size).all fun _ => true) = false := by simp
  rw [e3] at hr
  show wpAny _ _ (richCompare .NotEq (.ref a) (.ref b)) _ _ _
  exact hr X.prog X.w X.xe _ ⟨.bl false, H, I, rfl, q⟩
end Wm
namespace Wm
open PySem L2 StX
theorem zip_at {α β : Type} {as : List α} {bs : List β} {i : Nat} {a : α} {b : β} (ha : as[i]? = some a) (hb : bs[i]? = some b) : (as.zip bs)[i]? = some (a, b) := by
  rw [List.getElem?_zip_eq_some]
  exact ⟨ha, hb⟩
theorem row_at {K : PySem.W.Frag} {H : Hp} {ps : List Addr} {vs : List Var} {i : Nat} {x : V} (h : RowsAt K H ps (vs.map varV)) (e : (ps.map V.ref)[i]? = some x) : ∃ q v, x = .ref q ∧ vs[i]? = some v ∧ SqT K H q (varV v) := by
  rw [List.getElem?_map] at e
  obtain ⟨q, hq, rfl⟩ := Option.map_eq_some_iff.mp e
  obtain ⟨r, hr, hs⟩ := h.get hq
  rw [List.getElem?_map] at hr
  obtain ⟨v, hv, rfl⟩ := Option.map_eq_some_iff.mp hr
  exact ⟨q, v, rfl, hv, hs⟩
theorem tri_at {K : PySem.W.Frag} {H : Hp} {ps : List Addr} {vs : List Tri} {i : Nat} {x : V} (h : RowsAt K H ps (vs.map triV)) (e : (ps.map V.ref)[i]? = some x) : ∃ q v, x = .ref q ∧ vs[i]? = some v ∧ SqT K H q (triV v) := by
  rw [List.getElem?_map] at e
  obtain ⟨q, hq, rfl⟩ := Option.map_eq_some_iff.mp e
  obtain ⟨r, hr, hs⟩ := h.get hq
  rw [List.getElem?_map] at hr
  obtain ⟨v, hv, rfl⟩ := Option.map_eq_some_iff.mp hr
  exact ⟨q, v, rfl, hv, hs⟩
theorem strz_at {zs : List Str} {i : Nat} {x : V} (e : (zs.map V.str)[i]? = some x) : ∃ z, x = .str z ∧ zs[i]? = some z := by
  rw [List.getElem?_map] at e
  obtain ⟨q, hq, rfl⟩ := Option.map_eq_some_iff.mp e
  exact ⟨q, rfl, hq⟩
theorem tris_snoc {K : PySem.W.Frag} {H : Hp} {q : Addr} {t : T3} : ∀ {qs : List Addr} {ts : List T3}, TrisAt K H qs ts → SqT K H q (triV3 t) → TrisAt K H (qs ++ [q]) (ts ++ [t])
  | [], [], _, h => ⟨h, True.intro⟩
  | _ :: _, _ :: _, h, g => ⟨h.1, tris_snoc h.2 g⟩
  | [], _ :: _, h, _ => h.elim
  | _ :: _, [], h, _ => h.elim
theorem tris_at {K : PySem.W.Frag} {H : Hp} : ∀ {qs : List Addr} {ts : List T3} {i : Nat} {y : V}, TrisAt K H qs ts → (qs.map V.ref)[i]? = some y → ∃ q t, y = .ref q ∧ ts[i]? = some t ∧ SqT K H q (triV3 t)
  | [], [], _, _, _, h => by simp at h
  | q :: _, t :: _, 0, y, h, e => ⟨q, t, (Option.some.inj e).symm, rfl, h.1⟩
  | _ :: _, _ :: _, i + 1, y, h, e => by
    obtain ⟨q, t, a, b, c⟩ := tris_at (i := i) (y := y) h.2 (by simpa using e)
    exact ⟨q, t, a, by simpa using b, c⟩
  | [], _ :: _, _, _, h, _ => h.elim
  | _ :: _, [], _, _, h, _ => h.elim
theorem tris_imp {K : PySem.W.Frag} {H H' : Hp} (s : ∀ {q : Addr} {xs : List V}, SqT K H q xs → SqT K H' q xs) : ∀ {qs : List Addr} {ts : List T3}, TrisAt K H qs ts → TrisAt K H' qs ts
  | [], [], _ => True.intro
  | _ :: _, _ :: _, h => ⟨s h.1, tris_imp s h.2⟩
  | [], _ :: _, h => h.elim
  | _ :: _, [], h => h.elim
theorem addT_mem {t u : T3} {ts : List T3} : u ∈ addT ts t ↔ u ∈ ts ∨ u = t := by
  unfold addT
  by_cases c : t ∈ ts
  · rw [if_pos c]
    exact ⟨.inl, fun h => h.elim id fun e => by rw [e]; exact c⟩
  · rw [if_neg c, List.mem_append, List.mem_singleton]
theorem addT_nd {t : T3} {ts : List T3} (nd : ts.Nodup) : (addT ts t).Nodup := by
  unfold addT
  by_cases c : t ∈ ts
  · rw [if_pos c]
    exact nd
  · rw [if_neg c, List.nodup_append]
    refine ⟨nd, by simp, fun a ha b hb e => ?_⟩
    rw [List.mem_singleton] at hb
    rw [e, hb] at ha
    exact c ha
theorem addT_old {t : T3} {ts : List T3} (h : t ∈ ts) : addT ts t = ts := if_pos h
theorem addT_new {t : T3} {ts : List T3} (h : t ∉ ts) : addT ts t = ts ++ [t] := if_neg h
def addTs (f l : List T3) : List T3 := l.foldl addT f
theorem addTs_mem {t : T3} : ∀ {l f : List T3}, t ∈ addTs f l ↔ t ∈ f ∨ t ∈ l
  | [], f => by simp [addTs]
  | u :: l, f => by
    show t ∈ addTs (addT f u) l ↔ _
    rw [addTs_mem, addT_mem, List.mem_cons, or_assoc]
theorem addTs_nd : ∀ {l f : List T3}, f.Nodup → (addTs f l).Nodup
  | [], f, h => h
  | u :: l, f, h => addTs_nd (l := l) (addT_nd h)
theorem addTs_snoc (f l : List T3) (t : T3) : addTs f (l ++ [t]) = addT (addTs f l) t := List.foldl_append
theorem nd_len {α : Type} [DecidableEq α] : ∀ {l D : List α}, l.Nodup → (∀ x ∈ l, x ∈ D) → l.length ≤ D.length
  | [], _, _, _ => Nat.zero_le _
  | a :: l, D, nd, h => by
    rw [List.nodup_cons] at nd
    have q := nd_len (D := D.erase a) nd.2 fun x hx => (List.mem_erase_of_ne (fun e => nd.1 (by rw [← e]; exact hx))).mpr (h x (List.mem_cons_of_mem _ hx))
    have ha := h a List.mem_cons_self
    rw [List.length_erase_of_mem ha] at q
    have := List.length_pos_of_mem ha
    rw [List.length_cons]
    omega
theorem addTs_len {l : List T3} : (addTs [] l).length ≤ l.length := nd_len (addTs_nd List.nodup_nil) fun t ht => (addTs_mem.mp ht).elim (fun h => absurd h List.not_mem_nil) id
theorem k3_len (ts : List T3) : (k3 ts).length = ts.length := List.length_map _
def rowsOf (ss : List Str) (r : RlD) : List (List Str) := cart (r.p.vars.map (freeS ss))
/-- a rule of the scheme -/
structure RuOk (ss ws : List Str) (r : RlD) : Prop where
  v4 : r.p.vars.length ≤ 4
  c3 : r.p.cs.length ≤ 3
  nd : (r.p.vars.map (·.1)).Nodup
  vs : ∀ v ∈ r.p.vars, ∀ z, v.2 = some z → z ∈ ss
  cw : ∀ t ∈ r.p.cs, t.2.1 ∈ ws
  gw : r.g.2.1 ∈ ws
  en : ∀ t ∈ r.p.cs, t.1 ∈ r.p.vars.map (·.1) ∧ t.2.2 ∈ r.p.vars.map (·.1)
  gn : r.g.1 ∈ r.p.vars.map (·.1) ∧ r.g.2.2 ∈ r.p.vars.map (·.1)
  bn : r.bh ∈ r.p.vars.map (·.1)
theorem cart_mem : ∀ {fs : List (List Str)} {r : List Str}, r ∈ cart fs → ∀ z ∈ r, ∃ f ∈ fs, z ∈ f
  | [], r, h, z, hz => by
    have e : r = [] := by simpa [cart] using h
    rw [e] at hz
    exact absurd hz List.not_mem_nil
  | f :: fs, r, h, z, hz => by
    obtain ⟨e, he, h⟩ := List.mem_flatMap.mp h
    obtain ⟨q, hq, rfl⟩ := List.mem_map.mp h
    rcases List.mem_cons.mp hz with rfl | w
    · exact ⟨f, List.mem_cons_self, he⟩
    · obtain ⟨g, hg, k⟩ := cart_mem hq z w
      exact ⟨g, List.mem_cons_of_mem _ hg, k⟩
theorem RuOk.row {ss ws : List Str} {r : RlD} (h : RuOk ss ws r) {row : List Str} (m : row ∈ rowsOf ss r) : row.length = r.p.vars.length ∧ ∀ z ∈ row, z ∈ ss := by
  refine ⟨(cart_row m).trans (List.length_map _), fun z hz => ?_⟩
  obtain ⟨f, hf, k⟩ := cart_mem m z hz
  obtain ⟨v, hv, rfl⟩ := List.mem_map.mp hf
  unfold freeS at k
  cases e : v.2 with
  | none =>
    rw [e] at k
    exact k
  | some y =>
    rw [e] at k
    rw [List.mem_singleton.mp k]
    exact h.vs v hv y e
theorem take_mem {α : Type} {st : List α} {i : Nat} {s u : α} (h : st[i]? = some s) (hu : u ∈ st.take (i + 1)) : u ∈ st.take i ∨ u = s := by
  rw [List.take_add_one, h] at hu
  rcases List.mem_append.mp hu with q | q
  · exact .inl q
  · exact .inr (by simpa using q)
theorem texts_of {ss ws : List Str} {r : RlD} (rk : RuleOk ss ws r) (hn : isNm r.p.nm = true ∧ r.p.nm.length ≤ 12) (h1 : ∀ z ∈ ss, isNm z = true ∧ z.length ≤ 12) (h2 : ∀ z ∈ ws, isNm z = true ∧ z.length ≤ 12) : ∀ z ∈ textsL r.p.nm r.p.vars (r.p.cs ++ [r.g]), isNm z = true ∧ z.length ≤ 12 := fun z hz => by
  unfold textsL at hz
  rcases List.mem_append.mp hz with hz | hz
  · rcases List.mem_cons.mp hz with rfl | hz
    · exact hn
    · obtain ⟨v, hv, hz⟩ := List.mem_flatMap.mp hz
      unfold varT at hz
      rcases List.mem_cons.mp hz with rfl | hz
      · exact ⟨(rk.vn v hv).1, (rk.vn v hv).2.1⟩
      · exact h1 z (rk.vs v hv z (Option.mem_toList.mp hz))
  · obtain ⟨t, ht, rfl⟩ := List.mem_map.mp hz
    rcases List.mem_append.mp ht with ht | ht
    · exact h2 _ (rk.cw t ht)
    · rw [List.mem_singleton.mp ht]
      exact h2 _ rk.gw
theorem rep_strs {k : Nat} {z : Str} : (List.replicate k [V.str z]).flatten = (List.replicate k z).map V.str := by
  induction k with
  | zero => rfl
  | succ n ih =>
    rw [List.replicate_succ, List.flatten_cons, ih]
    rfl
theorem cut_ints {ns : List Int} {lo hi : Option Int} {x : V} (h : x ∈ cutV (ns.map V.int) lo hi) : ∃ i, x = .int i := by
  unfold cutV at h
  obtain ⟨i, _, rfl⟩ := List.mem_map.mp (List.mem_of_mem_drop (List.mem_of_mem_take h))
  exact ⟨i, rfl⟩
theorem nodup_of {zs : List Str} (h : NoTw (zs.map V.str)) : zs.Nodup := by
  rw [List.nodup_iff_pairwise_ne, List.pairwise_iff_getElem]
  intro i j hi hj hij e
  have q := h j (.str zs[j]) (stA hj)
  rw [← List.map_take, inV_strs] at q
  exact (of_decide_eq_false q) (by rw [← e]; exact List.mem_take_iff_getElem.mpr ⟨i, by omega, rfl⟩)
theorem RuleOk.ru {ss ws : List Str} {r : RlD} (h : RuleOk ss ws r) : RuOk ss ws r := by
  have e := h.pt.en
  have em : ∀ z ∈ endsL (r.p.cs ++ [r.g]), z ∈ r.p.vars.map (·.1) := fun z hz => e z (List.mem_append_left _ hz)
  have et : ∀ t ∈ r.p.cs ++ [r.g], t.1 ∈ r.p.vars.map (·.1) ∧ t.2.2 ∈ r.p.vars.map (·.1) := fun t ht =>
    ⟨em _ (List.mem_flatMap.mpr ⟨t, ht, by simp⟩), em _ (List.mem_flatMap.mpr ⟨t, ht, by simp⟩)⟩
  exact ⟨h.pt.v4, h.pt.c3, nodup_of h.pt.tw, h.vs, h.cw, h.gw, fun t ht => et t (List.mem_append_left _ ht), et r.g (List.mem_append_right _ (List.mem_singleton.mpr rfl)), e r.bh (List.mem_append_right _ (List.mem_singleton.mpr rfl))⟩
def okT (t : T3) : Prop := okS t.1 ∧ okS t.2.1 ∧ okS t.2.2
theorem eqv_self {d : PyData} (h : SeqAt.shaped d = true) : PyData.eqv d d = true := SeqAt.eqv_refl d (SeqAt.canLay_of_shaped h)
theorem tri_sh1 {t : T3} (h : okT t) : (triD3 t).canLay0 = true ∧ (triD3 t).depth ≤ 2 := by
  refine ⟨?_, tri_depth t⟩
  simp [triD3, PyData.canLay0, PyData.canLayAll0, strOk_of h.1, strOk_of h.2.1, strOk_of h.2.2]
theorem tris_sh : ∀ {ts : List T3}, (∀ t ∈ ts, okT t) → PyData.canLayAll0 (ts.map triD3) = true ∧ PyData.depthAll (ts.map triD3) ≤ 2
  | [], _ => by simp [PyData.canLayAll0, PyData.depthAll]
  | t :: r, h => by
    obtain ⟨a, b⟩ := tris_sh (ts := r) fun y hy => h y (List.mem_cons_of_mem _ hy)
    obtain ⟨c, d⟩ := tri_sh1 (h t List.mem_cons_self)
    refine ⟨by simp only [List.map_cons, PyData.canLayAll0, c, a, Bool.and_self], ?_⟩
    simp only [List.map_cons, PyData.depthAll]
    omega
def trisD (ts : List T3) : PyData := .list (ts.map triD3)
theorem trisD_sh {ts : List T3} (h : ∀ t ∈ ts, okT t) : SeqAt.shaped (trisD ts) = true := by
  obtain ⟨a, b⟩ := tris_sh h
  unfold trisD
  generalize ts.map triD3 = X at a b
  simp [SeqAt.shaped, PyData.canLay0, PyData.depth, a]
  omega
theorem dp_tris {K : PySem.W.Frag} {H : Hp} : ∀ {ps : List Addr} {ts : List T3}, TrisAt K H ps ts → DpAll K H (ps.map V.ref) (ts.map triD3)
  | [], [], _ => .nil
  | _ :: _, _ :: _, h => .cons (tri_dp h.1) (dp_tris h.2)
  | [], _ :: _, h => h.elim
  | _ :: _, [], h => h.elim
theorem trisD_dp {K : PySem.W.Frag} {H : Hp} {l : Addr} {ps : List Addr} {ts : List T3} (hl : H l = some (.lst (ps.map V.ref))) (h : TrisAt K H ps ts) : Dp K H (.ref l) (trisD ts) := .lst (SqL.of hl) (dp_tris h)
theorem okS_rf : okS ("refused" : Str) := by
  unfold okS
  decide +kernel
theorem okS_to : okS ("told" : Str) := by
  unfold okS
  decide +kernel
def rowD (r : List Str) : PyData := .tuple (r.map PyData.str)
theorem dp_strs {K : PySem.W.Frag} {H : Hp} : ∀ zs : List Str, DpAll K H (zs.map V.str) (zs.map PyData.str)
  | [] => .nil
  | z :: r => .cons (.str z) (dp_strs r)
theorem dp_rowsS {K : PySem.W.Frag} {H : Hp} : ∀ {qs : List Addr} {rs : List (List Str)}, RowsAt K H qs (rs.map rowV) → DpAll K H (qs.map V.ref) (rs.map rowD)
  | [], [], _ => .nil
  | _ :: _, r :: _, h => .cons (.tup h.1 (dp_strs r)) (dp_rowsS h.2)
  | [], _ :: _, h => h.elim
  | _ :: _, [], h => h.elim
theorem strs_sh : ∀ {zs : List Str}, (∀ z ∈ zs, okS z) → PyData.canLayAll0 (zs.map PyData.str) = true ∧ PyData.depthAll (zs.map PyData.str) ≤ 1
  | [], _ => by simp [PyData.canLayAll0, PyData.depthAll]
  | z :: r, h => by
    obtain ⟨a, b⟩ := strs_sh (zs := r) fun y hy => h y (List.mem_cons_of_mem _ hy)
    have s := strOk_of (h z List.mem_cons_self)
    refine ⟨by simp [PyData.canLayAll0, PyData.canLay0, s, a], ?_⟩
    simp only [List.map_cons, PyData.depthAll, PyData.depth]
    omega
theorem rowsS_sh : ∀ {rs : List (List Str)}, (∀ r ∈ rs, ∀ z ∈ r, okS z) → PyData.canLayAll0 (rs.map rowD) = true ∧ PyData.depthAll (rs.map rowD) ≤ 2
  | [], _ => by simp [PyData.canLayAll0, PyData.depthAll]
  | r :: rs, h => by
    obtain ⟨a, b⟩ := strs_sh (h r List.mem_cons_self)
    obtain ⟨h2, h3⟩ := rowsS_sh (rs := rs) fun y hy => h y (List.mem_cons_of_mem _ hy)
    have e : (rowD r).canLay0 = true := by simp [rowD, PyData.canLay0, a]
    have d : (rowD r).depth ≤ 2 := by
      simp only [rowD, PyData.depth]
      omega
    refine ⟨by simp only [List.map_cons, PyData.canLayAll0, e, h2, Bool.and_self], ?_⟩
    simp only [List.map_cons, PyData.depthAll]
    omega
def uni : List T3 → List T3
  | [] => []
  | t :: r => if t ∈ r then uni r else t :: uni r
theorem uni_mem {t : T3} : ∀ {l : List T3}, t ∈ uni l ↔ t ∈ l
  | [] => Iff.rfl
  | u :: r => by
    unfold uni
    by_cases c : u ∈ r
    · rw [if_pos c, uni_mem (l := r), List.mem_cons]
      exact ⟨.inr, fun h => h.elim (fun e => by rw [e]; exact c) id⟩
    · rw [if_neg c, List.mem_cons, List.mem_cons, uni_mem (l := r)]
theorem uni_nodup : ∀ l : List T3, (uni l).Nodup
  | [] => List.nodup_nil
  | u :: r => by
    unfold uni
    by_cases c : u ∈ r
    · rw [if_pos c]
      exact uni_nodup r
    · rw [if_neg c]
      exact List.nodup_cons.mpr ⟨fun h => c (uni_mem.mp h), uni_nodup r⟩
theorem uni_len : ∀ l : List T3, (uni l).length ≤ l.length
  | [] => Nat.le_refl _
  | u :: r => by
    have ih := uni_len r
    unfold uni
    by_cases c : u ∈ r
    · rw [if_pos c]
      exact Nat.le_succ_of_le ih
    · rw [if_neg c]
      exact Nat.succ_le_succ ih
/-- the row that a set of these comes to when sorted -/
def setT (l : List T3) : List T3 := sortT (uni l)
theorem setT_of {us l : List T3} (nd : us.Nodup) (h : ∀ t, t ∈ us ↔ t ∈ l) : sortT us = setT l :=
  sortT_perm ((List.perm_ext_iff_of_nodup nd (uni_nodup l)).mpr fun t => (h t).trans uni_mem.symm)
theorem setT_eq {l m : List T3} (h : ∀ t, t ∈ l ↔ t ∈ m) : setT l = setT m := setT_of (uni_nodup l) fun t => uni_mem.trans (h t)
theorem setT_mem {t : T3} {l : List T3} : t ∈ setT l ↔ t ∈ l := (List.mergeSort_perm _ _).mem_iff.trans uni_mem
/-- keys that are triples -/
theorem unK_back {ks : List (List L2.Key)} (h : ∀ k ∈ ks, ∃ t, k = triK t) : ks = (ks.filterMap unK).map triK := by
  induction ks with
  | nil => rfl
  | cons k r ih =>
    obtain ⟨t, rfl⟩ := h k List.mem_cons_self
    rw [List.filterMap_cons_some (show unK (triK t) = some t from rfl), List.map_cons, ← ih fun u hu => h u (List.mem_cons_of_mem _ hu)]
theorem unK_nodup {ks : List (List L2.Key)} (h : ∀ k ∈ ks, ∃ t, k = triK t) (nd : ks.Nodup) : (ks.filterMap unK).Nodup := by
  rw [unK_back h] at nd
  exact nodup_of_map nd
theorem unK_mem {ks : List (List L2.Key)} (h : ∀ k ∈ ks, ∃ t, k = triK t) (t : T3) : t ∈ ks.filterMap unK ↔ triK t ∈ ks := by
  constructor
  · intro m
    rw [unK_back h]
    exact List.mem_map.mpr ⟨t, m, rfl⟩
  · intro m
    exact List.mem_filterMap.mpr ⟨_, m, rfl⟩
theorem memT_same {K : PySem.W.Frag} {H H' : Hp} {L : List (Addr × List L2.Key)} (e : Same H H') (h : MemT K H L) : MemT K H' L := fun m hm => same_seqT e (h m hm)
theorem but_seqT {K : PySem.W.Frag} {p a : Addr} {H H' : Hp} {xs : List V} {o : HO} (b : But p H H') (hp : H p = some o) (n1 : ∀ ys, o ≠ .tup ys) (n2 : ∀ u v, o ≠ .frz u v) (h : SqT K H a xs) : SqT K H' a xs := by
  rcases h with (h | ⟨u, h⟩) | h
  · exact .inl (.inl (b _ _ (ne_of h hp (n1 _).symm) h))
  · exact .inl (.inr ⟨u, b _ _ (ne_of h hp (n2 _ _).symm) h⟩)
  · exact .inr h
theorem seqT_put {K : PySem.W.Frag} {P : Program} {w : World} {H : Hp} {D q : Addr} {L : List (Addr × List L2.Key)} {o : HO} {xs : List V} (hD : H D = some (KSetO P w D L)) (h : SqT K H q xs) : SqT K (upd H D o) q xs :=
  but_seqT But.upd hD (fun _ z => nomatch (show HO.ext _ = HO.tup _ from z)) (fun _ _ z => nomatch (show HO.ext _ = HO.frz _ _ from z)) h
/-- a set that holds these and no others -/
def Full (K : PySem.W.Frag) (P : Program) (w : World) (H : Hp) (D : Addr) (us : List T3) : Prop := ∃ L, H D = some (KSetO P w D L) ∧ MemT K H L ∧ (L.map (·.2)).Nodup ∧ ∀ k, k ∈ L.map (·.2) ↔ k ∈ us.map triK
/-- triples as the keys that set() takes -/
theorem tris_keys {K : PySem.W.Frag} {H : Hp} : ∀ {ps : List Addr} {us : List T3}, TrisAt K H ps us → ∃ ks : List (Addr × List L2.Key), ps.map V.ref = ks.map (fun m => V.ref m.1) ∧ ks.map (·.2) = us.map triK ∧ MemT K H ks
  | [], [], _ => ⟨[], rfl, rfl, fun m hm => absurd hm List.not_mem_nil⟩
  | p :: ps, u :: us, h => by
    obtain ⟨ks, a, b, c⟩ := tris_keys h.2
    refine ⟨(p, triK u) :: ks, by rw [List.map_cons, a]; rfl, by rw [List.map_cons, b]; rfl, fun m hm => ?_⟩
    rcases List.mem_cons.mp hm with e | e
    · rw [e]
      exact h.1
    · exact c m e
  | [], _ :: _, h => h.elim
  | _ :: _, [], h => h.elim
theorem set_of_tris {K : PySem.W.Frag} {P : Program} {w : World} {H : Hp} {l : Addr} {ps : List Addr} {us : List T3} (hl : H l = some (.lst (ps.map V.ref))) (h : TrisAt K H ps us) (few : us.length < 64) {Q : V → Hp → Prop} (q : ∀ a o, H a = none → Full K P w (upd H a o) a us → Q (.ref a) (upd H a o)) :
    rSetK K P w [.ref l] H Q := by
  obtain ⟨ks, a, b, c⟩ := tris_keys h
  have z := congrArg List.length b
  rw [List.length_map, List.length_map] at z
  refine ⟨l, ks, rfl, by rw [← a]; exact SqL.of hl, c, by omega, fun D L hD sub all nd => q D _ hD ⟨L, upd_same, fun m hm => same_seqT (Same.upd hD) (c m (sub m hm)), nd, fun k => ?_⟩⟩
  rw [← b]
  constructor
  · intro hk
    obtain ⟨m, hm, e⟩ := List.mem_map.mp hk
    exact List.mem_map.mpr ⟨m, sub m hm, e⟩
  · intro hk
    obtain ⟨m, hm, e⟩ := List.mem_map.mp hk
    rw [← e]
    exact all m hm
/-- the set as sorted reads it -/
theorem Full.read {K : PySem.W.Frag} {P : Program} {w : World} {H : Hp} {D : Addr} {us : List T3} (G : Full K P w H D us) {Q : V → Hp → Prop} (q : ∀ (qs : List Addr) (p : Addr), TrisAt K H qs (setT us) → H p = none → Q (.ref p) (upd H p (.lst (qs.map V.ref)))) :
    ∃ (a : Addr) (L : List (Addr × List L2.Key)) (ts : List T3), [V.ref D] = [.ref a] ∧ H a = some (KSetO P w a L) ∧ MemT K H L ∧ L.map (·.2) = ts.map triK ∧ ∀ (qs : List Addr) (p : Addr), TrisAt K H qs (sortT ts) → H p = none → Q (.ref p) (upd H p (.lst (qs.map V.ref))) := by
  obtain ⟨L, e1, e2, e3, e4⟩ := G
  have tri : ∀ k ∈ L.map (·.2), ∃ t, k = triK t := fun k hk => by
    obtain ⟨t, _, e⟩ := List.mem_map.mp ((e4 k).mp hk)
    exact ⟨t, e.symm⟩
  refine ⟨D, L, (L.map (·.2)).filterMap unK, rfl, e1, e2, unK_back tri, fun qs p hq hp => q qs p ?_ hp⟩
  have z : sortT ((L.map (·.2)).filterMap unK) = setT us := setT_of (unK_nodup tri e3) fun t => by rw [unK_mem tri, e4, triK_mem]
  rw [← z]
  exact hq
theorem u0 {A : Around} {k : Nat} (hr : Room k A) : A.units < cLine := by have := hr.units; omega
end Wm
namespace Wm
open PySem L2 StX
/-- the things of the least house -/
def thL (r : RlD) (row : List Str) : List Thing := (r.p.vars.zip row).map fun p => (p.1.1, p.2, decide (p.1.1 = r.bh))
theorem thL_nm {r : RlD} {row : List Str} (hl : r.p.vars.length = row.length) : nmL (thL r row) = r.p.vars.map (·.1) := by
  unfold nmL thL
  rw [List.map_map]
  have q : ((r.p.vars.zip row).map Prod.fst).map Prod.fst = r.p.vars.map Prod.fst := by rw [List.map_fst_zip (Nat.le_of_eq hl)]
  rw [List.map_map] at q
  exact q
/-- a rule whose names may stand for things -/
structure RuNm (r : RlD) : Prop where
  nm : ∀ v ∈ r.p.vars, isNm v.1 = true ∧ v.1.length ≤ 12
def spHf (K : PySem.W.Frag) (HC S RB : Addr) : Sp := fun vs H Q _ => ∃ (x a q : Addr) (ss ws : List Str) (r : RlD) (row : List Str), vs = [.ref x, .ref a, .ref q] ∧ SchAt S H x ss ws ∧ RlAt K RB H a r ∧ SqT K H q (rowV row) ∧ RuOk ss ws r ∧ RuNm r ∧ row.length = r.p.vars.length ∧ (∀ z ∈ row, z ∈ ss) ∧
  ∀ h dx d1 d2 d3 H', H h = none → H d1 = none → H d2 = none → H d3 = none → Same H H' → HsAt HC S H' h dx x d1 d2 d3 ss ws (thL r row) (addTs [] r.p.cs) → Q (.ref h) H'
theorem odd_all {ss : List Str} {vs : List Var} (h : oddS ss vs = none) : ∀ v ∈ vs, ∀ z, v.2 = some z → z ∈ ss := fun v hv z e => by
  have q := List.find?_eq_none.mp h z (List.mem_filterMap.mpr ⟨v, hv, e⟩)
  simpa using q
theorem oddW_all {ws : List Str} {ts : List Tri} (h : oddW ws ts = none) : ∀ t ∈ ts, t.2.1 ∈ ws := fun t ht => by
  have q := List.find?_eq_none.mp h t.2.1 (List.mem_map.mpr ⟨t, ht, rfl⟩)
  simpa using q
theorem RuleOk.ru2 {ss ws ss' ws' : List Str} {r : RlD} (h : RuleOk ss' ws' r) (h1 : oddS ss r.p.vars = none) (h2 : oddW ws (r.p.cs ++ [r.g]) = none) : RuOk ss ws r := by
  have q := h.ru
  have w := oddW_all h2
  exact ⟨q.v4, q.c3, q.nd, odd_all h1, fun t ht => w t (List.mem_append_left _ ht), w r.g (List.mem_append_right _ (List.mem_singleton.mpr rfl)), q.en, q.gn, q.bn⟩
theorem strs_eqv : ∀ a b : List Str, PyData.eqvAll (a.map PyData.str) (b.map PyData.str) = decide (a = b)
  | [], [] => by simp [PyData.eqvAll]
  | [], y :: b => by simp [PyData.eqvAll]
  | x :: a, [] => by simp [PyData.eqvAll]
  | x :: a, y :: b => by
    rw [List.map_cons, List.map_cons]
    simp only [PyData.eqvAll, strs_eqv a b, PyData.eqv]
    by_cases e : x = y
    · subst e
      by_cases f : a = b
      · subst f
        simp
      · simp [f]
    · simp [e]
theorem rowD_eqv (a b : List Str) : PyData.eqv (rowD a) (rowD b) = decide (a = b) := by
  unfold rowD
  rw [← strs_eqv]
  simp [PyData.eqv]
theorem rowD_sh {row : List Str} (h : ∀ z ∈ row, okS z) : SeqAt.shaped (rowD row) = true := by
  obtain ⟨a, b⟩ := strs_sh h
  simp [SeqAt.shaped, rowD, PyData.canLay0, PyData.depth, a]
  omega
theorem rowsD_sh {rs : List (List Str)} (h : ∀ r ∈ rs, ∀ z ∈ r, okS z) : SeqAt.shaped (.list (rs.map rowD)) = true := by
  obtain ⟨a, b⟩ := rowsS_sh h
  generalize rs.map rowD = X at a b
  simp [SeqAt.shaped, PyData.canLay0, PyData.depth, a]
  omega
/-- what least_house is due: 0 a sort, 1 a word, 2 a misfit -/
def dueL (ss ws : List Str) (r : RlD) (row : List Str) : Option (Nat × Str) := match oddS ss r.p.vars with
  | some z => some (0, z)
  | none => match oddW ws (r.p.cs ++ [r.g]) with
    | some z => some (1, z)
    | none => if row ∈ rowsOf ss r then none else some (2, r.p.nm)
def DueL (CS CW CM : Addr) (ss ws : List Str) (r : RlD) (row : List Str) (H : Hp) (ok : Hp → Prop) (E : XK) : Prop := match dueL ss ws r row with
  | some (0, z) => ∀ d H', H d = none → Same H H' → H' d = some (.xd (ef1 "name" "nosort" (.str z))) → E (.ref CS) (some d) H'
  | some (1, z) => ∀ d H', H d = none → Same H H' → H' d = some (.xd (ef1 "name" "noword" (.str z))) → E (.ref CW) (some d) H'
  | some (_, z) => ∀ d H', H d = none → Same H H' → H' d = some (.xd (ef1 "name" "misfit" (.str z))) → E (.ref CM) (some d) H'
  | none => ∀ H', Same H H' → ok H'
def spLh (K : PySem.W.Frag) (HC S RB CS CW CM : Addr) : Sp := fun vs H Q E => ∃ (x a q : Addr) (ss ws ss' ws' : List Str) (r : RlD) (row : List Str), vs = [.ref x, .ref a, .ref q] ∧ SchAt S H x ss ws ∧ RlAt K RB H a r ∧ SqT K H q (rowV row) ∧ RuleOk ss' ws' r ∧ ss.length ≤ 4 ∧ 1 ≤ ss.length ∧ (∀ z ∈ ss, okS z) ∧ (∀ z ∈ row, okS z) ∧
  DueL CS CW CM ss ws r row H (fun H1 => RuOk ss ws r ∧ row ∈ rowsOf ss r → ∀ h dx d1 d2 d3 H', H h = none → H d1 = none → H d2 = none → H d3 = none → Same H H' → HsAt HC S H' h dx x d1 d2 d3 ss ws (thL r row) (addTs [] r.p.cs) → Q (.ref h) H') E
section
variable {P : Program} {w : World} {K : PySem.W.Frag} {mg : Str → Option Value} {base : Heap}
theorem scMi : FnScope ["self", "name"] ["self", "name"] (defScope sMi) := ⟨rfl, rfl, rfl, by decide +kernel, rfl, by decide +kernel, by decide +kernel⟩
theorem ok_misfit {f C f0 W : Addr} {fd fd0 : FuncData} (F : Fun K "__init__" "Misfit.__init__" sMi f fd) (T : ErrT K mg "Misfit" "name" C f) (TW : WhoT K mg W f0 fd0) (G0 : FnOk P w K mg base CX0 1 f0 fd0 ["self", "kind"] (spWI K)) :
    FnOk P w K mg base CX0 2 f fd ["self", "name"] (spE1 C "name" "misfit") := by
  refine F.ok scMi (fun vs H Q E h => ?_) (fun cdv A outer s H vs Q E hr h => ?_)
  · obtain ⟨a, v, rfl, _⟩ := h
    rfl
  · obtain ⟨a, v, rfl, ha, k⟩ := h
    refine ⟨_, pss_cons (ps_expr (pe_clsFn rfl TW.g TW.r TW.m TW.k G0 hr TW.b .nil pass0 (pa_cons (pv 0) (pa_cons pe_str pa_nil)))) (pss_one (ps_ost (pv 0) (pv 1))), ?_⟩
    refine ⟨_, rfl, a, C, _, rfl, T.o, T.nk, ha, fun dx n ne => ?_⟩
    refine ⟨_, rfl, _, rfl, a, C, rfl, T.o, T.nf, .inr ⟨dx, _, upd_same, Eq.trans (upd_ne ne) upd_same, by decide, ?_⟩⟩
    refine k dx _ n ne (fun b o nb e => ?_) ?_ upd_same
    · have nd : b ≠ dx := ne_of_none e n
      rw [upd_ne nd, upd_ne nb, upd_ne nd]
      exact e
    · rw [upd_ne ne.symm, upd_same]
theorem scHf : FnScope ["scheme", "rule", "row", "house", "variable", "own", "sort", "x", "word", "y"] ["scheme", "rule", "row"] (defScope sHf) := ⟨rfl, rfl, rfl, by decide +kernel, rfl, by decide +kernel, by decide +kernel⟩
theorem ok_hf {f HC S fH RB fR fEn fGi : Addr} {fd dHi dEn dGi : FuncData} (F : Fun K "house_for" "house_for" sHf f fd) (hz : mg "zip" = none) (TH : TxH K mg HC fH) (TR : TxRul K mg RB fR) (bHi : Binds K dHi ["self", "scheme"] []) (GHi : FnOk P w K mg base CX0 1 fH dHi ["self", "scheme"] (spHin HC))
    (mHEn : Meth K HC "enter" fEn) (bHEn : Binds K dEn ["self", "name", "sort", "awake"] []) (GHEn : FnOk P w K mg base CX0 3 fEn dEn ["self", "name", "sort", "awake"] (spHen HC S)) (mHGi : Meth K HC "give" fGi) (bHGi : Binds K dGi ["self", "x", "word", "y"] []) (GHGi : FnOk P w K mg base CX0 3 fGi dGi ["self", "x", "word", "y"] (spHgi HC S)) :
    FnOk P w K mg base CX0 4 f fd ["scheme", "rule", "row"] (spHf K HC S RB) := by
  refine F.ok scHf (fun vs H Q E h => ?_) (fun cdv A outer s H vs Q E hr h => ?_)
  · obtain ⟨x, a, q, ss, ws, r, row, rfl, _⟩ := h
    rfl
  · obtain ⟨x, a, q, ss, ws, r, row, rfl, hsc, hat, hq, ro, rn, rl, rs, k⟩ := h
    have hr2 : Room 2 _ := hr.mono (by decide)
    have hr3 : Room 3 _ := hr.mono (by decide)
    refine ⟨_, (pss_cons (ps_set (i := 3) scHf.nd rfl (Or.inl rfl) (pe_make TH.m GHi hr2 rfl TH.g bHi .nil pass0 (pa_cons (pv 0) pa_nil)))
      (pss_cons (ps_for PassesOwn.never rfl (RZ.pi_zipA rfl hz (pa_cons (pe_fld (pv 1) rfl) (pa_cons (pv 2) pa_nil))) (pg_tup rfl (pgs_cons (pg_tup rfl (pgs_cons (pg_name (i := 4) scHf.nd rfl (Or.inl rfl)) (pgs_cons (pg_name (i := 5) scHf.nd rfl (Or.inl rfl)) pgs_nil))) (pgs_cons (pg_name (i := 6) scHf.nd rfl (Or.inl rfl)) pgs_nil))) (pss_one (ps_expr (pe_meth (pv 3) TH.cl mHEn GHEn hr3 bHEn .nil pass0 (pa_cons (pv 4) (pa_cons (pv 6) (pa_cons (pe_cmpR op_eq (pv 4) (pe_fld (pv 1) rfl) (nomark _)) pa_nil)))))))
      (pss_cons (ps_for PassesOwn.never rfl (pi_tup (pe_fld (pv 1) rfl)) (pg_tup rfl (pgs_cons (pg_name (i := 7) scHf.nd rfl (Or.inl rfl)) (pgs_cons (pg_name (i := 8) scHf.nd rfl (Or.inl rfl)) (pgs_cons (pg_name (i := 9) scHf.nd rfl (Or.inl rfl)) pgs_nil)))) (pss_one (ps_expr (pe_meth (pv 3) TH.cl mHGi GHGi hr3 bHGi .nil pass0 (pa_cons (pv 7) (pa_cons (pv 8) (pa_cons (pv 9) pa_nil)))))))
      (pss_one (ps_ret (pv 3)))))), ?_⟩
    rw [show L2.start ["scheme", "rule", "row", "house", "variable", "own", "sort", "x", "word", "y"] [V.ref x, V.ref a, V.ref q] = [some (.ref x), some (.ref a), some (.ref q), none, none, none, none, none, none, none] from rfl]
    refine ⟨_, rfl, fun h dx nh ndx ne => ?_⟩
    refine ⟨H, h, dx, x, rfl, same_make nh ndx, nh, upd_same, fun d1 d2 d3 H1 n1 n2 n3 n12 S1 hx h1 h2 h3 => ⟨rfl, ?_⟩⟩
    dsimp only [gName, List.set_cons_succ, List.set_cons_zero]
    have hh1 : HsAt HC S H1 h dx x d1 d2 d3 ss ws [] [] := ⟨hx, hsc.same S1, h1, h2, h3, n12⟩
    obtain ⟨d, t1, t2, t3, ps, qs, k0, k1, k2, k3_, k4, k5⟩ := hat
    have pl : ps.length = r.p.vars.length := by
      have z := k2.len
      rw [List.length_map] at z
      exact z
    have pl2 : (ps.map V.ref).length = (row.map V.str).length := by rw [List.length_map, List.length_map, pl, rl]
    have v4 := ro.v4
    refine ⟨_, rfl, a, RB, d, _, _, rfl, S1 _ _ k0, TR.cl, TR.nv, rulF_vars _ _ _ _ _, _, rfl, t1, q, _, _, rfl, .inr ⟨same_seqT S1 k1, same_seqT S1 hq, ?_⟩⟩
    refine RZ.for_zipT (K := K) (a := t1) (b := q) pl2 (fun i σ H' => (∃ u4 u5 u6, σ = [some (.ref x), some (.ref a), some (.ref q), some (.ref h), u4, u5, u6, none, none, none]) ∧ Same H H' ∧ HsAt HC S H' h dx x d1 d2 d3 ss ws ((thL r row).take i) []) ⟨⟨_, _, _, rfl⟩, S1, hh1⟩ (fun i σ H' p => ⟨same_seqT p.2.1 k1, same_seqT p.2.1 hq⟩) ?_ ?_
    · rintro i x0 y0 U σ H2 hx0 hy0 ⟨⟨u4, u5, u6, rfl⟩, S2, hh2⟩ hU
      obtain ⟨qa, v, rfl, hv, hqa⟩ := row_at k2 hx0
      obtain ⟨z, rfl, hzz⟩ := strz_at hy0
      have S3 : Same H2 (upd H2 U (.tup [.ref qa, .str z])) := Same.upd hU
      have eU : (upd H2 U (.tup [.ref qa, .str z])) U = some (.tup [.ref qa, .str z]) := upd_same
      generalize upd H2 U (.tup [.ref qa, .str z]) = H3 at S3 eU
      have S03 := S2.trans S3
      have hh3 := hh2.same S3
      have hzip := zip_at hv hzz
      have il := (List.getElem?_eq_some_iff.mp hv).1
      have hth : (thL r row)[i]? = some (v.1, z, decide (v.1 = r.bh)) := by
        unfold thL
        rw [List.getElem?_map, hzip]
        rfl
      have nth : v.1 ∉ nmL ((thL r row).take i) := fun m => by
        have e : nmL ((thL r row).take i) = (r.p.vars.map (·.1)).take i := by
          rw [← thL_nm rl.symm]
          unfold nmL
          rw [List.map_take]
        rw [e] at m
        obtain ⟨j, hj, ej⟩ := List.mem_take_iff_getElem.mp m
        have il2 : i < (r.p.vars.map (·.1)).length := by rw [List.length_map]; exact il
        have e1 : (r.p.vars.map (·.1))[i] = v.1 := by
          rw [List.getElem_map, (List.getElem?_eq_some_iff.mp hv).2]
        have q := List.pairwise_iff_getElem.mp ro.nd j i (by omega) il2 (by omega)
        exact q (ej.trans e1.symm)
      obtain ⟨n1_, n2_⟩ := rn.nm v (List.mem_of_getElem? hv)
      dsimp only [gName, List.set_cons_succ, List.set_cons_zero]
      refine ⟨U, _, rfl, SqT.of eU, rfl, _, _, rfl, qa, _, rfl, same_seqT S03 hqa, rfl, _, _, rfl, _, _, rfl, rfl, _, _, rfl, rfl, ?_⟩
      dsimp only [gName, List.set_cons_succ, List.set_cons_zero]
      refine ⟨_, rfl, h, dx, _, rfl, hh3.hx, hsF_no (by decide +kernel) (by decide +kernel) (by decide +kernel) (by decide +kernel) _ _ _ _, _, rfl, _, rfl, _, rfl, _, rfl, a, RB, d, _, _, rfl, S03 _ _ k0, TR.cl, TR.nb, rulF_by _ _ _ _ _, rfl, ?_⟩
      have tk5 : ((thL r row).take i).length ≤ 4 := by
        rw [List.length_take]
        omega
      refine ⟨h, dx, x, d1, d2, d3, v.1, z, decide (v.1 = r.bh), ss, ws, (thL r row).take i, [], ?_, hh3, n1_, n2_, nth, rs z (List.mem_of_getElem? hzz), by omega, fun H4 f4 hh4 => ?_⟩
      · rw [show decide (v.1 = r.bh) = decide (V.str v.1 = V.str r.bh) from decide_eq_decide.mpr ⟨fun e => congrArg V.str e, fun e => V.str.inj e⟩]
        rfl
      refine ⟨⟨_, _, _, rfl⟩, fun b o e => f4 b o (ne_of_none e n1) (ne_of_none e n2) (S03 b o e), ?_⟩
      rw [List.take_add_one, hth]
      exact hh4
    · rintro σ H2 ⟨⟨u4, u5, u6, rfl⟩, S2, hh2⟩
      have tl : (thL r row).length = r.p.vars.length := by
        unfold thL
        rw [List.length_map, List.length_zip, rl, Nat.min_self]
      rw [List.length_map, pl, ← tl, List.take_length] at hh2
      have ql : qs.length = r.p.cs.length := by
        have z := k4.len
        rw [List.length_map] at z
        exact z
      have c3 := ro.c3
      refine ⟨_, rfl, a, RB, d, _, _, rfl, S2 _ _ k0, TR.cl, TR.nc, rulF_cond _ _ _ _ _, t2, rfl, ⟨_, same_seqT S2 k3_⟩, for_tup (K := K) (a := t2) (xs := qs.map V.ref) (fun i σ H' => (∃ u7 u8 u9, σ = [some (.ref x), some (.ref a), some (.ref q), some (.ref h), u4, u5, u6, u7, u8, u9]) ∧ Same H H' ∧ HsAt HC S H' h dx x d1 d2 d3 ss ws (thL r row) (addTs [] (r.p.cs.take i))) ⟨⟨_, _, _, rfl⟩, S2, hh2⟩ (fun i σ H' p => fun z => same_seqT z.2.1 k3_) ?_ ?_⟩
      · rintro i y σ H3 hy ⟨⟨u7, u8, u9, rfl⟩, S3, hh3⟩
        obtain ⟨qa, c, rfl, hc, hqa⟩ := tri_at k4 hy
        have cin := List.mem_of_getElem? hc
        obtain ⟨en1, en2⟩ := ro.en c cin
        rw [← thL_nm rl.symm] at en1 en2
        refine ⟨qa, _, rfl, same_seqT S3 hqa, rfl, _, _, rfl, _, _, rfl, _, _, rfl, rfl, ?_⟩
        dsimp only [gName, List.set_cons_succ, List.set_cons_zero]
        have al := addTs_len (l := r.p.cs.take i)
        rw [List.length_take] at al
        refine ⟨_, rfl, h, dx, _, rfl, hh3.hx, hsF_no (by decide +kernel) (by decide +kernel) (by decide +kernel) (by decide +kernel) _ _ _ _, _, rfl, _, rfl, _, rfl, h, dx, x, d1, d2, d3, c.1, c.2.1, c.2.2, ss, ws, thL r row, _, rfl, hh3, en1, en2, ro.cw c cin, by omega, fun H4 B4 hh4 => ?_⟩
        refine ⟨⟨_, _, _, rfl⟩, fun b o e => B4 b o (ne_of_none e n3) (S3 b o e), ?_⟩
        rw [List.take_add_one, hc]
        show HsAt HC S H4 h dx x d1 d2 d3 ss ws (thL r row) (addTs [] (r.p.cs.take i ++ [c]))
        rw [addTs_snoc]
        exact hh4
      · rintro σ H3 ⟨⟨u7, u8, u9, rfl⟩, S3, hh3⟩
        rw [List.length_map, ql, List.take_length] at hh3
        exact ⟨_, rfl, k h dx d1 d2 d3 H3 nh n1 n2 n3 S3 hh3⟩
theorem scLh : FnScope ["scheme", "rule", "sorts"] ["scheme", "rule", "sorts"] (defScope sLh) := ⟨rfl, rfl, rfl, by decide +kernel, rfl, by decide +kernel, by decide +kernel⟩
theorem ok_lh {f HC S RB fR CS CW CM fSr fHf fI : Addr} {fd dSr dHf dI : FuncData} (F : Fun K "least_house" "least_house" sLh f fd) (TR : TxRul K mg RB fR) (DSr : Dn K mg "sort_rows" sSrw ["scheme", "rule"] fSr dSr) (GSr : FnOk P w K mg base (L2.CX P w) 5 fSr dSr ["scheme", "rule"] (spSrw K S RB CS CW)) (DHf : Dn K mg "house_for" sHf ["scheme", "rule", "row"] fHf dHf) (GHf : FnOk P w K mg base CX0 4 fHf dHf ["scheme", "rule", "row"] (spHf K HC S RB))
    (TEM : ErrT K mg "Misfit" "name" CM fI) (bI : Binds K dI ["self", "name"] []) (GI : FnOk P w K mg base CX0 2 fI dI ["self", "name"] (spE1 CM "name" "misfit")) :
    FnOk P w K mg base (L2.CX P w) 7 f fd ["scheme", "rule", "sorts"] (spLh K HC S RB CS CW CM) := by
  refine F.okX scLh (fun vs H Q E h => ?_) (fun cdv A outer s H vs Q E hr h => ?_)
  · obtain ⟨x, a, q, ss, ws, ss', ws', r, row, rfl, _⟩ := h
    rfl
  · obtain ⟨x, a, q, ss, ws, ss', ws', r, row, rfl, hsc, hat, hq, rk, s4, s1, oks, okr, due⟩ := h
    have hr3 : Room 3 _ := hr.mono (by decide)
    have hr4 : Room 4 _ := hr.mono (by decide)
    have hr5 : Room 5 _ := hr.mono (by decide)
    refine ⟨_, (pss_cons (ps_if (pt_cmpR (op_notInD (u65 hr)) (pv 2) (pe_call GSr hr5 rfl DSr.g DSr.F.kp DSr.b .nil (passes_call (takes_of rfl rfl rfl rfl) (fun _ _ _ _ h => h)) (pa_cons (pv 0) (pa_cons (pv 1) pa_nil))) (by rfl)) (pss_one (ps_raise rfl (takes_of rfl rfl rfl rfl) (pmk_oex TEM.o TEM.iC TEM.tI GI hr3 bI .nil pass0 rfl TEM.g (pa_cons (pe_fld (pv 1) rfl) pa_nil)))) pss_nil)
      (pss_one (ps_ret (pe_call GHf hr4 rfl DHf.g DHf.F.kp DHf.b .nil pass0 (pa_cons (pv 0) (pa_cons (pv 1) (pa_cons (pv 2) pa_nil))))))), ?_⟩
    refine ⟨_, rfl, _, rfl, _, rfl, x, a, ss, ws, r, rfl, hsc, hat, rk.pt.v4, rk.pt.c3, s4, s1, ?_⟩
    unfold DueS
    unfold DueL dueL at due
    cases ho : oddS ss r.p.vars with
    | some z =>
      rw [ho] at due
      exact due
    | none =>
    rw [ho] at due
    dsimp only at due ⊢
    cases hw : oddW ws (r.p.cs ++ [r.g]) with
    | some z =>
      rw [hw] at due
      exact due
    | none =>
    rw [hw] at due
    have ru := rk.ru2 ho hw
    intro H1 S1 l qs H2 nl S2 el rows
    have dl := dp_rowsS rows
    refine ⟨rowD row, (cart (r.p.vars.map (freeS ss))).map rowD, .tup (same_seqT S2 hq) (dp_strs row), .lst (SqL.of el) dl, rowD_sh okr, rowsD_sh (fun r' hr' z hz => oks z ((ru.row hr').2 z hz)), _, rfl, ?_⟩
    have e : (((cart (r.p.vars.map (freeS ss))).map rowD).any fun z => PyData.eqv z (rowD row)) = decide (row ∈ rowsOf ss r) := by
      rw [List.any_map]
      by_cases h : row ∈ rowsOf ss r
      · rw [decide_eq_true h, List.any_eq_true]
        exact ⟨row, h, by show PyData.eqv (rowD row) (rowD row) = true; rw [rowD_eqv]; exact decide_eq_true rfl⟩
      · rw [decide_eq_false h, List.any_eq_false]
        intro y hy
        show ¬ PyData.eqv (rowD y) (rowD row) = true
        rw [rowD_eqv]
        intro z
        rw [of_decide_eq_true z] at hy
        exact h hy
    rw [e]
    by_cases h : row ∈ rowsOf ss r
    · rw [decide_eq_true h]
      rw [if_pos h] at due
      refine iteF ?_
      obtain ⟨rl, rs⟩ := ru.row h
      refine ⟨_, rfl, _, rfl, _, rfl, x, a, q, ss, ws, r, row, rfl, hsc.same S2, hat.same S2, same_seqT S2 hq, ru, ⟨fun v hv => ⟨(rk.vn v hv).1, (rk.vn v hv).2.1⟩⟩, rl, rs, fun h_ dx d1 d2 d3 H3 n0 n1 n2 n3 S3 hh => ?_⟩
      exact due H2 S2 ⟨ru, h⟩ h_ dx d1 d2 d3 H3 (S2.free n0) (S2.free n1) (S2.free n2) (S2.free n3) (S2.trans S3) hh
    · rw [decide_eq_false h]
      rw [if_neg h] at due
      obtain ⟨d, t1, t2, t3, ps, qs2, k0, _⟩ := hat
      exact iteT ⟨_, rfl, a, RB, d, _, _, rfl, S2 _ _ k0, TR.cl, TR.nn, rulF_name _ _ _ _ _, mk1 fun d H' hd S' hx => due d H' (S2.free hd) (S2.trans S') hx⟩
end
end Wm
namespace Wm
open PySem L2 StX
def flg (k : Nat) : List Bool := [decide (k = 0), decide (k = 1), decide (2 ≤ k)]
def RefAt (H : Hp) (v : V) : Option (Nat × Str) → Prop
  | none => v = .non
  | some (k, z) => ∃ t l, v = .ref t ∧ H t = some (.tup [.str "refused", .ref l, .str z]) ∧ H l = some (.lst ((flg k).map V.bl))
theorem RefAt.same {H H' : Hp} {v : V} {o : Option (Nat × Str)} (s : Same H H') (h : RefAt H v o) : RefAt H' v o := by
  cases o with
  | none => exact h
  | some p =>
    obtain ⟨t, l, e, h1, h2⟩ := h
    exact ⟨t, l, e, s _ _ h1, s _ _ h2⟩
theorem cart_iff : ∀ {fs : List (List Str)} {r : List Str}, r ∈ cart fs ↔ r.length = fs.length ∧ ∀ (i : Nat) (f : List Str) (z : Str), fs[i]? = some f → r[i]? = some z → z ∈ f
  | [], r => by
    constructor
    · intro h
      have e : r = [] := by simpa [cart] using h
      subst e
      exact ⟨rfl, fun i f z h => by simp at h⟩
    · intro h
      have e : r = [] := List.eq_nil_of_length_eq_zero h.1
      subst e
      simp [cart]
  | f :: fs, r => by
    constructor
    · intro h
      obtain ⟨e, he, h⟩ := List.mem_flatMap.mp h
      obtain ⟨q, hq, rfl⟩ := List.mem_map.mp h
      obtain ⟨a, b⟩ := cart_iff.mp hq
      refine ⟨congrArg (· + 1) a, fun i g z h1 h2 => ?_⟩
      cases i with
      | zero =>
        cases h1
        cases h2
        exact he
      | succ i => exact b i g z (by simpa using h1) (by simpa using h2)
    · rintro ⟨a, b⟩
      cases r with
      | nil => cases a
      | cons z r =>
        refine List.mem_flatMap.mpr ⟨z, b 0 f z rfl rfl, List.mem_map.mpr ⟨r, cart_iff.mpr ⟨by simpa using a, fun i g y h1 h2 => b (i + 1) g y (by simpa using h1) (by simpa using h2)⟩, rfl⟩⟩
/-- what the law asks of a row -/
theorem rows_iff {ss : List Str} {r : RlD} {row : List Str} (hv : ∀ v ∈ r.p.vars, ∀ z, v.2 = some z → z ∈ ss) : row ∈ rowsOf ss r ↔ row.length = r.p.vars.length ∧ (∀ z ∈ row, z ∈ ss) ∧ ∀ (i : Nat) (v : Var) (z : Str), r.p.vars[i]? = some v → row[i]? = some z → inF v.2 z = true := by
  unfold rowsOf
  rw [cart_iff, List.length_map]
  constructor
  · rintro ⟨a, b⟩
    have key : ∀ (i : Nat) (v : Var) (z : Str), r.p.vars[i]? = some v → row[i]? = some z → z ∈ freeS ss v := fun i v z h1 h2 => b i _ z (by rw [List.getElem?_map, h1]; rfl) h2
    refine ⟨a, fun z hz => ?_, fun i v z h1 h2 => ?_⟩
    · obtain ⟨i, hi⟩ := List.mem_iff_getElem?.mp hz
      have il := (List.getElem?_eq_some_iff.mp hi).1
      have hv1 : r.p.vars[i]? = some r.p.vars[i] := List.getElem?_eq_getElem (by omega)
      have q := key i _ z hv1 hi
      unfold freeS at q
      cases e : r.p.vars[i].2 with
      | none =>
        rw [e] at q
        exact q
      | some y =>
        rw [e] at q
        rw [List.mem_singleton.mp q]
        exact hv _ (List.mem_of_getElem? hv1) y e
    · have q := key i v z h1 h2
      unfold freeS at q
      cases e : v.2 with
      | none => exact inF_none z
      | some y =>
        rw [e] at q
        rw [inF_some]
        exact decide_eq_true (List.mem_singleton.mp q)
  · rintro ⟨a, b, c⟩
    refine ⟨a, fun i f z h1 h2 => ?_⟩
    rw [List.getElem?_map] at h1
    obtain ⟨v, hv1, rfl⟩ := Option.map_eq_some_iff.mp h1
    have q := c i v z hv1 h2
    unfold freeS
    cases e : v.2 with
    | none => exact b z (List.mem_of_getElem? h2)
    | some y =>
      rw [e, inF_some] at q
      exact List.mem_singleton.mpr (of_decide_eq_true q)
/-- the row's fit so far -/
def fitTo (vs : List Var) (row : List Str) (i : Nat) : Bool := ((vs.zip row).take i).all fun p => inF p.1.2 p.2
def good0 (ss : List Str) (r : RlD) (row : List Str) : Bool := decide (row.length = r.p.vars.length) && row.all fun z => decide (z ∈ ss)
theorem good_iff {ss : List Str} {r : RlD} {row : List Str} (hv : ∀ v ∈ r.p.vars, ∀ z, v.2 = some z → z ∈ ss) : (good0 ss r row && fitTo r.p.vars row (min r.p.vars.length row.length)) = decide (row ∈ rowsOf ss r) := by
  have tk : (r.p.vars.zip row).take (min r.p.vars.length row.length) = r.p.vars.zip row := List.take_of_length_le (by rw [List.length_zip]; exact Nat.le_refl _)
  unfold good0 fitTo
  rw [tk, Bool.eq_iff_iff, decide_eq_true_eq, rows_iff hv, Bool.and_eq_true, Bool.and_eq_true, decide_eq_true_eq, List.all_eq_true, List.all_eq_true, and_assoc]
  refine and_congr_right fun e => and_congr (forall_congr' fun z => imp_congr_right fun _ => decide_eq_true_iff) ?_
  constructor
  · intro h i v z h1 h2
    exact h (v, z) (List.mem_of_getElem? (zip_at h1 h2))
  · intro h p hp
    obtain ⟨i, hi⟩ := List.mem_iff_getElem?.mp hp
    rw [List.getElem?_zip_eq_some] at hi
    exact h i p.1 p.2 hi.1 hi.2
def spRf (K : PySem.W.Frag) : Sp := fun vs H Q _ => ∃ (ls lw t q : Addr) (ss ws : List Str) (r : RlD) (row : List Str), vs = [.ref ls, .ref lw, .ref t, .ref q] ∧ H ls = some (.lst (ss.map V.str)) ∧ H lw = some (.lst (ws.map V.str)) ∧ MRul K H t r ∧ SqT K H q (rowV row) ∧ row.length ≤ 10 ∧ r.p.vars.length ≤ 4 ∧ r.p.cs.length ≤ 3 ∧
  ∀ v H', Same H H' → RefAt H' v (dueL ss ws r row) → Q v H'
section
variable {P : Program} {w : World} {K : PySem.W.Frag} {mg : Str → Option Value} {base : Heap}
theorem scRf : FnScope ["_law_sorts", "_law_words", "_law_rule", "_law_row", "_law_name_here", "_law_sort", "_law_x", "_law_word", "_law_y", "_law_one", "_law_good", "_law_variable"] ["_law_sorts", "_law_words", "_law_rule", "_law_row"] (defScope sRf) := ⟨rfl, rfl, rfl, by decide +kernel, rfl, by decide +kernel, by decide +kernel⟩
theorem ok_rf {f : Addr} {fd : FuncData} (F : Fun K "_law_refusal" "_law_refusal" sRf f fd) (T : TxB mg) (hz : mg "zip" = none) : FnOk P w K mg base CX0 1 f fd ["_law_sorts", "_law_words", "_law_rule", "_law_row"] (spRf K) := by
  refine F.ok scRf (fun vs H Q E h => ?_) (fun cdv A outer s H vs Q E hr h => ?_)
  · obtain ⟨ls, lw, t, q, ss, ws, r, row, rfl, _⟩ := h
    rfl
  · obtain ⟨ls, lw, t, q, ss, ws, r, row, rfl, hls, hlw, hm, hq, r10, v4, c3, k⟩ := h
    refine ⟨_, (pss_cons (ps_for PassesOwn.never rfl (pi_list (pe_ix ix_tup (pv 2) pe_int (fun _ _ => rfl))) (pg_tup rfl (pgs_cons (pg_name (i := 4) scRf.nd rfl (Or.inl rfl)) (pgs_cons (pg_name (i := 5) scRf.nd rfl (Or.inl rfl)) pgs_nil))) (pss_one (ps_if (PW.pt (pw_and (pt_cmp (pc_notN (pv 5))) (pw_and1 (pt_cmpR op_notIn_seq (pv 5) (pv 0) (by rfl))))) (pss_one (ps_ret (pe_tup (pa_cons pe_str (pa_cons (pe_lst (pa_cons pe_bl (pa_cons pe_bl (pa_cons pe_bl pa_nil)))) (pa_cons (pv 5) pa_nil)))))) pss_nil)))
      (pss_cons (ps_for PassesOwn.never rfl (pi_list (pe_op op_cat (pe_ix ix_tup (pv 2) pe_int (fun _ _ => rfl)) (pe_lst (pa_cons (pe_ix ix_tup (pv 2) pe_int (fun _ _ => rfl)) pa_nil)))) (pg_tup rfl (pgs_cons (pg_name (i := 6) scRf.nd rfl (Or.inl rfl)) (pgs_cons (pg_name (i := 7) scRf.nd rfl (Or.inl rfl)) (pgs_cons (pg_name (i := 8) scRf.nd rfl (Or.inl rfl)) pgs_nil)))) (pss_one (ps_if (pt_cmpR op_notIn_seq (pv 7) (pv 1) (by rfl)) (pss_one (ps_ret (pe_tup (pa_cons pe_str (pa_cons (pe_lst (pa_cons pe_bl (pa_cons pe_bl (pa_cons pe_bl pa_nil)))) (pa_cons (pv 7) pa_nil)))))) pss_nil)))
      (pss_cons (ps_set (i := 10) scRf.nd rfl (Or.inl rfl) (pe_and (pe_cmpR op_eq (pe_callB call_len_seq (by rfl) T.len (by decide +kernel) (pa_cons (pv 3) pa_nil)) (pe_callB call_len_seq (by rfl) T.len (by decide +kernel) (pa_cons (pe_ix ix_tup (pv 2) pe_int (fun _ _ => rfl)) pa_nil)) (nomark _)) (pe_one (pe_cmpR (op_eqE (hu_of hr)) (pe_lc (own := [("_law_one", 9)]) (g := gName 9) (tt := (tTest (tOp (rIn K true) (tVar 9) (tVar 0)))) (te := (tVar 9)) rfl scRf.nd (pi_tup (pv 3)) (blkOk_by (N := ["_law_sorts", "_law_words", "_law_rule", "_law_row", "_law_name_here", "_law_sort", "_law_x", "_law_word", "_law_y", "_law_one", "_law_good", "_law_variable"]) (sc := defScope sRf) (by decide +kernel)) (fun _ _ _ _ _ => (pg_name (i := 9) scRf.nd rfl (Or.inl rfl))) (fun _ _ _ _ _ => (pts_one (pt_cmpR op_notIn_seq (pv 9) (pv 0) (by rfl)))) (fun _ _ _ _ _ => (pv 9))) (pe_lst pa_nil) (nomark _)))))
      (pss_cons (ps_for PassesOwn.never rfl (pi_zipM rfl hz (pa_cons (pe_ix ix_tup (pv 2) pe_int (fun _ _ => rfl)) (pa_cons (pv 3) pa_nil))) (pg_tup rfl (pgs_cons (pg_name (i := 11) scRf.nd rfl (Or.inl rfl)) (pgs_cons (pg_name (i := 9) scRf.nd rfl (Or.inl rfl)) pgs_nil))) (pss_one (ps_set (i := 10) scRf.nd rfl (Or.inl rfl) (pe_and (pv 10) (pe_one (pe_cmpR op_in_seq (pe_ix ix_tup (pv 11) pe_int (fun _ _ => rfl)) (pe_tup (pa_cons pe_non (pa_cons (pv 9) pa_nil))) (by rfl)))))))
      (pss_one (ps_ret (pe_ix ix_list (pe_lst (pa_cons (pe_tup (pa_cons pe_str (pa_cons (pe_lst (pa_cons pe_bl (pa_cons pe_bl (pa_cons pe_bl pa_nil)))) (pa_cons (pe_ix ix_tup (pv 2) pe_int (fun _ _ => rfl)) pa_nil)))) (pa_cons pe_non pa_nil))) (pe_callTy call_int1 (by rfl) T.int (by decide +kernel) (pa_cons (pv 10) pa_nil)) (fun _ _ => rfl)))))))), ?_⟩
    rw [show L2.start ["_law_sorts", "_law_words", "_law_rule", "_law_row", "_law_name_here", "_law_sort", "_law_x", "_law_word", "_law_y", "_law_one", "_law_good", "_law_variable"] [V.ref ls, V.ref lw, V.ref t, V.ref q] = [some (.ref ls), some (.ref lw), some (.ref t), some (.ref q), none, none, none, none, none, none, none, none] from rfl]
    obtain ⟨lv, lc, g, us, qs, q1, q2, q3, q4, q5, q6⟩ := hm
    have ul := q3.len
    have ql := q5.len
    rw [List.length_map] at ul ql
    refine ⟨_, rfl, t, _, 1, _, rfl, rfl, SqT.of q1, atI_nat (j := 1) rfl, lv, rfl, ⟨_, SqL.of q2⟩, for_list (K := K) (a := lv) (xs := us.map V.ref) (fun i σ H' => H' = H ∧ (∃ u3 u4, σ = [some (.ref ls), some (.ref lw), some (.ref t), some (.ref q), u3, u4, none, none, none, none, none, none]) ∧ ∀ v ∈ r.p.vars.take i, ∀ z, v.2 = some z → z ∈ ss) ⟨rfl, ⟨_, _, rfl⟩, fun v hv => by simp at hv⟩ (fun i σ H' _ h => by rw [h.1]; exact SqL.of q2) ?_ ?_⟩
    · rintro i v σ H1 hv ⟨rfl, ⟨u3, u4, rfl⟩, hno⟩
      obtain ⟨u, hu, rfl⟩ := map_ref_get hv
      obtain ⟨rw_, hrw, hsq⟩ := q3.get hu
      obtain ⟨vr, hvr, rfl⟩ := var_get hrw
      refine ⟨u, _, rfl, hsq, rfl, _, _, rfl, _, _, rfl, rfl, ?_⟩
      dsimp only [gName, List.set_cons_succ, List.set_cons_zero]
      rcases vr with ⟨vn, _ | z⟩
      · refine ⟨_, rfl, _, rfl, iteF (iteF ⟨rfl, ⟨_, _, rfl⟩, fun v' hv' z e => ?_⟩)⟩
        rw [List.take_add_one, hvr] at hv'
        rcases List.mem_append.mp hv' with q | q
        · exact hno v' q z e
        · rw [show v' = (vn, _) by simpa using q] at e
          cases e
      · have ho : ((vn, some z) : Var).2 = some z := rfl
        dsimp only [varV, sortV]
        refine ⟨_, rfl, _, rfl, iteT ⟨_, rfl, _, rfl, ls, _, rfl, .inl (SqL.of hls), rfl, flats ss, _, rfl, ?_⟩⟩
        rw [if_pos rfl, inV_strs]
        by_cases hz : z ∈ ss
        · rw [decide_eq_true hz]
          refine iteF ⟨rfl, ⟨_, _, rfl⟩, fun v' hv' y e => ?_⟩
          rw [List.take_add_one, hvr] at hv'
          rcases List.mem_append.mp hv' with q | q
          · exact hno v' q y e
          · rw [show v' = (vn, _) by simpa using q] at e
            cases e
            exact hz
        · rw [decide_eq_false hz]
          refine iteT ⟨by show 3 ≤ sizeLine; decide, fun l hl => ⟨_, rfl, by show 3 ≤ sizeLine; decide, fun t' ht' => ?_⟩⟩
          have T1 : Same H1 (upd H1 l (.lst [.bl true, .bl false, .bl false])) := Same.upd hl
          refine k _ _ (T1.trans (Same.upd ht')) ?_
          unfold dueL
          rw [odd_some hno hvr ho hz]
          exact ⟨t', l, rfl, upd_same, (Same.upd ht') _ _ upd_same⟩
    rintro σ H1 ⟨e, ⟨u3, u4, rfl⟩, hno⟩
    obtain rfl := e.symm
    rw [List.length_map, ul, List.take_length] at hno
    have on := odd_none hno
    refine ⟨_, rfl, t, _, 2, _, rfl, rfl, SqT.of q1, atI_nat (j := 2) rfl, _, rfl, t, _, 3, _, rfl, rfl, SqT.of q1, atI_nat (j := 3) rfl, by show 1 ≤ sizeLine; decide, fun l1 hl1 => ?_⟩
    have T1 : Same H (upd H l1 (.lst [.ref g])) := Same.upd hl1
    have e1 : (upd H l1 (.lst [.ref g])) l1 = some (.lst [.ref g]) := upd_same
    generalize upd H l1 (.lst [.ref g]) = H1 at T1 e1
    refine ⟨lc, l1, _, _, rfl, rfl, T1 _ _ q4, e1, Nat.le_trans (show _ ≤ 1000 by rw [List.length_map]; show qs.length + 1 ≤ 1000; omega) (by decide), fun L hL => ?_⟩
    rw [show qs.map V.ref ++ [V.ref g] = (qs ++ [g]).map V.ref by rw [List.map_append]; rfl]
    have T2 : Same H1 (upd H1 L (.lst ((qs ++ [g]).map V.ref))) := Same.upd hL
    have e2 : (upd H1 L (.lst ((qs ++ [g]).map V.ref))) L = some (.lst ((qs ++ [g]).map V.ref)) := upd_same
    generalize upd H1 L (.lst ((qs ++ [g]).map V.ref)) = H2 at T2 e2
    have S2 := T1.trans T2
    have rr : RowsAt K H2 (qs ++ [g]) ((r.p.cs ++ [r.g]).map triV) := by
      rw [List.map_append]
      exact RowsAt.append (q5.same S2) ⟨SqT.of (S2 _ _ q6), True.intro⟩
    have rl := rr.len
    rw [List.length_map] at rl
    refine ⟨L, rfl, ⟨_, SqL.of e2⟩, for_list (K := K) (a := L) (xs := (qs ++ [g]).map V.ref) (fun i σ H' => H' = H2 ∧ (∃ u5 u6 u7, σ = [some (.ref ls), some (.ref lw), some (.ref t), some (.ref q), u3, u4, u5, u6, u7, none, none, none]) ∧ ∀ t ∈ (r.p.cs ++ [r.g]).take i, t.2.1 ∈ ws) ⟨rfl, ⟨_, _, _, rfl⟩, fun v hv => by simp at hv⟩ (fun i σ H' _ h => by rw [h.1]; exact SqL.of e2) ?_ ?_⟩
    · rintro i v σ H3 hv ⟨e, ⟨u5, u6, u7, rfl⟩, hno2⟩
      obtain rfl := e.symm
      obtain ⟨u, hu, rfl⟩ := map_ref_get hv
      obtain ⟨rw_, hrw, hsq⟩ := rr.get hu
      obtain ⟨tr, htr, rfl⟩ := tri_get hrw
      refine ⟨u, _, rfl, hsq, rfl, _, _, rfl, _, _, rfl, _, _, rfl, rfl, ?_⟩
      dsimp only [gName, List.set_cons_succ, List.set_cons_zero]
      refine ⟨_, rfl, _, rfl, lw, _, rfl, .inl (SqL.of (S2 _ _ hlw)), rfl, flats ws, _, rfl, ?_⟩
      rw [if_pos rfl, inV_strs]
      by_cases hz : tr.2.1 ∈ ws
      · rw [decide_eq_true hz]
        refine iteF ⟨rfl, ⟨_, _, _, rfl⟩, fun t ht => ?_⟩
        rw [List.take_add_one, htr] at ht
        rcases List.mem_append.mp ht with q | q
        · exact hno2 t q
        · rw [show t = tr by simpa using q]
          exact hz
      · rw [decide_eq_false hz]
        refine iteT ⟨by show 3 ≤ sizeLine; decide, fun l hl => ⟨_, rfl, by show 3 ≤ sizeLine; decide, fun t' ht' => ?_⟩⟩
        have T3 : Same H2 (upd H2 l (.lst [.bl false, .bl true, .bl false])) := Same.upd hl
        refine k _ _ ((S2.trans T3).trans (Same.upd ht')) ?_
        unfold dueL
        rw [on]
        dsimp only
        rw [oddW_some hno2 htr hz]
        exact ⟨t', l, rfl, upd_same, (Same.upd ht') _ _ upd_same⟩
    rintro σ H3 ⟨e, ⟨u5, u6, u7, rfl⟩, hno2⟩
    obtain rfl := e.symm
    rw [List.length_map, rl, List.take_length] at hno2
    have onw := oddW_none hno2
    have hv := odd_all on
    have ed : dueL ss ws r row = if row ∈ rowsOf ss r then none else some (2, r.p.nm) := by
      unfold dueL
      rw [on]
      dsimp only
      rw [onw]
    rw [ed] at k
    have gi := good_iff (row := row) hv
    have hq2 := same_seqT S2 hq
    have t2 := S2 _ _ q1
    have v2 := S2 _ _ q2
    have rowl : (rowV row).length = row.length := List.length_map _
    dsimp only
    refine cut1 (fun σ' H' => σ' = [some (.ref ls), some (.ref lw), some (.ref t), some (.ref q), u3, u4, u5, u6, u7, none, some (.bl (good0 ss r row)), none] ∧ Same H2 H') ?_ (fun R' fin => ?_)
    · rintro σ' H3 ⟨rfl, S3⟩
      have S23 := S2.trans S3
      refine ⟨_, rfl, t, _, 1, _, rfl, rfl, SqT.of (S3 _ _ t2), atI_nat (j := 1) rfl, _, rfl, lv, q, _, _, rfl, SqL.of (S3 _ _ v2), same_seqT S3 hq2, ?_⟩
      refine for_zipN (K := K) (a := lv) (b := q) (xs := us.map V.ref) (ys := rowV row) (fun i σ H' => Same H3 H' ∧ ∃ u9 u11, σ = [some (.ref ls), some (.ref lw), some (.ref t), some (.ref q), u3, u4, u5, u6, u7, u9, some (.bl (good0 ss r row && fitTo r.p.vars row i)), u11]) ⟨Same.refl _, _, _, by rw [show fitTo r.p.vars row 0 = true from rfl, Bool.and_true]⟩ (fun i σ H' p => ⟨SqL.of (p.1 _ _ (S3 _ _ v2)), same_seqT (S3.trans p.1) hq2⟩) ?_ ?_
      · rintro i x y U σ H4 hx hy ⟨S4, u9, u11, rfl⟩ hU
        obtain ⟨u, hu, rfl⟩ := map_ref_get hx
        obtain ⟨rw_, hrw, hsq⟩ := q3.get hu
        obtain ⟨vr, hvr, rfl⟩ := var_get hrw
        obtain ⟨z, hz, rfl⟩ := map_str_get hy
        have T5 : Same H4 (upd H4 U (.tup [.ref u, .str z])) := Same.upd hU
        have e5 : (upd H4 U (.tup [.ref u, .str z])) U = some (.tup [.ref u, .str z]) := upd_same
        generalize upd H4 U (.tup [.ref u, .str z]) = H5 at T5 e5
        have S05 := S23.trans (S4.trans T5)
        have fs : fitTo r.p.vars row (i + 1) = (fitTo r.p.vars row i && inF vr.2 z) := by
          unfold fitTo
          rw [List.take_add_one, zip_at hvr hz, List.all_append]
          simp
        refine ⟨U, _, rfl, SqT.of e5, rfl, _, _, rfl, _, _, rfl, rfl, ?_⟩
        dsimp only [gName, List.set_cons_succ, List.set_cons_zero]
        refine ⟨_, rfl, _, rfl, ?_⟩
        cases hb : good0 ss r row && fitTo r.p.vars row i with
        | false =>
          refine iteF ?_
          dsimp only [gName, List.set_cons_succ, List.set_cons_zero]
          refine ⟨S4.trans T5, some (.str z), some (.ref u), ?_⟩
          rw [fs, ← Bool.and_assoc, hb, Bool.false_and]
        | true =>
          refine iteT ?_
          refine ⟨_, rfl, u, _, 1, _, rfl, rfl, same_seqT S05 hsq, atI_nat (j := 1) rfl, _, rfl, by show 2 ≤ sizeLine; decide, fun tp htp => ?_⟩
          have T6 : Same H5 (upd H5 tp (.tup [.non, .str z])) := Same.upd htp
          have e6 : (upd H5 tp (.tup [.non, .str z])) tp = some (.tup [.non, .str z]) := upd_same
          generalize upd H5 tp (.tup [.non, .str z]) = H6 at T6 e6
          refine ⟨tp, _, rfl, .inr (SqT.of e6), by cases vr.2 <;> rfl, rfl, ?_⟩
          rw [if_neg (by decide)]
          refine ⟨(S4.trans T5).trans T6, some (.str z), some (.ref u), ?_⟩
          rw [fs, ← Bool.and_assoc, hb, Bool.true_and]
          rfl
      · rintro σ H4 ⟨S4, u9, u11, rfl⟩
        rw [List.length_map, ul, rowl, gi]
        refine ⟨by show 3 ≤ sizeLine; decide, fun l hl => ?_⟩
        have T5 : Same H4 (upd H4 l (.lst [.bl false, .bl false, .bl true])) := Same.upd hl
        have e5 : (upd H4 l (.lst [.bl false, .bl false, .bl true])) l = some (.lst ((flg 2).map V.bl)) := upd_same
        generalize upd H4 l (.lst [.bl false, .bl false, .bl true]) = H5 at T5 e5
        have S05 := (S23.trans S4).trans T5
        refine ⟨_, rfl, t, _, 0, _, rfl, rfl, SqT.of (S05 _ _ q1), atI_nat (j := 0) rfl, by show 3 ≤ sizeLine; decide, fun t' ht' => ⟨by show 2 ≤ sizeLine; decide, fun l2 hl2 => ?_⟩⟩
        have T6 : Same H5 (upd H5 t' (.tup [.str "refused", .ref l, .str r.p.nm])) := Same.upd ht'
        have e6 : (upd H5 t' (.tup [.str "refused", .ref l, .str r.p.nm])) t' = some (.tup [.str "refused", .ref l, .str r.p.nm]) := upd_same
        generalize upd H5 t' (.tup [.str "refused", .ref l, .str r.p.nm]) = H6 at T6 e6 hl2
        have T7 : Same H6 (upd H6 l2 (.lst [.ref t', .non])) := Same.upd hl2
        have e7 : (upd H6 l2 (.lst [.ref t', .non])) l2 = some (.lst [.ref t', .non]) := upd_same
        generalize upd H6 l2 (.lst [.ref t', .non]) = H7 at T7 e7
        have S07 := (S05.trans T6).trans T7
        by_cases h : row ∈ rowsOf ss r
        · rw [decide_eq_true h]
          rw [if_pos h] at k
          refine ⟨_, rfl, .inr ⟨true, rfl, rdList e7 (j := 1) rfl rfl (k .non H7 S07 rfl)⟩⟩
        · rw [decide_eq_false h]
          rw [if_neg h] at k
          refine ⟨_, rfl, .inr ⟨false, rfl, rdList e7 (j := 0) rfl rfl (k (.ref t') H7 S07 ⟨t', l, rfl, T7 _ _ e6, T7 _ _ (T6 _ _ e5)⟩)⟩⟩
    · refine ⟨_, rfl, q, _, rfl, .inr hq2, _, rfl, t, _, 1, _, rfl, rfl, SqT.of t2, atI_nat (j := 1) rfl, lv, _, rfl, .inl (SqL.of v2), rfl, _, rfl, ?_⟩
      have en : (decide (V.int ((rowV row).length : Nat) = V.int ((us.map V.ref).length : Nat))) = decide (row.length = r.p.vars.length) := by
        rw [rowl, List.length_map, ul]
        exact decide_eq_decide.mpr ⟨fun e => by have := V.int.inj e; omega, fun e => by rw [e]⟩
      refine ite2 (fun h => ?_) (fun h => ?_)
      · have h1 : decide (row.length = r.p.vars.length) = true := by rw [← en]; exact h
        refine ⟨_, rfl, q, rfl, ⟨_, hq2⟩, fun M hM => ?_⟩
        refine lc_tup (K := K) (a := q) (xs := rowV row) (fun j H' => Same H2 H' ∧ ∃ acc : List V, H' M = some (.lst acc) ∧ acc.length ≤ j ∧ acc.isEmpty = (row.take j).all fun z => decide (z ∈ ss)) ⟨Same.upd hM, [], upd_same, Nat.le_refl _, rfl⟩ (fun j H' _ z => same_seqT z.1 hq2) ?_ ?_
        · rintro j v H4 hv ⟨S4, acc, h4, al, ai⟩
          obtain ⟨z, hz, rfl⟩ := map_str_get hv
          have jl := (List.getElem?_eq_some_iff.mp hz).1
          have nx : ((row.take (j + 1)).all fun z => decide (z ∈ ss)) = (((row.take j).all fun z => decide (z ∈ ss)) && decide (z ∈ ss)) := by
            rw [List.take_add_one, hz, List.all_append]
            simp
          refine ⟨rfl, _, rfl, _, rfl, ls, _, rfl, .inl (SqL.of (S4 _ _ (S2 _ _ hls))), rfl, flats ss, _, rfl, ?_⟩
          rw [if_pos rfl, inV_strs]
          by_cases hin : z ∈ ss
          · rw [decide_eq_true hin]
            refine iteF ⟨S4, acc, h4, Nat.le_succ_of_le al, ?_⟩
            rw [ai, nx, decide_eq_true hin, Bool.and_true]
          · rw [decide_eq_false hin]
            refine iteT ⟨_, rfl, _, h4, Nat.lt_of_le_of_lt (show _ ≤ 1000 by omega) (by decide), fun b o e => ?_, acc ++ [.str z], upd_same, ?_, ?_⟩
            · rw [upd_ne (ne_of_none e hM)]
              exact S4 _ _ e
            · rw [List.length_append, List.length_singleton]
              omega
            · rw [nx, decide_eq_false hin, Bool.and_false]
              cases acc <;> rfl
        rintro H4 ⟨S4, acc, h4, al, ai⟩
        rw [rowl, List.take_length] at ai
        refine ⟨Nat.zero_le _, fun l0 hl0 => ⟨M, l0, _, rfl, rfl, (Same.upd hl0) _ _ h4, upd_same, ?_⟩⟩
        refine fin _ _ ⟨?_, S4.trans (Same.upd hl0)⟩
        dsimp only [gName, List.set_cons_succ, List.set_cons_zero]
        unfold good0
        rw [ai, h1, Bool.true_and]
      · have h1 : decide (row.length = r.p.vars.length) = false := by
          rw [← en]
          exact Bool.eq_false_iff.mpr h
        refine fin _ _ ⟨?_, Same.refl _⟩
        dsimp only [gName, List.set_cons_succ, List.set_cons_zero]
        unfold good0
        rw [h1, Bool.false_and]
end
end Wm
namespace Wm
open PySem L2 StX
def rIsG (K : PySem.W.Frag) (cls : Value) (d : Option Addr) (a : Addr) : List V → Hp → VK → Prop := fun xs H Q => ∃ (D dd : Addr), cls = .ref D ∧ d = some dd ∧ ExcC K D ∧ rIsX K D a dd xs H Q
theorem call_isG {X : Cx} {a : Addr} {cls : Value} {d : Option Addr} {oe : Obj} {pn : List (Addr × Obj)} (hz : Zc cls d oe) (hf : ∃ vs, oe.data = .fields vs) : CallR (X.suite a ((a, oe) :: pn)) (.builtin "isinstance") (rIsG X.K cls d a) := by
  intro pins s σ H xs us Q I r h
  obtain ⟨D, dd, rfl, rfl, C, h⟩ := h
  exact call_isX C hz hf pins s σ H xs us Q I r h
/-- e.f of the error that is held, of whatever class -/
def tXfV (K : PySem.W.Frag) (a : Addr) (cls : Value) (d : Option Addr) (f : Str) (i : Nat) : TE := fun σ H Q => ∃ v, σ[i]? = some (some v) ∧ v = .ref a ∧ ∃ (C dd : Addr) (fs : List (Str × V)) (u : V), cls = .ref C ∧ XfC K C ∧ PySem.W.findIn K (.ref C) f = some none ∧ d = some dd ∧ H dd = some (.xd fs) ∧ fs.lookup f = some u ∧ Q u H
theorem pe_xfV {X : Cx} {a : Addr} {oe : Obj} {cls : Value} {d : Option Addr} {pn : List (Addr × Obj)} {e : Expr} {pos : Pos} {n : Str} {i : Nat} (hz : Zc cls d oe) (hf : ∃ vs, oe.data = .fields vs) (he : PE (X.suite a ((a, oe) :: pn)) e (tVar i)) (hb : attributeBase e n X.env (eval e X.env) = eval e X.env := by rfl) :
    PE (X.suite a ((a, oe) :: pn)) (.Attribute e n pos) (tXfV X.K a cls d n i) := ⟨fun pins s σ H Q I h => by
  obtain ⟨v, hv, rfl, C, dd, fs, u, rfl, T, hno, rfl, hx, hl, q⟩ := h
  exact (pe_xf T hno hz hf he hb).run pins s σ H Q I ⟨_, hv, rfl, rfl, dd, fs, u, rfl, hx, hl, q⟩⟩
structure TxE (K : PySem.W.Frag) (mg : Str → Option Value) (CS CW CM W : Addr) : Prop where
  gS : mg "NoSort" = some (.ref CS)
  gN : mg "NoWord" = some (.ref CW)
  gM : mg "Misfit" = some (.ref CM)
  gW : mg "WhoError" = some (.ref W)
  tS : PySem.W.exmOne K (.ref CS) (.ref W) = some true
  xS : XfC K CS
  nS : PySem.W.findIn K (.ref CS) "name" = some none
  cS : ExcC K CS
  tW : PySem.W.exmOne K (.ref CW) (.ref W) = some true
  xW : XfC K CW
  nW : PySem.W.findIn K (.ref CW) "name" = some none
  cW : ExcC K CW
  tM : PySem.W.exmOne K (.ref CM) (.ref W) = some true
  xM : XfC K CM
  nM : PySem.W.findIn K (.ref CM) "name" = some none
  cM : ExcC K CM
  kSS : PySem.W.kitOne K (.ref CS) (.ref CS) = some true
  kSW : PySem.W.kitOne K (.ref CS) (.ref CW) = some false
  kSM : PySem.W.kitOne K (.ref CS) (.ref CM) = some false
  kWS : PySem.W.kitOne K (.ref CW) (.ref CS) = some false
  kWW : PySem.W.kitOne K (.ref CW) (.ref CW) = some true
  kWM : PySem.W.kitOne K (.ref CW) (.ref CM) = some false
  kMS : PySem.W.kitOne K (.ref CM) (.ref CS) = some false
  kMW : PySem.W.kitOne K (.ref CM) (.ref CW) = some false
  kMM : PySem.W.kitOne K (.ref CM) (.ref CM) = some true
def spSai (K : PySem.W.Frag) (HC S RB : Addr) : Sp := fun vs H Q _ => ∃ (x a q : Addr) (ss ws ss' ws' : List Str) (r : RlD) (row : List Str), vs = [.ref x, .ref a, .ref q] ∧ SchAt S H x ss ws ∧ RlAt K RB H a r ∧ SqT K H q (rowV row) ∧ RuleOk ss' ws' r ∧ ss.length ≤ 4 ∧ 1 ≤ ss.length ∧ (∀ z ∈ ss, okS z) ∧ (∀ z ∈ row, okS z) ∧
  (dueL ss ws r row = none → RuOk ss ws r ∧ row ∈ rowsOf ss r → ∀ t h dx d1 d2 d3 H', H t = none → H h = none → H d1 = none → H d2 = none → H d3 = none → Same H H' → H' t = some (.tup [.str "told", .ref h]) → HsAt HC S H' h dx x d1 d2 d3 ss ws (thL r row) (addTs [] r.p.cs) → Q (.ref t) H') ∧
  (∀ o, dueL ss ws r row = some o → ∀ v H', Same H H' → RefAt H' v (some o) → Q v H')
def tSaB (K : PySem.W.Frag) (HC S RB CS CW CM : Addr) (W : WX) : TS := tRet (tTup (tCons (tC (.str "told")) (tCons (tCallS (spLh K HC S RB CS CW CM) (WE W) (tCons (tVar 0) (tCons (tVar 1) (tCons (tVar 2) tNil)))) tNil)))
def tSaS (K : PySem.W.Frag) (CS CW CM : Addr) : Addr → Value → Option Addr → TS := fun a cls d => tSeq (tAsg (tLst (tCons (tCB (rIsG K cls d a) (tCons (tVar 3) (tCons (tC (.ref CS)) tNil))) (tCons (tCB (rIsG K cls d a) (tCons (tVar 3) (tCons (tC (.ref CW)) tNil))) (tCons (tCB (rIsG K cls d a) (tCons (tVar 3) (tCons (tC (.ref CM)) tNil))) tNil)))) (gName 4))
  (tSeq (tIfS (tTest (tOp rNe (tBM K "list" (rCntB K) (tVar 4) (tCons (tC (.bl true)) tNil)) (tC (.int 1)))) (tRet (tTup (tCons (tC (.str "refused")) (tCons (tVar 4) (tCons (tC (.str "")) tNil))))) tNext)
  (tRet (tTup (tCons (tC (.str "refused")) (tCons (tVar 4) (tCons (tXfV K a cls d "name" 3) tNil))))))
section
variable {P : Program} {w : World} {K : PySem.W.Frag} {mg : Str → Option Value} {base : Heap}
theorem scSai : FnScope ["_law_scheme", "_law_rule", "_law_row", "e", "_law_kinds"] ["_law_scheme", "_law_rule", "_law_row"] (defScope sSai) := ⟨rfl, rfl, rfl, by decide +kernel, rfl, by decide +kernel, by decide +kernel⟩
theorem due_lt {ss ws : List Str} {r : RlD} {row : List Str} {k : Nat} {z : Str} (h : dueL ss ws r row = some (k, z)) : k = 0 ∨ k = 1 ∨ k = 2 := by
  unfold dueL at h
  split at h
  · cases h; exact .inl rfl
  · split at h
    · cases h; exact .inr (.inl rfl)
    · split at h
      · cases h
      · cases h; exact .inr (.inr rfl)
theorem ok_sai {f HC S RB CS CW CM W fLh : Addr} {fd dLh : FuncData} (F : Fun K "_law_said" "_law_said" sSai f fd) (T : TxB mg) (TE : TxE K mg CS CW CM W) (DLh : Dn K mg "least_house" sLh ["scheme", "rule", "sorts"] fLh dLh) (GLh : FnOk P w K mg base (L2.CX P w) 7 fLh dLh ["scheme", "rule", "sorts"] (spLh K HC S RB CS CW CM)) :
    FnOk P w K mg base CX0 8 f fd ["_law_scheme", "_law_rule", "_law_row"] (spSai K HC S RB) := by
  refine F.ok scSai (fun vs H Q E h => ?_) (fun cdv A outer s H vs Q E hr h => ?_)
  · obtain ⟨x, a, q, ss, ws, ss', ws', r, row, rfl, _⟩ := h
    rfl
  · obtain ⟨x, a, q, ss, ws, ss', ws', r, row, rfl, hsc, hat, hq, rk, s4, s1, so, ro, k1, k2⟩ := h
    have hr5 : Room 7 _ := hr
    refine ⟨_, (pss_one (ps_try_as (i := 3) (tb := tSaB K HC S RB CS CW CM) (ts := tSaS K CS CW CM) (Wout := fun _ _ _ _ => False) rfl rfl scSai.nd rfl rfl ⟨rfl, by decide, Or.inl TE.gW⟩ takes0
      (fun W_ pn xe tk _ => (pss_one (ps_ret (pe_tup (pa_cons pe_str (pa_cons (pe_callS GLh hr5 rfl DLh.g DLh.F.kp DLh.b (fun σ => passAt tk σ) (pa_cons (pv 0) (pa_cons (pv 1) (pa_cons (pv 2) pa_nil)))) pa_nil))))))
      (fun a oe cls d pn hz hf => (pss_cons (ps_set (i := 4) scSai.nd rfl (Or.inl rfl) (by exact (pe_lst (pa_cons (pe_callB (call_isG hz hf) (by rfl) T.isinstance (by decide +kernel) (pa_cons (pv 3) (pa_cons (pe_glob (v := .ref CS) (by rfl) TE.gS rfl) pa_nil))) (pa_cons (pe_callB (call_isG hz hf) (by rfl) T.isinstance (by decide +kernel) (pa_cons (pv 3) (pa_cons (pe_glob (v := .ref CW) (by rfl) TE.gN rfl) pa_nil))) (pa_cons (pe_callB (call_isG hz hf) (by rfl) T.isinstance (by decide +kernel) (pa_cons (pv 3) (pa_cons (pe_glob (v := .ref CM) (by rfl) TE.gM rfl) pa_nil))) pa_nil))))))
        (pss_cons (ps_if (pt_cmpR op_ne (pe_bm PySem.F.plainAttrs_list PySem.F.slot_list_count PySem.F.type_list_count mt_bcount (pv 4) (pa_cons pe_bl pa_nil)) pe_int (nomark _)) (pss_one (ps_ret (pe_tup (pa_cons pe_str (pa_cons (pv 4) (pa_cons pe_str pa_nil)))))) pss_nil)
        (pss_one (ps_ret (by exact (pe_tup (pa_cons pe_str (pa_cons (pv 4) (pa_cons (pe_xfV hz hf (pv 3)) pa_nil)))))))))))), ?_⟩
    refine ⟨_, rfl, _, rfl, _, rfl, x, a, q, ss, ws, ss', ws', r, row, rfl, hsc, hat, hq, rk, s4, s1, so, ro, ?_⟩
    unfold DueL
    cases ho : dueL ss ws r row with
    | some kz =>
      obtain ⟨kk, z⟩ := kz
      rw [ho] at k2
      rcases due_lt ho with rfl | rfl | rfl
      · intro d H1 hd S1 hx
        refine ⟨true, TE.tS, fun _ a0 _ => ?_, fun q => Bool.noConfusion q⟩
        refine ⟨_, rfl, CS, d, rfl, rfl, TE.cS, _, _, _, _, rfl, hx, (fun u r => r), TE.kSS, ?_⟩
        refine ⟨_, rfl, CS, d, rfl, rfl, TE.cS, _, _, _, _, rfl, hx, (fun u r => r), TE.kSW, ?_⟩
        refine ⟨_, rfl, CS, d, rfl, rfl, TE.cS, _, _, _, _, rfl, hx, (fun u r => r), TE.kSM, ?_⟩
        refine ⟨by show 3 ≤ sizeLine; decide, fun l hl => ?_⟩
        have T1 : Same H1 (upd H1 l (.lst [.bl true, .bl false, .bl false])) := Same.upd hl
        have e1 : (upd H1 l (.lst [.bl true, .bl false, .bl false])) l = some (.lst ([true, false, false].map V.bl)) := upd_same
        generalize upd H1 l (.lst [.bl true, .bl false, .bl false]) = H2 at T1 e1
        refine ⟨_, rfl, .inl ⟨rfl, _, SqL.of e1⟩, l, [true, false, false], rfl, rfl, SqL.of e1, rfl, _, rfl, ite2 (fun q => absurd q (by decide)) (fun _ => ?_)⟩
        refine ⟨_, rfl, _, rfl, rfl, CS, d, _, _, rfl, TE.xS, TE.nS, rfl, T1 _ _ hx, rfl, by show 3 ≤ sizeLine; decide, fun t ht => ?_⟩
        exact k2 _ rfl _ _ (S1.trans (T1.trans (Same.upd ht))) ⟨t, l, rfl, upd_same, (Same.upd ht) _ _ e1⟩
      · intro d H1 hd S1 hx
        refine ⟨true, TE.tW, fun _ a0 _ => ?_, fun q => Bool.noConfusion q⟩
        refine ⟨_, rfl, CW, d, rfl, rfl, TE.cW, _, _, _, _, rfl, hx, (fun u r => r), TE.kWS, ?_⟩
        refine ⟨_, rfl, CW, d, rfl, rfl, TE.cW, _, _, _, _, rfl, hx, (fun u r => r), TE.kWW, ?_⟩
        refine ⟨_, rfl, CW, d, rfl, rfl, TE.cW, _, _, _, _, rfl, hx, (fun u r => r), TE.kWM, ?_⟩
        refine ⟨by show 3 ≤ sizeLine; decide, fun l hl => ?_⟩
        have T1 : Same H1 (upd H1 l (.lst [.bl false, .bl true, .bl false])) := Same.upd hl
        have e1 : (upd H1 l (.lst [.bl false, .bl true, .bl false])) l = some (.lst ([false, true, false].map V.bl)) := upd_same
        generalize upd H1 l (.lst [.bl false, .bl true, .bl false]) = H2 at T1 e1
        refine ⟨_, rfl, .inl ⟨rfl, _, SqL.of e1⟩, l, [false, true, false], rfl, rfl, SqL.of e1, rfl, _, rfl, ite2 (fun q => absurd q (by decide)) (fun _ => ?_)⟩
        refine ⟨_, rfl, _, rfl, rfl, CW, d, _, _, rfl, TE.xW, TE.nW, rfl, T1 _ _ hx, rfl, by show 3 ≤ sizeLine; decide, fun t ht => ?_⟩
        exact k2 _ rfl _ _ (S1.trans (T1.trans (Same.upd ht))) ⟨t, l, rfl, upd_same, (Same.upd ht) _ _ e1⟩
      · intro d H1 hd S1 hx
        refine ⟨true, TE.tM, fun _ a0 _ => ?_, fun q => Bool.noConfusion q⟩
        refine ⟨_, rfl, CM, d, rfl, rfl, TE.cM, _, _, _, _, rfl, hx, (fun u r => r), TE.kMS, ?_⟩
        refine ⟨_, rfl, CM, d, rfl, rfl, TE.cM, _, _, _, _, rfl, hx, (fun u r => r), TE.kMW, ?_⟩
        refine ⟨_, rfl, CM, d, rfl, rfl, TE.cM, _, _, _, _, rfl, hx, (fun u r => r), TE.kMM, ?_⟩
        refine ⟨by show 3 ≤ sizeLine; decide, fun l hl => ?_⟩
        have T1 : Same H1 (upd H1 l (.lst [.bl false, .bl false, .bl true])) := Same.upd hl
        have e1 : (upd H1 l (.lst [.bl false, .bl false, .bl true])) l = some (.lst ([false, false, true].map V.bl)) := upd_same
        generalize upd H1 l (.lst [.bl false, .bl false, .bl true]) = H2 at T1 e1
        refine ⟨_, rfl, .inl ⟨rfl, _, SqL.of e1⟩, l, [false, false, true], rfl, rfl, SqL.of e1, rfl, _, rfl, ite2 (fun q => absurd q (by decide)) (fun _ => ?_)⟩
        refine ⟨_, rfl, _, rfl, rfl, CM, d, _, _, rfl, TE.xM, TE.nM, rfl, T1 _ _ hx, rfl, by show 3 ≤ sizeLine; decide, fun t ht => ?_⟩
        exact k2 _ rfl _ _ (S1.trans (T1.trans (Same.upd ht))) ⟨t, l, rfl, upd_same, (Same.upd ht) _ _ e1⟩
    | none =>
      intro H1 S1 hh h dx d1 d2 d3 H2 n0 n1 n2 n3 S2 hs
      refine ⟨by show 2 ≤ sizeLine; decide, fun t ht => ?_⟩
      have T2 : Same H2 (upd H2 t (.tup [.str "told", .ref h])) := Same.upd ht
      exact k1 ho hh t h dx d1 d2 d3 _ (S2.free ht) n0 n1 n2 n3 (S2.trans T2) upd_same (hs.same T2)
end
end Wm
namespace Wm
open PySem L2 StX
theorem rows_tris {K : PySem.W.Frag} {H : Hp} : ∀ {qs : List Addr} {ts : List T3}, RowsAt K H qs (ts.map triV) → TrisAt K H qs ts
  | [], [], _ => trivial
  | _ :: _, _ :: _, h => ⟨h.1, rows_tris h.2⟩
  | [], _ :: _, h => h.elim
  | _ :: _, [], h => h.elim
def strsD (zs : List Str) : PyData := .list (zs.map PyData.str)
theorem strsD_sh {zs : List Str} (h : ∀ z ∈ zs, okS z) : SeqAt.shaped (strsD zs) = true := by
  obtain ⟨a, b⟩ := strs_sh h
  unfold strsD
  generalize zs.map PyData.str = X at a b
  simp [SeqAt.shaped, PyData.canLay0, PyData.depth, a]
  omega
theorem strsD_dp {K : PySem.W.Frag} {H : Hp} {l : Addr} {zs : List Str} (hl : H l = some (.lst (zs.map V.str))) : Dp K H (.ref l) (strsD zs) := .lst (SqL.of hl) (dp_strs zs)
theorem find_nd {α : Type} {f : α → Str} : ∀ {l : List α} {i : Nat} {a : α}, (l.map f).Nodup → l[i]? = some a → l.find? (fun t => decide (f t = f a)) = some a
  | [], _, _, _, h => by simp at h
  | b :: l, 0, a, _, h => by
    cases h
    exact List.find?_cons_of_pos (decide_eq_true rfl)
  | b :: l, i + 1, a, nd, h => by
    have h' : l[i]? = some a := by simpa using h
    rw [List.map_cons, List.nodup_cons] at nd
    have ne : f b ≠ f a := fun e => nd.1 (e ▸ List.mem_map.mpr ⟨a, List.mem_of_getElem? h', rfl⟩)
    rw [List.find?_cons_of_neg (by simpa using ne)]
    exact find_nd nd.2 h'
theorem Full.read2 {K : PySem.W.Frag} {P : Program} {w : World} {H : Hp} {D : Addr} {us : List T3} (G : Full K P w H D us) {Q : V → Hp → Prop} (q : ∀ (qs : List Addr) (p : Addr), TrisAt K H qs (setT us) → H p = none → Q (.ref p) (upd H p (.lst (qs.map V.ref)))) : rSortKS K P w [.ref D] H Q := G.read q
/-- what stands where a house is looked at -/
structure Look (K : PySem.W.Frag) (HC S : Addr) (H : Hp) (h dx x d1 d2 d3 t q : Addr) (ss ws : List Str) (as bs cs : List Addr) (r : RlD) (row : List Str) : Prop where
  hs : HsAt HC S H h dx x d1 d2 d3 ss ws (thL r row) (addTs [] r.p.cs)
  sc : SchG S H x ss ws as bs cs
  m : MRul K H t r
  q : SqT K H q (rowV row)
theorem Look.same {K : PySem.W.Frag} {HC S : Addr} {H H' : Hp} {h dx x d1 d2 d3 t q : Addr} {ss ws : List Str} {as bs cs : List Addr} {r : RlD} {row : List Str} (s : Same H H') (L : Look K HC S H h dx x d1 d2 d3 t q ss ws as bs cs r row) : Look K HC S H' h dx x d1 d2 d3 t q ss ws as bs cs r row :=
  ⟨L.hs.same s, L.sc.same s, L.m.kp (Same.kp s), same_seqT s L.q⟩
structure Lim (ss ws : List Str) (as bs : List Addr) (r : RlD) (row : List Str) : Prop where
  rl : row.length = r.p.vars.length
  r4 : row.length ≤ 4
  c3 : r.p.cs.length ≤ 3
  nd : (r.p.vars.map (·.1)).Nodup
  vo : ∀ z ∈ r.p.vars.map (·.1), okS z
  so : ∀ z ∈ ss, okS z
  wo : ∀ z ∈ ws, okS z
  co : ∀ t ∈ r.p.cs, okT t
def spRi (K : PySem.W.Frag) (HC S : Addr) : Sp := fun vs H Q _ => ∃ (h dx x d1 d2 d3 t q : Addr) (ss ws : List Str) (as bs cs : List Addr) (r : RlD) (row : List Str), vs = [.ref h, .ref x, .ref t, .ref q] ∧ Look K HC S H h dx x d1 d2 d3 t q ss ws as bs cs r row ∧ Lim ss ws as bs r row ∧ ∀ H', Same H H' → Q (.bl true) H'
section
variable {P : Program} {w : World} {K : PySem.W.Frag} {mg : Str → Option Value} {base : Heap}
theorem scRi : FnScope ["_law_house", "_law_scheme", "_law_rule", "_law_row", "_law_name_here", "_law_sort", "_law_names_here"] ["_law_house", "_law_scheme", "_law_rule", "_law_row"] (defScope sRi) := ⟨rfl, rfl, rfl, by decide +kernel, rfl, by decide +kernel, by decide +kernel⟩
theorem ok_ri {f HC S fH fS flen fTh fHe fSc fHs fIa fSo fWo fMa fRu : Addr} {fd dlen dTh dHe dSc dHs dIa dSo dWo dMa dRu : FuncData} (F : Fun K "_law_right" "_law_right" sRi f fd) (T : TxB mg) (hz : mg "zip" = none) (tsr : mg "sorted" = none) (tset : mg "set" = none)
    (TH : TxH K mg HC fH) (TC : TxSch K mg S fS)
    (hln : PySem.W.findIn K (.ref HC) "__len__" = some (some (.ref flen))) (hlf : PySem.W.isFn K (.ref flen) = true) (bLn : Binds K dlen ["self"] []) (GLn : FnOk P w K mg base CX0 1 flen dlen ["self"] (spHln HC S))
    (mHTh : Meth K HC "things" fTh) (bHTh : Binds K dTh ["self"] []) (GHTh : FnOk P w K mg base CX0 1 fTh dTh ["self"] (spHth HC S))
    (mHHe : Meth K HC "held" fHe) (bHHe : Binds K dHe ["self"] []) (GHHe : FnOk P w K mg base CX0 1 fHe dHe ["self"] (spHhe K HC S))
    (mHSc : Meth K HC "scheme" fSc) (bHSc : Binds K dSc ["self"] []) (GHSc : FnOk P w K mg base CX0 1 fSc dSc ["self"] (spHsc HC S))
    (mHSo : Meth K HC "sort_of" fHs) (bHSo : Binds K dHs ["self", "x"] []) (GHSo : FnOk P w K mg base CX0 2 fHs dHs ["self", "x"] (spHso HC S))
    (mHIa : Meth K HC "is_awake" fIa) (bHIa : Binds K dIa ["self", "x"] []) (GHIa : FnOk P w K mg base CX0 2 fIa dIa ["self", "x"] (spHia HC S))
    (mSo : Meth K S "sorts" fSo) (bSo : Binds K dSo ["self"] []) (GSo : FnOk P w K mg base CX0 1 fSo dSo ["self"] (spSor S))
    (mWo : Meth K S "words" fWo) (bWo : Binds K dWo ["self"] []) (GWo : FnOk P w K mg base CX0 1 fWo dWo ["self"] (spWor S))
    (mSMk : Meth K S "makings" fMa) (bSMk : Binds K dMa ["self"] []) (GSMk : FnOk P w K mg base CX0 1 fMa dMa ["self"] (spSMk S))
    (mSRu : Meth K S "rules" fRu) (bSRu : Binds K dRu ["self"] []) (GSRu : FnOk P w K mg base CX0 1 fRu dRu ["self"] (spSRu S)) :
    FnOk P w K mg base CX0 3 f fd ["_law_house", "_law_scheme", "_law_rule", "_law_row"] (spRi K HC S) := by
  refine F.ok scRi (fun vs H Q E h => ?_) (fun cdv A outer s H vs Q E hr h => ?_)
  · obtain ⟨h, dx, x, d1, d2, d3, t, q, ss, ws, as, bs, cs, r, row, rfl, _⟩ := h
    rfl
  · obtain ⟨h, dx, x, d1, d2, d3, t, q, ss, ws, as, bs, cs, r, row, rfl, LK, LM, k⟩ := h
    have hr1 : Room 1 _ := hr.mono (by decide)
    have hr2 : Room 2 _ := hr.mono (by decide)
    refine ⟨_, (pss_cons (ps_setLc (i := 6) (own := [("_law_name_here", 4), ("_law_sort", 5)]) (g := gTup K 2 (gCons (gName 4) (gCons (gName 5) gNil))) (tt := tYes) (te := (tVar 4)) rfl scRi.nd rfl rfl (sw_true rfl rfl rfl (by decide +kernel)) (pi_list (pe_ix ix_tup (pv 2) pe_int (fun _ _ => rfl))) (blkOk_by (N := ["_law_house", "_law_scheme", "_law_rule", "_law_row", "_law_name_here", "_law_sort", "_law_names_here"]) (sc := defScope sRi) (by decide +kernel)) (fun _ _ _ _ _ => (pg_tup rfl (pgs_cons (pg_name (i := 4) scRi.nd rfl (Or.inl rfl)) (pgs_cons (pg_name (i := 5) scRi.nd rfl (Or.inl rfl)) pgs_nil)))) (fun _ _ _ _ _ => pts_nil) (fun _ _ _ _ _ => (pv 4)))
      (pss_cons (ps_if (PW.pt (pw_or (pt_cmpR (op_neD hr.units) (pe_meth0 (pv 0) TH.cl mHTh GHTh hr1 bHTh .nil pass0) (pv 6) (nomark _)) (pw_or (pt_cmpR op_ne (pe_callB (call_lenO hln hlf GLn hr2 bLn) (by rfl) T.len (by decide +kernel) (pa_cons (pv 0) pa_nil)) (pe_callB call_len_seq (by rfl) T.len (by decide +kernel) (pa_cons (pv 6) pa_nil)) (nomark _)) (pw_or1 (pt_cmpR (op_neD hr.units) (pe_meth0 (pv 0) TH.cl mHHe GHHe hr1 bHHe .nil pass0) (pe_callB (cr_sortKS rfl hr.units) (by rfl) tsr (by decide +kernel) (pa_cons (pe_callTy (cr_setK rfl hr.units) (by rfl) tset (by decide +kernel) (pa_cons (pe_ix ix_tup (pv 2) pe_int (fun _ _ => rfl)) pa_nil)) pa_nil)) (nomark _)))))) (pss_one (ps_ret pe_bl)) pss_nil)
      (pss_cons (ps_if (PW.pt (pw_or (pt_cmpR (op_neD hr.units) (pe_meth0 (pe_meth0 (pv 0) TH.cl mHSc GHSc hr1 bHSc .nil pass0) TC.cl mSo GSo hr1 bSo .nil pass0) (pe_meth0 (pv 1) TC.cl mSo GSo hr1 bSo .nil pass0) (nomark _)) (pw_or1 (pt_cmpR (op_neS (u0 hr)) (pe_meth0 (pe_meth0 (pv 0) TH.cl mHSc GHSc hr1 bHSc .nil pass0) TC.cl mSMk GSMk hr1 bSMk .nil pass0) (pe_meth0 (pv 1) TC.cl mSMk GSMk hr1 bSMk .nil pass0) (nomark _))))) (pss_one (ps_ret pe_bl)) pss_nil)
      (pss_cons (ps_if (PW.pt (pw_or (pt_cmpR (op_neD hr.units) (pe_meth0 (pe_meth0 (pv 0) TH.cl mHSc GHSc hr1 bHSc .nil pass0) TC.cl mWo GWo hr1 bWo .nil pass0) (pe_meth0 (pv 1) TC.cl mWo GWo hr1 bWo .nil pass0) (nomark _)) (pw_or1 (pt_cmpR (op_neS (u0 hr)) (pe_meth0 (pe_meth0 (pv 0) TH.cl mHSc GHSc hr1 bHSc .nil pass0) TC.cl mSRu GSRu hr1 bSRu .nil pass0) (pe_meth0 (pv 1) TC.cl mSRu GSRu hr1 bSRu .nil pass0) (nomark _))))) (pss_one (ps_ret pe_bl)) pss_nil)
      (pss_cons (ps_for PassesOwn.never rfl (pi_zipM rfl hz (pa_cons (pv 6) (pa_cons (pv 3) pa_nil))) (pg_tup rfl (pgs_cons (pg_name (i := 4) scRi.nd rfl (Or.inl rfl)) (pgs_cons (pg_name (i := 5) scRi.nd rfl (Or.inl rfl)) pgs_nil))) (pss_one (ps_if (PW.pt (pw_or (pt_cmpR op_ne (pe_meth (pv 0) TH.cl mHSo GHSo hr2 bHSo .nil pass0 (pa_cons (pv 4) pa_nil)) (pv 5) (nomark _)) (pw_or1 (pt_cmpR op_ne (pe_meth (pv 0) TH.cl mHIa GHIa hr2 bHIa .nil pass0 (pa_cons (pv 4) pa_nil)) (pe_cmpR op_eq (pv 4) (pe_ix ix_tup (pv 2) pe_int (fun _ _ => rfl)) (nomark _)) (nomark _))))) (pss_one (ps_ret pe_bl)) pss_nil)))
      (pss_one (ps_ret pe_bl))))))), ?_⟩
    rw [show L2.start ["_law_house", "_law_scheme", "_law_rule", "_law_row", "_law_name_here", "_law_sort", "_law_names_here"] [V.ref h, V.ref x, V.ref t, V.ref q] = [some (.ref h), some (.ref x), some (.ref t), some (.ref q), none, none, none] from rfl]
    obtain ⟨lv, lc, g, us, qs, q1, q2, q3, q4, q5, q6⟩ := LK.m
    have ul := q3.len
    have ql := q5.len
    rw [List.length_map] at ul ql
    refine ⟨_, rfl, t, _, 1, _, rfl, rfl, SqT.of q1, atI_nat (j := 1) rfl, lv, rfl, ⟨_, SqL.of q2⟩, fun M hM => ?_⟩
    refine lc_list (K := K) (a := lv) (xs := us.map V.ref) (fun j H' => Same H H' ∧ H' M = some (.lst (((r.p.vars.map (·.1)).take j).map V.str))) ⟨Same.upd hM, upd_same⟩ (fun j H' _ z => SqL.of (z.1 _ _ q2)) ?_ ?_
    · rintro j v0 H1 hv0 ⟨S1, e1⟩
      obtain ⟨qa, v, rfl, hv, hqa⟩ := row_at q3 hv0
      have hqa1 := same_seqT S1 hqa
      have jl := (List.getElem?_eq_some_iff.mp hv).1
      have tk : ((r.p.vars.map (·.1)).take (j + 1)).map V.str = ((r.p.vars.map (·.1)).take j).map V.str ++ [.str v.1] := by
        rw [List.take_add_one, List.getElem?_map, hv, List.map_append]
        rfl
      refine ⟨qa, _, rfl, hqa1, rfl, _, _, rfl, _, _, rfl, rfl, rfl, _, rfl, ?_⟩
      refine ⟨_, e1, ?_, fun b o e => ?_, by rw [upd_same, tk]⟩
      · rw [List.length_map, List.length_take]
        exact Nat.lt_of_le_of_lt (show _ ≤ 1000 by have := LM.rl; have := LM.r4; omega) (by decide)
      · rw [upd_ne (ne_of_none e hM)]
        exact S1 _ _ e
    · rintro H1 ⟨S1, e1⟩
      rw [List.length_map, ul, List.take_of_length_le (by rw [List.length_map]; exact Nat.le_refl _)] at e1
      dsimp only [gName, List.set_cons_succ, List.set_cons_zero]
      have nmE : nmL (thL r row) = r.p.vars.map (·.1) := thL_nm LM.rl.symm
      have ndT : (nmL (thL r row)).Nodup := by rw [nmE]; exact LM.nd
      have hh1 := LK.hs.same S1
      have shN := strsD_sh LM.vo
      -- things()
      refine ⟨_, rfl, h, dx, _, rfl, hh1.hx, rfl, h, dx, x, d1, d2, d3, ss, ws, _, _, rfl, hh1, fun l2 hl2 => ?_⟩
      have T2 : Same H1 (upd H1 l2 (.lst ((nmL (thL r row)).map V.str))) := Same.upd hl2
      have e2 : (upd H1 l2 (.lst ((nmL (thL r row)).map V.str))) l2 = some (.lst ((r.p.vars.map (·.1)).map V.str)) := by rw [upd_same, nmE]
      generalize upd H1 l2 (.lst ((nmL (thL r row)).map V.str)) = H2 at T2 e2
      refine ⟨_, rfl, _, _, strsD_dp e2, strsD_dp (T2 _ _ e1), shN, shN, _, rfl, ?_⟩
      rw [eqv_self shN]
      -- len
      have hh2 := hh1.same T2
      have tl : (thL r row).length = r.p.vars.length := by
        have z := congrArg List.length nmE
        unfold nmL at z
        rw [List.length_map, List.length_map] at z
        exact z
      refine iteF ⟨_, rfl, h, dx, _, rfl, hh2.hx, h, dx, x, d1, d2, d3, ss, ws, _, _, rfl, hh2, _, rfl, by rw [tl]; have := LM.rl; have := LM.r4; omega, _, rfl, M, _, rfl, .inl (SqL.of (T2 _ _ e1)), rfl, _, rfl, ?_⟩
      have len0 : (!decide (V.int ((thL r row).length : Nat) = V.int (((r.p.vars.map (·.1)).map V.str).length : Nat))) = false := by
        rw [List.length_map, List.length_map, tl]
        simp
      rw [len0]
      -- held()
      refine iteF ⟨_, rfl, h, dx, _, rfl, hh2.hx, rfl, h, dx, x, d1, d2, d3, ss, ws, _, _, rfl, hh2, fun qs1 l3 tq1 hl3 => ?_⟩
      have T3 : Same H2 (upd H2 l3 (.lst (qs1.map V.ref))) := Same.upd hl3
      have e3 : (upd H2 l3 (.lst (qs1.map V.ref))) l3 = some (.lst (qs1.map V.ref)) := upd_same
      have tq1' := tq1.same fun z => same_seqT T3 z
      generalize upd H2 l3 (.lst (qs1.map V.ref)) = H3 at T3 e3 tq1'
      have S03 := (S1.trans T2).trans T3
      refine ⟨_, rfl, t, _, 2, _, rfl, rfl, SqT.of (S03 _ _ q1), atI_nat (j := 2) rfl, ?_⟩
      dsimp only [tNil]
      change rSetK K P w [V.ref lc] H3 _
      refine set_of_tris (S03 _ _ q4) ((rows_tris q5).same fun z => same_seqT S03 z) (by have := LM.c3; omega) fun D o hD G => ?_
      have T4 : Same H3 (upd H3 D o) := Same.upd hD
      generalize upd H3 D o = H4 at T4 G
      refine G.read2 fun qs2 l5 tq2 hl5 => ?_
      have T5 : Same H4 (upd H4 l5 (.lst (qs2.map V.ref))) := Same.upd hl5
      have e5 : (upd H4 l5 (.lst (qs2.map V.ref))) l5 = some (.lst (qs2.map V.ref)) := upd_same
      have tq2' := tq2.same fun z => same_seqT T5 z
      generalize upd H4 l5 (.lst (qs2.map V.ref)) = H5 at T5 e5 tq2'
      have T35 := T4.trans T5
      have okC : ∀ u ∈ setT r.p.cs, okT u := fun u hu => LM.co u (setT_mem.mp hu)
      have shC := trisD_sh okC
      rw [show sortT (addTs [] r.p.cs) = setT r.p.cs from setT_of (addTs_nd List.nodup_nil) fun u => addTs_mem.trans ⟨fun z => z.elim (fun z => absurd z List.not_mem_nil) id, .inr⟩] at tq1'
      refine ⟨_, _, trisD_dp (T35 _ _ e3) (tq1'.same fun z => same_seqT T35 z), trisD_dp e5 tq2', shC, shC, _, rfl, ?_⟩
      rw [eqv_self shC]
      have S05 := S03.trans T35
      have e5M := T35 _ _ (T3 _ _ (T2 _ _ e1))
      clear tq1' tq2' G e3 e5 hh2 hh1 T35 T4 T5 T3 T2 len0
      refine iteF ?_
      have hh5 := LK.hs.same S05
      obtain ⟨sdx, m1, m2, m3, m4, m5, g0, g1, g2, g3, g4, g5⟩ := LK.sc.same S05
      refine ⟨_, rfl, h, dx, _, rfl, hh5.hx, rfl, h, dx, x, d1, d2, d3, ss, ws, _, _, rfl, hh5, x, sdx, _, rfl, g0, rfl, x, ss, ws, rfl, hh5.hs, fun u5 n5 => ?_⟩
      have T5 : Same H5 (upd H5 u5 (.lst (ss.map V.str))) := Same.upd n5
      have f5 : (upd H5 u5 (.lst (ss.map V.str))) u5 = some (.lst (ss.map V.str)) := upd_same
      generalize upd H5 u5 (.lst (ss.map V.str)) = H6 at T5 f5
      have hh6 := hh5.same T5
      refine ⟨_, rfl, x, sdx, _, rfl, T5 _ _ g0, rfl, x, ss, ws, rfl, hh6.hs, fun u6 n6 => ?_⟩
      have T6 : Same H6 (upd H6 u6 (.lst (ss.map V.str))) := Same.upd n6
      have f6 : (upd H6 u6 (.lst (ss.map V.str))) u6 = some (.lst (ss.map V.str)) := upd_same
      generalize upd H6 u6 (.lst (ss.map V.str)) = H7 at T6 f6
      have S07 := (S05.trans T5).trans T6
      have e7M := T6 _ _ (T5 _ _ e5M)
      have sh5 := strsD_sh LM.so
      refine ⟨_, _, strsD_dp (T6 _ _ f5), strsD_dp f6, sh5, sh5, _, rfl, ?_⟩
      rw [eqv_self sh5]
      refine iteF ?_
      clear T5 T6 f5 f6 hh6
      have hh7 := LK.hs.same S07
      obtain ⟨sdx, m1, m2, m3, m4, m5, g0, g1, g2, g3, g4, g5⟩ := LK.sc.same S07
      refine ⟨_, rfl, h, dx, _, rfl, hh7.hx, rfl, h, dx, x, d1, d2, d3, ss, ws, _, _, rfl, hh7, x, sdx, _, rfl, g0, rfl, x, ss, ws, as, bs, cs, rfl, LK.sc.same S07, fun u7 n7 => ?_⟩
      have T7 : Same H7 (upd H7 u7 (.lst (as.map V.ref))) := Same.upd n7
      have f7 : (upd H7 u7 (.lst (as.map V.ref))) u7 = some (.lst (as.map V.ref)) := upd_same
      generalize upd H7 u7 (.lst (as.map V.ref)) = H8 at T7 f7
      have hh8 := hh7.same T7
      refine ⟨_, rfl, x, sdx, _, rfl, T7 _ _ g0, rfl, x, ss, ws, as, bs, cs, rfl, LK.sc.same (S07.trans T7), fun u8 n8 => ?_⟩
      have T8 : Same H8 (upd H8 u8 (.lst (as.map V.ref))) := Same.upd n8
      have f8 : (upd H8 u8 (.lst (as.map V.ref))) u8 = some (.lst (as.map V.ref)) := upd_same
      generalize upd H8 u8 (.lst (as.map V.ref)) = H9 at T8 f8
      have S09 := (S07.trans T7).trans T8
      have e9M := T8 _ _ (T7 _ _ e7M)
      refine ⟨_, _, _, rfl, rfl, T8 _ _ f7, f8, _, rfl, iteF ?_⟩
      have hh9 := LK.hs.same S09
      obtain ⟨sdx, m1, m2, m3, m4, m5, g0, g1, g2, g3, g4, g5⟩ := LK.sc.same S09
      refine ⟨_, rfl, h, dx, _, rfl, hh9.hx, rfl, h, dx, x, d1, d2, d3, ss, ws, _, _, rfl, hh9, x, sdx, _, rfl, g0, rfl, x, ss, ws, rfl, hh9.hs, fun u9 n9 => ?_⟩
      have T9 : Same H9 (upd H9 u9 (.lst (ws.map V.str))) := Same.upd n9
      have f9 : (upd H9 u9 (.lst (ws.map V.str))) u9 = some (.lst (ws.map V.str)) := upd_same
      generalize upd H9 u9 (.lst (ws.map V.str)) = H10 at T9 f9
      have hh10 := hh9.same T9
      refine ⟨_, rfl, x, sdx, _, rfl, T9 _ _ g0, rfl, x, ss, ws, rfl, hh10.hs, fun u10 n10 => ?_⟩
      have T10 : Same H10 (upd H10 u10 (.lst (ws.map V.str))) := Same.upd n10
      have f10 : (upd H10 u10 (.lst (ws.map V.str))) u10 = some (.lst (ws.map V.str)) := upd_same
      generalize upd H10 u10 (.lst (ws.map V.str)) = H11 at T10 f10
      have S011 := (S09.trans T9).trans T10
      have e11M := T10 _ _ (T9 _ _ e9M)
      have sh9 := strsD_sh LM.wo
      refine ⟨_, _, strsD_dp (T10 _ _ f9), strsD_dp f10, sh9, sh9, _, rfl, ?_⟩
      rw [eqv_self sh9]
      refine iteF ?_
      have hh11 := LK.hs.same S011
      obtain ⟨sdx, m1, m2, m3, m4, m5, g0, g1, g2, g3, g4, g5⟩ := LK.sc.same S011
      refine ⟨_, rfl, h, dx, _, rfl, hh11.hx, rfl, h, dx, x, d1, d2, d3, ss, ws, _, _, rfl, hh11, x, sdx, _, rfl, g0, rfl, x, ss, ws, as, bs, cs, rfl, LK.sc.same S011, fun u11 n11 => ?_⟩
      have T11 : Same H11 (upd H11 u11 (.lst (bs.map V.ref))) := Same.upd n11
      have f11 : (upd H11 u11 (.lst (bs.map V.ref))) u11 = some (.lst (bs.map V.ref)) := upd_same
      generalize upd H11 u11 (.lst (bs.map V.ref)) = H12 at T11 f11
      have hh12 := hh11.same T11
      refine ⟨_, rfl, x, sdx, _, rfl, T11 _ _ g0, rfl, x, ss, ws, as, bs, cs, rfl, LK.sc.same (S011.trans T11), fun u12 n12 => ?_⟩
      have T12 : Same H12 (upd H12 u12 (.lst (bs.map V.ref))) := Same.upd n12
      have f12 : (upd H12 u12 (.lst (bs.map V.ref))) u12 = some (.lst (bs.map V.ref)) := upd_same
      generalize upd H12 u12 (.lst (bs.map V.ref)) = H13 at T12 f12
      have S013 := (S011.trans T11).trans T12
      have e13M := T12 _ _ (T11 _ _ e11M)
      refine ⟨_, _, _, rfl, rfl, T12 _ _ f11, f12, _, rfl, iteF ?_⟩
      have hh13 := LK.hs.same S013
      have rowl : (rowV row).length = row.length := List.length_map _
      have len2 : ((r.p.vars.map (·.1)).map V.str).length = (rowV row).length := by rw [List.length_map, List.length_map, rowl, LM.rl]
      refine ⟨_, rfl, _, rfl, M, q, _, _, rfl, SqL.of e13M, same_seqT S013 LK.q, ?_⟩
      refine for_zipM len2 (fun i σ H' => (∃ u4 u5, σ = [some (.ref h), some (.ref x), some (.ref t), some (.ref q), u4, u5, some (.ref M)]) ∧ Same H13 H') ⟨⟨_, _, rfl⟩, fun _ _ e => e⟩ (fun i σ H' p => ⟨SqL.of (p.2 _ _ e13M), same_seqT (S013.trans p.2) LK.q⟩) ?_ ?_
      · rintro i x0 y0 U σ H14 hx0 hy0 ⟨⟨u4, u5, rfl⟩, S14⟩ hU
        obtain ⟨n, rfl, hn⟩ := strz_at hx0
        obtain ⟨z, rfl, hzz⟩ := strz_at hy0
        rw [List.getElem?_map] at hn
        obtain ⟨v, hv, rfl⟩ := Option.map_eq_some_iff.mp hn
        have T15 : Same H14 (upd H14 U (.tup [.str v.1, .str z])) := Same.upd hU
        have eU : (upd H14 U (.tup [.str v.1, .str z])) U = some (.tup [.str v.1, .str z]) := upd_same
        generalize upd H14 U (.tup [.str v.1, .str z]) = H15 at T15 eU
        have S15 := S14.trans T15
        have hh15 := hh13.same S15
        have hth : (thL r row)[i]? = some (v.1, z, decide (v.1 = r.bh)) := by
          unfold thL
          rw [List.getElem?_map, zip_at hv hzz]
          rfl
        have fd0 := find_nd (f := fun t : Thing => t.1) ndT hth
        have mem : v.1 ∈ nmL (thL r row) := List.mem_map.mpr ⟨_, List.mem_of_getElem? hth, rfl⟩
        have hs1 : srt (thL r row) v.1 = some z := by
          unfold srt
          rw [fd0]
          rfl
        have ha1 : awk (thL r row) v.1 = some (decide (v.1 = r.bh)) := by
          unfold awk
          rw [fd0]
          rfl
        refine ⟨U, _, rfl, SqT.of eU, rfl, _, _, rfl, _, _, rfl, rfl, ?_⟩
        dsimp only [gName, List.set_cons_succ, List.set_cons_zero]
        refine ⟨_, rfl, h, dx, _, rfl, hh15.hx, rfl, _, rfl, h, dx, x, d1, d2, d3, v.1, z, ss, ws, _, _, rfl, hh15, hs1, _, rfl, rfl, _, rfl, ?_⟩
        have de : (!decide (V.str z = V.str z)) = false := by simp
        rw [de]
        refine iteF ⟨_, rfl, h, dx, _, rfl, hh15.hx, rfl, _, rfl, h, dx, x, d1, d2, d3, v.1, _, ss, ws, _, _, rfl, hh15, mem, ha1, _, rfl, _, rfl, t, _, 4, _, rfl, rfl, SqT.of (S15 _ _ (S013 _ _ q1)), atI_nat (j := 4) rfl, rfl, rfl, _, rfl, ?_⟩
        have de2 : (!decide (V.bl (decide (v.1 = r.bh)) = V.bl (decide (V.str v.1 = V.str r.bh)))) = false := by
          by_cases e : v.1 = r.bh
          · simp [e]
          · simp [e]
        rw [de2]
        exact iteF ⟨⟨_, _, rfl⟩, S15⟩
      · rintro σ H14 ⟨⟨u4, u5, rfl⟩, S14⟩
        exact k _ (S013.trans S14)
end
end Wm
namespace Wm
open PySem L2 StX
def spRo (K : PySem.W.Frag) : Sp := fun vs H Q _ => ∃ (p t ls : Addr) (st : Str) (k : Nat) (ss : List Str) (r : RlD), vs = [.ref p, .ref t, .ref ls, .str st] ∧ StN k H p ∧ k ≤ 700000 ∧ MRul K H t r ∧ H ls = some (.lst (ss.map V.str)) ∧ 1 ≤ ss.length ∧ ss.length ≤ 60 ∧ 1 ≤ r.p.vars.length ∧ r.p.vars.length ≤ 4 ∧
  (∀ z ∈ ss, okS z) ∧ okS st ∧ (∀ v ∈ r.p.vars, ∀ z, v.2 = some z → okS z) ∧ ∀ (q : Addr) (row : List Str) (H' : Hp), row.length ≤ 5 → (∀ z ∈ row, okS z) → H' q = some (.tup (rowV row)) → But p H H' → StN (k + 20) H' p → Q (.ref q) H'
theorem ix_nat {n j : Nat} (hj : j < n) : ixN n (j : Int) = some j := by
  unfold ixN
  rw [if_pos (by omega), if_pos (by omega)]
  simp
theorem set_map {i : Nat} {z : Str} {row : List Str} : (row.set i z).map V.str = (row.map V.str).set i (.str z) := List.map_set
section
variable {P : Program} {w : World} {K : PySem.W.Frag} {mg : Str → Option Value} {base : Heap}
theorem scRo : FnScope ["_law_well_here", "_law_rule", "_law_sorts", "_law_strange", "_law_spoil", "_law_row", "_law_name_here", "_law_sort", "_law_at"] ["_law_well_here", "_law_rule", "_law_sorts", "_law_strange"] (defScope sRo) := ⟨rfl, rfl, rfl, by decide +kernel, rfl, by decide +kernel, by decide +kernel⟩
theorem ok_ro {f fG fP : Addr} {fd dG dP : FuncData} (F : Fun K "_law_some_row" "_law_some_row" sRo f fd) (T : TxB mg) (DG : Dn K mg "_law_draw" sDrw ["_law_well_here", "_law_many"] fG dG) (DPk : Dn K mg "_law_pick" sPck ["_law_well_here", "_law_some"] fP dP) : FnOk P w K mg base CX0 3 f fd ["_law_well_here", "_law_rule", "_law_sorts", "_law_strange"] (spRo K) := by
  have GG : FnOk P w K mg base CX0 1 fG dG _ spDrw := ok_drw DG.F
  have GPk : FnOk P w K mg base CX0 2 fP dP _ spPkL := ok_pkl DPk.F T DG
  refine F.ok scRo (fun vs H Q E h => ?_) (fun cdv A outer s H vs Q E hr h => ?_)
  · obtain ⟨p, t, ls, st, k, ss, r, rfl, _⟩ := h
    rfl
  · obtain ⟨p, t, ls, st, k, ss, r, rfl, hS, kl, hm, hls, s1, s2, v1, v4, so, sto, vo, q⟩ := h
    have hr1 : Room 1 _ := hr.mono (by decide)
    have hr2 : Room 2 _ := hr.mono (by decide)
    refine ⟨_, (pss_cons (ps_set (i := 4) scRo.nd rfl (Or.inl rfl) (pe_call GG hr1 rfl DG.g DG.F.kp DG.b .nil pass0 (pa_cons (pv 0) (pa_cons pe_int pa_nil))))
      (pss_cons (ps_set (i := 5) scRo.nd rfl (Or.inl rfl) (pe_lst pa_nil))
      (pss_cons (ps_for PassesOwn.never rfl (pi_list (pe_ix ix_tup (pv 1) pe_int (fun _ _ => rfl))) (pg_tup rfl (pgs_cons (pg_name (i := 6) scRo.nd rfl (Or.inl rfl)) (pgs_cons (pg_name (i := 7) scRo.nd rfl (Or.inl rfl)) pgs_nil))) (pss_one (ps_expr (pe_bm PySem.F.plainAttrs_list PySem.F.slot_list_append PySem.F.type_list_append mt_append (pv 5) (pa_cons (pe_ix ix_list (pe_lst (pa_cons (pv 7) (pa_cons (pe_call GPk hr2 rfl DPk.g DPk.F.kp DPk.b .nil pass0 (pa_cons (pv 0) (pa_cons (pv 2) pa_nil))) pa_nil))) (pe_callTy call_int1 (by rfl) T.int (by decide +kernel) (pa_cons (pe_cmp (pc_isN (pv 7)) rfl) pa_nil)) (fun _ _ => rfl)) pa_nil)))))
      (pss_cons (ps_set (i := 8) scRo.nd rfl (Or.inl rfl) (pe_call GG hr1 rfl DG.g DG.F.kp DG.b .nil pass0 (pa_cons (pv 0) (pa_cons (pe_callB call_len_seq (by rfl) T.len (by decide +kernel) (pa_cons (pv 5) pa_nil)) pa_nil))))
      (pss_cons (ps_if (pt_cmpR op_eq (pv 4) pe_int (nomark _)) (pss_one (ps_ret (pe_callTy call_tupN (by rfl) T.tuple (by decide +kernel) (pa_cons (pe_op op_cat (pe_slice sl_list (pv 5) po_none (po_some (pv 8))) (pe_slice sl_list (pv 5) (po_some (pe_op op_add (pv 8) pe_int)) po_none)) pa_nil)))) pss_nil)
      (pss_cons (ps_if (pt_cmpR op_eq (pv 4) pe_int (nomark _)) (pss_one (ps_expr (pe_bm PySem.F.plainAttrs_list PySem.F.slot_list_insert PySem.F.type_list_insert mt_insert (pv 5) (pa_cons (pv 8) (pa_cons (pe_call GPk hr2 rfl DPk.g DPk.F.kp DPk.b .nil pass0 (pa_cons (pv 0) (pa_cons (pv 2) pa_nil))) pa_nil))))) (pss_one (ps_if (pt_cmpR op_eq (pv 4) pe_int (nomark _)) (pss_one (ps_asg (pe_call GPk hr2 rfl DPk.g DPk.F.kp DPk.b .nil pass0 (pa_cons (pv 0) (pa_cons (pe_op op_cat (pv 2) (pe_lst (pa_cons (pv 3) pa_nil))) pa_nil))) (pg_sub (pv 5) (pv 8) set_list))) pss_nil)))
      (pss_one (ps_ret (pe_callTy call_tupN (by rfl) T.tuple (by decide +kernel) (pa_cons (pv 5) pa_nil)))))))))), ?_⟩
    rw [show L2.start ["_law_well_here", "_law_rule", "_law_sorts", "_law_strange", "_law_spoil", "_law_row", "_law_name_here", "_law_sort", "_law_at"] [V.ref p, V.ref t, V.ref ls, V.str st] = [some (.ref p), some (.ref t), some (.ref ls), some (.str st), none, none, none, none, none] from rfl]
    refine ⟨_, rfl, p, 9, k, rfl, hS, by omega, by decide, by decide, fun sp H1 sp0 sp9 B1 S1 => ?_⟩
    dsimp only [gName, List.set_cons_succ, List.set_cons_zero]
    have hm1 := hm.kp (B1.kp hS.ok)
    have nsp := st_strs hS hls
    have hls1 := B1 _ _ nsp hls
    refine ⟨Nat.zero_le _, fun R hR => ?_⟩
    dsimp only [gName, List.set_cons_succ, List.set_cons_zero]
    have nRp := st_free S1.ok hR
    obtain ⟨lv, lc, g, us, qs, q1, q2, q3, q4, q5, q6⟩ := hm1
    have ul := q3.len
    rw [List.length_map] at ul
    have T1 : Same H1 (upd H1 R (.lst [])) := Same.upd hR
    refine ⟨_, rfl, t, _, 1, _, rfl, rfl, SqT.of (T1 _ _ q1), atI_nat (j := 1) rfl, lv, rfl, ⟨_, SqL.of (T1 _ _ q2)⟩, for_list (K := K) (a := lv) (xs := us.map V.ref) (fun i σ H' => ∃ (u6 u7 : Option V) (row : List Str), σ = [some (.ref p), some (.ref t), some (.ref ls), some (.str st), some (.int sp), some (.ref R), u6, u7, none] ∧ But p H1 H' ∧ StN (k + 1 + i) H' p ∧ H' R = some (.lst (row.map V.str)) ∧ row.length = i ∧ ∀ z ∈ row, okS z)
      ⟨_, _, [], rfl, but_new (But.refl p H1) nRp hR, S1.upd nRp, upd_same, rfl, fun z hz => absurd hz List.not_mem_nil⟩ (fun i σ H' _ z => ?_) ?_ ?_⟩
    · obtain ⟨u6, u7, row, _, B, _⟩ := z
      exact SqL.of (B.kp S1.ok _ _ ns_refs q2)
    · rintro i v0 σ H2 hv0 ⟨u6, u7, row, rfl, B2, S2, hR2, rl, ro⟩
      obtain ⟨qa, v, rfl, hv, hqa⟩ := row_at q3 hv0
      have il := (List.getElem?_eq_some_iff.mp hv).1
      have hqa2 := Kp.sqT (B2.kp S1.ok) hqa
      have hls2 := B2 _ _ nsp hls1
      refine ⟨qa, _, rfl, hqa2, rfl, _, _, rfl, _, _, rfl, rfl, ?_⟩
      dsimp only [gName, List.set_cons_succ, List.set_cons_zero]
      refine ⟨_, rfl, .inl ⟨rfl, _, SqL.of hR2⟩, _, rfl, _, rfl, _, rfl, p, ls, _, k + 1 + i, rfl, S2, by omega, hls2, nsp, by rw [List.length_map]; omega, by rw [List.length_map]; omega, fun j y H3 hj B3 S3 => ?_⟩
      obtain ⟨z, rfl, hz⟩ := strz_at hj
      have zo := so z (List.mem_of_getElem? hz)
      refine ⟨by show 2 ≤ sizeLine; decide, fun l hl => ?_⟩
      have B23 := B2.trans B3
      have nlp := st_free S3.ok hl
      have T4 : Same H3 (upd H3 l (.lst [sortV v.2, .str z])) := Same.upd hl
      have e4 : (upd H3 l (.lst [sortV v.2, .str z])) l = some (.lst [sortV v.2, .str z]) := upd_same
      have S4 := S3.same T4
      have B4 : But p H1 (upd H3 l (.lst [sortV v.2, .str z])) := fun q o n e => T4 _ _ (B23 q o n e)
      have hR4 := T4 _ _ (B3 _ _ nRp hR2)
      generalize upd H3 l (.lst [sortV v.2, .str z]) = H4 at T4 e4 S4 B4 hR4
      have fin : ∀ y : Str, okS y → ∃ (u6 u7 : Option V) (row' : List Str), [some (V.ref p), some (.ref t), some (.ref ls), some (.str st), some (.int sp), some (.ref R), some (.str v.1), some (sortV v.2), none] = [some (.ref p), some (.ref t), some (.ref ls), some (.str st), some (.int sp), some (.ref R), u6, u7, none] ∧ But p H1 (upd H4 R (.lst (row.map V.str ++ [.str y]))) ∧ StN (k + 1 + (i + 1)) (upd H4 R (.lst (row.map V.str ++ [.str y]))) p ∧ (upd H4 R (.lst (row.map V.str ++ [.str y]))) R = some (.lst (row'.map V.str)) ∧ row'.length = i + 1 ∧ ∀ z ∈ row', okS z := fun y yo =>
        ⟨_, _, row ++ [y], rfl, but_new B4 nRp hR, S4.upd nRp, by rw [upd_same, List.map_append]; rfl, by rw [List.length_append, rl]; rfl, fun x hx => by
          rcases List.mem_append.mp hx with h | h
          · exact ro x h
          · rw [List.mem_singleton.mp h]
            exact yo⟩
      have len : (row.map V.str).length < sizeLine := by
        rw [List.length_map]
        exact Nat.lt_of_le_of_lt (show _ ≤ 1000 by omega) (by decide)
      have vyo := fun y => vo v (List.mem_of_getElem? hv) y
      obtain ⟨vn, vs⟩ := v
      cases vs with
      | none => exact ⟨_, rfl, .inr ⟨true, by simp [sortV], rdList e4 (j := 1) rfl rfl ⟨R, _, _, rfl, rfl, hR4, len, fin z zo⟩⟩⟩
      | some y => exact ⟨_, rfl, .inr ⟨false, by simp [sortV], rdList e4 (j := 0) rfl rfl ⟨R, _, _, rfl, rfl, hR4, len, fin y (vyo y rfl)⟩⟩⟩
    · rintro σ H2 ⟨u6, u7, row, rfl, B2, S2, hR2, rl, ro⟩
      rw [List.length_map, ul] at rl
      have kp12 := B2.kp S1.ok
      refine ⟨_, rfl, _, rfl, R, _, rfl, .inl (SqL.of hR2), p, _, k + 1 + r.p.vars.length, rfl, by rw [← ul, ← List.length_map (f := V.ref)]; exact S2, by omega, by rw [List.length_map, rl]; omega, by rw [List.length_map, rl]; omega, fun at_ H3 a0 a1 B3 S3 => ?_⟩
      rw [List.length_map, rl] at a1
      obtain ⟨i, rfl⟩ := Int.eq_ofNat_of_zero_le a0
      have il : i < row.length := by omega
      dsimp only [gName, List.set_cons_succ, List.set_cons_zero]
      have back : ∀ (x : Addr) (row' : List Str) (H' : Hp) {kk : Nat}, H' x = some (.lst (row'.map V.str)) → But p H H' → StN kk H' p → kk ≤ k + 20 → row'.length ≤ 5 → (∀ z ∈ row', okS z) → rTupOf K [.ref x] H' Q := fun x row' H' kk hx B S le r5 o =>
        ⟨x, _, rfl, .inl ⟨SqL.of hx, fun l hl => q l row' _ r5 o upd_same (fun q o n e => (Same.upd hl) _ _ (B q o n e)) ((S.same (Same.upd hl)).mono le)⟩⟩
      have hR3 := B3 _ _ nRp hR2
      have B13 := B2.trans B3
      have B03 := B1.trans B13
      refine ⟨_, rfl, rfl, _, rfl, ite2 (fun h0 => ?_) (fun h0 => ?_)⟩
      · -- one name fewer
        refine ⟨_, rfl, _, rfl, _, rfl, R, _, rfl, SqL.of hR3, fun x1 n1 => ?_⟩
        rw [cut_take, ← List.map_take]
        have T4 : Same H3 (upd H3 x1 (.lst ((row.take i).map V.str))) := Same.upd n1
        have e4 : (upd H3 x1 (.lst ((row.take i).map V.str))) x1 = some (.lst ((row.take i).map V.str)) := upd_same
        generalize upd H3 x1 (.lst ((row.take i).map V.str)) = H4 at T4 e4
        refine ⟨_, rfl, _, rfl, _, _, rfl, rfl, _, rfl, R, _, rfl, SqL.of (T4 _ _ hR3), fun x2 n2 => ?_⟩
        rw [show ((i : Int) + 1) = ((i + 1 : Nat) : Int) by omega, cut_drop, ← List.map_drop]
        have T5 : Same H4 (upd H4 x2 (.lst ((row.drop (i + 1)).map V.str))) := Same.upd n2
        have e5 : (upd H4 x2 (.lst ((row.drop (i + 1)).map V.str))) x2 = some (.lst ((row.drop (i + 1)).map V.str)) := upd_same
        generalize upd H4 x2 (.lst ((row.drop (i + 1)).map V.str)) = H5 at T5 e5
        refine ⟨x1, x2, _, _, rfl, rfl, T5 _ _ e4, e5, ?_, fun x3 n3 => ?_⟩
        · rw [List.length_map, List.length_map, List.length_take, List.length_drop]
          exact Nat.le_trans (show _ ≤ 1000 by omega) (by decide)
        rw [← List.map_append]
        have T6 : Same H5 (upd H5 x3 (.lst ((row.take i ++ row.drop (i + 1)).map V.str))) := Same.upd n3
        have e6 : (upd H5 x3 (.lst ((row.take i ++ row.drop (i + 1)).map V.str))) x3 = some (.lst ((row.take i ++ row.drop (i + 1)).map V.str)) := upd_same
        generalize upd H5 x3 (.lst ((row.take i ++ row.drop (i + 1)).map V.str)) = H6 at T6 e6
        have T36 := (T4.trans T5).trans T6
        exact back _ _ _ e6 (B03.trans fun q o n e => T36 _ _ e) (S3.same T36) (by omega) (by rw [List.length_append, List.length_take, List.length_drop]; omega) fun z hz => ro z ((List.mem_append.mp hz).elim (fun h => List.mem_of_mem_take h) fun h => List.mem_of_mem_drop h)
      · refine ⟨_, rfl, rfl, _, rfl, ite2 (fun h1 => ?_) (fun h1 => ?_)⟩
        · have hls3 := B3 _ _ nsp (B2 _ _ nsp hls1)
          refine ⟨_, rfl, .inl ⟨rfl, _, SqL.of hR3⟩, _, rfl, _, rfl, _, rfl, p, ls, _, _, rfl, S3, by omega, hls3, nsp, by rw [List.length_map]; omega, by rw [List.length_map]; omega, fun j y H4 hj B4 S4 => ?_⟩
          obtain ⟨z, rfl, hz⟩ := strz_at hj
          have hR4 := B4 _ _ nRp hR3
          refine ⟨R, _, _, _, rfl, rfl, hR4, by rw [List.length_map]; exact Nat.lt_of_le_of_lt (show _ ≤ 1000 by omega) (by decide), by omega, by omega, ?_⟩
          rw [show ((i : Int)).toNat = i by omega, ← List.map_take, ← List.map_drop, show (row.take i).map V.str ++ [V.str z] ++ (row.drop i).map V.str = (row.take i ++ [z] ++ row.drop i).map V.str by rw [List.map_append, List.map_append]; rfl]
          refine ⟨_, rfl, back R _ _ upd_same (but_new (B03.trans B4) nRp (B1.free nRp hR)) (S4.upd nRp) (by omega) (by simp only [List.length_append, List.length_take, List.length_drop, List.length_singleton]; omega) fun x hx => ?_⟩
          rcases List.mem_append.mp hx with h | h
          · rcases List.mem_append.mp h with h | h
            · exact ro x (List.mem_of_mem_take h)
            · rw [List.mem_singleton.mp h]
              exact so z (List.mem_of_getElem? hz)
          · exact ro x (List.mem_of_mem_drop h)
        · refine ⟨_, rfl, rfl, _, rfl, ite2 (fun h2 => ?_) (fun h2 => ?_)⟩
          · have hls3 := B3 _ _ nsp (B2 _ _ nsp hls1)
            refine ⟨_, rfl, _, rfl, _, rfl, by show 1 ≤ sizeLine; decide, fun x1 n1 => ?_⟩
            have n1p := st_free S3.ok n1
            have T4 : Same H3 (upd H3 x1 (.lst [.str st])) := Same.upd n1
            have e4 : (upd H3 x1 (.lst [.str st])) x1 = some (.lst [.str st]) := upd_same
            generalize upd H3 x1 (.lst [.str st]) = H4 at T4 e4
            refine ⟨ls, x1, _, _, rfl, rfl, T4 _ _ hls3, e4, ?_, fun x2 n2 => ?_⟩
            · rw [List.length_map]
              exact Nat.le_trans (show _ ≤ 1000 by rw [List.length_singleton]; omega) (by decide)
            rw [show ss.map V.str ++ [V.str st] = (ss ++ [st]).map V.str by rw [List.map_append]; rfl]
            have S4 := S3.same T4
            have n2p := st_free S4.ok n2
            have T5 : Same H4 (upd H4 x2 (.lst ((ss ++ [st]).map V.str))) := Same.upd n2
            have e5 : (upd H4 x2 (.lst ((ss ++ [st]).map V.str))) x2 = some (.lst ((ss ++ [st]).map V.str)) := upd_same
            generalize upd H4 x2 (.lst ((ss ++ [st]).map V.str)) = H5 at T5 e5
            have T35 := T4.trans T5
            refine ⟨p, x2, _, _, rfl, S4.same T5, by omega, e5, n2p, by rw [List.length_map, List.length_append, List.length_singleton]; omega, by rw [List.length_map, List.length_append, List.length_singleton]; omega, fun j y H6 hj B6 S6 => ?_⟩
            obtain ⟨z, rfl, hz⟩ := strz_at hj
            have zo : okS z := by
              rcases List.mem_append.mp (List.mem_of_getElem? hz) with h | h
              · exact so z h
              · rw [List.mem_singleton.mp h]
                exact sto
            have hR6 := B6 _ _ nRp (T35 _ _ hR3)
            refine ⟨_, rfl, _, rfl, R, _, _, i, rfl, rfl, hR6, ix_nat (by rw [List.length_map]; exact il), ?_⟩
            rw [← set_map]
            have B36 : But p H3 H6 := fun q o n e => B6 q o n (T35 _ _ e)
            refine ⟨_, rfl, back R _ _ upd_same (but_new (B03.trans B36) nRp (B1.free nRp hR)) (S6.upd nRp) (by omega) (by rw [List.length_set]; omega) fun x hx => ?_⟩
            rcases List.mem_or_eq_of_mem_set hx with h | h
            · exact ro x h
            · rw [h]
              exact zo
          · exact ⟨_, rfl, back _ _ _ hR3 B03 S3 (by omega) (by omega) ro⟩
end
end Wm
namespace Wm
open PySem L2 StX
def Off4 (p d1 d2 d3 : Addr) (H H' : Hp) : Prop := ∀ a o, a ≠ p → a ≠ d1 → a ≠ d2 → a ≠ d3 → H a = some o → H' a = some o
theorem Off4.refl {p d1 d2 d3 : Addr} (H : Hp) : Off4 p d1 d2 d3 H H := fun _ _ _ _ _ _ h => h
theorem Off4.trans {p d1 d2 d3 : Addr} {H H1 H2 : Hp} (a : Off4 p d1 d2 d3 H H1) (b : Off4 p d1 d2 d3 H1 H2) : Off4 p d1 d2 d3 H H2 := fun q o x y z w h => b q o x y z w (a q o x y z w h)
theorem Same.off4 {p d1 d2 d3 : Addr} {H H' : Hp} (s : Same H H') : Off4 p d1 d2 d3 H H' := fun q o _ _ _ _ h => s q o h
/-- no well, no dict -/
structure Nd (o : HO) : Prop where
  st : NotSt o
  k : ∀ ks, o ≠ .dK ks
  t : ∀ ks, o ≠ .dT ks
def KN (H H' : Hp) : Prop := ∀ a o, Nd o → H a = some o → H' a = some o
theorem Off4.kn {p d1 d2 d3 : Addr} {H H' : Hp} (f : Off4 p d1 d2 d3 H H') (hs : StOk H p) {k1 k2 : List (L2.Key × V)} {k3 : List (List L2.Key × V)} (h1 : H d1 = some (.dK k1)) (h2 : H d2 = some (.dK k2)) (h3 : H d3 = some (.dT k3)) : KN H H' := fun a o n h => by
  obtain ⟨x, y, z, e, _⟩ := hs
  refine f a o (fun q => ?_) (fun q => ?_) (fun q => ?_) (fun q => ?_) h
  · rw [q, e] at h
    exact n.st x y z (Option.some.inj h).symm
  · rw [q, h1] at h
    exact n.k _ (Option.some.inj h).symm
  · rw [q, h2] at h
    exact n.k _ (Option.some.inj h).symm
  · rw [q, h3] at h
    exact n.t _ (Option.some.inj h).symm
theorem nd_tup {xs : List V} : Nd (.tup xs) := ⟨ns_tup, (fun _ z => by cases z), fun _ z => by cases z⟩
theorem nd_frz {ob : Obj} {u : HO} : Nd (.frz ob u) := ⟨ns_frz, (fun _ z => by cases z), fun _ z => by cases z⟩
theorem nd_ins {C d : Addr} {fs : List (Str × V)} : Nd (.ins C d fs) := ⟨(fun _ _ _ z => by cases z), (fun _ z => by cases z), fun _ z => by cases z⟩
theorem nd_refs {xs : List Addr} : Nd (.lst (xs.map V.ref)) := ⟨ns_refs, (fun _ z => by cases z), fun _ z => by cases z⟩
theorem nd_strs {xs : List Str} : Nd (.lst (xs.map V.str)) := ⟨ns_strs, (fun _ z => by cases z), fun _ z => by cases z⟩
theorem KN.sqT {K : PySem.W.Frag} {H H' : Hp} {a : Addr} {xs : List V} (e : KN H H') (h : SqT K H a xs) : SqT K H' a xs := by
  rcases h with (h | ⟨o, h⟩) | h
  · exact .inl (.inl (e _ _ nd_tup h))
  · exact .inl (.inr ⟨o, e _ _ nd_frz h⟩)
  · exact .inr h
theorem KN.rows {K : PySem.W.Frag} {H H' : Hp} (e : KN H H') {ps : List Addr} {rs : List (List V)} (h : RowsAt K H ps rs) : RowsAt K H' ps rs := rows_imp (fun q => e.sqT q) h
theorem KN.sch {H H' : Hp} (e : KN H H') {S x : Addr} {ss ws : List Str} {as bs cs : List Addr} (h : SchG S H x ss ws as bs cs) : SchG S H' x ss ws as bs cs := by
  obtain ⟨dx, l1, l2, l3, l4, l5, h0, h1, h2, h3, h4, h5⟩ := h
  exact ⟨dx, l1, l2, l3, l4, l5, e _ _ nd_ins h0, e _ _ nd_strs h1, e _ _ nd_strs h2, e _ _ nd_refs h3, e _ _ nd_refs h4, e _ _ nd_refs h5⟩
theorem KN.mrul {K : PySem.W.Frag} {H H' : Hp} (e : KN H H') {a : Addr} {r : RlD} (h : MRul K H a r) : MRul K H' a r := by
  obtain ⟨lv, lc, g, ps, qs, h1, h2, h3, h4, h5, h6⟩ := h
  exact ⟨lv, lc, g, ps, qs, e _ _ nd_tup h1, e _ _ nd_refs h2, e.rows h3, e _ _ nd_refs h4, e.rows h5, e _ _ nd_tup h6⟩
theorem KN.rl {K : PySem.W.Frag} {H H' : Hp} (e : KN H H') {B a : Addr} {r : RlD} (h : RlAt K B H a r) : RlAt K B H' a r := by
  obtain ⟨d, t1, t2, t3, ps, qs, k0, k1, k2, k3_, k4, k5⟩ := h
  exact ⟨d, t1, t2, t3, ps, qs, e _ _ nd_ins k0, e.sqT k1, e.rows k2, e.sqT k3_, e.rows k4, e.sqT k5⟩
theorem HsAt.kp {HC S x dx sc d1 d2 d3 : Addr} {H H' : Hp} {ss ws : List Str} {th : List Thing} {ts : List T3} (e : Kp H H') (h : HsAt HC S H x dx sc d1 d2 d3 ss ws th ts) : HsAt HC S H' x dx sc d1 d2 d3 ss ws th ts := by
  obtain ⟨dy, l1, l2, l3, l4, l5, q1, q2, q3⟩ := h.hs.ex
  exact ⟨e _ _ (fun _ _ _ z => by cases z) h.hx, ⟨dy, l1, l2, l3, l4, l5, e _ _ (fun _ _ _ z => by cases z) q1, e _ _ ns_strs q2, e _ _ ns_strs q3⟩, e _ _ ns_dK h.h1, e _ _ ns_dK h.h2, e _ _ (fun _ _ _ z => by cases z) h.h3, h.ne⟩
theorem StN.keep {n : Nat} {p : Addr} {H H' : Hp} (e : ∀ o, H p = some o → H' p = some o) (h : StN n H p) : StN n H' p := by
  obtain ⟨a, b, c, x, y⟩ := h
  exact ⟨a, b, c, e _ x, y⟩
theorem st_dK {n : Nat} {p d : Addr} {H : Hp} {ks : List (L2.Key × V)} (h : StN n H p) (hd : H d = some (.dK ks)) : p ≠ d := fun e => by
  obtain ⟨a, b, c, x, _⟩ := h
  rw [e, hd] at x
  cases x
theorem st_dT {n : Nat} {p d : Addr} {H : Hp} {ks : List (List L2.Key × V)} (h : StN n H p) (hd : H d = some (.dT ks)) : p ≠ d := fun e => by
  obtain ⟨a, b, c, x, _⟩ := h
  rw [e, hd] at x
  cases x
def spOn (K : PySem.W.Frag) (HC S RB : Addr) : Sp := fun vs H Q _ => ∃ (p tt h dx x d1 d2 d3 t q : Addr) (k : Nat) (ss ws ss' ws' : List Str) (as bs cs : List Addr) (r : RlD) (row : List Str), vs = [.ref p, .ref tt, .ref x, .ref t, .ref q] ∧ StN k H p ∧ k ≤ 700000 ∧ H tt = some (.tup [.str "told", .ref h]) ∧
  Look K HC S H h dx x d1 d2 d3 t q ss ws as bs cs r row ∧ Lim ss ws as bs r row ∧ RuleOk ss' ws' r ∧ (∀ z ∈ textsL r.p.nm r.p.vars (r.p.cs ++ [r.g]), isNm z = true ∧ z.length ≤ 12) ∧ RuOk ss ws r ∧ row ∈ rowsOf ss r ∧ dueL ss ws r row = none ∧ ss.length ≤ 4 ∧ 1 ≤ ss.length ∧ (∀ z ∈ row, okS z) ∧ ∀ H', Off4 p d1 d2 d3 H H' → Q (.bl true) H'
section
variable {P : Program} {w : World} {K : PySem.W.Frag} {mg : Str → Option Value} {base : Heap}
theorem scOn : FnScope ["_law_well_here", "_law_told", "_law_scheme", "_law_rule", "_law_row", "_law_made", "_law_again", "_law_name_here", "_law_sort"] ["_law_well_here", "_law_told", "_law_scheme", "_law_rule", "_law_row"] (defScope sOn) := ⟨rfl, rfl, rfl, by decide +kernel, rfl, by decide +kernel, by decide +kernel⟩
theorem ok_on {f HC S RB fH fS fNm fMr fRi fSa fSl fEn fTa fSo : Addr} {fd dNm dMr dRi dSa dSl dEn dTa dSo : FuncData} (F : Fun K "_law_once" "_law_once" sOn f fd) (T : TxB mg) (TH : TxH K mg HC fH) (TC : TxSch K mg S fS)
    (DNm : Dn K mg "_law_name" sNam ["_law_well_here", "_law_taken"] fNm dNm) (GNm : FnOk P w K mg base CX0 3 fNm dNm ["_law_well_here", "_law_taken"] (spNam K))
    (DMr : Dn K mg "_law_made_rule" sMdR ["_law_rule"] fMr dMr) (GMr : FnOk P w K mg base CX0 8 fMr dMr ["_law_rule"] (spMdR K RB))
    (DRi : Dn K mg "_law_right" sRi ["_law_house", "_law_scheme", "_law_rule", "_law_row"] fRi dRi) (GRi : FnOk P w K mg base CX0 3 fRi dRi ["_law_house", "_law_scheme", "_law_rule", "_law_row"] (spRi K HC S))
    (DSa : Dn K mg "_law_said" sSai ["_law_scheme", "_law_rule", "_law_row"] fSa dSa) (GSa : FnOk P w K mg base CX0 8 fSa dSa ["_law_scheme", "_law_rule", "_law_row"] (spSai K HC S RB))
    (mHSl : Meth K HC "sleep" fSl) (bHSl : Binds K dSl ["self", "x"] []) (GHSl : FnOk P w K mg base CX0 2 fSl dSl ["self", "x"] (spHsl HC S))
    (mEn : Meth K HC "enter" fEn) (bEnD : Binds K dEn ["self", "name", "sort", "awake"] [.bool true]) (GEn : FnOk P w K mg base CX0 3 fEn dEn ["self", "name", "sort", "awake"] (spHen HC S))
    (mHTa : Meth K HC "take" fTa) (bHTa : Binds K dTa ["self", "x", "word", "y"] []) (GHTa : FnOk P w K mg base CX0 3 fTa dTa ["self", "x", "word", "y"] (spHta HC S))
    (mSo : Meth K S "sorts" fSo) (bSo : Binds K dSo ["self"] []) (GSo : FnOk P w K mg base CX0 1 fSo dSo ["self"] (spSor S)) :
    FnOk P w K mg base CX0 9 f fd ["_law_well_here", "_law_told", "_law_scheme", "_law_rule", "_law_row"] (spOn K HC S RB) := by
  refine F.ok scOn (fun vs H Q E h => ?_) (fun cdv A outer s H vs Q E hr h => ?_)
  · obtain ⟨p, tt, h, dx, x, d1, d2, d3, t, q, k, ss, ws, ss', ws', as, bs, cs, r, row, rfl, _⟩ := h
    rfl
  · obtain ⟨p, tt, h, dx, x, d1, d2, d3, t, q, k, ss, ws, ss', ws', as, bs, cs, r, row, rfl, hS, kl, htt, LK, LM, rk, tx, ru, mem, due, s4, s1, ro, kk⟩ := h
    have hr1 : Room 1 _ := hr.mono (by decide)
    have hr2 : Room 2 _ := hr.mono (by decide)
    have hr3 : Room 3 _ := hr.mono (by decide)
    have hr8 : Room 8 _ := hr.mono (by decide)
    refine ⟨_, (pss_cons (ps_set (i := 5) scOn.nd rfl (Or.inl rfl) (pe_call GMr hr8 rfl DMr.g DMr.F.kp DMr.b .nil pass0 (pa_cons (pv 3) pa_nil)))
      (pss_cons (ps_if (PW.pt (pw_or (pt_cmpR op_ne (pe_ix ix_tup (pv 1) pe_int (fun _ _ => rfl)) pe_str (nomark _)) (pw_or1 (pt_not (pt_val (pe_call GRi hr3 rfl DRi.g DRi.F.kp DRi.b .nil pass0 (pa_cons (pe_ix ix_tup (pv 1) pe_int (fun _ _ => rfl)) (pa_cons (pv 2) (pa_cons (pv 3) (pa_cons (pv 4) pa_nil)))))))))) (pss_one (ps_ret pe_bl)) pss_nil)
      (pss_cons (ps_expr (pe_meth (pe_ix ix_tup (pv 1) pe_int (fun _ _ => rfl)) TH.cl mHSl GHSl hr2 bHSl .nil pass0 (pa_cons (pe_ix ix_tup (pv 3) pe_int (fun _ _ => rfl)) pa_nil)))
      (pss_cons (ps_expr (pe_meth (dvs := [.bl true]) (pe_ix ix_tup (pv 1) pe_int (fun _ _ => rfl)) TH.cl mEn GEn hr3 bEnD (.cons rfl .nil) pass0 (pa_cons (pe_call GNm hr3 rfl DNm.g DNm.F.kp DNm.b .nil pass0 (pa_cons (pv 0) (pa_cons (pe_lc (own := [("_law_name_here", 7), ("_law_sort", 8)]) (g := gTup K 2 (gCons (gName 7) (gCons (gName 8) gNil))) (tt := tYes) (te := (tVar 7)) rfl scOn.nd (pi_list (pe_ix ix_tup (pv 3) pe_int (fun _ _ => rfl))) (blkOk_by (N := ["_law_well_here", "_law_told", "_law_scheme", "_law_rule", "_law_row", "_law_made", "_law_again", "_law_name_here", "_law_sort"]) (sc := defScope sOn) (by decide +kernel)) (fun _ _ _ _ _ => (pg_tup rfl (pgs_cons (pg_name (i := 7) scOn.nd rfl (Or.inl rfl)) (pgs_cons (pg_name (i := 8) scOn.nd rfl (Or.inl rfl)) pgs_nil)))) (fun _ _ _ _ _ => pts_nil) (fun _ _ _ _ _ => (pv 7))) pa_nil))) (pa_cons (pe_ix ix_list (pe_meth0 (pv 2) TC.cl mSo GSo hr1 bSo .nil pass0) pe_int (fun _ _ => rfl)) pa_nil))))
      (pss_cons (ps_expr (pe_meth (pe_ix ix_tup (pv 1) pe_int (fun _ _ => rfl)) TH.cl mHTa GHTa hr3 bHTa .nil pass0 (pa_cons (pe_ix ix_tup (pe_ix ix_list (pe_ix ix_tup (pv 3) pe_int (fun _ _ => rfl)) pe_int (fun _ _ => rfl)) pe_int (fun _ _ => rfl)) (pa_cons (pe_ix ix_tup (pe_ix ix_list (pe_ix ix_tup (pv 3) pe_int (fun _ _ => rfl)) pe_int (fun _ _ => rfl)) pe_int (fun _ _ => rfl)) (pa_cons (pe_ix ix_tup (pe_ix ix_list (pe_ix ix_tup (pv 3) pe_int (fun _ _ => rfl)) pe_int (fun _ _ => rfl)) pe_int (fun _ _ => rfl)) pa_nil)))))
      (pss_cons (ps_set (i := 6) scOn.nd rfl (Or.inl rfl) (pe_call GSa hr8 rfl DSa.g DSa.F.kp DSa.b .nil pass0 (pa_cons (pv 2) (pa_cons (pv 5) (pa_cons (pv 4) pa_nil)))))
      (pss_one (ps_ret (pe_and (pe_cmpR op_eq (pe_ix ix_tup (pv 6) pe_int (fun _ _ => rfl)) pe_str (nomark _)) (pe_one (pe_call GRi hr3 rfl DRi.g DRi.F.kp DRi.b .nil pass0 (pa_cons (pe_ix ix_tup (pv 6) pe_int (fun _ _ => rfl)) (pa_cons (pv 2) (pa_cons (pv 3) (pa_cons (pv 4) pa_nil))))))))))))))), ?_⟩
    rw [show L2.start ["_law_well_here", "_law_told", "_law_scheme", "_law_rule", "_law_row", "_law_made", "_law_again", "_law_name_here", "_law_sort"] [V.ref p, V.ref tt, V.ref x, V.ref t, V.ref q] = [some (.ref p), some (.ref tt), some (.ref x), some (.ref t), some (.ref q), none, none, none, none] from rfl]
    have nmE : nmL (thL r row) = r.p.vars.map (·.1) := thL_nm LM.rl.symm
    refine ⟨_, rfl, t, r, rfl, LK.m, rk.pt, tx, fun mr H1 hmr S1 hrl => ?_⟩
    dsimp only [gName, List.set_cons_succ, List.set_cons_zero]
    refine ⟨_, rfl, tt, _, 0, _, rfl, rfl, SqT.of (S1 _ _ htt), atI_nat (j := 0) rfl, rfl, _, rfl, ?_⟩
    have d0 : (!decide (V.str "told" = V.str "told")) = false := by simp
    rw [d0]
    refine iteF ⟨_, rfl, tt, _, 1, _, rfl, rfl, SqT.of (S1 _ _ htt), atI_nat (j := 1) rfl, _, rfl, _, rfl, _, rfl, h, dx, x, d1, d2, d3, t, q, ss, ws, as, bs, cs, r, row, rfl, LK.same S1, LM, fun H2 S2 => ?_⟩
    refine ⟨_, rfl, iteF ?_⟩
    have S02 := S1.trans S2
    have hh2 := LK.hs.same S02
    have hm2 := LK.m.kp (Same.kp S02)
    have tl : (thL r row).length = r.p.vars.length := by
      have z := congrArg List.length nmE
      unfold nmL at z
      rw [List.length_map, List.length_map] at z
      exact z
    have rl := LM.rl
    have r4 := LM.r4
    obtain ⟨lv, lc, g, us, qs, q1, q2, q3, q4, q5, q6⟩ := hm2
    have ul := q3.len
    rw [List.length_map] at ul
    have bhm : r.bh ∈ nmL (thL r row) := by
      rw [nmE]
      exact rk.pt.en r.bh (List.mem_append_right _ (List.mem_singleton.mpr rfl))
    -- sleep
    refine ⟨_, rfl, tt, _, 1, _, rfl, rfl, SqT.of (S02 _ _ htt), atI_nat (j := 1) rfl, h, dx, _, rfl, hh2.hx, rfl, _, rfl, t, _, 4, _, rfl, rfl, SqT.of q1, atI_nat (j := 4) rfl, h, dx, x, d1, d2, d3, r.bh, ss, ws, _, _, rfl, hh2, bhm, by rw [tl]; omega, fun H3 B3 hh3 => ?_⟩
    have S3 : StN k H3 p := (hS.same S02).keep fun o e => B3 _ _ (st_dK (hS.same S02) hh2.h2) e
    have O3 : Off4 p d1 d2 d3 H2 H3 := fun a o _ _ n _ e => B3 a o n e
    have st2 := (hS.same S02).ok
    have kn3 := O3.kn st2 hh2.h1 hh2.h2 hh2.h3
    have htt3 := kn3 _ _ nd_tup (S02 _ _ htt)
    -- enter
    refine ⟨_, rfl, tt, _, 1, _, rfl, rfl, SqT.of htt3, atI_nat (j := 1) rfl, h, dx, _, rfl, hh3.hx, rfl, _, rfl, _, rfl, t, _, 1, _, rfl, rfl, SqT.of (kn3 _ _ nd_tup q1), atI_nat (j := 1) rfl, lv, rfl, ⟨_, SqL.of (kn3 _ _ nd_refs q2)⟩, fun M hM => ?_⟩
    refine lc_list (K := K) (a := lv) (xs := us.map V.ref) (fun j H' => Same H3 H' ∧ H' M = some (.lst (((r.p.vars.map (·.1)).take j).map V.str))) ⟨Same.upd hM, upd_same⟩ (fun j H' _ z => SqL.of (z.1 _ _ (kn3 _ _ nd_refs q2))) ?_ ?_
    · rintro j v0 H4 hv0 ⟨S4, e4⟩
      obtain ⟨qa, v, rfl, hv, hqa⟩ := row_at q3 hv0
      have hqa4 := same_seqT S4 (kn3.sqT hqa)
      have jl := (List.getElem?_eq_some_iff.mp hv).1
      have tk : ((r.p.vars.map (·.1)).take (j + 1)).map V.str = ((r.p.vars.map (·.1)).take j).map V.str ++ [.str v.1] := by
        rw [List.take_add_one, List.getElem?_map, hv, List.map_append]
        rfl
      refine ⟨qa, _, rfl, hqa4, rfl, _, _, rfl, _, _, rfl, rfl, rfl, _, rfl, ?_⟩
      refine ⟨_, e4, ?_, fun b o e => ?_, by rw [upd_same, tk]⟩
      · rw [List.length_map, List.length_take]
        exact Nat.lt_of_le_of_lt (show _ ≤ 1000 by omega) (by decide)
      · rw [upd_ne (ne_of_none e hM)]
        exact S4 _ _ e
    rintro H4 ⟨S4, e4⟩
    rw [List.length_map, ul, List.take_of_length_le (by rw [List.length_map]; exact Nat.le_refl _)] at e4
    have nMp : M ≠ p := st_free S3.ok hM
    have S4' := S3.same S4
    refine ⟨p, M, _, k, rfl, S4', by omega, nMp, e4, by rw [List.length_map]; omega, fun z H5 nz zl zn B5 S5 => ?_⟩
    have hh4 := hh3.same S4
    have hh5 := hh4.kp (B5.kp S4'.ok)
    have O5 : Off4 p d1 d2 d3 H2 H5 := (O3.trans (Same.off4 S4)).trans fun a o n _ _ _ e => B5 a o n e
    have kn5 := O5.kn st2 hh2.h1 hh2.h2 hh2.h3
    obtain ⟨sdx, m1, m2, m3, m4, m5, g0, g1, g2, g3, g4, g5⟩ := kn5.sch (LK.sc.same S02)
    refine ⟨_, rfl, x, sdx, _, rfl, g0, rfl, x, ss, ws, rfl, hh5.hs, fun u hu => ?_⟩
    have T6 : Same H5 (upd H5 u (.lst (ss.map V.str))) := Same.upd hu
    have e6 : (upd H5 u (.lst (ss.map V.str))) u = some (.lst (ss.map V.str)) := upd_same
    generalize upd H5 u (.lst (ss.map V.str)) = H6 at T6 e6
    have hh6 := hh5.same T6
    have S6 := S5.same T6
    have hs0 : (ss.map V.str)[0]? = some (.str ss[0]) := stA s1
    have zn' : z ∉ nmL (setA (thL r row) r.bh false) := by rw [setA_nm, nmE]; exact zn
    have ztl : (setA (thL r row) r.bh false).length < 60 := by unfold setA; rw [List.length_map, tl]; omega
    refine rdList e6 (j := 0) rfl hs0 ⟨h, dx, x, d1, d2, d3, z, _, true, ss, ws, _, _, rfl, hh6, nm_is nz zl, zl, zn', List.getElem_mem _, ztl, fun H7 B7 hh7 => ?_⟩
    have S7 : StN (k + 20) H7 p := S6.keep fun o e => B7 _ _ (st_dK S6 hh6.h1) (st_dK S6 hh6.h2) e
    have O7 : Off4 p d1 d2 d3 H2 H7 := (O5.trans (Same.off4 T6)).trans fun a o _ n1 n2 _ e => B7 a o n1 n2 e
    have kn7 := O7.kn st2 hh2.h1 hh2.h2 hh2.h3
    have htt7 := kn7 _ _ nd_tup (S02 _ _ htt)
    have ht7 := kn7 _ _ nd_tup q1
    have hlc7 := kn7 _ _ nd_refs q4
    have ql := q5.len
    rw [List.length_map] at ql
    have c1 := rk.pt.c1
    have hq0 : (qs.map V.ref)[0]? = some (.ref (qs[0]'(by omega))) := by
      rw [List.getElem?_map, List.getElem?_eq_getElem (by omega)]
      rfl
    obtain ⟨qa, c0, hqa, hc0, hqt⟩ := tri_at q5 hq0
    rw [hqa] at hq0
    have hqa7 := kn7.sqT hqt
    have c0m := List.mem_of_getElem? hc0
    have nin : ∀ {y : Str}, y ∈ r.p.vars.map (·.1) → y ∈ nmL (setA (thL r row) r.bh false ++ [(z, ss[0], true)]) := fun {y} hy => by
      have e : nmL (setA (thL r row) r.bh false) = r.p.vars.map (·.1) := by rw [setA_nm, nmE]
      rw [← e] at hy
      unfold nmL at hy ⊢
      rw [List.map_append]
      exact List.mem_append_left _ hy
    refine ⟨_, rfl, tt, _, 1, _, rfl, rfl, SqT.of htt7, atI_nat (j := 1) rfl, h, dx, _, rfl, hh7.hx, rfl, _, rfl, t, _, 2, _, rfl, rfl, SqT.of ht7, atI_nat (j := 2) rfl, lc, _, 0, _, rfl, rfl, SqL.of hlc7, atI_nat (j := 0) hq0, qa, _, 0, _, rfl, rfl, hqa7, atI_nat (j := 0) rfl, _, rfl, t, _, 2, _, rfl, rfl, SqT.of ht7, atI_nat (j := 2) rfl, lc, _, 0, _, rfl, rfl, SqL.of hlc7, atI_nat (j := 0) hq0, qa, _, 1, _, rfl, rfl, hqa7, atI_nat (j := 1) rfl, _, rfl, t, _, 2, _, rfl, rfl, SqT.of ht7, atI_nat (j := 2) rfl, lc, _, 0, _, rfl, rfl, SqL.of hlc7, atI_nat (j := 0) hq0, qa, _, 2, _, rfl, rfl, hqa7, atI_nat (j := 2) rfl, ?_⟩
    refine ⟨h, dx, x, d1, d2, d3, c0.1, c0.2.1, c0.2.2, ss, ws, _, _, rfl, hh7, nin (ru.en c0 c0m).1, nin (ru.en c0 c0m).2, ru.cw c0 c0m, addTs_mem.mpr (.inr c0m), fun H8 B8 hh8 => ?_⟩
    have O8 : Off4 p d1 d2 d3 H2 H8 := O7.trans fun a o _ _ _ n e => B8 a o n e
    have kn8 := O8.kn st2 hh2.h1 hh2.h2 hh2.h3
    refine ⟨_, rfl, _, rfl, _, rfl, x, mr, q, ss, ws, ss', ws', r, row, rfl, hh8.hs, kn8.rl (hrl.same S2), kn8.sqT (same_seqT S02 LK.q), rk, s4, s1, LM.so, ro, fun _ _ t2 h2 dx2 e1 e2 e3 H9 _ _ _ _ _ S9 ht2 hh9 => ?_, fun o ho => by rw [due] at ho; cases ho⟩
    dsimp only [gName, List.set_cons_succ, List.set_cons_zero]
    have O9 := O8.trans (Same.off4 S9)
    have kn9 := O9.kn st2 hh2.h1 hh2.h2 hh2.h3
    have LK9 : Look K HC S H9 h2 dx2 x e1 e2 e3 t q ss ws as bs cs r row := ⟨hh9, kn9.sch (LK.sc.same S02), kn9.mrul (LK.m.kp (Same.kp S02)), kn9.sqT (same_seqT S02 LK.q)⟩
    refine ⟨_, rfl, t2, _, 0, _, rfl, rfl, SqT.of ht2, atI_nat (j := 0) rfl, rfl, ?_⟩
    refine ⟨_, rfl, ?_⟩
    rw [decide_eq_true (rfl : V.str (Str.ofString "told") = V.str (Str.ofString "told"))]
    refine iteT ⟨_, rfl, t2, _, 1, _, rfl, rfl, SqT.of ht2, atI_nat (j := 1) rfl, _, rfl, _, rfl, _, rfl, h2, dx2, x, e1, e2, e3, t, q, ss, ws, as, bs, cs, r, row, rfl, LK9, LM, fun H10 S10 => kk _ ?_⟩
    exact (Same.off4 S02).trans (O9.trans (Same.off4 S10))
end
end Wm
/-! two lists of the same flat contents -/
namespace Wm
open PySem PySem.Spec PyProof.Rows L2
def rNeF : R2 := fun x y H Q => ∃ (a b : Addr) (xs : List V), x = .ref a ∧ y = .ref b ∧ H a = some (.lst xs) ∧ H b = some (.lst xs) ∧ (∀ v ∈ xs, fltV v) ∧ Q (.bl false) H
theorem op_neF {X : Cx} (hu1 : X.A.units + 1 < cLine) : OpR X (compareOp .NotEq) rNeF := by
  have hu : X.A.units < cLine := by omega
  intro pins s σ H x y v u Q I rx ry h
  obtain ⟨a, b, xs, rfl, rfl, ha, hb, fl, q⟩ := h
  cases rx
  cases ry
  obtain ⟨z, its, k, r, e⟩ := I.hok a _ ha
  obtain ⟨z2, its2, k2, r2, e2⟩ := I.hok b _ hb
  have l1 := vals_len r
  have l2 := vals_len r2
  have hr := SeqAt.RcNeAt.lists (A := X.A) (s := s) (l := a) (b := b) (items := its.toArray) (items2 := its2.toArray) (e := fun _ => true) ⟨_, e, rfl, _, rfl⟩ ⟨_, e2, rfl, _, rfl⟩ (by simp [l1, l2]) hu (fun j h1 h2 => by
    have h1' : j < its.length := by simpa using h1
    have h2' : j < its2.length := by simpa using h2
    have hx : j < xs.length := by omega
    have q := eq_flat (A := X.A.in1) (s := s) (fl _ (List.getElem_mem hx)) (vals_at r j hx h1') (vals_at r2 j hx h2')
    simpa using q)
  have e3 : (!(List.range its.toArray.size).all fun _ => true) = false := by simp
  rw [e3] at hr
  show wpAny _ _ (richCompare .NotEq (.ref a) (.ref b)) _ _ _
  exact hr X.prog X.w X.xe _ ⟨.bl false, H, I, rfl, q⟩
end Wm
namespace Wm
open PySem L2 StX
def spCel (K : PySem.W.Frag) : Sp := fun vs H Q _ => ∃ (a : Addr) (ns : List Int) (j : Nat), vs = [.ref a, .int j] ∧ SqL K H a (ns.map V.int) ∧ ∀ i : Int, Q (.int i) H
def spLaw (K : PySem.W.Frag) : Sp := fun vs H Q _ => ∃ (a : Addr) (ns : List Int), vs = [.ref a] ∧ SqL K H a (ns.map V.int) ∧ ns.length ≤ 63 ∧ ∀ H', Q (.bl true) H'
def refD (k : Nat) (z : Str) : PyData := .tuple [.str "refused", .list ((flg k).map PyData.bool), .str z]
theorem RefAt.dp {K : PySem.W.Frag} {H : Hp} {v : V} {k : Nat} {z : Str} (h : RefAt H v (some (k, z))) : Dp K H v (refD k z) := by
  obtain ⟨t, l, rfl, h1, h2⟩ := h
  exact .tup (SqT.of h1) (.cons (.str _) (.cons (.lst (SqL.of h2) (.cons (.bl _) (.cons (.bl _) (.cons (.bl _) .nil)))) (.cons (.str _) .nil)))
theorem ref2_sh {k : Nat} {z : Str} (hz : okS z) : SeqAt.shaped (.list [refD k z, refD k z]) = true := by
  have s1 := strOk_of okS_rf
  have s2 := strOk_of hz
  simp [refD, flg, SeqAt.shaped, PyData.canLay0, PyData.canLayAll0, PyData.depth, PyData.depthAll, s1, s2]
theorem due_ok {ss ws : List Str} {r : RlD} {row : List Str} {k : Nat} {z : Str} (h1 : ∀ v ∈ r.p.vars, ∀ z, v.2 = some z → okS z) (h2 : ∀ t ∈ r.p.cs ++ [r.g], okS t.2.1) (h3 : okS r.p.nm) (h : dueL ss ws r row = some (k, z)) : okS z := by
  unfold dueL at h
  split at h
  · rename_i y e
    cases h
    obtain ⟨v, hv, e2⟩ := List.mem_filterMap.mp (List.mem_of_find?_eq_some e)
    exact h1 v hv _ e2
  · split at h
    · rename_i y e
      cases h
      obtain ⟨t, ht, e2⟩ := List.mem_map.mp (List.mem_of_find?_eq_some e)
      rw [← e2]
      exact h2 t ht
    · split at h
      · cases h
      · cases h
        exact h3
theorem due_none {ss ws ss' ws' : List Str} {r : RlD} {row : List Str} (rk : RuleOk ss' ws' r) (h : dueL ss ws r row = none) : RuOk ss ws r ∧ row ∈ rowsOf ss r := by
  unfold dueL at h
  split at h
  · cases h
  · rename_i e1
    split at h
    · cases h
    · rename_i e2
      split at h
      · rename_i e3
        exact ⟨rk.ru2 e1 e2, e3⟩
      · cases h
/-- a rule whose names may be told -/
structure Told (ss' ws' : List Str) (r : RlD) : Prop where
  ok : RuleOk ss' ws' r
  so : ∀ z ∈ ss', NmP z ∧ z.length ≤ 12
  wo : ∀ z ∈ ws', NmP z ∧ z.length ≤ 12
  nn : NmP r.p.nm ∧ r.p.nm.length ≤ 12
theorem isn_of {zs : List Str} (h : ∀ z ∈ zs, NmP z ∧ z.length ≤ 12) : ∀ z ∈ zs, isNm z = true ∧ z.length ≤ 12 := fun z hz => ⟨nm_is (h z hz).1 (h z hz).2, (h z hz).2⟩
theorem Told.tx {ss' ws' : List Str} {r : RlD} (h : Told ss' ws' r) : ∀ z ∈ textsL r.p.nm r.p.vars (r.p.cs ++ [r.g]), isNm z = true ∧ z.length ≤ 12 :=
  texts_of h.ok ⟨nm_is h.nn.1 h.nn.2, h.nn.2⟩ (isn_of h.so) (isn_of h.wo)
theorem Told.vo {ss' ws' : List Str} {r : RlD} (h : Told ss' ws' r) : ∀ v ∈ r.p.vars, ∀ z, v.2 = some z → okS z := fun v hv z e => (h.so z (h.ok.vs v hv z e)).1.ok
theorem Told.due {ss' ws' ss ws : List Str} {r : RlD} {row : List Str} {k : Nat} {z : Str} (h : Told ss' ws' r) (e : dueL ss ws r row = some (k, z)) : okS z := by
  refine due_ok h.vo (fun t ht => ?_) h.nn.1.ok e
  rcases List.mem_append.mp ht with q | q
  · exact (h.wo _ (h.ok.cw t q)).1.ok
  · rw [List.mem_singleton.mp q]
    exact (h.wo _ h.ok.gw).1.ok
theorem Told.lim {ss' ws' ss ws : List Str} {as bs : List Addr} {r : RlD} {row : List Str} (h : Told ss' ws' r) (ru : RuOk ss ws r) (m : row ∈ rowsOf ss r) (h1 : ∀ z ∈ ss, okS z) (h2 : ∀ z ∈ ws, okS z) : Lim ss ws as bs r row := by
  have l := (ru.row m).1
  have vn : ∀ z ∈ r.p.vars.map (·.1), okS z := fun z hz => by
    obtain ⟨v, hv, e⟩ := List.mem_map.mp hz
    rw [← e]
    exact (h.ok.vn v hv).2.2
  exact ⟨l, by have := ru.v4; omega, ru.c3, ru.nd, vn, h1, h2, fun t ht => ⟨vn _ (ru.en t ht).1, (h.wo _ (h.ok.cw t ht)).1.ok, vn _ (ru.en t ht).2⟩⟩
theorem mk_sk {ss ws : List Str} {ms : List MkD} {rs : List RlD} (snd : ss.Nodup) (wnd : ws.Nodup) (s1 : 1 ≤ ss.length) (s4 : ss.length ≤ 4) (w1 : 1 ≤ ws.length) (w5 : ws.length ≤ 5) (h1 : ∀ z ∈ ss, NmP z ∧ z.length ≤ 12) (h2 : ∀ z ∈ ws, NmP z ∧ z.length ≤ 12) (km : KmOk ss ws ms) (m9 : ms.length ≤ 10) (r8 : rs.length ≤ 8) (rok : ∀ r ∈ rs, RuleOk ss ws r) (rn : (rs.map (·.p.nm)).Nodup) (nn : ∀ r ∈ rs, NmP r.p.nm ∧ r.p.nm.length ≤ 12) : SkOk ss ws ms rs := by
  have isn : ∀ {zs : List Str}, (∀ z ∈ zs, NmP z ∧ z.length ≤ 12) → ∀ z ∈ zs, isNm z = true ∧ z.length ≤ 12 := fun h z hz => ⟨nm_is (h z hz).1 (h z hz).2, (h z hz).2⟩
  refine ⟨⟨⟨isn h1, snd⟩, ⟨isn h2, wnd⟩, s1, s4, w1, w5, by omega, r8, by show 0 ≤ 4; decide, km.nd, rn, List.nodup_nil, fun z hz => (h1 z hz).1.ok, fun x hx => ?_, fun x hx => ?_, fun x hx => ?_, fun x hx => km.sb x hx, fun x hx => ?_, fun x hx => (List.not_mem_nil hx).elim⟩, fun x hx z hz => ?_, km.un, fun r hr => (rok r hr).pt, fun r hr => texts_of (rok r hr) ⟨nm_is (nn r hr).1 (nn r hr).2, (nn r hr).2⟩ (isn h1) (isn h2)⟩
  · obtain ⟨i, j, _, a, b⟩ := km.at_ x hx
    exact ⟨List.mem_of_getElem? a, List.mem_of_getElem? b⟩
  · obtain ⟨i, j, l, a, b⟩ := km.at_ x hx
    exact ⟨i, j, l, a, b⟩
  · obtain ⟨a, b⟩ := km.ln x hx
    omega
  · have q := rok x hx
    exact ⟨q.pt.v4, q.pt.c3, q.vs, q.cw, q.gw⟩
  · obtain ⟨i, j, _, a, b⟩ := km.at_ x hx
    obtain ⟨c, d⟩ := km.sb x hx
    rcases List.mem_cons.mp hz with rfl | hz
    · exact isn h1 _ (List.mem_of_getElem? a)
    · rcases List.mem_cons.mp hz with rfl | hz
      · exact isn h1 _ (List.mem_of_getElem? b)
      · rcases List.mem_append.mp hz with hz | hz
        · exact isn h2 _ (c z hz)
        · exact isn h2 _ (d z hz)

section
variable {P : Program} {w : World} {K : PySem.W.Frag} {mg : Str → Option Value} {base : Heap}
theorem scCel : FnScope ["_law_script", "_law_k"] ["_law_script", "_law_k"] (defScope sCel) := ⟨rfl, rfl, rfl, by decide +kernel, rfl, by decide +kernel, by decide +kernel⟩
theorem ok_cel {f : Addr} {fd : FuncData} (F : Fun K "_law_cell_at" "_law_cell_at" sCel f fd) (T : TxB mg) : FnOk P w K mg base CX0 1 f fd ["_law_script", "_law_k"] (spCel K) := by
  refine F.ok scCel (fun vs H Q E h => ?_) (fun cdv A outer s H vs Q E hr h => ?_)
  · obtain ⟨a, ns, j, rfl, _⟩ := h
    rfl
  · obtain ⟨a, ns, j, rfl, hS, k⟩ := h
    refine ⟨_, (pss_cons (ps_if (pt_cmpR op_lt (pv 1) (pe_callB call_len_seq (by rfl) T.len (by decide +kernel) (pa_cons (pv 0) pa_nil)) (nomark _)) (pss_one (ps_ret (pe_ix ix_list (pv 0) (pv 1) (fun _ _ => rfl)))) pss_nil)
      (pss_one (ps_ret pe_int))), ?_⟩
    refine ⟨_, rfl, _, rfl, a, _, rfl, .inl hS, _, _, rfl, rfl, _, rfl, ite2 (fun h => ?_) (fun h => ?_)⟩
    · have h1 := of_decide_eq_true h
      rw [List.length_map] at h1
      have hj : j < ns.length := by omega
      refine ⟨_, rfl, _, rfl, a, _, _, .int ns[j], rfl, rfl, hS, atI_nat (j := j) ?_, k _⟩
      rw [List.getElem?_map, List.getElem?_eq_getElem hj]
      rfl
    · exact k 0
theorem scLaw : FnScope ["_law_script", "_law_cell", "_law_well_here", "_law_odd", "_law_names_here", "_law_sorts", "_law_words", "_law_makings_here", "_law_rules", "_law_k", "_law_strange", "_law_some", "_law_rule", "_law_row", "_law_scheme", "_law_due", "_law_told"] ["_law_script"] (defScope sLaw) := ⟨rfl, rfl, rfl, by decide +kernel, rfl, by decide +kernel, by decide +kernel⟩
theorem ok_law {f fC fW fG fPk fNm fN fA fMk fMs fRo fRf fMr fSa fOn S MB RB BB HC : Addr} {fd dC dW dG dPk dNm dN dA dMk dMs dRo dRf dMr dSa dOn : FuncData} (F : Fun K "law" "law" sLaw f fd) (T : TxB mg) (tl : mg "list" = none)
    (DC : Dn K mg "_law_cell_at" sCel ["_law_script", "_law_k"] fC dC) (DWl : Dn K mg "_law_well" sWel ["_law_cell"] fW dW) (DG : Dn K mg "_law_draw" sDrw ["_law_well_here", "_law_many"] fG dG) (DPk : Dn K mg "_law_pick" sPck ["_law_well_here", "_law_some"] fPk dPk)
    (DNm : Dn K mg "_law_name" sNam ["_law_well_here", "_law_taken"] fNm dNm) (GNm : FnOk P w K mg base CX0 3 fNm dNm ["_law_well_here", "_law_taken"] (spNam K))
    (DN : Dn K mg "_law_names" sNms ["_law_well_here", "_law_many"] fN dN) (GN : FnOk P w K mg base CX0 4 fN dN ["_law_well_here", "_law_many"] (spNms K))
    (DA : Dn K mg "_law_any_rule" sAny ["_law_well_here", "_law_name_here", "_law_sorts", "_law_words", "_law_most"] fA dA) (GA : FnOk P w K mg base CX0 5 fA dA ["_law_well_here", "_law_name_here", "_law_sorts", "_law_words", "_law_most"] (spAny K))
    (DMk : Dn K mg "_law_makings" sMks ["_law_well_here", "_law_sorts", "_law_words", "_law_many"] fMk dMk) (GMk : FnOk P w K mg base CX0 2 fMk dMk ["_law_well_here", "_law_sorts", "_law_words", "_law_many"] (spMks K))
    (DMs : Dn K mg "_law_made_scheme" sMdS ["_law_sorts", "_law_words", "_law_makings_here", "_law_rules"] fMs dMs) (GMs : FnOk P w K mg base CX0 9 fMs dMs ["_law_sorts", "_law_words", "_law_makings_here", "_law_rules"] (spMdS K S MB RB BB))
    (DRo : Dn K mg "_law_some_row" sRo ["_law_well_here", "_law_rule", "_law_sorts", "_law_strange"] fRo dRo) (GRo : FnOk P w K mg base CX0 3 fRo dRo ["_law_well_here", "_law_rule", "_law_sorts", "_law_strange"] (spRo K))
    (DRf : Dn K mg "_law_refusal" sRf ["_law_sorts", "_law_words", "_law_rule", "_law_row"] fRf dRf) (GRf : FnOk P w K mg base CX0 1 fRf dRf ["_law_sorts", "_law_words", "_law_rule", "_law_row"] (spRf K))
    (DMr : Dn K mg "_law_made_rule" sMdR ["_law_rule"] fMr dMr) (GMr : FnOk P w K mg base CX0 8 fMr dMr ["_law_rule"] (spMdR K RB))
    (DSa : Dn K mg "_law_said" sSai ["_law_scheme", "_law_rule", "_law_row"] fSa dSa) (GSa : FnOk P w K mg base CX0 8 fSa dSa ["_law_scheme", "_law_rule", "_law_row"] (spSai K HC S RB))
    (DOn : Dn K mg "_law_once" sOn ["_law_well_here", "_law_told", "_law_scheme", "_law_rule", "_law_row"] fOn dOn) (GOn : FnOk P w K mg base CX0 9 fOn dOn ["_law_well_here", "_law_told", "_law_scheme", "_law_rule", "_law_row"] (spOn K HC S RB)) :
    FnOk P w K mg base CX0 10 f fd ["_law_script"] (spLaw K) := by
  have GC : FnOk P w K mg base CX0 1 fC dC _ (spCel K) := ok_cel DC.F T
  have GWl : FnOk P w K mg base CX0 1 fW dW _ spWel := ok_wel DWl.F T
  have GG : FnOk P w K mg base CX0 1 fG dG _ spDrw := ok_drw DG.F
  have GPk : FnOk P w K mg base CX0 2 fPk dPk _ spPkL := ok_pkl DPk.F T DG
  refine F.ok scLaw (fun vs H Q E h => ?_) (fun cdv A outer s H vs Q E hr h => ?_)
  · obtain ⟨a, ns, rfl, _⟩ := h
    rfl
  · obtain ⟨a, ns, rfl, hA, hlen, kk⟩ := h
    have hr1 : Room 1 _ := hr.mono (by decide)
    have hr2 : Room 2 _ := hr.mono (by decide)
    have hr3 : Room 3 _ := hr.mono (by decide)
    have hr4 : Room 4 _ := hr.mono (by decide)
    have hr5 : Room 5 _ := hr.mono (by decide)
    have hr8 : Room 8 _ := hr.mono (by decide)
    have hr9 : Room 9 _ := hr
    have hu := hu_of hr
    refine ⟨_, (pss_cons (ps_for PassesOwn.never rfl (pi_list (pe_op op_cat (pe_lst (pa_cons (pe_call GC hr1 rfl DC.g DC.F.kp DC.b .nil pass0 (pa_cons (pv 0) (pa_cons pe_int pa_nil))) pa_nil)) (pe_slice sl_list (pv 0) (po_some pe_int) (po_some pe_int)))) (pg_name (i := 1) scLaw.nd rfl (Or.inl rfl)) (pss_cons (ps_set (i := 2) scLaw.nd rfl (Or.inl rfl) (pe_call GWl hr1 rfl DWl.g DWl.F.kp DWl.b .nil pass0 (pa_cons (pv 1) pa_nil)))
      (pss_cons (ps_set (i := 3) scLaw.nd rfl (Or.inl rfl) (pe_ix ix_list (pe_lst (pa_cons pe_int (pa_cons pe_int (pa_cons pe_int (pa_cons pe_int (pa_cons pe_int (pa_cons pe_int (pa_cons pe_int (pa_cons pe_int (pa_cons pe_int pa_nil)))))))))) (pe_call GG hr1 rfl DG.g DG.F.kp DG.b .nil pass0 (pa_cons (pv 2) (pa_cons pe_int pa_nil))) (fun _ _ => rfl)))
      (pss_cons (ps_set (i := 4) scLaw.nd rfl (Or.inl rfl) (pe_call GN hr4 rfl DN.g DN.F.kp DN.b .nil pass0 (pa_cons (pv 2) (pa_cons (pe_op op_add pe_int (pe_call GG hr1 rfl DG.g DG.F.kp DG.b .nil pass0 (pa_cons (pv 2) (pa_cons pe_int pa_nil)))) pa_nil))))
      (pss_cons (ps_set (i := 5) scLaw.nd rfl (Or.inl rfl) (pe_slice sl_list (pv 4) (po_some pe_int) po_none))
      (pss_cons (ps_set (i := 6) scLaw.nd rfl (Or.inl rfl) (pe_call GN hr4 rfl DN.g DN.F.kp DN.b .nil pass0 (pa_cons (pv 2) (pa_cons (pe_op op_add pe_int (pe_call GG hr1 rfl DG.g DG.F.kp DG.b .nil pass0 (pa_cons (pv 2) (pa_cons pe_int pa_nil)))) pa_nil))))
      (pss_cons (ps_set (i := 7) scLaw.nd rfl (Or.inl rfl) (pe_call GMk hr2 rfl DMk.g DMk.F.kp DMk.b .nil pass0 (pa_cons (pv 2) (pa_cons (pv 5) (pa_cons (pv 6) (pa_cons pe_int pa_nil))))))
      (pss_cons (ps_set (i := 8) scLaw.nd rfl (Or.inl rfl) (pe_lst pa_nil))
      (pss_cons (ps_for PassesOwn.never rfl (pi_range1 rfl T.range (pa_cons (pe_call GG hr1 rfl DG.g DG.F.kp DG.b .nil pass0 (pa_cons (pv 2) (pa_cons pe_int pa_nil))) pa_nil)) (pg_name (i := 9) scLaw.nd rfl (Or.inl rfl)) (pss_one (ps_expr (pe_bm PySem.F.plainAttrs_list PySem.F.slot_list_append PySem.F.type_list_append mt_append (pv 8) (pa_cons (pe_call GA hr5 rfl DA.g DA.F.kp DA.b .nil pass0 (pa_cons (pv 2) (pa_cons (pe_ix ix_list (pv 4) (pv 9) (fun _ _ => rfl)) (pa_cons (pv 5) (pa_cons (pv 6) (pa_cons pe_int pa_nil)))))) pa_nil)))))
      (pss_cons (ps_set (i := 10) scLaw.nd rfl (Or.inl rfl) (pe_call GNm hr3 rfl DNm.g DNm.F.kp DNm.b .nil pass0 (pa_cons (pv 2) (pa_cons (pe_op op_cat (pv 5) (pv 6)) pa_nil))))
      (pss_cons (ps_set (i := 11) scLaw.nd rfl (Or.inl rfl) (pe_op op_cat (pv 5) (pe_op op_rep (pe_lst (pa_cons (pv 10) pa_nil)) (pe_op op_mod (pv 3) pe_int))))
      (pss_cons (ps_set (i := 12) scLaw.nd rfl (Or.inl rfl) (pe_call GA hr5 rfl DA.g DA.F.kp DA.b .nil pass0 (pa_cons (pv 2) (pa_cons (pe_ix ix_list (pv 4) pe_int (fun _ _ => rfl)) (pa_cons (pv 11) (pa_cons (pe_op op_cat (pv 6) (pe_op op_rep (pe_lst (pa_cons (pv 10) pa_nil)) (pe_op op_fdiv (pv 3) pe_int))) (pa_cons pe_int pa_nil)))))))
      (pss_cons (ps_if (PW.pt (pw_and (pt_cmpR (op_neE (hu_of hr)) (pv 8) (pe_lst pa_nil) (nomark _)) (pw_and1 (pt_cmpR op_eq (pe_call GG hr1 rfl DG.g DG.F.kp DG.b .nil pass0 (pa_cons (pv 2) (pa_cons pe_int pa_nil))) pe_int (nomark _))))) (pss_one (ps_set (i := 12) scLaw.nd rfl (Or.inl rfl) (pe_ix ix_list (pv 8) pe_int (fun _ _ => rfl)))) pss_nil)
      (pss_cons (ps_set (i := 13) scLaw.nd rfl (Or.inl rfl) (pe_call GRo hr3 rfl DRo.g DRo.F.kp DRo.b .nil pass0 (pa_cons (pv 2) (pa_cons (pv 12) (pa_cons (pv 5) (pa_cons (pv 10) pa_nil))))))
      (pss_cons (ps_set (i := 14) scLaw.nd rfl (Or.inl rfl) (pe_call GMs hr9 rfl DMs.g DMs.F.kp DMs.b .nil pass0 (pa_cons (pv 5) (pa_cons (pv 6) (pa_cons (pv 7) (pa_cons (pv 8) pa_nil))))))
      (pss_cons (ps_set (i := 15) scLaw.nd rfl (Or.inl rfl) (pe_call GRf hr1 rfl DRf.g DRf.F.kp DRf.b .nil pass0 (pa_cons (pv 5) (pa_cons (pv 6) (pa_cons (pv 12) (pa_cons (pv 13) pa_nil))))))
      (pss_cons (ps_set (i := 16) scLaw.nd rfl (Or.inl rfl) (pe_call GSa hr8 rfl DSa.g DSa.F.kp DSa.b .nil pass0 (pa_cons (pv 14) (pa_cons (pe_call GMr hr8 rfl DMr.g DMr.F.kp DMr.b .nil pass0 (pa_cons (pv 12) pa_nil)) (pa_cons (pv 13) pa_nil)))))
      (pss_cons (ps_if (PW.pt (pw_and (pt_cmp (pc_isN (pv 15))) (pw_and1 (pt_not (pt_val (pe_call GOn hr9 rfl DOn.g DOn.F.kp DOn.b .nil pass0 (pa_cons (pv 2) (pa_cons (pv 16) (pa_cons (pv 14) (pa_cons (pv 12) (pa_cons (pv 13) pa_nil))))))))))) (pss_one (ps_ret pe_bl)) pss_nil)
      (pss_one (ps_if (PW.pt (pw_and (pt_cmp (pc_notN (pv 15))) (pw_and1 (pt_cmpR (op_neD hr.units) (pe_lst (pa_cons (pv 16) (pa_cons (pe_call GSa hr8 rfl DSa.g DSa.F.kp DSa.b .nil pass0 (pa_cons (pv 14) (pa_cons (pe_call GMr hr8 rfl DMr.g DMr.F.kp DMr.b .nil pass0 (pa_cons (pv 12) pa_nil)) (pa_cons (pv 13) pa_nil)))) pa_nil))) (pe_lst (pa_cons (pv 15) (pa_cons (pv 15) pa_nil))) (nomark _))))) (pss_one (ps_ret pe_bl)) pss_nil))))))))))))))))))))
      (pss_one (ps_ret pe_bl))), ?_⟩
    rw [show L2.start ["_law_script", "_law_cell", "_law_well_here", "_law_odd", "_law_names_here", "_law_sorts", "_law_words", "_law_makings_here", "_law_rules", "_law_k", "_law_strange", "_law_some", "_law_rule", "_law_row", "_law_scheme", "_law_due", "_law_told"] [V.ref a] = [some (.ref a), none, none, none, none, none, none, none, none, none, none, none, none, none, none, none, none] from rfl]
    refine ⟨_, rfl, a, ns, 0, rfl, hA, fun ci => ⟨by show 1 ≤ sizeLine; decide, fun l1 hl1 => ?_⟩⟩
    have T1 : Same H (upd H l1 (.lst [.int ci])) := Same.upd hl1
    have e1 : (upd H l1 (.lst [.int ci])) l1 = some (.lst [.int ci]) := upd_same
    generalize upd H l1 (.lst [.int ci]) = H1 at T1 e1
    refine ⟨_, rfl, _, rfl, _, rfl, a, _, rfl, T1.seq hA, fun l2 hl2 => ?_⟩
    have T2 : Same H1 (upd H1 l2 (.lst (cutV (ns.map V.int) (some 1) (some 10)))) := Same.upd hl2
    have e2 : (upd H1 l2 (.lst (cutV (ns.map V.int) (some 1) (some 10)))) l2 = some (.lst (cutV (ns.map V.int) (some 1) (some 10))) := upd_same
    generalize upd H1 l2 (.lst (cutV (ns.map V.int) (some 1) (some 10))) = H2 at T2 e2
    have cl : (cutV (ns.map V.int) (some 1) (some 10)).length ≤ 63 := by
      unfold cutV
      rw [List.length_take, List.length_drop, List.length_map]
      omega
    refine ⟨l1, l2, _, _, rfl, rfl, T2 _ _ e1, e2, Nat.le_trans (show _ ≤ 1000 by show 1 + _ ≤ 1000; omega) (by decide), fun L hL => ?_⟩
    have T3_ : Same H2 (upd H2 L (.lst ([.int ci] ++ cutV (ns.map V.int) (some 1) (some 10)))) := Same.upd hL
    have e3 : (upd H2 L (.lst ([.int ci] ++ cutV (ns.map V.int) (some 1) (some 10)))) L = some (.lst ([.int ci] ++ cutV (ns.map V.int) (some 1) (some 10))) := upd_same
    generalize upd H2 L (.lst ([.int ci] ++ cutV (ns.map V.int) (some 1) (some 10))) = H3 at T3_ e3
    refine ⟨L, rfl, ⟨_, SqL.of e3⟩, for_list (K := K) (a := L) (xs := [.int ci] ++ cutV (ns.map V.int) (some 1) (some 10)) (fun i σ H' => Same H3 H' ∧ ∃ u1 u2 u3 u4 u5 u6 u7 u8 u9 u10 u11 u12 u13 u14 u15 u16, σ = [some (.ref a), u1, u2, u3, u4, u5, u6, u7, u8, u9, u10, u11, u12, u13, u14, u15, u16]) ⟨Same.refl _, _, _, _, _, _, _, _, _, _, _, _, _, _, _, _, _, rfl⟩ (fun i σ H' _ h => SqL.of (h.1 _ _ e3)) ?_ ?_⟩
    · rintro i v σ H4 hv ⟨S4, u1, u2, u3, u4, u5, u6, u7, u8, u9, u10, u11, u12, u13, u14, u15, u16, rfl⟩
      obtain ⟨ci, rfl⟩ : ∃ i, v = .int i := by
        rcases List.mem_append.mp (List.mem_of_getElem? hv) with q | q
        · exact ⟨_, List.mem_singleton.mp q⟩
        · exact cut_ints q
      dsimp only [gName, List.set_cons_succ, List.set_cons_zero]
      refine ⟨_, rfl, ci, rfl, fun p H5 hp S5 st5 => ?_⟩
      dsimp only [gName, List.set_cons_succ, List.set_cons_zero]
      refine ⟨by show 9 ≤ sizeLine; decide, fun l hl => ?_⟩
      have nlp := st_free st5.ok hl
      refine ⟨_, rfl, p, 9, 0, rfl, st5.upd nlp, by decide, by decide, by decide, fun d H6 d0 d1 B6 st6 => ?_⟩
      have hl6 := B6 l _ nlp upd_same
      have SA6 : Same H4 H6 := fun b o e => B6 b o (ne_of_none e hp) ((Same.upd hl) _ _ (S5 _ _ e))
      obtain ⟨od, hod, o3⟩ : ∃ od : Nat, [V.int 0, .int 0, .int 0, .int 0, .int 0, .int 0, .int 1, .int 2, .int 3][d.toNat]? = some (.int (od : Int)) ∧ od ≤ 3 := by
        rcases (by omega : d = 0 ∨ d = 1 ∨ d = 2 ∨ d = 3 ∨ d = 4 ∨ d = 5 ∨ d = 6 ∨ d = 7 ∨ d = 8) with rfl | rfl | rfl | rfl | rfl | rfl | rfl | rfl | rfl
        · exact ⟨0, rfl, by decide⟩
        · exact ⟨0, rfl, by decide⟩
        · exact ⟨0, rfl, by decide⟩
        · exact ⟨0, rfl, by decide⟩
        · exact ⟨0, rfl, by decide⟩
        · exact ⟨0, rfl, by decide⟩
        · exact ⟨1, rfl, by decide⟩
        · exact ⟨2, rfl, by decide⟩
        · exact ⟨3, rfl, by decide⟩
      refine rdList hl6 (j := d.toNat) (by omega) hod ?_
      dsimp only [gName, List.set_cons_succ, List.set_cons_zero]
      refine ⟨_, rfl, _, rfl, p, 4, 1, rfl, st6, by decide, by decide, by decide, fun d2 H7 d20 d21 B7 st7 => ⟨_, _, rfl, rfl, p, 4 + d2, 2, rfl, st7, by decide, by omega, by omega, fun nsl nl H8 nl0 nlp' B8 st8 hnl nlen nnd nnm => ?_⟩⟩
      dsimp only [gName, List.set_cons_succ, List.set_cons_zero]
      have SA8 : Same H4 H8 := fun b o e => B8 b o (ne_of_none e hp) (B7 b o (ne_of_none e hp) (SA6 b o e))
      have st8 : StN 150 H8 p := st8.mono (by omega)
      obtain ⟨n0, n1, n2, ss, rfl⟩ : ∃ n0 n1 n2 b, nsl = n0 :: n1 :: n2 :: b := by
        rcases nsl with _ | ⟨n0, _ | ⟨n1, _ | ⟨n2, b⟩⟩⟩
        · simp at nlen; omega
        · simp at nlen; omega
        · simp at nlen; omega
        · exact ⟨n0, n1, n2, b, rfl⟩
      have sl1 : 1 ≤ ss.length := by simp only [List.length_cons] at nlen; omega
      have sl4 : ss.length ≤ 4 := by simp only [List.length_cons] at nlen; omega
      have snd : ss.Nodup := (List.nodup_cons.mp (List.nodup_cons.mp (List.nodup_cons.mp nnd).2).2).2
      have snm : ∀ z ∈ ss, NmP z ∧ z.length ≤ 12 := fun z hz => nnm z (List.mem_cons_of_mem _ (List.mem_cons_of_mem _ (List.mem_cons_of_mem _ hz)))
      refine ⟨_, rfl, _, rfl, nl, _, rfl, SqL.of hnl, fun ls hls0 => ?_⟩
      rw [show cutV ((n0 :: n1 :: n2 :: ss).map V.str) (some 3) none = ss.map V.str by rw [show (3 : Int) = ((3 : Nat) : Int) from rfl, cut_drop]; rfl]
      dsimp only [gName, List.set_cons_succ, List.set_cons_zero]
      have T9 : Same H8 (upd H8 ls (.lst (ss.map V.str))) := Same.upd hls0
      have hls : (upd H8 ls (.lst (ss.map V.str))) ls = some (.lst (ss.map V.str)) := upd_same
      generalize upd H8 ls (.lst (ss.map V.str)) = H9 at T9 hls
      have st9 := st8.same T9
      have SA9 := SA8.trans T9
      have hnl9 := T9 _ _ hnl
      refine ⟨_, rfl, _, rfl, p, 3, 150, rfl, st9, by decide, by decide, by decide, fun d3 H10 d30 d31 B10 st10 => ⟨_, _, rfl, rfl, p, 1 + d3, 151, rfl, st10, by decide, by omega, by omega, fun ws lw H11 lw0 lwp B11 st11 hlw wlen wnd wnm => ?_⟩⟩
      dsimp only [gName, List.set_cons_succ, List.set_cons_zero]
      have SA11 : Same H4 H11 := fun b o e => B11 b o (ne_of_none e hp) (B10 b o (ne_of_none e hp) (SA9 b o e))
      have k11 : Kp H9 H11 := (B10.kp st9.ok).trans (B11.kp st10.ok)
      have st11 : StN 230 H11 p := st11.mono (by omega)
      have wl1 : 1 ≤ ws.length := by omega
      have wl5 : ws.length ≤ 5 := by omega
      have hls11 := k11 _ _ ns_strs hls
      have hnl11 := k11 _ _ ns_strs hnl9
      -- the makings
      refine ⟨_, rfl, _, rfl, _, rfl, p, ls, lw, 3, 230, ss, ws, rfl, st11, by decide, by decide, hls11, hlw, sl1, by omega, by omega, wnd, fun z hz => (snm z hz).1.ok, fun lm as ms H13 kmo msl lm0 B13 st13 hlm hmk => ?_⟩
      dsimp only [gName, List.set_cons_succ, List.set_cons_zero]
      have SA13 : Same H4 H13 := fun b o e => B13 b o (ne_of_none e hp) (SA11 b o e)
      have k13 : Kp H11 H13 := B13.kp st11.ok
      have hls13 := k13 _ _ ns_strs hls11
      have hlw13 := k13 _ _ ns_strs hlw
      have hnl13 := k13 _ _ ns_strs hnl11
      have st13 : StN 540 H13 p := st13.mono (by decide)
      -- the rules
      refine ⟨Nat.zero_le _, fun lr hlr0 => ?_⟩
      have nrp := st_free st13.ok hlr0
      dsimp only [gName, List.set_cons_succ, List.set_cons_zero]
      refine ⟨_, rfl, p, 3, 540, rfl, st13.upd nrp, by decide, by decide, by decide, fun d5 H14 d50 d51 B14 st14 => ⟨d5, rfl, by omega, by omega, ?_⟩⟩
      have hlr14 : H14 lr = some (.lst ([].map V.ref)) := B14 _ _ nrp upd_same
      have B14' : But p H13 H14 := fun q o n e => B14 q o n ((Same.upd hlr0) _ _ e)
      refine for_range (n := d5.toNat) (fun i σ H' => ∃ (u9 : Option V) (bs : List Addr) (rs : List RlD), σ = [some (.ref a), some (.int ci), some (.ref p), some (.int (od : Int)), some (.ref nl), some (.ref ls), some (.ref lw), some (.ref lm), some (.ref lr), u9, u10, u11, u12, u13, u14, u15, u16] ∧ But p H13 H' ∧ StN (541 + 300 * i) H' p ∧ H' lr = some (.lst (bs.map V.ref)) ∧ AllAt (MRulF K (upd H13 lr (.lst [])) H') bs rs ∧ (∀ r ∈ rs, RuleOk ss ws r) ∧ rs.map (·.p.nm) = (n0 :: n1 :: n2 :: ss).take i) ⟨u9, [], [], rfl, B14', st14, hlr14, True.intro, fun r h => absurd h List.not_mem_nil, rfl⟩ ?_ ?_
      · rintro i σ H15 hi ⟨u9, bs, rs, rfl, B15, st15, hlr15, hru, rok, rnm⟩
        dsimp only [gName, List.set_cons_succ, List.set_cons_zero]
        rw [show (0 + (i : Int)) = (i : Int) from Int.zero_add _]
        have k15 := B15.kp st13.ok
        have hnl15 := k15 _ _ ns_strs hnl13
        have hls15 := k15 _ _ ns_strs hls13
        have hlw15 := k15 _ _ ns_strs hlw13
        have i3 : i < 3 := by omega
        have il : i < (n0 :: n1 :: n2 :: ss).length := by simp only [List.length_cons]; omega
        refine ⟨_, rfl, .inl ⟨rfl, _, SqL.of hlr15⟩, _, rfl, _, rfl, _, rfl, nl, _, (i : Int), _, rfl, rfl, SqL.of hnl15, atI_nat (j := i) (stA il), _, rfl, _, rfl, p, ls, lw, (n0 :: n1 :: n2 :: ss)[i], ss, ws, 2, 541 + 300 * i, rfl, st15, by omega, hls15, hlw15, wl1, by omega, by omega, by decide, by decide, fun t r H18 er ro t0 B18 st18 hmr => ?_⟩
        have k18 := B18.kp st15.ok
        have hlr18 := k18 _ _ ns_refs hlr15
        refine ⟨lr, _, _, rfl, rfl, hlr18, ?_, _, bs ++ [t], rs ++ [r], rfl, ?_, ?_, ?_, ?_, ?_, ?_⟩
        · have z := hru.len
          have z2 := congrArg List.length rnm
          rw [List.length_map, List.length_take] at z2
          rw [List.length_map]
          exact Nat.lt_of_le_of_lt (show _ ≤ 1000 by omega) (by decide)
        · exact but_new (fun q o n e => B18 q o n (B15 q o n e)) nrp hlr0
        · exact (st18.upd nrp).mono (by omega)
        · rw [upd_same, List.map_append]
          rfl
        · have h0 : (upd H13 lr (.lst [])) lr = some (.lst []) := upd_same
          refine AllAt.append (hru.imp fun _ _ q => (q.kp k18).put h0 hlr18) ⟨(hmr.back fun q hq => ?_).put h0 hlr18, True.intro⟩
          by_cases e1 : q = lr
          · rw [e1, hlr15] at hq
            cases hq
          · rw [upd_ne e1]
            cases e2 : H13 q with
            | none => rfl
            | some o =>
              by_cases e3 : q = p
              · obtain ⟨x, y, z, e4, _⟩ := st15
                rw [e3, e4] at hq
                cases hq
              · rw [B15 q o e3 e2] at hq
                cases hq
        · intro r' hr'
          rcases List.mem_append.mp hr' with q | q
          · exact rok r' q
          · rw [List.mem_singleton.mp q]
            exact ro
        · rw [List.map_append, rnm, List.take_add_one, List.getElem?_eq_getElem il, List.map_singleton, er]
          rfl
      · rintro σ H15 ⟨u9, bs, rs, rfl, B15, st15, hlr15, hru, rok, rnm⟩
        have k15 := B15.kp st13.ok
        have hls15 := k15 _ _ ns_strs hls13
        have hlw15 := k15 _ _ ns_strs hlw13
        have hlm15 := k15 _ _ ns_refs hlm
        have hnl15 := k15 _ _ ns_strs hnl13
        have hmk15 := hmk.imp fun _ _ q => q.kp k15
        have hru15 := hru.imp fun _ _ q => q.rul
        have rl5 : rs.length ≤ 3 := by
          have z2 := congrArg List.length rnm
          rw [List.length_map, List.length_take] at z2
          omega
        have rnd : (rs.map (·.p.nm)).Nodup := by
          rw [rnm]
          exact List.Sublist.nodup (List.take_sublist _ _) nnd
        have rnn : ∀ r ∈ rs, NmP r.p.nm ∧ r.p.nm.length ≤ 12 := fun r hr => by
          have q : r.p.nm ∈ rs.map (·.p.nm) := List.mem_map_of_mem hr
          rw [rnm] at q
          exact nnm _ (List.mem_of_mem_take q)
        have st15 : StN 1500 H15 p := st15.mono (by omega)
        have SA15 : Same H4 H15 := fun b o e => B15 b o (ne_of_none e hp) (SA13 b o e)
        have sko := mk_sk snd wnd sl1 sl4 wl1 wl5 snm wnm kmo (by omega) (by omega) rok rnd rnn
        clear hru k15 B15 B14' st14 hlr14 hmk st13 hls13 hlw13 hnl13 hlm SA13 SA11 SA9 SA8 SA6 B14 k11 hls11 hnl11
        -- the strange name
        refine ⟨_, rfl, _, rfl, _, rfl, ls, lw, _, _, rfl, rfl, hls15, hlw15, Nat.le_trans (show _ ≤ 1000 by rw [List.length_map, List.length_map]; omega) (by decide), fun lt hlt => ?_⟩
        rw [← List.map_append]
        have T16 : Same H15 (upd H15 lt (.lst ((ss ++ ws).map V.str))) := Same.upd hlt
        have e16 : (upd H15 lt (.lst ((ss ++ ws).map V.str))) lt = some (.lst ((ss ++ ws).map V.str)) := upd_same
        have ntp := st_free st15.ok hlt
        generalize upd H15 lt (.lst ((ss ++ ws).map V.str)) = H16 at T16 e16
        have st16 := st15.same T16
        refine ⟨p, lt, _, 1500, rfl, st16, by decide, ntp, e16, by rw [List.length_append]; omega, fun zz H13 hzz hzl hzn B17 st17 => ?_⟩
        dsimp only [gName, List.set_cons_succ, List.set_cons_zero]
        have k13 : Kp H15 H13 := (Same.kp T16).trans (B17.kp st16.ok)
        have B13 : But p H15 H13 := fun q o n e => B17 q o n (T16 _ _ e)
        have st13 : StN 1600 H13 p := st17.mono (by decide)
        have hls13 := k13 _ _ ns_strs hls15
        have hlw13 := k13 _ _ ns_strs hlw15
        have hnl13 := k13 _ _ ns_strs hnl15
        refine ⟨_, rfl, _, rfl, by show 1 ≤ sizeLine; decide, fun l4 hl4 => ?_⟩
        have T14 : Same H13 (upd H13 l4 (.lst [.str zz])) := Same.upd hl4
        have e14 : (upd H13 l4 (.lst [.str zz])) l4 = some (.lst [.str zz]) := upd_same
        generalize upd H13 l4 (.lst [.str zz]) = H14 at T14 e14
        have m0 : 0 ≤ (od : Int) % 2 := Int.emod_nonneg _ (by decide)
        have m1 : (od : Int) % 2 < 2 := Int.emod_lt_of_pos _ (by decide)
        refine ⟨_, rfl, _, _, rfl, rfl, (by show (0 : Int) < 2; decide), l4, _, _, rfl, rfl, e14, by omega, by omega, Nat.le_trans (show _ ≤ 1000 by show 1 * _ ≤ 1000; omega) (by decide), fun l5 hl5 => ?_⟩
        rw [rep_strs]
        generalize hk1 : ((od : Int) % 2).toNat = k1
        have k11' : k1 ≤ 1 := by omega
        have Tb15 : Same H14 (upd H14 l5 (.lst ((List.replicate k1 zz).map V.str))) := Same.upd hl5
        have eb15 : (upd H14 l5 (.lst ((List.replicate k1 zz).map V.str))) l5 = some (.lst ((List.replicate k1 zz).map V.str)) := upd_same
        generalize upd H14 l5 (.lst ((List.replicate k1 zz).map V.str)) = Hb15 at Tb15 eb15
        have T1315 := T14.trans Tb15
        refine ⟨ls, l5, _, _, rfl, rfl, T1315 _ _ hls13, eb15, Nat.le_trans (show _ ≤ 1000 by rw [List.length_map, List.length_map, List.length_replicate]; omega) (by decide), fun l6 hl6 => ?_⟩
        rw [← List.map_append]
        dsimp only [gName, List.set_cons_succ, List.set_cons_zero]
        have T16 : Same Hb15 (upd Hb15 l6 (.lst ((ss ++ List.replicate k1 zz).map V.str))) := Same.upd hl6
        have e16 : (upd Hb15 l6 (.lst ((ss ++ List.replicate k1 zz).map V.str))) l6 = some (.lst ((ss ++ List.replicate k1 zz).map V.str)) := upd_same
        generalize upd Hb15 l6 (.lst ((ss ++ List.replicate k1 zz).map V.str)) = H16 at T16 e16
        have T1316 := T1315.trans T16
        have hnl16 := T1316 _ _ hnl13
        -- the rule
        refine ⟨_, rfl, _, rfl, nl, _, 2, _, rfl, rfl, SqL.of hnl16, atI_nat (j := 2) rfl, _, rfl, _, rfl, _, rfl, by show 1 ≤ sizeLine; decide, fun l7 hl7 => ?_⟩
        have T17 : Same H16 (upd H16 l7 (.lst [.str zz])) := Same.upd hl7
        have e17 : (upd H16 l7 (.lst [.str zz])) l7 = some (.lst [.str zz]) := upd_same
        generalize upd H16 l7 (.lst [.str zz]) = H17 at T17 e17
        have q0 : 0 ≤ (od : Int) / 2 := Int.ediv_nonneg (by omega) (by decide)
        have q1' : (od : Int) / 2 ≤ 1 := by omega
        refine ⟨_, rfl, _, _, rfl, rfl, ⟨by decide, by decide⟩, l7, _, _, rfl, rfl, e17, by omega, by omega, Nat.le_trans (show _ ≤ 1000 by show 1 * _ ≤ 1000; omega) (by decide), fun l8 hl8 => ?_⟩
        rw [rep_strs]
        generalize hk2 : ((od : Int) / 2).toNat = k2
        have k21 : k2 ≤ 1 := by omega
        have T18 : Same H17 (upd H17 l8 (.lst ((List.replicate k2 zz).map V.str))) := Same.upd hl8
        have e18 : (upd H17 l8 (.lst ((List.replicate k2 zz).map V.str))) l8 = some (.lst ((List.replicate k2 zz).map V.str)) := upd_same
        generalize upd H17 l8 (.lst ((List.replicate k2 zz).map V.str)) = H18 at T18 e18
        have T1318 := T1316.trans (T17.trans T18)
        refine ⟨lw, l8, _, _, rfl, rfl, T1318 _ _ hlw13, e18, Nat.le_trans (show _ ≤ 1000 by rw [List.length_map, List.length_map, List.length_replicate]; omega) (by decide), fun l9 hl9 => ?_⟩
        rw [← List.map_append]
        have T19 : Same H18 (upd H18 l9 (.lst ((ws ++ List.replicate k2 zz).map V.str))) := Same.upd hl9
        have e19 : (upd H18 l9 (.lst ((ws ++ List.replicate k2 zz).map V.str))) l9 = some (.lst ((ws ++ List.replicate k2 zz).map V.str)) := upd_same
        generalize upd H18 l9 (.lst ((ws ++ List.replicate k2 zz).map V.str)) = H19 at T19 e19
        have T1319 := T1318.trans T19
        have st19 := st13.same T1319
        have e1619 := (T17.trans T18).trans T19
        have srep : ∀ {k : Nat} {zs : List Str}, (∀ z ∈ zs, NmP z ∧ z.length ≤ 12) → ∀ z ∈ zs ++ List.replicate k zz, NmP z ∧ z.length ≤ 12 := fun {k zs} h z hz => by
          rcases List.mem_append.mp hz with q | q
          · exact h z q
          · rw [(List.mem_replicate.mp q).2]
            exact ⟨hzz, hzl⟩
        have sok := srep (k := k1) snm
        have wok := srep (k := k2) wnm
        refine ⟨p, l6, l9, n2, ss ++ List.replicate k1 zz, ws ++ List.replicate k2 zz, 3, 1600, rfl, st19, by decide, e1619 _ _ e16, e19, by rw [List.length_append]; omega, by rw [List.length_append, List.length_replicate]; omega, by rw [List.length_append, List.length_replicate]; omega, by decide, by decide, fun t r H20 er rok0 t0 B20 st20 hmr => ?_⟩
        dsimp only [gName, List.set_cons_succ, List.set_cons_zero]
        have k1320 : Kp H13 H20 := (Same.kp T1319).trans (B20.kp st19.ok)
        have B1520 : But p H15 H20 := fun q o n e => B20 q o n (T1319 _ _ (B13 q o n e))
        have k20 : Kp H15 H20 := k13.trans k1320
        have hmr : MRul K H20 t r := hmr.rul
        have tld : Told (ss ++ List.replicate k1 zz) (ws ++ List.replicate k2 zz) r := ⟨rok0, sok, wok, by rw [er]; exact nnm n2 (by simp)⟩
        generalize ss ++ List.replicate k1 zz = ss' at tld
        generalize ws ++ List.replicate k2 zz = ws' at tld
        clear rok0 sok wok
        have st20 : StN 1900 H20 p := st20.mono (by decide)
        refine cut1 (fun σ' H' => ∃ (t : Addr) (ss' ws' : List Str) (r : RlD), σ' = [some (.ref a), some (.int ci), some (.ref p), some (.int (od : Int)), some (.ref nl), some (.ref ls), some (.ref lw), some (.ref lm), some (.ref lr), u9, some (.str zz), some (.ref l6), some (.ref t), u13, u14, u15, u16] ∧ Told ss' ws' r ∧ But p H15 H' ∧ StN 2000 H' p ∧ MRul K H' t r) ?_ (fun R' fin => ?_)
        · rintro σ' H21 ⟨t, ss', ws', r, rfl, tld, B21, st21, hmr⟩
          have k21 := B21.kp st15.ok
          have hls21 := k21 _ _ ns_strs hls15
          refine ⟨_, rfl, _, rfl, _, rfl, _, rfl, p, t, ls, zz, 2000, ss, r, rfl, st21, by decide, hmr, hls21, sl1, by omega, tld.ok.pt.v1, tld.ok.pt.v4, fun z hz => (snm z hz).1.ok, hzz.ok, tld.vo, fun q row H22 r5 ro hq B22 st22 => ?_⟩
          dsimp only [gName, List.set_cons_succ, List.set_cons_zero]
          have B1522 := B21.trans B22
          have k22 := B1522.kp st15.ok
          have hls22 := k22 _ _ ns_strs hls15
          have hlw22 := k22 _ _ ns_strs hlw15
          have hlm22 := k22 _ _ ns_refs hlm15
          have hlr22 := k22 _ _ ns_refs hlr15
          have hmk22 := hmk15.imp fun _ _ q => q.kp k22
          have hru22 := hru15.imp fun _ _ q => q.kp k22
          have hmr22 := hmr.kp (B22.kp st21.ok)
          have SA22 : Same H4 H22 := fun b o e => B1522 b o (ne_of_none e hp) (SA15 b o e)
          -- the scheme
          refine ⟨_, rfl, _, rfl, _, rfl, _, rfl, ls, lw, lm, lr, ss, ws, as, bs, ms, rs, rfl, hls22, hlw22, hlm22, hmk22, hlr22, hru22, sko, fun x H23 xs ys nx S23 hsc pts => ?_⟩
          dsimp only [gName, List.set_cons_succ, List.set_cons_zero]
          -- what is due
          refine ⟨_, rfl, _, rfl, _, rfl, _, rfl, ls, lw, t, q, ss, ws, r, row, rfl, S23 _ _ hls22, S23 _ _ hlw22, hmr22.kp (Same.kp S23), SqT.of (S23 _ _ hq), by omega, tld.ok.pt.v4, tld.ok.pt.c3, fun dv H24 S24 had => ?_⟩
          dsimp only [gName, List.set_cons_succ, List.set_cons_zero]
          have S2224 := S23.trans S24
          have hmr24 := hmr22.kp (Same.kp S2224)
          -- what is told
          refine ⟨_, rfl, _, rfl, t, r, rfl, hmr24, tld.ok.pt, tld.tx, fun xr H25 xr0 S25 hat => ?_⟩
          have hsc25 := hsc.same (S24.trans S25)
          have hq25 := S25 _ _ (S2224 _ _ hq)
          have S2225 := S2224.trans S25
          refine ⟨_, rfl, x, xr, q, ss, ws, ss', ws', r, row, rfl, hsc25.weak, hat, SqT.of hq25, tld.ok, sl4, sl1, fun z hz => (snm z hz).1.ok, ro, fun due rm tt h dx d1 d2 d3 H26 tt0 h0 d10 d20 d30 S26 htt hhs => ?_, fun o due v H26 S26 hv => ?_⟩
          · dsimp only [gName, List.set_cons_succ, List.set_cons_zero]
            rw [due] at had
            obtain rfl : dv = .non := had
            have S2226 := S2225.trans S26
            obtain ⟨ru, mem⟩ := rm
            have LM := tld.lim (as := xs) (bs := ys) ru mem (fun z hz => (snm z hz).1.ok) (fun z hz => (wnm z hz).1.ok)
            refine ⟨_, rfl, _, rfl, ite2 (fun _ => ?_) (fun q => absurd (show decide (V.non = V.non) = true from decide_eq_true rfl) q)⟩
            refine ⟨_, rfl, _, rfl, _, rfl, _, rfl, _, rfl, p, tt, h, dx, x, d1, d2, d3, t, q, 2020, ss, ws, ss', ws', xs, ys, [], r, row, rfl, st22.same S2226, by decide, htt, ⟨hhs, hsc25.same S26, hmr22.kp (Same.kp S2226), SqT.of (S2226 _ _ hq)⟩, LM, tld.ok, tld.tx, ru, mem, due, sl4, sl1, ro, fun H27 O27 => ?_⟩
            refine ⟨_, rfl, iteF ?_⟩
            refine ⟨_, rfl, _, rfl, ite2 (fun q => absurd q (by simp)) (fun _ => ?_)⟩
            refine iteF ⟨fun b o e => ?_, _, _, _, _, _, _, _, _, _, _, _, _, _, _, _, _, rfl⟩
            have e25 := S2225 _ _ (SA22 _ _ (S4 _ _ e))
            have e26 := S26 _ _ e25
            exact O27 b o (ne_of_none (S4 _ _ e) hp) (ne_of_none e25 d10) (ne_of_none e25 d20) (ne_of_none e25 d30) e26
          · dsimp only [gName, List.set_cons_succ, List.set_cons_zero]
            rw [due] at had
            obtain ⟨kk_, z⟩ := o
            obtain ⟨td, ld, rfl, hd1, hd2⟩ := id had
            have sh := ref2_sh (k := kk_) (tld.due due)
            refine ⟨_, rfl, _, rfl, ite2 (fun q => absurd q (by simp)) (fun _ => ?_)⟩
            refine iteF ?_
            refine ⟨_, rfl, _, rfl, ite2 (fun _ => ?_) (fun q => absurd (by simp) q)⟩
            have S2226 := S2225.trans S26
            refine ⟨_, rfl, _, rfl, _, rfl, t, r, rfl, hmr22.kp (Same.kp S2226), tld.ok.pt, tld.tx, fun xr2 H27 xr20 S27 hat2 => ?_⟩
            have S2227 := S2226.trans S27
            refine ⟨_, rfl, x, xr2, q, ss, ws, ss', ws', r, row, rfl, (hsc25.same (S26.trans S27)).weak, hat2, SqT.of (S2227 _ _ hq), tld.ok, sl4, sl1, fun z hz => (snm z hz).1.ok, ro, (fun due2 => by rw [due] at due2; cases due2), fun o2 due2 v2 H28 S28 hv2 => ?_⟩
            obtain rfl : (kk_, z) = o2 := Option.some.inj (due.symm.trans due2)
            refine ⟨by show 2 ≤ sizeLine; decide, fun la hla => ⟨_, rfl, _, rfl, by show 2 ≤ sizeLine; decide, fun lb hlb => ?_⟩⟩
            have T29 : Same H28 (upd H28 la (.lst [v, v2])) := Same.upd hla
            have e29 : (upd H28 la (.lst [v, v2])) la = some (.lst [v, v2]) := upd_same
            generalize upd H28 la (.lst [v, v2]) = H29 at T29 e29 hlb
            have T30 : Same H29 (upd H29 lb (.lst [.ref td, .ref td])) := Same.upd hlb
            have e30 : (upd H29 lb (.lst [.ref td, .ref td])) lb = some (.lst [.ref td, .ref td]) := upd_same
            generalize upd H29 lb (.lst [.ref td, .ref td]) = H30 at T30 e30
            have T2830 := T29.trans T30
            have S2430 := (S25.trans S26).trans ((S27.trans S28).trans T2830)
            have dv1 := (hv.same ((S27.trans S28).trans T2830)).dp (K := K)
            have dv2 := (hv2.same T2830).dp (K := K)
            have dd := (had.same S2430).dp (K := K)
            refine ⟨_, _, .lst (SqL.of (T30 _ _ e29)) (.cons dv1 (.cons dv2 .nil)), .lst (SqL.of e30) (.cons dd (.cons dd .nil)), sh, sh, _, rfl, ?_⟩
            rw [eqv_self sh]
            exact iteF ⟨S4.trans (SA22.trans (S2227.trans (S28.trans T2830))), _, _, _, _, _, _, _, _, _, _, _, _, _, _, _, _, rfl⟩
        · have k1520 := B1520.kp st15.ok
          have hlr20 := k1520 _ _ ns_refs hlr15
          have hru20 := hru15.imp fun _ _ q => q.kp k1520
          refine ⟨_, rfl, Nat.zero_le _, fun le hle => ?_⟩
          have T21 : Same H20 (upd H20 le (.lst [])) := Same.upd hle
          have e21 : (upd H20 le (.lst [])) le = some (.lst []) := upd_same
          have st21 := st20.same T21
          generalize upd H20 le (.lst []) = H21 at T21 e21 st21
          have B1521 : But p H15 H21 := fun q o n e => T21 _ _ (B1520 q o n e)
          refine ⟨lr, le, _, rfl, rfl, T21 _ _ hlr20, e21, _, rfl, ite2 (fun ne => ?_) (fun _ => ?_)⟩
          · refine ⟨_, rfl, p, 4, 1900, rfl, st21, by decide, by decide, by decide, fun d9 H22 _ _ B22 st22 => ?_⟩
            have B1522 := B1521.trans B22
            have k2022 := (Same.kp T21).trans (B22.kp st21.ok)
            have st22 : StN 2000 H22 p := st22.mono (by decide)
            refine ⟨rfl, _, rfl, ite2 (fun _ => ?_) (fun _ => ?_)⟩
            · have h0 : 0 < bs.length := by
                cases bs with
                | nil => simp at ne
                | cons _ _ => simp
              have hb0 : (bs.map V.ref)[0]? = some (.ref bs[0]) := by
                rw [List.getElem?_map, List.getElem?_eq_getElem h0]
                rfl
              obtain ⟨t0', r0, e0, hr0, hm0⟩ := hru20.get hb0
              rw [e0] at hb0
              refine ⟨_, rfl, rdList (k2022 _ _ ns_refs hlr20) (j := 0) rfl hb0 ?_⟩
              have r0m := List.mem_of_getElem? hr0
              exact fin _ _ ⟨_, ss, ws, r0, rfl, ⟨rok r0 r0m, snm, wnm, rnn r0 r0m⟩, B1522, st22, hm0.kp k2022⟩
            · exact fin _ _ ⟨t, ss', ws', r, rfl, tld, B1522, st22, hmr.kp k2022⟩
          · exact fin _ _ ⟨t, ss', ws', r, rfl, tld, B1521, st21.mono (by decide), hmr.kp (Same.kp T21)⟩
    · rintro σ H4 ⟨S4, u1, u2, u3, u4, u5, u6, u7, u8, u9, u10, u11, u12, u13, u14, u15, u16, rfl⟩
      exact kk H4
end
end Wm
namespace Wm
open PySem L2 He ClX StX
theorem errB_ok {K : PySem.W.Frag} {mg : Str → Option Value} {x f : Str} {C fI : Addr} (h : errB K C fI f = true) (g : mg x = some (.ref C)) : ErrT K mg x f C fI ∧ XfC K C ∧ ExcC K C ∧ PySem.W.exmOne K (.ref C) (.ref C) = some true := by
  unfold errB at h
  obtain ⟨h1, h⟩ := ba h
  obtain ⟨h2, h⟩ := ba h
  obtain ⟨h3, h⟩ := ba h
  obtain ⟨h4, h⟩ := ba h
  obtain ⟨h5, h⟩ := ba h
  obtain ⟨h6, h⟩ := ba h
  obtain ⟨h7, h⟩ := ba h
  obtain ⟨h8, h⟩ := ba h
  obtain ⟨h9, h⟩ := ba h
  obtain ⟨h10, h⟩ := ba h
  obtain ⟨h11, h⟩ := ba h
  obtain ⟨h12, h⟩ := ba h
  obtain ⟨h13, h⟩ := ba h
  obtain ⟨h14, h⟩ := ba h
  obtain ⟨h15, h⟩ := ba h
  obtain ⟨h16, h17⟩ := ba h
  exact ⟨⟨⟨excB_ok h14, eqO_ok h1, of_decide_eq_true h2, of_decide_eq_true h3, h4⟩, g, eqO_ok h13, of_decide_eq_true h5, eqO_ok h6, eqO_ok h7⟩, ⟨eqO_ok h8, eqO_ok h9, of_decide_eq_true h2, h10⟩,
    ⟨eqO_ok h8, eqO_ok h9, of_decide_eq_true h2, h10, eqO_ok h11, eqO_ok h16, of_decide_eq_true h17, of_decide_eq_true h12⟩, of_decide_eq_true h15⟩
theorem facts {P : Program} {w : World} {K : PySem.W.Frag} {h : Heap} {mg : Str → Option Value} {fa : Addr} (X : K.In h) (G : h.Ns mainGlobals mg) (hfa : mg "law" = some (.ref fa)) (c : SaysM ck fnL K) :
    ∃ fd : FuncData, (∀ (s : Shared) (v : Value), BindsTo s fd ⟨[v], []⟩ [("_law_script", v)]) ∧ ∀ base : Heap, K.In base → base.Ns mainGlobals mg → FnOk P w K mg base CX0 10 fa fd ["_law_script"] (spLaw K) := by
  have q := c.says
  unfold ck at q
  obtain ⟨qf, q⟩ := ba q
  obtain ⟨qw, q⟩ := ba q
  obtain ⟨qe0, q⟩ := ba q
  obtain ⟨qe1, q⟩ := ba q
  obtain ⟨qe2, q⟩ := ba q
  obtain ⟨qe3, q⟩ := ba q
  obtain ⟨x1, q⟩ := ba q
  obtain ⟨x2, q⟩ := ba q
  obtain ⟨x3, q⟩ := ba q
  obtain ⟨k1, q⟩ := ba q
  obtain ⟨k2, q⟩ := ba q
  obtain ⟨k3, q⟩ := ba q
  obtain ⟨k4, q⟩ := ba q
  obtain ⟨k5, q⟩ := ba q
  obtain ⟨k6, q⟩ := ba q
  obtain ⟨k7, q⟩ := ba q
  obtain ⟨k8, q⟩ := ba q
  have ft : ∀ (i : Nat) {f : Fa}, factL[i]? = some f → f.ok K = true := fun i {f} e => List.all_eq_true.mp qf f (List.mem_of_getElem? e)
  have g_WhoError := glo_ok X G (ft 0 (f := .glo "WhoError") rfl)
  have g_NoName := glo_ok X G (ft 1 (f := .glo "NoName") rfl)
  have g_NoSort := glo_ok X G (ft 2 (f := .glo "NoSort") rfl)
  have g_NoWord := glo_ok X G (ft 3 (f := .glo "NoWord") rfl)
  have g_Misfit := glo_ok X G (ft 4 (f := .glo "Misfit") rfl)
  have g_is_name := glo_ok X G (ft 5 (f := .glo "is_name") rfl)
  obtain ⟨fd_is_name, Fk_is_name⟩ := c.def_ 0 (d := d_is_name) rfl
  have Fk_is_name : FunD K "is_name" "is_name" (defArgs sName) (defBody sName) (defScope sName) [] [] (ga K "is_name") fd_is_name := Fk_is_name
  have F_is_name : Fun K "is_name" "is_name" sName (ga K "is_name") fd_is_name := fun_of Fk_is_name
  have D_is_name : Dn K mg "is_name" sName ["text"] (ga K "is_name") fd_is_name := ⟨F_is_name, g_is_name, F_is_name.binds (ps := ["text"]) fun _ _ _ _ _ _ us hl => match us, hl with | [_], _ => rfl⟩
  have g_refuse_no_name := glo_ok X G (ft 6 (f := .glo "refuse_no_name") rfl)
  obtain ⟨fd_refuse_no_name, Fk_refuse_no_name⟩ := c.def_ 1 (d := d_refuse_no_name) rfl
  have Fk_refuse_no_name : FunD K "refuse_no_name" "refuse_no_name" (defArgs sRN) (defBody sRN) (defScope sRN) [] [] (ga K "refuse_no_name") fd_refuse_no_name := Fk_refuse_no_name
  have F_refuse_no_name : Fun K "refuse_no_name" "refuse_no_name" sRN (ga K "refuse_no_name") fd_refuse_no_name := fun_of Fk_refuse_no_name
  have D_refuse_no_name : Dn K mg "refuse_no_name" sRN ["texts"] (ga K "refuse_no_name") fd_refuse_no_name := ⟨F_refuse_no_name, g_refuse_no_name, F_refuse_no_name.binds (ps := ["texts"]) fun _ _ _ _ _ _ us hl => match us, hl with | [_], _ => rfl⟩
  have g_first_twice := glo_ok X G (ft 7 (f := .glo "first_twice") rfl)
  obtain ⟨fd_first_twice, Fk_first_twice⟩ := c.def_ 2 (d := d_first_twice) rfl
  have Fk_first_twice : FunD K "first_twice" "first_twice" (defArgs sFT) (defBody sFT) (defScope sFT) [] [] (ga K "first_twice") fd_first_twice := Fk_first_twice
  have F_first_twice : Fun K "first_twice" "first_twice" sFT (ga K "first_twice") fd_first_twice := fun_of Fk_first_twice
  have D_first_twice : Dn K mg "first_twice" sFT ["row"] (ga K "first_twice") fd_first_twice := ⟨F_first_twice, g_first_twice, F_first_twice.binds (ps := ["row"]) fun _ _ _ _ _ _ us hl => match us, hl with | [_], _ => rfl⟩
  have g_refuse_twice := glo_ok X G (ft 8 (f := .glo "refuse_twice") rfl)
  obtain ⟨fd_refuse_twice, Fk_refuse_twice⟩ := c.def_ 3 (d := d_refuse_twice) rfl
  have Fk_refuse_twice : FunD K "refuse_twice" "refuse_twice" (defArgs sRT) (defBody sRT) (defScope sRT) [] [] (ga K "refuse_twice") fd_refuse_twice := Fk_refuse_twice
  have F_refuse_twice : Fun K "refuse_twice" "refuse_twice" sRT (ga K "refuse_twice") fd_refuse_twice := fun_of Fk_refuse_twice
  have D_refuse_twice : Dn K mg "refuse_twice" sRT ["names"] (ga K "refuse_twice") fd_refuse_twice := ⟨F_refuse_twice, g_refuse_twice, F_refuse_twice.binds (ps := ["names"]) fun _ _ _ _ _ _ us hl => match us, hl with | [_], _ => rfl⟩
  have g_refuse_count := glo_ok X G (ft 9 (f := .glo "refuse_count") rfl)
  obtain ⟨fd_refuse_count, Fk_refuse_count⟩ := c.def_ 4 (d := d_refuse_count) rfl
  have Fk_refuse_count : FunD K "refuse_count" "refuse_count" (defArgs sRC) (defBody sRC) (defScope sRC) [] [] (ga K "refuse_count") fd_refuse_count := Fk_refuse_count
  have F_refuse_count : Fun K "refuse_count" "refuse_count" sRC (ga K "refuse_count") fd_refuse_count := fun_of Fk_refuse_count
  have D_refuse_count : Dn K mg "refuse_count" sRC ["what", "count", "least", "most"] (ga K "refuse_count") fd_refuse_count := ⟨F_refuse_count, g_refuse_count, F_refuse_count.binds (ps := ["what", "count", "least", "most"]) fun _ _ _ _ _ _ us hl => match us, hl with | [_, _, _, _], _ => rfl⟩
  have g_own_list := glo_ok X G (ft 10 (f := .glo "own_list") rfl)
  obtain ⟨fd_own_list, Fk_own_list⟩ := c.def_ 5 (d := d_own_list) rfl
  have Fk_own_list : FunD K "own_list" "own_list" (defArgs sOL) (defBody sOL) (defScope sOL) [] [] (ga K "own_list") fd_own_list := Fk_own_list
  have F_own_list : Fun K "own_list" "own_list" sOL (ga K "own_list") fd_own_list := fun_of Fk_own_list
  have D_own_list : Dn K mg "own_list" sOL ["rows"] (ga K "own_list") fd_own_list := ⟨F_own_list, g_own_list, F_own_list.binds (ps := ["rows"]) fun _ _ _ _ _ _ us hl => match us, hl with | [_], _ => rfl⟩
  have g_refuse_makings_twice := glo_ok X G (ft 11 (f := .glo "refuse_makings_twice") rfl)
  obtain ⟨fd_refuse_makings_twice, Fk_refuse_makings_twice⟩ := c.def_ 6 (d := d_refuse_makings_twice) rfl
  have Fk_refuse_makings_twice : FunD K "refuse_makings_twice" "refuse_makings_twice" (defArgs sRMT) (defBody sRMT) (defScope sRMT) [] [] (ga K "refuse_makings_twice") fd_refuse_makings_twice := Fk_refuse_makings_twice
  have F_refuse_makings_twice : Fun K "refuse_makings_twice" "refuse_makings_twice" sRMT (ga K "refuse_makings_twice") fd_refuse_makings_twice := fun_of Fk_refuse_makings_twice
  have D_refuse_makings_twice : Dn K mg "refuse_makings_twice" sRMT ["makings"] (ga K "refuse_makings_twice") fd_refuse_makings_twice := ⟨F_refuse_makings_twice, g_refuse_makings_twice, F_refuse_makings_twice.binds (ps := ["makings"]) fun _ _ _ _ _ _ us hl => match us, hl with | [_], _ => rfl⟩
  have g_refuse_no_sort := glo_ok X G (ft 12 (f := .glo "refuse_no_sort") rfl)
  obtain ⟨fd_refuse_no_sort, Fk_refuse_no_sort⟩ := c.def_ 7 (d := d_refuse_no_sort) rfl
  have Fk_refuse_no_sort : FunD K "refuse_no_sort" "refuse_no_sort" (defArgs sRNS) (defBody sRNS) (defScope sRNS) [] [] (ga K "refuse_no_sort") fd_refuse_no_sort := Fk_refuse_no_sort
  have F_refuse_no_sort : Fun K "refuse_no_sort" "refuse_no_sort" sRNS (ga K "refuse_no_sort") fd_refuse_no_sort := fun_of Fk_refuse_no_sort
  have D_refuse_no_sort : Dn K mg "refuse_no_sort" sRNS ["sorts", "makings", "patterns"] (ga K "refuse_no_sort") fd_refuse_no_sort := ⟨F_refuse_no_sort, g_refuse_no_sort, F_refuse_no_sort.binds (ps := ["sorts", "makings", "patterns"]) fun _ _ _ _ _ _ us hl => match us, hl with | [_, _, _], _ => rfl⟩
  have g_refuse_upward := glo_ok X G (ft 13 (f := .glo "refuse_upward") rfl)
  obtain ⟨fd_refuse_upward, Fk_refuse_upward⟩ := c.def_ 8 (d := d_refuse_upward) rfl
  have Fk_refuse_upward : FunD K "refuse_upward" "refuse_upward" (defArgs sRU) (defBody sRU) (defScope sRU) [] [] (ga K "refuse_upward") fd_refuse_upward := Fk_refuse_upward
  have F_refuse_upward : Fun K "refuse_upward" "refuse_upward" sRU (ga K "refuse_upward") fd_refuse_upward := fun_of Fk_refuse_upward
  have D_refuse_upward : Dn K mg "refuse_upward" sRU ["sorts", "makings"] (ga K "refuse_upward") fd_refuse_upward := ⟨F_refuse_upward, g_refuse_upward, F_refuse_upward.binds (ps := ["sorts", "makings"]) fun _ _ _ _ _ _ us hl => match us, hl with | [_, _], _ => rfl⟩
  have g_refuse_no_word := glo_ok X G (ft 14 (f := .glo "refuse_no_word") rfl)
  obtain ⟨fd_refuse_no_word, Fk_refuse_no_word⟩ := c.def_ 9 (d := d_refuse_no_word) rfl
  have Fk_refuse_no_word : FunD K "refuse_no_word" "refuse_no_word" (defArgs sRNW) (defBody sRNW) (defScope sRNW) [] [] (ga K "refuse_no_word") fd_refuse_no_word := Fk_refuse_no_word
  have F_refuse_no_word : Fun K "refuse_no_word" "refuse_no_word" sRNW (ga K "refuse_no_word") fd_refuse_no_word := fun_of Fk_refuse_no_word
  have D_refuse_no_word : Dn K mg "refuse_no_word" sRNW ["words", "makings", "rules", "bars"] (ga K "refuse_no_word") fd_refuse_no_word := ⟨F_refuse_no_word, g_refuse_no_word, F_refuse_no_word.binds (ps := ["words", "makings", "rules", "bars"]) fun _ _ _ _ _ _ us hl => match us, hl with | [_, _, _, _], _ => rfl⟩
  have g_check_scheme := glo_ok X G (ft 15 (f := .glo "check_scheme") rfl)
  obtain ⟨fd_check_scheme, Fk_check_scheme⟩ := c.def_ 10 (d := d_check_scheme) rfl
  have Fk_check_scheme : FunD K "check_scheme" "check_scheme" (defArgs sCS) (defBody sCS) (defScope sCS) [] [] (ga K "check_scheme") fd_check_scheme := Fk_check_scheme
  have F_check_scheme : Fun K "check_scheme" "check_scheme" sCS (ga K "check_scheme") fd_check_scheme := fun_of Fk_check_scheme
  have D_check_scheme : Dn K mg "check_scheme" sCS ["sorts", "words", "makings", "rules", "bars"] (ga K "check_scheme") fd_check_scheme := ⟨F_check_scheme, g_check_scheme, F_check_scheme.binds (ps := ["sorts", "words", "makings", "rules", "bars"]) fun _ _ _ _ _ _ us hl => match us, hl with | [_, _, _, _, _], _ => rfl⟩
  have g_tuple_of_tuples := glo_ok X G (ft 16 (f := .glo "tuple_of_tuples") rfl)
  obtain ⟨fd_tuple_of_tuples, Fk_tuple_of_tuples⟩ := c.def_ 11 (d := d_tuple_of_tuples) rfl
  have Fk_tuple_of_tuples : FunD K "tuple_of_tuples" "tuple_of_tuples" (defArgs sTT) (defBody sTT) (defScope sTT) [] [] (ga K "tuple_of_tuples") fd_tuple_of_tuples := Fk_tuple_of_tuples
  have F_tuple_of_tuples : Fun K "tuple_of_tuples" "tuple_of_tuples" sTT (ga K "tuple_of_tuples") fd_tuple_of_tuples := fun_of Fk_tuple_of_tuples
  have D_tuple_of_tuples : Dn K mg "tuple_of_tuples" sTT ["rows"] (ga K "tuple_of_tuples") fd_tuple_of_tuples := ⟨F_tuple_of_tuples, g_tuple_of_tuples, F_tuple_of_tuples.binds (ps := ["rows"]) fun _ _ _ _ _ _ us hl => match us, hl with | [_], _ => rfl⟩
  have g_ends_of := glo_ok X G (ft 17 (f := .glo "ends_of") rfl)
  obtain ⟨fd_ends_of, Fk_ends_of⟩ := c.def_ 12 (d := d_ends_of) rfl
  have Fk_ends_of : FunD K "ends_of" "ends_of" (defArgs sEO) (defBody sEO) (defScope sEO) [] [] (ga K "ends_of") fd_ends_of := Fk_ends_of
  have F_ends_of : Fun K "ends_of" "ends_of" sEO (ga K "ends_of") fd_ends_of := fun_of Fk_ends_of
  have D_ends_of : Dn K mg "ends_of" sEO ["triples"] (ga K "ends_of") fd_ends_of := ⟨F_ends_of, g_ends_of, F_ends_of.binds (ps := ["triples"]) fun _ _ _ _ _ _ us hl => match us, hl with | [_], _ => rfl⟩
  have g_texts_of_pattern := glo_ok X G (ft 18 (f := .glo "texts_of_pattern") rfl)
  obtain ⟨fd_texts_of_pattern, Fk_texts_of_pattern⟩ := c.def_ 13 (d := d_texts_of_pattern) rfl
  have Fk_texts_of_pattern : FunD K "texts_of_pattern" "texts_of_pattern" (defArgs sTP) (defBody sTP) (defScope sTP) [] [] (ga K "texts_of_pattern") fd_texts_of_pattern := Fk_texts_of_pattern
  have F_texts_of_pattern : Fun K "texts_of_pattern" "texts_of_pattern" sTP (ga K "texts_of_pattern") fd_texts_of_pattern := fun_of Fk_texts_of_pattern
  have D_texts_of_pattern : Dn K mg "texts_of_pattern" sTP ["name", "variables", "triples"] (ga K "texts_of_pattern") fd_texts_of_pattern := ⟨F_texts_of_pattern, g_texts_of_pattern, F_texts_of_pattern.binds (ps := ["name", "variables", "triples"]) fun _ _ _ _ _ _ us hl => match us, hl with | [_, _, _], _ => rfl⟩
  have g_refuse_no_variable := glo_ok X G (ft 19 (f := .glo "refuse_no_variable") rfl)
  obtain ⟨fd_refuse_no_variable, Fk_refuse_no_variable⟩ := c.def_ 14 (d := d_refuse_no_variable) rfl
  have Fk_refuse_no_variable : FunD K "refuse_no_variable" "refuse_no_variable" (defArgs sRV) (defBody sRV) (defScope sRV) [] [] (ga K "refuse_no_variable") fd_refuse_no_variable := Fk_refuse_no_variable
  have F_refuse_no_variable : Fun K "refuse_no_variable" "refuse_no_variable" sRV (ga K "refuse_no_variable") fd_refuse_no_variable := fun_of Fk_refuse_no_variable
  have D_refuse_no_variable : Dn K mg "refuse_no_variable" sRV ["names", "texts"] (ga K "refuse_no_variable") fd_refuse_no_variable := ⟨F_refuse_no_variable, g_refuse_no_variable, F_refuse_no_variable.binds (ps := ["names", "texts"]) fun _ _ _ _ _ _ us hl => match us, hl with | [_, _], _ => rfl⟩
  have g_refuse_loose := glo_ok X G (ft 20 (f := .glo "refuse_loose") rfl)
  obtain ⟨fd_refuse_loose, Fk_refuse_loose⟩ := c.def_ 15 (d := d_refuse_loose) rfl
  have Fk_refuse_loose : FunD K "refuse_loose" "refuse_loose" (defArgs sRL) (defBody sRL) (defScope sRL) [] [] (ga K "refuse_loose") fd_refuse_loose := Fk_refuse_loose
  have F_refuse_loose : Fun K "refuse_loose" "refuse_loose" sRL (ga K "refuse_loose") fd_refuse_loose := fun_of Fk_refuse_loose
  have D_refuse_loose : Dn K mg "refuse_loose" sRL ["names", "conditions"] (ga K "refuse_loose") fd_refuse_loose := ⟨F_refuse_loose, g_refuse_loose, F_refuse_loose.binds (ps := ["names", "conditions"]) fun _ _ _ _ _ _ us hl => match us, hl with | [_, _], _ => rfl⟩
  have g_refuse_apart := glo_ok X G (ft 21 (f := .glo "refuse_apart") rfl)
  obtain ⟨fd_refuse_apart, Fk_refuse_apart⟩ := c.def_ 16 (d := d_refuse_apart) rfl
  have Fk_refuse_apart : FunD K "refuse_apart" "refuse_apart" (defArgs sRA) (defBody sRA) (defScope sRA) [] [] (ga K "refuse_apart") fd_refuse_apart := Fk_refuse_apart
  have F_refuse_apart : Fun K "refuse_apart" "refuse_apart" sRA (ga K "refuse_apart") fd_refuse_apart := fun_of Fk_refuse_apart
  have D_refuse_apart : Dn K mg "refuse_apart" sRA ["conditions"] (ga K "refuse_apart") fd_refuse_apart := ⟨F_refuse_apart, g_refuse_apart, F_refuse_apart.binds (ps := ["conditions"]) fun _ _ _ _ _ _ us hl => match us, hl with | [_], _ => rfl⟩
  have g_check_pattern := glo_ok X G (ft 22 (f := .glo "check_pattern") rfl)
  obtain ⟨fd_check_pattern, Fk_check_pattern⟩ := c.def_ 17 (d := d_check_pattern) rfl
  have Fk_check_pattern : FunD K "check_pattern" "check_pattern" (defArgs sCP) (defBody sCP) (defScope sCP) [] [] (ga K "check_pattern") fd_check_pattern := Fk_check_pattern
  have F_check_pattern : Fun K "check_pattern" "check_pattern" sCP (ga K "check_pattern") fd_check_pattern := fun_of Fk_check_pattern
  have D_check_pattern : Dn K mg "check_pattern" sCP ["name", "variables", "conditions", "given", "hands"] (ga K "check_pattern") fd_check_pattern := ⟨F_check_pattern, g_check_pattern, F_check_pattern.binds (ps := ["name", "variables", "conditions", "given", "hands"]) fun _ _ _ _ _ _ us hl => match us, hl with | [_, _, _, _, _], _ => rfl⟩
  have g_refuse_strange_rule := glo_ok X G (ft 23 (f := .glo "refuse_strange_rule") rfl)
  obtain ⟨fd_refuse_strange_rule, Fk_refuse_strange_rule⟩ := c.def_ 18 (d := d_refuse_strange_rule) rfl
  have Fk_refuse_strange_rule : FunD K "refuse_strange_rule" "refuse_strange_rule" (defArgs sRSR) (defBody sRSR) (defScope sRSR) [] [] (ga K "refuse_strange_rule") fd_refuse_strange_rule := Fk_refuse_strange_rule
  have F_refuse_strange_rule : Fun K "refuse_strange_rule" "refuse_strange_rule" sRSR (ga K "refuse_strange_rule") fd_refuse_strange_rule := fun_of Fk_refuse_strange_rule
  have D_refuse_strange_rule : Dn K mg "refuse_strange_rule" sRSR ["scheme", "rule"] (ga K "refuse_strange_rule") fd_refuse_strange_rule := ⟨F_refuse_strange_rule, g_refuse_strange_rule, F_refuse_strange_rule.binds (ps := ["scheme", "rule"]) fun _ _ _ _ _ _ us hl => match us, hl with | [_, _], _ => rfl⟩
  have g_sort_rows := glo_ok X G (ft 24 (f := .glo "sort_rows") rfl)
  obtain ⟨fd_sort_rows, Fk_sort_rows⟩ := c.def_ 19 (d := d_sort_rows) rfl
  have Fk_sort_rows : FunD K "sort_rows" "sort_rows" (defArgs sSrw) (defBody sSrw) (defScope sSrw) [] [] (ga K "sort_rows") fd_sort_rows := Fk_sort_rows
  have F_sort_rows : Fun K "sort_rows" "sort_rows" sSrw (ga K "sort_rows") fd_sort_rows := fun_of Fk_sort_rows
  have D_sort_rows : Dn K mg "sort_rows" sSrw ["scheme", "rule"] (ga K "sort_rows") fd_sort_rows := ⟨F_sort_rows, g_sort_rows, F_sort_rows.binds (ps := ["scheme", "rule"]) fun _ _ _ _ _ _ us hl => match us, hl with | [_, _], _ => rfl⟩
  have g__law_cell_at := glo_ok X G (ft 25 (f := .glo "_law_cell_at") rfl)
  obtain ⟨fd__law_cell_at, Fk__law_cell_at⟩ := c.def_ 20 (d := d__law_cell_at) rfl
  have Fk__law_cell_at : FunD K "_law_cell_at" "_law_cell_at" (defArgs sCel) (defBody sCel) (defScope sCel) [] [] (ga K "_law_cell_at") fd__law_cell_at := Fk__law_cell_at
  have F__law_cell_at : Fun K "_law_cell_at" "_law_cell_at" sCel (ga K "_law_cell_at") fd__law_cell_at := fun_of Fk__law_cell_at
  have D__law_cell_at : Dn K mg "_law_cell_at" sCel ["_law_script", "_law_k"] (ga K "_law_cell_at") fd__law_cell_at := ⟨F__law_cell_at, g__law_cell_at, F__law_cell_at.binds (ps := ["_law_script", "_law_k"]) fun _ _ _ _ _ _ us hl => match us, hl with | [_, _], _ => rfl⟩
  have g__law_well := glo_ok X G (ft 26 (f := .glo "_law_well") rfl)
  obtain ⟨fd__law_well, Fk__law_well⟩ := c.def_ 21 (d := d__law_well) rfl
  have Fk__law_well : FunD K "_law_well" "_law_well" (defArgs sWel) (defBody sWel) (defScope sWel) [] [] (ga K "_law_well") fd__law_well := Fk__law_well
  have F__law_well : Fun K "_law_well" "_law_well" sWel (ga K "_law_well") fd__law_well := fun_of Fk__law_well
  have D__law_well : Dn K mg "_law_well" sWel ["_law_cell"] (ga K "_law_well") fd__law_well := ⟨F__law_well, g__law_well, F__law_well.binds (ps := ["_law_cell"]) fun _ _ _ _ _ _ us hl => match us, hl with | [_], _ => rfl⟩
  have g__law_draw := glo_ok X G (ft 27 (f := .glo "_law_draw") rfl)
  obtain ⟨fd__law_draw, Fk__law_draw⟩ := c.def_ 22 (d := d__law_draw) rfl
  have Fk__law_draw : FunD K "_law_draw" "_law_draw" (defArgs sDrw) (defBody sDrw) (defScope sDrw) [] [] (ga K "_law_draw") fd__law_draw := Fk__law_draw
  have F__law_draw : Fun K "_law_draw" "_law_draw" sDrw (ga K "_law_draw") fd__law_draw := fun_of Fk__law_draw
  have D__law_draw : Dn K mg "_law_draw" sDrw ["_law_well_here", "_law_many"] (ga K "_law_draw") fd__law_draw := ⟨F__law_draw, g__law_draw, F__law_draw.binds (ps := ["_law_well_here", "_law_many"]) fun _ _ _ _ _ _ us hl => match us, hl with | [_, _], _ => rfl⟩
  have g__law_pick := glo_ok X G (ft 28 (f := .glo "_law_pick") rfl)
  obtain ⟨fd__law_pick, Fk__law_pick⟩ := c.def_ 23 (d := d__law_pick) rfl
  have Fk__law_pick : FunD K "_law_pick" "_law_pick" (defArgs sPck) (defBody sPck) (defScope sPck) [] [] (ga K "_law_pick") fd__law_pick := Fk__law_pick
  have F__law_pick : Fun K "_law_pick" "_law_pick" sPck (ga K "_law_pick") fd__law_pick := fun_of Fk__law_pick
  have D__law_pick : Dn K mg "_law_pick" sPck ["_law_well_here", "_law_some"] (ga K "_law_pick") fd__law_pick := ⟨F__law_pick, g__law_pick, F__law_pick.binds (ps := ["_law_well_here", "_law_some"]) fun _ _ _ _ _ _ us hl => match us, hl with | [_, _], _ => rfl⟩
  have g__law_name := glo_ok X G (ft 29 (f := .glo "_law_name") rfl)
  obtain ⟨fd__law_name, Fk__law_name⟩ := c.def_ 24 (d := d__law_name) rfl
  have Fk__law_name : FunD K "_law_name" "_law_name" (defArgs sNam) (defBody sNam) (defScope sNam) [] [] (ga K "_law_name") fd__law_name := Fk__law_name
  have F__law_name : Fun K "_law_name" "_law_name" sNam (ga K "_law_name") fd__law_name := fun_of Fk__law_name
  have D__law_name : Dn K mg "_law_name" sNam ["_law_well_here", "_law_taken"] (ga K "_law_name") fd__law_name := ⟨F__law_name, g__law_name, F__law_name.binds (ps := ["_law_well_here", "_law_taken"]) fun _ _ _ _ _ _ us hl => match us, hl with | [_, _], _ => rfl⟩
  have g__law_names := glo_ok X G (ft 30 (f := .glo "_law_names") rfl)
  obtain ⟨fd__law_names, Fk__law_names⟩ := c.def_ 25 (d := d__law_names) rfl
  have Fk__law_names : FunD K "_law_names" "_law_names" (defArgs sNms) (defBody sNms) (defScope sNms) [] [] (ga K "_law_names") fd__law_names := Fk__law_names
  have F__law_names : Fun K "_law_names" "_law_names" sNms (ga K "_law_names") fd__law_names := fun_of Fk__law_names
  have D__law_names : Dn K mg "_law_names" sNms ["_law_well_here", "_law_many"] (ga K "_law_names") fd__law_names := ⟨F__law_names, g__law_names, F__law_names.binds (ps := ["_law_well_here", "_law_many"]) fun _ _ _ _ _ _ us hl => match us, hl with | [_, _], _ => rfl⟩
  have g__law_any_rule := glo_ok X G (ft 31 (f := .glo "_law_any_rule") rfl)
  obtain ⟨fd__law_any_rule, Fk__law_any_rule⟩ := c.def_ 26 (d := d__law_any_rule) rfl
  have Fk__law_any_rule : FunD K "_law_any_rule" "_law_any_rule" (defArgs sAny) (defBody sAny) (defScope sAny) [] [] (ga K "_law_any_rule") fd__law_any_rule := Fk__law_any_rule
  have F__law_any_rule : Fun K "_law_any_rule" "_law_any_rule" sAny (ga K "_law_any_rule") fd__law_any_rule := fun_of Fk__law_any_rule
  have D__law_any_rule : Dn K mg "_law_any_rule" sAny ["_law_well_here", "_law_name_here", "_law_sorts", "_law_words", "_law_most"] (ga K "_law_any_rule") fd__law_any_rule := ⟨F__law_any_rule, g__law_any_rule, F__law_any_rule.binds (ps := ["_law_well_here", "_law_name_here", "_law_sorts", "_law_words", "_law_most"]) fun _ _ _ _ _ _ us hl => match us, hl with | [_, _, _, _, _], _ => rfl⟩
  have g__law_made_rule := glo_ok X G (ft 32 (f := .glo "_law_made_rule") rfl)
  obtain ⟨fd__law_made_rule, Fk__law_made_rule⟩ := c.def_ 27 (d := d__law_made_rule) rfl
  have Fk__law_made_rule : FunD K "_law_made_rule" "_law_made_rule" (defArgs sMdR) (defBody sMdR) (defScope sMdR) [] [] (ga K "_law_made_rule") fd__law_made_rule := Fk__law_made_rule
  have F__law_made_rule : Fun K "_law_made_rule" "_law_made_rule" sMdR (ga K "_law_made_rule") fd__law_made_rule := fun_of Fk__law_made_rule
  have D__law_made_rule : Dn K mg "_law_made_rule" sMdR ["_law_rule"] (ga K "_law_made_rule") fd__law_made_rule := ⟨F__law_made_rule, g__law_made_rule, F__law_made_rule.binds (ps := ["_law_rule"]) fun _ _ _ _ _ _ us hl => match us, hl with | [_], _ => rfl⟩
  have g__law_makings := glo_ok X G (ft 33 (f := .glo "_law_makings") rfl)
  obtain ⟨fd__law_makings, Fk__law_makings⟩ := c.def_ 28 (d := d__law_makings) rfl
  have Fk__law_makings : FunD K "_law_makings" "_law_makings" (defArgs sMks) (defBody sMks) (defScope sMks) [] [] (ga K "_law_makings") fd__law_makings := Fk__law_makings
  have F__law_makings : Fun K "_law_makings" "_law_makings" sMks (ga K "_law_makings") fd__law_makings := fun_of Fk__law_makings
  have D__law_makings : Dn K mg "_law_makings" sMks ["_law_well_here", "_law_sorts", "_law_words", "_law_many"] (ga K "_law_makings") fd__law_makings := ⟨F__law_makings, g__law_makings, F__law_makings.binds (ps := ["_law_well_here", "_law_sorts", "_law_words", "_law_many"]) fun _ _ _ _ _ _ us hl => match us, hl with | [_, _, _, _], _ => rfl⟩
  have g__law_made_scheme := glo_ok X G (ft 34 (f := .glo "_law_made_scheme") rfl)
  obtain ⟨fd__law_made_scheme, Fk__law_made_scheme⟩ := c.def_ 29 (d := d__law_made_scheme) rfl
  have Fk__law_made_scheme : FunD K "_law_made_scheme" "_law_made_scheme" (defArgs sMdS) (defBody sMdS) (defScope sMdS) [] [] (ga K "_law_made_scheme") fd__law_made_scheme := Fk__law_made_scheme
  have F__law_made_scheme : Fun K "_law_made_scheme" "_law_made_scheme" sMdS (ga K "_law_made_scheme") fd__law_made_scheme := fun_of Fk__law_made_scheme
  have D__law_made_scheme : Dn K mg "_law_made_scheme" sMdS ["_law_sorts", "_law_words", "_law_makings_here", "_law_rules"] (ga K "_law_made_scheme") fd__law_made_scheme := ⟨F__law_made_scheme, g__law_made_scheme, F__law_made_scheme.binds (ps := ["_law_sorts", "_law_words", "_law_makings_here", "_law_rules"]) fun _ _ _ _ _ _ us hl => match us, hl with | [_, _, _, _], _ => rfl⟩
  have g__law_refusal := glo_ok X G (ft 35 (f := .glo "_law_refusal") rfl)
  obtain ⟨fd__law_refusal, Fk__law_refusal⟩ := c.def_ 30 (d := d__law_refusal) rfl
  have Fk__law_refusal : FunD K "_law_refusal" "_law_refusal" (defArgs sRf) (defBody sRf) (defScope sRf) [] [] (ga K "_law_refusal") fd__law_refusal := Fk__law_refusal
  have F__law_refusal : Fun K "_law_refusal" "_law_refusal" sRf (ga K "_law_refusal") fd__law_refusal := fun_of Fk__law_refusal
  have D__law_refusal : Dn K mg "_law_refusal" sRf ["_law_sorts", "_law_words", "_law_rule", "_law_row"] (ga K "_law_refusal") fd__law_refusal := ⟨F__law_refusal, g__law_refusal, F__law_refusal.binds (ps := ["_law_sorts", "_law_words", "_law_rule", "_law_row"]) fun _ _ _ _ _ _ us hl => match us, hl with | [_, _, _, _], _ => rfl⟩
  have g__law_said := glo_ok X G (ft 36 (f := .glo "_law_said") rfl)
  obtain ⟨fd__law_said, Fk__law_said⟩ := c.def_ 31 (d := d__law_said) rfl
  have Fk__law_said : FunD K "_law_said" "_law_said" (defArgs sSai) (defBody sSai) (defScope sSai) [] [] (ga K "_law_said") fd__law_said := Fk__law_said
  have F__law_said : Fun K "_law_said" "_law_said" sSai (ga K "_law_said") fd__law_said := fun_of Fk__law_said
  have D__law_said : Dn K mg "_law_said" sSai ["_law_scheme", "_law_rule", "_law_row"] (ga K "_law_said") fd__law_said := ⟨F__law_said, g__law_said, F__law_said.binds (ps := ["_law_scheme", "_law_rule", "_law_row"]) fun _ _ _ _ _ _ us hl => match us, hl with | [_, _, _], _ => rfl⟩
  have g__law_right := glo_ok X G (ft 37 (f := .glo "_law_right") rfl)
  obtain ⟨fd__law_right, Fk__law_right⟩ := c.def_ 32 (d := d__law_right) rfl
  have Fk__law_right : FunD K "_law_right" "_law_right" (defArgs sRi) (defBody sRi) (defScope sRi) [] [] (ga K "_law_right") fd__law_right := Fk__law_right
  have F__law_right : Fun K "_law_right" "_law_right" sRi (ga K "_law_right") fd__law_right := fun_of Fk__law_right
  have D__law_right : Dn K mg "_law_right" sRi ["_law_house", "_law_scheme", "_law_rule", "_law_row"] (ga K "_law_right") fd__law_right := ⟨F__law_right, g__law_right, F__law_right.binds (ps := ["_law_house", "_law_scheme", "_law_rule", "_law_row"]) fun _ _ _ _ _ _ us hl => match us, hl with | [_, _, _, _], _ => rfl⟩
  have g__law_some_row := glo_ok X G (ft 38 (f := .glo "_law_some_row") rfl)
  obtain ⟨fd__law_some_row, Fk__law_some_row⟩ := c.def_ 33 (d := d__law_some_row) rfl
  have Fk__law_some_row : FunD K "_law_some_row" "_law_some_row" (defArgs sRo) (defBody sRo) (defScope sRo) [] [] (ga K "_law_some_row") fd__law_some_row := Fk__law_some_row
  have F__law_some_row : Fun K "_law_some_row" "_law_some_row" sRo (ga K "_law_some_row") fd__law_some_row := fun_of Fk__law_some_row
  have D__law_some_row : Dn K mg "_law_some_row" sRo ["_law_well_here", "_law_rule", "_law_sorts", "_law_strange"] (ga K "_law_some_row") fd__law_some_row := ⟨F__law_some_row, g__law_some_row, F__law_some_row.binds (ps := ["_law_well_here", "_law_rule", "_law_sorts", "_law_strange"]) fun _ _ _ _ _ _ us hl => match us, hl with | [_, _, _, _], _ => rfl⟩
  have g__law_once := glo_ok X G (ft 39 (f := .glo "_law_once") rfl)
  obtain ⟨fd__law_once, Fk__law_once⟩ := c.def_ 34 (d := d__law_once) rfl
  have Fk__law_once : FunD K "_law_once" "_law_once" (defArgs sOn) (defBody sOn) (defScope sOn) [] [] (ga K "_law_once") fd__law_once := Fk__law_once
  have F__law_once : Fun K "_law_once" "_law_once" sOn (ga K "_law_once") fd__law_once := fun_of Fk__law_once
  have D__law_once : Dn K mg "_law_once" sOn ["_law_well_here", "_law_told", "_law_scheme", "_law_rule", "_law_row"] (ga K "_law_once") fd__law_once := ⟨F__law_once, g__law_once, F__law_once.binds (ps := ["_law_well_here", "_law_told", "_law_scheme", "_law_rule", "_law_row"]) fun _ _ _ _ _ _ us hl => match us, hl with | [_, _, _, _, _], _ => rfl⟩
  have g_house_for := glo_ok X G (ft 40 (f := .glo "house_for") rfl)
  obtain ⟨fd_house_for, Fk_house_for⟩ := c.def_ 35 (d := d_house_for) rfl
  have Fk_house_for : FunD K "house_for" "house_for" (defArgs sHf) (defBody sHf) (defScope sHf) [] [] (ga K "house_for") fd_house_for := Fk_house_for
  have F_house_for : Fun K "house_for" "house_for" sHf (ga K "house_for") fd_house_for := fun_of Fk_house_for
  have D_house_for : Dn K mg "house_for" sHf ["scheme", "rule", "row"] (ga K "house_for") fd_house_for := ⟨F_house_for, g_house_for, F_house_for.binds (ps := ["scheme", "rule", "row"]) fun _ _ _ _ _ _ us hl => match us, hl with | [_, _, _], _ => rfl⟩
  have g_least_house := glo_ok X G (ft 41 (f := .glo "least_house") rfl)
  obtain ⟨fd_least_house, Fk_least_house⟩ := c.def_ 36 (d := d_least_house) rfl
  have Fk_least_house : FunD K "least_house" "least_house" (defArgs sLh) (defBody sLh) (defScope sLh) [] [] (ga K "least_house") fd_least_house := Fk_least_house
  have F_least_house : Fun K "least_house" "least_house" sLh (ga K "least_house") fd_least_house := fun_of Fk_least_house
  have D_least_house : Dn K mg "least_house" sLh ["scheme", "rule", "sorts"] (ga K "least_house") fd_least_house := ⟨F_least_house, g_least_house, F_least_house.binds (ps := ["scheme", "rule", "sorts"]) fun _ _ _ _ _ _ us hl => match us, hl with | [_, _, _], _ => rfl⟩
  have g_law := glo_ok X G (ft 42 (f := .glo "law") rfl)
  obtain ⟨fd_law, Fk_law⟩ := c.def_ 37 (d := d_law) rfl
  have Fk_law : FunD K "law" "law" (defArgs sLaw) (defBody sLaw) (defScope sLaw) [] [] (ga K "law") fd_law := Fk_law
  have F_law : Fun K "law" "law" sLaw (ga K "law") fd_law := fun_of Fk_law
  have FLb := FunD.bindsA (ps := ["_law_script"]) Fk_law fun _ _ _ _ _ _ us hl => match us, hl with | [_], _ => rfl
  have g_Scheme := glo_ok X G (ft 43 (f := .glo "Scheme") rfl)
  have cls_Scheme := cls_ok (ft 44 (f := .cls "Scheme") rfl)
  have na_Scheme_own_sorts := noat_ok (ft 45 (f := .noat "Scheme" "own_sorts") rfl)
  have na_Scheme_own_words := noat_ok (ft 46 (f := .noat "Scheme" "own_words") rfl)
  have na_Scheme_own_makings := noat_ok (ft 47 (f := .noat "Scheme" "own_makings") rfl)
  have na_Scheme_own_rules := noat_ok (ft 48 (f := .noat "Scheme" "own_rules") rfl)
  have na_Scheme_own_bars := noat_ok (ft 49 (f := .noat "Scheme" "own_bars") rfl)
  have mk_Scheme := mkr_ok (ft 50 (f := .mkr "Scheme") rfl)
  have g_Rule := glo_ok X G (ft 51 (f := .glo "Rule") rfl)
  have cls_Rule := cls_ok (ft 52 (f := .cls "Rule") rfl)
  have na_Rule_name := noat_ok (ft 53 (f := .noat "Rule" "name") rfl)
  have na_Rule_variables := noat_ok (ft 54 (f := .noat "Rule" "variables") rfl)
  have na_Rule_conditions := noat_ok (ft 55 (f := .noat "Rule" "conditions") rfl)
  have na_Rule_gives := noat_ok (ft 56 (f := .noat "Rule" "gives") rfl)
  have na_Rule_by := noat_ok (ft 57 (f := .noat "Rule" "by") rfl)
  have mk_Rule := mkr_ok (ft 58 (f := .mkr "Rule") rfl)
  have g_Making := glo_ok X G (ft 59 (f := .glo "Making") rfl)
  have cls_Making := cls_ok (ft 60 (f := .cls "Making") rfl)
  have na_Making_maker := noat_ok (ft 61 (f := .noat "Making" "maker") rfl)
  have na_Making_made := noat_ok (ft 62 (f := .noat "Making" "made") rfl)
  have na_Making_down := noat_ok (ft 63 (f := .noat "Making" "down") rfl)
  have na_Making_up := noat_ok (ft 64 (f := .noat "Making" "up") rfl)
  have mk_Making := mkr_ok (ft 65 (f := .mkr "Making") rfl)
  have g_House := glo_ok X G (ft 66 (f := .glo "House") rfl)
  have cls_House := cls_ok (ft 67 (f := .cls "House") rfl)
  have na_House_own_scheme := noat_ok (ft 68 (f := .noat "House" "own_scheme") rfl)
  have na_House_sort_by_name := noat_ok (ft 69 (f := .noat "House" "sort_by_name") rfl)
  have na_House_awake_by_name := noat_ok (ft 70 (f := .noat "House" "awake_by_name") rfl)
  have na_House_standing := noat_ok (ft 71 (f := .noat "House" "standing") rfl)
  have mk_House := mkr_ok (ft 72 (f := .mkr "House") rfl)
  obtain ⟨fd_NoName___init__, Fk_NoName___init__⟩ := c.def_ 38 (d := d_NoName___init__) rfl
  have Fk_NoName___init__ : FunD K "__init__" "NoName.__init__" (defArgs sN0) (defBody sN0) (defScope sN0) [] [] (ma K (ga K "NoName") "__init__") fd_NoName___init__ := Fk_NoName___init__
  have F_NoName___init__ : Fun K "__init__" "NoName.__init__" sN0 (ma K (ga K "NoName") "__init__") fd_NoName___init__ := fun_of Fk_NoName___init__
  have b_NoName___init__ := F_NoName___init__.binds (ps := ["self", "name"]) fun _ _ _ _ _ _ us hl => match us, hl with | [_, _], _ => rfl
  obtain ⟨fd_NoSort___init__, Fk_NoSort___init__⟩ := c.def_ 39 (d := d_NoSort___init__) rfl
  have Fk_NoSort___init__ : FunD K "__init__" "NoSort.__init__" (defArgs sNS) (defBody sNS) (defScope sNS) [] [] (ma K (ga K "NoSort") "__init__") fd_NoSort___init__ := Fk_NoSort___init__
  have F_NoSort___init__ : Fun K "__init__" "NoSort.__init__" sNS (ma K (ga K "NoSort") "__init__") fd_NoSort___init__ := fun_of Fk_NoSort___init__
  have b_NoSort___init__ := F_NoSort___init__.binds (ps := ["self", "name"]) fun _ _ _ _ _ _ us hl => match us, hl with | [_, _], _ => rfl
  obtain ⟨fd_NoWord___init__, Fk_NoWord___init__⟩ := c.def_ 40 (d := d_NoWord___init__) rfl
  have Fk_NoWord___init__ : FunD K "__init__" "NoWord.__init__" (defArgs sNW) (defBody sNW) (defScope sNW) [] [] (ma K (ga K "NoWord") "__init__") fd_NoWord___init__ := Fk_NoWord___init__
  have F_NoWord___init__ : Fun K "__init__" "NoWord.__init__" sNW (ma K (ga K "NoWord") "__init__") fd_NoWord___init__ := fun_of Fk_NoWord___init__
  have b_NoWord___init__ := F_NoWord___init__.binds (ps := ["self", "name"]) fun _ _ _ _ _ _ us hl => match us, hl with | [_, _], _ => rfl
  obtain ⟨fd_Misfit___init__, Fk_Misfit___init__⟩ := c.def_ 41 (d := d_Misfit___init__) rfl
  have Fk_Misfit___init__ : FunD K "__init__" "Misfit.__init__" (defArgs sMi) (defBody sMi) (defScope sMi) [] [] (ma K (ga K "Misfit") "__init__") fd_Misfit___init__ := Fk_Misfit___init__
  have F_Misfit___init__ : Fun K "__init__" "Misfit.__init__" sMi (ma K (ga K "Misfit") "__init__") fd_Misfit___init__ := fun_of Fk_Misfit___init__
  have b_Misfit___init__ := F_Misfit___init__.binds (ps := ["self", "name"]) fun _ _ _ _ _ _ us hl => match us, hl with | [_, _], _ => rfl
  obtain ⟨fd_Rule___init__, Fk_Rule___init__⟩ := c.def_ 42 (d := d_Rule___init__) rfl
  have Fk_Rule___init__ : FunD K "__init__" "Rule.__init__" (defArgs sRul) (defBody sRul) (defScope sRul) [] [] (ma K (ga K "Rule") "__init__") fd_Rule___init__ := Fk_Rule___init__
  have F_Rule___init__ : Fun K "__init__" "Rule.__init__" sRul (ma K (ga K "Rule") "__init__") fd_Rule___init__ := fun_of Fk_Rule___init__
  have b_Rule___init__ := F_Rule___init__.binds (ps := ["self", "name", "variables", "conditions", "gives", "by"]) fun _ _ _ _ _ _ us hl => match us, hl with | [_, _, _, _, _, _], _ => rfl
  obtain ⟨fd_Making___init__, Fk_Making___init__⟩ := c.def_ 43 (d := d_Making___init__) rfl
  have Fk_Making___init__ : FunD K "__init__" "Making.__init__" (defArgs sMak) (defBody sMak) (defScope sMak) [] [] (ma K (ga K "Making") "__init__") fd_Making___init__ := Fk_Making___init__
  have F_Making___init__ : Fun K "__init__" "Making.__init__" sMak (ma K (ga K "Making") "__init__") fd_Making___init__ := fun_of Fk_Making___init__
  have b_Making___init__ := F_Making___init__.binds (ps := ["self", "maker", "made", "down", "up"]) fun _ _ _ _ _ _ us hl => match us, hl with | [_, _, _, _, _], _ => rfl
  have m_Scheme_sorts := meth_ok (ft 73 (f := .meth "Scheme" "sorts") rfl)
  obtain ⟨fd_Scheme_sorts, Fk_Scheme_sorts⟩ := c.def_ 44 (d := d_Scheme_sorts) rfl
  have Fk_Scheme_sorts : FunD K "sorts" "Scheme.sorts" (defArgs sSor) (defBody sSor) (defScope sSor) [] [] (ma K (ga K "Scheme") "sorts") fd_Scheme_sorts := Fk_Scheme_sorts
  have F_Scheme_sorts : Fun K "sorts" "Scheme.sorts" sSor (ma K (ga K "Scheme") "sorts") fd_Scheme_sorts := fun_of Fk_Scheme_sorts
  have b_Scheme_sorts := F_Scheme_sorts.binds (ps := ["self"]) fun _ _ _ _ _ _ us hl => match us, hl with | [_], _ => rfl
  have m_Scheme_words := meth_ok (ft 74 (f := .meth "Scheme" "words") rfl)
  obtain ⟨fd_Scheme_words, Fk_Scheme_words⟩ := c.def_ 45 (d := d_Scheme_words) rfl
  have Fk_Scheme_words : FunD K "words" "Scheme.words" (defArgs sWor) (defBody sWor) (defScope sWor) [] [] (ma K (ga K "Scheme") "words") fd_Scheme_words := Fk_Scheme_words
  have F_Scheme_words : Fun K "words" "Scheme.words" sWor (ma K (ga K "Scheme") "words") fd_Scheme_words := fun_of Fk_Scheme_words
  have b_Scheme_words := F_Scheme_words.binds (ps := ["self"]) fun _ _ _ _ _ _ us hl => match us, hl with | [_], _ => rfl
  have m_Scheme_makings := meth_ok (ft 75 (f := .meth "Scheme" "makings") rfl)
  obtain ⟨fd_Scheme_makings, Fk_Scheme_makings⟩ := c.def_ 46 (d := d_Scheme_makings) rfl
  have Fk_Scheme_makings : FunD K "makings" "Scheme.makings" (defArgs sSMk) (defBody sSMk) (defScope sSMk) [] [] (ma K (ga K "Scheme") "makings") fd_Scheme_makings := Fk_Scheme_makings
  have F_Scheme_makings : Fun K "makings" "Scheme.makings" sSMk (ma K (ga K "Scheme") "makings") fd_Scheme_makings := fun_of Fk_Scheme_makings
  have b_Scheme_makings := F_Scheme_makings.binds (ps := ["self"]) fun _ _ _ _ _ _ us hl => match us, hl with | [_], _ => rfl
  have m_Scheme_rules := meth_ok (ft 76 (f := .meth "Scheme" "rules") rfl)
  obtain ⟨fd_Scheme_rules, Fk_Scheme_rules⟩ := c.def_ 47 (d := d_Scheme_rules) rfl
  have Fk_Scheme_rules : FunD K "rules" "Scheme.rules" (defArgs sSRu) (defBody sSRu) (defScope sSRu) [] [] (ma K (ga K "Scheme") "rules") fd_Scheme_rules := Fk_Scheme_rules
  have F_Scheme_rules : Fun K "rules" "Scheme.rules" sSRu (ma K (ga K "Scheme") "rules") fd_Scheme_rules := fun_of Fk_Scheme_rules
  have b_Scheme_rules := F_Scheme_rules.binds (ps := ["self"]) fun _ _ _ _ _ _ us hl => match us, hl with | [_], _ => rfl
  obtain ⟨fd_House___init__, Fk_House___init__⟩ := c.def_ 48 (d := d_House___init__) rfl
  have Fk_House___init__ : FunD K "__init__" "House.__init__" (defArgs sHin) (defBody sHin) (defScope sHin) [] [] (ma K (ga K "House") "__init__") fd_House___init__ := Fk_House___init__
  have F_House___init__ : Fun K "__init__" "House.__init__" sHin (ma K (ga K "House") "__init__") fd_House___init__ := fun_of Fk_House___init__
  have b_House___init__ := F_House___init__.binds (ps := ["self", "scheme"]) fun _ _ _ _ _ _ us hl => match us, hl with | [_, _], _ => rfl
  have m_House___len__ := meth_ok (ft 77 (f := .meth "House" "__len__") rfl)
  obtain ⟨fd_House___len__, Fk_House___len__⟩ := c.def_ 49 (d := d_House___len__) rfl
  have Fk_House___len__ : FunD K "__len__" "House.__len__" (defArgs sHln) (defBody sHln) (defScope sHln) [] [] (ma K (ga K "House") "__len__") fd_House___len__ := Fk_House___len__
  have F_House___len__ : Fun K "__len__" "House.__len__" sHln (ma K (ga K "House") "__len__") fd_House___len__ := fun_of Fk_House___len__
  have b_House___len__ := F_House___len__.binds (ps := ["self"]) fun _ _ _ _ _ _ us hl => match us, hl with | [_], _ => rfl
  have m_House_things := meth_ok (ft 78 (f := .meth "House" "things") rfl)
  obtain ⟨fd_House_things, Fk_House_things⟩ := c.def_ 50 (d := d_House_things) rfl
  have Fk_House_things : FunD K "things" "House.things" (defArgs sHth) (defBody sHth) (defScope sHth) [] [] (ma K (ga K "House") "things") fd_House_things := Fk_House_things
  have F_House_things : Fun K "things" "House.things" sHth (ma K (ga K "House") "things") fd_House_things := fun_of Fk_House_things
  have b_House_things := F_House_things.binds (ps := ["self"]) fun _ _ _ _ _ _ us hl => match us, hl with | [_], _ => rfl
  have m_House_scheme := meth_ok (ft 79 (f := .meth "House" "scheme") rfl)
  obtain ⟨fd_House_scheme, Fk_House_scheme⟩ := c.def_ 51 (d := d_House_scheme) rfl
  have Fk_House_scheme : FunD K "scheme" "House.scheme" (defArgs sHsc) (defBody sHsc) (defScope sHsc) [] [] (ma K (ga K "House") "scheme") fd_House_scheme := Fk_House_scheme
  have F_House_scheme : Fun K "scheme" "House.scheme" sHsc (ma K (ga K "House") "scheme") fd_House_scheme := fun_of Fk_House_scheme
  have b_House_scheme := F_House_scheme.binds (ps := ["self"]) fun _ _ _ _ _ _ us hl => match us, hl with | [_], _ => rfl
  have m_House_give := meth_ok (ft 80 (f := .meth "House" "give") rfl)
  obtain ⟨fd_House_give, Fk_House_give⟩ := c.def_ 52 (d := d_House_give) rfl
  have Fk_House_give : FunD K "give" "House.give" (defArgs sHgi) (defBody sHgi) (defScope sHgi) [] [] (ma K (ga K "House") "give") fd_House_give := Fk_House_give
  have F_House_give : Fun K "give" "House.give" sHgi (ma K (ga K "House") "give") fd_House_give := fun_of Fk_House_give
  have b_House_give := F_House_give.binds (ps := ["self", "x", "word", "y"]) fun _ _ _ _ _ _ us hl => match us, hl with | [_, _, _, _], _ => rfl
  have m_House_take := meth_ok (ft 81 (f := .meth "House" "take") rfl)
  obtain ⟨fd_House_take, Fk_House_take⟩ := c.def_ 53 (d := d_House_take) rfl
  have Fk_House_take : FunD K "take" "House.take" (defArgs sHta) (defBody sHta) (defScope sHta) [] [] (ma K (ga K "House") "take") fd_House_take := Fk_House_take
  have F_House_take : Fun K "take" "House.take" sHta (ma K (ga K "House") "take") fd_House_take := fun_of Fk_House_take
  have b_House_take := F_House_take.binds (ps := ["self", "x", "word", "y"]) fun _ _ _ _ _ _ us hl => match us, hl with | [_, _, _, _], _ => rfl
  have m_House_sleep := meth_ok (ft 82 (f := .meth "House" "sleep") rfl)
  obtain ⟨fd_House_sleep, Fk_House_sleep⟩ := c.def_ 54 (d := d_House_sleep) rfl
  have Fk_House_sleep : FunD K "sleep" "House.sleep" (defArgs sHsl) (defBody sHsl) (defScope sHsl) [] [] (ma K (ga K "House") "sleep") fd_House_sleep := Fk_House_sleep
  have F_House_sleep : Fun K "sleep" "House.sleep" sHsl (ma K (ga K "House") "sleep") fd_House_sleep := fun_of Fk_House_sleep
  have b_House_sleep := F_House_sleep.binds (ps := ["self", "x"]) fun _ _ _ _ _ _ us hl => match us, hl with | [_, _], _ => rfl
  have m_House_sort_of := meth_ok (ft 83 (f := .meth "House" "sort_of") rfl)
  obtain ⟨fd_House_sort_of, Fk_House_sort_of⟩ := c.def_ 55 (d := d_House_sort_of) rfl
  have Fk_House_sort_of : FunD K "sort_of" "House.sort_of" (defArgs sHso) (defBody sHso) (defScope sHso) [] [] (ma K (ga K "House") "sort_of") fd_House_sort_of := Fk_House_sort_of
  have F_House_sort_of : Fun K "sort_of" "House.sort_of" sHso (ma K (ga K "House") "sort_of") fd_House_sort_of := fun_of Fk_House_sort_of
  have b_House_sort_of := F_House_sort_of.binds (ps := ["self", "x"]) fun _ _ _ _ _ _ us hl => match us, hl with | [_, _], _ => rfl
  have m_House_is_awake := meth_ok (ft 84 (f := .meth "House" "is_awake") rfl)
  obtain ⟨fd_House_is_awake, Fk_House_is_awake⟩ := c.def_ 56 (d := d_House_is_awake) rfl
  have Fk_House_is_awake : FunD K "is_awake" "House.is_awake" (defArgs sHia) (defBody sHia) (defScope sHia) [] [] (ma K (ga K "House") "is_awake") fd_House_is_awake := Fk_House_is_awake
  have F_House_is_awake : Fun K "is_awake" "House.is_awake" sHia (ma K (ga K "House") "is_awake") fd_House_is_awake := fun_of Fk_House_is_awake
  have b_House_is_awake := F_House_is_awake.binds (ps := ["self", "x"]) fun _ _ _ _ _ _ us hl => match us, hl with | [_, _], _ => rfl
  have m_House_held := meth_ok (ft 85 (f := .meth "House" "held") rfl)
  obtain ⟨fd_House_held, Fk_House_held⟩ := c.def_ 57 (d := d_House_held) rfl
  have Fk_House_held : FunD K "held" "House.held" (defArgs sHhe) (defBody sHhe) (defScope sHhe) [] [] (ma K (ga K "House") "held") fd_House_held := Fk_House_held
  have F_House_held : Fun K "held" "House.held" sHhe (ma K (ga K "House") "held") fd_House_held := fun_of Fk_House_held
  have b_House_held := F_House_held.binds (ps := ["self"]) fun _ _ _ _ _ _ us hl => match us, hl with | [_], _ => rfl
  have m_House_refuse_no_thing := meth_ok (ft 86 (f := .meth "House" "refuse_no_thing") rfl)
  obtain ⟨fd_House_refuse_no_thing, Fk_House_refuse_no_thing⟩ := c.def_ 58 (d := d_House_refuse_no_thing) rfl
  have Fk_House_refuse_no_thing : FunD K "refuse_no_thing" "House.refuse_no_thing" (defArgs sHrt) (defBody sHrt) (defScope sHrt) [] [] (ma K (ga K "House") "refuse_no_thing") fd_House_refuse_no_thing := Fk_House_refuse_no_thing
  have F_House_refuse_no_thing : Fun K "refuse_no_thing" "House.refuse_no_thing" sHrt (ma K (ga K "House") "refuse_no_thing") fd_House_refuse_no_thing := fun_of Fk_House_refuse_no_thing
  have b_House_refuse_no_thing := F_House_refuse_no_thing.binds (ps := ["self", "name"]) fun _ _ _ _ _ _ us hl => match us, hl with | [_, _], _ => rfl
  have m_House_refuse_strange := meth_ok (ft 87 (f := .meth "House" "refuse_strange") rfl)
  obtain ⟨fd_House_refuse_strange, Fk_House_refuse_strange⟩ := c.def_ 59 (d := d_House_refuse_strange) rfl
  have Fk_House_refuse_strange : FunD K "refuse_strange" "House.refuse_strange" (defArgs sHrs) (defBody sHrs) (defScope sHrs) [] [] (ma K (ga K "House") "refuse_strange") fd_House_refuse_strange := Fk_House_refuse_strange
  have F_House_refuse_strange : Fun K "refuse_strange" "House.refuse_strange" sHrs (ma K (ga K "House") "refuse_strange") fd_House_refuse_strange := fun_of Fk_House_refuse_strange
  have b_House_refuse_strange := F_House_refuse_strange.binds (ps := ["self", "x", "word", "y"]) fun _ _ _ _ _ _ us hl => match us, hl with | [_, _, _, _], _ => rfl
  have m_House_enter := meth_ok (ft 88 (f := .meth "House" "enter") rfl)
  have t_abs := free_ok X G (ft 89 (f := .free "abs") rfl)
  have t_int := free_ok X G (ft 90 (f := .free "int") rfl)
  have t_len := free_ok X G (ft 91 (f := .free "len") rfl)
  have t_range := free_ok X G (ft 92 (f := .free "range") rfl)
  have t_all := free_ok X G (ft 93 (f := .free "all") rfl)
  have t_tuple := free_ok X G (ft 94 (f := .free "tuple") rfl)
  have t_enumerate := free_ok X G (ft 95 (f := .free "enumerate") rfl)
  have t_isinstance := free_ok X G (ft 96 (f := .free "isinstance") rfl)
  have t_ValueError := free_ok X G (ft 97 (f := .free "ValueError") rfl)
  have t_list := free_ok X G (ft 98 (f := .free "list") rfl)
  have t_str := free_ok X G (ft 99 (f := .free "str") rfl)
  have t_zip := free_ok X G (ft 100 (f := .free "zip") rfl)
  have t_set := free_ok X G (ft 101 (f := .free "set") rfl)
  have t_sorted := free_ok X G (ft 102 (f := .free "sorted") rfl)
  have e := hfa.symm.trans g_law
  cases e
  have T : TxB mg := ⟨t_abs, t_int, t_len, t_range, t_all, t_tuple, t_enumerate, t_isinstance, t_ValueError⟩
  have TN : TxN mg := ⟨str_ok X G (ft 103 rfl), str_ok X G (ft 104 rfl), int_ok X G (ft 105 rfl)⟩
  have TS : TxS mg := ⟨int_ok X G (ft 106 rfl), int_ok X G (ft 107 rfl), int_ok X G (ft 108 rfl), int_ok X G (ft 109 rfl)⟩
  have TP : TxP mg := ⟨int_ok X G (ft 110 rfl), int_ok X G (ft 111 rfl)⟩
  have MT := int_ok X G (ft 112 rfl)
  obtain ⟨dW0, FW⟩ := c.def_ 61 (d := dWho) rfl
  have FW : FunD K "__init__" "WhoError.__init__" (defArgs sW0) (defBody sW0) (defScope sW0) [.str (PySem.Str.ofString "whoerror")] [] (ma K (ga K "WhoError") "__init__") dW0 := FW
  obtain ⟨ds, hds, bW⟩ := FW.binds1 (ps := ["self", "kind"]) 2 1 (by simp) (by rfl) (fun T kV doc pm an cdv ct us its hu hi => match us, hu, its, hi with | [_, _], _, [_], _ => ⟨_, rfl, rfl⟩)
  cases hds
  have ww := whoB_ok qw
  have TW : WhoT K mg (ga K "WhoError") (ma K (ga K "WhoError") "__init__") dW0 := ⟨g_WhoError, ww.1, ww.2, FW.kp, bW⟩
  have E0 := errB_ok (x := "NoName") qe0 g_NoName
  have E1 := errB_ok (x := "NoSort") qe1 g_NoSort
  have E2 := errB_ok (x := "NoWord") qe2 g_NoWord
  have E3 := errB_ok (x := "Misfit") qe3 g_Misfit
  have TE : TxE K mg (ga K "NoSort") (ga K "NoWord") (ga K "Misfit") (ga K "WhoError") := ⟨g_NoSort, g_NoWord, g_Misfit, g_WhoError, of_decide_eq_true x1, E1.2.1, E1.1.nf, E1.2.2.1, of_decide_eq_true x2, E2.2.1, E2.1.nf, E2.2.2.1, of_decide_eq_true x3, E3.2.1, E3.1.nf, E3.2.2.1, of_decide_eq_true k1, of_decide_eq_true k2, of_decide_eq_true k3, of_decide_eq_true k4, of_decide_eq_true k5, of_decide_eq_true k6, of_decide_eq_true k7, of_decide_eq_true k8, of_decide_eq_true q⟩
  have TC : TxSch K mg (ga K "Scheme") (ma K (ga K "Scheme") "__init__") := ⟨cls_Scheme, na_Scheme_own_sorts, na_Scheme_own_words, na_Scheme_own_makings, na_Scheme_own_rules, na_Scheme_own_bars, g_Scheme, mk_Scheme⟩
  have TR : TxRul K mg (ga K "Rule") (ma K (ga K "Rule") "__init__") := ⟨cls_Rule, na_Rule_name, na_Rule_variables, na_Rule_conditions, na_Rule_gives, na_Rule_by, g_Rule, mk_Rule⟩
  have TB : TxBar K mg (ga K "Rule") (ga K "Rule") := ⟨cls_Rule, na_Rule_name, na_Rule_variables, na_Rule_conditions⟩
  have TM : TxMak K mg (ga K "Making") (ma K (ga K "Making") "__init__") := ⟨cls_Making, na_Making_maker, na_Making_made, na_Making_down, na_Making_up, g_Making, mk_Making⟩
  have TH : TxH K mg (ga K "House") (ma K (ga K "House") "__init__") := ⟨cls_House, na_House_own_scheme, na_House_sort_by_name, na_House_awake_by_name, na_House_standing, g_House, mk_House⟩
  obtain ⟨dEn, FEn⟩ := c.def_ 60 (d := dEnt) rfl
  have FEn : FunD K "enter" "House.enter" (defArgs sHen) (defBody sHen) (defScope sHen) [.bl true] [] (ma K (ga K "House") "enter") dEn := FEn
  obtain ⟨des, hdes, bEn⟩ := FEn.binds1 (ps := ["self", "name", "sort", "awake"]) 4 1 (by simp) (by rfl) (fun T kV doc pm an cdv ct us its hu hi => match us, hu, its, hi with | [_, _, _, _], _, [_], _ => ⟨_, rfl, rfl⟩)
  cases hdes
  obtain ⟨deD, hdeD, bEnD⟩ := FEn.binds1 (ps := ["self", "name", "sort", "awake"]) 3 0 (by simp) (by rfl) (fun T kV doc pm an cdv ct us its hu hi => match us, hu, its, hi with | [_, _, _], _, [_], _ => ⟨_, rfl, rfl⟩)
  have edeD : deD = [.bool true] := by
    cases hdeD with
    | cons r1 t1 =>
      cases t1
      cases r1
      rfl
  rw [edeD] at bEnD
  obtain ⟨dSi, FSi⟩ := c.def_ 62 (d := dSch) rfl
  have FSi : FunD K "__init__" "Scheme.__init__" (defArgs sSch) (defBody sSch) (defScope sSch) [.non, .non, .non] [] (ma K (ga K "Scheme") "__init__") dSi := FSi
  obtain ⟨dss, hdss, bSi⟩ := FSi.binds1 (ps := ["self", "sorts", "words", "makings", "rules", "bars"]) 5 2 (by simp) (by rfl) (fun T kV doc pm an cdv ct us its hu hi => match us, hu, its, hi with | [_, _, _, _, _], _, [_, _, _], _ => ⟨_, rfl, rfl⟩)
  have edss : dss = [.none] := by
    cases hdss with
    | cons r1 t1 =>
      cases t1
      cases r1
      rfl
  rw [edss] at bSi
  refine ⟨_, fun s v => FLb s [v] rfl, fun base _ _ => ?_⟩
  have GWh : FnOk P w K mg base CX0 1 _ dW0 ["self", "kind"] (spWI K) := ok_who FW
  have GI0 : FnOk P w K mg base CX0 2 _ _ ["self", "name"] (spE1 (ga K "NoName") "name" "noname") := ok_noname F_NoName___init__ E0.1 TW GWh
  have GI1 : FnOk P w K mg base CX0 2 _ _ ["self", "name"] (spE1 (ga K "NoSort") "name" "nosort") := ok_nosort F_NoSort___init__ E1.1 TW GWh
  have GI2 : FnOk P w K mg base CX0 2 _ _ ["self", "name"] (spE1 (ga K "NoWord") "name" "noword") := ok_noword F_NoWord___init__ E2.1 TW GWh
  have GI3 : FnOk P w K mg base CX0 2 _ _ ["self", "name"] (spE1 (ga K "Misfit") "name" "misfit") := ok_misfit F_Misfit___init__ E3.1 TW GWh
  have GIs : FnOk P w K mg base CX0 1 _ _ ["text"] spName := ok_name F_is_name T TN
  have GRN : FnOk P w K mg base (L2.CX P w) 4 _ _ ["texts"] (spRN K (ga K "NoName")) := ok_rn F_refuse_no_name D_is_name GIs E0.1 b_NoName___init__ GI0
  have GRV : FnOk P w K mg base CX0 2 _ _ ["texts"] (spRNv K) := ok_rnv F_refuse_no_name D_is_name GIs
  have GRT : FnOk P w K mg base CX0 2 _ _ ["names"] (spFT K) := ok_rt F_refuse_twice T D_first_twice
  have GCP : FnOk P w K mg base (L2.CX P w) 5 _ _ ["name", "variables", "conditions", "given", "hands"] (spCP K (ga K "NoName")) := ok_cp F_check_pattern T TP D_refuse_count D_refuse_no_name D_texts_of_pattern D_refuse_twice D_refuse_no_variable D_ends_of D_refuse_loose D_refuse_apart GRN GRT
  have GR : FnOk P w K mg base (L2.CX P w) 6 _ _ ["self", "name", "variables", "conditions", "gives", "by"] (spRul K (ga K "NoName") (ga K "Rule")) := ok_rul F_Rule___init__ T TR D_tuple_of_tuples D_check_pattern GCP
  have GM : FnOk P w K mg base (L2.CX P w) 5 _ _ ["self", "maker", "made", "down", "up"] (spMak K (ga K "NoName") (ga K "Making")) := ok_mak F_Making___init__ T TM D_refuse_no_name D_refuse_twice GRN GRT
  have GCS : FnOk P w K mg base CX0 3 _ _ ["sorts", "words", "makings", "rules", "bars"] (spCS K (ga K "Making") (ga K "Rule") (ga K "Rule")) := ok_cs F_check_scheme T TS TM TR TB D_refuse_count D_refuse_no_name D_refuse_twice D_refuse_makings_twice D_refuse_no_sort D_refuse_upward D_refuse_no_word D_first_twice GRV GRT
  have GSc : FnOk P w K mg base CX0 4 _ dSi ["self", "sorts", "words", "makings", "rules", "bars"] (spSch K (ga K "Scheme") (ga K "Making") (ga K "Rule") (ga K "Rule")) := ok_sch FSi t_list TC D_own_list D_check_scheme GCS
  have GSo : FnOk P w K mg base CX0 1 _ _ ["self"] (spSor (ga K "Scheme")) := ok_sor F_Scheme_sorts t_list TC
  have GWo : FnOk P w K mg base CX0 1 _ _ ["self"] (spWor (ga K "Scheme")) := ok_wor F_Scheme_words t_list TC
  have GSMk : FnOk P w K mg base CX0 1 _ _ ["self"] (spSMk (ga K "Scheme")) := ok_smk F_Scheme_makings t_list TC
  have GSRu : FnOk P w K mg base CX0 1 _ _ ["self"] (spSRu (ga K "Scheme")) := ok_sru F_Scheme_rules t_list TC
  have GRS : FnOk P w K mg base (L2.CX P w) 4 _ _ ["scheme", "rule"] (spRSR K (ga K "Scheme") (ga K "Rule") (ga K "NoSort") (ga K "NoWord")) := ok_rsr F_refuse_strange_rule TC TR E1.1 b_NoSort___init__ GI1 E2.1 b_NoWord___init__ GI2 m_Scheme_sorts b_Scheme_sorts GSo m_Scheme_words b_Scheme_words GWo
  have GSr : FnOk P w K mg base (L2.CX P w) 5 _ _ ["scheme", "rule"] (spSrw K (ga K "Scheme") (ga K "Rule") (ga K "NoSort") (ga K "NoWord")) := ok_srw F_sort_rows TC TR D_refuse_strange_rule GRS m_Scheme_sorts b_Scheme_sorts GSo
  have GHi : FnOk P w K mg base CX0 1 _ _ ["self", "scheme"] (spHin (ga K "House")) := ok_hin F_House___init__ TH
  have GHrt : FnOk P w K mg base CX0 1 _ _ ["self", "name"] (spHrt (ga K "House") (ga K "Scheme")) := ok_hrt F_House_refuse_no_thing TH
  have GHrs : FnOk P w K mg base CX0 2 _ _ ["self", "x", "word", "y"] (spHrs (ga K "House") (ga K "Scheme")) := ok_hrs F_House_refuse_strange TH m_House_refuse_no_thing b_House_refuse_no_thing GHrt TC m_Scheme_words b_Scheme_words GWo
  have GGi : FnOk P w K mg base CX0 3 _ _ ["self", "x", "word", "y"] (spHgi (ga K "House") (ga K "Scheme")) := ok_hgi F_House_give TH m_House_refuse_strange b_House_refuse_strange GHrs
  have GTa : FnOk P w K mg base CX0 3 _ _ ["self", "x", "word", "y"] (spHta (ga K "House") (ga K "Scheme")) := ok_hta F_House_take TH m_House_refuse_strange b_House_refuse_strange GHrs
  have GSl : FnOk P w K mg base CX0 2 _ _ ["self", "x"] (spHsl (ga K "House") (ga K "Scheme")) := ok_hsl F_House_sleep TH m_House_refuse_no_thing b_House_refuse_no_thing GHrt
  have GSf : FnOk P w K mg base CX0 2 _ _ ["self", "x"] (spHso (ga K "House") (ga K "Scheme")) := ok_hso F_House_sort_of TH m_House_refuse_no_thing b_House_refuse_no_thing GHrt
  have GIa : FnOk P w K mg base CX0 2 _ _ ["self", "x"] (spHia (ga K "House") (ga K "Scheme")) := ok_hia F_House_is_awake TH m_House_refuse_no_thing b_House_refuse_no_thing GHrt
  have GHe : FnOk P w K mg base CX0 1 _ _ ["self"] (spHhe K (ga K "House") (ga K "Scheme")) := ok_hhe F_House_held t_sorted TH
  have GTh : FnOk P w K mg base CX0 1 _ _ ["self"] (spHth (ga K "House") (ga K "Scheme")) := ok_hth F_House_things t_list TH
  have GLn : FnOk P w K mg base CX0 1 _ _ ["self"] (spHln (ga K "House") (ga K "Scheme")) := ok_hln F_House___len__ T TH
  have GHs : FnOk P w K mg base CX0 1 _ _ ["self"] (spHsc (ga K "House") (ga K "Scheme")) := ok_hsc F_House_scheme TH
  have GEn : FnOk P w K mg base CX0 3 _ dEn ["self", "name", "sort", "awake"] (spHen (ga K "House") (ga K "Scheme")) := ok_hen FEn T MT TH D_refuse_no_name GRV TC m_Scheme_sorts b_Scheme_sorts GSo
  have GHf : FnOk P w K mg base CX0 4 _ _ ["scheme", "rule", "row"] (spHf K (ga K "House") (ga K "Scheme") (ga K "Rule")) := ok_hf F_house_for t_zip TH TR b_House___init__ GHi m_House_enter bEn GEn m_House_give b_House_give GGi
  have GLh : FnOk P w K mg base (L2.CX P w) 7 _ _ ["scheme", "rule", "sorts"] (spLh K (ga K "House") (ga K "Scheme") (ga K "Rule") (ga K "NoSort") (ga K "NoWord") (ga K "Misfit")) := ok_lh F_least_house TR D_sort_rows GSr D_house_for GHf E3.1 b_Misfit___init__ GI3
  have GNm : FnOk P w K mg base CX0 3 _ _ ["_law_well_here", "_law_taken"] (spNam K) := ok_nam F__law_name T t_str D__law_draw D__law_pick
  have GN : FnOk P w K mg base CX0 4 _ _ ["_law_well_here", "_law_many"] (spNms K) := ok_nms F__law_names T D__law_name GNm
  have GA : FnOk P w K mg base CX0 5 _ _ ["_law_well_here", "_law_name_here", "_law_sorts", "_law_words", "_law_most"] (spAny K) := ok_any F__law_any_rule T D__law_draw D__law_pick D__law_names GN
  have GMk : FnOk P w K mg base CX0 2 _ _ ["_law_well_here", "_law_sorts", "_law_words", "_law_many"] (spMks K) := ok_mks F__law_makings T D__law_draw
  have GMr : FnOk P w K mg base CX0 8 _ _ ["_law_rule"] (spMdR K (ga K "Rule")) := ok_mdr F__law_made_rule t_list TR b_Rule___init__ GR
  have GMs : FnOk P w K mg base CX0 9 _ _ ["_law_sorts", "_law_words", "_law_makings_here", "_law_rules"] (spMdS K (ga K "Scheme") (ga K "Making") (ga K "Rule") (ga K "Rule")) := ok_mds F__law_made_scheme t_list TM TC b_Making___init__ GM D__law_made_rule GMr bSi GSc
  have GRf : FnOk P w K mg base CX0 1 _ _ ["_law_sorts", "_law_words", "_law_rule", "_law_row"] (spRf K) := ok_rf F__law_refusal T t_zip
  have GSa : FnOk P w K mg base CX0 8 _ _ ["_law_scheme", "_law_rule", "_law_row"] (spSai K (ga K "House") (ga K "Scheme") (ga K "Rule")) := ok_sai F__law_said T TE D_least_house GLh
  have GRi : FnOk P w K mg base CX0 3 _ _ ["_law_house", "_law_scheme", "_law_rule", "_law_row"] (spRi K (ga K "House") (ga K "Scheme")) := ok_ri F__law_right T t_zip t_sorted t_set TH TC m_House___len__.at_ m_House___len__.fn b_House___len__ GLn m_House_things b_House_things GTh m_House_held b_House_held GHe m_House_scheme b_House_scheme GHs m_House_sort_of b_House_sort_of GSf m_House_is_awake b_House_is_awake GIa m_Scheme_sorts b_Scheme_sorts GSo m_Scheme_words b_Scheme_words GWo m_Scheme_makings b_Scheme_makings GSMk m_Scheme_rules b_Scheme_rules GSRu
  have GRo : FnOk P w K mg base CX0 3 _ _ ["_law_well_here", "_law_rule", "_law_sorts", "_law_strange"] (spRo K) := ok_ro F__law_some_row T D__law_draw D__law_pick
  have GOn : FnOk P w K mg base CX0 9 _ _ ["_law_well_here", "_law_told", "_law_scheme", "_law_rule", "_law_row"] (spOn K (ga K "House") (ga K "Scheme") (ga K "Rule")) := ok_on F__law_once T TH TC D__law_name GNm D__law_made_rule GMr D__law_right GRi D__law_said GSa m_House_sleep b_House_sleep GSl m_House_enter bEnD GEn m_House_take b_House_take GTa m_Scheme_sorts b_Scheme_sorts GSo
  exact ok_law F_law T t_list D__law_cell_at D__law_well D__law_draw D__law_pick D__law_name GNm D__law_names GN D__law_any_rule GA D__law_makings GMk D__law_made_scheme GMs D__law_some_row GRo D__law_refusal GRf D__law_made_rule GMr D__law_said GSa D__law_once GOn
end Wm

open PySem PySem.W PySem.Calls PyProof.Rows
set_option maxRecDepth 100000 in
set_option maxHeartbeats 0 in
theorem PySem.Challenge.cw_whomay_k72_least_houses_holds : PySem.Challenge.rw_whomay_k72_least_houses.Holds := by
  w_on; o_law
  refine HandSHeadRun.head_any (r := OpenLaw.row PySem.Challenge.rw_whomay_k72_least_houses) (q := view (OpenLaw.row PySem.Challenge.rw_whomay_k72_least_houses).prog [80]) (H := Wm.hkW) (ob := Wm.obW) (M := 20000) (loose := Wm.loW) (d := HandSHeadRun.topDef (OpenLaw.row PySem.Challenge.rw_whomay_k72_least_houses).prog 80) (kwd := []) Wm.obW_eq
    (by kernel_rfl) (fun s => by kernel_rfl) Wm.runW (by kernel_rfl) (by kernel_rfl) (by kernel_rfl) (by rfl) (by first | assumption | decide +kernel) (by decide +kernel) ⟨rfl, rfl, rfl, rfl, rfl, by decide +kernel⟩ ?hw ?hc
  case hw => w_witness2
  case hc =>
    refine L2.walk_ofE (l := PySem.Challenge.rw_whomay_k72_least_houses) (n := 63) (k := 10) (x := "_law_script") (CX := L2.CX0) rfl (by decide) (by kernel_rfl) ⟨rfl, by decide, by decide⟩ ?F (fun _ _ _ _ z => z)
    intro w mg fa h Y G hmg0
    obtain ⟨K, KX, c⟩ := Y
    have hmg : mg ("law" : PySem.Str) = some (.ref fa) := by
      have e : (HandSHeadRun.topDef (OpenLaw.row PySem.Challenge.rw_whomay_k72_least_houses).prog 80).name = ("law" : PySem.Str) := by kernel_rfl
      rw [← e]
      exact hmg0
    obtain ⟨fd, hb, hF⟩ := Wm.facts (P := (PySem.Challenge.rw_whomay_k72_least_houses).prog) (w := w) KX G hmg c
    exact ⟨K, fd, Wm.spLaw K, KX, hb, fun H a ns hl _ hS => ⟨a, ns, rfl, hS, hl, fun _ => rfl⟩, hF⟩
