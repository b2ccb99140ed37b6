import PyProof.Rows.All
import Wide.All
import OpenK.AllK
import Wide.FinOn
import HandS.ForMost
import HandS.ForExc
import HandS.Walk
import HandS.Star
import HandS.Style
import HandS.TupAny
import HandS.ExcInit
import HandS.ExcIs
import HandS.ExcField
import HandS.Defaults
import HandS.Wide
import HandS.ClsMeth
import KE.KExcIs
import KE.GoesEnum
import HandS.FStr
import KE.KCallOwn
import HandS.OwnEq
import HandS.IsInst
import HandS.Deep
import HandS.Conv
import KE.SortData
import KE.KDictList
import HandS.DictTup
import PyProof.DictMoreH
import HandS.HotCalls
import PyProof.SumWalkG
import PyProof.Rows.SumAny
import HandS.ExcInitHot
import HandS.WordsExc
import OpenK.KOps
import HandS.Zip
import HandS.DictComp
import KE.GoesMore
import KE.GoesZip
import HandS.Words
import KE.KStateDown
import HandS.Head0
import HandS.Head1
import HandS.Head2
import HandS.HeadEnd
import HandS.HeadHook1
import HandS.HeadHook2
import PySem.Challenge.RW_whomay_k19_whole_histories
set_option Elab.async false
set_option linter.all false
set_option maxRecDepth 100000
set_option maxHeartbeats 4000000
namespace Wm
open PySem L2
def top (i : Nat) : Stmt := PySem.Challenge.pw_whomay_k19_whole_histories.main.body.getD i (.Pass ⟨0, 0, 0, 0⟩)
abbrev sState : Stmt := top 82
abbrev sDigit : Stmt := top 83
abbrev sW0 : Stmt := inClass (top 2) 0
abbrev sN0 : Stmt := inClass (top 3) 0
abbrev sName : Stmt := top 44
abbrev sRN : Stmt := top 45
abbrev sFT : Stmt := top 46
abbrev sRT : Stmt := top 47
abbrev sRC : Stmt := top 48
abbrev sTT : Stmt := top 55
abbrev sEO : Stmt := top 56
abbrev sTP : Stmt := top 57
abbrev sRV : Stmt := top 58
abbrev sRL : Stmt := top 59
abbrev sRA : Stmt := top 60
abbrev sCP : Stmt := top 61
abbrev sRul : Stmt := inClass (top 66) 0
abbrev sRE : Stmt := inClass (top 66) 1
abbrev sNam : Stmt := top 84
abbrev sNms : Stmt := top 85
abbrev sMak : Stmt := inClass (top 67) 0
abbrev sOL : Stmt := top 73
abbrev sRMT : Stmt := top 74
abbrev sRNS : Stmt := top 75
abbrev sRU : Stmt := top 76
abbrev sRNW : Stmt := top 77
abbrev sCS : Stmt := top 78
abbrev sSch : Stmt := inClass (top 79) 0
abbrev sSMk : Stmt := inClass (top 79) 3
abbrev sSRu : Stmt := inClass (top 79) 4
abbrev sSor : Stmt := inClass (top 79) 1
abbrev sWor : Stmt := inClass (top 79) 2
abbrev sRle : Stmt := top 86
abbrev sMkg : Stmt := top 87
abbrev sMdl : Stmt := top 88
abbrev sSce : Stmt := top 89
abbrev sNT : Stmt := inClass (top 15) 0
abbrev sNW : Stmt := inClass (top 11) 0
abbrev sNH : Stmt := inClass (top 19) 0
abbrev sAs : Stmt := inClass (top 18) 0
abbrev sHin : Stmt := inClass (top 51) 0
abbrev sHen : Stmt := inClass (top 51) 2
abbrev sHta : Stmt := inClass (top 51) 4
abbrev sHho : Stmt := inClass (top 51) 10
abbrev sHgi : Stmt := inClass (top 51) 3
abbrev sHth : Stmt := inClass (top 51) 7
abbrev sHhe : Stmt := inClass (top 51) 11
abbrev sHrt : Stmt := inClass (top 51) 15
abbrev sHrs : Stmt := inClass (top 51) 16
abbrev sHln : Stmt := inClass (top 51) 1
abbrev sHso : Stmt := inClass (top 51) 8
abbrev sHia : Stmt := inClass (top 51) 9
abbrev sTld : Stmt := top 90
abbrev sRAs : Stmt := top 33
abbrev sPDr : Stmt := top 38
abbrev sHou : Stmt := top 91
abbrev sUna : Stmt := top 93
abbrev sDrD : Stmt := top 96
abbrev sThg : Stmt := top 101
abbrev sRgt : Stmt := top 107
abbrev sBeg : Stmt := top 100
abbrev sNR : Stmt := inClass (top 12) 0
abbrev sMi : Stmt := inClass (top 21) 0
abbrev sSR1 : Stmt := inClass (top 79) 6
abbrev sHsc : Stmt := inClass (top 51) 12
abbrev sTbv : Stmt := top 23
abbrev sPin : Stmt := top 24
abbrev sCat : Stmt := top 25
abbrev sGat : Stmt := top 26
abbrev sHat : Stmt := top 27
abbrev sRNH : Stmt := top 34
abbrev sRMi : Stmt := top 35
abbrev sPDo : Stmt := top 37
abbrev sTk : Stmt := inClass (top 16) 0
abbrev sNS : Stmt := inClass (top 9) 0
abbrev sFu : Stmt := inClass (top 17) 0
abbrev sNMk : Stmt := inClass (top 14) 0
abbrev sMF : Stmt := top 29
abbrev sMB : Stmt := top 30
abbrev sMH : Stmt := top 31
abbrev sPMk : Stmt := top 36
abbrev sNDd : Stmt := inClass (top 20) 0
abbrev sPly : Stmt := top 39
abbrev sLNm : Stmt := top 92
abbrev sMkD : Stmt := top 94
abbrev sMke : Stmt := top 102
abbrev sPlm : Stmt := top 99
abbrev sDoD : Stmt := top 95
abbrev sGvn : Stmt := top 98
abbrev sFit : Stmt := top 103
abbrev sDo : Stmt := top 104
abbrev sDrp : Stmt := top 105
abbrev sAll : Stmt := top 97
abbrev sDed : Stmt := top 106
abbrev sHwa : Stmt := inClass (top 51) 5
abbrev sHsl : Stmt := inClass (top 51) 6
abbrev sOut : Stmt := top 108
abbrev sCel : Stmt := top 81
abbrev sLaw : Stmt := top 109
end Wm
/-! a head by one run: what is asked of the written part is one Bool of one's own -/
namespace Wm
open PySem PySem.Spec PyProof.Rows L2 He ClX
def obsM (ck : PySem.W.Frag → Bool) (fn : List DefD) (K : PySem.W.Frag) : AlD := (ck K && fn.all fun d => d.ok K, fn.map fun d => fnW K d.at_)
def SaysM (ck : PySem.W.Frag → Bool) (fn : List DefD) (K : PySem.W.Frag) : Prop := obsM ck fn K = valD fn
/-- what the module's names, and what the C code keeps, reach in n steps -/
def asM (g : Addr → Option Obj) : Nat → List Addr
  | 0 => [mainGlobals, cStatics]
  | n + 1 => growD g (asM g n)
def obsMG (n : Nat) (ck : PySem.W.Frag → Bool) (fn : List DefD) (g : Addr → Option Obj) : AlD := obsM ck fn (frG g (asM g n))
def hookM (n : Nat) (ck : PySem.W.Frag → Bool) (fn : List DefD) : PySem.W.Hook where
  α := AlD
  obs := fun s => obsMG n ck fn s.heap.get?
  val := fun _ => valD fn
  says := fun _ h => ∃ K : PySem.W.Frag, K.In h ∧ SaysM ck fn K
  of := fun _ _ e => ⟨_, frG_in, e⟩
  keeps := fun _ _ _ ⟨K, hK, c⟩ k => ⟨K, PySem.W.Frag.In.keeps hK k, c⟩
theorem obsMG_eq {n : Nat} {ck : PySem.W.Frag → Bool} {fn : List DefD} {g : Addr → Option Obj} {s : Shared} (h : ∀ a, g a = s.heap.get? a) : obsMG n ck fn g = (hookM n ck fn).obs s := by
  have e : g = s.heap.get? := funext h
  rw [e] <;> rfl
section
variable {ck : PySem.W.Frag → Bool} {fn : List DefD} {K : PySem.W.Frag}
theorem SaysM.says (c : SaysM ck fn K) : ck K = true := (ba (show (ck K && fn.all fun d => d.ok K) = true from congrArg (fun z : AlD => z.1) c)).1
theorem SaysM.def_ (c : SaysM ck fn K) (i : Nat) {d : DefD} (h : fn[i]? = some d := by rfl) : ∃ fd, FunD K d.name d.qual d.params d.body d.scope (d.dvs K) (d.kws K) (fAd K d.at_) fd := by
  have c2 := (ba (show (ck K && fn.all fun d => d.ok K) = true from congrArg (fun z : AlD => z.1) c)).2
  have e : fn.map (fun d => fnW K d.at_) = fn.map DefD.val := congrArg (fun z : AlD => z.2) c
  have e2 : (fn.map fun d => fnW K d.at_)[i]? = (fn.map DefD.val)[i]? := by rw [e]
  rw [List.getElem?_map, List.getElem?_map, h] at e2
  exact DefD.funD (Option.some.inj e2) (List.all_eq_true.mp c2 d (List.mem_of_getElem? h))
end
/-- a def without defaults -/
theorem fun_of {K : PySem.W.Frag} {x q : Str} {st : Stmt} {f : Addr} {fd : FuncData} (F : FunD K x q (defArgs st) (defBody st) (defScope st) [] [] f fd) : Fun K x q st f fd := by
  obtain ⟨oc, od, dV, kV, doc, pm, an, cdv, ct, osl, rfl, l, c, d, _⟩ := F.ex
  have e : dV = .none := by
    rcases d with ⟨_, e⟩ | ⟨n, _⟩
    · exact e
    · exact absurd rfl n
  subst e
  exact ⟨⟨oc, od, kV, doc, pm, an, cdv, ct, osl, rfl, l, c⟩, F.kp⟩
/-- an error class whose objects are made by an __init__ of its own -/
def excB (K : PySem.W.Frag) (C : Addr) : Bool := match K.lookup C with
  | some ⟨.type "type", _, .cls cd, sl⟩ => (match cd.mro, sl.toList with
    | .ref C' :: bm, [_, _, _, _, some (.builtin n), _] => C' == C && (n == "ValueError.__new__" && (!cd.hasDel && (cd.hasDict && PySem.HandSPX.refsVE bm)))
    | _, _ => false)
  | _ => false
theorem excB_ok {K : PySem.W.Frag} {C : Addr} (q : excB K C = true) : ∃ nm q N bs bm sn sub ab col dd k0 k1 k2 k3 k5, K.lookup C = some (excClassObj nm q C N bs bm true sn sub ab col dd k0 k1 k2 k3 k5 "ValueError.__new__") ∧ PySem.HandSPX.refsVE bm = true := by
  unfold excB at q
  split at q
  · rename_i dd cd sl ho
    split at q
    · rename_i C' bm k0 k1 k2 k3 n k5 hm hs
      simp only [Bool.and_eq_true, beq_iff_eq, Bool.not_eq_true'] at q
      obtain ⟨rfl, rfl, hdel, hdi, ht⟩ := q
      obtain ⟨nm, bs, mro, ns, qn, hd, sn, sub, ab, col, del⟩ := cd
      dsimp only at hm hdel hdi
      subst hm hdel hdi
      have hsl : sl = #[k0, k1, k2, k3, some (.builtin "ValueError.__new__"), k5] := by
        obtain ⟨l⟩ := sl
        simp only at hs
        rw [hs]
      subst hsl
      exact ⟨nm, qn, ns, bs, bm, sn, sub, ab, col, dd, k0, k1, k2, k3, k5, ho, ht⟩
    · cases q
  · cases q
/-- WhoError, whose __init__ the others call -/
def whoB (K : PySem.W.Frag) (W : Addr) : Bool := PySem.W.readsIn K W (.type "type") && (eqO (PySem.W.specialIn K (.ref W) "__getattribute__") (some (some (.builtin "type.__getattribute__"))) && (match PySem.W.findCls K (.ref W) (.type "type") "__init__" with
  | some (.val (.ref a)) => decide (a = ma K W "__init__")
  | _ => false))
theorem whoB_ok {K : PySem.W.Frag} {W : Addr} (h : whoB K W = true) : CRead K W (.type "type") ∧ PySem.W.findCls K (.ref W) (.type "type") "__init__" = some (.val (.ref (ma K W "__init__"))) := by
  unfold whoB at h
  obtain ⟨h1, h⟩ := ba h
  obtain ⟨h2, h3⟩ := ba h
  refine ⟨⟨h1, eqO_ok h2⟩, ?_⟩
  split at h3
  · rename_i a e
    rw [e, of_decide_eq_true h3]
  · cases h3
end Wm
/-! the reached fragment, gone through once: what was seen is kept as bits of a number -/
namespace Wm
open PySem PySem.Spec PyProof.Rows L2 He ClX
noncomputable def pushB (as : List Addr) : Nat → List Addr → Nat × List Addr := List.rec (motive := fun _ => Nat → List Addr → Nat × List Addr) (fun v acc => (v, acc)) (fun a _ ih v acc => Bool.rec (motive := fun _ => Nat × List Addr) (ih (Nat.lor v (Nat.shiftLeft 1 a)) (a :: acc)) (ih v acc) (Nat.beq (Nat.mod (Nat.shiftRight v a) 2) 1)) as
noncomputable def lvB (g : Addr → Option Obj) (n : Nat) : List Addr → Nat → List Addr := Nat.rec (motive := fun _ => List Addr → Nat → List Addr) (fun fr _ => fr) (fun _ ih fr v => fr ++ (match pushB (fr.flatMap fun a => match g a with
  | some o => refsD o
  | none => []) v [] with
  | (v', nf) => ih nf v')) n
noncomputable def asB (g : Addr → Option Obj) (n : Nat) : List Addr := lvB g n [mainGlobals, cStatics] (Nat.lor (Nat.shiftLeft 1 mainGlobals) (Nat.shiftLeft 1 cStatics))
noncomputable def obsBG (n : Nat) (ck : PySem.W.Frag → Bool) (fn : List DefD) (g : Addr → Option Obj) : AlD := obsM ck fn (frG g (asB g n))
noncomputable def hookB (n : Nat) (ck : PySem.W.Frag → Bool) (fn : List DefD) : PySem.W.Hook where
  α := AlD
  obs := fun s => obsBG n ck fn s.heap.get?
  val := fun _ => valD fn
  says := fun _ h => ∃ K : PySem.W.Frag, K.In h ∧ SaysM ck fn K
  of := fun _ _ e => ⟨_, frG_in, e⟩
  keeps := fun _ _ _ ⟨K, hK, c⟩ k => ⟨K, PySem.W.Frag.In.keeps hK k, c⟩
theorem obsBG_eq {n : Nat} {ck : PySem.W.Frag → Bool} {fn : List DefD} {g : Addr → Option Obj} {s : Shared} (h : ∀ a, g a = s.heap.get? a) : obsBG n ck fn g = (hookB n ck fn).obs s := by
  have e : g = s.heap.get? := funext h
  rw [e] <;> rfl
end Wm
/-! the run's equation in two: what is looked at behind the top, and the facts, each by a run of its own -/
namespace Wm
open PySem PySem.W PySem.Calls PyProof.Rows HandSHeadRun
noncomputable def RunA (r : OpenRow) (q : Program) (M : Nat) (loose : List PySem.Str) (w : World) : Prop :=
  ∀ os : OsState, (endF (stepQ (denQ tabQ) r.prog w) M r.prog w os).map (fun s => (looksF r.prog (boot_heap w.params) s.abs, seenQ q loose (importedModules r.prog.main.body) (fun s => xlAt q [] s && recOk r.toRowW.records s) s.abs)) = some (true, openGood q loose)
noncomputable def RunB (r : OpenRow) (H : Hook) (ob : SharedT → H.α) (M : Nat) (w : World) : Prop :=
  ∀ os : OsState, (endF (stepQ (denQ tabQ) r.prog w) M r.prog w os).map ob = some (H.val w)
theorem runEq_of {r : OpenRow} {q : Program} {H : Hook} {ob : SharedT → H.α} {M : Nat} {loose : List PySem.Str} {w : World} (a : RunA r q M loose w) (b : RunB r H ob M w) : RunEq r q H ob M loose w := fun os => by
  have a := a os
  have b := b os
  revert a b
  generalize endF (stepQ (denQ tabQ) r.prog w) M r.prog w os = z
  cases z with
  | none =>
    intro a
    cases a
  | some s =>
    intro a b
    have e1 := Option.some.inj a
    have e2 : ob s = H.val w := Option.some.inj b
    obtain ⟨e3, e4⟩ := Prod.mk.inj e1
    show some (_, _, _) = _
    rw [e2]
    exact congrArg some (Prod.ext e3 (Prod.ext e4 rfl))
end Wm
namespace Wm
open PySem L2 He ClX StX
/-- what is asked of an error class of one field -/
def errB (K : PySem.W.Frag) (C fI : Addr) (f : Str) : Bool :=
  eqO (PySem.W.findIn K (.ref C) "__setattr__") (some (some (.builtin "object.__setattr__"))) && (decide (PySem.W.subIn K (.ref C) (.type "BaseException") = some true) && (decide (PySem.W.typeIn K (.ref C) = some (.type "type")) && (PySem.W.keepIn K (.ref C) &&
  (decide (PySem.W.typeIn K (.ref fI) = some (.type "function")) && (eqO (PySem.W.findIn K (.ref C) "kind") (some none) && (eqO (PySem.W.findIn K (.ref C) f) (some none) && (eqO (PySem.W.findIn K (.ref C) "__getattribute__") (some (some (.builtin "BaseException.__getattribute__"))) &&
  (eqO (PySem.W.findIn K (.ref C) "__getattr__") (some none) && (PySem.W.hasDictIn K C && (eqO (PySem.W.findIn K (.ref C) "__class__") (some (some (.builtin "object.__class__"))) && (decide (PySem.W.mroIn K C (.type "object") = some true) &&
  (eqO (PySem.W.findIn K (.ref C) "__init__") (some (some (.ref fI))) && (excB K C && (decide (PySem.W.exmOne K (.ref C) (.ref C) = some true) && (eqO (PySem.W.specialIn K (.builtin "object.__class__") "__get__") (some (some (.builtin "getset_descriptor.__get__"))) && decide (PySem.W.takesIn K (.builtin "object.__class__") = some true))))))))))))))))
def factL : List Fa := [.glo "WhoError", .glo "NoName", .glo "Taken", .glo "NoSort", .glo "NoThing", .glo "NoWord", .glo "Asleep", .glo "NoRule", .glo "Misfit", .glo "Full", .glo "NotHeld", .glo "NoMaking", .glo "NoDeed", .glo "is_name", .glo "refuse_no_name", .glo "first_twice", .glo "refuse_twice", .glo "refuse_count", .glo "own_list", .glo "refuse_makings_twice", .glo "refuse_no_sort", .glo "refuse_upward", .glo "refuse_no_word", .glo "check_scheme", .glo "tuple_of_tuples", .glo "ends_of", .glo "texts_of_pattern", .glo "refuse_no_variable", .glo "refuse_loose", .glo "refuse_apart", .glo "check_pattern", .glo "_law_cell_at", .glo "_law_state", .glo "_law_digit", .glo "_law_name", .glo "_law_names", .glo "_law_rule", .glo "_law_making", .glo "_law_model", .glo "_law_scheme", .glo "_law_told", .glo "_law_house", .glo "_law_right", .glo "_law_begun", .glo "thing_by_variable", .glo "put_in", .glo "conditions_at", .glo "given_at", .glo "hand_at", .glo "makings_from", .glo "making_between", .glo "made_holdings", .glo "refuse_asleep", .glo "refuse_not_held", .glo "refuse_misfit", .glo "play_make", .glo "play_do", .glo "play_drop", .glo "play", .glo "_law_is_name", .glo "_law_unasked", .glo "_law_make_due", .glo "_law_do_due", .glo "_law_drop_due", .glo "_law_due", .glo "_law_given", .glo "_law_play", .glo "_law_thing", .glo "_law_make", .glo "_law_fits", .glo "_law_do", .glo "_law_drop", .glo "_law_deed", .glo "_law_outside", .glo "law", .glo "Scheme", .cls "Scheme", .noat "Scheme" "own_sorts", .noat "Scheme" "own_words", .noat "Scheme" "own_makings", .noat "Scheme" "own_rules", .noat "Scheme" "own_bars", .mkr "Scheme", .glo "Rule", .cls "Rule", .noat "Rule" "name", .noat "Rule" "variables", .noat "Rule" "conditions", .noat "Rule" "gives", .noat "Rule" "by", .mkr "Rule", .glo "Making", .cls "Making", .noat "Making" "maker", .noat "Making" "made", .noat "Making" "down", .noat "Making" "up", .mkr "Making", .glo "House", .cls "House", .noat "House" "own_scheme", .noat "House" "sort_by_name", .noat "House" "awake_by_name", .noat "House" "standing", .mkr "House", .meth "Scheme" "sorts", .meth "Scheme" "words", .meth "Scheme" "makings", .meth "Scheme" "rule", .meth "House" "__len__", .meth "House" "things", .meth "House" "sort_of", .meth "House" "is_awake", .meth "House" "held", .meth "House" "refuse_no_thing", .meth "House" "refuse_strange", .meth "House" "give", .meth "House" "take", .meth "House" "scheme", .meth "House" "holds", .meth "House" "wake", .meth "House" "sleep", .meth "House" "enter", .free "abs", .free "int", .free "len", .free "range", .free "all", .free "tuple", .free "enumerate", .free "isinstance", .free "ValueError", .free "list", .free "str", .free "sorted", .free "sum", .free "min", .free "zip", .str "LETTERS" "abcdefghijklmnopqrstuvwxyz", .str "FIGURES" "0123456789", .int "LONGEST_NAME" 12, .int "MOST_SORTS" 4, .int "MOST_WORDS" 5, .int "MOST_RULES" 8, .int "MOST_BARS" 4, .int "MOST_VARIABLES" 4, .int "MOST_CONDITIONS" 3, .int "MOST_THINGS" 60]
def kitB (K : PySem.W.Frag) (Z C0 C1 C2 C3 C4 C5 C6 C7 C8 C9 C10 C11 W : Addr) (i : Nat) : Bool := decide (PySem.W.exmOne K (.ref Z) (.ref W) = some true) && (decide (PySem.W.kitOne K (.ref Z) (.ref C0) = some (decide (i = 0))) && (decide (PySem.W.kitOne K (.ref Z) (.ref C1) = some (decide (i = 1))) && (decide (PySem.W.kitOne K (.ref Z) (.ref C2) = some (decide (i = 2))) && (decide (PySem.W.kitOne K (.ref Z) (.ref C3) = some (decide (i = 3))) && (decide (PySem.W.kitOne K (.ref Z) (.ref C4) = some (decide (i = 4))) && (decide (PySem.W.kitOne K (.ref Z) (.ref C5) = some (decide (i = 5))) && (decide (PySem.W.kitOne K (.ref Z) (.ref C6) = some (decide (i = 6))) && (decide (PySem.W.kitOne K (.ref Z) (.ref C7) = some (decide (i = 7))) && (decide (PySem.W.kitOne K (.ref Z) (.ref C8) = some (decide (i = 8))) && (decide (PySem.W.kitOne K (.ref Z) (.ref C9) = some (decide (i = 9))) && (decide (PySem.W.kitOne K (.ref Z) (.ref C10) = some (decide (i = 10))) && (decide (PySem.W.kitOne K (.ref Z) (.ref C11) = some (decide (i = 11))) && (decide (PySem.W.kitOne K (.ref Z) (.type "ValueError") = some true))))))))))))))
def ck (K : PySem.W.Frag) : Bool := factL.all (fun f => f.ok K) && (whoB K (ga K "WhoError") && (errB K (ga K "NoName") (ma K (ga K "NoName") "__init__") "name" && (errB K (ga K "Taken") (ma K (ga K "Taken") "__init__") "name" && (errB K (ga K "NoSort") (ma K (ga K "NoSort") "__init__") "name" && (errB K (ga K "NoThing") (ma K (ga K "NoThing") "__init__") "name" && (errB K (ga K "NoWord") (ma K (ga K "NoWord") "__init__") "name" && (errB K (ga K "Asleep") (ma K (ga K "Asleep") "__init__") "name" && (errB K (ga K "NoRule") (ma K (ga K "NoRule") "__init__") "name" && (errB K (ga K "Misfit") (ma K (ga K "Misfit") "__init__") "name" && (errB K (ga K "Full") (ma K (ga K "Full") "__init__") "kind" && (errB K (ga K "NotHeld") (ma K (ga K "NotHeld") "__init__") "x" && (errB K (ga K "NoMaking") (ma K (ga K "NoMaking") "__init__") "maker" && (errB K (ga K "NoDeed") (ma K (ga K "NoDeed") "__init__") "word" && (eqO (PySem.W.findIn K (.ref (ga K "NotHeld")) "word") (some none) && (eqO (PySem.W.findIn K (.ref (ga K "NotHeld")) "y") (some none) && (eqO (PySem.W.findIn K (.ref (ga K "NoMaking")) "made") (some none) && (kitB K (ga K "NoName") (ga K "NoName") (ga K "Taken") (ga K "NoSort") (ga K "NoThing") (ga K "NoWord") (ga K "Asleep") (ga K "NoRule") (ga K "Misfit") (ga K "Full") (ga K "NotHeld") (ga K "NoMaking") (ga K "NoDeed") (ga K "WhoError") 0 && (kitB K (ga K "Taken") (ga K "NoName") (ga K "Taken") (ga K "NoSort") (ga K "NoThing") (ga K "NoWord") (ga K "Asleep") (ga K "NoRule") (ga K "Misfit") (ga K "Full") (ga K "NotHeld") (ga K "NoMaking") (ga K "NoDeed") (ga K "WhoError") 1 && (kitB K (ga K "NoSort") (ga K "NoName") (ga K "Taken") (ga K "NoSort") (ga K "NoThing") (ga K "NoWord") (ga K "Asleep") (ga K "NoRule") (ga K "Misfit") (ga K "Full") (ga K "NotHeld") (ga K "NoMaking") (ga K "NoDeed") (ga K "WhoError") 2 && (kitB K (ga K "NoThing") (ga K "NoName") (ga K "Taken") (ga K "NoSort") (ga K "NoThing") (ga K "NoWord") (ga K "Asleep") (ga K "NoRule") (ga K "Misfit") (ga K "Full") (ga K "NotHeld") (ga K "NoMaking") (ga K "NoDeed") (ga K "WhoError") 3 && (kitB K (ga K "NoWord") (ga K "NoName") (ga K "Taken") (ga K "NoSort") (ga K "NoThing") (ga K "NoWord") (ga K "Asleep") (ga K "NoRule") (ga K "Misfit") (ga K "Full") (ga K "NotHeld") (ga K "NoMaking") (ga K "NoDeed") (ga K "WhoError") 4 && (kitB K (ga K "Asleep") (ga K "NoName") (ga K "Taken") (ga K "NoSort") (ga K "NoThing") (ga K "NoWord") (ga K "Asleep") (ga K "NoRule") (ga K "Misfit") (ga K "Full") (ga K "NotHeld") (ga K "NoMaking") (ga K "NoDeed") (ga K "WhoError") 5 && (kitB K (ga K "NoRule") (ga K "NoName") (ga K "Taken") (ga K "NoSort") (ga K "NoThing") (ga K "NoWord") (ga K "Asleep") (ga K "NoRule") (ga K "Misfit") (ga K "Full") (ga K "NotHeld") (ga K "NoMaking") (ga K "NoDeed") (ga K "WhoError") 6 && (kitB K (ga K "Misfit") (ga K "NoName") (ga K "Taken") (ga K "NoSort") (ga K "NoThing") (ga K "NoWord") (ga K "Asleep") (ga K "NoRule") (ga K "Misfit") (ga K "Full") (ga K "NotHeld") (ga K "NoMaking") (ga K "NoDeed") (ga K "WhoError") 7 && (kitB K (ga K "Full") (ga K "NoName") (ga K "Taken") (ga K "NoSort") (ga K "NoThing") (ga K "NoWord") (ga K "Asleep") (ga K "NoRule") (ga K "Misfit") (ga K "Full") (ga K "NotHeld") (ga K "NoMaking") (ga K "NoDeed") (ga K "WhoError") 8 && (kitB K (ga K "NotHeld") (ga K "NoName") (ga K "Taken") (ga K "NoSort") (ga K "NoThing") (ga K "NoWord") (ga K "Asleep") (ga K "NoRule") (ga K "Misfit") (ga K "Full") (ga K "NotHeld") (ga K "NoMaking") (ga K "NoDeed") (ga K "WhoError") 9 && (kitB K (ga K "NoMaking") (ga K "NoName") (ga K "Taken") (ga K "NoSort") (ga K "NoThing") (ga K "NoWord") (ga K "Asleep") (ga K "NoRule") (ga K "Misfit") (ga K "Full") (ga K "NotHeld") (ga K "NoMaking") (ga K "NoDeed") (ga K "WhoError") 10 && (kitB K (ga K "NoDeed") (ga K "NoName") (ga K "Taken") (ga K "NoSort") (ga K "NoThing") (ga K "NoWord") (ga K "Asleep") (ga K "NoRule") (ga K "Misfit") (ga K "Full") (ga K "NotHeld") (ga K "NoMaking") (ga K "NoDeed") (ga K "WhoError") 11))))))))))))))))))))))))))))
def d_is_name : DefD := ⟨("is_name", none), "is_name", "is_name", defArgs sName, defBody sName, defScope sName, [], []⟩
def d_refuse_no_name : DefD := ⟨("refuse_no_name", none), "refuse_no_name", "refuse_no_name", defArgs sRN, defBody sRN, defScope sRN, [], []⟩
def d_first_twice : DefD := ⟨("first_twice", none), "first_twice", "first_twice", defArgs sFT, defBody sFT, defScope sFT, [], []⟩
def d_refuse_twice : DefD := ⟨("refuse_twice", none), "refuse_twice", "refuse_twice", defArgs sRT, defBody sRT, defScope sRT, [], []⟩
def d_refuse_count : DefD := ⟨("refuse_count", none), "refuse_count", "refuse_count", defArgs sRC, defBody sRC, defScope sRC, [], []⟩
def d_own_list : DefD := ⟨("own_list", none), "own_list", "own_list", defArgs sOL, defBody sOL, defScope sOL, [], []⟩
def d_refuse_makings_twice : DefD := ⟨("refuse_makings_twice", none), "refuse_makings_twice", "refuse_makings_twice", defArgs sRMT, defBody sRMT, defScope sRMT, [], []⟩
def d_refuse_no_sort : DefD := ⟨("refuse_no_sort", none), "refuse_no_sort", "refuse_no_sort", defArgs sRNS, defBody sRNS, defScope sRNS, [], []⟩
def d_refuse_upward : DefD := ⟨("refuse_upward", none), "refuse_upward", "refuse_upward", defArgs sRU, defBody sRU, defScope sRU, [], []⟩
def d_refuse_no_word : DefD := ⟨("refuse_no_word", none), "refuse_no_word", "refuse_no_word", defArgs sRNW, defBody sRNW, defScope sRNW, [], []⟩
def d_check_scheme : DefD := ⟨("check_scheme", none), "check_scheme", "check_scheme", defArgs sCS, defBody sCS, defScope sCS, [], []⟩
def d_tuple_of_tuples : DefD := ⟨("tuple_of_tuples", none), "tuple_of_tuples", "tuple_of_tuples", defArgs sTT, defBody sTT, defScope sTT, [], []⟩
def d_ends_of : DefD := ⟨("ends_of", none), "ends_of", "ends_of", defArgs sEO, defBody sEO, defScope sEO, [], []⟩
def d_texts_of_pattern : DefD := ⟨("texts_of_pattern", none), "texts_of_pattern", "texts_of_pattern", defArgs sTP, defBody sTP, defScope sTP, [], []⟩
def d_refuse_no_variable : DefD := ⟨("refuse_no_variable", none), "refuse_no_variable", "refuse_no_variable", defArgs sRV, defBody sRV, defScope sRV, [], []⟩
def d_refuse_loose : DefD := ⟨("refuse_loose", none), "refuse_loose", "refuse_loose", defArgs sRL, defBody sRL, defScope sRL, [], []⟩
def d_refuse_apart : DefD := ⟨("refuse_apart", none), "refuse_apart", "refuse_apart", defArgs sRA, defBody sRA, defScope sRA, [], []⟩
def d_check_pattern : DefD := ⟨("check_pattern", none), "check_pattern", "check_pattern", defArgs sCP, defBody sCP, defScope sCP, [], []⟩
def d__law_cell_at : DefD := ⟨("_law_cell_at", none), "_law_cell_at", "_law_cell_at", defArgs sCel, defBody sCel, defScope sCel, [], []⟩
def d__law_state : DefD := ⟨("_law_state", none), "_law_state", "_law_state", defArgs sState, defBody sState, defScope sState, [], []⟩
def d__law_digit : DefD := ⟨("_law_digit", none), "_law_digit", "_law_digit", defArgs sDigit, defBody sDigit, defScope sDigit, [], []⟩
def d__law_name : DefD := ⟨("_law_name", none), "_law_name", "_law_name", defArgs sNam, defBody sNam, defScope sNam, [], []⟩
def d__law_names : DefD := ⟨("_law_names", none), "_law_names", "_law_names", defArgs sNms, defBody sNms, defScope sNms, [], []⟩
def d__law_rule : DefD := ⟨("_law_rule", none), "_law_rule", "_law_rule", defArgs sRle, defBody sRle, defScope sRle, [], []⟩
def d__law_making : DefD := ⟨("_law_making", none), "_law_making", "_law_making", defArgs sMkg, defBody sMkg, defScope sMkg, [], []⟩
def d__law_model : DefD := ⟨("_law_model", none), "_law_model", "_law_model", defArgs sMdl, defBody sMdl, defScope sMdl, [], []⟩
def d__law_scheme : DefD := ⟨("_law_scheme", none), "_law_scheme", "_law_scheme", defArgs sSce, defBody sSce, defScope sSce, [], []⟩
def d__law_told : DefD := ⟨("_law_told", none), "_law_told", "_law_told", defArgs sTld, defBody sTld, defScope sTld, [], []⟩
def d__law_house : DefD := ⟨("_law_house", none), "_law_house", "_law_house", defArgs sHou, defBody sHou, defScope sHou, [], []⟩
def d__law_right : DefD := ⟨("_law_right", none), "_law_right", "_law_right", defArgs sRgt, defBody sRgt, defScope sRgt, [], []⟩
def d__law_begun : DefD := ⟨("_law_begun", none), "_law_begun", "_law_begun", defArgs sBeg, defBody sBeg, defScope sBeg, [], []⟩
def d_thing_by_variable : DefD := ⟨("thing_by_variable", none), "thing_by_variable", "thing_by_variable", defArgs sTbv, defBody sTbv, defScope sTbv, [], []⟩
def d_put_in : DefD := ⟨("put_in", none), "put_in", "put_in", defArgs sPin, defBody sPin, defScope sPin, [], []⟩
def d_conditions_at : DefD := ⟨("conditions_at", none), "conditions_at", "conditions_at", defArgs sCat, defBody sCat, defScope sCat, [], []⟩
def d_given_at : DefD := ⟨("given_at", none), "given_at", "given_at", defArgs sGat, defBody sGat, defScope sGat, [], []⟩
def d_hand_at : DefD := ⟨("hand_at", none), "hand_at", "hand_at", defArgs sHat, defBody sHat, defScope sHat, [], []⟩
def d_makings_from : DefD := ⟨("makings_from", none), "makings_from", "makings_from", defArgs sMF, defBody sMF, defScope sMF, [], []⟩
def d_making_between : DefD := ⟨("making_between", none), "making_between", "making_between", defArgs sMB, defBody sMB, defScope sMB, [], []⟩
def d_made_holdings : DefD := ⟨("made_holdings", none), "made_holdings", "made_holdings", defArgs sMH, defBody sMH, defScope sMH, [], []⟩
def d_refuse_asleep : DefD := ⟨("refuse_asleep", none), "refuse_asleep", "refuse_asleep", defArgs sRAs, defBody sRAs, defScope sRAs, [], []⟩
def d_refuse_not_held : DefD := ⟨("refuse_not_held", none), "refuse_not_held", "refuse_not_held", defArgs sRNH, defBody sRNH, defScope sRNH, [], []⟩
def d_refuse_misfit : DefD := ⟨("refuse_misfit", none), "refuse_misfit", "refuse_misfit", defArgs sRMi, defBody sRMi, defScope sRMi, [], []⟩
def d_play_make : DefD := ⟨("play_make", none), "play_make", "play_make", defArgs sPMk, defBody sPMk, defScope sPMk, [], []⟩
def d_play_do : DefD := ⟨("play_do", none), "play_do", "play_do", defArgs sPDo, defBody sPDo, defScope sPDo, [], []⟩
def d_play_drop : DefD := ⟨("play_drop", none), "play_drop", "play_drop", defArgs sPDr, defBody sPDr, defScope sPDr, [], []⟩
def d_play : DefD := ⟨("play", none), "play", "play", defArgs sPly, defBody sPly, defScope sPly, [], []⟩
def d__law_is_name : DefD := ⟨("_law_is_name", none), "_law_is_name", "_law_is_name", defArgs sLNm, defBody sLNm, defScope sLNm, [], []⟩
def d__law_unasked : DefD := ⟨("_law_unasked", none), "_law_unasked", "_law_unasked", defArgs sUna, defBody sUna, defScope sUna, [], []⟩
def d__law_make_due : DefD := ⟨("_law_make_due", none), "_law_make_due", "_law_make_due", defArgs sMkD, defBody sMkD, defScope sMkD, [], []⟩
def d__law_do_due : DefD := ⟨("_law_do_due", none), "_law_do_due", "_law_do_due", defArgs sDoD, defBody sDoD, defScope sDoD, [], []⟩
def d__law_drop_due : DefD := ⟨("_law_drop_due", none), "_law_drop_due", "_law_drop_due", defArgs sDrD, defBody sDrD, defScope sDrD, [], []⟩
def d__law_due : DefD := ⟨("_law_due", none), "_law_due", "_law_due", defArgs sAll, defBody sAll, defScope sAll, [], []⟩
def d__law_given : DefD := ⟨("_law_given", none), "_law_given", "_law_given", defArgs sGvn, defBody sGvn, defScope sGvn, [], []⟩
def d__law_play : DefD := ⟨("_law_play", none), "_law_play", "_law_play", defArgs sPlm, defBody sPlm, defScope sPlm, [], []⟩
def d__law_thing : DefD := ⟨("_law_thing", none), "_law_thing", "_law_thing", defArgs sThg, defBody sThg, defScope sThg, [], []⟩
def d__law_make : DefD := ⟨("_law_make", none), "_law_make", "_law_make", defArgs sMke, defBody sMke, defScope sMke, [], []⟩
def d__law_fits : DefD := ⟨("_law_fits", none), "_law_fits", "_law_fits", defArgs sFit, defBody sFit, defScope sFit, [], []⟩
def d__law_do : DefD := ⟨("_law_do", none), "_law_do", "_law_do", defArgs sDo, defBody sDo, defScope sDo, [], []⟩
def d__law_drop : DefD := ⟨("_law_drop", none), "_law_drop", "_law_drop", defArgs sDrp, defBody sDrp, defScope sDrp, [], []⟩
def d__law_deed : DefD := ⟨("_law_deed", none), "_law_deed", "_law_deed", defArgs sDed, defBody sDed, defScope sDed, [], []⟩
def d__law_outside : DefD := ⟨("_law_outside", none), "_law_outside", "_law_outside", defArgs sOut, defBody sOut, defScope sOut, [], []⟩
def d_law : DefD := ⟨("law", none), "law", "law", defArgs sLaw, defBody sLaw, defScope sLaw, [], []⟩
def d_NoName___init__ : DefD := ⟨("NoName", some "__init__"), "__init__", "NoName.__init__", defArgs sN0, defBody sN0, defScope sN0, [], []⟩
def d_NoThing___init__ : DefD := ⟨("NoThing", some "__init__"), "__init__", "NoThing.__init__", defArgs sNT, defBody sNT, defScope sNT, [], []⟩
def d_NoWord___init__ : DefD := ⟨("NoWord", some "__init__"), "__init__", "NoWord.__init__", defArgs sNW, defBody sNW, defScope sNW, [], []⟩
def d_Asleep___init__ : DefD := ⟨("Asleep", some "__init__"), "__init__", "Asleep.__init__", defArgs sAs, defBody sAs, defScope sAs, [], []⟩
def d_NotHeld___init__ : DefD := ⟨("NotHeld", some "__init__"), "__init__", "NotHeld.__init__", defArgs sNH, defBody sNH, defScope sNH, [], []⟩
def d_Taken___init__ : DefD := ⟨("Taken", some "__init__"), "__init__", "Taken.__init__", defArgs sTk, defBody sTk, defScope sTk, [], []⟩
def d_NoSort___init__ : DefD := ⟨("NoSort", some "__init__"), "__init__", "NoSort.__init__", defArgs sNS, defBody sNS, defScope sNS, [], []⟩
def d_NoRule___init__ : DefD := ⟨("NoRule", some "__init__"), "__init__", "NoRule.__init__", defArgs sNR, defBody sNR, defScope sNR, [], []⟩
def d_Misfit___init__ : DefD := ⟨("Misfit", some "__init__"), "__init__", "Misfit.__init__", defArgs sMi, defBody sMi, defScope sMi, [], []⟩
def d_Full___init__ : DefD := ⟨("Full", some "__init__"), "__init__", "Full.__init__", defArgs sFu, defBody sFu, defScope sFu, [], []⟩
def d_NoMaking___init__ : DefD := ⟨("NoMaking", some "__init__"), "__init__", "NoMaking.__init__", defArgs sNMk, defBody sNMk, defScope sNMk, [], []⟩
def d_NoDeed___init__ : DefD := ⟨("NoDeed", some "__init__"), "__init__", "NoDeed.__init__", defArgs sNDd, defBody sNDd, defScope sNDd, [], []⟩
def d_Rule___init__ : DefD := ⟨("Rule", some "__init__"), "__init__", "Rule.__init__", defArgs sRul, defBody sRul, defScope sRul, [], []⟩
def d_Making___init__ : DefD := ⟨("Making", some "__init__"), "__init__", "Making.__init__", defArgs sMak, defBody sMak, defScope sMak, [], []⟩
def d_Scheme_sorts : DefD := ⟨("Scheme", some "sorts"), "sorts", "Scheme.sorts", defArgs sSor, defBody sSor, defScope sSor, [], []⟩
def d_Scheme_words : DefD := ⟨("Scheme", some "words"), "words", "Scheme.words", defArgs sWor, defBody sWor, defScope sWor, [], []⟩
def d_Scheme_makings : DefD := ⟨("Scheme", some "makings"), "makings", "Scheme.makings", defArgs sSMk, defBody sSMk, defScope sSMk, [], []⟩
def d_Scheme_rule : DefD := ⟨("Scheme", some "rule"), "rule", "Scheme.rule", defArgs sSR1, defBody sSR1, defScope sSR1, [], []⟩
def d_House___init__ : DefD := ⟨("House", some "__init__"), "__init__", "House.__init__", defArgs sHin, defBody sHin, defScope sHin, [], []⟩
def d_House___len__ : DefD := ⟨("House", some "__len__"), "__len__", "House.__len__", defArgs sHln, defBody sHln, defScope sHln, [], []⟩
def d_House_things : DefD := ⟨("House", some "things"), "things", "House.things", defArgs sHth, defBody sHth, defScope sHth, [], []⟩
def d_House_sort_of : DefD := ⟨("House", some "sort_of"), "sort_of", "House.sort_of", defArgs sHso, defBody sHso, defScope sHso, [], []⟩
def d_House_is_awake : DefD := ⟨("House", some "is_awake"), "is_awake", "House.is_awake", defArgs sHia, defBody sHia, defScope sHia, [], []⟩
def d_House_held : DefD := ⟨("House", some "held"), "held", "House.held", defArgs sHhe, defBody sHhe, defScope sHhe, [], []⟩
def d_House_refuse_no_thing : DefD := ⟨("House", some "refuse_no_thing"), "refuse_no_thing", "House.refuse_no_thing", defArgs sHrt, defBody sHrt, defScope sHrt, [], []⟩
def d_House_refuse_strange : DefD := ⟨("House", some "refuse_strange"), "refuse_strange", "House.refuse_strange", defArgs sHrs, defBody sHrs, defScope sHrs, [], []⟩
def d_House_give : DefD := ⟨("House", some "give"), "give", "House.give", defArgs sHgi, defBody sHgi, defScope sHgi, [], []⟩
def d_House_take : DefD := ⟨("House", some "take"), "take", "House.take", defArgs sHta, defBody sHta, defScope sHta, [], []⟩
def d_House_scheme : DefD := ⟨("House", some "scheme"), "scheme", "House.scheme", defArgs sHsc, defBody sHsc, defScope sHsc, [], []⟩
def d_House_holds : DefD := ⟨("House", some "holds"), "holds", "House.holds", defArgs sHho, defBody sHho, defScope sHho, [], []⟩
def d_House_wake : DefD := ⟨("House", some "wake"), "wake", "House.wake", defArgs sHwa, defBody sHwa, defScope sHwa, [], []⟩
def d_House_sleep : DefD := ⟨("House", some "sleep"), "sleep", "House.sleep", defArgs sHsl, defBody sHsl, defScope sHsl, [], []⟩
def dWho : DefD := ⟨("WhoError", some "__init__"), "__init__", "WhoError.__init__", defArgs sW0, defBody sW0, defScope sW0, [.str "whoerror"], []⟩
def dSch : DefD := ⟨("Scheme", some "__init__"), "__init__", "Scheme.__init__", defArgs sSch, defBody sSch, defScope sSch, [.non, .non, .non], []⟩
def dEnt : DefD := ⟨("House", some "enter"), "enter", "House.enter", defArgs sHen, defBody sHen, defScope sHen, [.bl true], []⟩
def fnL : List DefD := [d_is_name, d_refuse_no_name, d_first_twice, d_refuse_twice, d_refuse_count, d_own_list, d_refuse_makings_twice, d_refuse_no_sort, d_refuse_upward, d_refuse_no_word, d_check_scheme, d_tuple_of_tuples, d_ends_of, d_texts_of_pattern, d_refuse_no_variable, d_refuse_loose, d_refuse_apart, d_check_pattern, d__law_cell_at, d__law_state, d__law_digit, d__law_name, d__law_names, d__law_rule, d__law_making, d__law_model, d__law_scheme, d__law_told, d__law_house, d__law_right, d__law_begun, d_thing_by_variable, d_put_in, d_conditions_at, d_given_at, d_hand_at, d_makings_from, d_making_between, d_made_holdings, d_refuse_asleep, d_refuse_not_held, d_refuse_misfit, d_play_make, d_play_do, d_play_drop, d_play, d__law_is_name, d__law_unasked, d__law_make_due, d__law_do_due, d__law_drop_due, d__law_due, d__law_given, d__law_play, d__law_thing, d__law_make, d__law_fits, d__law_do, d__law_drop, d__law_deed, d__law_outside, d_law, d_NoName___init__, d_NoThing___init__, d_NoWord___init__, d_Asleep___init__, d_NotHeld___init__, d_Taken___init__, d_NoSort___init__, d_NoRule___init__, d_Misfit___init__, d_Full___init__, d_NoMaking___init__, d_NoDeed___init__, d_Rule___init__, d_Making___init__, d_Scheme_sorts, d_Scheme_words, d_Scheme_makings, d_Scheme_rule, d_House___init__, d_House___len__, d_House_things, d_House_sort_of, d_House_is_awake, d_House_held, d_House_refuse_no_thing, d_House_refuse_strange, d_House_give, d_House_take, d_House_scheme, d_House_holds, d_House_wake, d_House_sleep, dWho, dSch, dEnt]
end Wm
set_option maxHeartbeats 0
namespace Wm
open PySem PySem.W PySem.Calls PyProof.Rows
abbrev RW : OpenRow := OpenLaw.row PySem.Challenge.rw_whomay_k19_whole_histories
noncomputable abbrev hkW : Hook := hookB 4 ck fnL
noncomputable def obW (s : SharedT) : He.AlD := obsBG 4 ck fnL (HandSHeadRun.getT s)
theorem obW_eq (s : SharedT) : obW s = hkW.obs s.abs := obsBG_eq (HandSHeadRun.getT_eq s)
def lo0 : List PySem.Str := ["_wall", "WhoError", "NoName", "BadCount", "Twice", "NoVariable", "Loose", "Apart", "NoSort", "Upward", "NoWord", "NoRule", "NoBar", "NoMaking", "NoThing", "Taken", "Full", "Asleep", "NotHeld", "NoDeed", "Misfit", "thing_by_variable", "put_in", "conditions_at", "given_at", "hand_at", "makings_from", "making_between", "made_holdings", "refuse_asleep"]
def lo1 : List PySem.Str := ["refuse_not_held", "refuse_misfit", "play_make", "play_do", "play_drop", "play", "LETTERS", "FIGURES", "LONGEST_NAME", "is_name", "refuse_no_name", "first_twice", "refuse_twice", "refuse_count", "MOST_THINGS", "House", "MOST_VARIABLES", "MOST_CONDITIONS", "tuple_of_tuples", "ends_of", "texts_of_pattern", "refuse_no_variable", "refuse_loose", "refuse_apart", "check_pattern", "variable_part", "pattern_parts", "rule_parts", "making_parts", "Rule"]
def lo2 : List PySem.Str := ["Making", "MOST_SORTS", "MOST_WORDS", "MOST_RULES", "MOST_BARS", "own_list", "refuse_makings_twice", "refuse_no_sort", "refuse_upward", "refuse_no_word", "check_scheme", "Scheme", "_law_cell_at", "_law_state", "_law_digit", "_law_name", "_law_names", "_law_rule", "_law_making", "_law_model", "_law_scheme", "_law_told", "_law_house", "_law_is_name", "_law_unasked", "_law_make_due", "_law_do_due", "_law_drop_due", "_law_due", "_law_given"]
def lo3 : List PySem.Str := ["_law_play", "_law_begun", "_law_thing", "_law_make", "_law_fits", "_law_do", "_law_drop", "_law_deed", "_law_right", "_law_outside"]
def loW : List PySem.Str := lo0 ++ lo1 ++ lo2 ++ lo3
theorem runWA (w : World) : RunA RW (view RW.prog [109]) 20000 loW w := by
  intro os
  kernel_rfl
theorem runWB (w : World) : RunB RW hkW obW 20000 w := by
  intro os
  kernel_rfl
theorem runW (w : World) : HandSHeadRun.RunEq RW (view RW.prog [109]) hkW obW 20000 loW w := runEq_of (runWA w) (runWB w)
end Wm
namespace Wm
open PySem L2
/-- the digits' state at p -/
def StOk (H : Hp) (p : Addr) : Prop := ∃ a b c : Int, H p = some (.lst [.int a, .int b, .int c]) ∧ 0 ≤ a ∧ 0 ≤ b ∧ b ≤ 2147483636 ∧ 0 ≤ c ∧ c < 2147483648
/-- all that was tracked is as it was, but at p -/
def But (p : Addr) (H H' : Hp) : Prop := ∀ q o, q ≠ p → H q = some o → H' q = some o
theorem But.refl (p : Addr) (H : Hp) : But p H H := fun _ _ _ h => h
theorem But.trans {p : Addr} {H H1 H2 : Hp} (a : But p H H1) (b : But p H1 H2) : But p H H2 := fun q o n h => b q o n (a q o n h)
theorem But.upd {p : Addr} {H : Hp} {o : HO} : But p H (upd H p o) := fun q o n h => by rw [upd_ne n]; exact h
theorem Same.but {p : Addr} {H H1 : Hp} (a : Same H H1) : But p H H1 := fun q o _ h => a q o h
theorem Same.upd {p : Addr} {H : Hp} {o : HO} (n : H p = none) : Same H (upd H p o) := fun q o h => by rw [upd_ne (ne_of_none h n)]; exact h
theorem But.same {p : Addr} {H0 H H1 : Hp} (n : H0 p = none) (a : Same H0 H) (b : But p H H1) : Same H0 H1 := fun q o h => b q o (ne_of_none h n) (a q o h)
def spState : Sp := fun vs H Q _ => ∃ i : Int, vs = [.int i] ∧ ∀ p H', H p = none → Same H H' → StOk H' p → Q (.ref p) H'
def spDigit : Sp := fun vs H Q _ => ∃ (p : Addr) (n : Int), vs = [.ref p, .int n] ∧ StOk H p ∧ 0 < n ∧ n < 1073741824 ∧ ∀ (d : Int) H', 0 ≤ d → d < n → But p H H' → StOk H' p → Q (.int d) H'
structure TxB (mg : Str → Option Value) : Prop where
  abs : mg "abs" = none
  int : mg "int" = none
  len : mg "len" = none
  range : mg "range" = none
  all : mg "all" = none
  tuple : mg "tuple" = none
  enumerate : mg "enumerate" = none
  isinstance : mg "isinstance" = none
  ve : mg "ValueError" = none
section
variable {P : Program} {w : World} {K : PySem.W.Frag} {mg : Str → Option Value} {base : Heap}
theorem scState : FnScope ["_law_cell"] ["_law_cell"] (defScope sState) := ⟨rfl, rfl, rfl, by decide +kernel, rfl, by decide +kernel, by decide +kernel⟩
theorem ok_state {f : Addr} {fd : FuncData} (F : Fun K "_law_state" "_law_state" sState f fd) (T : TxB mg) : FnOk P w K mg base CX0 1 f fd ["_law_cell"] spState := by
  refine F.ok scState (fun vs H Q E h => ?_) (fun cdv A outer s H vs Q E hr h => ?_)
  · obtain ⟨i, rfl, _⟩ := h
    rfl
  · obtain ⟨i, rfl, k⟩ := h
    refine ⟨_, pss_cons (ps_set (i := 0) scState.nd rfl (Or.inl rfl) (pe_callB call_abs (by rfl) T.abs (by decide +kernel) (pa_cons (pv 0) pa_nil)))
      (pss_one (ps_ret (pe_lst (pa_cons (pe_op op_mul (pv 0) (pe_callTy call_int1 (by rfl) T.int (by decide +kernel) (pa_cons (pe_cmpR op_ge (pv 0) (pe_op op_pow pe_int pe_int) (nomark _)) pa_nil)))
        (pa_cons (pe_op op_add (pe_op op_mod (pv 0) pe_int) pe_int) (pa_cons (pe_op op_mod (pv 0) pe_int) pa_nil)))))), ?_⟩
    refine ⟨_, rfl, _, rfl, ?_⟩
    generalize hj : (if i < 0 then -i else i) = j
    have hj0 : 0 ≤ j := by rw [← hj]; split <;> omega
    refine ⟨_, rfl, _, rfl, _, _, rfl, rfl, ⟨by decide, by decide, by decide⟩, _, _, rfl, rfl, .inr ⟨_, rfl, ?_⟩⟩
    refine ⟨_, _, rfl, rfl, .inr ⟨?_, ?_⟩, _, rfl, _, _, rfl, rfl, (by show (0 : Int) < 2147483629; decide), _, _, rfl, rfl, _, rfl, _, _, rfl, rfl, (by show (0 : Int) < 2147483587; decide), (by show 3 ≤ sizeLine; decide), fun p hp => ?_⟩
    · split <;> decide
    · split <;> decide
    · refine k p _ hp (Same.upd hp) ⟨_, _, _, upd_same, ?_, ?_, ?_, ?_, ?_⟩
      · split
        · omega
        · omega
      · have := Int.emod_nonneg j (show (2147483629 : Int) ≠ 0 by decide); omega
      · have := Int.emod_lt_of_pos j (show (0 : Int) < 2147483629 by decide); omega
      · exact Int.emod_nonneg j (by decide)
      · have := Int.emod_lt_of_pos j (show (0 : Int) < 2147483587 by decide); omega
theorem scDigit : FnScope ["_law_state_here", "_law_base", "_law_found", "_law_more"] ["_law_state_here", "_law_base"] (defScope sDigit) := ⟨rfl, rfl, rfl, by decide +kernel, rfl, by decide +kernel, by decide +kernel⟩
theorem ok_digit {f : Addr} {fd : FuncData} (F : Fun K "_law_digit" "_law_digit" sDigit f fd) : FnOk P w K mg base CX0 1 f fd ["_law_state_here", "_law_base"] spDigit := by
  refine F.ok scDigit (fun vs H Q E h => ?_) (fun cdv A outer s H vs Q E hr h => ?_)
  · obtain ⟨p, n, rfl, _⟩ := h
    rfl
  · obtain ⟨p, n, rfl, ⟨a, b, c, hp, ha, hb, hb2, hc, hc2⟩, hn, hn2, k⟩ := h
    refine ⟨_, pss_cons (ps_if (pt_cmpR op_gt (pe_ix ix_list (pv 0) pe_int (fun _ _ => rfl)) pe_int (nomark _))
        (pss_cons (ps_set (i := 2) scDigit.nd rfl (Or.inl rfl) (pe_op op_mod (pe_ix ix_list (pv 0) pe_int (fun _ _ => rfl)) (pv 1)))
          (pss_cons (ps_asg (pe_op op_fdiv (pe_ix ix_list (pv 0) pe_int (fun _ _ => rfl)) (pv 1)) (pg_sub (pv 0) pe_int set_list)) (pss_one (ps_ret (pv 2))))) pss_nil)
      (pss_cons (ps_set (i := 3) scDigit.nd rfl (Or.inl rfl) (pe_op op_mul (pe_ix ix_list (pv 0) pe_int (fun _ _ => rfl)) (pe_op op_add (pe_op op_fdiv (pe_ix ix_list (pv 0) pe_int (fun _ _ => rfl)) pe_int) pe_int)))
      (pss_cons (ps_asg (pe_op op_add (pe_op op_mod (pe_op op_add (pv 3) (pe_ix ix_list (pv 0) pe_int (fun _ _ => rfl))) pe_int) pe_int) (pg_sub (pv 0) pe_int set_list))
      (pss_one (ps_ret (pe_op op_mod (pe_op op_fdiv (pe_ix ix_list (pv 0) pe_int (fun _ _ => rfl)) pe_int) (pv 1)))))), ?_⟩
    refine ⟨_, rfl, p, _, _, _, rfl, rfl, SqL.of hp, atI_nat (j := 0) rfl, _, _, rfl, rfl, _, rfl, ?_⟩
    refine ite2 (fun h0 => ?_) (fun h0 => ?_)
    · refine ⟨_, rfl, p, _, _, _, rfl, rfl, SqL.of hp, atI_nat (j := 0) rfl, _, rfl, _, _, rfl, rfl, hn, ?_⟩
      refine ⟨_, rfl, p, _, _, _, rfl, rfl, SqL.of hp, atI_nat (j := 0) rfl, _, rfl, _, _, rfl, rfl, ⟨hn, hn2⟩, _, rfl, p, _, _, 0, rfl, rfl, hp, rfl, _, rfl, ?_⟩
      refine k _ _ (Int.emod_nonneg a (by omega)) (Int.emod_lt_of_pos a hn) But.upd ⟨_, _, _, upd_same, ?_, hb, hb2, hc, hc2⟩
      exact Int.ediv_nonneg ha (by omega)
    · refine ⟨_, rfl, p, _, _, _, rfl, rfl, SqL.of hp, atI_nat (j := 1) rfl, _, rfl, p, _, _, _, rfl, rfl, SqL.of hp, atI_nat (j := 1) rfl, _, _, rfl, rfl, ⟨by decide, by decide⟩, _, _, rfl, rfl, _, _, rfl, rfl, .inl ⟨?_, ?_⟩, ?_⟩
      · omega
      · omega
      refine ⟨_, rfl, _, rfl, p, _, _, _, rfl, rfl, SqL.of hp, atI_nat (j := 2) rfl, _, _, rfl, rfl, _, _, rfl, rfl, (by show (0 : Int) < 2147483629; decide), _, _, rfl, rfl, _, rfl, p, _, _, 1, rfl, rfl, hp, rfl, ?_⟩
      generalize hm : (b * (b / 1009 + 69621) + c) % 2147483629 = m
      have hm0 : 0 ≤ m := by rw [← hm]; exact Int.emod_nonneg _ (by decide)
      have hm1 : m < 2147483629 := by rw [← hm]; exact Int.emod_lt_of_pos _ (by decide)
      refine ⟨_, rfl, p, _, _, _, rfl, rfl, SqL.of upd_same, atI_nat (j := 1) rfl, _, _, rfl, rfl, ⟨by decide, by decide⟩, _, rfl, _, _, rfl, rfl, hn, ?_⟩
      exact k _ _ (Int.emod_nonneg _ (by omega)) (Int.emod_lt_of_pos _ hn) But.upd ⟨_, _, _, upd_same, ha, by omega, by omega, hc, hc2⟩
end
end Wm
namespace Wm
open PySem L2
/-- a def of the module's top -/
structure Dn (K : PySem.W.Frag) (mg : Str → Option Value) (x : Str) (st : Stmt) (ps : List Str) (f : Addr) (fd : FuncData) : Prop where
  F : Fun K x x st f fd
  g : mg x = some (.ref f)
  b : Binds K fd ps []
theorem str_at (z : Str) {i : Int} (h0 : 0 ≤ i) (h1 : i < z.length) : ∃ c, z.cps[i.toNat]? = some c := by
  have h : i.toNat < z.cps.size := by
    have e : z.length = z.cps.size := rfl
    omega
  exact ⟨z.cps[i.toNat], Array.getElem?_eq_getElem h⟩
/-- every sign is one of unicode's -/
def okS (z : Str) : Prop := ∀ c ∈ z.cps.toList, c < 1114112
theorem okS_one {c : Nat} (h : c < 1114112) : okS ⟨#[c]⟩ := fun d hd => by
  have e : d = c := by simpa using hd
  rw [e]
  exact h
theorem okS_app {a b : Str} (ha : okS a) (hb : okS b) : okS (a ++ b) := fun c hc => by
  have e : (a ++ b).cps.toList = a.cps.toList ++ b.cps.toList := by
    show (a.cps ++ b.cps).toList = _
    simp
  rw [e] at hc
  rcases List.mem_append.mp hc with h | h
  · exact ha c h
  · exact hb c h
theorem rdItem {z : Str} {i : Int} {n : Nat} {H : Hp} {Q : VK} (hz : z.length = n) (h0 : 0 ≤ i) (h1 : i < n) (hn : n < 1000000) (h : ∀ c, z.cps.toList[i.toNat]? = some c → Q (.str ⟨#[c]⟩) H) : rIxS (.str z) (.int i) H Q := by
  have h2 : i < z.length := by rw [hz]; exact h1
  obtain ⟨c, hc⟩ := str_at z h0 h2
  have hl : z.cps.toList[i.toNat]? = some c := by simpa using hc
  have e : i = ((i.toNat : Nat) : Int) := by omega
  refine ⟨z, i, c, rfl, rfl, by rw [hz]; exact Nat.le_trans (Nat.le_of_lt hn) (by decide), ?_, h c hl⟩
  rw [e]
  exact atI_nat hl
theorem abcOk : ∀ c ∈ (PySem.Str.ofString "abcdefghijklmnopqrstuvwxyz0123456789").cps.toList, c < 1114112 := by decide +kernel
theorem abc36 : (PySem.Str.ofString "abcdefghijklmnopqrstuvwxyz0123456789").length = 36 := by decide +kernel
theorem len_app (a b : Str) : (a ++ b).length = a.length + b.length := by
  show (a.cps ++ b.cps).size = a.cps.size + b.cps.size
  exact Array.size_append
theorem len_one (c : Nat) : (⟨#[c]⟩ : Str).length = 1 := rfl
def spSign : Sp := fun vs H Q _ => ∃ i : Int, vs = [.int i] ∧ ∀ c, c < 1114112 → Q (.str ⟨#[c]⟩) H
def spPlain : Sp := fun vs H Q _ => ∃ (p : Addr) (n : Int), vs = [.ref p, .int n] ∧ StOk H p ∧ 1 ≤ n ∧ n ≤ 15 ∧ ∀ (z : Str) H', z.length ≤ 15 → okS z → But p H H' → StOk H' p → Q (.str z) H'
def spText : Sp := fun vs H Q _ => ∃ (p : Addr), vs = [.ref p] ∧ StOk H p ∧ ∀ (z : Str) H', z.length ≤ 40 → okS z → But p H H' → StOk H' p → Q (.str z) H'
section
variable {P : Program} {w : World} {K : PySem.W.Frag} {mg : Str → Option Value} {base : Heap}
end
end Wm
namespace Wm
open PySem L2
theorem strs_at {zs : List Str} {n : Nat} (h : ∀ z ∈ zs, z.length ≤ n) (ho : ∀ z ∈ zs, ∀ c ∈ z.cps.toList, c < 1114112) {j : Nat} (hj : j < zs.length) : ∃ z, (zs.map V.str)[j]? = some (.str z) ∧ z.length ≤ n ∧ okS z :=
  ⟨zs[j], by simp [hj], h _ (List.getElem_mem hj), ho _ (List.getElem_mem hj)⟩
theorem okS_cut {z : Str} (h : okS z) (lo hi : Option Int) : okS (cutS z lo hi) := fun c hc => by
  have hc' : c ∈ (z.cps.toList.drop (HT.sIx z.length 0 lo)).take (HT.sIx z.length z.length hi - HT.sIx z.length 0 lo) := hc
  exact h c (List.mem_of_mem_drop (List.mem_of_mem_take hc'))
theorem okS_join {a : Str} {ys : List Str} (ha : okS a) (h : ∀ y ∈ ys, okS y) : okS (Txt.join a ys) := by
  have e : Txt.join a ys = Str.join a ys := StrLaws.glued_eq_join a ys
  rw [e]
  clear e
  induction ys with
  | nil => exact fun c hc => (List.not_mem_nil (show c ∈ ([] : List Nat) from hc)).elim
  | cons y r ih =>
    cases r with
    | nil => exact h y List.mem_cons_self
    | cons z r =>
      show okS (y ++ a ++ Str.join a (z :: r))
      exact okS_app (okS_app (h y List.mem_cons_self) ha) (ih fun x hx => h x (List.mem_cons_of_mem _ hx))
theorem rdList {K : PySem.W.Frag} {p : Addr} {xs : List V} {i : Int} {j : Nat} {v : V} {H : Hp} {Q : VK} (hp : H p = some (.lst xs)) (e : i = (j : Int)) (hv : xs[j]? = some v) (h : Q v H) : rIxL K (.ref p) (.int i) H Q :=
  ⟨p, xs, i, v, rfl, rfl, SqL.of hp, at_of e hv, h⟩
theorem But.free {p D : Addr} {H H' : Hp} (b : But p H H') (n : D ≠ p) (h : H' D = none) : H D = none := by
  cases e : H D with
  | none => rfl
  | some o =>
    rw [b D o n e] at h
    cases h
theorem sum_ones : ∀ {ys : List Str}, (∀ y ∈ ys, y.length = 1) → (ys.map (·.length)).sum = ys.length
  | [], _ => rfl
  | y :: ys, h => by
    rw [List.map_cons, List.sum_cons, List.length_cons, h y List.mem_cons_self, sum_ones fun z hz => h z (List.mem_cons_of_mem _ hz)]
    omega
theorem join_len (a : Str) (ys : List Str) : (Txt.join a ys).length ≤ (ys.map (·.length)).sum + ys.length * a.length := by
  show (Builtin.Str.glued a ys).length ≤ _
  rw [StrLaws.glued_eq_join]
  exact StrLaws.join_length_le a ys
section
variable {P : Program} {w : World} {K : PySem.W.Frag} {mg : Str → Option Value} {base : Heap}
end
end Wm
namespace Wm
open PySem PySem.Spec PyProof.Rows L2 ClX
section
variable {X : Cx} {CX : CXT} {k : Nat} {C f : Addr} {fd : FuncData} {ps : List Str} {sp : Sp} {E : XK} {e : Expr} {es : List Expr} {t : TA} {x m : Str} {p1 p2 pos : Pos} {ds : List Value} {dvs : List V}
/-- C.f(e, ..), f a def of the class C -/
theorem pe_clsFn {pl : Sem Bool} {mc : Value} (hg : Gl X x) (hm : X.mg x = some (.ref C)) (r : CRead X.K C mc) (ht : PySem.W.findCls X.K (.ref C) mc m = some (.val (.ref f))) (hk : PySem.W.keepIn X.K (.ref f) = true) (F : FnOk X.prog X.w X.K X.mg X.base CX k f fd ps sp)
    (hr : Room k X.A) (hb : Binds X.K fd ps ds) (hd : Vals dvs ds) (hx : Passes CX X E) (ha : PA X (e :: es) t)
    (hc : eval (.Call (.Attribute (.Name x p1) m p2) (e :: es) [] pos) X.env = (do
      let ov ← eval (.Name x p1) X.env
      standAt p2.atName
      let (f, first) ← holding [ov] (getMethod ov m pl)
      callWith pos f first (backTo pos (starEach (e :: es) X.env)) (backToKw pos (keywordEach [] X.env))) := by rfl)
    (hdb : (x == ("__debug__" : Str)) = false := by decide) (he : starEach (e :: es) X.env = (false, eval e X.env) :: starEach es X.env := by rfl) (hpl : (backTo pos (starEach es X.env)).any (·.1) = false := by rfl) :
    PE X (.Call (.Attribute (.Name x p1) m p2) (e :: es) [] pos) (tCall sp dvs E t) := by
  refine ⟨fun pins s σ H Q I h => ?_⟩
  refine PySem.W.methodCall_KW (ld_glob I hg hm ?_ hdb) hc
  refine PySem.W.method_cls I.kIn r.ga (PySem.W.cls_value I.kIn r.rd ht rfl ?_)
  show wpAny _ _ (callWith pos (Value.ref f) [] (backTo pos (starEach (e :: es) X.env)) []) _ _ _
  refine PySem.W.callWith_K (h₀ := X.base) I.ok.mod.kin hk (thn (ha.run pos pins _ σ H _ (I.tok _) h) fun us s1 ⟨vs, H1, I1, r1, q⟩ => ⟨I1.kIn, ?_⟩) he hpl
  exact run_fn F hr hb hd hx I1 r1 q
/-- xs + ys, both to be read -/
def rCatR (K : PySem.W.Frag) : R2 := fun x y H Q => ∃ l b xs zs, x = .ref l ∧ y = .ref b ∧ SqL K H l xs ∧ SqL K H b zs ∧ xs.length + zs.length ≤ sizeLine ∧ ∀ p, H p = none → Q (.ref p) (upd H p (.lst (xs ++ zs)))
theorem op_catR : OpR X (binaryOp .Add) (rCatR X.K) := by
  intro pins s σ H x y v u Q I rx ry h
  obtain ⟨l, b, xs, zs, rfl, rfl, hH, hB, hz, q⟩ := h
  cases rx
  cases ry
  obtain ⟨its, r, e, hl⟩ := I.list hH
  obtain ⟨its2, r2, e2, hl2⟩ := I.list hB
  have l1 := r.length
  have l2 := r2.length
  obtain ⟨⟨cls, dd, data, sl⟩, ho, hc, n, hd⟩ := e.isList
  obtain ⟨⟨cls2, dd2, data2, sl2⟩, ho2, hc2, n2, hd2⟩ := e2.isList
  simp only at hc hd hc2 hd2
  subst hc hd hc2 hd2
  refine concat_meets ⟨_, ho, rfl⟩ ⟨_, ho2, rfl⟩ noFill_list_add seq_list_add PySem.F.slot_list_add PySem.F.entry_list_add (PySem.F.args_list_add_2 _ _) (list_addW l b its.toArray its2.toArray n n2 dd dd2 sl sl2 (by rw [List.size_toArray, List.size_toArray]; omega)) ⟨ho, ho2, ?_⟩
  have ea : its.toArray ++ its2.toArray = (its ++ its2).toArray := by simp
  rw [ea]
  exact ⟨.ref _, _, I.lnew (t' := s.toks) (r.append r2) (by rw [List.length_append]; omega), rfl, q _ I.fresh⟩
end
end Wm
namespace Wm
open PySem PySem.Spec PyProof.Rows L2 ClX
/-- isinstance(e, c) in an except suite, e the exception that it holds (its class D, its dict at dd) -/
def rIsX (K : PySem.W.Frag) (D a dd : Addr) : List V → Hp → VK → Prop := fun xs H Q => ∃ (c : V) (cv : Value) (b : Bool) (fs : List (Str × V)), xs = [.ref a, c] ∧ H dd = some (.xd fs) ∧ (∀ u, RelV c u → u = cv) ∧ PySem.W.kitOne K (.ref D) cv = some b ∧ Q (.bl b) H
theorem call_isX {X : Cx} {a D dd : Addr} {oe : Obj} {pn : List (Addr × Obj)} (C : ExcC X.K D) (hz : Zc (.ref D) (some dd) oe) (hf : ∃ vs, oe.data = .fields vs) : CallR (X.suite a ((a, oe) :: pn)) (.builtin "isinstance") (rIsX X.K D a dd) := by
  intro pins s σ H xs us Q I r h
  obtain ⟨c, cv, b, fs, rfl, hdd, hcv, e, q⟩ := h
  cases r with
  | cons rx rr =>
    cases rr with
    | cons rt rr =>
      cases rr
      cases rx
      have ec := hcv _ rt
      subst ec
      obtain ⟨hget, _⟩ := I.pin (a, oe) (List.mem_append.mpr (.inl List.mem_cons_self))
      obtain ⟨vs, hv⟩ := hf
      have hx : ObjOk X.prog X.w H s.heap dd (.xd fs) := I.hok dd _ hdd
      obtain ⟨mA, hns, hr⟩ := hx
      obtain ⟨od, ho, hl⟩ := lookIn_ns hns
      have J : PySem.W.InstAt s.heap a oe D (some od) := ⟨hget, hz.1, by unfold PySem.W.notCls; rw [hv] <;> rfl, by rw [hz.2]; exact ho⟩
      have hcl : (PySem.W.clsIn X.K D).isSome = true := by
        obtain ⟨cd, hc, _⟩ := PySem.W.any_some C.hd
        rw [hc]
        rfl
      exact PySem.W.kia_one (PySem.W.kitx_exc hcl C.hg C.hk C.hs C.ha C.hn C.ht C.hm) I.kIn J e (fun z => nomatch z) fun tk => ⟨.bl b, H, I.kept (t' := tk) fun _ _ z => z, rfl, q⟩
/-! ### errors of one field -/
def spWI (K : PySem.W.Frag) : Sp := fun vs H Q _ => ∃ (a C : Addr) (v : V), vs = [.ref a, v] ∧ OexC K C ∧ PySem.W.findIn K (.ref C) "kind" = some none ∧ H a = some (exo a C none) ∧ ∀ dx, H dx = none → dx ≠ a → Q .non (upd (upd H dx (exd dx [("kind", v)])) a (exo a C (some dx)))
/-- the dict of an error of one field -/
def ef1 (f kd : Str) (v : V) : List (Str × V) := [(f, v), ("kind", .str kd)]
def spE1 (C : Addr) (f kd : Str) : Sp := fun vs H Q _ => ∃ (a : Addr) (v : V), vs = [.ref a, v] ∧ H a = some (exo a C none) ∧ ∀ dx H', H dx = none → dx ≠ a → (∀ b o, b ≠ a → H b = some o → H' b = some o) → H' a = some (exo a C (some dx)) → H' dx = some (exd dx (ef1 f kd v)) → Q .non H'
/-- what is known of WhoError -/
structure WhoT (K : PySem.W.Frag) (mg : Str → Option Value) (W f0 : Addr) (fd0 : FuncData) : Prop where
  g : mg "WhoError" = some (.ref W)
  r : CRead K W (.type "type")
  m : PySem.W.findCls K (.ref W) (.type "type") "__init__" = some (.val (.ref f0))
  k : PySem.W.keepIn K (.ref f0) = true
  b : Binds K fd0 ["self", "kind"] []
/-- what is known of an error class of one field -/
structure ErrT (K : PySem.W.Frag) (mg : Str → Option Value) (x f : Str) (C fI : Addr) : Prop where
  o : OexC K C
  g : mg x = some (.ref C)
  iC : PySem.W.findIn K (.ref C) "__init__" = some (some (.ref fI))
  tI : PySem.W.typeIn K (.ref fI) = some (.type "function")
  nk : PySem.W.findIn K (.ref C) "kind" = some none
  nf : PySem.W.findIn K (.ref C) f = some none
end Wm
namespace Wm
open PySem L2
section
variable {P : Program} {w : World} {K : PySem.W.Frag} {mg : Str → Option Value} {base : Heap}
theorem scW0 : FnScope ["self", "kind"] ["self", "kind"] (defScope sW0) := ⟨rfl, rfl, rfl, by decide +kernel, rfl, by decide +kernel, by decide +kernel⟩
theorem ok_who {f : Addr} {fd : FuncData} {dvs : List V} (F : FunD K "__init__" "WhoError.__init__" (defArgs sW0) (defBody sW0) (defScope sW0) dvs [] f fd) : FnOk P w K mg base CX0 1 f fd ["self", "kind"] (spWI K) := by
  refine F.ok scW0 (fun vs H Q E h => ?_) (fun cdv A outer s H vs Q E hr h => ?_)
  · obtain ⟨a, C, v, rfl, _⟩ := h
    rfl
  · obtain ⟨a, C, v, rfl, o, nk, ha, k⟩ := h
    refine ⟨_, pss_one (ps_ost (pv 0) (pv 1)), ?_⟩
    exact ⟨_, rfl, _, rfl, a, C, rfl, o, nk, .inl ⟨ha, fun dx n ne => k dx n ne⟩⟩
theorem scN0 : FnScope ["self", "name"] ["self", "name"] (defScope sN0) := ⟨rfl, rfl, rfl, by decide +kernel, rfl, by decide +kernel, by decide +kernel⟩
theorem ok_noname {f C f0 W : Addr} {fd fd0 : FuncData} (F : Fun K "__init__" "NoName.__init__" sN0 f fd) (T : ErrT K mg "NoName" "name" C f) (TW : WhoT K mg W f0 fd0) (G0 : FnOk P w K mg base CX0 1 f0 fd0 ["self", "kind"] (spWI K)) :
    FnOk P w K mg base CX0 2 f fd ["self", "name"] (spE1 C "name" "noname") := by
  refine F.ok scN0 (fun vs H Q E h => ?_) (fun cdv A outer s H vs Q E hr h => ?_)
  · obtain ⟨a, v, rfl, _⟩ := h
    rfl
  · obtain ⟨a, v, rfl, ha, k⟩ := h
    refine ⟨_, pss_cons (ps_expr (pe_clsFn rfl TW.g TW.r TW.m TW.k G0 hr TW.b .nil pass0 (pa_cons (pv 0) (pa_cons pe_str pa_nil)))) (pss_one (ps_ost (pv 0) (pv 1))), ?_⟩
    refine ⟨_, rfl, a, C, _, rfl, T.o, T.nk, ha, fun dx n ne => ?_⟩
    refine ⟨_, rfl, _, rfl, a, C, rfl, T.o, T.nf, .inr ⟨dx, _, upd_same, Eq.trans (upd_ne ne) upd_same, by decide, ?_⟩⟩
    refine k dx _ n ne (fun b o nb e => ?_) ?_ upd_same
    · have nd : b ≠ dx := ne_of_none e n
      rw [upd_ne nd, upd_ne nb, upd_ne nd]
      exact e
    · rw [upd_ne ne.symm, upd_same]
end
end Wm
namespace Wm
open PySem L2
/-! ### names -/
def LET : List Nat := (PySem.Str.ofString "abcdefghijklmnopqrstuvwxyz").cps.toList
def FIG : List Nat := (PySem.Str.ofString "0123456789").cps.toList
def okc (c : Nat) : Bool := decide (c ∈ LET) || decide (c ∈ FIG)
def first (l : List Nat) : Bool := match l with
  | [] => false
  | c :: _ => decide (c ∈ LET)
def isNm (z : Str) : Bool := decide (1 ≤ z.length) && (decide (z.length ≤ 12) && (first z.cps.toList && z.cps.toList.all okc))
theorem alnum : (PySem.Str.ofString "abcdefghijklmnopqrstuvwxyz0123456789").cps.toList = LET ++ FIG := by decide +kernel
theorem let_fig : ∀ c ∈ LET, ¬ c ∈ FIG := by decide +kernel
theorem okc_alnum (c : Nat) : decide (c ∈ (PySem.Str.ofString "abcdefghijklmnopqrstuvwxyz0123456789").cps.toList) = okc c := by
  rw [alnum]
  unfold okc
  by_cases h : c ∈ LET <;> by_cases h2 : c ∈ FIG <;> simp [h, h2]
theorem len_eq (z : Str) : z.length = z.cps.toList.length := by
  show z.cps.size = _
  simp
theorem isNm_small {z : Str} (h : z.length < 1 ∨ 12 < z.length) : isNm z = false := by
  unfold isNm
  rcases h with h | h
  · rw [decide_eq_false (by omega)]
    rfl
  · rw [decide_eq_false (p := z.length ≤ 12) (by omega)]
    simp
theorem isNm_first {z : Str} {c : Nat} (h1 : z.cps.toList[0]? = some c) (hc : ¬ c ∈ LET) : isNm z = false := by
  unfold isNm
  have e : first z.cps.toList = false := by
    cases q : z.cps.toList with
    | nil => rfl
    | cons d r =>
      rw [q] at h1
      have e : d = c := Option.some.inj h1
      rw [e]
      exact decide_eq_false hc
  rw [e]
  simp
theorem isNm_all {z : Str} {c : Nat} (h0 : ¬ z.length < 1) (h12 : ¬ 12 < z.length) (h1 : z.cps.toList[0]? = some c) (hc : c ∈ LET) : isNm z = z.cps.toList.all okc := by
  unfold isNm
  have e : first z.cps.toList = true := by
    cases q : z.cps.toList with
    | nil =>
      rw [q] at h1
      cases h1
    | cons d r =>
      rw [q] at h1
      have e : d = c := Option.some.inj h1
      rw [e]
      exact decide_eq_true hc
  rw [e, decide_eq_true (by omega), decide_eq_true (by omega)]
  rfl
theorem isNm_fig {z : Str} {c : Nat} (h1 : z.cps.toList[0]? = some c) (hc : c ∈ FIG) : isNm z = false := isNm_first h1 fun h => let_fig c h hc
theorem isNm_all2 {z : Str} {c : Nat} (h0 : ¬ z.length < 1) (h12 : ¬ 12 < z.length) (h1 : z.cps.toList[0]? = some c) (hc : ¬ c ∈ FIG) : isNm z = z.cps.toList.all okc := by
  by_cases h : c ∈ LET
  · exact isNm_all h0 h12 h1 h
  · rw [isNm_first h1 h]
    have hm : c ∈ z.cps.toList := List.mem_of_getElem? h1
    have e : okc c = false := by
      unfold okc
      rw [decide_eq_false h, decide_eq_false hc]
      rfl
    symm
    rw [List.all_eq_false]
    exact ⟨c, hm, by rw [e]; decide⟩
theorem all_map {l : List Nat} {f : Nat → Bool} : (l.map f).all id = l.all f := by
  induction l with
  | nil => rfl
  | cons a r ih => rw [List.map_cons, List.all_cons, List.all_cons, ih]; rfl
def spName : Sp := fun vs H Q _ => ∃ z : Str, vs = [.str z] ∧ z.length ≤ 1000 ∧ ∀ H', Same H H' → Q (.bl (isNm z)) H'
/-- the constants of names.py -/
structure TxN (mg : Str → Option Value) : Prop where
  lets : ∃ t, mg "LETTERS" = some (.str (PySem.Str.ofString "abcdefghijklmnopqrstuvwxyz") t)
  figs : ∃ t, mg "FIGURES" = some (.str (PySem.Str.ofString "0123456789") t)
  long : ∃ t, mg "LONGEST_NAME" = some (.int 12 t)
/-- the reading of [f(sign) for sign in text] -/
theorem lc_signs {z : Str} {f : Nat → Bool} {g : TG} {te : TE} {vs : List Nat} {σ : St} {H1 : Hp} {D : Addr} {Qd : Hp → Prop} (hz : z.length ≤ 1000) (hD : H1 D = none)
    (he : ∀ (c : Nat) (H : Hp) (Q : St → Hp → Prop), (∀ σ2, wipe σ2 vs = wipe σ vs → (∀ Q2 : VK, Q2 (.bl (f c)) H → te σ2 H Q2) → Q σ2 H) → g (.str ⟨#[c]⟩) (wipe σ vs) H Q)
    (hd : ∀ H, Same H1 H → H D = some (.lst ((z.cps.toList.map f).map V.bl)) → Qd H) :
    ∃ W : Nat → Nat → Hp → Prop, (∃ m, W 0 m (upd H1 D (.lst []))) ∧ ∀ i m H, W i m H →
      ((Its z).stop i H ∧ Qd H) ∨ ((Its z).go i H ∧ ∃ Nx : Hp → Prop, (∀ H', Nx H' → ∃ m', m' < m ∧ W (i + 1) m' H') ∧ ∀ x H', (Its z).yld i H x H' → g x (wipe σ vs) H' fun σ2 H2 => wipe σ2 vs = wipe σ vs ∧ tYes σ2 H2 fun b H3 =>
        if b = true then te σ2 H3 fun y H4 => ∃ acc, H4 D = some (.lst acc) ∧ acc.length < sizeLine ∧ Nx (upd H4 D (.lst (acc ++ [y]))) else Nx H3) := by
  refine lc_it (walk_str (z := z)) (fun i H' => Same H1 H' ∧ H' D = some (.lst (((z.cps.toList.take i).map f).map V.bl))) ⟨Same.upd hD, upd_same⟩ (fun _ _ _ _ => True.intro) ?_ ?_
  · rintro i x H H' hi ⟨hS, hl⟩ ⟨rfl, c, hc, rfl⟩
    refine he c H' _ fun σ2 hw hq => ⟨hw, hq _ ?_⟩
    refine ⟨_, hl, ?_, ?_, ?_⟩
    · rw [List.length_map, List.length_map, List.length_take]
      have e := len_eq z
      exact Nat.lt_of_le_of_lt (show _ ≤ 1000 by omega) (by decide)
    · intro b o h
      have nb : b ≠ D := ne_of_none h hD
      rw [upd_ne nb]
      exact hS b o h
    · rw [upd_same]
      have e : z.cps.toList[i]? = some c := by simpa using hc
      have hlt : i < z.cps.toList.length := (List.getElem?_eq_some_iff.mp e).1
      rw [List.take_add_one, e, List.map_append, List.map_append]
      rfl
  · rintro H ⟨hS, hl⟩
    refine hd H hS ?_
    rw [hl, List.take_of_length_le (by simp)]
section
variable {P : Program} {w : World} {K : PySem.W.Frag} {mg : Str → Option Value} {base : Heap}
theorem scName : FnScope ["text", "sign"] ["text"] (defScope sName) := ⟨rfl, rfl, rfl, by decide +kernel, rfl, by decide +kernel, by decide +kernel⟩
theorem ok_name {f : Addr} {fd : FuncData} (F : Fun K "is_name" "is_name" sName f fd) (T : TxB mg) (TN : TxN mg) : FnOk P w K mg base CX0 1 f fd ["text"] spName := by
  obtain ⟨t1, hlet⟩ := TN.lets
  obtain ⟨t2, hfig⟩ := TN.figs
  obtain ⟨t3, hlong⟩ := TN.long
  refine F.ok scName (fun vs H Q E h => ?_) (fun cdv A outer s H vs Q E hr h => ?_)
  · obtain ⟨z, rfl, _⟩ := h
    rfl
  · obtain ⟨z, rfl, hz, k⟩ := h
    have hzl : z.length ≤ sizeLine := Nat.le_trans hz (by decide)
    refine ⟨_, (pss_cons (ps_if (PW.pt (pw_or (pt_cmpR op_lt (pe_callB call_len_str (by rfl) T.len (by decide +kernel) (pa_cons (pv 0) pa_nil)) pe_int (nomark _)) (pw_or1 (pt_cmpR op_gt (pe_callB call_len_str (by rfl) T.len (by decide +kernel) (pa_cons (pv 0) pa_nil)) (pe_glob (v := .int 12) (by rfl) hlong ⟨_, rfl⟩) (nomark _))))) (pss_one (ps_ret pe_bl)) pss_nil)
      (pss_cons (ps_if (pt_cmpR op_notIn_sign (pe_ix ix_str (pv 0) pe_int (fun _ _ => rfl)) (pe_glob (v := .str (PySem.Str.ofString "abcdefghijklmnopqrstuvwxyz")) (by rfl) hlet ⟨_, rfl⟩) (by rfl)) (pss_one (ps_ret pe_bl)) pss_nil)
      (pss_one (ps_ret (pe_callB (cr_all rfl) (by rfl) T.all (by decide +kernel) (pa_cons (pe_lc (own := [("sign", 1)]) (g := gName 1) rfl scName.nd (pi_str (pv 0)) (blkOk_by (N := ["text", "sign"]) (sc := defScope sName) (by decide +kernel)) (fun _ _ _ _ _ => (pg_name (i := 1) scName.nd rfl (Or.inl rfl))) (fun _ _ _ _ _ => pts_nil) (fun _ _ _ _ _ => (pe_or (pe_cmpR op_in_sign (pv 1) (pe_glob (v := .str (PySem.Str.ofString "abcdefghijklmnopqrstuvwxyz")) (by rfl) hlet ⟨_, rfl⟩) (by rfl)) (pe_one (pe_cmpR op_in_sign (pv 1) (pe_glob (v := .str (PySem.Str.ofString "0123456789")) (by rfl) hfig ⟨_, rfl⟩) (by rfl)))))) pa_nil)))))), ?_⟩
    refine ⟨_, rfl, z, rfl, hzl, _, _, rfl, rfl, _, rfl, ?_⟩
    refine ite2 (fun h1 => ?_) (fun h1 => ?_)
    · have h1' : (z.length : Int) < 1 := of_decide_eq_true h1
      refine iteT ?_
      have e : isNm z = false := isNm_small (.inl (by omega))
      have q := k H (Same.refl H)
      rw [e] at q
      exact q
    refine ⟨_, rfl, z, rfl, hzl, _, _, rfl, rfl, _, rfl, ?_⟩
    refine ite2 (fun h2 => ?_) (fun h2 => ?_)
    · have h2' : (12 : Int) < z.length := of_decide_eq_true h2
      have e : isNm z = false := isNm_small (.inr (by omega))
      have q := k H (Same.refl H)
      rw [e] at q
      exact q
    have h1' : ¬ z.length < 1 := fun x => h1 (decide_eq_true (by omega))
    have h2' : ¬ 12 < z.length := fun x => h2 (decide_eq_true (by omega))
    refine ⟨_, rfl, ?_⟩
    dsimp only [tC]
    refine rdItem (n := z.length) rfl (by decide) (by omega) (by omega) fun c hc => ?_
    refine ⟨c, _, rfl, rfl, _, rfl, ?_⟩
    refine ite2 (fun h3 => ?_) (fun h3 => ?_)
    · have h3' : ¬ c ∈ LET := fun x => by
        rw [show decide (c ∈ (PySem.Str.ofString "abcdefghijklmnopqrstuvwxyz").cps.toList) = true from decide_eq_true x] at h3
        cases h3
      have q := k H (Same.refl H)
      rw [isNm_first hc h3'] at q
      exact q
    have h3' : c ∈ LET := by
      by_cases x : c ∈ LET
      · exact x
      · rw [show decide (c ∈ (PySem.Str.ofString "abcdefghijklmnopqrstuvwxyz").cps.toList) = false from decide_eq_false x] at h3
        exact absurd rfl h3
    refine ⟨_, rfl, z, rfl, fun D hD => ?_⟩
    refine lc_signs (z := z) (f := okc) hz hD (fun c H Q q => ?_) fun H' hS hl => ?_
    · refine q _ rfl fun Q2 q2 => ?_
      refine ⟨_, rfl, c, _, rfl, rfl, _, rfl, ?_⟩
      unfold okc at q2
      refine ite2 (fun h => ?_) (fun h => ?_)
      · have h' : decide (c ∈ LET) = true := h
        rw [h'] at q2
        exact q2
      · have h' : decide (c ∈ LET) = false := Bool.eq_false_iff.mpr h
        rw [h'] at q2
        exact ⟨_, rfl, c, _, rfl, rfl, q2⟩
    · refine ⟨D, _, rfl, SqL.of hl, ?_⟩
      have q := k H' hS
      rw [isNm_all h1' h2' hc h3', ← all_map] at q
      exact q
end
end Wm
namespace Wm
open PySem L2
theorem mk1 {C : Addr} {f kd : Str} {v : V} {H : Hp} {Q : XK} (k : ∀ d H', H d = none → Same H H' → H' d = some (.xd (ef1 f kd v)) → Q (.ref C) (some d) H') :
    [v].length ≤ 1000 ∧ ∀ a, H a = none → spE1 C f kd (.ref a :: ([v] ++ [])) (upd H a (exo a C none)) (fun u H2 => u = .non ∧ ∃ (d : Addr) (fs : List (Str × V)), H2 a = some (exo a C (some d)) ∧ H2 d = some (exd d fs) ∧ H d = none ∧ Q (.ref C) (some d) (upd (del H2 a) d (.xd fs))) (fun _ _ _ => False) := by
  refine ⟨by show 1 ≤ 1000; decide, fun a na => ⟨a, v, rfl, upd_same, fun dx H' n ne kp ha hd => ⟨rfl, dx, _, ha, hd, ?_, ?_⟩⟩⟩
  · rw [upd_ne ne] at n
    exact n
  · rw [upd_ne ne] at n
    refine k dx _ n (fun b o e => ?_) upd_same
    have nb : b ≠ a := ne_of_none e na
    rw [upd_ne (ne_of_none e n), del_ne nb]
    exact kp b o nb (by rw [upd_ne nb]; exact e)
/-- what is due of the first text that is no name -/
def DueN (C : Addr) (zs : List Str) (H : Hp) (Q : VK) (E : XK) : Prop := match zs.find? (fun z => !isNm z) with
  | none => ∀ H', Same H H' → Q .non H'
  | some z => ∀ d H', H d = none → Same H H' → H' d = some (.xd (ef1 "name" "noname" (.str z))) → E (.ref C) (some d) H'
def spRN (K : PySem.W.Frag) (C : Addr) : Sp := fun vs H Q E => ∃ (l : Addr) (zs : List Str), vs = [.ref l] ∧ SqL K H l (zs.map V.str) ∧ zs.length ≤ 1000 ∧ (∀ z ∈ zs, z.length ≤ 1000) ∧ DueN C zs H Q E
theorem find_none_take {zs : List Str} {i : Nat} {z : Str} {p : Str → Bool} (h : ∀ y ∈ zs.take i, p y = false) (e : zs[i]? = some z) (hz : p z = true) : zs.find? p = some z := by
  have hlt : i < zs.length := (List.getElem?_eq_some_iff.mp e).1
  have e2 : zs = zs.take i ++ z :: zs.drop (i + 1) := by
    have q := List.take_append_drop i zs
    have q2 := List.drop_eq_getElem_cons hlt
    have q3 : zs[i] = z := (List.getElem?_eq_some_iff.mp e).2
    rw [q2, q3] at q
    exact q.symm
  rw [e2, List.find?_append]
  have n : (zs.take i).find? p = none := by
    rw [List.find?_eq_none]
    intro y hy
    rw [h y hy]
    decide
  rw [n]
  simp [hz]
section
variable {P : Program} {w : World} {K : PySem.W.Frag} {mg : Str → Option Value} {base : Heap}
theorem scRN : FnScope ["texts", "text"] ["texts"] (defScope sRN) := ⟨rfl, rfl, rfl, by decide +kernel, rfl, by decide +kernel, by decide +kernel⟩
theorem ok_rn {f fN C fI : Addr} {fd fdN fdI : FuncData} (F : Fun K "refuse_no_name" "refuse_no_name" sRN f fd) (D : Dn K mg "is_name" sName ["text"] fN fdN) (GN : FnOk P w K mg base CX0 1 fN fdN ["text"] spName) (TE : ErrT K mg "NoName" "name" C fI) (bI : Binds K fdI ["self", "name"] [])
    (GI : FnOk P w K mg base CX0 2 fI fdI ["self", "name"] (spE1 C "name" "noname")) : FnOk P w K mg base (L2.CX P w) 4 f fd ["texts"] (spRN K C) := by
  refine F.okX scRN (fun vs H Q E h => ?_) (fun cdv A outer s H vs Q E hr h => ?_)
  · obtain ⟨l, zs, rfl, _⟩ := h
    rfl
  · obtain ⟨l, zs, rfl, hl, hn, hz, k⟩ := h
    have hr1 : Room 1 _ := hr.mono (by decide)
    refine ⟨_, (pss_one (ps_for (passes_of rfl) rfl (pi_list (pv 0)) (pg_name (i := 1) scRN.nd rfl (Or.inl rfl)) (pss_one (ps_if (pt_not (pt_val (pe_call GN hr1 rfl D.g D.F.kp D.b .nil pass0 (pa_cons (pv 1) pa_nil)))) (pss_one (ps_raise rfl (takes_of rfl rfl rfl rfl) (pmk_oex TE.o TE.iC TE.tI GI hr bI .nil pass0 rfl TE.g (pa_cons (pv 1) pa_nil)))) pss_nil)))), ?_⟩
    refine ⟨_, rfl, l, rfl, ⟨_, hl⟩, for_list (K := K) (a := l) (xs := zs.map V.str) (fun i σ H' => ∃ v, σ = [some (.ref l), v] ∧ Same H H' ∧ ∀ y ∈ zs.take i, (!isNm y) = false) ⟨none, rfl, Same.refl H, fun y hy => (List.not_mem_nil hy).elim⟩
      (fun i σ H' _ ⟨_, _, hS, _⟩ => hS.seq hl) ?_ ?_⟩
    · rintro i y σ H' hi ⟨v, rfl, hS, hno⟩
      obtain ⟨z, hzi, rfl⟩ : ∃ z, zs[i]? = some z ∧ y = V.str z := by
        rw [List.getElem?_map] at hi
        cases e : zs[i]? with
        | none =>
          rw [e] at hi
          cases hi
        | some z =>
          rw [e] at hi
          exact ⟨z, rfl, (Option.some.inj hi).symm⟩
      refine ⟨_, rfl, z, rfl, hz z (List.mem_of_getElem? hzi), fun H2 hS2 => ⟨_, rfl, ?_⟩⟩
      refine ite2 (fun h => ?_) (fun h => ?_)
      · refine ⟨_, rfl, ?_⟩
        have e := find_none_take hno hzi h
        unfold DueN at k
        rw [e] at k
        refine mk1 fun d H3 hd hS3 hx => k d H3 (hS.free (hS2.free hd)) (hS.trans (hS2.trans hS3)) hx
      · refine ⟨_, rfl, hS.trans hS2, fun y hy => ?_⟩
        rw [List.take_add_one, hzi] at hy
        rcases List.mem_append.mp hy with hy | hy
        · exact hno y hy
        · have e : y = z := by simpa using hy
          rw [e]
          exact Bool.eq_false_iff.mpr h
    · rintro σ H' ⟨v, rfl, hS, hno⟩
      have e : zs.find? (fun z => !isNm z) = none := by
        rw [List.find?_eq_none]
        intro y hy
        rw [List.length_map, List.take_length] at hno
        rw [hno y hy]
        decide
      unfold DueN at k
      rw [e] at k
      exact k H' hS
end
end Wm
namespace Wm
open PySem PySem.Spec PyProof.Rows L2
/-- enumerate(v): its two new cells -/
theorem meets_enum1 {v : Value} {o : Obj} {H : Heap → Prop} (B : Begins v o H) :
    Meets (Builtin.«enumerate.__new__» ⟨[.type "enumerate", v], []⟩) (fun _ R s => H s.heap ∧
      R (.ok (.ret (.ref (s.heap.push o).objs.size))) { s with heap := (s.heap.push o).push { cls := .type "enumerate", data := .fields #[.none, .bool false, .ref s.heap.objs.size, rawInt 0, .none, .none] } }) :=
  .of_wp fun prog w A R s hh => by
    obtain ⟨hp, g, d, tk, os⟩ := s
    obtain ⟨h1, h⟩ := hh
    have hsub := sub_enumerate
    have q1 : ∀ {A' : Around} {E : Value → Shared → Prop} {Q : Value → Shared → Prop}, Q (.ref hp.objs.size) ⟨hp.push o, g, d, tk, os⟩ → wpAny (model prog w) A' (pyIter v) Q E ⟨hp, g, d, tk, os⟩ := fun q => B.iter prog w _ _ ⟨hp, g, d, tk, os⟩ _ h1 q
    wp_walk using q1
    refine wpAny_stack_any fun stk => wpAny_pure ?_
    split
    · rename_i c _ _ _ _ _
      cases (c == Value.type "enumerate") <;> (wp_walk using q1; exact ⟨_, rfl, h⟩)
    · wp_walk using q1
      exact ⟨_, rfl, h⟩
theorem call_enum_tup {prog : Program} {w : World} {A : Around} {E : Value → Shared → Prop} {s : Shared} {t : Addr} {items : Array Value} {Q : Value → Shared → Prop} (hL : s.heap.IsTuple t items)
    (h : ∀ h', IsEnum h' (s.heap.objs.size + 1) s.heap.objs.size 0 .none → h'.IsTupleIter s.heap.objs.size t 0 → (∀ b o, s.heap.get? b = some o → h'.get? b = some o) → Q (.ref (s.heap.objs.size + 1)) { s with heap := h' }) :
    wpAny (model prog w) A (call (.type "enumerate") [.ref t]) Q E s := by
  refine callType_new F.called_enumerate (by decide) (F.typeCall_enumerate_1 _) (F.newCall_enumerate_1 _) (fun obj => F.args_object_init_2 obj _) F.entry_enumerate_new (meets_enum1 (begins_tuple t items)) ⟨hL, ?_⟩
  generalize ho : ({ cls := .type "tuple_iterator", data := .fields #[.ref t, .int 0 0] } : Obj) = o
  have hz : (s.heap.push o).objs.size = s.heap.objs.size + 1 := Heap.size_push ..
  show _ ∧ _
  rw [hz]
  generalize he : ({ cls := .type "enumerate", data := .fields #[.none, .bool false, .ref s.heap.objs.size, rawInt 0, .none, .none] } : Obj) = eo
  have h2 : ((s.heap.push o).push eo).get? (s.heap.objs.size + 1) = some eo := by
    have q := Heap.get?_push_size (s.heap.push o) (o := eo) (by rw [← he]; rfl)
    rw [hz] at q
    exact q
  have h3 : ((s.heap.push o).push eo).get? s.heap.objs.size = some o := Heap.get?_push_of_some _ (Heap.get?_push_size _ (by rw [← ho]; rfl))
  refine ⟨⟨_, h2, by rw [← he]⟩, h _ ?_ ⟨o, h3, by rw [← ho], by rw [← ho]; rfl⟩ fun b o x => Heap.get?_push_of_some _ (Heap.get?_push_of_some _ x)⟩
  show ((s.heap.push o).push eo).get? (s.heap.objs.size + 1) = some _
  rw [h2, ← he]
/-- the tuple at a, each item in a new pair -/
def IteT (K : PySem.W.Frag) (a : Addr) (xs : List V) : It :=
  ⟨fun i H => SqT K H a xs ∧ i < xs.length, fun i H v H' => ∃ T x, v = .ref T ∧ H T = none ∧ H' = upd H T (.tup [.int (i : Nat), x]) ∧ xs[i]? = some x, fun i H => SqT K H a xs ∧ i = xs.length⟩
theorem turn_enumT {P : Program} {w : World} {K : PySem.W.Frag} {elts : List Expr} {kk : Nat} {tpos : Pos} {xs : List V} (a e it : Addr) (his : List Value) :
    Turn P w K (.Tuple elts kk tpos) (IteT K a xs) [e, it] e (fun i h => (∃ old, IsEnum h e it ((i : Nat) : Int) old) ∧ h.IsTupleIter it a i ∧ e ≠ it ∧ a ≠ it ∧ a ≠ e) where
  mem := by simp
  obj := fun i h st b hb => by
    obtain ⟨⟨old, he⟩, ⟨o, ho, hc, hd⟩, _⟩ := st
    rcases (show b = e ∨ b = it by simpa using hb) with z | z
    · rw [z]
      exact ⟨_, he, fun v q => nomatch q⟩
    · rw [z]
      exact ⟨o, ho, fun v q => by rw [hd] at q; cases q⟩
  keep := fun i h h' st k => let ⟨⟨old, he⟩, hi, hne⟩ := st; ⟨⟨old, k e (by simp) _ he⟩, hi.at fun o q => k it (by simp) o q, hne⟩
  item := by
    intro X hP hw hK hc i pins s σ H E I hf st hg
    subst hP hw hK
    obtain ⟨⟨old, he⟩, hit, hne, nai, nae⟩ := st
    obtain ⟨hq, hlt⟩ := hg
    obtain ⟨its, rv, p, hz⟩ := I.tuple hq
    have hlen := rv.length
    have hel : e < s.heap.objs.size := Heap.lt_size he
    have hil : it < s.heap.objs.size := by obtain ⟨_, q, _⟩ := hit; exact Heap.lt_size q
    have D : Draws X.prog X.w X.A.in1 it [it, a] its.toArray.size (fun i v => its.toArray[i]? = some v) (fun i h => h.IsTupleIter it a i ∧ h.IsTuple a its.toArray) := Draws.tuple (A := X.A.in1) (show X.A.in1.handled = none from I.ok.hd hc) it a nai its.toArray
    refine wpAny_pyNext_enum_itemC D he ⟨hit, p⟩ (by rw [List.size_toArray]; omega) hne (by simp [hne, Ne.symm nae]) fun u h' tk hu ho hst' hT hsz hk => ?_
    have hu' : its[i]? = some u := by simpa using hu
    obtain ⟨x, hx, ru⟩ : ∃ x, xs[i]? = some x ∧ RelV x u := by
      obtain ⟨u2, h2, r2⟩ := rv.get (List.getElem?_eq_getElem hlt)
      rw [hu'] at h2
      cases h2
      exact ⟨_, List.getElem?_eq_getElem hlt, r2⟩
    refine ⟨_, rfl, wpAny_letOwnedTupleGo_enum (s := { s with heap := h', toks := tk + 1 }) ho fun h'' he' sb => ?_⟩
    have hT2 : h''.get? s.heap.objs.size = some { cls := .type "tuple", data := .seq #[.int i tk, u] } := (sb.2 _ (Nat.ne_of_gt hel)).trans hT
    have new : ObjOk X.prog X.w (upd H s.heap.objs.size (.tup [.int (i : Nat), x])) h'' s.heap.objs.size (.tup [.int (i : Nat), x]) := ⟨by show 2 ≤ sizeLine; decide, [.int i tk, u], .cons ⟨_, rfl⟩ (.cons ru .nil), ⟨_, hT2, rfl, _, rfl⟩⟩
    have I1 : Inv X pins σ (upd H s.heap.objs.size (.tup [.int (i : Nat), x])) { s with heap := h'', toks := tk + 1 } :=
      I.turnedNew (ch := [e, it]) (fun b ob hb q => (sb.2 b (fun z => hb (by simp [z]))).trans (hk b ob (fun z => hb (by simp [z])) (fun z => hb (by simp [z])) q)) hf (Nat.le_refl _) new
    refine ⟨.ref s.heap.objs.size, _, I1, rfl, ⟨_, x, rfl, I.hok.fresh (Nat.le_refl _), rfl, hx⟩, ⟨⟨u, ?_⟩, hst'.1.at fun o q => (sb.2 it (Ne.symm hne)).trans q, hne, nai, nae⟩, fun b hb => ?_⟩
    · have e1 : ((i + 1 : Nat) : Int) = (i : Int) + 1 := by omega
      rw [e1]
      exact he'
    · have hb' : b < s.heap.objs.size := by
        rcases (show b = e ∨ b = it by simpa using hb) with z | z
        · rw [z]; exact hel
        · rw [z]; exact hil
      rw [upd_ne (Nat.ne_of_lt hb')]
      exact (hf b hb).1
  done := by
    intro X hP hw hK hc i pins s σ H E I hf st hg
    subst hP hw hK
    obtain ⟨⟨old, he⟩, hit, hne, nai, nae⟩ := st
    obtain ⟨hq, hi⟩ := hg
    obtain ⟨its, rv, p, hz⟩ := I.tuple hq
    have hlen := rv.length
    obtain ⟨f0, f1, f2, f3, f4, f5⟩ := hf it (by simp)
    have D : Draws X.prog X.w X.A.in1 it [it, a] its.toArray.size (fun i v => its.toArray[i]? = some v) (fun i h => h.IsTupleIter it a i ∧ h.IsTuple a its.toArray) := Draws.tuple (A := X.A.in1) (show X.A.in1.handled = none from I.ok.hd hc) it a nai its.toArray
    have en : i = its.toArray.size := by rw [List.size_toArray]; omega
    rw [en] at he hit
    exact wpAny_pyNext_enum_endD D he ⟨hit, p⟩ fun h' eb => ⟨rfl, I.turned (t' := s.toks) (fun b o hb q => eb b o hb q) f0 f1 f3 f4 f5⟩
  self := fun A i s Q E st h => let ⟨⟨_, he⟩, _⟩ := st; wpAny_pyIter_enum he h
def iEnumT (K : PySem.W.Frag) (ta : TA) : TI := fun σ H R => ta σ H fun vs H1 => ∃ a xs, vs = [.ref a] ∧ SqT K H1 a xs ∧ R (IteT K a xs) H1
theorem pi_enumT {X : Cx} {e : Expr} {ta : TA} {p pos tpos : Pos} {elts : List Expr} {kk : Nat} (hg : Gl X "enumerate") (hm : X.mg "enumerate" = none) (ha : PA X [e] ta) (hs : starEach [e] X.env = [(false, eval e X.env)] := by rfl) :
    PI X (.Tuple elts kk tpos) (.Call (.Name "enumerate" p) [e] [] pos) (iEnumT X.K ta) := by
  refine ⟨fun pins s σ H R I h => ?_⟩
  refine Call_ (ld_blt I hg hm boot_enumerate (PyProof.Rows.callWith_type1 (thn (ha.run pos pins s σ H _ I h) fun us s1 ⟨vs, H1, I1, r1, a, xs, ex, hq, q⟩ => ?_) hs rfl))
  subst ex
  cases r1 with
  | cons r rr =>
    cases rr
    cases r
    obtain ⟨its, rv, p', hz⟩ := I1.tuple hq
    have hal : a < s1.heap.objs.size := by obtain ⟨_, z, _⟩ := p'; exact Heap.lt_size z
    refine call_enum_tup (items := its.toArray) p' fun h' he hit hk => wpAny_pyIter_enum he ?_
    have I2 : Inv X pins σ H1 { s1 with heap := h' } := I1.kept (t' := s1.toks) hk
    refine ⟨s1.heap.objs.size + 1, [s1.heap.objs.size + 1, s1.heap.objs.size], _, _, H1, rfl, I2, turn_enumT a (s1.heap.objs.size + 1) s1.heap.objs.size its, ⟨⟨.none, he⟩, hit, Nat.succ_ne_self _, Nat.ne_of_lt hal, Nat.ne_of_lt (Nat.lt_succ_of_lt hal)⟩, fun b hb => ?_, q⟩
    have hle : s1.heap.objs.size ≤ b := by
      rcases (show b = s1.heap.objs.size + 1 ∨ b = s1.heap.objs.size by simpa using hb) with z | z
      · rw [z]; exact Nat.le_add_right _ _
      · rw [z]; exact Nat.le_refl _
    exact I1.fpOk hle (I1.hok.fresh hle)
theorem walk_enumT {K : PySem.W.Frag} {a : Addr} {xs : List V} : Walk (IteT K a xs) xs.length (fun H => SqT K H a xs) (YPair (fun i => some (.int (i : Nat))) (fun i => xs[i]?)) := by
  refine ⟨fun i _ hi q => ⟨q, hi⟩, fun _ q => ⟨q, rfl⟩, fun i H v H' _ q y => ?_⟩
  obtain ⟨T, x, h1, h2, h3, h4⟩ := y
  exact ⟨T, .int (i : Nat), x, h1, h2, h3, rfl, h4⟩
end Wm
namespace Wm
open PySem L2
/-- the outer walk of a comprehension of two clauses -/
theorem lc2_it {J : It} {n : Nat} {G : Hp → Prop} {Y : Nat → Hp → V → Hp → Prop} (w : Walk J n G Y) {g : TG} {vs : List Nat} {σ : St} {H1 : Hp} {D : Addr} {Qd : Hp → Prop} {inner : St → Hp → (Hp → Prop) → Prop} (Pv : Nat → Hp → Prop) (h0 : Pv 0 (upd H1 D (.lst []))) (hG : ∀ i H, i ≤ n → Pv i H → G H)
    (hs : ∀ i x H H', i < n → Pv i H → Y i H x H' → g x (wipe σ vs) H' fun σ2 H2 => wipe σ2 vs = wipe σ vs ∧ inner σ2 H2 (Pv (i + 1))) (hd : ∀ H, Pv n H → Qd H) :
    ∃ W : Nat → Nat → Hp → Prop, (∃ m, W 0 m (upd H1 D (.lst []))) ∧ ∀ i m H, W i m H →
      (J.stop i H ∧ Qd H) ∨ (J.go i H ∧ ∃ Nx : Hp → Prop, (∀ H', Nx H' → ∃ m', m' < m ∧ W (i + 1) m' H') ∧ ∀ x H', J.yld i H x H' → g x (wipe σ vs) H' fun σ2 H2 => wipe σ2 vs = wipe σ vs ∧ inner σ2 H2 Nx) := by
  refine ⟨fun i m H => m = n - i ∧ i ≤ n ∧ Pv i H, ⟨n, by simp, Nat.zero_le _, h0⟩, ?_⟩
  rintro i m H ⟨rfl, hi, p⟩
  have q := hG i H hi p
  by_cases hlt : i < n
  · exact .inr ⟨w.goes i H hlt q, Pv (i + 1), fun H' p' => ⟨n - (i + 1), by omega, rfl, hlt, p'⟩, fun x H' y => hs i x H H' hlt p (w.yields i H x H' hlt q y)⟩
  · have e : i = n := by omega
    subst e
    exact .inl ⟨w.stops H q, hd H p⟩
/-- the inner one -/
theorem lc1_it {J : It} {n : Nat} {G : Hp → Prop} {Y : Nat → Hp → V → Hp → Prop} (w : Walk J n G Y) {g : TG} {te : TE} {vs : List Nat} {σ : St} {H4 : Hp} {D : Addr} {Nx : Hp → Prop} (Pv : Nat → Hp → Prop) (h0 : Pv 0 H4) (hG : ∀ i H, i ≤ n → Pv i H → G H)
    (hs : ∀ i x H H', i < n → Pv i H → Y i H x H' → g x (wipe σ vs) H' fun σ3 H5 => wipe σ3 vs = wipe σ vs ∧ te σ3 H5 fun y H7 => ∃ acc, H7 D = some (.lst acc) ∧ acc.length < sizeLine ∧ Pv (i + 1) (upd H7 D (.lst (acc ++ [y])))) (hd : ∀ H, Pv n H → Nx H) :
    ∃ W1 : Nat → Nat → Hp → Prop, (∃ m, W1 0 m H4) ∧ ∀ j k H, W1 j k H →
      (J.stop j H ∧ Nx H) ∨ (J.go j H ∧ ∃ Nx1 : Hp → Prop, (∀ H', Nx1 H' → ∃ k', k' < k ∧ W1 (j + 1) k' H') ∧ ∀ x H', J.yld j H x H' → g x (wipe σ vs) H' fun σ3 H5 => wipe σ3 vs = wipe σ vs ∧ tYes σ3 H5 fun b H6 =>
        if b = true then te σ3 H6 fun y H7 => ∃ acc, H7 D = some (.lst acc) ∧ acc.length < sizeLine ∧ Nx1 (upd H7 D (.lst (acc ++ [y]))) else Nx1 H6) := by
  refine ⟨fun i m H => m = n - i ∧ i ≤ n ∧ Pv i H, ⟨n, by simp, Nat.zero_le _, h0⟩, ?_⟩
  rintro i m H ⟨rfl, hi, p⟩
  have q := hG i H hi p
  by_cases hlt : i < n
  · exact .inr ⟨w.goes i H hlt q, Pv (i + 1), fun H' p' => ⟨n - (i + 1), by omega, rfl, hlt, p'⟩, fun x H' y => hs i x H H' hlt p (w.yields i H x H' hlt q y)⟩
  · have e : i = n := by omega
    subst e
    exact .inl ⟨w.stops H q, hd H p⟩
/-- tuple(x) of a list or a tuple -/
def rTupOf (K : PySem.W.Frag) : List V → Hp → VK → Prop := fun xs H Q => ∃ p ys, xs = [.ref p] ∧ ((SqL K H p ys ∧ ∀ l, H l = none → Q (.ref l) (upd H l (.tup ys))) ∨ (SqT K H p ys ∧ Q (.ref p) H))
theorem call_tupN {X : Cx} : CallR X (.type "tuple") (rTupOf X.K) := call_tuple_of
theorem same_seqT {K : PySem.W.Frag} {H H' : Hp} {a : Addr} {xs : List V} (e : Same H H') (h : SqT K H a xs) : SqT K H' a xs := by
  rcases h with (h | ⟨o, h⟩) | h
  · exact .inl (.inl (e _ _ h))
  · exact .inl (.inr ⟨o, e _ _ h⟩)
  · exact .inr h
/-- to be read as a list or a tuple -/
def Sq (K : PySem.W.Frag) (H : Hp) (a : Addr) (xs : List V) : Prop := SqL K H a xs ∨ SqT K H a xs
theorem same_sq {K : PySem.W.Frag} {H H' : Hp} {a : Addr} {xs : List V} (e : Same H H') (h : Sq K H a xs) : Sq K H' a xs := h.imp (fun h => e.seq h) (fun h => same_seqT e h)
theorem cut_take (xs : List V) (i : Nat) : cutV xs none (some (i : Int)) = xs.take i := by
  unfold cutV
  rw [HT.sIx_none, HT.sIx_nat, List.drop_zero, Nat.sub_zero]
  by_cases h : i ≤ xs.length
  · rw [Nat.min_eq_left h]
  · rw [Nat.min_eq_right (by omega), List.take_length, List.take_of_length_le (by omega)]
theorem all_take {xs : List V} (h : xs.all flatV = true) (i : Nat) : (xs.take i).all flatV = true := by
  rw [List.all_eq_true] at h ⊢
  exact fun x hx => h x (List.mem_of_mem_take hx)
end Wm
namespace Wm
open PySem L2
/-- no item stands ahead of itself -/
def NoTw (xs : List V) : Prop := ∀ (i : Nat) (x : V), xs[i]? = some x → inV x (xs.take i) = false
def spFT (K : PySem.W.Frag) : Sp := fun vs H Q _ => ∃ (l : Addr) (xs : List V), vs = [.ref l] ∧ Sq K H l xs ∧ xs.all flatV = true ∧ NoTw xs ∧ ∀ H', Same H H' → Q .non H'
def spRC : Sp := fun vs H Q _ => ∃ (z : V) (c lo hi : Int), vs = [z, .int c, .int lo, .int hi] ∧ lo ≤ c ∧ c ≤ hi ∧ Q .non H
section
variable {P : Program} {w : World} {K : PySem.W.Frag} {mg : Str → Option Value} {base : Heap}
theorem scRC : FnScope ["what", "count", "least", "most"] ["what", "count", "least", "most"] (defScope sRC) := ⟨rfl, rfl, rfl, by decide +kernel, rfl, by decide +kernel, by decide +kernel⟩
theorem ok_rc {f : Addr} {fd : FuncData} (F : Fun K "refuse_count" "refuse_count" sRC f fd) : FnOk P w K mg base CX0 1 f fd ["what", "count", "least", "most"] spRC := by
  refine F.ok scRC (fun vs H Q E h => ?_) (fun cdv A outer s H vs Q E hr h => ?_)
  · obtain ⟨z, c, lo, hi, rfl, _⟩ := h
    rfl
  · obtain ⟨z, c, lo, hi, rfl, h1, h2, k⟩ := h
    refine ⟨_, (pss_one (ps_if (PW.pt (pw_or (pt_cmpR op_lt (pv 1) (pv 2) (nomark _)) (pw_or1 (pt_cmpR op_gt (pv 1) (pv 3) (nomark _))))) (pss_one ps_never) pss_nil)), ?_⟩
    refine ⟨_, rfl, _, rfl, _, _, rfl, rfl, _, rfl, ?_⟩
    refine ite2 (fun h => absurd (of_decide_eq_true h) (by omega)) (fun _ => ?_)
    refine ⟨_, rfl, _, rfl, _, _, rfl, rfl, _, rfl, ?_⟩
    exact ite2 (fun h => absurd (of_decide_eq_true h) (by omega)) (fun _ => k)
theorem scFT : FnScope ["row", "place", "part"] ["row"] (defScope sFT) := ⟨rfl, rfl, rfl, by decide +kernel, rfl, by decide +kernel, by decide +kernel⟩
theorem ok_ft {f : Addr} {fd : FuncData} (F : Fun K "first_twice" "first_twice" sFT f fd) (T : TxB mg) : FnOk P w K mg base CX0 1 f fd ["row"] (spFT K) := by
  refine F.ok scFT (fun vs H Q E h => ?_) (fun cdv A outer s H vs Q E hr h => ?_)
  · obtain ⟨l, xs, rfl, _⟩ := h
    rfl
  · obtain ⟨l, xs, rfl, hl, hf, hno, k⟩ := h
    rcases hl with hl | hl
    · refine ⟨_, (pss_cons (ps_for PassesOwn.never rfl (pi_enum rfl T.enumerate (pa_cons (pv 0) pa_nil)) (pg_tup rfl (pgs_cons (pg_name (i := 1) scFT.nd rfl (Or.inl rfl)) (pgs_cons (pg_name (i := 2) scFT.nd rfl (Or.inl rfl)) pgs_nil))) (pss_one (ps_if (pt_cmpR op_in_seq (pv 2) (pe_slice sl_list (pv 0) po_none (po_some (pv 1))) (by rfl)) (pss_one (ps_ret (pv 1))) pss_nil)))
      (pss_one (ps_ret pe_non))), ?_⟩
      refine ⟨_, rfl, l, xs, rfl, hl, for_it walk_enum (fun i σ H' => (∃ u v, σ = [some (.ref l), u, v]) ∧ Same H H') ⟨⟨none, none, rfl⟩, Same.refl H⟩ (fun i σ H' _ p => p.2.seq hl) ?_ ?_⟩
      · rintro i x σ H1 H2 hi ⟨⟨u, v, rfl⟩, hS⟩ ⟨t, y, z, rfl, ht, rfl, e1, e2⟩
        cases e1
        refine ⟨t, _, rfl, SqT.of upd_same, rfl, _, _, rfl, _, _, rfl, rfl, ?_⟩
        have S2 := hS.trans (Same.upd (o := .tup [.int (i : Nat), z]) ht)
        refine ⟨_, rfl, _, rfl, _, rfl, _, rfl, l, xs, rfl, S2.seq hl, fun p hp => ?_⟩
        refine ⟨p, _, rfl, .inl (SqL.of upd_same), ?_, ?_, _, rfl, ?_⟩
        · exact List.all_eq_true.mp hf _ (List.mem_of_getElem? e2)
        · show (cutV xs none (some (i : Int))).all flatV = true
          rw [cut_take]
          exact all_take hf i
        · have e : inV z (cutV xs none (some (i : Int))) = false := by
            rw [cut_take]
            exact hno i z e2
          show if inV z (cutV xs none (some (i : Int))) = true then _ else _
          rw [e]
          exact iteF ⟨⟨_, _, rfl⟩, S2.trans (Same.upd hp)⟩
      · rintro σ H' ⟨_, hS⟩
        exact k H' hS
    · refine ⟨_, (pss_cons (ps_for PassesOwn.never rfl (pi_enumT rfl T.enumerate (pa_cons (pv 0) pa_nil)) (pg_tup rfl (pgs_cons (pg_name (i := 1) scFT.nd rfl (Or.inl rfl)) (pgs_cons (pg_name (i := 2) scFT.nd rfl (Or.inl rfl)) pgs_nil))) (pss_one (ps_if (pt_cmpR op_in_seq (pv 2) (pe_slice sl_tupA (pv 0) po_none (po_some (pv 1))) (by rfl)) (pss_one (ps_ret (pv 1))) pss_nil)))
      (pss_one (ps_ret pe_non))), ?_⟩
      refine ⟨_, rfl, l, xs, rfl, hl, for_it walk_enumT (fun i σ H' => (∃ u v, σ = [some (.ref l), u, v]) ∧ Same H H') ⟨⟨none, none, rfl⟩, Same.refl H⟩ (fun i σ H' _ p => same_seqT p.2 hl) ?_ ?_⟩
      · rintro i x σ H1 H2 hi ⟨⟨u, v, rfl⟩, hS⟩ ⟨t, y, z, rfl, ht, rfl, e1, e2⟩
        cases e1
        refine ⟨t, _, rfl, SqT.of upd_same, rfl, _, _, rfl, _, _, rfl, rfl, ?_⟩
        have S2 := hS.trans (Same.upd (o := .tup [.int (i : Nat), z]) ht)
        refine ⟨_, rfl, _, rfl, _, rfl, _, rfl, l, xs, rfl, same_seqT S2 hl, fun h => ?_, fun h p hp => ?_⟩
        · have en : xs.take i = xs := by
            rw [HT.sIx_nat] at h
            exact List.take_of_length_le (by omega)
          have e : inV z xs = false := by
            have q := hno i z e2
            rw [en] at q
            exact q
          refine ⟨l, xs, rfl, .inr (same_seqT S2 hl), List.all_eq_true.mp hf _ (List.mem_of_getElem? e2), hf, _, rfl, ?_⟩
          show if inV z xs = true then _ else _
          rw [e]
          exact iteF ⟨⟨_, _, rfl⟩, S2⟩
        · refine ⟨p, _, rfl, .inr (SqT.of upd_same), List.all_eq_true.mp hf _ (List.mem_of_getElem? e2), ?_, _, rfl, ?_⟩
          · show (cutV xs none (some (i : Int))).all flatV = true
            rw [cut_take]
            exact all_take hf i
          · have e : inV z (cutV xs none (some (i : Int))) = false := by
              rw [cut_take]
              exact hno i z e2
            show if inV z (cutV xs none (some (i : Int))) = true then _ else _
            rw [e]
            exact iteF ⟨⟨_, _, rfl⟩, S2.trans (Same.upd hp)⟩
      · rintro σ H' ⟨_, hS⟩
        exact k H' hS
theorem scRT : FnScope ["names", "place"] ["names"] (defScope sRT) := ⟨rfl, rfl, rfl, by decide +kernel, rfl, by decide +kernel, by decide +kernel⟩
theorem ok_rt {f fF : Addr} {fd fdF : FuncData} (F : Fun K "refuse_twice" "refuse_twice" sRT f fd) (T : TxB mg) (D : Dn K mg "first_twice" sFT ["row"] fF fdF) : FnOk P w K mg base CX0 2 f fd ["names"] (spFT K) := by
  have G : FnOk P w K mg base CX0 1 fF fdF ["row"] (spFT K) := ok_ft D.F T
  refine F.ok scRT (fun vs H Q E h => ?_) (fun cdv A outer s H vs Q E hr h => ?_)
  · obtain ⟨l, xs, rfl, _⟩ := h
    rfl
  · obtain ⟨l, xs, rfl, hl, hf, hno, k⟩ := h
    refine ⟨_, (pss_cons (ps_set (i := 1) scRT.nd rfl (Or.inl rfl) (pe_call G hr rfl D.g D.F.kp D.b .nil pass0 (pa_cons (pv 0) pa_nil)))
      (pss_one (ps_if (pt_cmp (pc_notN (pv 1))) (pss_one ps_never) pss_nil))), ?_⟩
    refine ⟨_, rfl, l, xs, rfl, hl, hf, hno, fun H' hS => ?_⟩
    refine ⟨_, rfl, _, rfl, ?_⟩
    exact iteF (k H' hS)
end
end Wm
namespace Wm
open PySem L2
/-- the tuples at the addresses -/
def RowsAt (K : PySem.W.Frag) (H : Hp) : List Addr → List (List V) → Prop
  | [], [] => True
  | p :: ps, r :: rs => SqT K H p r ∧ RowsAt K H ps rs
  | _, _ => False
theorem RowsAt.same {K : PySem.W.Frag} {H H' : Hp} (e : Same H H') : ∀ {ps : List Addr} {rs : List (List V)}, RowsAt K H ps rs → RowsAt K H' ps rs
  | [], [], _ => True.intro
  | _ :: _, _ :: _, h => ⟨same_seqT e h.1, RowsAt.same e h.2⟩
  | [], _ :: _, h => h.elim
  | _ :: _, [], h => h.elim
theorem RowsAt.len {K : PySem.W.Frag} {H : Hp} : ∀ {ps : List Addr} {rs : List (List V)}, RowsAt K H ps rs → ps.length = rs.length
  | [], [], _ => rfl
  | _ :: _, _ :: _, h => congrArg Nat.succ (RowsAt.len h.2)
  | [], _ :: _, h => h.elim
  | _ :: _, [], h => h.elim
theorem RowsAt.get {K : PySem.W.Frag} {H : Hp} : ∀ {ps : List Addr} {rs : List (List V)} {i : Nat} {p : Addr}, RowsAt K H ps rs → ps[i]? = some p → ∃ r, rs[i]? = some r ∧ SqT K H p r
  | [], [], i, p, _, e => by simp at e
  | _ :: _, r :: _, 0, p, h, e => by
    have e' := Option.some.inj e
    subst e'
    exact ⟨r, rfl, h.1⟩
  | _ :: ps, _ :: rs, i + 1, p, h, e => by
    obtain ⟨r, h1, h2⟩ := RowsAt.get (i := i) h.2 (by simpa using e)
    exact ⟨r, by simpa using h1, h2⟩
  | [], _ :: _, _, _, h, _ => h.elim
  | _ :: _, [], _, _, h, _ => h.elim
theorem RowsAt.append {K : PySem.W.Frag} {H : Hp} : ∀ {ps qs : List Addr} {rs us : List (List V)}, RowsAt K H ps rs → RowsAt K H qs us → RowsAt K H (ps ++ qs) (rs ++ us)
  | [], _, [], _, _, h => h
  | _ :: _, _, _ :: _, _, h, g => ⟨h.1, RowsAt.append h.2 g⟩
  | [], _, _ :: _, _, h, _ => h.elim
  | _ :: _, _, [], _, h, _ => h.elim
theorem RowsAt.take {K : PySem.W.Frag} {H : Hp} : ∀ {ps : List Addr} {rs : List (List V)} (n : Nat), RowsAt K H ps rs → RowsAt K H (ps.take n) (rs.take n)
  | _, _, 0, _ => True.intro
  | [], [], _ + 1, _ => True.intro
  | _ :: _, _ :: _, n + 1, h => ⟨h.1, RowsAt.take n h.2⟩
  | [], _ :: _, _ + 1, h => h.elim
  | _ :: _, [], _ + 1, h => h.elim
theorem map_ref_get {ps : List Addr} {i : Nat} {x : V} (h : (ps.map V.ref)[i]? = some x) : ∃ p, ps[i]? = some p ∧ x = .ref p := by
  rw [List.getElem?_map] at h
  cases e : ps[i]? with
  | none =>
    rw [e] at h
    cases h
  | some p =>
    rw [e] at h
    exact ⟨p, rfl, (Option.some.inj h).symm⟩
theorem map_str_get {ps : List Str} {i : Nat} {x : V} (h : (ps.map V.str)[i]? = some x) : ∃ p, ps[i]? = some p ∧ x = .str p := by
  rw [List.getElem?_map] at h
  cases e : ps[i]? with
  | none =>
    rw [e] at h
    cases h
  | some p =>
    rw [e] at h
    exact ⟨p, rfl, (Option.some.inj h).symm⟩
abbrev Tri := Str × Str × Str
def triV (t : Tri) : List V := [.str t.1, .str t.2.1, .str t.2.2]
def endsL (ts : List Tri) : List Str := ts.flatMap fun t => [t.1, t.2.2]
theorem endsL_take {ts : List Tri} {i : Nat} {t : Tri} (h : ts[i]? = some t) : endsL (ts.take (i + 1)) = endsL (ts.take i) ++ [t.1, t.2.2] := by
  unfold endsL
  rw [List.take_add_one, h, List.flatMap_append]
  rfl
theorem endsL_len (ts : List Tri) : (endsL ts).length = 2 * ts.length := by
  induction ts with
  | nil => rfl
  | cons t r ih =>
    have e : (endsL (t :: r)).length = 2 + (endsL r).length := by
      show ([t.1, t.2.2] ++ endsL r).length = _
      rw [List.length_append]
      rfl
    have e2 : (t :: r).length = r.length + 1 := rfl
    omega
theorem tri_get {ts : List Tri} {i : Nat} {r : List V} (h : (ts.map triV)[i]? = some r) : ∃ t, ts[i]? = some t ∧ r = triV t := by
  rw [List.getElem?_map] at h
  cases e : ts[i]? with
  | none =>
    rw [e] at h
    cases h
  | some p =>
    rw [e] at h
    exact ⟨p, rfl, (Option.some.inj h).symm⟩
def spTT (K : PySem.W.Frag) : Sp := fun vs H Q _ => ∃ (l : Addr) (ps : List Addr) (rs : List (List V)), vs = [.ref l] ∧ SqL K H l (ps.map V.ref) ∧ RowsAt K H ps rs ∧ ps.length ≤ 1000 ∧ ∀ t H', H t = none → Same H H' → H' t = some (.tup (ps.map V.ref)) → Q (.ref t) H'
def spEO (K : PySem.W.Frag) : Sp := fun vs H Q _ => ∃ (l : Addr) (ps : List Addr) (ts : List Tri), vs = [.ref l] ∧ Sq K H l (ps.map V.ref) ∧ RowsAt K H ps (ts.map triV) ∧ ps.length ≤ 1000 ∧ ∀ d H', H d = none → Same H H' → H' d = some (.lst ((endsL ts).map V.str)) → Q (.ref d) H'
section
variable {P : Program} {w : World} {K : PySem.W.Frag} {mg : Str → Option Value} {base : Heap}
theorem scTT : FnScope ["rows", "row"] ["rows"] (defScope sTT) := ⟨rfl, rfl, rfl, by decide +kernel, rfl, by decide +kernel, by decide +kernel⟩
theorem ok_tt {f : Addr} {fd : FuncData} (F : Fun K "tuple_of_tuples" "tuple_of_tuples" sTT f fd) (T : TxB mg) : FnOk P w K mg base CX0 1 f fd ["rows"] (spTT K) := by
  refine F.ok scTT (fun vs H Q E h => ?_) (fun cdv A outer s H vs Q E hr h => ?_)
  · obtain ⟨l, ps, rs, rfl, _⟩ := h
    rfl
  · obtain ⟨l, ps, rs, rfl, hl, hrs, hn, k⟩ := h
    refine ⟨_, (pss_one (ps_ret (pe_callTy call_tupN (by rfl) T.tuple (by decide +kernel) (pa_cons (pe_lc (own := [("row", 1)]) (g := gName 1) (te := tCB (rTupOf K) (tCons (tVar 1) tNil)) rfl scTT.nd (pi_list (pv 0)) (blkOk_by (N := ["rows", "row"]) (sc := defScope sTT) (by decide +kernel)) (fun _ _ _ _ _ => (pg_name (i := 1) scTT.nd rfl (Or.inl rfl))) (fun _ _ _ _ _ => pts_nil) (fun _ _ _ _ _ => (pe_callTy call_tupN (by rfl) T.tuple (by decide +kernel) (pa_cons (pv 1) pa_nil)))) pa_nil)))), ?_⟩
    refine ⟨_, rfl, l, rfl, ⟨_, hl⟩, fun D hD => ?_⟩
    refine lc_it walk_list (fun i H' => Same H H' ∧ H' D = some (.lst ((ps.take i).map V.ref))) ⟨Same.upd hD, upd_same⟩ (fun i H' _ p => p.1.seq hl) ?_ ?_
    · rintro i x H1 H2 hi ⟨hS, hd⟩ ⟨rfl, hx⟩
      obtain ⟨p, hp, rfl⟩ := map_ref_get hx
      obtain ⟨r, _, hr'⟩ := hrs.get hp
      refine ⟨rfl, ?_⟩
      refine ⟨_, rfl, p, r, rfl, .inr ⟨same_seqT hS hr', _, hd, ?_, ?_, ?_⟩⟩
      · rw [List.length_map, List.length_take]
        exact Nat.lt_of_le_of_lt (show _ ≤ 1000 by omega) (by decide)
      · intro b o h
        rw [upd_ne (ne_of_none h hD)]
        exact hS b o h
      · rw [upd_same, List.take_add_one, hp, List.map_append]
        rfl
    · rintro H' ⟨hS, hd⟩
      rw [List.length_map, List.take_length] at hd
      exact ⟨D, _, rfl, .inl ⟨SqL.of hd, fun t ht => k t _ (hS.free ht) (hS.trans (Same.upd ht)) upd_same⟩⟩
theorem scEO : FnScope ["triples", "x", "word", "y", "end"] ["triples"] (defScope sEO) := ⟨rfl, rfl, rfl, by decide +kernel, rfl, by decide +kernel, by decide +kernel⟩
theorem ok_eo {f : Addr} {fd : FuncData} (F : Fun K "ends_of" "ends_of" sEO f fd) : FnOk P w K mg base CX0 1 f fd ["triples"] (spEO K) := by
  refine F.ok scEO (fun vs H Q E h => ?_) (fun cdv A outer s H vs Q E hr h => ?_)
  · obtain ⟨l, ps, ts, rfl, _⟩ := h
    rfl
  · obtain ⟨l, ps, ts, rfl, hl, hrs, hn, k⟩ := h
    have hlen := hrs.len
    rw [List.length_map] at hlen
    rcases hl with hl | hl
    · refine ⟨_, (pss_one (ps_ret (pe_lc2 (own := [("x", 1), ("word", 2), ("y", 3), ("end", 4)]) (vs1 := [4]) (g := gTup K 3 (gCons (gName 1) (gCons (gName 2) (gCons (gName 3) gNil)))) (g1 := gName 4) (wi1 := iTup K (tTup (tCons (tVar 1) (tCons (tVar 3) tNil)))) rfl scEO.nd (pi_list (pv 0)) (blkOk_by (N := ["triples", "x", "word", "y", "end"]) (sc := defScope sEO) (by decide +kernel)) (by decide) (fun _ _ _ _ _ => (pg_tup rfl (pgs_cons (pg_name (i := 1) scEO.nd rfl (Or.inl rfl)) (pgs_cons (pg_name (i := 2) scEO.nd rfl (Or.inl rfl)) (pgs_cons (pg_name (i := 3) scEO.nd rfl (Or.inl rfl)) pgs_nil))))) (fun _ _ _ _ _ => pts_nil) (fun _ _ _ _ _ => (pi_tup (pe_tup (pa_cons (pv 1) (pa_cons (pv 3) pa_nil))))) (fun _ _ _ _ _ => (pg_name (i := 4) scEO.nd rfl (Or.inl rfl))) (fun _ _ _ _ _ => pts_nil) (fun _ _ _ _ _ => (pv 4))))), ?_⟩
      refine ⟨_, rfl, l, rfl, ⟨_, hl⟩, fun D hD => ?_⟩
      refine lc2_it walk_list (fun i H' => Same H H' ∧ H' D = some (.lst ((endsL (ts.take i)).map V.str))) ⟨Same.upd hD, upd_same⟩ (fun i H' _ p => p.1.seq hl) ?_ ?_
      · rintro i x H1 H2 hi ⟨hS, hd⟩ ⟨rfl, hx⟩
        obtain ⟨p, hp, rfl⟩ := map_ref_get hx
        obtain ⟨r, hr1, hr'⟩ := hrs.get hp
        obtain ⟨t, ht, rfl⟩ := tri_get hr1
        refine ⟨p, _, rfl, same_seqT hS hr', rfl, _, _, rfl, _, _, rfl, _, _, rfl, rfl, rfl, ?_⟩
        refine ⟨_, rfl, _, rfl, by show 2 ≤ sizeLine; decide, fun q hq => ⟨q, rfl, ⟨_, SqT.of upd_same⟩, ?_⟩⟩
        have nDq : D ≠ q := ne_of_none hd hq
        refine lc1_it walk_tup (fun j H' => Same H H' ∧ SqT K H' q [.str t.1, .str t.2.2] ∧ H' D = some (.lst ((endsL (ts.take i) ++ [t.1, t.2.2].take j).map V.str))) ⟨hS.trans (Same.upd hq), SqT.of upd_same, ?_⟩ (fun _ _ _ p => p.2.1) ?_ ?_
        · rw [upd_ne nDq, hd, List.take_zero, List.append_nil]
        · rintro j y H3 H4 hj ⟨hS3, hq3, hd3⟩ ⟨rfl, hy⟩
          refine ⟨rfl, _, rfl, _, hd3, ?_, ?_, ?_, ?_⟩
          · rw [List.length_map, List.length_append, endsL_len, List.length_take, List.length_take]
            have l2 : [t.1, t.2.2].length = 2 := rfl
            exact Nat.lt_of_le_of_lt (show _ ≤ 4000 by omega) (by decide)
          · intro b o h
            rw [upd_ne (ne_of_none h hD)]
            exact hS3 b o h
          · rcases hq3 with (h | ⟨o, h⟩) | h
            · exact .inl (.inl (by rw [upd_ne (ne_of h hd3 (by intro z; cases z))]; exact h))
            · exact .inl (.inr ⟨o, by rw [upd_ne (ne_of h hd3 (by intro z; cases z))]; exact h⟩)
            · exact .inr h
          · have hy' : ([t.1, t.2.2].map V.str)[j]? = some y := hy
            obtain ⟨z, hz, rfl⟩ := map_str_get hy'
            have e : ∀ l : List Str, (l ++ (some z).toList).map V.str = l.map V.str ++ [V.str z] := fun l => by
              rw [List.map_append]
              rfl
            rw [upd_same, List.take_add_one, hz, ← List.append_assoc, e]
        · rintro H3 ⟨hS3, hq3, hd3⟩
          refine ⟨hS3, ?_⟩
          rw [hd3, endsL_take ht]
          rfl
      · rintro H' ⟨hS, hd⟩
        refine k D H' hD hS ?_
        rw [hd, List.length_map, List.take_of_length_le (by omega)]
    · refine ⟨_, (pss_one (ps_ret (pe_lc2 (own := [("x", 1), ("word", 2), ("y", 3), ("end", 4)]) (vs1 := [4]) (g := gTup K 3 (gCons (gName 1) (gCons (gName 2) (gCons (gName 3) gNil)))) (g1 := gName 4) (wi1 := iTup K (tTup (tCons (tVar 1) (tCons (tVar 3) tNil)))) rfl scEO.nd (pi_tup (pv 0)) (blkOk_by (N := ["triples", "x", "word", "y", "end"]) (sc := defScope sEO) (by decide +kernel)) (by decide) (fun _ _ _ _ _ => (pg_tup rfl (pgs_cons (pg_name (i := 1) scEO.nd rfl (Or.inl rfl)) (pgs_cons (pg_name (i := 2) scEO.nd rfl (Or.inl rfl)) (pgs_cons (pg_name (i := 3) scEO.nd rfl (Or.inl rfl)) pgs_nil))))) (fun _ _ _ _ _ => pts_nil) (fun _ _ _ _ _ => (pi_tup (pe_tup (pa_cons (pv 1) (pa_cons (pv 3) pa_nil))))) (fun _ _ _ _ _ => (pg_name (i := 4) scEO.nd rfl (Or.inl rfl))) (fun _ _ _ _ _ => pts_nil) (fun _ _ _ _ _ => (pv 4))))), ?_⟩
      refine ⟨_, rfl, l, rfl, ⟨_, hl⟩, fun D hD => ?_⟩
      refine lc2_it walk_tup (fun i H' => Same H H' ∧ H' D = some (.lst ((endsL (ts.take i)).map V.str))) ⟨Same.upd hD, upd_same⟩ (fun i H' _ p => same_seqT p.1 hl) ?_ ?_
      · rintro i x H1 H2 hi ⟨hS, hd⟩ ⟨rfl, hx⟩
        obtain ⟨p, hp, rfl⟩ := map_ref_get hx
        obtain ⟨r, hr1, hr'⟩ := hrs.get hp
        obtain ⟨t, ht, rfl⟩ := tri_get hr1
        refine ⟨p, _, rfl, same_seqT hS hr', rfl, _, _, rfl, _, _, rfl, _, _, rfl, rfl, rfl, ?_⟩
        refine ⟨_, rfl, _, rfl, by show 2 ≤ sizeLine; decide, fun q hq => ⟨q, rfl, ⟨_, SqT.of upd_same⟩, ?_⟩⟩
        have nDq : D ≠ q := ne_of_none hd hq
        refine lc1_it walk_tup (fun j H' => Same H H' ∧ SqT K H' q [.str t.1, .str t.2.2] ∧ H' D = some (.lst ((endsL (ts.take i) ++ [t.1, t.2.2].take j).map V.str))) ⟨hS.trans (Same.upd hq), SqT.of upd_same, ?_⟩ (fun _ _ _ p => p.2.1) ?_ ?_
        · rw [upd_ne nDq, hd, List.take_zero, List.append_nil]
        · rintro j y H3 H4 hj ⟨hS3, hq3, hd3⟩ ⟨rfl, hy⟩
          refine ⟨rfl, _, rfl, _, hd3, ?_, ?_, ?_, ?_⟩
          · rw [List.length_map, List.length_append, endsL_len, List.length_take, List.length_take]
            have l2 : [t.1, t.2.2].length = 2 := rfl
            exact Nat.lt_of_le_of_lt (show _ ≤ 4000 by omega) (by decide)
          · intro b o h
            rw [upd_ne (ne_of_none h hD)]
            exact hS3 b o h
          · rcases hq3 with (h | ⟨o, h⟩) | h
            · exact .inl (.inl (by rw [upd_ne (ne_of h hd3 (by intro z; cases z))]; exact h))
            · exact .inl (.inr ⟨o, by rw [upd_ne (ne_of h hd3 (by intro z; cases z))]; exact h⟩)
            · exact .inr h
          · have hy' : ([t.1, t.2.2].map V.str)[j]? = some y := hy
            obtain ⟨z, hz, rfl⟩ := map_str_get hy'
            have e : ∀ l : List Str, (l ++ (some z).toList).map V.str = l.map V.str ++ [V.str z] := fun l => by
              rw [List.map_append]
              rfl
            rw [upd_same, List.take_add_one, hz, ← List.append_assoc, e]
        · rintro H3 ⟨hS3, hq3, hd3⟩
          refine ⟨hS3, ?_⟩
          rw [hd3, endsL_take ht]
          rfl
      · rintro H' ⟨hS, hd⟩
        refine k D H' hD hS ?_
        rw [hd, List.length_map, List.take_of_length_le (by omega)]
end
end Wm
namespace Wm
open PySem L2
abbrev Var := Str × Option Str
def sortV : Option Str → V
  | none => .non
  | some s => .str s
def varV (v : Var) : List V := [.str v.1, sortV v.2]
def varT (v : Var) : List Str := v.1 :: v.2.toList
def textsL (nm : Str) (vars : List Var) (ts : List Tri) : List Str := (nm :: vars.flatMap varT) ++ ts.map (·.2.1)
theorem flat_take {vars : List Var} {i : Nat} {v : Var} (h : vars[i]? = some v) : (vars.take (i + 1)).flatMap varT = (vars.take i).flatMap varT ++ varT v := by
  rw [List.take_add_one, h, List.flatMap_append]
  simp
theorem var_get {vars : List Var} {i : Nat} {r : List V} (h : (vars.map varV)[i]? = some r) : ∃ t, vars[i]? = some t ∧ r = varV t := by
  rw [List.getElem?_map] at h
  cases e : vars[i]? with
  | none =>
    rw [e] at h
    cases h
  | some p =>
    rw [e] at h
    exact ⟨p, rfl, (Option.some.inj h).symm⟩
theorem inV_str {z : Str} {ns : List Str} : inV (.str z) (ns.map V.str) = decide (z ∈ ns) := by
  unfold inV
  induction ns with
  | nil => rfl
  | cons a r ih =>
    rw [List.map_cons, List.any_cons, ih]
    show (a == z || _) = _
    by_cases h : a = z
    · subst h
      simp
    · have h2 : ¬ z = a := fun q => h q.symm
      by_cases h3 : z ∈ r <;> simp [h, h2, h3]
theorem flat_strs (ns : List Str) : (ns.map V.str).all flatV = true := by
  rw [List.all_eq_true]
  intro x hx
  obtain ⟨z, _, rfl⟩ := List.mem_map.mp hx
  rfl
def spTP (K : PySem.W.Frag) : Sp := fun vs H Q _ => ∃ (nm : Str) (a b : Addr) (ps qs : List Addr) (vars : List Var) (ts : List Tri), vs = [.str nm, .ref a, .ref b] ∧ SqT K H a (ps.map V.ref) ∧ RowsAt K H ps (vars.map varV) ∧ SqL K H b (qs.map V.ref) ∧ RowsAt K H qs (ts.map triV) ∧
  ps.length ≤ 1000 ∧ qs.length ≤ 1000 ∧ ∀ d H', H d = none → Same H H' → H' d = some (.lst ((textsL nm vars ts).map V.str)) → Q (.ref d) H'
def spRV (K : PySem.W.Frag) : Sp := fun vs H Q _ => ∃ (a b : Addr) (ns zs : List Str), vs = [.ref a, .ref b] ∧ SqL K H a (ns.map V.str) ∧ SqL K H b (zs.map V.str) ∧ (∀ z ∈ zs, z ∈ ns) ∧ ∀ H', Same H H' → Q .non H'
def spRL (K : PySem.W.Frag) : Sp := fun vs H Q _ => ∃ (a b : Addr) (ns : List Str) (ps : List Addr) (ts : List Tri), vs = [.ref a, .ref b] ∧ SqL K H a (ns.map V.str) ∧ SqT K H b (ps.map V.ref) ∧ RowsAt K H ps (ts.map triV) ∧ ps.length ≤ 1000 ∧ (∀ z ∈ ns, z ∈ endsL ts) ∧ ∀ H', Same H H' → Q .non H'
def Hangs (ts : List Tri) : Prop := ∀ (i : Nat) (t : Tri), 0 < i → ts[i]? = some t → t.1 ∈ endsL (ts.take i) ∨ t.2.2 ∈ endsL (ts.take i)
def spRA (K : PySem.W.Frag) : Sp := fun vs H Q _ => ∃ (b : Addr) (ps : List Addr) (ts : List Tri), vs = [.ref b] ∧ SqT K H b (ps.map V.ref) ∧ RowsAt K H ps (ts.map triV) ∧ ps.length ≤ 1000 ∧ Hangs ts ∧ ∀ H', Same H H' → Q .non H'
section
variable {P : Program} {w : World} {K : PySem.W.Frag} {mg : Str → Option Value} {base : Heap}
theorem scTP : FnScope ["name", "variables", "triples", "texts", "variable", "sort", "x", "word", "y"] ["name", "variables", "triples"] (defScope sTP) := ⟨rfl, rfl, rfl, by decide +kernel, rfl, by decide +kernel, by decide +kernel⟩
theorem ok_tp {f : Addr} {fd : FuncData} (F : Fun K "texts_of_pattern" "texts_of_pattern" sTP f fd) : FnOk P w K mg base CX0 1 f fd ["name", "variables", "triples"] (spTP K) := by
  refine F.ok scTP (fun vs H Q E h => ?_) (fun cdv A outer s H vs Q E hr h => ?_)
  · obtain ⟨nm, a, b, ps, qs, vars, ts, rfl, _⟩ := h
    rfl
  · obtain ⟨nm, a, b, ps, qs, vars, ts, rfl, ha, hva, hb, htr, hn, hn2, k⟩ := h
    have hlen := hva.len
    rw [List.length_map] at hlen
    have hlen2 := htr.len
    rw [List.length_map] at hlen2
    have fl : ∀ i, ((vars.take i).flatMap varT).length ≤ 2 * vars.length := fun i => by
      have e : ∀ l : List Var, (l.flatMap varT).length ≤ 2 * l.length := fun l => by
        induction l with
        | nil => exact Nat.le_refl _
        | cons v r ih =>
          have e : ((v :: r).flatMap varT).length = (varT v).length + (r.flatMap varT).length := by
            rw [List.flatMap_cons, List.length_append]
          have e2 : (varT v).length ≤ 2 := by
            unfold varT
            cases v.2 <;> simp
          have e3 : (v :: r).length = r.length + 1 := rfl
          omega
      have q := e (vars.take i)
      rw [List.length_take] at q
      omega
    refine ⟨_, (pss_cons (ps_set (i := 3) scTP.nd rfl (Or.inl rfl) (pe_lst (pa_cons (pv 0) pa_nil)))
      (pss_cons (ps_for PassesOwn.never rfl (pi_tup (pv 1)) (pg_tup rfl (pgs_cons (pg_name (i := 4) scTP.nd rfl (Or.inl rfl)) (pgs_cons (pg_name (i := 5) scTP.nd rfl (Or.inl rfl)) pgs_nil))) (pss_cons (ps_expr (pe_bm PySem.F.plainAttrs_list PySem.F.slot_list_append PySem.F.type_list_append mt_append (pv 3) (pa_cons (pv 4) pa_nil)))
      (pss_one (ps_if (pt_cmp (pc_notN (pv 5))) (pss_one (ps_expr (pe_bm PySem.F.plainAttrs_list PySem.F.slot_list_append PySem.F.type_list_append mt_append (pv 3) (pa_cons (pv 5) pa_nil)))) pss_nil))))
      (pss_cons (ps_expr (pe_bm PySem.F.plainAttrs_list PySem.F.slot_list_extend PySem.F.type_list_extend mt_extend (pv 3) (pa_cons (pe_lc (own := [("x", 6), ("word", 7), ("y", 8)]) (g := gTup K 3 (gCons (gName 6) (gCons (gName 7) (gCons (gName 8) gNil)))) rfl scTP.nd (pi_list (pv 2)) (blkOk_by (N := ["name", "variables", "triples", "texts", "variable", "sort", "x", "word", "y"]) (sc := defScope sTP) (by decide +kernel)) (fun _ _ _ _ _ => (pg_tup rfl (pgs_cons (pg_name (i := 6) scTP.nd rfl (Or.inl rfl)) (pgs_cons (pg_name (i := 7) scTP.nd rfl (Or.inl rfl)) (pgs_cons (pg_name (i := 8) scTP.nd rfl (Or.inl rfl)) pgs_nil))))) (fun _ _ _ _ _ => pts_nil) (fun _ _ _ _ _ => (pv 7))) pa_nil)))
      (pss_one (ps_ret (pv 3)))))), ?_⟩
    refine ⟨_, rfl, by show 1 ≤ sizeLine; decide, fun d hd => ?_⟩
    have S0 : Same H (upd H d (.lst [.str nm])) := Same.upd hd
    refine ⟨_, rfl, a, rfl, ⟨_, same_seqT S0 ha⟩, for_it walk_tup (fun i σ H' => (∃ u v, σ = [some (.str nm), some (.ref a), some (.ref b), some (.ref d), u, v, none, none, none]) ∧ Same H H' ∧ H' d = some (.lst ((nm :: (vars.take i).flatMap varT).map V.str)))
      ⟨⟨none, none, rfl⟩, S0, upd_same⟩ (fun i σ H' _ p => same_seqT p.2.1 ha) ?_ ?_⟩
    · rintro i x σ H1 H2 hi ⟨⟨u, v, rfl⟩, hS, hl⟩ ⟨rfl, hx⟩
      obtain ⟨p, hp, rfl⟩ := map_ref_get hx
      obtain ⟨r, hr1, hr'⟩ := hva.get hp
      obtain ⟨⟨n, so⟩, ht, rfl⟩ := var_get hr1
      have fi := fl i
      refine ⟨p, _, rfl, same_seqT hS hr', rfl, _, _, rfl, _, _, rfl, rfl, ?_⟩
      refine ⟨_, rfl, .inl ⟨rfl, _, SqL.of hl⟩, _, rfl, d, _, _, rfl, rfl, hl, ?_, ?_⟩
      · rw [List.length_map, List.length_cons]
        exact Nat.lt_of_le_of_lt (show _ ≤ 4000 by omega) (by decide)
      have S1 : Same H (upd H2 d (.lst ((nm :: (vars.take i).flatMap varT).map V.str ++ [.str n]))) := fun b' o h => by
        rw [upd_ne (ne_of_none h hd)]
        exact hS b' o h
      refine ⟨_, rfl, _, rfl, ?_⟩
      cases so with
      | none =>
        refine iteF ⟨⟨_, _, rfl⟩, S1, ?_⟩
        rw [upd_same, flat_take ht]
        have e : (nm :: ((vars.take i).flatMap varT ++ varT (n, none))) = (nm :: (vars.take i).flatMap varT) ++ [n] := rfl
        rw [e, List.map_append]
        rfl
      | some so =>
        refine iteT ?_
        refine ⟨_, rfl, .inl ⟨rfl, _, SqL.of upd_same⟩, _, rfl, d, _, _, rfl, rfl, upd_same, ?_, ?_⟩
        · rw [List.length_append, List.length_map, List.length_cons, List.length_singleton]
          exact Nat.lt_of_le_of_lt (show _ ≤ 4000 by omega) (by decide)
        · refine ⟨⟨_, _, rfl⟩, fun b' o h => ?_, ?_⟩
          · rw [upd_ne (ne_of_none h hd)]
            exact S1 b' o h
          · rw [upd_same, flat_take ht]
            have e : (nm :: ((vars.take i).flatMap varT ++ varT (n, some so))) = (nm :: (vars.take i).flatMap varT) ++ [n, so] := rfl
            rw [e, List.map_append, List.append_assoc]
            rfl
    · rintro σ H1 ⟨⟨u, v, rfl⟩, hS, hl⟩
      rw [List.length_map, List.take_of_length_le (by omega)] at hl
      have fi := fl vars.length
      rw [List.take_length] at fi
      refine ⟨_, rfl, .inl ⟨rfl, _, SqL.of hl⟩, _, rfl, b, rfl, ⟨_, hS.seq hb⟩, fun D hD => ?_⟩
      have nDd : D ≠ d := (ne_of_none hl hD).symm
      refine lc_it walk_list (fun i H' => Same H H' ∧ H' d = some (.lst ((nm :: vars.flatMap varT).map V.str)) ∧ H' D = some (.lst (((ts.take i).map (·.2.1)).map V.str))) ⟨hS.trans (Same.upd hD), by rw [upd_ne nDd.symm]; exact hl, upd_same⟩ (fun i H' _ p => p.1.seq hb) ?_ ?_
      · rintro i x H2 H3 hi ⟨hS2, hl2, hD2⟩ ⟨rfl, hx⟩
        obtain ⟨p, hp, rfl⟩ := map_ref_get hx
        obtain ⟨r, hr1, hr'⟩ := htr.get hp
        obtain ⟨t, ht, rfl⟩ := tri_get hr1
        refine ⟨p, _, rfl, same_seqT hS2 hr', rfl, _, _, rfl, _, _, rfl, _, _, rfl, rfl, rfl, ?_⟩
        refine ⟨_, rfl, _, hD2, ?_, ?_, ?_, ?_⟩
        · rw [List.length_map, List.length_map, List.length_take]
          exact Nat.lt_of_le_of_lt (show _ ≤ 1000 by omega) (by decide)
        · intro b' o h
          rw [upd_ne (ne_of_none h (hS.free hD))]
          exact hS2 b' o h
        · rw [upd_ne nDd.symm]
          exact hl2
        · rw [upd_same, List.take_add_one, ht, List.map_append, List.map_append]
          rfl
      · rintro H2 ⟨hS2, hl2, hD2⟩
        rw [List.length_map, List.take_of_length_le (by omega)] at hD2
        refine ⟨d, D, _, _, rfl, rfl, hl2, hD2, ?_, ?_⟩
        · rw [List.length_map, List.length_map, List.length_map, List.length_cons]
          exact Nat.le_trans (show _ ≤ 4000 by omega) (by decide)
        · refine ⟨_, rfl, ?_⟩
          refine k d _ hd (fun b' o h => ?_) ?_
          · rw [upd_ne (ne_of_none h hd)]
            exact hS2 b' o h
          · rw [upd_same]
            unfold textsL
            rw [List.map_append]
theorem scRV : FnScope ["names", "texts", "text"] ["names", "texts"] (defScope sRV) := ⟨rfl, rfl, rfl, by decide +kernel, rfl, by decide +kernel, by decide +kernel⟩
theorem ok_rv {f : Addr} {fd : FuncData} (F : Fun K "refuse_no_variable" "refuse_no_variable" sRV f fd) : FnOk P w K mg base CX0 1 f fd ["names", "texts"] (spRV K) := by
  refine F.ok scRV (fun vs H Q E h => ?_) (fun cdv A outer s H vs Q E hr h => ?_)
  · obtain ⟨a, b, ns, zs, rfl, _⟩ := h
    rfl
  · obtain ⟨a, b, ns, zs, rfl, ha, hb, hin, k⟩ := h
    refine ⟨_, (pss_one (ps_for PassesOwn.never rfl (pi_list (pv 1)) (pg_name (i := 2) scRV.nd rfl (Or.inl rfl)) (pss_one (ps_if (pt_cmpR op_notIn_seq (pv 2) (pv 0) (by rfl)) (pss_one ps_never) pss_nil)))), ?_⟩
    refine ⟨_, rfl, b, rfl, ⟨_, hb⟩, for_list (K := K) (a := b) (xs := zs.map V.str) (fun i σ H' => (∃ v, σ = [some (.ref a), some (.ref b), v]) ∧ H' = H) ⟨⟨none, rfl⟩, rfl⟩ (fun i σ H' _ p => by rw [p.2]; exact hb) ?_ ?_⟩
    · rintro i y σ H' hi ⟨⟨v, rfl⟩, rfl⟩
      obtain ⟨z, hz, rfl⟩ := map_str_get hi
      refine ⟨_, rfl, _, rfl, a, _, rfl, .inl ha, rfl, flat_strs ns, _, rfl, ?_⟩
      show if (!inV (.str z) (ns.map V.str)) = true then _ else _
      rw [inV_str, decide_eq_true (hin z (List.mem_of_getElem? hz))]
      exact iteF ⟨⟨_, rfl⟩, rfl⟩
    · rintro σ H' ⟨_, rfl⟩
      exact k H' (Same.refl H')
theorem scRL : FnScope ["names", "conditions", "tied", "name"] ["names", "conditions"] (defScope sRL) := ⟨rfl, rfl, rfl, by decide +kernel, rfl, by decide +kernel, by decide +kernel⟩
theorem ok_rl {f fE : Addr} {fd fdE : FuncData} (F : Fun K "refuse_loose" "refuse_loose" sRL f fd) (D : Dn K mg "ends_of" sEO ["triples"] fE fdE) : FnOk P w K mg base CX0 2 f fd ["names", "conditions"] (spRL K) := by
  have G : FnOk P w K mg base CX0 1 fE fdE ["triples"] (spEO K) := ok_eo D.F
  refine F.ok scRL (fun vs H Q E h => ?_) (fun cdv A outer s H vs Q E hr h => ?_)
  · obtain ⟨a, b, ns, ps, ts, rfl, _⟩ := h
    rfl
  · obtain ⟨a, b, ns, ps, ts, rfl, ha, hb, htr, hn, hin, k⟩ := h
    refine ⟨_, (pss_cons (ps_set (i := 2) scRL.nd rfl (Or.inl rfl) (pe_call G hr rfl D.g D.F.kp D.b .nil pass0 (pa_cons (pv 1) pa_nil)))
      (pss_one (ps_for PassesOwn.never rfl (pi_list (pv 0)) (pg_name (i := 3) scRL.nd rfl (Or.inl rfl)) (pss_one (ps_if (pt_cmpR op_notIn_seq (pv 3) (pv 2) (by rfl)) (pss_one ps_never) pss_nil))))), ?_⟩
    refine ⟨_, rfl, b, ps, ts, rfl, .inr hb, htr, hn, fun d H1 hd hS hl => ?_⟩
    refine ⟨_, rfl, a, rfl, ⟨_, hS.seq ha⟩, for_list (K := K) (a := a) (xs := ns.map V.str) (fun i σ H' => (∃ v, σ = [some (.ref a), some (.ref b), some (.ref d), v]) ∧ H' = H1) ⟨⟨none, rfl⟩, rfl⟩ (fun i σ H' _ p => by rw [p.2]; exact hS.seq ha) ?_ ?_⟩
    · rintro i y σ H' hi ⟨⟨v, rfl⟩, rfl⟩
      obtain ⟨z, hz, rfl⟩ := map_str_get hi
      refine ⟨_, rfl, _, rfl, d, _, rfl, .inl (SqL.of hl), rfl, flat_strs _, _, rfl, ?_⟩
      show if (!inV (.str z) ((endsL ts).map V.str)) = true then _ else _
      rw [inV_str, decide_eq_true (hin z (List.mem_of_getElem? hz))]
      exact iteF ⟨⟨_, rfl⟩, rfl⟩
    · rintro σ H' ⟨_, rfl⟩
      exact k H' hS
theorem scRA : FnScope ["conditions", "place", "x", "word", "y", "ahead"] ["conditions"] (defScope sRA) := ⟨rfl, rfl, rfl, by decide +kernel, rfl, by decide +kernel, by decide +kernel⟩
theorem ok_ra {f fE : Addr} {fd fdE : FuncData} (F : Fun K "refuse_apart" "refuse_apart" sRA f fd) (T : TxB mg) (D : Dn K mg "ends_of" sEO ["triples"] fE fdE) : FnOk P w K mg base CX0 2 f fd ["conditions"] (spRA K) := by
  have G : FnOk P w K mg base CX0 1 fE fdE ["triples"] (spEO K) := ok_eo D.F
  refine F.ok scRA (fun vs H Q E h => ?_) (fun cdv A outer s H vs Q E hr h => ?_)
  · obtain ⟨b, ps, ts, rfl, _⟩ := h
    rfl
  · obtain ⟨b, ps, ts, rfl, hb, htr, hn, hh, k⟩ := h
    have hlen := htr.len
    rw [List.length_map] at hlen
    refine ⟨_, (pss_one (ps_for PassesOwn.never rfl (pi_enumT rfl T.enumerate (pa_cons (pv 0) pa_nil)) (pg_tup rfl (pgs_cons (pg_name (i := 1) scRA.nd rfl (Or.inl rfl)) (pgs_cons (pg_tup rfl (pgs_cons (pg_name (i := 2) scRA.nd rfl (Or.inl rfl)) (pgs_cons (pg_name (i := 3) scRA.nd rfl (Or.inl rfl)) (pgs_cons (pg_name (i := 4) scRA.nd rfl (Or.inl rfl)) pgs_nil)))) pgs_nil))) (pss_cons (ps_set (i := 5) scRA.nd rfl (Or.inl rfl) (pe_call G hr rfl D.g D.F.kp D.b .nil pass0 (pa_cons (pe_slice sl_tupA (pv 0) po_none (po_some (pv 1))) pa_nil)))
      (pss_one (ps_if (PW.pt (pw_and (pt_cmpR op_gt (pv 1) pe_int (nomark _)) (pw_and (pt_cmpR op_notIn_seq (pv 2) (pv 5) (by rfl)) (pw_and1 (pt_cmpR op_notIn_seq (pv 4) (pv 5) (by rfl)))))) (pss_one ps_never) pss_nil))))), ?_⟩
    refine ⟨_, rfl, b, _, rfl, hb, for_it walk_enumT (fun i σ H' => (∃ u v x y z, σ = [some (.ref b), u, v, x, y, z]) ∧ Same H H') ⟨⟨none, none, none, none, none, rfl⟩, Same.refl H⟩ (fun i σ H' _ p => same_seqT p.2 hb) ?_ ?_⟩
    · rintro i x σ H1 H2 hi ⟨⟨u, v, x1, x2, x3, rfl⟩, hS⟩ ⟨q, y, z, rfl, hq, rfl, e1, e2⟩
      cases e1
      obtain ⟨p, hp, rfl⟩ := map_ref_get e2
      obtain ⟨r, hr1, hr'⟩ := htr.get hp
      obtain ⟨t, ht, rfl⟩ := tri_get hr1
      have S2 := hS.trans (Same.upd (o := .tup [.int (i : Nat), .ref p]) hq)
      have hi' : i < ps.length := by rw [List.length_map] at hi; exact hi
      refine ⟨q, _, rfl, SqT.of upd_same, rfl, _, _, rfl, _, _, rfl, ⟨p, _, rfl, same_seqT S2 hr', rfl, _, _, rfl, _, _, rfl, _, _, rfl, rfl, rfl, ?_⟩⟩
      refine ⟨_, rfl, _, rfl, _, rfl, b, _, rfl, same_seqT S2 hb, fun h => ?_, fun _ c hc => ?_⟩
      · exfalso
        rw [HT.sIx_nat, List.length_map] at h
        omega
      have S3 := S2.trans (Same.upd (o := .tup (cutV (ps.map V.ref) none (some (i : Int)))) hc)
      have hcut : cutV (ps.map V.ref) none (some (i : Int)) = (ps.take i).map V.ref := by rw [cut_take, List.map_take]
      refine ⟨c, ps.take i, ts.take i, rfl, .inr (SqT.of (by rw [upd_same, hcut])), ?_, by rw [List.length_take]; omega, fun d H3 hd hS3 hl => ?_⟩
      · rw [List.map_take]
        exact (htr.take i).same S3
      refine ⟨_, rfl, _, _, rfl, rfl, _, rfl, ?_⟩
      refine ite2 (fun h0 => ?_) (fun _ => ?_)
      · have h0' : (0 : Int) < (i : Int) := of_decide_eq_true h0
        refine ⟨_, rfl, _, rfl, d, _, rfl, .inl (SqL.of hl), rfl, flat_strs _, _, rfl, ?_⟩
        show if (!inV (.str t.1) ((endsL (ts.take i)).map V.str)) = true then _ else _
        rw [inV_str]
        by_cases m1 : t.1 ∈ endsL (ts.take i)
        · rw [decide_eq_true m1]
          exact iteF (iteF ⟨⟨_, _, _, _, _, rfl⟩, S3.trans hS3⟩)
        · rw [decide_eq_false m1]
          refine iteT ?_
          refine ⟨_, rfl, _, rfl, d, _, rfl, .inl (SqL.of hl), rfl, flat_strs _, _, rfl, ?_⟩
          show if (!inV (.str t.2.2) ((endsL (ts.take i)).map V.str)) = true then _ else _
          have m2 : t.2.2 ∈ endsL (ts.take i) := (hh i t (by omega) ht).resolve_left m1
          rw [inV_str, decide_eq_true m2]
          exact iteF ⟨⟨_, _, _, _, _, rfl⟩, S3.trans hS3⟩
      · exact iteF ⟨⟨_, _, _, _, _, rfl⟩, S3.trans hS3⟩
    · rintro σ H' ⟨_, hS⟩
      exact k H' hS
end
end Wm
namespace Wm
open PySem L2 StX
structure TxP (mg : Str → Option Value) : Prop where
  mv : ∃ t, mg "MOST_VARIABLES" = some (.int 4 t)
  mc : ∃ t, mg "MOST_CONDITIONS" = some (.int 3 t)
theorem DueN.mono {C : Addr} {zs : List Str} {H H1 : Hp} {Q : VK} {E : XK} (hS : Same H H1) (h : DueN C zs H Q E) : DueN C zs H1 Q E := by
  unfold DueN at h ⊢
  split
  · rename_i e
    rw [e] at h
    exact fun H' h1 => h H' (hS.trans h1)
  · rename_i z e
    rw [e] at h
    exact fun d H' h0 h1 h2 => h d H' (hS.free h0) (hS.trans h1) h2
theorem DueN.next {C : Addr} {zs : List Str} {H H1 : Hp} {Q Q' : VK} {E : XK} (h : DueN C zs H Q E) (hS : Same H H1) (r : zs.find? (fun z => !isNm z) = none → ∀ H', Same H1 H' → Q' .non H') : DueN C zs H1 Q' E := by
  have h' := DueN.mono hS h
  unfold DueN at h' ⊢
  cases e : zs.find? (fun z => !isNm z) with
  | none => exact r e
  | some z =>
    rw [e] at h'
    exact h'
theorem flat_len (l : List Var) : (l.flatMap varT).length ≤ 2 * l.length := by
  induction l with
  | nil => exact Nat.le_refl _
  | cons v r ih =>
    have e : ((v :: r).flatMap varT).length = (varT v).length + (r.flatMap varT).length := by
      rw [List.flatMap_cons, List.length_append]
    have e2 : (varT v).length ≤ 2 := by
      unfold varT
      cases v.2 <;> simp
    have e3 : (v :: r).length = r.length + 1 := rfl
    omega
/-- a pattern of which nothing but a text that is no name is to be refused -/
structure PatOk (vars : List Var) (cs gs : List Tri) (hs : List Str) : Prop where
  v1 : 1 ≤ vars.length
  v4 : vars.length ≤ 4
  c1 : 1 ≤ cs.length
  c3 : cs.length ≤ 3
  g3 : gs.length ≤ 1
  h3 : hs.length ≤ 1
  tw : NoTw ((vars.map (·.1)).map V.str)
  en : ∀ z ∈ endsL (cs ++ gs) ++ hs, z ∈ vars.map (·.1)
  lo : ∀ z ∈ vars.map (·.1), z ∈ endsL cs
  ap : Hangs cs
def spCP (K : PySem.W.Frag) (C : Addr) : Sp := fun vs H Q E => ∃ (nm : Str) (a b g h : Addr) (ps qs us : List Addr) (vars : List Var) (cs gs : List Tri) (hs : List Str), vs = [.str nm, .ref a, .ref b, .ref g, .ref h] ∧ SqT K H a (ps.map V.ref) ∧ RowsAt K H ps (vars.map varV) ∧
  SqT K H b (qs.map V.ref) ∧ RowsAt K H qs (cs.map triV) ∧ SqL K H g (us.map V.ref) ∧ RowsAt K H us (gs.map triV) ∧ SqL K H h (hs.map V.str) ∧ PatOk vars cs gs hs ∧ (∀ z ∈ textsL nm vars (cs ++ gs), z.length ≤ 1000) ∧ DueN C (textsL nm vars (cs ++ gs)) H Q E
section
variable {P : Program} {w : World} {K : PySem.W.Frag} {mg : Str → Option Value} {base : Heap}
theorem scCP : FnScope ["name", "variables", "conditions", "given", "hands", "triples", "names", "variable", "sort"] ["name", "variables", "conditions", "given", "hands"] (defScope sCP) := ⟨rfl, rfl, rfl, by decide +kernel, rfl, by decide +kernel, by decide +kernel⟩
theorem ok_cp {f fRC fRN fTP fRT fRV fEO fRL fRA C : Addr} {fd dRC dRN dTP dRT dRV dEO dRL dRA : FuncData} (F : Fun K "check_pattern" "check_pattern" sCP f fd) (T : TxB mg) (TP : TxP mg)
    (RC : Dn K mg "refuse_count" sRC ["what", "count", "least", "most"] fRC dRC) (RN : Dn K mg "refuse_no_name" sRN ["texts"] fRN dRN) (TX : Dn K mg "texts_of_pattern" sTP ["name", "variables", "triples"] fTP dTP) (RT : Dn K mg "refuse_twice" sRT ["names"] fRT dRT)
    (RV : Dn K mg "refuse_no_variable" sRV ["names", "texts"] fRV dRV) (EO : Dn K mg "ends_of" sEO ["triples"] fEO dEO) (RL : Dn K mg "refuse_loose" sRL ["names", "conditions"] fRL dRL) (RA : Dn K mg "refuse_apart" sRA ["conditions"] fRA dRA)
    (GRN : FnOk P w K mg base (L2.CX P w) 4 fRN dRN ["texts"] (spRN K C)) (GRT : FnOk P w K mg base CX0 2 fRT dRT ["names"] (spFT K)) :
    FnOk P w K mg base (L2.CX P w) 5 f fd ["name", "variables", "conditions", "given", "hands"] (spCP K C) := by
  have GRC : FnOk P w K mg base CX0 1 fRC dRC _ spRC := ok_rc RC.F
  have GTX : FnOk P w K mg base CX0 1 fTP dTP _ (spTP K) := ok_tp TX.F
  have GRV : FnOk P w K mg base CX0 1 fRV dRV _ (spRV K) := ok_rv RV.F
  have GEO : FnOk P w K mg base CX0 1 fEO dEO _ (spEO K) := ok_eo EO.F
  have GRL : FnOk P w K mg base CX0 2 fRL dRL _ (spRL K) := ok_rl RL.F EO
  have GRA : FnOk P w K mg base CX0 2 fRA dRA _ (spRA K) := ok_ra RA.F T EO
  obtain ⟨t1, hmv⟩ := TP.mv
  obtain ⟨t2, hmc⟩ := TP.mc
  refine F.okX scCP (fun vs H Q E h => ?_) (fun cdv A outer s H vs Q E hr h => ?_)
  · obtain ⟨nm, a, b, g, h, ps, qs, us, vars, cs, gs, hs, rfl, _⟩ := h
    rfl
  · obtain ⟨nm, a, b, g, h, ps, qs, us, vars, cs, gs, hs, rfl, ha, hva, hb, hcs, hg, hgs, hh, ok, hz, k⟩ := h
    have hr1 : Room 1 _ := hr.mono (by decide)
    have hr2 : Room 2 _ := hr.mono (by decide)
    have l1 := hva.len
    have l2 := hcs.len
    have l3 := hgs.len
    rw [List.length_map] at l1 l2 l3
    have o1 := ok.v4
    have o2 := ok.c3
    have o3 := ok.g3
    have o4 := ok.v1
    have o5 := ok.c1
    have o6 := ok.h3
    refine ⟨_, (pss_cons (ps_expr (pe_call GRC hr1 rfl RC.g RC.F.kp RC.b .nil pass0 (pa_cons pe_str (pa_cons (pe_callB call_len_seq (by rfl) T.len (by decide +kernel) (pa_cons (pv 1) pa_nil)) (pa_cons pe_int (pa_cons (pe_glob (v := .int 4) (by rfl) hmv ⟨_, rfl⟩) pa_nil))))))
      (pss_cons (ps_expr (pe_call GRC hr1 rfl RC.g RC.F.kp RC.b .nil pass0 (pa_cons pe_str (pa_cons (pe_callB call_len_seq (by rfl) T.len (by decide +kernel) (pa_cons (pv 2) pa_nil)) (pa_cons pe_int (pa_cons (pe_glob (v := .int 3) (by rfl) hmc ⟨_, rfl⟩) pa_nil))))))
      (pss_cons (ps_set (i := 5) scCP.nd rfl (Or.inl rfl) (pe_lst (pa_star (pv 2) (pa_star (pv 3) pa_nil))))
      (pss_cons (ps_expr (pe_call GRN hr rfl RN.g RN.F.kp RN.b .nil (passes_call (takes_of rfl rfl rfl rfl) (fun _ _ _ _ h => h)) (pa_cons (pe_call GTX hr1 rfl TX.g TX.F.kp TX.b .nil pass0 (pa_cons (pv 0) (pa_cons (pv 1) (pa_cons (pv 5) pa_nil)))) pa_nil)))
      (pss_cons (ps_setLc (i := 6) (own := [("variable", 7), ("sort", 8)]) (g := gTup K 2 (gCons (gName 7) (gCons (gName 8) gNil))) rfl scCP.nd rfl rfl (sw_true rfl rfl rfl (by decide +kernel)) (pi_tup (pv 1)) (blkOk_by (N := ["name", "variables", "conditions", "given", "hands", "triples", "names", "variable", "sort"]) (sc := defScope sCP) (by decide +kernel)) (fun _ _ _ _ _ => (pg_tup rfl (pgs_cons (pg_name (i := 7) scCP.nd rfl (Or.inl rfl)) (pgs_cons (pg_name (i := 8) scCP.nd rfl (Or.inl rfl)) pgs_nil)))) (fun _ _ _ _ _ => pts_nil) (fun _ _ _ _ _ => (pv 7)))
      (pss_cons (ps_expr (pe_call GRT hr2 rfl RT.g RT.F.kp RT.b .nil pass0 (pa_cons (pv 6) pa_nil)))
      (pss_cons (ps_expr (pe_call GRV hr1 rfl RV.g RV.F.kp RV.b .nil pass0 (pa_cons (pv 6) (pa_cons (pe_lst (pa_star (pe_call GEO hr1 rfl EO.g EO.F.kp EO.b .nil pass0 (pa_cons (pv 5) pa_nil)) (pa_star (pv 4) pa_nil))) pa_nil))))
      (pss_cons (ps_expr (pe_call GRL hr2 rfl RL.g RL.F.kp RL.b .nil pass0 (pa_cons (pv 6) (pa_cons (pv 2) pa_nil))))
      (pss_one (ps_expr (pe_call GRA hr2 rfl RA.g RA.F.kp RA.b .nil pass0 (pa_cons (pv 2) pa_nil)))))))))))), ?_⟩
    refine ⟨_, rfl, a, _, rfl, .inr ha, _, _, _, _, rfl, ?_, ?_, ?_⟩
    · rw [List.length_map]; omega
    · rw [List.length_map]; omega
    refine ⟨_, rfl, b, _, rfl, .inr hb, _, _, _, _, rfl, ?_, ?_, ?_⟩
    · rw [List.length_map]; omega
    · rw [List.length_map]; omega
    -- triples = [*conditions, *given]
    refine ⟨_, rfl, b, _, rfl, .inl hb, _, rfl, g, _, rfl, .inr hg, ?_, fun tr htr => ?_⟩
    · show (qs.map V.ref ++ (us.map V.ref ++ [])).length ≤ sizeLine
      rw [List.append_nil, List.length_append, List.length_map, List.length_map]
      exact Nat.le_trans (show _ ≤ 1000 by omega) (by decide)
    have etr : qs.map V.ref ++ (us.map V.ref ++ []) = (qs ++ us).map V.ref := by rw [List.append_nil, List.map_append]
    have S1 : Same H (upd H tr (.lst (qs.map V.ref ++ (us.map V.ref ++ [])))) := Same.upd htr
    refine ⟨_, rfl, _, rfl, _, rfl, nm, a, tr, ps, qs ++ us, vars, cs ++ gs, rfl, same_seqT S1 ha, hva.same S1, SqL.of (by rw [upd_same, etr]), ?_, by omega, by rw [List.length_append]; omega, fun d H2 hd hS2 hl => ?_⟩
    · rw [List.map_append]
      exact (hcs.append hgs).same S1
    have S2 := S1.trans hS2
    refine ⟨d, _, rfl, SqL.of hl, ?_, hz, ?_⟩
    · unfold textsL
      have e : ∀ l : List Var, (l.flatMap varT).length ≤ 2 * l.length := flat_len
      have e2 := e vars
      rw [List.length_append, List.length_cons, List.length_map, List.length_append]
      omega
    refine DueN.next k S2 fun hn H3 hS3 => ?_
    have S3 := S2.trans hS3
    -- names = [variable for variable, sort in variables]
    refine ⟨_, rfl, a, rfl, ⟨_, same_seqT S3 ha⟩, fun D hD => ?_⟩
    refine lc_it walk_tup (fun i H' => Same H3 H' ∧ H' D = some (.lst (((vars.take i).map (·.1)).map V.str))) ⟨Same.upd hD, upd_same⟩ (fun i H' _ p => same_seqT (S3.trans p.1) ha) ?_ ?_
    · rintro i x H4 H5 hi ⟨hS4, hD4⟩ ⟨rfl, hx⟩
      obtain ⟨p, hp, rfl⟩ := map_ref_get hx
      obtain ⟨r, hr1', hr'⟩ := hva.get hp
      obtain ⟨⟨n, so⟩, ht, rfl⟩ := var_get hr1'
      refine ⟨p, _, rfl, same_seqT (S3.trans hS4) hr', rfl, _, _, rfl, _, _, rfl, rfl, rfl, ?_⟩
      refine ⟨_, rfl, _, hD4, ?_, ?_, ?_⟩
      · rw [List.length_map, List.length_map, List.length_take]
        exact Nat.lt_of_le_of_lt (show _ ≤ 1000 by omega) (by decide)
      · intro b' o h
        rw [upd_ne (ne_of_none h hD)]
        exact hS4 b' o h
      · rw [upd_same, List.take_add_one, ht, List.map_append, List.map_append]
        rfl
    rintro H4 ⟨hS4, hD4⟩
    rw [List.length_map, List.take_of_length_le (by omega)] at hD4
    have S4 := S3.trans hS4
    have tr4 : H4 tr = some (.lst ((qs ++ us).map V.ref)) := by
      have q : (upd H tr (.lst (qs.map V.ref ++ (us.map V.ref ++ [])))) tr = some (.lst ((qs ++ us).map V.ref)) := by rw [upd_same, etr]
      exact hS4 _ _ (hS3 _ _ (hS2 _ _ q))
    -- refuse_twice(names)
    refine ⟨_, rfl, D, _, rfl, .inl (SqL.of hD4), flat_strs _, ok.tw, fun H5 hS5 => ?_⟩
    have S5 := S4.trans hS5
    -- refuse_no_variable(names, [*ends_of(triples), *hands])
    refine ⟨_, rfl, _, rfl, tr, qs ++ us, cs ++ gs, rfl, .inl (SqL.of (hS5 _ _ tr4)), ?_, by rw [List.length_append]; omega, fun e H6 he hS6 hl6 => ?_⟩
    · rw [List.map_append]
      exact (hcs.append hgs).same S5
    have S6 := S5.trans hS6
    refine ⟨e, _, rfl, .inr (SqL.of hl6), _, rfl, h, _, rfl, .inr (S6.seq hh), ?_, fun l hl => ?_⟩
    · rw [List.length_append, List.length_map, endsL_len, List.length_append, List.append_nil, List.length_map]
      exact Nat.le_trans (show _ ≤ 1000 by omega) (by decide)
    refine ⟨D, l, _, endsL (cs ++ gs) ++ hs, rfl, SqL.of (Same.upd hl _ _ (hS6 _ _ (hS5 _ _ hD4))), SqL.of ?_, ok.en, fun H7 hS7 => ?_⟩
    · rw [upd_same, List.append_nil, List.map_append]
    have S7 := S6.trans ((Same.upd hl).trans hS7)
    have D7 := hS7 _ _ (Same.upd hl _ _ (hS6 _ _ (hS5 _ _ hD4)))
    -- refuse_loose(names, conditions)
    refine ⟨_, rfl, _, rfl, D, b, _, qs, cs, rfl, SqL.of D7, same_seqT S7 hb, hcs.same S7, by omega, ok.lo, fun H8 hS8 => ?_⟩
    have S8 := S7.trans hS8
    -- refuse_apart(conditions)
    refine ⟨_, rfl, b, qs, cs, rfl, same_seqT S8 hb, hcs.same S8, by omega, ok.ap, fun H9 hS9 => ?_⟩
    unfold DueN at k
    rw [hn] at k
    exact k H9 (S8.trans hS9)
end
end Wm
namespace Wm
open PySem L2 StX
def barF (nm : Str) (t1 t2 : Addr) : List (Str × V) := putF "conditions" (.ref t2) (putF "variables" (.ref t1) (putF "name" (.str nm) []))
theorem ne1 : ¬ (("variables" : Str) = "conditions") := by decide +kernel
theorem ne2 : ¬ (("name" : Str) = "conditions") := by decide +kernel
theorem ne3 : ¬ (("name" : Str) = "variables") := by decide +kernel
theorem barF_name (nm : Str) (t1 t2 : Addr) : (barF nm t1 t2).lookup ("name" : Str) = some (.str nm) := by
  unfold barF
  rw [lookup_putF, if_neg ne2, lookup_putF, if_neg ne3, lookup_putF, if_pos rfl]
theorem barF_vars (nm : Str) (t1 t2 : Addr) : (barF nm t1 t2).lookup ("variables" : Str) = some (.ref t1) := by
  unfold barF
  rw [lookup_putF, if_neg ne1, lookup_putF, if_pos rfl]
theorem barF_cond (nm : Str) (t1 t2 : Addr) : (barF nm t1 t2).lookup ("conditions" : Str) = some (.ref t2) := by
  unfold barF
  rw [lookup_putF, if_pos rfl]
theorem putF_len (f : Str) (v : V) : ∀ fs : List (Str × V), (putF f v fs).length ≤ fs.length + 1
  | [] => Nat.le_refl _
  | (g, x) :: r => by
    unfold putF
    split
    · exact Nat.le_succ _
    · have := putF_len f v r
      simp only [List.length_cons]
      omega
/-- what the making of an object that may be refused by a text is to bring; H0: what stood ahead of it -/
def DueM (C : Addr) (zs : List Str) (H0 : Hp) (ok : Hp → Prop) (E : XK) : Prop := match zs.find? (fun z => !isNm z) with
  | none => ∀ H', Same H0 H' → ok H'
  | some z => ∀ d H', H0 d = none → Same H0 H' → H' d = some (.xd (ef1 "name" "noname" (.str z))) → E (.ref C) (some d) H'
theorem DueM.toN {C : Addr} {zs : List Str} {H0 H1 : Hp} {ok : Hp → Prop} {Q : VK} {E : XK} (h : DueM C zs H0 ok E) (hS : Same H0 H1) (r : zs.find? (fun z => !isNm z) = none → ∀ H', Same H1 H' → Q .non H') : DueN C zs H1 Q E := by
  unfold DueM at h
  unfold DueN
  cases e : zs.find? (fun z => !isNm z) with
  | none => exact r e
  | some z =>
    rw [e] at h
    exact fun d H' h0 h1 h2 => h d H' (hS.free h0) (hS.trans h1) h2
structure TxBar (K : PySem.W.Frag) (mg : Str → Option Value) (B fB : Addr) : Prop where
  cl : Cls K B
  nn : NoAttr K B "name"
  nv : NoAttr K B "variables"
  nc : NoAttr K B "conditions"
section
variable {P : Program} {w : World} {K : PySem.W.Frag} {mg : Str → Option Value} {base : Heap}
end
end Wm
namespace Wm
open PySem L2
/-- str(o), o an instance of the class at C, whose __str__ is the def at f -/
def rStrO (C : Addr) (sp : Sp) : List V → Hp → VK → Prop := fun xs H Q => ∃ (a dx : Addr) (fs : List (Str × V)), xs = [.ref a] ∧ H a = some (.ins C dx fs) ∧ sp [.ref a] H (fun v H' => ∃ z : Str, v = .str z ∧ Q (.str z) H') E0
theorem call_strO {X : Cx} {C f : Addr} {fd : FuncData} {k : Nat} {sp : Sp} (hs : PySem.W.findIn X.K (.ref C) "__str__" = some (some (.ref f))) (hf : PySem.W.isFn X.K (.ref f) = true) (F : FnOk X.prog X.w X.K X.mg X.base CX0 k f fd ["self"] sp) (hr : Room (k + 2) X.A) (hb : Binds X.K fd ["self"] []) :
    CallR X (.type "str") (rStrO C sp) := by
  intro pins s σ H xs us Q I r h
  obtain ⟨a, dx, fs, rfl, ha, h⟩ := h
  cases r with
  | cons rx rr =>
    cases rr
    cases rx
    obtain ⟨mA, ob, _⟩ := ins_get I.hok ha
    obtain ⟨od, J, _⟩ := ob.look
    have hr1 : Room (k + 1) X.A.in1 := hr.in1
    have hr2 : Room k X.A.in1.in1 := hr1.in1
    refine PySem.W.kso_call hr2.units0 I.kIn J hs hf ?_
    have hl : ([Value.ref a] ++ []).length = (["self"] : List Str).length := rfl
    have rv : Vals [V.ref a] [Value.ref a] := .cons rfl .nil
    refine wpAny_call (codeAny_mono (F.run X.A.in1.in1 X.stack s H ⟨[Value.ref a], []⟩ [Value.ref a] [V.ref a] _ E0 hr2 I.env0.in1.in1 (hb s [Value.ref a] I.kIn hl) rv h) fun r s' hq => ?_)
    cases r with
    | error e => exact hq.elim
    | ok fl =>
      cases fl with
      | ret u =>
        obtain ⟨v, H', J', ru, z, rfl, q⟩ := I.after (Q := fun v H' => ∃ z : Str, v = .str z ∧ Q (.str z) H') hq
        obtain ⟨t, rfl⟩ := ru
        exact ⟨.str z, H', J', ⟨t, rfl⟩, q⟩
      | next => exact False.elim hq
      | brk => exact False.elim hq
      | cont => exact False.elim hq
end Wm
namespace Wm
open PySem L2 PySem.W
/-- a == b, a an instance of the class at C, whose __eq__ is the def at f -/
def rEqO (K : Frag) (C : Addr) (sp : Sp) : V → V → Hp → VK → Prop := fun x y H Q => ∃ (a b D dx dy : Addr) (fs gs : List (Str × V)), x = .ref a ∧ y = .ref b ∧ H a = some (.ins C dx fs) ∧ H b = some (.ins D dy gs) ∧ notFirst K C (.ref D) = true ∧
  sp [.ref a, .ref b] H (fun v H' => ∃ t : Bool, v = .bl t ∧ Q (.bl t) H') E0
theorem op_eqO {X : Cx} {C f : Addr} {fd : FuncData} {k : Nat} {sp : Sp} {ps : List Str} (hs : findIn X.K (.ref C) "__eq__" = some (some (.ref f))) (hf : isFn X.K (.ref f) = true) (F : FnOk X.prog X.w X.K X.mg X.base CX0 k f fd ps sp) (hr : Room k X.A) (hb : L2.Binds X.K fd ps []) :
    OpR X (compareOp .Eq) (rEqO X.K C sp) := by
  intro pins s σ H x y v u Q I rx ry h
  obtain ⟨a, b, D, dx, dy, fs, gs, rfl, rfl, ha, hb', nf, h⟩ := h
  cases rx
  cases ry
  obtain ⟨mA, oa, _⟩ := ins_get I.hok ha
  obtain ⟨mB, ob, _⟩ := ins_get I.hok hb'
  obtain ⟨od, J, _⟩ := oa.look
  obtain ⟨od', J', _⟩ := ob.look
  obtain ⟨m, hF⟩ := I.fr
  show wpAny _ _ (richCompare .Eq (.ref a) (.ref b)) _ _ _
  refine cmp_K hr.units0 hF I.ok.mod.kin J (InstAt.type J') nf hs hf ?_
  have rv : Vals [V.ref a, V.ref b] [Value.ref a, Value.ref b] := .cons rfl (.cons rfl .nil)
  have hl : ([Value.ref a, Value.ref b] ++ []).length = ps.length := F.len _ _ _ _ h
  have bd := hb s [Value.ref a, Value.ref b] I.kIn hl
  rw [List.append_nil] at bd
  refine wpAny_call (codeAny_mono (F.run X.A X.stack s H ⟨[Value.ref a, Value.ref b], []⟩ [Value.ref a, Value.ref b] [V.ref a, V.ref b] _ E0 hr I.env0 bd rv h) fun r s' hq => ?_)
  cases r with
  | error e => exact hq.elim
  | ok fl =>
    cases fl with
    | next => exact hq.elim
    | brk => exact hq.elim
    | cont => exact hq.elim
    | ret u =>
      obtain ⟨v, H', I2, rv, t, rfl, q⟩ := I.after hq
      cases rv
      exact ⟨.bl t, H', I2, rfl, q⟩
/-- the class at C has its own __eq__, at f, and no __ne__ -/
structure EqNe (K : Frag) (C f : Addr) : Prop where
  ex : ∃ nm q N bs hdct sn sub ab col dd k0 k1 k2 k3 k5 newId oc od es ep osl of, K.lookup C = some (excClassObj nm q C N bs [.type "object"] hdct sn sub ab col dd k0 k1 k2 k3 k5 newId) ∧
    K.lookup N = some ⟨oc, od, .dict es ep, osl⟩ ∧ StrKeys es ∧ nsFind es "__eq__" = some (.ref f) ∧ nsFind es "__ne__" = none ∧ K.lookup f = some of ∧ of.cls = .type "function"
theorem EqNe.at {K : Frag} {C f x dx : Addr} (e : EqNe K C f) {h : Heap} (X : K.In h) (hx : h.get? x = some (instObj C dx)) : h.OwnEqNoNe x C f "object" [.type "object"] := by
  obtain ⟨nm, q, N, bs, hdct, sn, sub, ab, col, dd, k0, k1, k2, k3, k5, newId, oc, od, es, ep, osl, of, h1, h2, h3, h4, h5, h6, h7⟩ := e.ex
  exact ⟨_, of, nm, q, N, bs, hdct, sn, sub, ab, col, dd, k0, k1, k2, k3, k5, newId, nsFind es, _, hx, rfl, X C _ h1, ⟨_, es, ep, X N _ h2, rfl, h3, fun _ => rfl⟩, h4, X f _ h6, h7, PySem.F.cmp_object.mro, PySem.F.cmp_object.eq.lookup, h5⟩
def rNeO (C : Addr) (sp : Sp) : V → V → Hp → VK → Prop := fun x y H Q => ∃ (a b dx dy : Addr) (fs gs : List (Str × V)), x = .ref a ∧ y = .ref b ∧ H a = some (.ins C dx fs) ∧ H b = some (.ins C dy gs) ∧
  sp [.ref a, .ref b] H (fun v H' => ∃ t : Bool, v = .bl t ∧ Q (.bl !t) H') E0
theorem op_neO {X : Cx} {C f : Addr} {fd : FuncData} {k : Nat} {sp : Sp} {ps : List Str} (hs : EqNe X.K C f) (F : FnOk X.prog X.w X.K X.mg X.base CX0 k f fd ps sp) (hr : Room (k + 1) X.A) (hb : L2.Binds X.K fd ps []) :
    OpR X (compareOp .NotEq) (rNeO C sp) := by
  intro pins s σ H x y v u Q I rx ry h
  obtain ⟨a, b, dx, dy, fs, gs, rfl, rfl, ha, hb', h⟩ := h
  cases rx
  cases ry
  have oa := (I.hok a _ ha).2.2.2.1
  have ob := (I.hok b _ hb').2.2.2.1
  have hr1 : Room k X.A.in1 := hr.in1
  refine compareOp_ne_ownEq PySem.F.cmp_object (hs.at I.kIn oa) ob rfl ?_ ?_
  · exact hr1.units0
  have rv : Vals [V.ref a, V.ref b] [Value.ref a, Value.ref b] := .cons rfl (.cons rfl .nil)
  have hl : ([Value.ref a, Value.ref b] ++ []).length = ps.length := F.len _ _ _ _ h
  have bd := hb s [Value.ref a, Value.ref b] I.kIn hl
  rw [List.append_nil] at bd
  refine wpAny_call (codeAny_mono (F.run X.A.in1 X.stack s H ⟨[Value.ref a, Value.ref b], []⟩ [Value.ref a, Value.ref b] [V.ref a, V.ref b] _ E0 hr1 I.env0.in1 bd rv h) fun r s' hq => ?_)
  cases r with
  | error e => exact hq.elim
  | ok fl =>
    cases fl with
    | next => exact hq.elim
    | brk => exact hq.elim
    | cont => exact hq.elim
    | ret u =>
      obtain ⟨v, H', I2, rv, t, rfl, q⟩ := I.after (Q := fun v H' => ∃ t : Bool, v = .bl t ∧ Q (.bl !t) H') hq
      cases rv
      exact ⟨t, rfl, .bl !t, H', I2, rfl, q⟩
end Wm
namespace Wm
open PySem L2 StX
def rulF (nm : Str) (t1 t2 t3 : Addr) (by_ : Str) : List (Str × V) := putF "by" (.str by_) (putF "gives" (.ref t3) (barF nm t1 t2))
theorem nr1 : ¬ (("gives" : Str) = "by") := by decide +kernel
theorem nr2 : ¬ (("name" : Str) = "by") := by decide +kernel
theorem nr3 : ¬ (("name" : Str) = "gives") := by decide +kernel
theorem nr4 : ¬ (("variables" : Str) = "by") := by decide +kernel
theorem nr5 : ¬ (("variables" : Str) = "gives") := by decide +kernel
theorem nr6 : ¬ (("conditions" : Str) = "by") := by decide +kernel
theorem nr7 : ¬ (("conditions" : Str) = "gives") := by decide +kernel
theorem rulF_name (nm : Str) (t1 t2 t3 : Addr) (b : Str) : (rulF nm t1 t2 t3 b).lookup ("name" : Str) = some (.str nm) := by
  unfold rulF
  rw [lookup_putF, if_neg nr2, lookup_putF, if_neg nr3]
  exact barF_name _ _ _
theorem rulF_vars (nm : Str) (t1 t2 t3 : Addr) (b : Str) : (rulF nm t1 t2 t3 b).lookup ("variables" : Str) = some (.ref t1) := by
  unfold rulF
  rw [lookup_putF, if_neg nr4, lookup_putF, if_neg nr5]
  exact barF_vars _ _ _
theorem rulF_cond (nm : Str) (t1 t2 t3 : Addr) (b : Str) : (rulF nm t1 t2 t3 b).lookup ("conditions" : Str) = some (.ref t2) := by
  unfold rulF
  rw [lookup_putF, if_neg nr6, lookup_putF, if_neg nr7]
  exact barF_cond _ _ _
theorem rulF_gives (nm : Str) (t1 t2 t3 : Addr) (b : Str) : (rulF nm t1 t2 t3 b).lookup ("gives" : Str) = some (.ref t3) := by
  unfold rulF
  rw [lookup_putF, if_neg nr1, lookup_putF, if_pos rfl]
theorem rulF_by (nm : Str) (t1 t2 t3 : Addr) (b : Str) : (rulF nm t1 t2 t3 b).lookup ("by" : Str) = some (.str b) := by
  unfold rulF
  rw [lookup_putF, if_pos rfl]
theorem barF_len (nm : Str) (t1 t2 : Addr) : (barF nm t1 t2).length ≤ 3 := Nat.le_trans (putF_len _ _ _) (Nat.succ_le_succ (Nat.le_trans (putF_len _ _ _) (Nat.succ_le_succ (putF_len _ _ _))))
structure TxRul (K : PySem.W.Frag) (mg : Str → Option Value) (B fB : Addr) : Prop where
  cl : Cls K B
  nn : NoAttr K B "name"
  nv : NoAttr K B "variables"
  nc : NoAttr K B "conditions"
  ng : NoAttr K B "gives"
  nb : NoAttr K B "by"
  g : mg "Rule" = some (.ref B)
  m : Mk K B fB
def spRul (K : PySem.W.Frag) (C B : Addr) : Sp := fun vs H Q E => ∃ (H0 : Hp) (x dx l1 l2 g : Addr) (nm b : Str) (ps qs : List Addr) (vars : List Var) (cs : List Tri) (gt : Tri), vs = [.ref x, .str nm, .ref l1, .ref l2, .ref g, .str b] ∧ Same H0 H ∧ H0 x = none ∧ H x = some (.ins B dx []) ∧
  SqL K H0 l1 (ps.map V.ref) ∧ RowsAt K H0 ps (vars.map varV) ∧ SqL K H0 l2 (qs.map V.ref) ∧ RowsAt K H0 qs (cs.map triV) ∧ H0 g = some (.tup (triV gt)) ∧ PatOk vars cs [gt] [b] ∧ (∀ z ∈ textsL nm vars (cs ++ [gt]), z.length ≤ 1000) ∧
  DueM C (textsL nm vars (cs ++ [gt])) H0 (fun H' => ∀ t1 t2, H' x = some (.ins B dx (rulF nm t1 t2 g b)) → H' t1 = some (.tup (ps.map V.ref)) → H' t2 = some (.tup (qs.map V.ref)) → Q .non H') E
section
variable {P : Program} {w : World} {K : PySem.W.Frag} {mg : Str → Option Value} {base : Heap}
theorem scRul : FnScope ["self", "name", "variables", "conditions", "gives", "by"] ["self", "name", "variables", "conditions", "gives", "by"] (defScope sRul) := ⟨rfl, rfl, rfl, by decide +kernel, rfl, by decide +kernel, by decide +kernel⟩
theorem ok_rul {f fTT fCP C B : Addr} {fd dTT dCP : FuncData} (F : Fun K "__init__" "Rule.__init__" sRul f fd) (T : TxB mg) (TB : TxRul K mg B f) (TT : Dn K mg "tuple_of_tuples" sTT ["rows"] fTT dTT)
    (CP : Dn K mg "check_pattern" sCP ["name", "variables", "conditions", "given", "hands"] fCP dCP) (GCP : FnOk P w K mg base (L2.CX P w) 5 fCP dCP ["name", "variables", "conditions", "given", "hands"] (spCP K C)) :
    FnOk P w K mg base (L2.CX P w) 6 f fd ["self", "name", "variables", "conditions", "gives", "by"] (spRul K C B) := by
  have GTT : FnOk P w K mg base CX0 1 fTT dTT _ (spTT K) := ok_tt TT.F T
  refine F.okX scRul (fun vs H Q E h => ?_) (fun cdv A outer s H vs Q E hr h => ?_)
  · obtain ⟨H0, x, dx, l1, l2, g, nm, b, ps, qs, vars, cs, gt, rfl, _⟩ := h
    rfl
  · obtain ⟨H0, x, dx, l1, l2, g, nm, b, ps, qs, vars, cs, gt, rfl, S0, x0, hx, h1, hv, h2, hc, hg, ok, hz, k⟩ := h
    have hr1 : Room 1 _ := hr.mono (by decide)
    have b1 := hv.len
    have b2 := hc.len
    rw [List.length_map] at b1 b2
    have o1 := ok.v4
    have o2 := ok.c3
    have ngx : g ≠ x := ne_of_none hg x0
    refine ⟨_, (pss_cons (ps_fld (pv 0) (pv 1) rfl)
      (pss_cons (ps_fld (pv 0) (pe_call GTT hr1 rfl TT.g TT.F.kp TT.b .nil pass0 (pa_cons (pv 2) pa_nil)) rfl)
      (pss_cons (ps_fld (pv 0) (pe_call GTT hr1 rfl TT.g TT.F.kp TT.b .nil pass0 (pa_cons (pv 3) pa_nil)) rfl)
      (pss_cons (ps_fld (pv 0) (pe_callTy call_tupN (by rfl) T.tuple (by decide +kernel) (pa_cons (pv 4) pa_nil)) rfl)
      (pss_cons (ps_fld (pv 0) (pv 5) rfl)
      (pss_one (ps_expr (pe_call GCP hr rfl CP.g CP.F.kp CP.b .nil (passes_call (takes_of rfl rfl rfl rfl) (fun _ _ _ _ h => h)) (pa_cons (pv 1) (pa_cons (pe_fld (pv 0) rfl) (pa_cons (pe_fld (pv 0) rfl) (pa_cons (pe_lst (pa_cons (pe_fld (pv 0) rfl) pa_nil)) (pa_cons (pe_lst (pa_cons (pv 5) pa_nil)) pa_nil))))))))))))), ?_⟩
    have Sx : ∀ {H1 : Hp} {o : HO}, Same H0 H1 → Same H0 (upd H1 x o) := fun hs b o e => by
      rw [upd_ne (ne_of_none e x0)]
      exact hs b o e
    refine ⟨_, rfl, _, rfl, x, B, dx, [], rfl, hx, TB.cl, TB.nn, (by show 0 < 1000; decide), ?_⟩
    have S1 := Sx (o := .ins B dx (putF "name" (.str nm) [])) S0
    refine ⟨_, rfl, l1, ps, _, rfl, S1.seq h1, hv.same S1, by omega, fun t1 H2 ht1 hS2 hl1 => ?_⟩
    have S2 := S1.trans hS2
    have hx2 := hS2 _ _ (upd_same (H := H) (a := x) (o := .ins B dx (putF "name" (.str nm) [])))
    have n1x : t1 ≠ x := fun z => by
      rw [z, upd_same] at ht1
      cases ht1
    refine ⟨_, rfl, x, B, dx, _, rfl, hx2, TB.cl, TB.nv, Nat.lt_of_le_of_lt (putF_len _ _ _) (by decide), ?_⟩
    have S3 := Sx (o := .ins B dx (putF "variables" (.ref t1) (putF "name" (.str nm) []))) S2
    refine ⟨_, rfl, l2, qs, _, rfl, S3.seq h2, hc.same S3, by omega, fun t2 H4 ht2 hS4 hl2 => ?_⟩
    have S4 := S3.trans hS4
    have hx4 := hS4 _ _ (upd_same (H := H2) (a := x) (o := .ins B dx (putF "variables" (.ref t1) (putF "name" (.str nm) []))))
    have hl1' := hS4 t1 _ (by rw [upd_ne n1x]; exact hl1)
    have n2x : t2 ≠ x := fun z => by
      rw [z, upd_same] at ht2
      cases ht2
    refine ⟨_, rfl, x, B, dx, _, rfl, hx4, TB.cl, TB.nc, Nat.lt_of_le_of_lt (putF_len _ _ _) (Nat.lt_of_le_of_lt (Nat.succ_le_succ (putF_len _ _ _)) (by decide)), ?_⟩
    have S5 := Sx (o := .ins B dx (barF nm t1 t2)) S4
    -- self.gives = tuple(gives); self.by = by
    refine ⟨_, rfl, g, _, rfl, .inr ⟨SqT.of (S5 _ _ hg), ?_⟩⟩
    refine ⟨_, rfl, x, B, dx, _, rfl, upd_same, TB.cl, TB.ng, Nat.lt_of_le_of_lt (barF_len nm t1 t2) (by decide), ?_⟩
    refine ⟨_, rfl, _, rfl, x, B, dx, _, rfl, upd_same, TB.cl, TB.nb, Nat.lt_of_le_of_lt (Nat.le_trans (putF_len _ _ _) (Nat.succ_le_succ (barF_len nm t1 t2))) (by decide), ?_⟩
    rw [upd_upd, upd_upd]
    show _
    generalize hH6 : upd H4 x (.ins B dx (putF "by" (.str b) (putF "gives" (.ref g) (putF "conditions" (.ref t2) (putF "variables" (.ref t1) (putF "name" (.str nm) [])))))) = H6
    have S6 : Same H0 H6 := by
      rw [← hH6]
      exact Sx S4
    have hx6 : H6 x = some (.ins B dx (rulF nm t1 t2 g b)) := by rw [← hH6, upd_same]; rfl
    have h16 : H6 t1 = some (.tup (ps.map V.ref)) := by rw [← hH6, upd_ne n1x]; exact hl1'
    have h26 : H6 t2 = some (.tup (qs.map V.ref)) := by rw [← hH6, upd_ne n2x]; exact hl2
    -- check_pattern(name, self.variables, self.conditions, [self.gives], [by])
    refine ⟨_, rfl, _, rfl, x, B, dx, _, _, rfl, hx6, TB.cl, TB.nv, rulF_vars _ _ _ _ _, _, rfl, x, B, dx, _, _, rfl, hx6, TB.cl, TB.nc, rulF_cond _ _ _ _ _, _, rfl, x, B, dx, _, _, rfl, hx6, TB.cl, TB.ng, rulF_gives _ _ _ _ _, by show 1 ≤ sizeLine; decide, fun gl hgl => ⟨_, rfl, by show 1 ≤ sizeLine; decide, fun h hh => ?_⟩⟩
    have S7 : Same H6 (upd (upd H6 gl (.lst [.ref g])) h (.lst [.str b])) := (Same.upd hgl).trans (Same.upd hh)
    have S67 := S6.trans S7
    refine ⟨nm, t1, t2, gl, h, ps, qs, [g], vars, cs, [gt], [b], rfl, SqT.of (S7 _ _ h16), hv.same S67, SqT.of (S7 _ _ h26), hc.same S67, SqL.of (Same.upd hh _ _ upd_same), ⟨SqT.of (S67 _ _ hg), True.intro⟩, SqL.of upd_same, ok, hz, ?_⟩
    refine k.toN S67 fun hn H8 hS8 => ?_
    unfold DueM at k
    rw [hn] at k
    exact k H8 (S67.trans hS8) t1 t2 (hS8 _ _ (S7 _ _ hx6)) (hS8 _ _ (S7 _ _ h16)) (hS8 _ _ (S7 _ _ h26))
end
end Wm
/-! names as the laws draw them: texts of at most six signs -/
namespace Wm
open PySem L2
def lowC (c : Nat) : Prop := 97 ≤ c ∧ c ≤ 122
def figC (c : Nat) : Prop := 48 ≤ c ∧ c ≤ 57
/-- a text of small letters and figures, the first a letter -/
def NmP (z : Str) : Prop := ∃ c cs, z.cps.toList = c :: cs ∧ lowC c ∧ ∀ d ∈ cs, lowC d ∨ figC d
theorem toList_app (a b : Str) : (a ++ b).cps.toList = a.cps.toList ++ b.cps.toList := by
  show (a.cps ++ b.cps).toList = _
  simp
theorem NmP.app {a b : Str} (h : NmP a) (hb : ∀ d ∈ b.cps.toList, lowC d ∨ figC d) : NmP (a ++ b) := by
  obtain ⟨c, cs, e, l, r⟩ := h
  refine ⟨c, cs ++ b.cps.toList, by rw [toList_app, e]; rfl, l, fun d hd => ?_⟩
  rcases List.mem_append.mp hd with h | h
  · exact r d h
  · exact hb d h
theorem NmP.one {c : Nat} (h : lowC c) : NmP ⟨#[c]⟩ := ⟨c, [], rfl, h, fun _ z => nomatch z⟩
theorem NmP.ok {z : Str} (h : NmP z) : ∀ c ∈ z.cps.toList, c < 1114112 := by
  obtain ⟨c, cs, e, l, r⟩ := h
  intro d hd
  rw [e] at hd
  rcases List.mem_cons.mp hd with h | h
  · rw [h]
    exact Nat.lt_of_le_of_lt l.2 (by decide)
  · rcases r d h with q | q
    · exact Nat.lt_of_le_of_lt q.2 (by decide)
    · exact Nat.lt_of_le_of_lt q.2 (by decide)
def ABC36 : Str := PySem.Str.ofString "abcdefghijklmnopqrstuvwxyz0123456789"
theorem abc36_len : ABC36.length = 36 := by decide +kernel
theorem abc_low {i : Nat} {c : Nat} (hi : i < 26) (h : ABC36.cps.toList[i]? = some c) : lowC c := by
  have q : ∀ j : Fin 26, ∀ d ∈ ABC36.cps.toList[j.1]?, 97 ≤ d ∧ d ≤ 122 := by decide +kernel
  exact q ⟨i, hi⟩ c (by rw [h]; exact rfl)
theorem abc_any {i : Nat} {c : Nat} (h : ABC36.cps.toList[i]? = some c) : lowC c ∨ figC c := by
  have q : ∀ d ∈ ABC36.cps.toList, (97 ≤ d ∧ d ≤ 122) ∨ (48 ≤ d ∧ d ≤ 57) := by decide +kernel
  exact q c (List.mem_of_getElem? h)
/-- the text of a number -/
def numS (n : Nat) : Str := PySem.Str.ofString (toString (n : Int))
def numB (n : Nat) : Bool := (numS n).cps.toList.all (fun d => decide (48 ≤ d ∧ d ≤ 57)) && (decide ((numS n).length ≤ 2) && decide (1 ≤ (numS n).length))
theorem num_all : ∀ n : Fin 70, numB n.1 = true := by decide +kernel
theorem num_inj0 : ∀ n m : Fin 70, (numS n.1).cps.toList = (numS m.1).cps.toList → n = m := by decide +kernel
theorem num_sign {n : Nat} (h : n < 70) : (∀ d ∈ (numS n).cps.toList, lowC d ∨ figC d) ∧ (numS n).length ≤ 2 ∧ 1 ≤ (numS n).length := by
  obtain ⟨a, b⟩ := Bool.and_eq_true_iff.mp (num_all ⟨n, h⟩)
  obtain ⟨b, c⟩ := Bool.and_eq_true_iff.mp b
  refine ⟨fun d hd => .inr ?_, of_decide_eq_true b, of_decide_eq_true c⟩
  have q := List.all_eq_true.mp a d hd
  exact of_decide_eq_true (p := 48 ≤ d ∧ d ≤ 57) q
theorem num_inj {n m : Nat} (hn : n < 70) (hm : m < 70) (h : numS n = numS m) : n = m := congrArg Fin.val (num_inj0 ⟨n, hn⟩ ⟨m, hm⟩ (by rw [h]))
/-- the tries for a name: the word, then the word with 1, 2 .. -/
def tryS (z : Str) : Nat → Str
  | 0 => z
  | n + 1 => z ++ numS (n + 1)
theorem app_inj {a b c : Str} (h : a ++ b = a ++ c) : b = c := by
  have e := congrArg (fun z : Str => z.cps.toList) h
  simp only [toList_app] at e
  have q := List.append_cancel_left e
  cases b; cases c
  simp only at q
  congr
  exact Array.toList_inj.mp q
theorem try_inj {z : Str} {n m : Nat} (hn : n < 70) (hm : m < 70) (h : tryS z n = tryS z m) : n = m := by
  have key : ∀ k, k + 1 < 70 → z ≠ z ++ numS (k + 1) := fun k hk e => by
    have l := congrArg (fun z : Str => z.cps.toList.length) e
    simp only [toList_app, List.length_append] at l
    have q := (num_sign hk).2.2
    have q' : 1 ≤ (numS (k + 1)).cps.toList.length := by simpa [PySem.Str.length] using q
    omega
  cases n with
  | zero =>
    cases m with
    | zero => rfl
    | succ m => exact (key m hm h).elim
  | succ n =>
    cases m with
    | zero => exact (key n hn h.symm).elim
    | succ m => exact num_inj hn hm (app_inj h)
theorem holes {α : Type} [BEq α] [LawfulBEq α] {f : Nat → α} : ∀ {n : Nat} {l : List α}, (∀ i j, i < n → j < n → f i = f j → i = j) → (∀ i, i < n → f i ∈ l) → n ≤ l.length
  | 0, _, _, _ => Nat.zero_le _
  | n + 1, l, inj, h => by
    have hm := h n (Nat.lt_succ_self n)
    have q := holes (n := n) (l := l.erase (f n)) (fun i j hi hj => inj i j (by omega) (by omega)) (fun i hi => by
      refine (List.mem_erase_of_ne fun e => ?_).mpr (h i (by omega))
      have := inj i n (by omega) (by omega) e
      omega)
    rw [List.length_erase_of_mem hm] at q
    have := List.length_pos_of_mem hm
    omega
theorem try_end {z : Str} {taken : List Str} {n : Nat} (ht : taken.length ≤ 60) (h : ∀ i, i < n → tryS z i ∈ taken) (hn : n ≤ 61) : n ≤ taken.length :=
  holes (f := tryS z) (fun i j hi hj e => try_inj (by omega) (by omega) e) h
theorem inV_strs {z : Str} {ns : List Str} : inV (.str z) (ns.map V.str) = decide (z ∈ ns) := by
  unfold inV
  rw [List.any_map]
  induction ns with
  | nil => simp
  | cons a r ih =>
    rw [List.any_cons, ih]
    have e : eqV (.str a) (.str z) = decide (a = z) := by
      unfold eqV
      by_cases h : a = z
      · simp [h]
      · simp [h]
    show (eqV (.str a) (.str z) || _) = _
    rw [e]
    by_cases h : a = z
    · simp [h]
    · have h' : ¬ z = a := fun x => h x.symm
      simp [h, h']
end Wm
namespace Wm
open PySem L2
theorem StOk.upd {p d : Addr} {H : Hp} {o : HO} (n : d ≠ p) (h : StOk H p) : StOk (L2.upd H d o) p := by
  obtain ⟨a, b, c, e, r⟩ := h
  exact ⟨a, b, c, by rw [upd_ne n.symm]; exact e, r⟩
theorem StOk.same {p : Addr} {H H' : Hp} (e : Same H H') (h : StOk H p) : StOk H' p := by
  obtain ⟨a, b, c, q, r⟩ := h
  exact ⟨a, b, c, e _ _ q, r⟩
theorem st_free {p d : Addr} {H : Hp} (h : StOk H p) (n : H d = none) : d ≠ p := by
  obtain ⟨a, b, c, e, _⟩ := h
  exact fun z => by
    rw [z, e] at n
    cases n
theorem but_new {p d : Addr} {H H1 : Hp} {o : HO} (b : But p H H1) (n : d ≠ p) (h0 : H d = none) : But p H (L2.upd H1 d o) := fun q u nq e => by
  rw [upd_ne (ne_of_none e h0)]
  exact b q u nq e
theorem flats (ns : List Str) : (ns.map V.str).all flatV = true := by
  induction ns with
  | nil => rfl
  | cons a r ih => rw [List.map_cons, List.all_cons, ih]; rfl
def spNam : Sp := fun vs H Q _ => ∃ (p ln : Addr) (taken : List Str), vs = [.ref p, .ref ln] ∧ StOk H p ∧ ln ≠ p ∧ H ln = some (.lst (taken.map V.str)) ∧ taken.length ≤ 60 ∧
  ∀ (z : Str) H', NmP z → z.length ≤ 6 → z ∉ taken → But p H H' → StOk H' p → Q (.str z) H'
def spNms : Sp := fun vs H Q _ => ∃ (p : Addr) (n : Int), vs = [.ref p, .int n] ∧ StOk H p ∧ 0 ≤ n ∧ n ≤ 60 ∧
  ∀ (zs : List Str) d H', H d = none → d ≠ p → But p H H' → StOk H' p → H' d = some (.lst (zs.map V.str)) → zs.length = n.toNat → zs.Nodup → (∀ z ∈ zs, NmP z ∧ z.length ≤ 6) → Q (.ref d) H'
/-- how many tries are left -/
def mu7 (σ : L2.St) : Nat := match (σ[7]? : Option (Option V)) with
  | some (some (V.int n)) => 100 - n.toNat
  | _ => 0
theorem log_small {n : Nat} (h : n ≤ 100) : ((n : Int) + 1).natAbs.log2 < 1920 := by
  have e : ((n : Int) + 1).natAbs = n + 1 := by omega
  rw [e]
  have q : (n + 1).log2 ≤ n + 1 := Nat.log2_le_self _
  omega
theorem try_nm {z : Str} (h : NmP z) (hl : z.length ≤ 4) {n : Nat} (hn : n ≤ 60) : NmP (tryS z n) ∧ (tryS z n).length ≤ 6 := by
  cases n with
  | zero => exact ⟨h, by show z.length ≤ 6; omega⟩
  | succ n =>
    have q := num_sign (n := n + 1) (by omega)
    refine ⟨h.app q.1, ?_⟩
    show (z ++ numS (n + 1)).length ≤ 6
    rw [len_app]
    omega
section
variable {P : Program} {w : World} {K : PySem.W.Frag} {mg : Str → Option Value} {base : Heap}
theorem scNam : FnScope ["_law_s", "_law_taken", "_law_some", "_law_kind", "_law_word", "_law_k", "_law_found", "_law_n"] ["_law_s", "_law_taken"] (defScope sNam) := ⟨rfl, rfl, rfl, by decide +kernel, rfl, by decide +kernel, by decide +kernel⟩
theorem ok_nam {f fg : Addr} {fd fdg : FuncData} (F : Fun K "_law_name" "_law_name" sNam f fd) (T : TxB mg) (tstr : mg "str" = none) (D : Dn K mg "_law_digit" sDigit ["_law_state_here", "_law_base"] fg fdg) : FnOk P w K mg base CX0 2 f fd ["_law_s", "_law_taken"] spNam := by
  have G : FnOk P w K mg base CX0 1 fg fdg ["_law_state_here", "_law_base"] spDigit := ok_digit D.F
  refine F.ok scNam (fun vs H Q E h => ?_) (fun cdv A outer s H vs Q E hr h => ?_)
  · obtain ⟨p, ln, tk, rfl, _⟩ := h
    rfl
  · obtain ⟨p, ln, taken, rfl, hS, nlp, hT, hl, k⟩ := h
    refine ⟨_, (pss_cons (ps_set (i := 2) scNam.nd rfl (Or.inl rfl) pe_str)
      (pss_cons (ps_set (i := 3) scNam.nd rfl (Or.inl rfl) (pe_call G hr rfl D.g D.F.kp D.b .nil pass0 (pa_cons (pv 0) (pa_cons pe_int pa_nil))))
      (pss_cons (ps_set (i := 4) scNam.nd rfl (Or.inl rfl) (pe_ix ix_str (pv 2) (pe_call G hr rfl D.g D.F.kp D.b .nil pass0 (pa_cons (pv 0) (pa_cons pe_int pa_nil))) (fun _ _ => rfl)))
      (pss_cons (ps_for PassesOwn.never rfl (pi_range1 rfl T.range (pa_cons (pe_call G hr rfl D.g D.F.kp D.b .nil pass0 (pa_cons (pv 0) (pa_cons pe_int pa_nil))) pa_nil)) (pg_name (i := 5) scNam.nd rfl (Or.inl rfl)) (pss_one (ps_set (i := 4) scNam.nd rfl (Or.inl rfl) (pe_op op_add_str (pv 4) (pe_ix ix_str (pv 2) (pe_call G hr rfl D.g D.F.kp D.b .nil pass0 (pa_cons (pv 0) (pa_cons pe_int pa_nil))) (fun _ _ => rfl))))))
      (pss_cons (ps_if (pt_cmpR op_eq (pv 3) pe_int (nomark _)) (pss_one (ps_set (i := 4) scNam.nd rfl (Or.inl rfl) (pe_ix ix_list (pe_lst (pa_cons pe_str (pa_cons pe_str (pa_cons pe_str (pa_cons pe_str pa_nil))))) (pe_call G hr rfl D.g D.F.kp D.b .nil pass0 (pa_cons (pv 0) (pa_cons pe_int pa_nil))) (fun _ _ => rfl)))) pss_nil)
      (pss_cons (ps_set (i := 6) scNam.nd rfl (Or.inl rfl) (pv 4))
      (pss_cons (ps_set (i := 7) scNam.nd rfl (Or.inl rfl) pe_int)
      (pss_cons (ps_while PassesOwn.never (pt_cmpR op_in_seq (pv 6) (pv 1) (by rfl)) (pss_cons (ps_set (i := 7) scNam.nd rfl (Or.inl rfl) (pe_op op_add (pv 7) pe_int))
      (pss_one (ps_set (i := 6) scNam.nd rfl (Or.inl rfl) (pe_op op_add_str (pv 4) (pe_callTy call_str_int (by rfl) tstr (by decide +kernel) (pa_cons (pv 7) pa_nil)))))))
      (pss_one (ps_ret (pv 6))))))))))), ?_⟩
    refine ⟨_, rfl, p, _, rfl, hS, by decide, by decide, fun d1 H1 a1 b1 B1 S1 => ?_⟩
    refine ⟨_, rfl, _, rfl, p, _, rfl, S1, by decide, by decide, fun d2 H2 a2 b2 B2 S2 => ?_⟩
    refine rdItem abc36_len a2 (by omega) (by decide) fun c hc => ?_
    have hc' : lowC c := abc_low (by omega) hc
    refine ⟨_, rfl, p, _, rfl, S2, by decide, by decide, fun d3 H3 a3 b3 B3 S3 => ?_⟩
    refine ⟨d3, rfl, by omega, by omega, ?_⟩
    refine for_range (n := d3.toNat) (fun i σ H' => ∃ (z : Str) (v : Option V), σ = [some (.ref p), some (.ref ln), some (.str ABC36), some (.int d1), some (.str z), v, none, none] ∧ z.length ≤ i + 1 ∧ NmP z ∧ But p H H' ∧ StOk H' p)
      ⟨⟨#[c]⟩, none, rfl, Nat.le_refl _, NmP.one hc', (B1.trans B2).trans B3, S3⟩ ?_ ?_
    · rintro i σ H' hi ⟨z, v, rfl, hz, hp, B, S⟩
      refine ⟨_, rfl, _, rfl, _, rfl, p, _, rfl, S, by decide, by decide, fun d5 H5 a5 b5 B5 S5 => ?_⟩
      refine rdItem abc36_len a5 (by omega) (by decide) fun c hc => ?_
      refine ⟨_, _, rfl, rfl, ?_, ?_⟩
      · rw [len_one]
        exact Nat.le_trans (show z.length + 1 ≤ 100 by omega) (by decide)
      · refine ⟨_, _, rfl, ?_, hp.app (fun d hd => ?_), B.trans B5, S5⟩
        · rw [len_app, len_one]
          omega
        · have e : d = c := by simpa using hd
          rw [e]
          exact abc_any hc
    · rintro σ H4 ⟨z, v, rfl, hz, hp, B, S⟩
      refine ⟨_, rfl, rfl, _, rfl, ?_⟩
      refine ite2 (fun _ => ?_) (fun _ => ?_)
      · refine ⟨by show 4 ≤ sizeLine; decide, fun l nl => ?_⟩
        have nlq := st_free S nl
        refine ⟨_, rfl, p, _, rfl, S.upd nlq, by decide, by decide, fun d6 H6 a6 b6 B6 S6 => ?_⟩
        have hq : ∀ z ∈ (["m1", "m2", "m3", "m10"] : List Str), (∃ c cs, z.cps.toList = c :: cs ∧ (97 ≤ c ∧ c ≤ 122) ∧ ∀ d ∈ cs, (97 ≤ d ∧ d ≤ 122) ∨ (48 ≤ d ∧ d ≤ 57)) ∧ z.length ≤ 4 := by
          intro z hz
          rcases List.mem_cons.mp hz with e | hz
          · rw [e]; exact ⟨⟨109, [49], by decide +kernel, by decide, by decide⟩, by decide +kernel⟩
          rcases List.mem_cons.mp hz with e | hz
          · rw [e]; exact ⟨⟨109, [50], by decide +kernel, by decide, by decide⟩, by decide +kernel⟩
          rcases List.mem_cons.mp hz with e | hz
          · rw [e]; exact ⟨⟨109, [51], by decide +kernel, by decide, by decide⟩, by decide +kernel⟩
          rcases List.mem_cons.mp hz with e | hz
          · rw [e]; exact ⟨⟨109, [49, 48], by decide +kernel, by decide, by decide⟩, by decide +kernel⟩
          cases hz
        have hj : d6.toNat < (["m1", "m2", "m3", "m10"] : List Str).length := by show _ < 4; omega
        refine rdList (B6 l _ nlq upd_same) (j := d6.toNat) (v := .str ((["m1", "m2", "m3", "m10"] : List Str)[d6.toNat])) (by omega) ?_ ?_
        · have e : ((["m1", "m2", "m3", "m10"] : List Str).map V.str)[d6.toNat]? = some (.str ((["m1", "m2", "m3", "m10"] : List Str)[d6.toNat])) := by
            rw [List.getElem?_map, List.getElem?_eq_getElem hj]
            rfl
          exact e
        · have hh := hq _ (List.getElem_mem hj)
          generalize (["m1", "m2", "m3", "m10"] : List Str)[d6.toNat] = zz at hh
          have hzz : NmP zz := hh.1
          have hzl : zz.length ≤ 4 := hh.2
          have BB : But p H H6 := (but_new B nlq ((B.free nlq nl))).trans B6
          have SS : StOk H6 p := S6
          clear hh hq hj B6 S6 B S hz hp nl
          revert zz
          intro zz hzz hzl
          refine ⟨_, rfl, ?_⟩
          have hTT : H6 ln = some (.lst (taken.map V.str)) := BB ln _ nlp hT
          refine while_by (fun σ H' => H' = H6 ∧ ∃ n : Nat, σ = [some (.ref p), some (.ref ln), some (.str ABC36), some (.int d1), some (.str zz), v, some (.str (tryS zz n)), some (.int (n : Int))] ∧ n ≤ 60 ∧ ∀ i, i < n → tryS zz i ∈ taken) (fun σ _ => mu7 σ)
            ⟨rfl, 0, rfl, Nat.zero_le _, fun i hi => absurd hi (Nat.not_lt_zero i)⟩ ?_ ?_
          · rintro σ H' ⟨rfl, n, rfl, hn, hall⟩
            refine ⟨_, rfl, _, rfl, ln, _, rfl, .inl (SqL.of hTT), rfl, flats taken, _, rfl, ?_⟩
            show if inV (.str (tryS zz n)) (taken.map V.str) = true then _ else _
            rw [inV_strs]
            by_cases hm : tryS zz n ∈ taken
            · rw [decide_eq_true hm]
              refine iteT ?_
              have hall' : ∀ i, i < n + 1 → tryS zz i ∈ taken := fun i hi => by
                by_cases e : i = n
                · rw [e]
                  exact hm
                · exact hall i (by omega)
              have hle := try_end hl hall' (by omega)
              refine ⟨_, rfl, _, _, rfl, rfl, ?_⟩
              refine ⟨_, rfl, _, rfl, _, rfl, log_small (by omega), _, _, rfl, rfl, ?_, ?_⟩
              · have q := num_sign (n := n + 1) (by omega)
                exact Nat.le_trans (show zz.length + (numS (n + 1)).length ≤ 100 by omega) (by decide)
              · refine ⟨⟨rfl, n + 1, rfl, by omega, hall'⟩, ?_⟩
                show 100 - ((n : Int) + 1).toNat < 100 - (n : Int).toNat
                omega
            · rw [decide_eq_false hm]
              refine iteF ?_
              exact ⟨_, rfl, k _ _ (try_nm hzz hzl hn).1 (try_nm hzz hzl hn).2 hm BB SS⟩
          · intro σ H' Q1 Q2 f h
            obtain ⟨x, e1, y, e2, p', xs, e3, a, b, c, bb, e4, q⟩ := h
            exact ⟨x, e1, y, e2, p', xs, e3, a, b, c, bb, e4, f _ _ q⟩
      · have hzz : NmP z := hp
        have hzl : z.length ≤ 4 := by omega
        have BB : But p H H4 := B
        have SS : StOk H4 p := S
        refine ⟨_, rfl, ?_⟩
        have hTT : H4 ln = some (.lst (taken.map V.str)) := BB ln _ nlp hT
        refine while_by (fun σ H' => H' = H4 ∧ ∃ n : Nat, σ = [some (.ref p), some (.ref ln), some (.str ABC36), some (.int d1), some (.str z), v, some (.str (tryS z n)), some (.int (n : Int))] ∧ n ≤ 60 ∧ ∀ i, i < n → tryS z i ∈ taken) (fun σ _ => mu7 σ)
          ⟨rfl, 0, rfl, Nat.zero_le _, fun i hi => absurd hi (Nat.not_lt_zero i)⟩ ?_ ?_
        · rintro σ H' ⟨rfl, n, rfl, hn, hall⟩
          refine ⟨_, rfl, _, rfl, ln, _, rfl, .inl (SqL.of hTT), rfl, flats taken, _, rfl, ?_⟩
          show if inV (.str (tryS z n)) (taken.map V.str) = true then _ else _
          rw [inV_strs]
          by_cases hm : tryS z n ∈ taken
          · rw [decide_eq_true hm]
            refine iteT ?_
            have hall' : ∀ i, i < n + 1 → tryS z i ∈ taken := fun i hi => by
              by_cases e : i = n
              · rw [e]
                exact hm
              · exact hall i (by omega)
            have hle := try_end hl hall' (by omega)
            refine ⟨_, rfl, _, _, rfl, rfl, ?_⟩
            refine ⟨_, rfl, _, rfl, _, rfl, log_small (by omega), _, _, rfl, rfl, ?_, ?_⟩
            · have q := num_sign (n := n + 1) (by omega)
              exact Nat.le_trans (show z.length + (numS (n + 1)).length ≤ 100 by omega) (by decide)
            · refine ⟨⟨rfl, n + 1, rfl, by omega, hall'⟩, ?_⟩
              show 100 - ((n : Int) + 1).toNat < 100 - (n : Int).toNat
              omega
          · rw [decide_eq_false hm]
            refine iteF ?_
            exact ⟨_, rfl, k _ _ (try_nm hzz hzl hn).1 (try_nm hzz hzl hn).2 hm BB SS⟩
        · intro σ H' Q1 Q2 f h
          obtain ⟨x, e1, y, e2, p', xs, e3, a, b, c, bb, e4, q⟩ := h
          exact ⟨x, e1, y, e2, p', xs, e3, a, b, c, bb, e4, f _ _ q⟩
theorem scNms : FnScope ["_law_s", "_law_many", "_law_found", "_law_k"] ["_law_s", "_law_many"] (defScope sNms) := ⟨rfl, rfl, rfl, by decide +kernel, rfl, by decide +kernel, by decide +kernel⟩
theorem ok_nms {f fL : Addr} {fd dL : FuncData} (F : Fun K "_law_names" "_law_names" sNms f fd) (T : TxB mg) (D : Dn K mg "_law_name" sNam ["_law_s", "_law_taken"] fL dL) (G : FnOk P w K mg base CX0 2 fL dL ["_law_s", "_law_taken"] spNam) : FnOk P w K mg base CX0 3 f fd ["_law_s", "_law_many"] spNms := by
  refine F.ok scNms (fun vs H Q E h => ?_) (fun cdv A outer s H vs Q E hr h => ?_)
  · obtain ⟨p, n, rfl, _⟩ := h
    rfl
  · obtain ⟨p, n, rfl, hS, n0, n6, k⟩ := h
    refine ⟨_, (pss_cons (ps_set (i := 2) scNms.nd rfl (Or.inl rfl) (pe_lst pa_nil))
      (pss_cons (ps_for PassesOwn.never rfl (pi_range1 rfl T.range (pa_cons (pv 1) pa_nil)) (pg_name (i := 3) scNms.nd rfl (Or.inl rfl)) (pss_one (ps_expr (pe_bm PySem.F.plainAttrs_list PySem.F.slot_list_append PySem.F.type_list_append mt_append (pv 2) (pa_cons (pe_call G hr rfl D.g D.F.kp D.b .nil pass0 (pa_cons (pv 0) (pa_cons (pv 2) pa_nil))) pa_nil)))))
      (pss_one (ps_ret (pv 2))))), ?_⟩
    refine ⟨Nat.zero_le _, fun d hd => ?_⟩
    have ndp := st_free hS hd
    refine ⟨_, rfl, n, rfl, by omega, by omega, ?_⟩
    refine for_range (n := n.toNat) (fun i σ H' => (∃ u, σ = [some (.ref p), some (.int n), some (.ref d), u]) ∧ ∃ zs : List Str, H' d = some (.lst (zs.map V.str)) ∧ zs.Nodup ∧ (∀ z ∈ zs, NmP z ∧ z.length ≤ 6) ∧ zs.length = i ∧ But p H H' ∧ StOk H' p)
      ⟨⟨none, rfl⟩, [], upd_same, List.nodup_nil, fun z hz => (List.not_mem_nil hz).elim, rfl, but_new (But.refl p H) ndp hd, hS.upd ndp⟩ ?_ ?_
    · rintro i σ H1 hi ⟨⟨u, rfl⟩, zs, hl, nd, nm, len, B, S⟩
      refine ⟨_, rfl, .inl ⟨rfl, _, SqL.of hl⟩, _, rfl, _, rfl, p, d, zs, rfl, S, ndp, hl, by omega, fun z H2 hz hz6 hm B2 S2 => ?_⟩
      have hl2 := B2 d _ ndp hl
      refine ⟨d, _, _, rfl, rfl, hl2, ?_, ?_⟩
      · rw [List.length_map]
        exact Nat.lt_of_le_of_lt (show _ ≤ 1000 by omega) (by decide)
      · refine ⟨⟨_, rfl⟩, zs ++ [z], ?_, ?_, ?_, ?_, but_new (B.trans B2) ndp hd, S2.upd ndp⟩
        · rw [upd_same, List.map_append]
          rfl
        · rw [List.nodup_append]
          exact ⟨nd, (by simp : [z].Nodup), fun a ha b hb e => by
            have eb : b = z := by simpa using hb
            rw [e, eb] at ha
            exact hm ha⟩
        · intro y hy
          rcases List.mem_append.mp hy with hy | hy
          · exact nm y hy
          · rw [List.mem_singleton.mp hy]
            exact ⟨hz, hz6⟩
        · rw [List.length_append, List.length_singleton]
          omega
    · rintro σ H1 ⟨⟨u, rfl⟩, zs, hl, nd, nm, len, B, S⟩
      exact ⟨_, rfl, k zs d H1 hd ndp B S hl len nd nm⟩
end
end Wm
namespace Wm
open PySem L2 StX
def makF (mk md : Str) (t1 t2 : Addr) : List (Str × V) := putF "up" (.ref t2) (putF "down" (.ref t1) (putF "made" (.str md) (putF "maker" (.str mk) [])))
theorem nm1 : ¬ (("maker" : Str) = "up") := by decide +kernel
theorem nm2 : ¬ (("maker" : Str) = "down") := by decide +kernel
theorem nm3 : ¬ (("maker" : Str) = "made") := by decide +kernel
theorem nm4 : ¬ (("made" : Str) = "up") := by decide +kernel
theorem nm5 : ¬ (("made" : Str) = "down") := by decide +kernel
theorem nm6 : ¬ (("down" : Str) = "up") := by decide +kernel
theorem makF_maker (mk md : Str) (t1 t2 : Addr) : (makF mk md t1 t2).lookup ("maker" : Str) = some (.str mk) := by
  unfold makF
  rw [lookup_putF, if_neg nm1, lookup_putF, if_neg nm2, lookup_putF, if_neg nm3, lookup_putF, if_pos rfl]
theorem makF_made (mk md : Str) (t1 t2 : Addr) : (makF mk md t1 t2).lookup ("made" : Str) = some (.str md) := by
  unfold makF
  rw [lookup_putF, if_neg nm4, lookup_putF, if_neg nm5, lookup_putF, if_pos rfl]
theorem makF_down (mk md : Str) (t1 t2 : Addr) : (makF mk md t1 t2).lookup ("down" : Str) = some (.ref t1) := by
  unfold makF
  rw [lookup_putF, if_neg nm6, lookup_putF, if_pos rfl]
theorem makF_up (mk md : Str) (t1 t2 : Addr) : (makF mk md t1 t2).lookup ("up" : Str) = some (.ref t2) := by
  unfold makF
  rw [lookup_putF, if_pos rfl]
structure TxMak (K : PySem.W.Frag) (mg : Str → Option Value) (B fB : Addr) : Prop where
  cl : Cls K B
  nk : NoAttr K B "maker"
  nd : NoAttr K B "made"
  nw : NoAttr K B "down"
  nu : NoAttr K B "up"
  g : mg "Making" = some (.ref B)
  m : Mk K B fB
def spMak (K : PySem.W.Frag) (C B : Addr) : Sp := fun vs H Q E => ∃ (H0 : Hp) (x dx l1 l2 : Addr) (mk md : Str) (ds us : List Str), vs = [.ref x, .str mk, .str md, .ref l1, .ref l2] ∧ Same H0 H ∧ H0 x = none ∧ H x = some (.ins B dx []) ∧
  SqL K H0 l1 (ds.map V.str) ∧ SqL K H0 l2 (us.map V.str) ∧ ds.length ≤ 100 ∧ us.length ≤ 100 ∧ NoTw (ds.map V.str) ∧ NoTw (us.map V.str) ∧ (∀ z ∈ mk :: md :: (ds ++ us), z.length ≤ 1000) ∧
  DueM C (mk :: md :: (ds ++ us)) H0 (fun H' => ∀ t1 t2, H' x = some (.ins B dx (makF mk md t1 t2)) → H' t1 = some (.tup (ds.map V.str)) → H' t2 = some (.tup (us.map V.str)) → Q .non H') E
section
variable {P : Program} {w : World} {K : PySem.W.Frag} {mg : Str → Option Value} {base : Heap}
theorem scMak : FnScope ["self", "maker", "made", "down", "up"] ["self", "maker", "made", "down", "up"] (defScope sMak) := ⟨rfl, rfl, rfl, by decide +kernel, rfl, by decide +kernel, by decide +kernel⟩
theorem ok_mak {f fRN fRT C B : Addr} {fd dRN dRT : FuncData} (F : Fun K "__init__" "Making.__init__" sMak f fd) (T : TxB mg) (TM : TxMak K mg B f) (RN : Dn K mg "refuse_no_name" sRN ["texts"] fRN dRN) (RT : Dn K mg "refuse_twice" sRT ["names"] fRT dRT)
    (GRN : FnOk P w K mg base (L2.CX P w) 4 fRN dRN ["texts"] (spRN K C)) (GRT : FnOk P w K mg base CX0 2 fRT dRT ["names"] (spFT K)) : FnOk P w K mg base (L2.CX P w) 5 f fd ["self", "maker", "made", "down", "up"] (spMak K C B) := by
  refine F.okX scMak (fun vs H Q E h => ?_) (fun cdv A outer s H vs Q E hr h => ?_)
  · obtain ⟨H0, x, dx, l1, l2, mk, md, ds, us, rfl, _⟩ := h
    rfl
  · obtain ⟨H0, x, dx, l1, l2, mk, md, ds, us, rfl, S0, x0, hx, h1, h2, n1, n2, w1, w2, hz, k⟩ := h
    have hr2 : Room 2 _ := hr.mono (by decide)
    have Sx : ∀ {H1 : Hp} {o : HO}, Same H0 H1 → Same H0 (upd H1 x o) := fun hs b o e => by
      rw [upd_ne (ne_of_none e x0)]
      exact hs b o e
    refine ⟨_, (pss_cons (ps_fld (pv 0) (pv 1) rfl)
      (pss_cons (ps_fld (pv 0) (pv 2) rfl)
      (pss_cons (ps_fld (pv 0) (pe_callTy call_tupN (by rfl) T.tuple (by decide +kernel) (pa_cons (pv 3) pa_nil)) rfl)
      (pss_cons (ps_fld (pv 0) (pe_callTy call_tupN (by rfl) T.tuple (by decide +kernel) (pa_cons (pv 4) pa_nil)) rfl)
      (pss_cons (ps_expr (pe_call GRN hr rfl RN.g RN.F.kp RN.b .nil (passes_call (takes_of rfl rfl rfl rfl) (fun _ _ _ _ h => h)) (pa_cons (pe_lst (pa_cons (pv 1) (pa_cons (pv 2) (pa_star (pe_fld (pv 0) rfl) (pa_star (pe_fld (pv 0) rfl) pa_nil))))) pa_nil)))
      (pss_cons (ps_expr (pe_call GRT hr2 rfl RT.g RT.F.kp RT.b .nil pass0 (pa_cons (pe_fld (pv 0) rfl) pa_nil)))
      (pss_one (ps_expr (pe_call GRT hr2 rfl RT.g RT.F.kp RT.b .nil pass0 (pa_cons (pe_fld (pv 0) rfl) pa_nil)))))))))), ?_⟩
    refine ⟨_, rfl, _, rfl, x, B, dx, [], rfl, hx, TM.cl, TM.nk, (by show 0 < 1000; decide), ?_⟩
    have S1 := Sx (o := .ins B dx (putF "maker" (.str mk) [])) S0
    refine ⟨_, rfl, _, rfl, x, B, dx, _, rfl, upd_same, TM.cl, TM.nd, Nat.lt_of_le_of_lt (putF_len _ _ _) (by decide), ?_⟩
    rw [upd_upd]
    have S2 := Sx (o := .ins B dx (putF "made" (.str md) (putF "maker" (.str mk) []))) S0
    have few2 : (putF "made" (.str md) (putF "maker" (.str mk) [])).length ≤ 10 := Nat.le_trans (putF_len _ _ _) (Nat.le_trans (Nat.succ_le_succ (putF_len _ _ _)) (by decide))
    -- self.down = tuple(down)
    refine ⟨_, rfl, l1, _, rfl, .inl ⟨S2.seq h1, fun t1 ht1 => ?_⟩⟩
    have n1x : t1 ≠ x := fun z => by
      rw [z, upd_same] at ht1
      cases ht1
    refine ⟨_, rfl, x, B, dx, _, rfl, Eq.trans (upd_ne n1x.symm) upd_same, TM.cl, TM.nw, Nat.lt_of_le_of_lt few2 (by decide), ?_⟩
    generalize hH3 : upd (upd (upd H x (.ins B dx (putF "made" (.str md) (putF "maker" (.str mk) [])))) t1 (.tup (ds.map V.str))) x (.ins B dx (putF "down" (.ref t1) (putF "made" (.str md) (putF "maker" (.str mk) [])))) = H3
    have S3 : Same H0 H3 := by
      rw [← hH3]
      exact Sx (S2.trans (Same.upd ht1))
    have hx3 : H3 x = some (.ins B dx (putF "down" (.ref t1) (putF "made" (.str md) (putF "maker" (.str mk) [])))) := by rw [← hH3, upd_same]
    have h13 : H3 t1 = some (.tup (ds.map V.str)) := by rw [← hH3, upd_ne n1x, upd_same]
    -- self.up = tuple(up)
    refine ⟨_, rfl, l2, _, rfl, .inl ⟨S3.seq h2, fun t2 ht2 => ?_⟩⟩
    have n2x : t2 ≠ x := (ne_of_none hx3 ht2).symm
    have n21 : t2 ≠ t1 := (ne_of_none h13 ht2).symm
    refine ⟨_, rfl, x, B, dx, _, rfl, Eq.trans (upd_ne n2x.symm) hx3, TM.cl, TM.nu, Nat.lt_of_le_of_lt (Nat.le_trans (putF_len _ _ _) (Nat.succ_le_succ few2)) (by decide), ?_⟩
    show _
    generalize hH4 : upd (upd H3 t2 (.tup (us.map V.str))) x (.ins B dx (putF "up" (.ref t2) (putF "down" (.ref t1) (putF "made" (.str md) (putF "maker" (.str mk) []))))) = H4
    have S4 : Same H0 H4 := by
      rw [← hH4]
      exact Sx (S3.trans (Same.upd ht2))
    have hx4 : H4 x = some (.ins B dx (makF mk md t1 t2)) := by rw [← hH4, upd_same]; rfl
    have h14 : H4 t1 = some (.tup (ds.map V.str)) := by rw [← hH4, upd_ne n1x, upd_ne n21.symm]; exact h13
    have h24 : H4 t2 = some (.tup (us.map V.str)) := by rw [← hH4, upd_ne n2x, upd_same]
    -- refuse_no_name([maker, made, *self.down, *self.up])
    refine ⟨_, rfl, _, rfl, _, rfl, x, B, dx, _, _, rfl, hx4, TM.cl, TM.nw, makF_down _ _ _ _, t1, _, rfl, .inl (SqT.of h14), _, rfl, x, B, dx, _, _, rfl, hx4, TM.cl, TM.nu, makF_up _ _ _ _, t2, _, rfl, .inl (SqT.of h24), ?_, fun l hl => ?_⟩
    · show (V.str mk :: V.str md :: (ds.map V.str ++ (us.map V.str ++ []))).length ≤ sizeLine
      rw [List.append_nil, List.length_cons, List.length_cons, List.length_append, List.length_map, List.length_map]
      exact Nat.le_trans (show _ ≤ 1000 by omega) (by decide)
    have el : V.str mk :: V.str md :: (ds.map V.str ++ (us.map V.str ++ [])) = (mk :: md :: (ds ++ us)).map V.str := by
      rw [List.append_nil, List.map_cons, List.map_cons, List.map_append]
    have S5 := S4.trans (Same.upd (o := .lst (V.str mk :: V.str md :: (ds.map V.str ++ (us.map V.str ++ [])))) hl)
    refine ⟨l, mk :: md :: (ds ++ us), rfl, SqL.of (by rw [upd_same, ← el]), ?_, hz, ?_⟩
    · rw [List.length_cons, List.length_cons, List.length_append]
      omega
    refine k.toN S5 fun hn H6 hS6 => ?_
    have hx6 := hS6 _ _ (Same.upd (o := .lst (V.str mk :: V.str md :: (ds.map V.str ++ (us.map V.str ++ [])))) hl _ _ hx4)
    have h16 := hS6 _ _ (Same.upd (o := .lst (V.str mk :: V.str md :: (ds.map V.str ++ (us.map V.str ++ [])))) hl _ _ h14)
    have h26 := hS6 _ _ (Same.upd (o := .lst (V.str mk :: V.str md :: (ds.map V.str ++ (us.map V.str ++ [])))) hl _ _ h24)
    refine ⟨_, rfl, x, B, dx, _, _, rfl, hx6, TM.cl, TM.nw, makF_down _ _ _ _, t1, _, rfl, .inr (SqT.of h16), flat_strs _, w1, fun H7 hS7 => ?_⟩
    refine ⟨_, rfl, x, B, dx, _, _, rfl, hS7 _ _ hx6, TM.cl, TM.nu, makF_up _ _ _ _, t2, _, rfl, .inr (SqT.of (hS7 _ _ h26)), flat_strs _, w2, fun H8 hS8 => ?_⟩
    unfold DueM at k
    rw [hn] at k
    exact k H8 (S5.trans (hS6.trans (hS7.trans hS8))) t1 t2 (hS8 _ _ (hS7 _ _ hx6)) (hS8 _ _ (hS7 _ _ h16)) (hS8 _ _ (hS7 _ _ h26))
end
end Wm
namespace Wm
open PySem L2 StX
theorem strOk_of {z : Str} (h : okS z) : PyData.strOk z = true := by
  unfold PyData.strOk
  rw [Array.all_eq_true_iff_forall_mem]
  intro c hc
  exact decide_eq_true (h c (by simpa using hc))
/-! ### rows of objects -/
def AllAt {α : Type} (R : Addr → α → Prop) : List Addr → List α → Prop
  | [], [] => True
  | a :: as, x :: xs => R a x ∧ AllAt R as xs
  | _, _ => False
theorem AllAt.imp {α : Type} {R R' : Addr → α → Prop} (h : ∀ a x, R a x → R' a x) : ∀ {as : List Addr} {xs : List α}, AllAt R as xs → AllAt R' as xs
  | [], [], _ => True.intro
  | _ :: _, _ :: _, q => ⟨h _ _ q.1, AllAt.imp h q.2⟩
  | [], _ :: _, q => q.elim
  | _ :: _, [], q => q.elim
theorem AllAt.len {α : Type} {R : Addr → α → Prop} : ∀ {as : List Addr} {xs : List α}, AllAt R as xs → as.length = xs.length
  | [], [], _ => rfl
  | _ :: _, _ :: _, q => congrArg (· + 1) (AllAt.len q.2)
  | [], _ :: _, q => q.elim
  | _ :: _, [], q => q.elim
theorem AllAt.get {α : Type} {R : Addr → α → Prop} : ∀ {as : List Addr} {xs : List α} {j : Nat} {y : V}, AllAt R as xs → (as.map V.ref)[j]? = some y → ∃ a x, y = .ref a ∧ xs[j]? = some x ∧ R a x
  | a :: as, x :: xs, 0, y, h, e => ⟨a, x, (Option.some.inj e).symm, rfl, h.1⟩
  | a :: as, x :: xs, j + 1, y, h, e => by
    obtain ⟨a', x', p, q, r⟩ := AllAt.get (j := j) h.2 (by simpa using e)
    exact ⟨a', x', p, by simpa using q, r⟩
  | [], _, _, _, _, e => by simp at e
  | _ :: _, [], _, _, h, _ => h.elim
theorem AllAt.append {α : Type} {R : Addr → α → Prop} : ∀ {as bs : List Addr} {xs ys : List α}, AllAt R as xs → AllAt R bs ys → AllAt R (as ++ bs) (xs ++ ys)
  | [], _, [], _, _, q => q
  | _ :: _, _, _ :: _, _, h, q => ⟨h.1, AllAt.append h.2 q⟩
  | [], _, _ :: _, _, h, _ => h.elim
  | _ :: _, _, [], _, h, _ => h.elim
structure MkD where
  mr : Str
  md : Str
  dn : List Str
  up : List Str
structure PtD where
  nm : Str
  vars : List Var
  cs : List Tri
structure RlD where
  p : PtD
  g : Tri
  bh : Str
def MkAt (K : PySem.W.Frag) (B : Addr) (H : Hp) (a : Addr) (m : MkD) : Prop := ∃ d t1 t2, H a = some (.ins B d (makF m.mr m.md t1 t2)) ∧ SqT K H t1 (m.dn.map V.str) ∧ SqT K H t2 (m.up.map V.str)
def BrAt (K : PySem.W.Frag) (B : Addr) (H : Hp) (a : Addr) (b : PtD) : Prop := ∃ d t1 t2 ps qs, H a = some (.ins B d (barF b.nm t1 t2)) ∧ SqT K H t1 (ps.map V.ref) ∧ RowsAt K H ps (b.vars.map varV) ∧ SqT K H t2 (qs.map V.ref) ∧ RowsAt K H qs (b.cs.map triV)
def RlAt (K : PySem.W.Frag) (B : Addr) (H : Hp) (a : Addr) (r : RlD) : Prop := ∃ d t1 t2 t3 ps qs, H a = some (.ins B d (rulF r.p.nm t1 t2 t3 r.bh)) ∧ SqT K H t1 (ps.map V.ref) ∧ RowsAt K H ps (r.p.vars.map varV) ∧ SqT K H t2 (qs.map V.ref) ∧ RowsAt K H qs (r.p.cs.map triV) ∧ SqT K H t3 (triV r.g)
theorem MkAt.same {K : PySem.W.Frag} {B : Addr} {H H' : Hp} {a : Addr} {m : MkD} (s : Same H H') (h : MkAt K B H a m) : MkAt K B H' a m := by
  obtain ⟨d, t1, t2, x, y, z⟩ := h
  exact ⟨d, t1, t2, s _ _ x, same_seqT s y, same_seqT s z⟩
theorem BrAt.same {K : PySem.W.Frag} {B : Addr} {H H' : Hp} {a : Addr} {b : PtD} (s : Same H H') (h : BrAt K B H a b) : BrAt K B H' a b := by
  obtain ⟨d, t1, t2, ps, qs, x, y, z, u, v⟩ := h
  exact ⟨d, t1, t2, ps, qs, s _ _ x, same_seqT s y, z.same s, same_seqT s u, v.same s⟩
theorem RlAt.same {K : PySem.W.Frag} {B : Addr} {H H' : Hp} {a : Addr} {r : RlD} (s : Same H H') (h : RlAt K B H a r) : RlAt K B H' a r := by
  obtain ⟨d, t1, t2, t3, ps, qs, x, y, z, u, v, w⟩ := h
  exact ⟨d, t1, t2, t3, ps, qs, s _ _ x, same_seqT s y, z.same s, same_seqT s u, v.same s, same_seqT s w⟩
/-! ### pairs that do not stand twice -/
def prV (p : Str × Str) : List V := [.str p.1, .str p.2]
def prD (p : Str × Str) : PyData := .tuple [.str p.1, .str p.2]
theorem prD_eqv (a b : Str × Str) : PyData.eqv (prD a) (prD b) = decide (a = b) := by
  obtain ⟨a1, a2⟩ := a
  obtain ⟨b1, b2⟩ := b
  simp only [prD, PyData.eqv, PyData.eqvAll, Prod.mk.injEq]
  by_cases h1 : a1 = b1 <;> by_cases h2 : a2 = b2 <;> simp [h1, h2]
theorem u65 {k : Nat} {A : Around} (r : Room k A) : A.units + 65 < cLine := by
  have := r.un
  omega
theorem prs_dp {K : PySem.W.Frag} {H : Hp} : ∀ {qs : List Addr} {ps : List (Str × Str)}, RowsAt K H qs (ps.map prV) → DpAll K H (qs.map V.ref) (ps.map prD)
  | [], [], _ => .nil
  | _ :: _, _ :: _, h => .cons (.tup h.1 (.cons (.str _) (.cons (.str _) .nil))) (prs_dp h.2)
  | [], _ :: _, h => h.elim
  | _ :: _, [], h => h.elim
theorem prs_sh : ∀ {ps : List (Str × Str)}, (∀ p ∈ ps, okS p.1 ∧ okS p.2) → PyData.canLayAll0 (ps.map prD) = true ∧ PyData.depthAll (ps.map prD) ≤ 2
  | [], _ => by simp [PyData.canLayAll0, PyData.depthAll]
  | p :: r, h => by
    obtain ⟨a, b⟩ := h p List.mem_cons_self
    obtain ⟨h2, h3⟩ := prs_sh (ps := r) fun y hy => h y (List.mem_cons_of_mem _ hy)
    have sa := strOk_of a
    have sb := strOk_of b
    have e : (prD p).canLay0 = true := by simp [prD, PyData.canLay0, PyData.canLayAll0, sa, sb]
    have d : (prD p).depth ≤ 2 := by simp [prD, PyData.depth, PyData.depthAll]
    refine ⟨by simp only [List.map_cons, PyData.canLayAll0, e, h2, Bool.and_self], ?_⟩
    simp only [List.map_cons, PyData.depthAll]
    omega
theorem rows_imp {K : PySem.W.Frag} {H H' : Hp} (s : ∀ {q : Addr} {xs : List V}, SqT K H q xs → SqT K H' q xs) : ∀ {ps : List Addr} {rs : List (List V)}, RowsAt K H ps rs → RowsAt K H' ps rs
  | [], [], _ => True.intro
  | _ :: _, _ :: _, h => ⟨s h.1, rows_imp s h.2⟩
  | [], _ :: _, h => h.elim
  | _ :: _, [], h => h.elim
def spFT2 (K : PySem.W.Frag) : Sp := fun vs H Q _ => ∃ (l : Addr) (qs : List Addr) (ps : List (Str × Str)), vs = [.ref l] ∧ SqL K H l (qs.map V.ref) ∧ RowsAt K H qs (ps.map prV) ∧ ps.Nodup ∧ (∀ p ∈ ps, okS p.1 ∧ okS p.2) ∧ ∀ H', Same H H' → Q .non H'
def spRMT (K : PySem.W.Frag) (B : Addr) : Sp := fun vs H Q _ => ∃ (m : Addr) (as : List Addr) (ms : List MkD), vs = [.ref m] ∧ SqL K H m (as.map V.ref) ∧ AllAt (MkAt K B H) as ms ∧ ms.length ≤ 1000 ∧ (ms.map fun x => (x.mr, x.md)).Nodup ∧ (∀ x ∈ ms, okS x.mr ∧ okS x.md) ∧ ∀ H', Same H H' → Q .non H'
section
variable {P : Program} {w : World} {K : PySem.W.Frag} {mg : Str → Option Value} {base : Heap}
theorem ok_ft2 {f : Addr} {fd : FuncData} (F : Fun K "first_twice" "first_twice" sFT f fd) (T : TxB mg) : FnOk P w K mg base CX0 1 f fd ["row"] (spFT2 K) := by
  refine F.ok scFT (fun vs H Q E h => ?_) (fun cdv A outer s H vs Q E hr h => ?_)
  · obtain ⟨l, qs, ps, rfl, _⟩ := h
    rfl
  · obtain ⟨l, qs, ps, rfl, hl, hq, hnd, hok, k⟩ := h
    refine ⟨_, (pss_cons (ps_for PassesOwn.never rfl (pi_enum rfl T.enumerate (pa_cons (pv 0) pa_nil)) (pg_tup rfl (pgs_cons (pg_name (i := 1) scFT.nd rfl (Or.inl rfl)) (pgs_cons (pg_name (i := 2) scFT.nd rfl (Or.inl rfl)) pgs_nil))) (pss_one (ps_if (pt_cmpR (op_inD (u65 hr)) (pv 2) (pe_slice sl_list (pv 0) po_none (po_some (pv 1))) (by rfl)) (pss_one (ps_ret (pv 1))) pss_nil)))
      (pss_one (ps_ret pe_non))), ?_⟩
    refine ⟨_, rfl, l, _, rfl, hl, for_it walk_enum (fun i σ H' => (∃ u v, σ = [some (.ref l), u, v]) ∧ Same H H') ⟨⟨none, none, rfl⟩, Same.refl H⟩ (fun i σ H' _ p => p.2.seq hl) ?_ ?_⟩
    · rintro i x σ H1 H2 hi ⟨⟨u, v, rfl⟩, hS⟩ ⟨t, y, z, rfl, ht, rfl, e1, e2⟩
      cases e1
      refine ⟨t, _, rfl, SqT.of upd_same, rfl, _, _, rfl, _, _, rfl, rfl, ?_⟩
      have S2 := hS.trans (Same.upd (o := .tup [.int (i : Nat), z]) ht)
      have e2 : (qs.map V.ref)[i]? = some z := e2
      rw [List.getElem?_map] at e2
      obtain ⟨q, hqi, rfl⟩ := Option.map_eq_some_iff.mp e2
      obtain ⟨r, hri, hqt⟩ := hq.get hqi
      rw [List.getElem?_map] at hri
      obtain ⟨p, hpi, rfl⟩ := Option.map_eq_some_iff.mp hri
      refine ⟨_, rfl, _, rfl, _, rfl, _, rfl, l, _, rfl, S2.seq hl, fun c hc => ?_⟩
      rw [show cutV (qs.map V.ref) none (some (i : Int)) = (qs.take i).map V.ref by rw [cut_take, List.map_take]]
      have S3 := S2.trans (Same.upd (o := .lst ((qs.take i).map V.ref)) hc)
      have hrow : RowsAt K (upd (upd H1 t (.tup [.int (i : Nat), .ref q])) c (.lst ((qs.take i).map V.ref))) (qs.take i) ((ps.take i).map prV) := by
        have e := (hq.same S3).take i
        rw [← List.map_take] at e
        exact e
      obtain ⟨l1, l2⟩ := prs_sh (ps := ps.take i) fun p hp => hok p (List.mem_of_mem_take hp)
      have shl : SeqAt.shaped (.list ((ps.take i).map prD)) = true := by
        generalize (ps.take i).map prD = X at l1 l2
        simp [SeqAt.shaped, PyData.canLay0, PyData.depth, l1]
        omega
      have shp : SeqAt.shaped (prD p) = true := by
        obtain ⟨a, b⟩ := hok p (List.mem_of_getElem? hpi)
        have sa := strOk_of a
        have sb := strOk_of b
        simp [prD, SeqAt.shaped, PyData.canLay0, PyData.canLayAll0, PyData.depth, PyData.depthAll, sa, sb]
      refine ⟨prD p, _, .tup (same_seqT S3 hqt) (.cons (.str _) (.cons (.str _) .nil)), .lst (SqL.of upd_same) (prs_dp hrow), shp, shl, _, rfl, ?_⟩
      have no : ((ps.take i).map prD).any (fun z => PyData.eqv z (prD p)) = false := by
        rw [List.any_map, List.any_eq_false]
        intro y hy
        show ¬ PyData.eqv (prD y) (prD p) = true
        rw [prD_eqv]
        intro e
        have e := of_decide_eq_true e
        subst e
        obtain ⟨j, hj⟩ := List.mem_iff_getElem?.mp hy
        have hlt : j < i := by
          have q := (List.getElem?_eq_some_iff.mp hj).1
          rw [List.length_take] at q
          omega
        rw [List.getElem?_take_of_lt hlt] at hj
        have hjl := (List.getElem?_eq_some_iff.mp hj).1
        have hil := (List.getElem?_eq_some_iff.mp hpi).1
        exact (List.pairwise_iff_getElem.mp hnd) j i hjl hil hlt ((List.getElem?_eq_some_iff.mp hj).2.trans (List.getElem?_eq_some_iff.mp hpi).2.symm)
      rw [no]
      exact iteF ⟨⟨_, _, rfl⟩, S3⟩
    · rintro σ H' ⟨_, hS⟩
      exact k H' hS
theorem scRMT : FnScope ["makings", "pairs", "place", "making"] ["makings"] (defScope sRMT) := ⟨rfl, rfl, rfl, by decide +kernel, rfl, by decide +kernel, by decide +kernel⟩
theorem ok_rmt {f fF B fB : Addr} {fd fdF : FuncData} (F : Fun K "refuse_makings_twice" "refuse_makings_twice" sRMT f fd) (T : TxB mg) (TM : TxMak K mg B fB) (D : Dn K mg "first_twice" sFT ["row"] fF fdF) : FnOk P w K mg base CX0 2 f fd ["makings"] (spRMT K B) := by
  have G : FnOk P w K mg base CX0 1 fF fdF ["row"] (spFT2 K) := ok_ft2 D.F T
  refine F.ok scRMT (fun vs H Q E h => ?_) (fun cdv A outer s H vs Q E hr h => ?_)
  · obtain ⟨m, as, ms, rfl, _⟩ := h
    rfl
  · obtain ⟨m, as, ms, rfl, hm, hms, hl, hnd, hok, k⟩ := h
    refine ⟨_, (pss_cons (ps_setLc (i := 1) (own := [("making", 3)]) (g := gName 3) (te := tTup (tCons (tFld K (tVar 3) "maker") (tCons (tFld K (tVar 3) "made") tNil))) rfl scRMT.nd rfl rfl (sw_true rfl rfl rfl (by decide +kernel)) (pi_list (pv 0)) (blkOk_by (N := ["makings", "pairs", "place", "making"]) (sc := defScope sRMT) (by decide +kernel)) (fun _ _ _ _ _ => (pg_name (i := 3) scRMT.nd rfl (Or.inl rfl))) (fun _ _ _ _ _ => pts_nil) (fun _ _ _ _ _ => (pe_tup (pa_cons (pe_fld (pv 3) rfl) (pa_cons (pe_fld (pv 3) rfl) pa_nil)))))
      (pss_cons (ps_set (i := 2) scRMT.nd rfl (Or.inl rfl) (pe_call G hr rfl D.g D.F.kp D.b .nil pass0 (pa_cons (pv 1) pa_nil)))
      (pss_one (ps_if (pt_cmp (pc_notN (pv 2))) (pss_one ps_never) pss_nil)))), ?_⟩
    refine ⟨_, rfl, m, rfl, ⟨_, hm⟩, fun D' hD => ?_⟩
    refine lc_list (K := K) (a := m) (xs := as.map V.ref) (fun i H' => Same H H' ∧ ∃ qs : List Addr, H' D' = some (.lst (qs.map V.ref)) ∧ qs.length = i ∧ RowsAt K H' qs (((ms.map fun x => (x.mr, x.md)).take i).map prV)) ⟨Same.upd hD, [], upd_same, rfl, True.intro⟩ (fun i H' _ p => p.1.seq hm) ?_ ?_
    · rintro i x H' hi ⟨hS, qs, hq, hql, hrow⟩
      obtain ⟨a, y, rfl, hy, hat⟩ := hms.get hi
      obtain ⟨d, t1, t2, ha, _, _⟩ := MkAt.same hS hat
      refine ⟨rfl, ?_⟩
      refine ⟨_, rfl, a, B, d, _, _, rfl, ha, TM.cl, TM.nk, makF_maker _ _ _ _, ?_⟩
      refine ⟨_, rfl, a, B, d, _, _, rfl, ha, TM.cl, TM.nd, makF_made _ _ _ _, ?_⟩
      refine ⟨by show 2 ≤ sizeLine; decide, fun t ht => ?_⟩
      have nt : t ≠ D' := (ne_of_none hq ht).symm
      have il : i < ms.length := (List.getElem?_eq_some_iff.mp hy).1
      refine ⟨_, Same.upd ht _ _ hq, ?_, ?_, qs ++ [t], ?_, ?_, ?_⟩
      · rw [List.length_map]
        exact Nat.lt_of_le_of_lt (show qs.length ≤ 1000 by omega) (by decide)
      · intro b o h
        rw [upd_ne (ne_of_none h hD)]
        exact Same.upd ht _ _ (hS b o h)
      · rw [upd_same, List.map_append]
        rfl
      · rw [List.length_append, List.length_singleton]
        omega
      · rw [List.take_add_one, List.getElem?_map, hy, List.map_append]
        have B' : But D' (upd H' t (.tup [.str y.mr, .str y.md])) (upd (upd H' t (.tup [.str y.mr, .str y.md])) D' (.lst (qs.map V.ref ++ [.ref t]))) := But.upd
        have keep : ∀ {q : Addr} {xs : List V}, SqT K (upd H' t (.tup [.str y.mr, .str y.md])) q xs → SqT K (upd (upd H' t (.tup [.str y.mr, .str y.md])) D' (.lst (qs.map V.ref ++ [.ref t]))) q xs := fun {q xs} h => by
          have hp : (upd H' t (.tup [.str y.mr, .str y.md])) D' = some (.lst (qs.map V.ref)) := Same.upd ht _ _ hq
          rcases h with (h | ⟨u, h⟩) | h
          · exact .inl (.inl (B' _ _ (ne_of h hp (by intro z; cases z)) h))
          · exact .inl (.inr ⟨u, B' _ _ (ne_of h hp (by intro z; cases z)) h⟩)
          · exact .inr h
        have r1 : RowsAt K (upd H' t (.tup [.str y.mr, .str y.md])) (qs ++ [t]) (((ms.map fun x => (x.mr, x.md)).take i).map prV ++ [prV (y.mr, y.md)]) := (hrow.same (Same.upd ht)).append ⟨SqT.of upd_same, True.intro⟩
        exact rows_imp keep r1
    · rintro H' ⟨hS, qs, hq, hql, hrow⟩
      rw [List.length_map, hms.len] at hql
      rw [List.length_map, hms.len, List.take_of_length_le (by rw [List.length_map]; exact Nat.le_refl _)] at hrow
      dsimp only [List.set_cons_succ, List.set_cons_zero]
      refine ⟨_, rfl, D', qs, _, rfl, SqL.of hq, hrow, hnd, fun p hp => ?_, fun H2 S2 => ?_⟩
      · obtain ⟨x, hx, rfl⟩ := List.mem_map.mp hp
        exact hok x hx
      · refine ⟨_, rfl, _, rfl, ?_⟩
        exact iteF (k _ (hS.trans S2))
end
end Wm
namespace Wm
open PySem L2 StX
/-- what a pattern's variables are, be it a rule or a bar -/
def PvAt (K : PySem.W.Frag) (H : Hp) (a : Addr) (vars : List Var) : Prop := ∃ C d fs t1 ps, H a = some (.ins C d fs) ∧ Cls K C ∧ NoAttr K C "variables" ∧ fs.lookup ("variables" : Str) = some (.ref t1) ∧ SqT K H t1 (ps.map V.ref) ∧ RowsAt K H ps (vars.map varV)
theorem PvAt.same {K : PySem.W.Frag} {H H' : Hp} {a : Addr} {v : List Var} (s : Same H H') (h : PvAt K H a v) : PvAt K H' a v := by
  obtain ⟨C, d, fs, t1, ps, a1, a2, a3, a4, a5, a6⟩ := h
  exact ⟨C, d, fs, t1, ps, s _ _ a1, a2, a3, a4, same_seqT s a5, a6.same s⟩
def spRNS (K : PySem.W.Frag) (B : Addr) : Sp := fun vs H Q _ => ∃ (s m p : Addr) (ss : List Str) (as bs : List Addr) (ms : List MkD) (vv : List (List Var)), vs = [.ref s, .ref m, .ref p] ∧ SqL K H s (ss.map V.str) ∧ SqL K H m (as.map V.ref) ∧ AllAt (MkAt K B H) as ms ∧ SqL K H p (bs.map V.ref) ∧ AllAt (PvAt K H) bs vv ∧ ms.length ≤ 1000 ∧ vv.length ≤ 1000 ∧ (∀ v ∈ vv, v.length ≤ 4) ∧ (∀ x ∈ ms, x.mr ∈ ss ∧ x.md ∈ ss) ∧ (∀ v ∈ vv, ∀ y ∈ v, ∀ z, y.2 = some z → z ∈ ss) ∧ ∀ H', Same H H' → Q .non H'
def spRU (K : PySem.W.Frag) (B : Addr) : Sp := fun vs H Q _ => ∃ (s m : Addr) (ss : List Str) (as : List Addr) (ms : List MkD), vs = [.ref s, .ref m] ∧ SqL K H s (ss.map V.str) ∧ SqL K H m (as.map V.ref) ∧ AllAt (MkAt K B H) as ms ∧ ss.Nodup ∧ (∀ x ∈ ms, ∃ i j : Nat, i < j ∧ ss[i]? = some x.mr ∧ ss[j]? = some x.md) ∧ Q .non H
theorem flat_of (zs : List Str) : (zs.map V.str).all flatV = true := by
  rw [List.all_map]
  exact List.all_eq_true.mpr fun _ _ => rfl
theorem idx_first {ss : List Str} {i m : Nat} {x z : Str} (nd : ss.Nodup) (hi : ss[i]? = some x) (hm : m < i) (hz : ss[m]? = some z) : eqV (.str z) (.str x) = false := by
  have hne : z ≠ x := fun e => by
    subst e
    have a := List.getElem?_eq_some_iff.mp hi
    have b := List.getElem?_eq_some_iff.mp hz
    exact (List.pairwise_iff_getElem.mp nd) m i b.1 a.1 hm (b.2.trans a.2.symm)
  unfold eqV
  simp [hne]
section
variable {P : Program} {w : World} {K : PySem.W.Frag} {mg : Str → Option Value} {base : Heap}
theorem scRU : FnScope ["sorts", "makings", "making"] ["sorts", "makings"] (defScope sRU) := ⟨rfl, rfl, rfl, by decide +kernel, rfl, by decide +kernel, by decide +kernel⟩
theorem ok_ru {f B fB : Addr} {fd : FuncData} (F : Fun K "refuse_upward" "refuse_upward" sRU f fd) (TM : TxMak K mg B fB) : FnOk P w K mg base CX0 1 f fd ["sorts", "makings"] (spRU K B) := by
  refine F.ok scRU (fun vs H Q E h => ?_) (fun cdv A outer s H vs Q E hr h => ?_)
  · obtain ⟨s, m, ss, as, ms, rfl, _⟩ := h
    rfl
  · obtain ⟨s, m, ss, as, ms, rfl, hs, hm, hms, nd, hx, k⟩ := h
    refine ⟨_, (pss_one (ps_for PassesOwn.never rfl (pi_list (pv 1)) (pg_name (i := 2) scRU.nd rfl (Or.inl rfl)) (pss_one (ps_if (pt_cmpR op_le (pe_bm PySem.F.plainAttrs_list PySem.F.slot_list_index PySem.F.type_list_index mt_index (pv 0) (pa_cons (pe_fld (pv 2) rfl) pa_nil)) (pe_bm PySem.F.plainAttrs_list PySem.F.slot_list_index PySem.F.type_list_index mt_index (pv 0) (pa_cons (pe_fld (pv 2) rfl) pa_nil)) (nomark _)) (pss_one ps_never) pss_nil)))), ?_⟩
    refine ⟨_, rfl, m, rfl, ⟨_, hm⟩, for_list (K := K) (a := m) (xs := as.map V.ref) (fun i σ H' => (∃ v, σ = [some (.ref s), some (.ref m), v]) ∧ H' = H) ⟨⟨none, rfl⟩, rfl⟩ (fun i σ H' _ p => by rw [p.2]; exact hm) ?_ (fun σ H' p => by rw [p.2]; exact k)⟩
    rintro i y σ H' hi ⟨⟨v, rfl⟩, rfl⟩
    obtain ⟨a, x, rfl, hxi, hat⟩ := hms.get hi
    obtain ⟨d, t1, t2, ha, _, _⟩ := hat
    obtain ⟨p, q, hpq, hp, hq⟩ := hx x (List.mem_of_getElem? hxi)
    have gp : (ss.map V.str)[p]? = some (.str x.mr) := by rw [List.getElem?_map, hp]; rfl
    have gq : (ss.map V.str)[q]? = some (.str x.md) := by rw [List.getElem?_map, hq]; rfl
    have first : ∀ {n : Nat} {z0 : Str}, ss[n]? = some z0 → ∀ (m : Nat) (z' : V), m < n → (ss.map V.str)[m]? = some z' → eqV z' (.str z0) = false := fun {n z0} hn m z' hm hz => by
      rw [List.getElem?_map] at hz
      obtain ⟨z, hz2, rfl⟩ := Option.map_eq_some_iff.mp hz
      exact idx_first nd hn hm hz2
    dsimp only [gName, List.set_cons_succ, List.set_cons_zero]
    refine ⟨_, rfl, .inl ⟨rfl, _, hs⟩, _, rfl, a, B, d, _, _, rfl, ha, TM.cl, TM.nd, makF_made _ _ _ _, ?_⟩
    refine ⟨s, _, .str x.md, q, .str x.md, rfl, rfl, hs, rfl, flat_of ss, gq, by unfold eqV; simp, first hq, ?_⟩
    refine ⟨_, rfl, .inl ⟨rfl, _, hs⟩, _, rfl, a, B, d, _, _, rfl, ha, TM.cl, TM.nk, makF_maker _ _ _ _, ?_⟩
    refine ⟨s, _, .str x.mr, p, .str x.mr, rfl, rfl, hs, rfl, flat_of ss, gp, by unfold eqV; simp, first hp, ?_⟩
    refine ⟨_, _, rfl, rfl, _, rfl, ?_⟩
    exact ite2 (fun z => absurd (of_decide_eq_true z) (by omega)) (fun _ => ⟨⟨_, rfl⟩, rfl⟩)
theorem scRNS : FnScope ["sorts", "makings", "patterns", "asked", "making", "pattern", "name", "variable", "sort"] ["sorts", "makings", "patterns"] (defScope sRNS) := ⟨rfl, rfl, rfl, by decide +kernel, rfl, by decide +kernel, by decide +kernel⟩
theorem ok_rns {f B fB : Addr} {fd : FuncData} (F : Fun K "refuse_no_sort" "refuse_no_sort" sRNS f fd) (TM : TxMak K mg B fB) : FnOk P w K mg base CX0 1 f fd ["sorts", "makings", "patterns"] (spRNS K B) := by
  refine F.ok scRNS (fun vs H Q E h => ?_) (fun cdv A outer s H vs Q E hr h => ?_)
  · obtain ⟨s, m, p, ss, as, bs, ms, vv, rfl, _⟩ := h
    rfl
  · obtain ⟨s, m, p, ss, as, bs, ms, vv, rfl, hs, hm, hms, hp, hvv, ml, vl, v4, hx, hy, k⟩ := h
    refine ⟨_, (pss_cons (ps_set (i := 3) scRNS.nd rfl (Or.inl rfl) (pe_lst pa_nil))
      (pss_cons (ps_for PassesOwn.never rfl (pi_list (pv 1)) (pg_name (i := 4) scRNS.nd rfl (Or.inl rfl)) (pss_one (ps_expr (pe_bm PySem.F.plainAttrs_list PySem.F.slot_list_extend PySem.F.type_list_extend mt_extend (pv 3) (pa_cons (pe_lst (pa_cons (pe_fld (pv 4) rfl) (pa_cons (pe_fld (pv 4) rfl) pa_nil))) pa_nil)))))
      (pss_cons (ps_for PassesOwn.never rfl (pi_list (pv 2)) (pg_name (i := 5) scRNS.nd rfl (Or.inl rfl)) (pss_one (ps_expr (pe_bm PySem.F.plainAttrs_list PySem.F.slot_list_extend PySem.F.type_list_extend mt_extend (pv 3) (pa_cons (pe_lc (own := [("variable", 7), ("sort", 8)]) (g := gTup K 2 (gCons (gName 7) (gCons (gName 8) gNil))) rfl scRNS.nd (pi_tup (pe_fld (pv 5) rfl)) (blkOk_by (N := ["sorts", "makings", "patterns", "asked", "making", "pattern", "name", "variable", "sort"]) (sc := defScope sRNS) (by decide +kernel)) (fun _ _ _ _ _ => (pg_tup rfl (pgs_cons (pg_name (i := 7) scRNS.nd rfl (Or.inl rfl)) (pgs_cons (pg_name (i := 8) scRNS.nd rfl (Or.inl rfl)) pgs_nil)))) (fun _ _ _ _ _ => (pts_one (pt_cmp (pc_notN (pv 8))))) (fun _ _ _ _ _ => (pv 8))) pa_nil)))))
      (pss_one (ps_for PassesOwn.never rfl (pi_list (pv 3)) (pg_name (i := 6) scRNS.nd rfl (Or.inl rfl)) (pss_one (ps_if (pt_cmpR op_notIn_seq (pv 6) (pv 0) (by rfl)) (pss_one ps_never) pss_nil))))))), ?_⟩
    refine ⟨Nat.zero_le _, fun d hd => ?_⟩
    dsimp only [List.set_cons_succ, List.set_cons_zero]
    have Sd : ∀ {H1 : Hp} {o : HO}, Same H H1 → Same H (upd H1 d o) := fun hs b o e => by
      rw [upd_ne (ne_of_none e hd)]
      exact hs b o e
    have S0 : Same H (upd H d (.lst [])) := Same.upd hd
    refine ⟨_, rfl, m, rfl, ⟨_, S0.seq hm⟩, for_list (K := K) (a := m) (xs := as.map V.ref) (fun i σ H' => (∃ v, σ = [some (.ref s), some (.ref m), some (.ref p), some (.ref d), v, none, none, none, none]) ∧ Same H H' ∧ ∃ zs : List Str, H' d = some (.lst (zs.map V.str)) ∧ zs.length ≤ 2 * i ∧ ∀ z ∈ zs, z ∈ ss) ⟨⟨none, rfl⟩, S0, [], upd_same, Nat.le_refl _, fun z hz => (List.not_mem_nil hz).elim⟩ (fun i σ H' _ p => p.2.1.seq hm) ?_ ?_⟩
    · rintro i y σ H' hi ⟨⟨v, rfl⟩, hS, zs, hz, zl, zo⟩
      obtain ⟨a, x, rfl, hxi, hat⟩ := hms.get hi
      obtain ⟨d', t1, t2, ha, _, _⟩ := MkAt.same hS hat
      have il : i < ms.length := (List.getElem?_eq_some_iff.mp hxi).1
      have ox := hx x (List.mem_of_getElem? hxi)
      dsimp only [gName, List.set_cons_succ, List.set_cons_zero]
      refine ⟨_, rfl, .inl ⟨rfl, _, SqL.of hz⟩, _, rfl, a, B, d', _, _, rfl, ha, TM.cl, TM.nk, makF_maker _ _ _ _, _, rfl, a, B, d', _, _, rfl, ha, TM.cl, TM.nd, makF_made _ _ _ _, by show 2 ≤ sizeLine; decide, fun l2 nl2 => ?_⟩
      refine ⟨d, l2, _, _, rfl, rfl, Same.upd nl2 _ _ hz, upd_same, ?_, ⟨_, rfl⟩, Sd (hS.trans (Same.upd nl2)), zs ++ [x.mr, x.md], ?_, ?_, ?_⟩
      · rw [List.length_map]
        exact Nat.le_trans (show zs.length + 2 ≤ 10000 by omega) (by decide)
      · rw [upd_same, List.map_append]
        rfl
      · rw [List.length_append]
        show zs.length + 2 ≤ _
        omega
      · intro z hzm
        rcases List.mem_append.mp hzm with q | q
        · exact zo z q
        · rcases List.mem_cons.mp q with e | q
          · rw [e]; exact ox.1
          · rw [List.mem_singleton.mp q]; exact ox.2
    rintro σ H1 ⟨⟨v, rfl⟩, hS1, zs, hz, zl, zo⟩
    rw [List.length_map, hms.len] at zl
    refine ⟨_, rfl, p, rfl, ⟨_, hS1.seq hp⟩, for_list (K := K) (a := p) (xs := bs.map V.ref) (fun i σ H' => (∃ v u, σ = [some (.ref s), some (.ref m), some (.ref p), some (.ref d), v, u, none, none, none]) ∧ Same H H' ∧ ∃ zs : List Str, H' d = some (.lst (zs.map V.str)) ∧ zs.length ≤ 2 * ms.length + 4 * i ∧ ∀ z ∈ zs, z ∈ ss) ⟨⟨_, none, rfl⟩, hS1, zs, hz, by omega, zo⟩ (fun i σ H' _ p => p.2.1.seq hp) ?_ ?_⟩
    · rintro i y σ H' hi ⟨⟨v, u, rfl⟩, hS, zs, hz, zl, zo⟩
      obtain ⟨a, x, rfl, hxi, hat⟩ := hvv.get hi
      obtain ⟨C, d', fs, t1, ps, ha, hc, hn, hlk, ht, hrow⟩ := PvAt.same hS hat
      have il : i < vv.length := (List.getElem?_eq_some_iff.mp hxi).1
      have xm := List.mem_of_getElem? hxi
      have x4 := v4 x xm
      dsimp only [gName, List.set_cons_succ, List.set_cons_zero]
      refine ⟨_, rfl, .inl ⟨rfl, _, SqL.of hz⟩, _, rfl, a, C, d', _, _, rfl, ha, hc, hn, hlk, t1, rfl, ⟨_, ht⟩, fun D hD => ?_⟩
      have ndD : d ≠ D := ne_of_none hz hD
      refine lc_it walk_tup (fun j G => Same H' G ∧ ∃ us : List Str, G D = some (.lst (us.map V.str)) ∧ us.length ≤ j ∧ ∀ z ∈ us, z ∈ ss) ⟨Same.upd hD, [], upd_same, Nat.le_refl _, fun z hz => (List.not_mem_nil hz).elim⟩ (fun j G _ p => same_seqT p.1 ht) ?_ ?_
      · rintro j x' G G' hj ⟨hSG, us, hu, ul, uo⟩ ⟨rfl, hxj⟩
        obtain ⟨q, hqj, rfl⟩ := map_ref_get hxj
        obtain ⟨r, hrj, hqr⟩ := hrow.get hqj
        obtain ⟨⟨n, so⟩, hvj, rfl⟩ := var_get hrj
        have jl : j < x.length := (List.getElem?_eq_some_iff.mp hvj).1
        refine ⟨q, _, rfl, same_seqT hSG hqr, rfl, _, _, rfl, _, _, rfl, rfl, rfl, ?_⟩
        cases so with
        | none =>
          refine ⟨_, rfl, _, rfl, ?_⟩
          refine iteF ?_
          exact ⟨hSG, us, hu, by omega, uo⟩
        | some z =>
          refine ⟨_, rfl, _, rfl, ?_⟩
          refine iteT ?_
          refine ⟨_, rfl, _, hu, ?_, ?_, us ++ [z], ?_, ?_, ?_⟩
          · rw [List.length_map]
            exact Nat.lt_of_le_of_lt (show us.length ≤ 100 by omega) (by decide)
          · intro b o h
            rw [upd_ne (ne_of_none h hD)]
            exact hSG b o h
          · rw [upd_same, List.map_append]
            rfl
          · rw [List.length_append, List.length_singleton]
            omega
          · intro y hyy
            rcases List.mem_append.mp hyy with q | q
            · exact uo y q
            · rw [List.mem_singleton.mp q]
              exact hy x xm (n, some z) (List.mem_of_getElem? hvj) z rfl
      · rintro G ⟨hSG, us, hu, ul, uo⟩
        have ul4 : us.length ≤ 4 := by
          rw [List.length_map, hrow.len, List.length_map] at ul
          omega
        refine ⟨d, D, _, _, rfl, rfl, hSG _ _ hz, hu, ?_, ⟨_, _, rfl⟩, Sd (hS.trans hSG), zs ++ us, ?_, ?_, ?_⟩
        · rw [List.length_map, List.length_map]
          exact Nat.le_trans (show zs.length + us.length ≤ 10000 by omega) (by decide)
        · rw [upd_same, List.map_append]
        · rw [List.length_append]
          omega
        · intro z hzm
          rcases List.mem_append.mp hzm with q | q
          · exact zo z q
          · exact uo z q
    rintro σ H2 ⟨⟨v, u, rfl⟩, hS2, zs, hz, zl, zo⟩
    refine ⟨_, rfl, d, rfl, ⟨_, SqL.of hz⟩, for_list (K := K) (a := d) (xs := zs.map V.str) (fun i σ H' => (∃ v u t, σ = [some (.ref s), some (.ref m), some (.ref p), some (.ref d), v, u, t, none, none]) ∧ H' = H2) ⟨⟨_, _, none, rfl⟩, rfl⟩ (fun i σ H' _ p => by rw [p.2]; exact SqL.of hz) ?_ (fun σ H' p => by rw [p.2]; exact k _ hS2)⟩
    rintro i y σ H' hi ⟨⟨v, u, t, rfl⟩, rfl⟩
    rw [List.getElem?_map] at hi
    obtain ⟨z, hzi, rfl⟩ := Option.map_eq_some_iff.mp hi
    dsimp only [gName, List.set_cons_succ, List.set_cons_zero]
    refine ⟨_, rfl, _, rfl, s, _, rfl, .inl (hS2.seq hs), rfl, flat_of ss, _, rfl, ?_⟩
    show if (!inV (.str z) (ss.map V.str)) = true then _ else _
    rw [inV_strs, decide_eq_true (zo z (List.mem_of_getElem? hzi))]
    exact iteF ⟨⟨_, _, _, rfl⟩, rfl⟩
end
end Wm
namespace Wm
open PySem L2 StX
def spRNW (K : PySem.W.Frag) (MB RB BB : Addr) : Sp := fun vs H Q _ => ∃ (w m r b : Addr) (ws : List Str) (as bs cs : List Addr) (ms : List MkD) (rs : List RlD) (ps : List PtD), vs = [.ref w, .ref m, .ref r, .ref b] ∧ SqL K H w (ws.map V.str) ∧ SqL K H m (as.map V.ref) ∧ AllAt (MkAt K MB H) as ms ∧ SqL K H r (bs.map V.ref) ∧ AllAt (RlAt K RB H) bs rs ∧ SqL K H b (cs.map V.ref) ∧ AllAt (BrAt K BB H) cs ps ∧
  ms.length ≤ 1000 ∧ rs.length ≤ 1000 ∧ ps.length ≤ 1000 ∧ (∀ x ∈ ms, x.dn.length ≤ 100 ∧ x.up.length ≤ 100) ∧ (∀ x ∈ rs, x.p.cs.length ≤ 3) ∧ (∀ x ∈ ps, x.cs.length ≤ 3) ∧ (∀ x ∈ ms, (∀ z ∈ x.dn, z ∈ ws) ∧ ∀ z ∈ x.up, z ∈ ws) ∧ (∀ x ∈ rs, (∀ t ∈ x.p.cs, t.2.1 ∈ ws) ∧ x.g.2.1 ∈ ws) ∧ (∀ x ∈ ps, ∀ t ∈ x.cs, t.2.1 ∈ ws) ∧ ∀ H', Same H H' → Q .non H'
section
variable {P : Program} {w : World} {K : PySem.W.Frag} {mg : Str → Option Value} {base : Heap}
theorem scRNW : FnScope ["words", "makings", "rules", "bars", "asked", "making", "rule", "bar", "name", "x", "word", "y"] ["words", "makings", "rules", "bars"] (defScope sRNW) := ⟨rfl, rfl, rfl, by decide +kernel, rfl, by decide +kernel, by decide +kernel⟩
theorem ok_rnw {f MB fM RB fR BB fB : Addr} {fd : FuncData} (F : Fun K "refuse_no_word" "refuse_no_word" sRNW f fd) (TM : TxMak K mg MB fM) (TR : TxRul K mg RB fR) (TB : TxBar K mg BB fB) : FnOk P w K mg base CX0 1 f fd ["words", "makings", "rules", "bars"] (spRNW K MB RB BB) := by
  refine F.ok scRNW (fun vs H Q E h => ?_) (fun cdv A outer s H vs Q E hr h => ?_)
  · obtain ⟨w, m, r, b, ws, as, bs, cs, ms, rs, ps, rfl, _⟩ := h
    rfl
  · obtain ⟨w, m, r, b, ws, as, bs, cs, ms, rs, ps, rfl, hw, hm, hms, hr', hrs, hb, hps, ml, rl, pl, m1, r1, p1, mo, ro, po, k⟩ := h
    refine ⟨_, (pss_cons (ps_set (i := 4) scRNW.nd rfl (Or.inl rfl) (pe_lst pa_nil))
      (pss_cons (ps_for PassesOwn.never rfl (pi_list (pv 1)) (pg_name (i := 5) scRNW.nd rfl (Or.inl rfl)) (pss_one (ps_expr (pe_bm PySem.F.plainAttrs_list PySem.F.slot_list_extend PySem.F.type_list_extend mt_extend (pv 4) (pa_cons (pe_lst (pa_star (pe_fld (pv 5) rfl) (pa_star (pe_fld (pv 5) rfl) pa_nil))) pa_nil)))))
      (pss_cons (ps_for PassesOwn.never rfl (pi_list (pv 2)) (pg_name (i := 6) scRNW.nd rfl (Or.inl rfl)) (pss_one (ps_expr (pe_bm PySem.F.plainAttrs_list PySem.F.slot_list_extend PySem.F.type_list_extend mt_extend (pv 4) (pa_cons (pe_lc (own := [("x", 9), ("word", 10), ("y", 11)]) (g := gTup K 3 (gCons (gName 9) (gCons (gName 10) (gCons (gName 11) gNil)))) rfl scRNW.nd (pi_list (pe_lst (pa_star (pe_fld (pv 6) rfl) (pa_cons (pe_fld (pv 6) rfl) pa_nil)))) (blkOk_by (N := ["words", "makings", "rules", "bars", "asked", "making", "rule", "bar", "name", "x", "word", "y"]) (sc := defScope sRNW) (by decide +kernel)) (fun _ _ _ _ _ => (pg_tup rfl (pgs_cons (pg_name (i := 9) scRNW.nd rfl (Or.inl rfl)) (pgs_cons (pg_name (i := 10) scRNW.nd rfl (Or.inl rfl)) (pgs_cons (pg_name (i := 11) scRNW.nd rfl (Or.inl rfl)) pgs_nil))))) (fun _ _ _ _ _ => pts_nil) (fun _ _ _ _ _ => (pv 10))) pa_nil)))))
      (pss_cons (ps_for PassesOwn.never rfl (pi_list (pv 3)) (pg_name (i := 7) scRNW.nd rfl (Or.inl rfl)) (pss_one (ps_expr (pe_bm PySem.F.plainAttrs_list PySem.F.slot_list_extend PySem.F.type_list_extend mt_extend (pv 4) (pa_cons (pe_lc (own := [("x", 9), ("word", 10), ("y", 11)]) (g := gTup K 3 (gCons (gName 9) (gCons (gName 10) (gCons (gName 11) gNil)))) rfl scRNW.nd (pi_tup (pe_fld (pv 7) rfl)) (blkOk_by (N := ["words", "makings", "rules", "bars", "asked", "making", "rule", "bar", "name", "x", "word", "y"]) (sc := defScope sRNW) (by decide +kernel)) (fun _ _ _ _ _ => (pg_tup rfl (pgs_cons (pg_name (i := 9) scRNW.nd rfl (Or.inl rfl)) (pgs_cons (pg_name (i := 10) scRNW.nd rfl (Or.inl rfl)) (pgs_cons (pg_name (i := 11) scRNW.nd rfl (Or.inl rfl)) pgs_nil))))) (fun _ _ _ _ _ => pts_nil) (fun _ _ _ _ _ => (pv 10))) pa_nil)))))
      (pss_one (ps_for PassesOwn.never rfl (pi_list (pv 4)) (pg_name (i := 8) scRNW.nd rfl (Or.inl rfl)) (pss_one (ps_if (pt_cmpR op_notIn_seq (pv 8) (pv 0) (by rfl)) (pss_one ps_never) pss_nil)))))))), ?_⟩
    refine ⟨Nat.zero_le _, fun d hd => ?_⟩
    dsimp only [List.set_cons_succ, List.set_cons_zero]
    have Sd : ∀ {H1 : Hp} {o : HO}, Same H H1 → Same H (upd H1 d o) := fun hs b o e => by
      rw [upd_ne (ne_of_none e hd)]
      exact hs b o e
    have S0 : Same H (upd H d (.lst [])) := Same.upd hd
    -- the words of the makings
    refine ⟨_, rfl, m, rfl, ⟨_, S0.seq hm⟩, for_list (K := K) (a := m) (xs := as.map V.ref) (fun i σ H' => (∃ v, σ = [some (.ref w), some (.ref m), some (.ref r), some (.ref b), some (.ref d), v, none, none, none, none, none, none]) ∧ Same H H' ∧ ∃ zs : List Str, H' d = some (.lst (zs.map V.str)) ∧ zs.length ≤ 200 * i ∧ ∀ z ∈ zs, z ∈ ws) ⟨⟨none, rfl⟩, S0, [], upd_same, Nat.le_refl _, fun z hz => (List.not_mem_nil hz).elim⟩ (fun i σ H' _ p => p.2.1.seq hm) ?_ ?_⟩
    · rintro i y σ H' hi ⟨⟨v, rfl⟩, hS, zs, hz, zl, zo⟩
      obtain ⟨a, x, rfl, hxi, hat⟩ := hms.get hi
      obtain ⟨d', t1, t2, ha, ht1, ht2⟩ := MkAt.same hS hat
      have il : i < ms.length := (List.getElem?_eq_some_iff.mp hxi).1
      have xm := List.mem_of_getElem? hxi
      have x1 := m1 x xm
      have xo := mo x xm
      dsimp only [gName, List.set_cons_succ, List.set_cons_zero]
      refine ⟨_, rfl, .inl ⟨rfl, _, SqL.of hz⟩, _, rfl, a, MB, d', _, _, rfl, ha, TM.cl, TM.nw, makF_down _ _ _ _, t1, _, rfl, .inl ht1, _, rfl, a, MB, d', _, _, rfl, ha, TM.cl, TM.nu, makF_up _ _ _ _, t2, _, rfl, .inl ht2, ?_⟩
      show (x.dn.map V.str ++ (x.up.map V.str ++ [])).length ≤ sizeLine ∧ _
      rw [show (x.dn.map V.str ++ (x.up.map V.str ++ [])) = (x.dn ++ x.up).map V.str by rw [List.append_nil, List.map_append]]
      refine ⟨Nat.le_trans (show _ ≤ 1000 by rw [List.length_map, List.length_append]; omega) (by decide), fun l2 nl2 => ?_⟩
      refine ⟨d, l2, _, _, rfl, rfl, Same.upd nl2 _ _ hz, upd_same, ?_, ⟨_, rfl⟩, Sd (hS.trans (Same.upd nl2)), zs ++ (x.dn ++ x.up), ?_, ?_, ?_⟩
      · rw [List.length_map, List.length_map, List.length_append]
        exact Nat.le_trans (show _ ≤ 1000000 by omega) (by decide)
      · rw [upd_same]
        simp
      · rw [List.length_append, List.length_append]
        omega
      · intro z hzm
        rcases List.mem_append.mp hzm with q | q
        · exact zo z q
        · rcases List.mem_append.mp q with q | q
          · exact xo.1 z q
          · exact xo.2 z q
    rintro σ H1 ⟨⟨v, rfl⟩, hS1, zs, hz, zl, zo⟩
    rw [List.length_map, hms.len] at zl
    -- those of the rules
    refine ⟨_, rfl, r, rfl, ⟨_, hS1.seq hr'⟩, for_list (K := K) (a := r) (xs := bs.map V.ref) (fun i σ H' => (∃ v u, σ = [some (.ref w), some (.ref m), some (.ref r), some (.ref b), some (.ref d), v, u, none, none, none, none, none]) ∧ Same H H' ∧ ∃ zs : List Str, H' d = some (.lst (zs.map V.str)) ∧ zs.length ≤ 200 * ms.length + 4 * i ∧ ∀ z ∈ zs, z ∈ ws) ⟨⟨_, none, rfl⟩, hS1, zs, hz, by omega, zo⟩ (fun i σ H' _ p => p.2.1.seq hr') ?_ ?_⟩
    · rintro i y σ H' hi ⟨⟨v, u, rfl⟩, hS, zs, hz, zl, zo⟩
      obtain ⟨a, x, rfl, hxi, hat⟩ := hrs.get hi
      obtain ⟨d', t1, t2, t3, us, qs, ha, ht1, hu, ht2, hq, ht3⟩ := RlAt.same hS hat
      have il : i < rs.length := (List.getElem?_eq_some_iff.mp hxi).1
      have xm := List.mem_of_getElem? hxi
      have x1 := r1 x xm
      have xo := ro x xm
      have ql : qs.length = x.p.cs.length := by rw [hq.len, List.length_map]
      dsimp only [gName, List.set_cons_succ, List.set_cons_zero]
      refine ⟨_, rfl, .inl ⟨rfl, _, SqL.of hz⟩, _, rfl, a, RB, d', _, _, rfl, ha, TR.cl, TR.nc, rulF_cond _ _ _ _ _, t2, _, rfl, .inl ht2, _, rfl, a, RB, d', _, _, rfl, ha, TR.cl, TR.ng, rulF_gives _ _ _ _ _, ?_⟩
      show (qs.map V.ref ++ [V.ref t3]).length ≤ sizeLine ∧ _
      rw [show (qs.map V.ref ++ [V.ref t3]) = (qs ++ [t3]).map V.ref by rw [List.map_append]; rfl]
      refine ⟨Nat.le_trans (show _ ≤ 1000 by rw [List.length_map, List.length_append, List.length_singleton]; omega) (by decide), fun l2 nl2 => ?_⟩
      have S2 : Same H' (upd H' l2 (.lst ((qs ++ [t3]).map V.ref))) := Same.upd nl2
      have e2 : (upd H' l2 (.lst ((qs ++ [t3]).map V.ref))) l2 = some (.lst ((qs ++ [t3]).map V.ref)) := upd_same
      have rows : RowsAt K (upd H' l2 (.lst ((qs ++ [t3]).map V.ref))) (qs ++ [t3]) ((x.p.cs ++ [x.g]).map triV) := by
        have e : (x.p.cs ++ [x.g]).map triV = x.p.cs.map triV ++ [triV x.g] := by rw [List.map_append]; rfl
        rw [e]
        exact (hq.same S2).append (show RowsAt K _ [t3] [triV x.g] from ⟨same_seqT S2 ht3, True.intro⟩)
      generalize upd H' l2 (.lst ((qs ++ [t3]).map V.ref)) = G2 at S2 e2 rows
      refine ⟨l2, rfl, ⟨_, SqL.of e2⟩, fun D hD => ?_⟩
      refine lc_it walk_list (fun j G => Same G2 G ∧ G D = some (.lst ((((x.p.cs ++ [x.g]).take j).map (·.2.1)).map V.str))) ⟨Same.upd hD, upd_same⟩ (fun j G _ p => p.1.seq (SqL.of e2)) ?_ ?_
      · rintro j x' G G' hj ⟨hSG, hu'⟩ ⟨rfl, hxj⟩
        obtain ⟨q, hqj, rfl⟩ := map_ref_get hxj
        obtain ⟨rr, hrj, hqr⟩ := rows.get hqj
        obtain ⟨t, htj, rfl⟩ := tri_get hrj
        have jl : j < (x.p.cs ++ [x.g]).length := (List.getElem?_eq_some_iff.mp htj).1
        refine ⟨q, _, rfl, same_seqT hSG hqr, rfl, _, _, rfl, _, _, rfl, _, _, rfl, rfl, rfl, ?_⟩
        refine ⟨_, rfl, _, hu', ?_, ?_, ?_⟩
        · rw [List.length_map, List.length_map, List.length_take]
          rw [List.length_append, List.length_singleton] at jl ⊢
          exact Nat.lt_of_le_of_lt (show _ ≤ 100 by omega) (by decide)
        · intro b o h
          rw [upd_ne (ne_of_none h hD)]
          exact hSG b o h
        · rw [upd_same, List.take_add_one, htj, List.map_append, List.map_append]
          rfl
      · rintro G ⟨hSG, hu'⟩
        rw [List.length_map, rows.len, List.length_map, List.take_length] at hu'
        have hzG := hSG _ _ (S2 _ _ hz)
        refine ⟨d, D, _, _, rfl, rfl, hzG, hu', ?_, ⟨_, _, rfl⟩, Sd ((hS.trans S2).trans hSG), zs ++ (x.p.cs ++ [x.g]).map (·.2.1), ?_, ?_, ?_⟩
        · rw [List.length_map, List.length_map, List.length_map, List.length_append, List.length_singleton]
          exact Nat.le_trans (show _ ≤ 1000000 by omega) (by decide)
        · rw [upd_same]
          simp
        · rw [List.length_append, List.length_map, List.length_append, List.length_singleton]
          omega
        · intro z hzm
          rcases List.mem_append.mp hzm with q | q
          · exact zo z q
          · obtain ⟨t, ht, rfl⟩ := List.mem_map.mp q
            rcases List.mem_append.mp ht with q | q
            · exact xo.1 t q
            · rw [List.mem_singleton.mp q]
              exact xo.2
    rintro σ H2 ⟨⟨v, u, rfl⟩, hS2, zs, hz, zl, zo⟩
    rw [List.length_map, hrs.len] at zl
    -- those of the bars
    refine ⟨_, rfl, b, rfl, ⟨_, hS2.seq hb⟩, for_list (K := K) (a := b) (xs := cs.map V.ref) (fun i σ H' => (∃ v u t, σ = [some (.ref w), some (.ref m), some (.ref r), some (.ref b), some (.ref d), v, u, t, none, none, none, none]) ∧ Same H H' ∧ ∃ zs : List Str, H' d = some (.lst (zs.map V.str)) ∧ zs.length ≤ 200 * ms.length + 4 * rs.length + 4 * i ∧ ∀ z ∈ zs, z ∈ ws) ⟨⟨_, _, none, rfl⟩, hS2, zs, hz, by omega, zo⟩ (fun i σ H' _ p => p.2.1.seq hb) ?_ ?_⟩
    · rintro i y σ H' hi ⟨⟨v, u, t, rfl⟩, hS, zs, hz, zl, zo⟩
      obtain ⟨a, x, rfl, hxi, hat⟩ := hps.get hi
      obtain ⟨d', t1, t2, us, qs, ha, ht1, hu, ht2, hq⟩ := BrAt.same hS hat
      have il : i < ps.length := (List.getElem?_eq_some_iff.mp hxi).1
      have xm := List.mem_of_getElem? hxi
      have x1 := p1 x xm
      have xo := po x xm
      dsimp only [gName, List.set_cons_succ, List.set_cons_zero]
      refine ⟨_, rfl, .inl ⟨rfl, _, SqL.of hz⟩, _, rfl, a, BB, d', _, _, rfl, ha, TB.cl, TB.nc, barF_cond _ _ _, t2, rfl, ⟨_, ht2⟩, fun D hD => ?_⟩
      refine lc_it walk_tup (fun j G => Same H' G ∧ G D = some (.lst (((x.cs.take j).map (·.2.1)).map V.str))) ⟨Same.upd hD, upd_same⟩ (fun j G _ p => same_seqT p.1 ht2) ?_ ?_
      · rintro j x' G G' hj ⟨hSG, hu'⟩ ⟨rfl, hxj⟩
        obtain ⟨q, hqj, rfl⟩ := map_ref_get hxj
        obtain ⟨rr, hrj, hqr⟩ := hq.get hqj
        obtain ⟨t, htj, rfl⟩ := tri_get hrj
        have jl : j < x.cs.length := (List.getElem?_eq_some_iff.mp htj).1
        refine ⟨q, _, rfl, same_seqT hSG hqr, rfl, _, _, rfl, _, _, rfl, _, _, rfl, rfl, rfl, ?_⟩
        refine ⟨_, rfl, _, hu', ?_, ?_, ?_⟩
        · rw [List.length_map, List.length_map, List.length_take]
          exact Nat.lt_of_le_of_lt (show _ ≤ 100 by omega) (by decide)
        · intro b o h
          rw [upd_ne (ne_of_none h hD)]
          exact hSG b o h
        · rw [upd_same, List.take_add_one, htj, List.map_append, List.map_append]
          rfl
      · rintro G ⟨hSG, hu'⟩
        rw [List.length_map, hq.len, List.length_map, List.take_length] at hu'
        refine ⟨d, D, _, _, rfl, rfl, hSG _ _ hz, hu', ?_, ⟨_, _, _, rfl⟩, Sd (hS.trans hSG), zs ++ x.cs.map (·.2.1), ?_, ?_, ?_⟩
        · rw [List.length_map, List.length_map, List.length_map]
          exact Nat.le_trans (show _ ≤ 1000000 by omega) (by decide)
        · rw [upd_same, List.map_append]
        · rw [List.length_append, List.length_map]
          omega
        · intro z hzm
          rcases List.mem_append.mp hzm with q | q
          · exact zo z q
          · obtain ⟨t, ht, rfl⟩ := List.mem_map.mp q
            exact xo t ht
    rintro σ H3 ⟨⟨v, u, t, rfl⟩, hS3, zs, hz, zl, zo⟩
    refine ⟨_, rfl, d, rfl, ⟨_, SqL.of hz⟩, for_list (K := K) (a := d) (xs := zs.map V.str) (fun i σ H' => (∃ v u t n, σ = [some (.ref w), some (.ref m), some (.ref r), some (.ref b), some (.ref d), v, u, t, n, none, none, none]) ∧ H' = H3) ⟨⟨_, _, _, none, rfl⟩, rfl⟩ (fun i σ H' _ p => by rw [p.2]; exact SqL.of hz) ?_ (fun σ H' p => by rw [p.2]; exact k _ hS3)⟩
    rintro i y σ H' hi ⟨⟨v, u, t, n, rfl⟩, rfl⟩
    rw [List.getElem?_map] at hi
    obtain ⟨z, hzi, rfl⟩ := Option.map_eq_some_iff.mp hi
    dsimp only [gName, List.set_cons_succ, List.set_cons_zero]
    refine ⟨_, rfl, _, rfl, w, _, rfl, .inl (hS3.seq hw), rfl, flat_of ws, _, rfl, ?_⟩
    show if (!inV (.str z) (ws.map V.str)) = true then _ else _
    rw [inV_strs, decide_eq_true (zo z (List.mem_of_getElem? hzi))]
    exact iteF ⟨⟨_, _, _, _, rfl⟩, rfl⟩
end
end Wm
namespace Wm
open PySem L2 StX
/-- names in a row, of which the program refuses none -/
structure Row (zs : List Str) : Prop where
  nm : ∀ z ∈ zs, isNm z = true ∧ z.length ≤ 12
  nd : zs.Nodup
theorem Row.noTw {zs : List Str} (h : Row zs) : NoTw (zs.map V.str) := fun i x e => by
  rw [List.getElem?_map] at e
  obtain ⟨z, ez, rfl⟩ := Option.map_eq_some_iff.mp e
  rw [← List.map_take, inV_strs]
  refine decide_eq_false fun hm => ?_
  obtain ⟨j, hj⟩ := List.mem_iff_getElem?.mp hm
  have hlt : j < i := by
    have q := (List.getElem?_eq_some_iff.mp hj).1
    rw [List.length_take] at q
    omega
  rw [List.getElem?_take_of_lt hlt] at hj
  have hil := (List.getElem?_eq_some_iff.mp ez).1
  have e1 := (List.getElem?_eq_some_iff.mp ez).2
  have hjl := (List.getElem?_eq_some_iff.mp hj).1
  have e2 := (List.getElem?_eq_some_iff.mp hj).2
  exact (List.pairwise_iff_getElem.mp h.nd) j i hjl hil hlt (e2.trans e1.symm)
structure TxS (mg : Str → Option Value) : Prop where
  so : ∃ t, mg "MOST_SORTS" = some (.int 4 t)
  wo : ∃ t, mg "MOST_WORDS" = some (.int 5 t)
  ru : ∃ t, mg "MOST_RULES" = some (.int 8 t)
  ba : ∃ t, mg "MOST_BARS" = some (.int 4 t)
def spRNv (K : PySem.W.Frag) : Sp := fun vs H Q _ => ∃ (l : Addr) (zs : List Str), vs = [.ref l] ∧ SqL K H l (zs.map V.str) ∧ (∀ z ∈ zs, isNm z = true ∧ z.length ≤ 12) ∧ ∀ H', Same H H' → Q .non H'
/-- a scheme that is refused by nothing -/
structure SchOk (ss ws : List Str) (ms : List MkD) (rs : List RlD) (ps : List PtD) : Prop where
  sr : Row ss
  wr : Row ws
  s1 : 1 ≤ ss.length
  s4 : ss.length ≤ 4
  w1 : 1 ≤ ws.length
  w5 : ws.length ≤ 5
  m9 : ms.length ≤ 1000
  r8 : rs.length ≤ 8
  b4 : ps.length ≤ 4
  mt : (ms.map fun x => (x.mr, x.md)).Nodup
  rn : (rs.map (·.p.nm)).Nodup
  bn : (ps.map (·.nm)).Nodup
  so : ∀ z ∈ ss, okS z
  mo : ∀ x ∈ ms, x.mr ∈ ss ∧ x.md ∈ ss
  mu : ∀ x ∈ ms, ∃ i j : Nat, i < j ∧ ss[i]? = some x.mr ∧ ss[j]? = some x.md
  ml : ∀ x ∈ ms, x.dn.length ≤ 100 ∧ x.up.length ≤ 100
  mw : ∀ x ∈ ms, (∀ z ∈ x.dn, z ∈ ws) ∧ ∀ z ∈ x.up, z ∈ ws
  rv : ∀ x ∈ rs, x.p.vars.length ≤ 4 ∧ x.p.cs.length ≤ 3 ∧ (∀ y ∈ x.p.vars, ∀ z, y.2 = some z → z ∈ ss) ∧ (∀ t ∈ x.p.cs, t.2.1 ∈ ws) ∧ x.g.2.1 ∈ ws
  bv : ∀ x ∈ ps, x.vars.length ≤ 4 ∧ x.cs.length ≤ 3 ∧ (∀ y ∈ x.vars, ∀ z, y.2 = some z → z ∈ ss) ∧ ∀ t ∈ x.cs, t.2.1 ∈ ws
def spOL (K : PySem.W.Frag) : Sp := fun vs H Q _ => ∃ x : V, vs = [x] ∧ ((x = .non ∧ ∀ d, H d = none → Q (.ref d) (upd H d (.lst []))) ∨ ∃ (l : Addr) (xs : List V), x = .ref l ∧ SqL K H l xs ∧ ∀ d, H d = none → Q (.ref d) (upd H d (.lst xs)))
def spCS (K : PySem.W.Frag) (MB RB BB : Addr) : Sp := fun vs H Q _ => ∃ (s w m r b : Addr) (ss ws : List Str) (as bs cs : List Addr) (ms : List MkD) (rs : List RlD) (ps : List PtD), vs = [.ref s, .ref w, .ref m, .ref r, .ref b] ∧ SqL K H s (ss.map V.str) ∧ SqL K H w (ws.map V.str) ∧ SqL K H m (as.map V.ref) ∧ AllAt (MkAt K MB H) as ms ∧ SqL K H r (bs.map V.ref) ∧ AllAt (RlAt K RB H) bs rs ∧ SqL K H b (cs.map V.ref) ∧ AllAt (BrAt K BB H) cs ps ∧ SchOk ss ws ms rs ps ∧ ∀ H', Same H H' → Q .non H'
theorem noTw_of {zs : List Str} (h : zs.Nodup) : NoTw (zs.map V.str) := fun i x e => by
  rw [List.getElem?_map] at e
  obtain ⟨z, ez, rfl⟩ := Option.map_eq_some_iff.mp e
  rw [← List.map_take, inV_strs]
  refine decide_eq_false fun hm => ?_
  obtain ⟨j, hj⟩ := List.mem_iff_getElem?.mp hm
  have hlt : j < i := by
    have q := (List.getElem?_eq_some_iff.mp hj).1
    rw [List.length_take] at q
    omega
  rw [List.getElem?_take_of_lt hlt] at hj
  have hil := (List.getElem?_eq_some_iff.mp ez).1
  have hjl := (List.getElem?_eq_some_iff.mp hj).1
  exact (List.pairwise_iff_getElem.mp h) j i hjl hil hlt ((List.getElem?_eq_some_iff.mp hj).2.trans (List.getElem?_eq_some_iff.mp ez).2.symm)
theorem RlAt.pv {K : PySem.W.Frag} {mg : Str → Option Value} {RB fR : Addr} {H : Hp} {a : Addr} {x : RlD} (T : TxRul K mg RB fR) (h : RlAt K RB H a x) : PvAt K H a x.p.vars := by
  obtain ⟨d, t1, t2, t3, ps, qs, a1, a2, a3, _⟩ := h
  exact ⟨RB, d, _, t1, ps, a1, T.cl, T.nv, rulF_vars _ _ _ _ _, a2, a3⟩
theorem BrAt.pv {K : PySem.W.Frag} {mg : Str → Option Value} {BB fB : Addr} {H : Hp} {a : Addr} {x : PtD} (T : TxBar K mg BB fB) (h : BrAt K BB H a x) : PvAt K H a x.vars := by
  obtain ⟨d, t1, t2, ps, qs, a1, a2, a3, _⟩ := h
  exact ⟨BB, d, _, t1, ps, a1, T.cl, T.nv, barF_vars _ _ _, a2, a3⟩
theorem AllAt.map {α β : Type} {R : Addr → β → Prop} {f : α → β} : ∀ {as : List Addr} {xs : List α}, AllAt (fun a x => R a (f x)) as xs → AllAt R as (xs.map f)
  | [], [], _ => True.intro
  | _ :: _, _ :: _, q => ⟨q.1, AllAt.map q.2⟩
  | [], _ :: _, q => q.elim
  | _ :: _, [], q => q.elim
section
variable {P : Program} {w : World} {K : PySem.W.Frag} {mg : Str → Option Value} {base : Heap}
theorem ok_rnv {f fN : Addr} {fd fdN : FuncData} (F : Fun K "refuse_no_name" "refuse_no_name" sRN f fd) (D : Dn K mg "is_name" sName ["text"] fN fdN) (GN : FnOk P w K mg base CX0 1 fN fdN ["text"] spName) : FnOk P w K mg base CX0 2 f fd ["texts"] (spRNv K) := by
  refine F.ok scRN (fun vs H Q E h => ?_) (fun cdv A outer s H vs Q E hr h => ?_)
  · obtain ⟨l, zs, rfl, _⟩ := h
    rfl
  · obtain ⟨l, zs, rfl, hl, hn, k⟩ := h
    refine ⟨_, (pss_one (ps_for PassesOwn.never rfl (pi_list (pv 0)) (pg_name (i := 1) scRN.nd rfl (Or.inl rfl)) (pss_one (ps_if (pt_not (pt_val (pe_call GN hr rfl D.g D.F.kp D.b .nil pass0 (pa_cons (pv 1) pa_nil)))) (pss_one ps_never) pss_nil)))), ?_⟩
    refine ⟨_, rfl, l, rfl, ⟨_, hl⟩, for_list (K := K) (a := l) (xs := zs.map V.str) (fun i σ H' => (∃ v, σ = [some (.ref l), v]) ∧ Same H H') ⟨⟨none, rfl⟩, Same.refl H⟩ (fun i σ H' _ p => p.2.seq hl) ?_ (fun σ H' p => k H' p.2)⟩
    rintro i y σ H' hi ⟨⟨v, rfl⟩, hS⟩
    rw [List.getElem?_map] at hi
    obtain ⟨z, hz, rfl⟩ := Option.map_eq_some_iff.mp hi
    have hq := hn z (List.mem_of_getElem? hz)
    refine ⟨_, rfl, z, rfl, Nat.le_trans hq.2 (by decide), fun H2 hS2 => ⟨_, rfl, ?_⟩⟩
    rw [hq.1]
    exact iteF ⟨⟨_, rfl⟩, hS.trans hS2⟩
theorem scOL : FnScope ["rows"] ["rows"] (defScope sOL) := ⟨rfl, rfl, rfl, by decide +kernel, rfl, by decide +kernel, by decide +kernel⟩
theorem ok_ol {f : Addr} {fd : FuncData} (F : Fun K "own_list" "own_list" sOL f fd) (tl : mg "list" = none) : FnOk P w K mg base CX0 1 f fd ["rows"] (spOL K) := by
  refine F.ok scOL (fun vs H Q E h => ?_) (fun cdv A outer s H vs Q E hr h => ?_)
  · obtain ⟨x, rfl, _⟩ := h
    rfl
  · obtain ⟨x, rfl, h⟩ := h
    refine ⟨_, (pss_cons (ps_if (pt_cmp (pc_isN (pv 0))) (pss_one (ps_ret (pe_lst pa_nil))) pss_nil)
      (pss_one (ps_ret (pe_callTy call_list_of (by rfl) tl (by decide +kernel) (pa_cons (pv 0) pa_nil))))), ?_⟩
    refine ⟨_, rfl, _, rfl, ?_⟩
    rcases h with ⟨rfl, k⟩ | ⟨l, xs, rfl, hl, k⟩
    · exact iteT ⟨Nat.zero_le _, fun d hd => k d hd⟩
    · exact iteF ⟨_, rfl, l, _, rfl, .inl hl, fun d hd => k d hd⟩
theorem scCS : FnScope ["sorts", "words", "makings", "rules", "bars", "rule", "bar"] ["sorts", "words", "makings", "rules", "bars"] (defScope sCS) := ⟨rfl, rfl, rfl, by decide +kernel, rfl, by decide +kernel, by decide +kernel⟩
theorem ok_cs {f fRC fRN fRT fRM fNS fRU fNW fF MB fM RB fR BB fB : Addr} {fd dRC dRN dRT dRM dNS dRU dNW dF : FuncData} (F : Fun K "check_scheme" "check_scheme" sCS f fd) (T : TxB mg) (TS : TxS mg) (TM : TxMak K mg MB fM) (TR : TxRul K mg RB fR) (TB : TxBar K mg BB fB)
    (DC : Dn K mg "refuse_count" sRC ["what", "count", "least", "most"] fRC dRC) (DN : Dn K mg "refuse_no_name" sRN ["texts"] fRN dRN) (DT : Dn K mg "refuse_twice" sRT ["names"] fRT dRT) (DM : Dn K mg "refuse_makings_twice" sRMT ["makings"] fRM dRM) (DS : Dn K mg "refuse_no_sort" sRNS ["sorts", "makings", "patterns"] fNS dNS) (DU : Dn K mg "refuse_upward" sRU ["sorts", "makings"] fRU dRU) (DW : Dn K mg "refuse_no_word" sRNW ["words", "makings", "rules", "bars"] fNW dNW) (DF : Dn K mg "first_twice" sFT ["row"] fF dF)
    (GN : FnOk P w K mg base CX0 2 fRN dRN ["texts"] (spRNv K)) (GT : FnOk P w K mg base CX0 2 fRT dRT ["names"] (spFT K)) : FnOk P w K mg base CX0 3 f fd ["sorts", "words", "makings", "rules", "bars"] (spCS K MB RB BB) := by
  have GC : FnOk P w K mg base CX0 1 fRC dRC _ spRC := ok_rc DC.F
  have GM : FnOk P w K mg base CX0 2 fRM dRM _ (spRMT K MB) := ok_rmt DM.F T TM DF
  have GS : FnOk P w K mg base CX0 1 fNS dNS _ (spRNS K MB) := ok_rns DS.F TM
  have GU : FnOk P w K mg base CX0 1 fRU dRU _ (spRU K MB) := ok_ru DU.F TM
  have GW : FnOk P w K mg base CX0 1 fNW dNW _ (spRNW K MB RB BB) := ok_rnw DW.F TM TR TB
  refine F.ok scCS (fun vs H Q E h => ?_) (fun cdv A outer s H vs Q E hr h => ?_)
  · obtain ⟨s, w, m, r, b, ss, ws, as, bs, cs, ms, rs, ps, rfl, _⟩ := h
    rfl
  · obtain ⟨s, w, m, r, b, ss, ws, as, bs, cs, ms, rs, ps, rfl, hs, hw, hm, hms, hr', hrs, hb, hps, ok, k⟩ := h
    have hr1 : Room 1 _ := hr.mono (by decide)
    obtain ⟨t1, g1⟩ := TS.so
    obtain ⟨t2, g2⟩ := TS.wo
    obtain ⟨t3, g3⟩ := TS.ru
    obtain ⟨t4, g4⟩ := TS.ba
    have sl1 := ok.s1
    have sl4 := ok.s4
    have wl1 := ok.w1
    have wl5 := ok.w5
    have rl8 := ok.r8
    have bl4 := ok.b4
    have lr := hrs.len
    have lb := hps.len
    refine ⟨_, (pss_cons (ps_expr (pe_call GC hr1 rfl DC.g DC.F.kp DC.b .nil pass0 (pa_cons pe_str (pa_cons (pe_callB call_len_seq (by rfl) T.len (by decide +kernel) (pa_cons (pv 0) pa_nil)) (pa_cons pe_int (pa_cons (pe_glob (v := .int 4) rfl g1 ⟨t1, rfl⟩) pa_nil))))))
      (pss_cons (ps_expr (pe_call GC hr1 rfl DC.g DC.F.kp DC.b .nil pass0 (pa_cons pe_str (pa_cons (pe_callB call_len_seq (by rfl) T.len (by decide +kernel) (pa_cons (pv 1) pa_nil)) (pa_cons pe_int (pa_cons (pe_glob (v := .int 5) rfl g2 ⟨t2, rfl⟩) pa_nil))))))
      (pss_cons (ps_expr (pe_call GC hr1 rfl DC.g DC.F.kp DC.b .nil pass0 (pa_cons pe_str (pa_cons (pe_callB call_len_seq (by rfl) T.len (by decide +kernel) (pa_cons (pv 3) pa_nil)) (pa_cons pe_int (pa_cons (pe_glob (v := .int 8) rfl g3 ⟨t3, rfl⟩) pa_nil))))))
      (pss_cons (ps_expr (pe_call GC hr1 rfl DC.g DC.F.kp DC.b .nil pass0 (pa_cons pe_str (pa_cons (pe_callB call_len_seq (by rfl) T.len (by decide +kernel) (pa_cons (pv 4) pa_nil)) (pa_cons pe_int (pa_cons (pe_glob (v := .int 4) rfl g4 ⟨t4, rfl⟩) pa_nil))))))
      (pss_cons (ps_expr (pe_call GN hr rfl DN.g DN.F.kp DN.b .nil pass0 (pa_cons (pv 0) pa_nil)))
      (pss_cons (ps_expr (pe_call GN hr rfl DN.g DN.F.kp DN.b .nil pass0 (pa_cons (pv 1) pa_nil)))
      (pss_cons (ps_expr (pe_call GT hr rfl DT.g DT.F.kp DT.b .nil pass0 (pa_cons (pv 0) pa_nil)))
      (pss_cons (ps_expr (pe_call GT hr rfl DT.g DT.F.kp DT.b .nil pass0 (pa_cons (pv 1) pa_nil)))
      (pss_cons (ps_expr (pe_call GM hr rfl DM.g DM.F.kp DM.b .nil pass0 (pa_cons (pv 2) pa_nil)))
      (pss_cons (ps_expr (pe_call GT hr rfl DT.g DT.F.kp DT.b .nil pass0 (pa_cons (pe_lc (own := [("rule", 5)]) (g := gName 5) (te := tFld K (tVar 5) "name") rfl scCS.nd (pi_list (pv 3)) (blkOk_by (N := ["sorts", "words", "makings", "rules", "bars", "rule", "bar"]) (sc := defScope sCS) (by decide +kernel)) (fun _ _ _ _ _ => (pg_name (i := 5) scCS.nd rfl (Or.inl rfl))) (fun _ _ _ _ _ => pts_nil) (fun _ _ _ _ _ => (pe_fld (pv 5) rfl))) pa_nil)))
      (pss_cons (ps_expr (pe_call GT hr rfl DT.g DT.F.kp DT.b .nil pass0 (pa_cons (pe_lc (own := [("bar", 6)]) (g := gName 6) (te := tFld K (tVar 6) "name") rfl scCS.nd (pi_list (pv 4)) (blkOk_by (N := ["sorts", "words", "makings", "rules", "bars", "rule", "bar"]) (sc := defScope sCS) (by decide +kernel)) (fun _ _ _ _ _ => (pg_name (i := 6) scCS.nd rfl (Or.inl rfl))) (fun _ _ _ _ _ => pts_nil) (fun _ _ _ _ _ => (pe_fld (pv 6) rfl))) pa_nil)))
      (pss_cons (ps_expr (pe_call GS hr1 rfl DS.g DS.F.kp DS.b .nil pass0 (pa_cons (pv 0) (pa_cons (pv 2) (pa_cons (pe_lst (pa_star (pv 3) (pa_star (pv 4) pa_nil))) pa_nil)))))
      (pss_cons (ps_expr (pe_call GU hr1 rfl DU.g DU.F.kp DU.b .nil pass0 (pa_cons (pv 0) (pa_cons (pv 2) pa_nil))))
      (pss_one (ps_expr (pe_call GW hr1 rfl DW.g DW.F.kp DW.b .nil pass0 (pa_cons (pv 1) (pa_cons (pv 2) (pa_cons (pv 3) (pa_cons (pv 4) pa_nil)))))))))))))))))))), ?_⟩
    refine ⟨_, rfl, s, _, rfl, .inl hs, _, _, _, _, rfl, by rw [List.length_map]; omega, by rw [List.length_map]; omega, ?_⟩
    refine ⟨_, rfl, w, _, rfl, .inl hw, _, _, _, _, rfl, by rw [List.length_map]; omega, by rw [List.length_map]; omega, ?_⟩
    refine ⟨_, rfl, r, _, rfl, .inl hr', _, _, _, _, rfl, by rw [List.length_map]; omega, by rw [List.length_map]; omega, ?_⟩
    refine ⟨_, rfl, b, _, rfl, .inl hb, _, _, _, _, rfl, by rw [List.length_map]; omega, by rw [List.length_map]; omega, ?_⟩
    refine ⟨_, rfl, s, ss, rfl, hs, ok.sr.nm, fun H1 S1 => ?_⟩
    refine ⟨_, rfl, w, ws, rfl, S1.seq hw, ok.wr.nm, fun H2 S2 => ?_⟩
    have S12 := S1.trans S2
    refine ⟨_, rfl, s, _, rfl, .inl (S12.seq hs), flat_of ss, ok.sr.noTw, fun H3 S3 => ?_⟩
    have S13 := S12.trans S3
    refine ⟨_, rfl, w, _, rfl, .inl (S13.seq hw), flat_of ws, ok.wr.noTw, fun H4 S4 => ?_⟩
    have S14 := S13.trans S4
    refine ⟨_, rfl, m, as, ms, rfl, S14.seq hm, hms.imp fun _ _ q => q.same S14, ok.m9, ok.mt, fun x hx => ⟨ok.so _ (ok.mo x hx).1, ok.so _ (ok.mo x hx).2⟩, fun H5 S5 => ?_⟩
    have S15 := S14.trans S5
    -- names of the rules
    refine ⟨_, rfl, r, rfl, ⟨_, S15.seq hr'⟩, fun D hD => ?_⟩
    refine lc_list (K := K) (a := r) (xs := bs.map V.ref) (fun i H' => Same H5 H' ∧ H' D = some (.lst (((rs.take i).map (·.p.nm)).map V.str))) ⟨Same.upd hD, upd_same⟩ (fun i H' _ p => (S15.trans p.1).seq hr') ?_ ?_
    · rintro i x H' hi ⟨hS, hl⟩
      obtain ⟨a, y, rfl, hy, hat⟩ := hrs.get hi
      obtain ⟨d, t1, t2, t3, us, qs, ha, _⟩ := RlAt.same (S15.trans hS) hat
      have il : i < rs.length := (List.getElem?_eq_some_iff.mp hy).1
      refine ⟨rfl, ?_⟩
      refine ⟨_, rfl, a, RB, d, _, _, rfl, ha, TR.cl, TR.nn, rulF_name _ _ _ _ _, _, hl, ?_, ?_, ?_⟩
      · rw [List.length_map, List.length_map, List.length_take]
        exact Nat.lt_of_le_of_lt (show _ ≤ 100 by omega) (by decide)
      · intro b o h
        rw [upd_ne (ne_of_none h hD)]
        exact hS b o h
      · rw [upd_same, List.take_add_one, hy, List.map_append, List.map_append]
        rfl
    rintro H6 ⟨S6, hl6⟩
    rw [List.length_map, lr, List.take_length] at hl6
    refine ⟨D, _, rfl, .inl (SqL.of hl6), flat_of _, noTw_of ok.rn, fun H7 S7 => ?_⟩
    have S17 := (S15.trans S6).trans S7
    -- names of the bars
    refine ⟨_, rfl, b, rfl, ⟨_, S17.seq hb⟩, fun D2 hD2 => ?_⟩
    refine lc_list (K := K) (a := b) (xs := cs.map V.ref) (fun i H' => Same H7 H' ∧ H' D2 = some (.lst (((ps.take i).map (·.nm)).map V.str))) ⟨Same.upd hD2, upd_same⟩ (fun i H' _ p => (S17.trans p.1).seq hb) ?_ ?_
    · rintro i x H' hi ⟨hS, hl⟩
      obtain ⟨a, y, rfl, hy, hat⟩ := hps.get hi
      obtain ⟨d, t1, t2, us, qs, ha, _⟩ := BrAt.same (S17.trans hS) hat
      have il : i < ps.length := (List.getElem?_eq_some_iff.mp hy).1
      refine ⟨rfl, ?_⟩
      refine ⟨_, rfl, a, BB, d, _, _, rfl, ha, TB.cl, TB.nn, barF_name _ _ _, _, hl, ?_, ?_, ?_⟩
      · rw [List.length_map, List.length_map, List.length_take]
        exact Nat.lt_of_le_of_lt (show _ ≤ 100 by omega) (by decide)
      · intro b o h
        rw [upd_ne (ne_of_none h hD2)]
        exact hS b o h
      · rw [upd_same, List.take_add_one, hy, List.map_append, List.map_append]
        rfl
    rintro H8 ⟨S8, hl8⟩
    rw [List.length_map, lb, List.take_length] at hl8
    refine ⟨D2, _, rfl, .inl (SqL.of hl8), flat_of _, noTw_of ok.bn, fun H9 S9 => ?_⟩
    have S19 := (S17.trans S8).trans S9
    -- sorts
    refine ⟨_, rfl, _, rfl, _, rfl, r, _, rfl, .inr (S19.seq hr'), _, rfl, b, _, rfl, .inr (S19.seq hb), ?_⟩
    show (bs.map V.ref ++ (cs.map V.ref ++ [])).length ≤ sizeLine ∧ _
    rw [show (bs.map V.ref ++ (cs.map V.ref ++ [])) = (bs ++ cs).map V.ref by rw [List.append_nil, List.map_append]]
    refine ⟨Nat.le_trans (show _ ≤ 1000 by rw [List.length_map, List.length_append]; omega) (by decide), fun q hq => ?_⟩
    have Sq : Same H9 (upd H9 q (.lst ((bs ++ cs).map V.ref))) := Same.upd hq
    have eq : (upd H9 q (.lst ((bs ++ cs).map V.ref))) q = some (.lst ((bs ++ cs).map V.ref)) := upd_same
    generalize upd H9 q (.lst ((bs ++ cs).map V.ref)) = Hq at Sq eq
    have S1q := S19.trans Sq
    have pvs : AllAt (PvAt K Hq) (bs ++ cs) (rs.map (·.p.vars) ++ ps.map (·.vars)) := (AllAt.map (f := fun x : RlD => x.p.vars) (hrs.imp fun _ _ z => (z.same S1q).pv TR)).append (AllAt.map (f := fun x : PtD => x.vars) (hps.imp fun _ _ z => (z.same S1q).pv TB))
    refine ⟨s, m, q, ss, as, bs ++ cs, ms, _, rfl, S1q.seq hs, S1q.seq hm, hms.imp fun _ _ z => z.same S1q, SqL.of eq, pvs, ok.m9, ?_, ?_, ok.mo, ?_, fun HA SA => ?_⟩
    · rw [List.length_append, List.length_map, List.length_map]
      omega
    · intro v hv
      rcases List.mem_append.mp hv with z | z
      · obtain ⟨x, hx, rfl⟩ := List.mem_map.mp z
        exact (ok.rv x hx).1
      · obtain ⟨x, hx, rfl⟩ := List.mem_map.mp z
        exact (ok.bv x hx).1
    · intro v hv
      rcases List.mem_append.mp hv with z | z
      · obtain ⟨x, hx, rfl⟩ := List.mem_map.mp z
        exact (ok.rv x hx).2.2.1
      · obtain ⟨x, hx, rfl⟩ := List.mem_map.mp z
        exact (ok.bv x hx).2.2.1
    have S1A := S1q.trans SA
    refine ⟨_, rfl, _, rfl, s, m, ss, as, ms, rfl, S1A.seq hs, S1A.seq hm, hms.imp fun _ _ z => z.same S1A, ok.sr.nd, ok.mu, ?_⟩
    exact ⟨_, rfl, _, rfl, _, rfl, _, rfl, w, m, r, b, ws, as, bs, cs, ms, rs, ps, rfl, S1A.seq hw, S1A.seq hm, hms.imp fun _ _ z => z.same S1A, S1A.seq hr', hrs.imp fun _ _ z => z.same S1A, S1A.seq hb, hps.imp fun _ _ z => z.same S1A, ok.m9, by omega, by omega, ok.ml, fun x hx => (ok.rv x hx).2.1, fun x hx => (ok.bv x hx).2.1, ok.mw, fun x hx => (ok.rv x hx).2.2.2, fun x hx => (ok.bv x hx).2.2.2, fun HB SB => k _ (S1A.trans SB)⟩
end
end Wm
namespace Wm
open PySem L2 StX
def schF (l1 l2 l3 l4 l5 : Addr) : List (Str × V) := putF "own_bars" (.ref l5) (putF "own_rules" (.ref l4) (putF "own_makings" (.ref l3) (putF "own_words" (.ref l2) (putF "own_sorts" (.ref l1) []))))
theorem lookF {f : Str} {v : V} {fs : List (Str × V)} : (putF f v fs).lookup f = some v := by rw [lookup_putF, if_pos rfl]
theorem lookN {f g : Str} {v : V} {fs : List (Str × V)} (h : ¬ g = f) : (putF f v fs).lookup g = fs.lookup g := by rw [lookup_putF, if_neg h]
theorem schF_so (l1 l2 l3 l4 l5 : Addr) : (schF l1 l2 l3 l4 l5).lookup ("own_sorts" : Str) = some (.ref l1) := by
  unfold schF
  rw [lookN (by decide +kernel), lookN (by decide +kernel), lookN (by decide +kernel), lookN (by decide +kernel), lookF]
theorem schF_wo (l1 l2 l3 l4 l5 : Addr) : (schF l1 l2 l3 l4 l5).lookup ("own_words" : Str) = some (.ref l2) := by
  unfold schF
  rw [lookN (by decide +kernel), lookN (by decide +kernel), lookN (by decide +kernel), lookF]
theorem schF_mk (l1 l2 l3 l4 l5 : Addr) : (schF l1 l2 l3 l4 l5).lookup ("own_makings" : Str) = some (.ref l3) := by
  unfold schF
  rw [lookN (by decide +kernel), lookN (by decide +kernel), lookF]
theorem schF_ru (l1 l2 l3 l4 l5 : Addr) : (schF l1 l2 l3 l4 l5).lookup ("own_rules" : Str) = some (.ref l4) := by
  unfold schF
  rw [lookN (by decide +kernel), lookF]
theorem schF_ba (l1 l2 l3 l4 l5 : Addr) : (schF l1 l2 l3 l4 l5).lookup ("own_bars" : Str) = some (.ref l5) := by
  unfold schF
  rw [lookF]
/-- no other field -/
theorem schF_no {g : Str} (h1 : ¬ g = "own_bars") (h2 : ¬ g = "own_rules") (h3 : ¬ g = "own_makings") (h4 : ¬ g = "own_words") (h5 : ¬ g = "own_sorts") (l1 l2 l3 l4 l5 : Addr) : (schF l1 l2 l3 l4 l5).lookup g = none := by
  unfold schF
  rw [lookN h1, lookN h2, lookN h3, lookN h4, lookN h5]
  rfl
structure TxSch (K : PySem.W.Frag) (mg : Str → Option Value) (S fS : Addr) : Prop where
  cl : Cls K S
  n1 : NoAttr K S "own_sorts"
  n2 : NoAttr K S "own_words"
  n3 : NoAttr K S "own_makings"
  n4 : NoAttr K S "own_rules"
  n5 : NoAttr K S "own_bars"
  g : mg "Scheme" = some (.ref S)
  m : Mk K S fS
/-- a scheme at x, of these sorts, words, makings, rules, bars -/
def SchG (S : Addr) (H : Hp) (x : Addr) (ss ws : List Str) (as bs cs : List Addr) : Prop := ∃ dx l1 l2 l3 l4 l5, H x = some (.ins S dx (schF l1 l2 l3 l4 l5)) ∧ H l1 = some (.lst (ss.map V.str)) ∧ H l2 = some (.lst (ws.map V.str)) ∧ H l3 = some (.lst (as.map V.ref)) ∧ H l4 = some (.lst (bs.map V.ref)) ∧ H l5 = some (.lst (cs.map V.ref))
theorem SchG.same {S : Addr} {H H' : Hp} {x : Addr} {ss ws : List Str} {as bs cs : List Addr} (s : Same H H') (h : SchG S H x ss ws as bs cs) : SchG S H' x ss ws as bs cs := by
  obtain ⟨dx, l1, l2, l3, l4, l5, h0, h1, h2, h3, h4, h5⟩ := h
  exact ⟨dx, l1, l2, l3, l4, l5, s _ _ h0, s _ _ h1, s _ _ h2, s _ _ h3, s _ _ h4, s _ _ h5⟩
/-- what is handed in for a list that may be left out -/
def Own (K : PySem.W.Frag) (H : Hp) (v : V) (xs : List V) : Prop := (v = .non ∧ xs = []) ∨ ∃ l, v = .ref l ∧ SqL K H l xs
theorem Own.same {K : PySem.W.Frag} {H H' : Hp} {v : V} {xs : List V} (s : Same H H') (h : Own K H v xs) : Own K H' v xs := by
  rcases h with h | ⟨l, e, h⟩
  · exact .inl h
  · exact .inr ⟨l, e, s.seq h⟩
def spOL2 (K : PySem.W.Frag) : Sp := fun vs H Q _ => ∃ (x : V) (xs : List V), vs = [x] ∧ Own K H x xs ∧ ∀ d, H d = none → Q (.ref d) (upd H d (.lst xs))
/-- the parts of a whole scheme stand -/
structure Parts (K : PySem.W.Frag) (MB RB BB : Addr) (H : Hp) (as bs cs : List Addr) (ms : List MkD) (rs : List RlD) (ps : List PtD) : Prop where
  am : AllAt (MkAt K MB H) as ms
  ar : AllAt (RlAt K RB H) bs rs
  ab : AllAt (BrAt K BB H) cs ps
theorem Parts.same {K : PySem.W.Frag} {MB RB BB : Addr} {H H' : Hp} {as bs cs : List Addr} {ms : List MkD} {rs : List RlD} {ps : List PtD} (s : Same H H') (h : Parts K MB RB BB H as bs cs ms rs ps) : Parts K MB RB BB H' as bs cs ms rs ps :=
  ⟨h.am.imp fun _ _ q => q.same s, h.ar.imp fun _ _ q => q.same s, h.ab.imp fun _ _ q => q.same s⟩
def spSch (K : PySem.W.Frag) (S MB RB BB : Addr) : Sp := fun vs H Q _ => ∃ (H0 : Hp) (x dx s w : Addr) (vm vr vb : V) (ss ws : List Str) (as bs cs : List Addr) (ms : List MkD) (rs : List RlD) (ps : List PtD), vs = [.ref x, .ref s, .ref w, vm, vr, vb] ∧ Same H0 H ∧ H0 x = none ∧ H x = some (.ins S dx []) ∧ SqL K H0 s (ss.map V.str) ∧ SqL K H0 w (ws.map V.str) ∧
  Own K H0 vm (as.map V.ref) ∧ Own K H0 vr (bs.map V.ref) ∧ Own K H0 vb (cs.map V.ref) ∧ Parts K MB RB BB H0 as bs cs ms rs ps ∧ SchOk ss ws ms rs ps ∧ ∀ H', Same H0 H' → SchG S H' x ss ws as bs cs → Q .non H'
/-- all but x stands -/
def Keep (x : Addr) (H H' : Hp) : Prop := ∀ a o, a ≠ x → H a = some o → H' a = some o
theorem fstep {H0 H : Hp} {x l S dx : Addr} {fs : List (Str × V)} {f : Str} {xs : List V} (S0 : Same H0 H) (x0 : H0 x = none) (hx : H x = some (.ins S dx fs)) (hl : H l = none) :
    l ≠ x ∧ (upd H l (.lst xs)) x = some (.ins S dx fs) ∧ ∃ H', H' = upd (upd H l (.lst xs)) x (.ins S dx (putF f (.ref l) fs)) ∧ Same H0 H' ∧ H' l = some (.lst xs) ∧ H' x = some (.ins S dx (putF f (.ref l) fs)) ∧ Keep x H H' := by
  have n : l ≠ x := fun z => by
    rw [z, hx] at hl
    cases hl
  refine ⟨n, (upd_ne n.symm).trans hx, _, rfl, ?_, (upd_ne n).trans upd_same, upd_same, ?_⟩
  · intro b o e
    rw [upd_ne (ne_of_none e x0), upd_ne (ne_of_none (S0 b o e) hl)]
    exact S0 b o e
  · intro a o na e
    rw [upd_ne na, upd_ne (ne_of_none e hl)]
    exact e
section
variable {P : Program} {w : World} {K : PySem.W.Frag} {mg : Str → Option Value} {base : Heap}
theorem ok_ol2 {f : Addr} {fd : FuncData} (F : Fun K "own_list" "own_list" sOL f fd) (tl : mg "list" = none) : FnOk P w K mg base CX0 1 f fd ["rows"] (spOL2 K) := by
  refine F.ok scOL (fun vs H Q E h => ?_) (fun cdv A outer s H vs Q E hr h => ?_)
  · obtain ⟨x, xs, rfl, _⟩ := h
    rfl
  · obtain ⟨x, xs, rfl, h, k⟩ := h
    refine ⟨_, (pss_cons (ps_if (pt_cmp (pc_isN (pv 0))) (pss_one (ps_ret (pe_lst pa_nil))) pss_nil)
      (pss_one (ps_ret (pe_callTy call_list_of (by rfl) tl (by decide +kernel) (pa_cons (pv 0) pa_nil))))), ?_⟩
    refine ⟨_, rfl, _, rfl, ?_⟩
    rcases h with ⟨rfl, rfl⟩ | ⟨l, rfl, hl⟩
    · exact iteT ⟨Nat.zero_le _, fun d hd => k d hd⟩
    · exact iteF ⟨_, rfl, l, _, rfl, .inl hl, fun d hd => k d hd⟩
theorem scSch : FnScope ["self", "sorts", "words", "makings", "rules", "bars"] ["self", "sorts", "words", "makings", "rules", "bars"] (defScope sSch) := ⟨rfl, rfl, rfl, by decide +kernel, rfl, by decide +kernel, by decide +kernel⟩
theorem ok_sch {f fO fC S MB RB BB : Addr} {fd dO dC : FuncData} {dvs : List V} (F : FunD K "__init__" "Scheme.__init__" (defArgs sSch) (defBody sSch) (defScope sSch) dvs [] f fd) (tl : mg "list" = none) (TC : TxSch K mg S f) (DO : Dn K mg "own_list" sOL ["rows"] fO dO) (DC : Dn K mg "check_scheme" sCS ["sorts", "words", "makings", "rules", "bars"] fC dC)
    (GC : FnOk P w K mg base CX0 3 fC dC ["sorts", "words", "makings", "rules", "bars"] (spCS K MB RB BB)) : FnOk P w K mg base CX0 4 f fd ["self", "sorts", "words", "makings", "rules", "bars"] (spSch K S MB RB BB) := by
  have GO : FnOk P w K mg base CX0 1 fO dO _ (spOL2 K) := ok_ol2 DO.F tl
  refine F.ok scSch (fun vs H Q E h => ?_) (fun cdv A outer s H vs Q E hr h => ?_)
  · obtain ⟨H0, x, dx, s, w, vm, vr, vb, ss, ws, as, bs, cs, ms, rs, ps, rfl, _⟩ := h
    rfl
  · obtain ⟨H0, x, dx, s, w, vm, vr, vb, ss, ws, as, bs, cs, ms, rs, ps, rfl, S0, x0, hx, hs, hw, hm, hr', hb, pt, ok, k⟩ := h
    have hr1 : Room 1 _ := hr.mono (by decide)
    refine ⟨_, (pss_cons (ps_fld (pv 0) (pe_callTy call_list_of (by rfl) tl (by decide +kernel) (pa_cons (pv 1) pa_nil)) rfl)
      (pss_cons (ps_fld (pv 0) (pe_callTy call_list_of (by rfl) tl (by decide +kernel) (pa_cons (pv 2) pa_nil)) rfl)
      (pss_cons (ps_fld (pv 0) (pe_call GO hr1 rfl DO.g DO.F.kp DO.b .nil pass0 (pa_cons (pv 3) pa_nil)) rfl)
      (pss_cons (ps_fld (pv 0) (pe_call GO hr1 rfl DO.g DO.F.kp DO.b .nil pass0 (pa_cons (pv 4) pa_nil)) rfl)
      (pss_cons (ps_fld (pv 0) (pe_call GO hr1 rfl DO.g DO.F.kp DO.b .nil pass0 (pa_cons (pv 5) pa_nil)) rfl)
      (pss_one (ps_expr (pe_call GC hr rfl DC.g DC.F.kp DC.b .nil pass0 (pa_cons (pe_fld (pv 0) rfl) (pa_cons (pe_fld (pv 0) rfl) (pa_cons (pe_fld (pv 0) rfl) (pa_cons (pe_fld (pv 0) rfl) (pa_cons (pe_fld (pv 0) rfl) pa_nil))))))))))))), ?_⟩
    refine ⟨_, rfl, s, _, rfl, .inl (S0.seq hs), fun l1 h1 => ?_⟩
    obtain ⟨n1, u1, H1, e1, S1, a1, x1, _⟩ := fstep (f := "own_sorts") (xs := ss.map V.str) S0 x0 hx h1
    refine ⟨_, rfl, x, S, dx, _, rfl, u1, TC.cl, TC.n1, by show 0 < 1000; decide, ?_⟩
    rw [← e1]
    clear e1 u1 h1
    refine ⟨_, rfl, w, _, rfl, .inl (S1.seq hw), fun l2 h2 => ?_⟩
    obtain ⟨n2, u2, H2, e2, S2, a2, x2, k2⟩ := fstep (f := "own_words") (xs := ws.map V.str) S1 x0 x1 h2
    refine ⟨_, rfl, x, S, dx, _, rfl, u2, TC.cl, TC.n2, Nat.lt_of_le_of_lt (putF_len _ _ _) (by decide), ?_⟩
    rw [← e2]
    clear e2 u2 h2
    have b1 := k2 _ _ n1 a1
    refine ⟨_, rfl, _, _, rfl, hm.same S2, fun l3 h3 => ?_⟩
    obtain ⟨n3, u3, H3, e3, S3, a3, x3, k3⟩ := fstep (f := "own_makings") (xs := as.map V.ref) S2 x0 x2 h3
    refine ⟨_, rfl, x, S, dx, _, rfl, u3, TC.cl, TC.n3, ?_, ?_⟩
    · have q1 := putF_len "own_sorts" (.ref l1) []
      have q2 := putF_len "own_words" (.ref l2) (putF "own_sorts" (.ref l1) [])
      simp only [List.length_nil] at *
      omega
    rw [← e3]
    clear e3 u3 h3
    have b1 := k3 _ _ n1 b1
    have b2 := k3 _ _ n2 a2
    refine ⟨_, rfl, _, _, rfl, hr'.same S3, fun l4 h4 => ?_⟩
    obtain ⟨n4, u4, H4, e4, S4, a4, x4, k4⟩ := fstep (f := "own_rules") (xs := bs.map V.ref) S3 x0 x3 h4
    refine ⟨_, rfl, x, S, dx, _, rfl, u4, TC.cl, TC.n4, ?_, ?_⟩
    · have q1 := putF_len "own_sorts" (.ref l1) []
      have q2 := putF_len "own_words" (.ref l2) (putF "own_sorts" (.ref l1) [])
      have q3 := putF_len "own_makings" (.ref l3) (putF "own_words" (.ref l2) (putF "own_sorts" (.ref l1) []))
      simp only [List.length_nil] at *
      omega
    rw [← e4]
    clear e4 u4 h4
    have b1 := k4 _ _ n1 b1
    have b2 := k4 _ _ n2 b2
    have b3 := k4 _ _ n3 a3
    refine ⟨_, rfl, _, _, rfl, hb.same S4, fun l5 h5 => ?_⟩
    obtain ⟨n5, u5, H5, e5, S5, a5, x5, k5⟩ := fstep (f := "own_bars") (xs := cs.map V.ref) S4 x0 x4 h5
    refine ⟨_, rfl, x, S, dx, _, rfl, u5, TC.cl, TC.n5, ?_, ?_⟩
    · have q1 := putF_len "own_sorts" (.ref l1) []
      have q2 := putF_len "own_words" (.ref l2) (putF "own_sorts" (.ref l1) [])
      have q3 := putF_len "own_makings" (.ref l3) (putF "own_words" (.ref l2) (putF "own_sorts" (.ref l1) []))
      have q4 := putF_len "own_rules" (.ref l4) (putF "own_makings" (.ref l3) (putF "own_words" (.ref l2) (putF "own_sorts" (.ref l1) [])))
      simp only [List.length_nil] at *
      omega
    rw [← e5]
    clear e5 u5 h5
    have b1 := k5 _ _ n1 b1
    have b2 := k5 _ _ n2 b2
    have b3 := k5 _ _ n3 b3
    have b4 := k5 _ _ n4 a4
    have x5 : H5 x = some (.ins S dx (schF l1 l2 l3 l4 l5)) := x5
    have pt5 := pt.same S5
    refine ⟨_, rfl, x, S, dx, _, _, rfl, x5, TC.cl, TC.n1, schF_so _ _ _ _ _, _, rfl, x, S, dx, _, _, rfl, x5, TC.cl, TC.n2, schF_wo _ _ _ _ _, _, rfl, x, S, dx, _, _, rfl, x5, TC.cl, TC.n3, schF_mk _ _ _ _ _, _, rfl, x, S, dx, _, _, rfl, x5, TC.cl, TC.n4, schF_ru _ _ _ _ _, _, rfl, x, S, dx, _, _, rfl, x5, TC.cl, TC.n5, schF_ba _ _ _ _ _, ?_⟩
    exact ⟨l1, l2, l3, l4, l5, ss, ws, as, bs, cs, ms, rs, ps, rfl, SqL.of b1, SqL.of b2, SqL.of b3, pt5.am, SqL.of b4, pt5.ar, SqL.of a5, pt5.ab, ok, fun H6 S6 => k H6 (S5.trans S6) ⟨dx, l1, l2, l3, l4, l5, S6 _ _ x5, S6 _ _ b1, S6 _ _ b2, S6 _ _ b3, S6 _ _ b4, S6 _ _ a5⟩⟩
/-! ### lists told -/
def spSMk (S : Addr) : Sp := fun vs H Q _ => ∃ (x : Addr) (ss ws : List Str) (as bs cs : List Addr), vs = [.ref x] ∧ SchG S H x ss ws as bs cs ∧ ∀ l, H l = none → Q (.ref l) (upd H l (.lst (as.map V.ref)))
def spSRu (S : Addr) : Sp := fun vs H Q _ => ∃ (x : Addr) (ss ws : List Str) (as bs cs : List Addr), vs = [.ref x] ∧ SchG S H x ss ws as bs cs ∧ ∀ l, H l = none → Q (.ref l) (upd H l (.lst (bs.map V.ref)))
theorem scSMk : FnScope ["self"] ["self"] (defScope sSMk) := ⟨rfl, rfl, rfl, by decide +kernel, rfl, by decide +kernel, by decide +kernel⟩
theorem ok_smk {f S fS : Addr} {fd : FuncData} (F : Fun K "makings" "Scheme.makings" sSMk f fd) (tl : mg "list" = none) (TC : TxSch K mg S fS) : FnOk P w K mg base CX0 1 f fd ["self"] (spSMk S) := by
  refine F.ok scSMk (fun vs H Q E h => ?_) (fun cdv A outer s H vs Q E hr h => ?_)
  · obtain ⟨x, ss, ws, as, bs, cs, rfl, _⟩ := h
    rfl
  · obtain ⟨x, ss, ws, as, bs, cs, rfl, ⟨dx, l1, l2, l3, l4, l5, h0, h1, h2, h3, h4, h5⟩, k⟩ := h
    refine ⟨_, (pss_one (ps_ret (pe_callTy call_list_of (by rfl) tl (by decide +kernel) (pa_cons (pe_fld (pv 0) rfl) pa_nil)))), ?_⟩
    exact ⟨_, rfl, x, S, dx, _, _, rfl, h0, TC.cl, TC.n3, schF_mk _ _ _ _ _, l3, _, rfl, .inl (SqL.of h3), fun l hl => k l hl⟩
theorem scSRu : FnScope ["self"] ["self"] (defScope sSRu) := ⟨rfl, rfl, rfl, by decide +kernel, rfl, by decide +kernel, by decide +kernel⟩
theorem ok_sru {f S fS : Addr} {fd : FuncData} (F : Fun K "rules" "Scheme.rules" sSRu f fd) (tl : mg "list" = none) (TC : TxSch K mg S fS) : FnOk P w K mg base CX0 1 f fd ["self"] (spSRu S) := by
  refine F.ok scSRu (fun vs H Q E h => ?_) (fun cdv A outer s H vs Q E hr h => ?_)
  · obtain ⟨x, ss, ws, as, bs, cs, rfl, _⟩ := h
    rfl
  · obtain ⟨x, ss, ws, as, bs, cs, rfl, ⟨dx, l1, l2, l3, l4, l5, h0, h1, h2, h3, h4, h5⟩, k⟩ := h
    refine ⟨_, (pss_one (ps_ret (pe_callTy call_list_of (by rfl) tl (by decide +kernel) (pa_cons (pe_fld (pv 0) rfl) pa_nil)))), ?_⟩
    exact ⟨_, rfl, x, S, dx, _, _, rfl, h0, TC.cl, TC.n4, schF_ru _ _ _ _ _, l4, _, rfl, .inl (SqL.of h4), fun l hl => k l hl⟩
end
/-- a scheme at x, of these sorts and words -/
structure SchAt (S : Addr) (H : Hp) (x : Addr) (ss ws : List Str) : Prop where
  ex : ∃ dx l1 l2 l3 l4 l5, H x = some (.ins S dx (schF l1 l2 l3 l4 l5)) ∧ H l1 = some (.lst (ss.map V.str)) ∧ H l2 = some (.lst (ws.map V.str))
theorem SchG.weak {S : Addr} {H : Hp} {x : Addr} {ss ws : List Str} {as bs cs : List Addr} (h : SchG S H x ss ws as bs cs) : SchAt S H x ss ws := by
  obtain ⟨dx, l1, l2, l3, l4, l5, h0, h1, h2, _⟩ := h
  exact ⟨⟨dx, l1, l2, l3, l4, l5, h0, h1, h2⟩⟩
section
variable {P : Program} {w : World} {K : PySem.W.Frag} {mg : Str → Option Value} {base : Heap}
theorem scSor : FnScope ["self"] ["self"] (defScope sSor) := ⟨rfl, rfl, rfl, by decide +kernel, rfl, by decide +kernel, by decide +kernel⟩
def spSor (S : Addr) : Sp := fun vs H Q _ => ∃ (x : Addr) (ss ws : List Str), vs = [.ref x] ∧ SchAt S H x ss ws ∧ ∀ l, H l = none → Q (.ref l) (upd H l (.lst (ss.map V.str)))
def spWor (S : Addr) : Sp := fun vs H Q _ => ∃ (x : Addr) (ss ws : List Str), vs = [.ref x] ∧ SchAt S H x ss ws ∧ ∀ l, H l = none → Q (.ref l) (upd H l (.lst (ws.map V.str)))
theorem ok_sor {f S fS : Addr} {fd : FuncData} (F : Fun K "sorts" "Scheme.sorts" sSor f fd) (tl : mg "list" = none) (TC : TxSch K mg S fS) : FnOk P w K mg base CX0 1 f fd ["self"] (spSor S) := by
  refine F.ok scSor (fun vs H Q E h => ?_) (fun cdv A outer s H vs Q E hr h => ?_)
  · obtain ⟨x, ss, ws, rfl, _⟩ := h
    rfl
  · obtain ⟨x, ss, ws, rfl, hx, k⟩ := h
    obtain ⟨dx, l1, l2, l3, l4, l5, hx, h1, h2⟩ := hx.ex
    refine ⟨_, (pss_one (ps_ret (pe_callTy call_list_of (by rfl) tl (by decide +kernel) (pa_cons (pe_fld (pv 0) rfl) pa_nil)))), ?_⟩
    exact ⟨_, rfl, x, S, dx, _, _, rfl, hx, TC.cl, TC.n1, schF_so _ _ _ _ _, l1, _, rfl, .inl (SqL.of h1), fun l hl => k l hl⟩
theorem scWor : FnScope ["self"] ["self"] (defScope sWor) := ⟨rfl, rfl, rfl, by decide +kernel, rfl, by decide +kernel, by decide +kernel⟩
theorem ok_wor {f S fS : Addr} {fd : FuncData} (F : Fun K "words" "Scheme.words" sWor f fd) (tl : mg "list" = none) (TC : TxSch K mg S fS) : FnOk P w K mg base CX0 1 f fd ["self"] (spWor S) := by
  refine F.ok scWor (fun vs H Q E h => ?_) (fun cdv A outer s H vs Q E hr h => ?_)
  · obtain ⟨x, ss, ws, rfl, _⟩ := h
    rfl
  · obtain ⟨x, ss, ws, rfl, hx, k⟩ := h
    obtain ⟨dx, l1, l2, l3, l4, l5, hx, h1, h2⟩ := hx.ex
    refine ⟨_, (pss_one (ps_ret (pe_callTy call_list_of (by rfl) tl (by decide +kernel) (pa_cons (pe_fld (pv 0) rfl) pa_nil)))), ?_⟩
    exact ⟨_, rfl, x, S, dx, _, _, rfl, hx, TC.cl, TC.n2, schF_wo _ _ _ _ _, l2, _, rfl, .inl (SqL.of h2), fun l hl => k l hl⟩
end
end Wm
namespace Wm
open PySem L2 StX
/-! ### what stands but the states of the digits -/
def NotSt (o : HO) : Prop := ∀ x y z : Int, o ≠ .lst [.int x, .int y, .int z]
def Kp (H H' : Hp) : Prop := ∀ a o, NotSt o → H a = some o → H' a = some o
theorem Kp.refl (H : Hp) : Kp H H := fun _ _ _ h => h
theorem Kp.trans {H H1 H2 : Hp} (a : Kp H H1) (b : Kp H1 H2) : Kp H H2 := fun c o n h => b c o n (a c o n h)
theorem Same.kp {H H' : Hp} (s : Same H H') : Kp H H' := fun a o _ h => s a o h
theorem But.kp {p : Addr} {H H' : Hp} (b : But p H H') (s : StOk H p) : Kp H H' := fun a o n h => by
  obtain ⟨x, y, z, e, _⟩ := s
  refine b a o (fun q => ?_) h
  rw [q, e] at h
  exact n x y z (Option.some.inj h).symm
theorem Kp.new {D : Addr} {H H' : Hp} {o : HO} (k : Kp H H') (h : H D = none) : Kp H (upd H' D o) := fun a u n e => by
  rw [upd_ne (ne_of_none e h)]
  exact k a u n e
theorem ns_tup {xs : List V} : NotSt (.tup xs) := fun _ _ _ z => by cases z
theorem ns_dK {xs : List (L2.Key × V)} : NotSt (.dK xs) := fun _ _ _ z => by cases z
theorem ns_dT {xs : List (List L2.Key × V)} : NotSt (.dT xs) := fun _ _ _ z => by cases z
theorem ns_ins {C d : Addr} {fs : List (Str × V)} : NotSt (.ins C d fs) := fun _ _ _ z => by cases z
theorem ns_strs {xs : List Str} : NotSt (.lst (xs.map V.str)) := fun _ _ _ z => by
  cases xs with
  | nil => cases z
  | cons a r =>
    have e := HO.lst.inj z
    rw [List.map_cons] at e
    cases (List.cons.inj e).1
theorem ns_refs {xs : List Addr} : NotSt (.lst (xs.map V.ref)) := fun _ _ _ z => by
  cases xs with
  | nil => cases z
  | cons a r =>
    have e := HO.lst.inj z
    rw [List.map_cons] at e
    cases (List.cons.inj e).1
theorem ns_nil : NotSt (.lst []) := fun _ _ _ z => by cases z
theorem ns_frz {ob : Obj} {u : HO} : NotSt (.frz ob u) := fun _ _ _ z => by cases z
theorem Kp.sqT {K : PySem.W.Frag} {H H' : Hp} {a : Addr} {xs : List V} (e : Kp H H') (h : SqT K H a xs) : SqT K H' a xs := by
  rcases h with (h | ⟨o, h⟩) | h
  · exact .inl (.inl (e _ _ ns_tup h))
  · exact .inl (.inr ⟨o, e _ _ ns_frz h⟩)
  · exact .inr h
theorem Kp.rows {K : PySem.W.Frag} {H H' : Hp} (e : Kp H H') {ps : List Addr} {rs : List (List V)} (h : RowsAt K H ps rs) : RowsAt K H' ps rs := rows_imp (fun q => e.sqT q) h
/-- a list is written: tuples stand -/
theorem sqT_put {K : PySem.W.Frag} {H : Hp} {l a : Addr} {ys : List V} {o : HO} {xs : List V} (hl : H l = some (.lst ys)) (h : SqT K H a xs) : SqT K (upd H l o) a xs := by
  rcases h with (h | ⟨ob, h⟩) | h
  · exact .inl (.inl (by rw [upd_ne (ne_of h hl (by intro z; cases z))]; exact h))
  · exact .inl (.inr ⟨ob, by rw [upd_ne (ne_of h hl (by intro z; cases z))]; exact h⟩)
  · exact .inr h
theorem rows_put {K : PySem.W.Frag} {H : Hp} {l : Addr} {ys : List V} {o : HO} (hl : H l = some (.lst ys)) {ps : List Addr} {rs : List (List V)} (h : RowsAt K H ps rs) : RowsAt K (upd H l o) ps rs := rows_imp (fun q => sqT_put hl q) h
theorem But.ne {p a : Addr} {H : Hp} {o : HO} (s : StOk H p) (h : H a = some o) (n : NotSt o) : a ≠ p := fun q => by
  obtain ⟨x, y, z, e, _⟩ := s
  rw [q, e] at h
  exact n x y z (Option.some.inj h).symm
/-! ### the letters of a rule's variables -/
def ltr (j : Nat) : Str := ⟨#[97 + j]⟩
theorem ltr_inj {i j : Nat} (h : ltr i = ltr j) : i = j := by
  unfold ltr at h
  have e := congrArg (fun z : Str => z.cps[0]?) h
  simp at e
  exact e
abbrev ABCD : Str := PySem.Str.ofString "abcd"
theorem abcd_at : ∀ j : Fin 4, ABCD.cps.toList[j.1]? = some (97 + j.1) := by decide +kernel
theorem abcd_len : ABCD.length = 4 := by decide +kernel
theorem abcd_cps : ABCD.cps.toList = [97, 98, 99, 100] := by decide +kernel
structure CInv (ws : List Str) (mn : Nat) (cs : List Tri) : Prop where
  m1 : 1 ≤ mn
  m4 : mn ≤ 4
  wd : ∀ t ∈ cs, t.2.1 ∈ ws
  en : ∀ z ∈ endsL cs, ∃ j, j < mn ∧ z = ltr j
  al : cs ≠ [] → ∀ j, j < mn → ltr j ∈ endsL cs
  e0 : cs = [] → mn = 1
  ha : Hangs cs
theorem endsL_app (a b : List Tri) : endsL (a ++ b) = endsL a ++ endsL b := by
  unfold endsL
  rw [List.flatMap_append]
theorem CInv.step {ws : List Str} {mn mn' x y : Nat} {cs : List Tri} {w : Str} {t : Tri} (h : CInv ws mn cs) (hx : x < mn) (hy : (mn' = mn ∧ y < mn) ∨ (mn' = mn + 1 ∧ y = mn ∧ mn < 4)) (hw : w ∈ ws) (ht : t = (ltr x, w, ltr y) ∨ t = (ltr y, w, ltr x)) : CInv ws mn' (cs ++ [t]) := by
  have e : endsL (cs ++ [t]) = endsL cs ++ [t.1, t.2.2] := by
    rw [endsL_app]
    rfl
  have hxm : ltr x ∈ [t.1, t.2.2] := by rcases ht with rfl | rfl <;> simp
  have hym : ltr y ∈ [t.1, t.2.2] := by rcases ht with rfl | rfl <;> simp
  have hmm : ∀ z ∈ [t.1, t.2.2], z = ltr x ∨ z = ltr y := fun z hz => by
    rcases ht with rfl | rfl
    · simp at hz
      exact hz
    · simp at hz
      exact hz.symm
  have m1 := h.m1
  have m4 := h.m4
  refine ⟨by omega, by omega, fun u hu => ?_, fun z hz => ?_, fun _ j hj => ?_, fun z => ?_, fun i u hi hu => ?_⟩
  · rcases List.mem_append.mp hu with q | q
    · exact h.wd u q
    · rw [List.mem_singleton.mp q]
      rcases ht with rfl | rfl <;> exact hw
  · rw [e] at hz
    rcases List.mem_append.mp hz with q | q
    · obtain ⟨j, hj, ej⟩ := h.en z q
      exact ⟨j, by omega, ej⟩
    · rcases hmm z q with rfl | rfl
      · exact ⟨x, by omega, rfl⟩
      · exact ⟨y, by omega, rfl⟩
  · rw [e]
    by_cases hc : cs = []
    · have m := h.e0 hc
      by_cases jx : j = x
      · rw [jx]
        exact List.mem_append_right _ hxm
      · have jy : j = y := by omega
        rw [jy]
        exact List.mem_append_right _ hym
    · by_cases jm : j < mn
      · exact List.mem_append_left _ (h.al hc j jm)
      · have jy : j = y := by omega
        rw [jy]
        exact List.mem_append_right _ hym
  · simp at z
  · by_cases hlt : i < cs.length
    · rw [List.getElem?_append_left hlt] at hu
      rw [List.take_append_of_le_length (Nat.le_of_lt hlt)]
      exact h.ha i u hi hu
    · have hl := (List.getElem?_eq_some_iff.mp hu).1
      rw [List.length_append, List.length_singleton] at hl
      have ei : i = cs.length := by omega
      rw [ei, List.getElem?_append_right (Nat.le_refl _)] at hu
      simp at hu
      rw [ei, List.take_append_of_le_length (Nat.le_refl _), List.take_length]
      have hc : cs ≠ [] := fun z => by rw [z] at ei; simp at ei; omega
      have q := h.al hc x hx
      rw [← hu]
      rcases ht with rfl | rfl
      · exact .inl q
      · exact .inr q
theorem CInv.nil (ws : List Str) : CInv ws 1 [] := ⟨Nat.le_refl _, by decide, fun _ h => (List.not_mem_nil h).elim, fun _ h => (List.not_mem_nil h).elim, fun h => (h rfl).elim, fun _ => rfl, fun i u _ h => by simp at h⟩
/-- the letters that the conditions speak of -/
def nmsOf (cs : List Tri) : List Str := ([0, 1, 2, 3].map ltr).filter fun z => decide (z ∈ endsL cs)
theorem ltrs_nd : ([0, 1, 2, 3].map ltr).Nodup := by decide +kernel
theorem nmsOf_nd (cs : List Tri) : (nmsOf cs).Nodup := List.Pairwise.sublist List.filter_sublist ltrs_nd
theorem nmsOf_mem {ws : List Str} {mn : Nat} {cs : List Tri} (h : CInv ws mn cs) {z : Str} : z ∈ nmsOf cs ↔ z ∈ endsL cs := by
  unfold nmsOf
  rw [List.mem_filter, decide_eq_true_eq]
  refine ⟨fun q => q.2, fun q => ⟨?_, q⟩⟩
  obtain ⟨j, hj, rfl⟩ := h.en z q
  have m4 := h.m4
  have hj4 : j ∈ [0, 1, 2, 3] := by
    have : j = 0 ∨ j = 1 ∨ j = 2 ∨ j = 3 := by omega
    simp
    exact this
  exact List.mem_map.mpr ⟨j, hj4, rfl⟩
theorem nmsOf_len (cs : List Tri) : (nmsOf cs).length ≤ 4 := Nat.le_trans (List.length_filter_le _ _) (by decide)
theorem nmsOf_pos {ws : List Str} {mn : Nat} {cs : List Tri} (h : CInv ws mn cs) (hc : cs ≠ []) : 1 ≤ (nmsOf cs).length := by
  have q := (nmsOf_mem h).mpr (h.al hc 0 (by have := h.m1; omega))
  exact List.length_pos_of_mem q
theorem ltrs_nm : ∀ z ∈ [0, 1, 2, 3].map ltr, isNm z = true ∧ z.length ≤ 12 ∧ z.cps.toList.all (fun c => decide (c < 1114112)) = true := by decide +kernel
theorem nmsOf_ok {cs : List Tri} {z : Str} (h : z ∈ nmsOf cs) : isNm z = true ∧ z.length ≤ 12 ∧ okS z := by
  have q := ltrs_nm z (List.mem_filter.mp h).1
  refine ⟨q.1, q.2.1, fun c hc => ?_⟩
  exact of_decide_eq_true (List.all_eq_true.mp q.2.2 c hc)
/-! ### a rule and a making as the law draws them -/
structure RuleOk (ss ws : List Str) (r : RlD) : Prop where
  pt : PatOk r.p.vars r.p.cs [r.g] [r.bh]
  vn : ∀ v ∈ r.p.vars, isNm v.1 = true ∧ v.1.length ≤ 12 ∧ okS v.1
  vs : ∀ v ∈ r.p.vars, ∀ z, v.2 = some z → z ∈ ss
  cw : ∀ t ∈ r.p.cs, t.2.1 ∈ ws
  gw : r.g.2.1 ∈ ws
def MRul (K : PySem.W.Frag) (H : Hp) (a : Addr) (r : RlD) : Prop := ∃ lv lc g ps qs, H a = some (.tup [.str r.p.nm, .ref lv, .ref lc, .ref g, .str r.bh]) ∧ H lv = some (.lst (ps.map V.ref)) ∧ RowsAt K H ps (r.p.vars.map varV) ∧ H lc = some (.lst (qs.map V.ref)) ∧ RowsAt K H qs (r.p.cs.map triV) ∧ H g = some (.tup (triV r.g))
theorem MRul.kp {K : PySem.W.Frag} {H H' : Hp} {a : Addr} {r : RlD} (k : Kp H H') (h : MRul K H a r) : MRul K H' a r := by
  obtain ⟨lv, lc, g, ps, qs, h1, h2, h3, h4, h5, h6⟩ := h
  exact ⟨lv, lc, g, ps, qs, k _ _ ns_tup h1, k _ _ ns_refs h2, k.rows h3, k _ _ ns_refs h4, k.rows h5, k _ _ ns_tup h6⟩
/-- none of its lists is D -/
def MRulN (K : PySem.W.Frag) (H : Hp) (D a : Addr) (r : RlD) : Prop := ∃ lv lc g ps qs, lv ≠ D ∧ lc ≠ D ∧ H a = some (.tup [.str r.p.nm, .ref lv, .ref lc, .ref g, .str r.bh]) ∧ H lv = some (.lst (ps.map V.ref)) ∧ RowsAt K H ps (r.p.vars.map varV) ∧ H lc = some (.lst (qs.map V.ref)) ∧ RowsAt K H qs (r.p.cs.map triV) ∧ H g = some (.tup (triV r.g))
theorem MRulN.weak {K : PySem.W.Frag} {H : Hp} {D a : Addr} {r : RlD} (h : MRulN K H D a r) : MRul K H a r := by
  obtain ⟨lv, lc, g, ps, qs, _, _, h⟩ := h
  exact ⟨lv, lc, g, ps, qs, h⟩
theorem MRulN.kp {K : PySem.W.Frag} {H H' : Hp} {D a : Addr} {r : RlD} (k : Kp H H') (h : MRulN K H D a r) : MRulN K H' D a r := by
  obtain ⟨lv, lc, g, ps, qs, n1, n2, h1, h2, h3, h4, h5, h6⟩ := h
  exact ⟨lv, lc, g, ps, qs, n1, n2, k _ _ ns_tup h1, k _ _ ns_refs h2, k.rows h3, k _ _ ns_refs h4, k.rows h5, k _ _ ns_tup h6⟩
theorem MRulN.put {K : PySem.W.Frag} {H : Hp} {D a : Addr} {r : RlD} {xs : List V} {o : HO} (hD : H D = some (.lst xs)) (h : MRulN K H D a r) : MRulN K (upd H D o) D a r := by
  obtain ⟨lv, lc, g, ps, qs, n1, n2, h1, h2, h3, h4, h5, h6⟩ := h
  exact ⟨lv, lc, g, ps, qs, n1, n2, (upd_ne (ne_of h1 hD (by intro z; cases z))).trans h1, (upd_ne n1).trans h2, rows_put hD h3, (upd_ne n2).trans h4, rows_put hD h5, (upd_ne (ne_of h6 hD (by intro z; cases z))).trans h6⟩
def MMak (H : Hp) (a : Addr) (m : MkD) : Prop := ∃ ld lu, H a = some (.tup [.str m.mr, .str m.md, .ref ld, .ref lu]) ∧ H ld = some (.lst (m.dn.map V.str)) ∧ H lu = some (.lst (m.up.map V.str))
theorem MMak.kp {H H' : Hp} {a : Addr} {m : MkD} (k : Kp H H') (h : MMak H a m) : MMak H' a m := by
  obtain ⟨ld, lu, h1, h2, h3⟩ := h
  exact ⟨ld, lu, k _ _ ns_tup h1, k _ _ ns_strs h2, k _ _ ns_strs h3⟩
def MMakN (H : Hp) (D a : Addr) (m : MkD) : Prop := ∃ ld lu, ld ≠ D ∧ lu ≠ D ∧ H a = some (.tup [.str m.mr, .str m.md, .ref ld, .ref lu]) ∧ H ld = some (.lst (m.dn.map V.str)) ∧ H lu = some (.lst (m.up.map V.str))
theorem MMakN.weak {H : Hp} {D a : Addr} {m : MkD} (h : MMakN H D a m) : MMak H a m := by
  obtain ⟨ld, lu, _, _, h⟩ := h
  exact ⟨ld, lu, h⟩
theorem MMakN.kp {H H' : Hp} {D a : Addr} {m : MkD} (k : Kp H H') (h : MMakN H D a m) : MMakN H' D a m := by
  obtain ⟨ld, lu, n1, n2, h1, h2, h3⟩ := h
  exact ⟨ld, lu, n1, n2, k _ _ ns_tup h1, k _ _ ns_strs h2, k _ _ ns_strs h3⟩
theorem MMakN.put {H : Hp} {D a : Addr} {m : MkD} {xs : List V} {o : HO} (hD : H D = some (.lst xs)) (h : MMakN H D a m) : MMakN (upd H D o) D a m := by
  obtain ⟨ld, lu, n1, n2, h1, h2, h3⟩ := h
  exact ⟨ld, lu, n1, n2, (upd_ne (ne_of h1 hD (by intro z; cases z))).trans h1, (upd_ne n1).trans h2, (upd_ne n2).trans h3⟩
end Wm
namespace Wm
open PySem L2 StX
abbrev scCmp : Scope := { kind := .function, names := [(".0", .local), ("_law_one", .local), ("_law_conditions", .cell)], isGenerator := false, isCoroutine := false }
theorem str_get {ws : List Str} {d : Int} (h0 : 0 ≤ d) (h1 : d < ((ws.map V.str).length : Int)) : ∃ w, w ∈ ws ∧ (ws.map V.str)[d.toNat]? = some (.str w) := by
  rw [List.length_map] at h1
  have hlt : d.toNat < ws.length := by omega
  refine ⟨ws[d.toNat], List.getElem_mem hlt, ?_⟩
  rw [List.getElem?_map, List.getElem?_eq_getElem hlt]
  rfl
theorem cut1 {a R : TS} {D : Ends} {σ : L2.St} {H : Hp} (Good : L2.St → Hp → Prop) (fin : ∀ σ' H', Good σ' H' → R D σ' H') (h : ∀ R' : TS, (∀ σ' H', Good σ' H' → R' D σ' H') → tSeq a R' D σ H) : tSeq a R D σ H := h R fin
theorem abcd_get {j c : Nat} (hj : j < 4) (h : ABCD.cps.toList[j]? = some c) : (⟨#[c]⟩ : Str) = ltr j := by
  have q := abcd_at ⟨j, hj⟩
  rw [q] at h
  cases h
  rfl
theorem sort_get {ss : List Str} {d : Int} (h0 : 0 ≤ d) (h1 : d < 2 * ((ss.map V.str).length : Int)) : ∃ o : Option Str, ((ss.map V.str) ++ (List.replicate ((ss.map V.str).length : Int).toNat [V.non]).flatten)[d.toNat]? = some (sortV o) ∧ ∀ z, o = some z → z ∈ ss := by
  rw [List.length_map] at h1 ⊢
  by_cases hd : d.toNat < ss.length
  · refine ⟨some ss[d.toNat], ?_, fun z e => by cases e; exact List.getElem_mem hd⟩
    rw [List.getElem?_append_left (by rw [List.length_map]; exact hd), List.getElem?_map, List.getElem?_eq_getElem hd]
    rfl
  · refine ⟨none, ?_, fun z e => by cases e⟩
    rw [List.getElem?_append_right (by rw [List.length_map]; omega), List.length_map, Int.toNat_natCast]
    have e : (List.replicate ss.length [V.non]).flatten = List.replicate ss.length V.non := by
      induction ss.length with
      | zero => rfl
      | succ n ih => rw [List.replicate_succ, List.replicate_succ, List.flatten_cons, ih]; rfl
    rw [e, List.getElem?_replicate, if_pos (by omega)]
    rfl
theorem ends_mem {cs : List Tri} {z : Str} : z ∈ cs.map (·.1) ++ cs.map (·.2.2) ↔ z ∈ endsL cs := by
  unfold endsL
  simp only [List.mem_append, List.mem_map, List.mem_flatMap, List.mem_cons, List.not_mem_nil, or_false]
  constructor
  · rintro (⟨t, ht, rfl⟩ | ⟨t, ht, rfl⟩)
    · exact ⟨t, ht, .inl rfl⟩
    · exact ⟨t, ht, .inr rfl⟩
  · rintro ⟨t, ht, rfl | rfl⟩
    · exact .inl ⟨t, ht, rfl⟩
    · exact .inr ⟨t, ht, rfl⟩
def spRle (K : PySem.W.Frag) : Sp := fun vs H Q _ => ∃ (p m : Addr) (nm : Str) (kvs : List (L2.Key × V)) (lw ls : Addr) (ws ss : List Str), vs = [.ref p, .ref m, .str nm] ∧ StOk H p ∧ H m = some (.dK kvs) ∧ valV kvs (Sum.inr "words") = some (.ref lw) ∧ H lw = some (.lst (ws.map V.str)) ∧ valV kvs (Sum.inr "sorts") = some (.ref ls) ∧ H ls = some (.lst (ss.map V.str)) ∧ 1 ≤ ws.length ∧ ws.length ≤ 60 ∧ 1 ≤ ss.length ∧ ss.length ≤ 60 ∧
  ∀ t (r : RlD) H', r.p.nm = nm → RuleOk ss ws r → H t = none → But p H H' → StOk H' p → (∀ D o, H D = some o → MRulN K H' D t r) → Q (.ref t) H'
section
variable {P : Program} {w : World} {K : PySem.W.Frag} {mg : Str → Option Value} {base : Heap}
theorem scRle : FnScope ["_law_s", "_law_m", "_law_name_here", "_law_count", "_law_many", "_law_conditions", "_law_k", "_law_x", "_law_y", "_law_ends", "_law_turned", "_law_word", "_law_one", "_law_names_here", "_law_variables", "_law_kind", "_law_gives"] ["_law_s", "_law_m", "_law_name_here"] (defScope sRle) := ⟨rfl, rfl, rfl, by decide +kernel, rfl, by decide +kernel, by decide +kernel⟩
theorem ok_rle {f fG : Addr} {fd dG : FuncData} (F : Fun K "_law_rule" "_law_rule" sRle f fd) (T : TxB mg) (hmin : mg "min" = none) (DG : Dn K mg "_law_digit" sDigit ["_law_state_here", "_law_base"] fG dG) : FnOk P w K mg base CX0 2 f fd ["_law_s", "_law_m", "_law_name_here"] (spRle K) := by
  have GG : FnOk P w K mg base CX0 1 fG dG _ spDigit := ok_digit DG.F
  refine F.ok scRle (fun vs H Q E h => ?_) (fun cdv A outer s H vs Q E hr h => ?_)
  · obtain ⟨p, m, nm, kvs, lw, ls, ws, ss, rfl, _⟩ := h
    rfl
  · obtain ⟨p, m, nm, kvs, lw, ls, ws, ss, rfl, hS, hm, hgw, hw, hgs, hs, w1, w9, s1, s9, k⟩ := h
    have hr1 : Room 1 _ := hr
    have hu := hu_of hr
    refine ⟨_, (pss_cons (ps_set (i := 3) scRle.nd rfl (Or.inl rfl) (pe_op op_add (pe_op op_add pe_int (pe_op op_fdiv (pe_call GG hr1 rfl DG.g DG.F.kp DG.b .nil pass0 (pa_cons (pv 0) (pa_cons pe_int pa_nil))) pe_int)) (pe_callTy call_int1 (by rfl) T.int (by decide +kernel) (pa_cons (pe_cmpR op_eq (pe_call GG hr1 rfl DG.g DG.F.kp DG.b .nil pass0 (pa_cons (pv 0) (pa_cons pe_int pa_nil))) pe_int (nomark _)) pa_nil))))
      (pss_cons (ps_set (i := 4) scRle.nd rfl (Or.inl rfl) pe_int)
      (pss_cons (ps_set (i := 5) scRle.nd rfl (Or.inr rfl) (pe_lst pa_nil))
      (pss_cons (ps_for PassesOwn.never rfl (pi_range1 rfl T.range (pa_cons (pe_callB (call_min2 rfl) (by rfl) hmin (by decide +kernel) (pa_cons (pv 3) (pa_cons pe_int pa_nil))) pa_nil)) (pg_name (i := 6) scRle.nd rfl (Or.inl rfl)) (pss_cons (ps_set (i := 7) scRle.nd rfl (Or.inl rfl) (pe_call GG hr1 rfl DG.g DG.F.kp DG.b .nil pass0 (pa_cons (pv 0) (pa_cons (pv 4) pa_nil))))
      (pss_cons (ps_set (i := 8) scRle.nd rfl (Or.inl rfl) (pe_call GG hr1 rfl DG.g DG.F.kp DG.b .nil pass0 (pa_cons (pv 0) (pa_cons pe_int pa_nil))))
      (pss_cons (ps_if (PW.pt (pw_and (pt_cmpR op_ge (pv 8) (pv 4) (nomark _)) (pw_and1 (pt_cmpR op_lt (pv 4) pe_int (nomark _))))) (pss_cons (ps_set (i := 8) scRle.nd rfl (Or.inl rfl) (pv 4))
      (pss_one (ps_set (i := 4) scRle.nd rfl (Or.inl rfl) (pe_op op_add (pv 4) pe_int)))) pss_nil)
      (pss_cons (ps_set (i := 9) scRle.nd rfl (Or.inl rfl) (pe_lst (pa_cons (pe_ix ix_str pe_str (pv 7) (fun _ _ => rfl)) (pa_cons (pe_ix ix_str pe_str (pe_op op_mod (pv 8) (pv 4)) (fun _ _ => rfl)) pa_nil))))
      (pss_cons (ps_set (i := 10) scRle.nd rfl (Or.inl rfl) (pe_call GG hr1 rfl DG.g DG.F.kp DG.b .nil pass0 (pa_cons (pv 0) (pa_cons pe_int pa_nil))))
      (pss_cons (ps_set (i := 11) scRle.nd rfl (Or.inl rfl) (pe_ix ix_list (pe_dget hu (pv 1) pe_str (fun _ _ => rfl)) (pe_call GG hr1 rfl DG.g DG.F.kp DG.b .nil pass0 (pa_cons (pv 0) (pa_cons (pe_callB call_len_seq (by rfl) T.len (by decide +kernel) (pa_cons (pe_dget hu (pv 1) pe_str (fun _ _ => rfl)) pa_nil)) pa_nil))) (fun _ _ => rfl)))
      (pss_one (ps_expr (pe_bm PySem.F.plainAttrs_list PySem.F.slot_list_append PySem.F.type_list_append mt_append (pv 5) (pa_cons (pe_tup (pa_cons (pe_ix ix_list (pv 9) (pv 10) (fun _ _ => rfl)) (pa_cons (pv 11) (pa_cons (pe_ix ix_list (pv 9) (pe_op op_sub pe_int (pv 10)) (fun _ _ => rfl)) pa_nil)))) pa_nil)))))))))))
      (pss_cons (ps_setLc (i := 13) (own := [("_law_one", 12)]) (g := gName 12) (tt := tTest (tOp (rIn K false) (tVar 12) (tOp rCat (tLc (iList K (tVar 5)) (gTup K 3 (gCons (gName 7) (gCons (gName 11) (gCons (gName 8) gNil)))) tYes (tVar 7) [7, 11, 8]) (tLc (iList K (tVar 5)) (gTup K 3 (gCons (gName 7) (gCons (gName 11) (gCons (gName 8) gNil)))) tYes (tVar 8) [7, 11, 8])))) (te := tVar 12) rfl scRle.nd rfl rfl (sw_true rfl rfl rfl (by decide +kernel)) (pi_str pe_str) (blkOk_by (N := ["_law_s", "_law_m", "_law_name_here", "_law_count", "_law_many", "_law_conditions", "_law_k", "_law_x", "_law_y", "_law_ends", "_law_turned", "_law_word", "_law_one", "_law_names_here", "_law_variables", "_law_kind", "_law_gives"]) (sc := defScope sRle) (by decide +kernel)) (fun _ _ _ _ _ => (pg_name (i := 12) scRle.nd rfl (Or.inl rfl))) (fun _ _ _ _ _ => (pts_one (pt_cmpR op_in_seq (pv 12) (pe_op op_cat (pe_lc (own := [("_law_x", 7), ("_law_word", 11), ("_law_y", 8)]) (g := gTup K 3 (gCons (gName 7) (gCons (gName 11) (gCons (gName 8) gNil)))) (wi := iList K (tVar 5)) (tt := tYes) (te := tVar 7) rfl scRle.nd (pi_list (pv 5)) (blkOk_by (N := ["_law_s", "_law_m", "_law_name_here", "_law_count", "_law_many", "_law_conditions", "_law_k", "_law_x", "_law_y", "_law_ends", "_law_turned", "_law_word", "_law_one", "_law_names_here", "_law_variables", "_law_kind", "_law_gives"]) (sc := scCmp) (by decide +kernel)) (fun _ _ _ _ _ => (pg_tup rfl (pgs_cons (pg_name (i := 7) scRle.nd rfl (Or.inl rfl)) (pgs_cons (pg_name (i := 11) scRle.nd rfl (Or.inl rfl)) (pgs_cons (pg_name (i := 8) scRle.nd rfl (Or.inl rfl)) pgs_nil))))) (fun _ _ _ _ _ => pts_nil) (fun _ _ _ _ _ => (pv 7))) (pe_lc (own := [("_law_x", 7), ("_law_word", 11), ("_law_y", 8)]) (g := gTup K 3 (gCons (gName 7) (gCons (gName 11) (gCons (gName 8) gNil)))) (wi := iList K (tVar 5)) (tt := tYes) (te := tVar 8) rfl scRle.nd (pi_list (pv 5)) (blkOk_by (N := ["_law_s", "_law_m", "_law_name_here", "_law_count", "_law_many", "_law_conditions", "_law_k", "_law_x", "_law_y", "_law_ends", "_law_turned", "_law_word", "_law_one", "_law_names_here", "_law_variables", "_law_kind", "_law_gives"]) (sc := scCmp) (by decide +kernel)) (fun _ _ _ _ _ => (pg_tup rfl (pgs_cons (pg_name (i := 7) scRle.nd rfl (Or.inl rfl)) (pgs_cons (pg_name (i := 11) scRle.nd rfl (Or.inl rfl)) (pgs_cons (pg_name (i := 8) scRle.nd rfl (Or.inl rfl)) pgs_nil))))) (fun _ _ _ _ _ => pts_nil) (fun _ _ _ _ _ => (pv 8)))) (by rfl)))) (fun _ _ _ _ _ => (pv 12)))
      (pss_cons (ps_set (i := 14) scRle.nd rfl (Or.inl rfl) (pe_lst pa_nil))
      (pss_cons (ps_for PassesOwn.never rfl (pi_list (pv 13)) (pg_name (i := 12) scRle.nd rfl (Or.inl rfl)) (pss_cons (ps_set (i := 15) scRle.nd rfl (Or.inl rfl) (pe_call GG hr1 rfl DG.g DG.F.kp DG.b .nil pass0 (pa_cons (pv 0) (pa_cons (pe_op op_mul pe_int (pe_callB call_len_seq (by rfl) T.len (by decide +kernel) (pa_cons (pe_dget hu (pv 1) pe_str (fun _ _ => rfl)) pa_nil))) pa_nil))))
      (pss_one (ps_expr (pe_bm PySem.F.plainAttrs_list PySem.F.slot_list_append PySem.F.type_list_append mt_append (pv 14) (pa_cons (pe_tup (pa_cons (pv 12) (pa_cons (pe_ix ix_list (pe_op op_cat (pe_dget hu (pv 1) pe_str (fun _ _ => rfl)) (pe_op op_rep (pe_lst (pa_cons pe_non pa_nil)) (pe_callB call_len_seq (by rfl) T.len (by decide +kernel) (pa_cons (pe_dget hu (pv 1) pe_str (fun _ _ => rfl)) pa_nil)))) (pv 15) (fun _ _ => rfl)) pa_nil))) pa_nil))))))
      (pss_cons (ps_set (i := 11) scRle.nd rfl (Or.inl rfl) (pe_ix ix_list (pe_dget hu (pv 1) pe_str (fun _ _ => rfl)) (pe_call GG hr1 rfl DG.g DG.F.kp DG.b .nil pass0 (pa_cons (pv 0) (pa_cons (pe_callB call_len_seq (by rfl) T.len (by decide +kernel) (pa_cons (pe_dget hu (pv 1) pe_str (fun _ _ => rfl)) pa_nil)) pa_nil))) (fun _ _ => rfl)))
      (pss_cons (ps_set (i := 16) scRle.nd rfl (Or.inl rfl) (pe_tup (pa_cons (pe_ix ix_list (pv 13) (pe_call GG hr1 rfl DG.g DG.F.kp DG.b .nil pass0 (pa_cons (pv 0) (pa_cons (pe_callB call_len_seq (by rfl) T.len (by decide +kernel) (pa_cons (pv 13) pa_nil)) pa_nil))) (fun _ _ => rfl)) (pa_cons (pv 11) (pa_cons (pe_ix ix_list (pv 13) (pe_call GG hr1 rfl DG.g DG.F.kp DG.b .nil pass0 (pa_cons (pv 0) (pa_cons (pe_callB call_len_seq (by rfl) T.len (by decide +kernel) (pa_cons (pv 13) pa_nil)) pa_nil))) (fun _ _ => rfl)) pa_nil)))))
      (pss_one (ps_ret (pe_tup (pa_cons (pv 2) (pa_cons (pv 14) (pa_cons (pv 5) (pa_cons (pv 16) (pa_cons (pe_ix ix_list (pv 13) (pe_call GG hr1 rfl DG.g DG.F.kp DG.b .nil pass0 (pa_cons (pv 0) (pa_cons (pe_callB call_len_seq (by rfl) T.len (by decide +kernel) (pa_cons (pv 13) pa_nil)) pa_nil))) (fun _ _ => rfl)) pa_nil))))))))))))))))), ?_⟩
    have dgw : ∀ {H' : Hp}, H' m = some (.dK kvs) → DGet H' m (.str "words") (some (.ref lw)) := fun {H'} h => hgw ▸ DGet.k (k := Sum.inr "words") h
    have dgs : ∀ {H' : Hp}, H' m = some (.dK kvs) → DGet H' m (.str "sorts") (some (.ref ls)) := fun {H'} h => hgs ▸ DGet.k (k := Sum.inr "sorts") h
    have wlen : ((ws.map V.str).length : Int) = ws.length := by rw [List.length_map]
    refine ⟨_, rfl, p, 5, rfl, hS, by decide, by decide, fun d1 H1 a1 b1 B1 S1 => ⟨_, _, rfl, rfl, ⟨by decide, by decide⟩, _, _, rfl, rfl, _, rfl, p, 8, rfl, S1, by decide, by decide, fun d2 H2 a2 b2 B2 S2 => ⟨rfl, .inr ⟨_, rfl, _, _, rfl, rfl, ?_⟩⟩⟩⟩
    dsimp only [List.set_cons_succ, List.set_cons_zero]
    generalize hc : (1 + d1 / 2 + if decide (V.int d2 = V.int 7) = true then (1 : Int) else 0) = c
    have c1 : 1 ≤ c ∧ c ≤ 4 := by
      rw [← hc]
      have q1 : 0 ≤ d1 / 2 := Int.ediv_nonneg a1 (by decide)
      have q2 : d1 / 2 ≤ 2 := by omega
      split <;> omega
    clear hc
    refine ⟨Nat.zero_le _, fun lc hlc => ?_⟩
    dsimp only [List.set_cons_succ, List.set_cons_zero]
    have B12 := B1.trans B2
    have nlp : lc ≠ p := st_free S2 hlc
    have lc0 : H lc = none := B12.free nlp hlc
    refine ⟨_, rfl, _, _, rfl, _, rfl, by split <;> omega, by split <;> omega, ?_⟩
    generalize hn : (if (3 : Int) < c then 3 else c) = n
    have n13 : 1 ≤ n ∧ n ≤ 3 := by
      rw [← hn]
      split <;> omega
    refine for_range (n := n.toNat) (fun i σ H' => ∃ (mn : Nat) (cs : List Tri) (qs : List Addr) (u6 u7 u8 u9 u10 u11 : Option V), σ = [some (.ref p), some (.ref m), some (.str nm), some (.int c), some (.int mn), some (.ref lc), u6, u7, u8, u9, u10, u11, none, none, none, none, none] ∧
      H' lc = some (.lst (qs.map V.ref)) ∧ RowsAt K H' qs (cs.map triV) ∧ CInv ws mn cs ∧ cs.length = i ∧ But p H H' ∧ StOk H' p) ⟨1, [], [], none, none, none, none, none, none, rfl, upd_same, True.intro, CInv.nil ws, rfl, but_new B12 nlp lc0, S2.upd nlp⟩ ?_ ?_
    · rintro i σ H3 hi ⟨mn, cs, qs, u6, u7, u8, u9, u10, u11, rfl, hl, hrow, ci, len, B, S⟩
      have m1 := ci.m1
      have m4 := ci.m4
      refine ⟨_, rfl, _, rfl, p, mn, rfl, S, by omega, by omega, fun x H4 x0 x1 B4 S4 => ?_⟩
      dsimp only [gName, List.set_cons_succ, List.set_cons_zero]
      refine ⟨_, rfl, p, 5, rfl, S4, by decide, by decide, fun y H5 y0 y1 B5 S5 => ?_⟩
      dsimp only [gName, List.set_cons_succ, List.set_cons_zero]
      have B5' := (B.trans B4).trans B5
      have kp5 := (B4.kp S).trans (B5.kp S4)
      refine cut1 (fun σ' H' => ∃ (mn' y2 : Nat) (yv : Int) (v6 : Option V), σ' = [some (.ref p), some (.ref m), some (.str nm), some (.int c), some (.int mn'), some (.ref lc), v6, some (.int x), some (.int yv), u9, u10, u11, none, none, none, none, none] ∧ H' = H5 ∧ yv % (mn' : Int) = y2 ∧ ((mn' = mn ∧ y2 < mn) ∨ (mn' = mn + 1 ∧ y2 = mn ∧ mn < 4))) ?_ (fun R' fin => ?_)
      · rintro σ' H' ⟨mn', y2, yv, v6, rfl, rfl, ey, hy⟩
        have xe : x = ((x.toNat : Nat) : Int) := by omega
        refine ⟨_, rfl, rdItem abcd_len x0 (by omega) (by decide) fun e1 he1 => ⟨_, rfl, _, rfl, _, _, rfl, rfl, by omega, rdItem abcd_len (by omega) (by omega) (by decide) fun e2 he2 => ⟨by show 2 ≤ sizeLine; decide, fun le hle => ?_⟩⟩⟩
        dsimp only [gName, List.set_cons_succ, List.set_cons_zero]
        rw [abcd_get (by omega) he1] at *
        rw [ey, Int.toNat_natCast] at he2
        rw [abcd_get (by omega) he2] at *
        have S6a : Same H' (upd H' le (.lst [.str (ltr x.toNat), .str (ltr y2)])) := Same.upd hle
        have e6 : (upd H' le (.lst [.str (ltr x.toNat), .str (ltr y2)])) le = some (.lst ([ltr x.toNat, ltr y2].map V.str)) := upd_same
        have nle : le ≠ p := st_free S5 hle
        have le0 : H le = none := B5'.free nle hle
        have S6 : StOk (upd H' le (.lst [.str (ltr x.toNat), .str (ltr y2)])) p := S5.upd nle
        have B6 : But p H (upd H' le (.lst [.str (ltr x.toNat), .str (ltr y2)])) := but_new B5' nle le0
        generalize upd H' le (.lst [.str (ltr x.toNat), .str (ltr y2)]) = H6 at S6a e6 S6 B6
        refine ⟨_, rfl, p, 2, rfl, S6, by decide, by decide, fun tn H7 t0 t1 B7 S7 => ?_⟩
        dsimp only [gName, List.set_cons_succ, List.set_cons_zero]
        have kp7 := (kp5.trans (Same.kp S6a)).trans (B7.kp S6)
        have B7' := B6.trans B7
        have nmp : m ≠ p := But.ne hS hm ns_dK
        have nwp : lw ≠ p := But.ne hS hw ns_strs
        have hm7 := B7' _ _ nmp hm
        have hw7 := B7' _ _ nwp hw
        refine ⟨_, rfl, m, _, rfl, dgw hm7, _, rfl, _, rfl, m, _, rfl, dgw hm7, lw, _, rfl, .inl (SqL.of hw7), p, _, rfl, S7, by rw [wlen]; omega, by rw [wlen]; omega, fun dw H8 w0 w1' B8 S8 => ?_⟩
        obtain ⟨wd, hwd, ewd⟩ := str_get w0 w1'
        have B8' := B7'.trans B8
        refine rdList (B8' _ _ nwp hw) (j := dw.toNat) (by omega) ewd ?_
        dsimp only [gName, List.set_cons_succ, List.set_cons_zero]
        have kp8 := kp7.trans (B8.kp S7)
        have hl8 := kp8 _ _ ns_refs hl
        have hrow8 := kp8.rows hrow
        have e8 : H8 le = some (.lst ([ltr x.toNat, ltr y2].map V.str)) := (B7.kp S6).trans (B8.kp S7) _ _ ns_strs e6
        obtain ⟨z1, z2, g1, g2, hz⟩ : ∃ z1 z2 : Str, ([ltr x.toNat, ltr y2].map V.str)[tn.toNat]? = some (.str z1) ∧ ([ltr x.toNat, ltr y2].map V.str)[(1 - tn).toNat]? = some (.str z2) ∧ ((z1, wd, z2) = (ltr x.toNat, wd, ltr y2) ∨ (z1, wd, z2) = (ltr y2, wd, ltr x.toNat)) := by
          rcases (by omega : tn = 0 ∨ tn = 1) with rfl | rfl
          · exact ⟨_, _, rfl, rfl, .inl rfl⟩
          · exact ⟨_, _, rfl, rfl, .inr rfl⟩
        refine ⟨_, rfl, .inl ⟨rfl, _, SqL.of hl8⟩, _, rfl, _, rfl, rdList e8 (j := tn.toNat) (by omega) g1 ⟨_, rfl, _, rfl, _, rfl, _, _, rfl, rfl, rdList e8 (j := (1 - tn).toNat) (by omega) g2 ⟨by show 3 ≤ sizeLine; decide, fun tt htt => ?_⟩⟩⟩
        have S9 : Same H8 (upd H8 tt (.tup [.str z1, .str wd, .str z2])) := Same.upd htt
        have e9 : (upd H8 tt (.tup [.str z1, .str wd, .str z2])) tt = some (.tup (triV (z1, wd, z2))) := upd_same
        have ntp : tt ≠ p := st_free S8 htt
        have tt0 : H tt = none := B8'.free ntp htt
        have st9 : StOk (upd H8 tt (.tup [.str z1, .str wd, .str z2])) p := S8.upd ntp
        have B9 : But p H (upd H8 tt (.tup [.str z1, .str wd, .str z2])) := but_new B8' ntp tt0
        generalize upd H8 tt (.tup [.str z1, .str wd, .str z2]) = H9 at S9 e9 st9 B9
        have hl9 := S9 _ _ hl8
        refine ⟨lc, _, _, rfl, rfl, hl9, ?_, ?_⟩
        · have q := hrow.len
          rw [List.length_map] at q ⊢
          exact Nat.lt_of_le_of_lt (show _ ≤ 1000 by omega) (by decide)
        · refine ⟨mn', cs ++ [(z1, wd, z2)], qs ++ [tt], _, _, _, _, _, _, rfl, ?_, ?_, ci.step (x := x.toNat) (by omega) hy hwd hz, ?_, but_new B9 nlp lc0, st9.upd nlp⟩
          · rw [upd_same, List.map_append]
            rfl
          · rw [List.map_append]
            exact RowsAt.append (rows_put hl9 (hrow8.same S9)) ⟨sqT_put hl9 (SqT.of e9), True.intro⟩
          · rw [List.length_append, List.length_singleton, len]
      · refine ⟨_, rfl, _, rfl, _, _, rfl, rfl, _, rfl, ?_⟩
        refine ite2 (fun hq => ?_) (fun hq => ?_)
        · refine ⟨_, rfl, _, _, rfl, rfl, _, rfl, ?_⟩
          refine ite2 (fun hq2 => ?_) (fun hq2 => ?_)
          · refine ⟨_, rfl, ?_⟩
            dsimp only [gName, List.set_cons_succ, List.set_cons_zero]
            refine ⟨_, rfl, _, _, rfl, rfl, ?_⟩
            dsimp only [gName, List.set_cons_succ, List.set_cons_zero]
            have h4 : (mn : Int) < 4 := of_decide_eq_true hq2
            refine fin _ _ ⟨mn + 1, mn, _, _, rfl, rfl, ?_, .inr ⟨rfl, rfl, by omega⟩⟩
            exact Int.emod_eq_of_lt (by omega) (by omega)
          · exact fin _ _ ⟨mn, (y % (mn : Int)).toNat, y, _, rfl, rfl, by have := Int.emod_nonneg y (show (mn : Int) ≠ 0 by omega); omega, .inl ⟨rfl, by have := Int.emod_lt_of_pos y (show (0 : Int) < mn by omega); omega⟩⟩
        · exact fin _ _ ⟨mn, (y % (mn : Int)).toNat, y, _, rfl, rfl, by have := Int.emod_nonneg y (show (mn : Int) ≠ 0 by omega); omega, .inl ⟨rfl, by have := Int.emod_lt_of_pos y (show (0 : Int) < mn by omega); omega⟩⟩
    rintro σ H3 ⟨mn, cs, qs, u6, u7, u8, u9, u10, u11, rfl, hl, hrow, ci, len, B, S⟩
    have cne : cs ≠ [] := fun z => by rw [z] at len; simp at len; omega
    have cs3 : cs.length ≤ 3 := by omega
    have qcl : qs.length = cs.length := by
      have q := hrow.len
      rw [List.length_map] at q
      exact q
    refine ⟨_, rfl, fun ln hln => ?_⟩
    have nnp : ln ≠ p := st_free S hln
    have ln0 : H ln = none := B.free nnp hln
    refine lc_it (walk_str (z := ABCD)) (fun i H' => Same H3 H' ∧ H' ln = some (.lst (((([0, 1, 2, 3].map ltr).take i).filter fun z => decide (z ∈ endsL cs)).map V.str))) ⟨Same.upd hln, upd_same⟩ (fun _ _ _ _ => True.intro) ?_ ?_
    · rintro i x H4 H4' hi ⟨hS4, hd4⟩ ⟨rfl, e, he, rfl⟩
      have hi4 : i < 4 := hi
      have hez : (⟨#[e]⟩ : Str) = ltr i := abcd_get hi4 (by simpa using he)
      have hl4 := hS4 _ _ hl
      have hrow4 := hrow.same hS4
      have nlc : lc ≠ ln := ne_of_none hl hln
      refine ⟨rfl, _, rfl, _, rfl, lc, rfl, ⟨_, SqL.of hl4⟩, fun D1 hD1 => ?_⟩
      refine lc_list (K := K) (a := lc) (xs := qs.map V.ref) (fun j H' => Same H4' H' ∧ H' D1 = some (.lst (((cs.take j).map (·.1)).map V.str))) ⟨Same.upd hD1, upd_same⟩ (fun j H' _ p => SqL.of (p.1 _ _ hl4)) ?_ ?_
      · rintro j x H5 hx ⟨hS5, hd5⟩
        obtain ⟨q, hq, rfl⟩ := map_ref_get hx
        obtain ⟨r, hr1, hr'⟩ := hrow4.get hq
        obtain ⟨t, ht, rfl⟩ := tri_get hr1
        refine ⟨q, _, rfl, same_seqT hS5 hr', rfl, _, _, rfl, _, _, rfl, _, _, rfl, rfl, rfl, _, rfl, _, hd5, ?_, ?_, ?_⟩
        · rw [List.length_map, List.length_map, List.length_take]
          exact Nat.lt_of_le_of_lt (show _ ≤ 1000 by omega) (by decide)
        · exact fun b o e => by rw [upd_ne (ne_of_none e hD1)]; exact hS5 b o e
        · rw [upd_same, List.take_add_one, ht, List.map_append, List.map_append]
          rfl
      rintro H5 ⟨hS5, hd5⟩
      rw [List.length_map, qcl, List.take_length] at hd5
      have hl5 := hS5 _ _ hl4
      have hrow5 := hrow4.same hS5
      refine ⟨_, rfl, lc, rfl, ⟨_, SqL.of hl5⟩, fun D2 hD2 => ?_⟩
      refine lc_list (K := K) (a := lc) (xs := qs.map V.ref) (fun j H' => Same H5 H' ∧ H' D2 = some (.lst (((cs.take j).map (·.2.2)).map V.str))) ⟨Same.upd hD2, upd_same⟩ (fun j H' _ p => SqL.of (p.1 _ _ hl5)) ?_ ?_
      · rintro j x H6 hx ⟨hS6, hd6⟩
        obtain ⟨q, hq, rfl⟩ := map_ref_get hx
        obtain ⟨r, hr1, hr'⟩ := hrow5.get hq
        obtain ⟨t, ht, rfl⟩ := tri_get hr1
        refine ⟨q, _, rfl, same_seqT hS6 hr', rfl, _, _, rfl, _, _, rfl, _, _, rfl, rfl, rfl, _, rfl, _, hd6, ?_, ?_, ?_⟩
        · rw [List.length_map, List.length_map, List.length_take]
          exact Nat.lt_of_le_of_lt (show _ ≤ 1000 by omega) (by decide)
        · exact fun b o e => by rw [upd_ne (ne_of_none e hD2)]; exact hS6 b o e
        · rw [upd_same, List.take_add_one, ht, List.map_append, List.map_append]
          rfl
      rintro H6 ⟨hS6, hd6⟩
      rw [List.length_map, qcl, List.take_length] at hd6
      refine ⟨D1, D2, _, _, rfl, rfl, hS6 _ _ hd5, hd6, ?_, fun D3 hD3 => ?_⟩
      · rw [List.length_map, List.length_map, List.length_map, List.length_map]
        exact Nat.le_trans (show _ ≤ 1000 by omega) (by decide)
      have hS7 : Same H4' (upd H6 D3 (.lst (((cs.map (·.1)).map V.str) ++ ((cs.map (·.2.2)).map V.str)))) := (hS5.trans hS6).trans (Same.upd hD3)
      refine ⟨D3, _, rfl, .inl (SqL.of upd_same), rfl, ?_, ?_⟩
      · rw [← List.map_append]
        exact flats _
      rw [← List.map_append] at hS7 ⊢
      have hD7 : H4' ln = some _ := hd4
      generalize upd H6 D3 (.lst ((cs.map (·.1) ++ cs.map (·.2.2)).map V.str)) = H7 at hS7
      have hd7 := hS7 _ _ hd4
      have e3 : (if false = true then !inV (.str ⟨#[e]⟩) ((cs.map (·.1) ++ cs.map (·.2.2)).map V.str) else inV (.str ⟨#[e]⟩) ((cs.map (·.1) ++ cs.map (·.2.2)).map V.str)) = decide (ltr i ∈ endsL cs) := by
        rw [if_neg (by decide), inV_strs, hez]
        exact decide_eq_decide.mpr ends_mem
      refine ⟨_, rfl, ?_⟩
      rw [e3]
      have et : (([0, 1, 2, 3].map ltr).take (i + 1)) = (([0, 1, 2, 3].map ltr).take i) ++ [ltr i] := by
        rw [List.take_add_one]
        congr 1
        rcases (by omega : i = 0 ∨ i = 1 ∨ i = 2 ∨ i = 3) with rfl | rfl | rfl | rfl <;> rfl
      by_cases hm4 : ltr i ∈ endsL cs
      · rw [decide_eq_true hm4]
        refine iteT ⟨_, rfl, _, hd7, ?_, ?_, ?_⟩
        · rw [List.length_map]
          exact Nat.lt_of_le_of_lt (Nat.le_trans (List.length_filter_le _ _) (show _ ≤ 1000 by rw [List.length_take]; omega)) (by decide)
        · exact fun b o e => by rw [upd_ne (ne_of_none e hln)]; exact hS7 b o (hS4 b o e)
        · rw [upd_same, et, List.filter_append, List.filter_cons, if_pos (decide_eq_true hm4), List.filter_nil, List.map_append, hez]
          rfl
      · rw [decide_eq_false hm4]
        refine iteF ⟨hS4.trans hS7, ?_⟩
        rw [hd7, et, List.filter_append, List.filter_cons, if_neg (by rw [decide_eq_false hm4]; decide), List.filter_nil, List.append_nil]
    rintro H4 ⟨hS4, hd4⟩
    have hd4 : H4 ln = some (.lst ((nmsOf cs).map V.str)) := hd4
    dsimp only [gName, List.set_cons_succ, List.set_cons_zero]
    have B4 : But p H H4 := fun q o n e => hS4 _ _ (B q o n e)
    have S4 := S.same hS4
    have hl4 := hS4 _ _ hl
    have hrow4 := hrow.same hS4
    have nl := nmsOf_len cs
    have n1 := nmsOf_pos ci cne
    refine ⟨Nat.zero_le _, fun lv hlv => ?_⟩
    dsimp only [gName, List.set_cons_succ, List.set_cons_zero]
    have nvp : lv ≠ p := st_free S4 hlv
    have lv0 : H lv = none := B4.free nvp hlv
    have nvn : ln ≠ lv := ne_of_none hd4 hlv
    have nvc : lc ≠ lv := ne_of_none hl4 hlv
    have nmp : m ≠ p := But.ne hS hm ns_dK
    have nwp : lw ≠ p := But.ne hS hw ns_strs
    have nsp : ls ≠ p := But.ne hS hs ns_strs
    refine ⟨_, rfl, ln, rfl, ⟨_, SqL.of ((upd_ne nvn).trans hd4)⟩, for_list (K := K) (a := ln) (xs := (nmsOf cs).map V.str) (fun i σ H' => ∃ (u12 u15 : Option V) (vs : List Var) (ps : List Addr), σ = [some (.ref p), some (.ref m), some (.str nm), some (.int c), some (.int mn), some (.ref lc), u6, u7, u8, u9, u10, u11, u12, some (.ref ln), some (.ref lv), u15, none] ∧
      H' ln = some (.lst ((nmsOf cs).map V.str)) ∧ H' lv = some (.lst (ps.map V.ref)) ∧ RowsAt K H' ps (vs.map varV) ∧ vs.map (·.1) = (nmsOf cs).take i ∧ (∀ v ∈ vs, ∀ z, v.2 = some z → z ∈ ss) ∧ But p H H' ∧ StOk H' p ∧ H' lc = some (.lst (qs.map V.ref)) ∧ RowsAt K H' qs (cs.map triV))
      ⟨_, _, [], [], rfl, (upd_ne nvn).trans hd4, upd_same, True.intro, rfl, fun _ h => (List.not_mem_nil h).elim, but_new B4 nvp lv0, S4.upd nvp, (upd_ne nvc).trans hl4, hrow4.same (Same.upd hlv)⟩ (fun i σ H' _ ⟨_, _, _, _, _, h, _⟩ => SqL.of h) ?_ ?_⟩
    · rintro i x σ H5 hx ⟨u12, u15, vs, ps, rfl, hn5, hv5, hr5, ev, hvs, B5, S5, hl5, hrow5⟩
      obtain ⟨z, hz, rfl⟩ := map_str_get hx
      dsimp only [gName, List.set_cons_succ, List.set_cons_zero]
      have slen : ((ss.map V.str).length : Int) = ss.length := by rw [List.length_map]
      have hm5 := B5 _ _ nmp hm
      refine ⟨_, rfl, _, rfl, m, _, rfl, dgs hm5, ls, _, rfl, .inl (SqL.of (B5 _ _ nsp hs)), _, _, rfl, rfl, .inl ⟨by decide, by decide⟩, p, _, rfl, S5, by rw [slen]; omega, by rw [slen]; omega, fun kd H6 k0 k1 B6 S6 => ?_⟩
      dsimp only [gName, List.set_cons_succ, List.set_cons_zero]
      have B6' := B5.trans B6
      have kp6 := B6.kp S5
      have hm6 := B6' _ _ nmp hm
      have hs6 := B6' _ _ nsp hs
      have hv6 := kp6 _ _ ns_refs hv5
      obtain ⟨o, eo, ho⟩ := sort_get k0 k1
      refine ⟨_, rfl, .inl ⟨rfl, _, SqL.of hv6⟩, _, rfl, _, rfl, m, _, rfl, dgs hm6, by show 1 ≤ sizeLine; decide, fun l1 hl1 => ?_⟩
      have T1 : Same H6 (upd H6 l1 (.lst [.non])) := Same.upd hl1
      refine ⟨_, rfl, m, _, rfl, dgs (T1 _ _ hm6), ls, _, rfl, .inl (SqL.of (T1 _ _ hs6)), l1, _, _, rfl, rfl, upd_same, by rw [slen]; omega, by rw [slen]; omega, ?_, fun l2 hl2 => ?_⟩
      · rw [List.length_map]
        show 1 * _ ≤ sizeLine
        rw [Int.toNat_natCast]
        exact Nat.le_trans (show _ ≤ 1000 by omega) (by decide)
      have T2 := Same.upd (o := .lst (List.replicate ((ss.map V.str).length : Int).toNat [V.non]).flatten) hl2
      refine ⟨ls, l2, _, _, rfl, rfl, T2 _ _ (T1 _ _ hs6), upd_same, ?_, fun l3 hl3 => ?_⟩
      · rw [List.length_flatten, List.map_replicate, List.sum_replicate_nat, List.length_map, Int.toNat_natCast]
        exact Nat.le_trans (show _ ≤ 1000 by simp; omega) (by decide)
      have T3 := Same.upd (o := .lst ((ss.map V.str) ++ (List.replicate ((ss.map V.str).length : Int).toNat [V.non]).flatten)) hl3
      refine ⟨_, rfl, rdList upd_same (j := kd.toNat) (by omega) eo ⟨by show 2 ≤ sizeLine; decide, fun tt htt => ?_⟩⟩
      have T4 := Same.upd (o := .tup [.str z, sortV o]) htt
      have e7 : (upd (upd (upd (upd H6 l1 (.lst [.non])) l2 (.lst (List.replicate ((ss.map V.str).length : Int).toNat [V.non]).flatten)) l3 (.lst ((ss.map V.str) ++ (List.replicate ((ss.map V.str).length : Int).toNat [V.non]).flatten))) tt (.tup [.str z, sortV o])) tt = some (.tup (varV (z, o))) := upd_same
      have T14 := ((T1.trans T2).trans T3).trans T4
      generalize (upd (upd (upd (upd H6 l1 (.lst [.non])) l2 (.lst (List.replicate ((ss.map V.str).length : Int).toNat [V.non]).flatten)) l3 (.lst ((ss.map V.str) ++ (List.replicate ((ss.map V.str).length : Int).toNat [V.non]).flatten))) tt (.tup [.str z, sortV o])) = H7 at T14 e7
      have hv7 := T14 _ _ hv6
      have B7 : But p H H7 := fun q o n e => T14 _ _ (B6' q o n e)
      have zi : i < (nmsOf cs).length := (List.getElem?_eq_some_iff.mp hz).1
      have vl : vs.length = i := by
        have q := congrArg List.length ev
        rw [List.length_map, List.length_take] at q
        omega
      refine ⟨lv, _, _, rfl, rfl, hv7, ?_, ?_⟩
      · have q := hr5.len
        rw [List.length_map] at q ⊢
        exact Nat.lt_of_le_of_lt (show _ ≤ 1000 by omega) (by decide)
      refine ⟨_, _, vs ++ [(z, o)], ps ++ [tt], rfl, ?_, ?_, ?_, ?_, ?_, but_new B7 nvp lv0, (S6.same T14).upd nvp, ?_, ?_⟩
      · rw [upd_ne nvn]
        exact T14 _ _ (kp6 _ _ ns_strs hn5)
      · rw [upd_same, List.map_append]
        rfl
      · rw [List.map_append]
        exact RowsAt.append (rows_put hv7 ((kp6.rows hr5).same T14)) ⟨sqT_put hv7 (SqT.of e7), True.intro⟩
      · rw [List.map_append, ev, List.take_add_one, hz]
        rfl
      · intro v hv y ey
        rcases List.mem_append.mp hv with q | q
        · exact hvs v q y ey
        · rw [List.mem_singleton.mp q] at ey
          exact ho y ey
      · rw [upd_ne nvc]
        exact T14 _ _ (kp6 _ _ ns_refs hl5)
      · exact rows_put hv7 ((kp6.rows hrow5).same T14)
    rintro σ H5 ⟨u12, u15, vs, ps, rfl, hn5, hv5, hr5, ev, hvs, B5, S5, hl5, hrow5⟩
    rw [List.length_map, List.take_length] at ev
    have hm5 := B5 _ _ nmp hm
    have hw5 := B5 _ _ nwp hw
    refine ⟨_, rfl, m, _, rfl, dgw hm5, _, rfl, _, rfl, m, _, rfl, dgw hm5, lw, _, rfl, .inl (SqL.of hw5), p, _, rfl, S5, by rw [wlen]; omega, by rw [wlen]; omega, fun dw H6 w0 w1' B6 S6 => ?_⟩
    obtain ⟨wd, hwd, ewd⟩ := str_get w0 w1'
    refine rdList (B6 _ _ nwp hw5) (j := dw.toNat) (by omega) ewd ?_
    dsimp only [gName, List.set_cons_succ, List.set_cons_zero]
    have nlen : (((nmsOf cs).map V.str).length : Int) = (nmsOf cs).length := by rw [List.length_map]
    have kp6 := B6.kp S5
    have hn6 := kp6 _ _ ns_strs hn5
    refine ⟨_, rfl, _, rfl, _, rfl, ln, _, rfl, .inl (SqL.of hn6), p, _, rfl, S6, by rw [nlen]; omega, by rw [nlen]; omega, fun da H7 a0 a1 B7 S7 => ?_⟩
    obtain ⟨za, hza, eza⟩ := str_get a0 a1
    have kp7 := B7.kp S6
    have hn7 := kp7 _ _ ns_strs hn6
    refine rdList hn7 (j := da.toNat) (by omega) eza ⟨_, rfl, _, rfl, _, rfl, _, rfl, ln, _, rfl, .inl (SqL.of hn7), p, _, rfl, S7, by rw [nlen]; omega, by rw [nlen]; omega, fun db H8 b0 b1 B8 S8 => ?_⟩
    obtain ⟨zb, hzb, ezb⟩ := str_get b0 b1
    have kp8 := B8.kp S7
    have hn8 := kp8 _ _ ns_strs hn7
    refine rdList hn8 (j := db.toNat) (by omega) ezb ⟨by show 3 ≤ sizeLine; decide, fun tg htg => ?_⟩
    dsimp only [gName, List.set_cons_succ, List.set_cons_zero]
    have B8' := ((B5.trans B6).trans B7).trans B8
    have T9 : Same H8 (upd H8 tg (.tup [.str za, .str wd, .str zb])) := Same.upd htg
    have e9 : (upd H8 tg (.tup [.str za, .str wd, .str zb])) tg = some (.tup (triV (za, wd, zb))) := upd_same
    generalize upd H8 tg (.tup [.str za, .str wd, .str zb]) = H9 at T9 e9
    have hn9 := T9 _ _ hn8
    have S9 := S8.same T9
    have B9 : But p H H9 := fun q o n e => T9 _ _ (B8' q o n e)
    refine ⟨_, rfl, _, rfl, _, rfl, _, rfl, _, rfl, _, rfl, _, rfl, ln, _, rfl, .inl (SqL.of hn9), p, _, rfl, S9, by rw [nlen]; omega, by rw [nlen]; omega, fun dc H10 c0 c1' B10 S10 => ?_⟩
    obtain ⟨zc, hzc, ezc⟩ := str_get c0 c1'
    have kp10 := B10.kp S9
    refine rdList (kp10 _ _ ns_strs hn9) (j := dc.toNat) (by omega) ezc ⟨by show 5 ≤ sizeLine; decide, fun t ht => ?_⟩
    have kpA := ((kp6.trans kp7).trans kp8).trans ((Same.kp T9).trans kp10)
    have B10' := B9.trans B10
    have ntp : t ≠ p := st_free S10 ht
    have t0 : H t = none := B10'.free ntp ht
    have T11 : Same H10 (upd H10 t (.tup [.str nm, .ref lv, .ref lc, .ref tg, .str zc])) := Same.upd ht
    have kpB := kpA.trans (Same.kp T11)
    refine k t ⟨⟨nm, vs, cs⟩, (za, wd, zb), zc⟩ _ rfl ?_ t0 (but_new B10' ntp t0) (S10.upd ntp) fun D o hD => ⟨lv, lc, tg, ps, qs, (ne_of_none hD lv0).symm, (ne_of_none hD lc0).symm, upd_same, kpB _ _ ns_refs hv5, kpB.rows hr5, kpB _ _ ns_refs hl5, kpB.rows hrow5, T11 _ _ (kp10 _ _ ns_tup e9)⟩
    have vl : vs.length = (nmsOf cs).length := by rw [← ev, List.length_map]
    have cl : 1 ≤ cs.length := List.length_pos_iff.mpr cne
    refine ⟨⟨by show 1 ≤ vs.length; omega, by show vs.length ≤ 4; omega, cl, cs3, Nat.le_refl _, Nat.le_refl _, ?_, fun z hz => ?_, fun z hz => ?_, ci.ha⟩, fun v hv => ?_, hvs, ci.wd, hwd⟩
    · show NoTw ((vs.map (·.1)).map V.str)
      rw [ev]
      exact noTw_of (nmsOf_nd cs)
    · show z ∈ vs.map (·.1)
      rw [ev]
      have hz : z ∈ endsL (cs ++ [(za, wd, zb)]) ++ [zc] := hz
      rw [endsL_app] at hz
      rcases List.mem_append.mp hz with hz | hz
      · rcases List.mem_append.mp hz with hz | hz
        · exact (nmsOf_mem ci).mpr hz
        · have hz : z ∈ [za, zb] := hz
          simp at hz
          rcases hz with rfl | rfl
          · exact hza
          · exact hzb
      · rw [List.mem_singleton.mp hz]
        exact hzc
    · have hz : z ∈ vs.map (·.1) := hz
      rw [ev] at hz
      exact (nmsOf_mem ci).mp hz
    · exact nmsOf_ok (cs := cs) (by rw [← ev]; exact List.mem_map_of_mem hv)
end
end Wm
namespace Wm
open PySem L2 StX
def spMkg : Sp := fun vs H Q _ => ∃ (p m : Addr) (a b : Str) (kvs : List (L2.Key × V)) (lw : Addr) (ws : List Str), vs = [.ref p, .ref m, .str a, .str b] ∧ StOk H p ∧ H m = some (.dK kvs) ∧ valV kvs (Sum.inr "words") = some (.ref lw) ∧ H lw = some (.lst (ws.map V.str)) ∧ ws.length ≤ 60 ∧
  ∀ t ds us H', ds.Sublist ws → us.Sublist ws → H t = none → But p H H' → StOk H' p → (∀ D o, H D = some o → MMakN H' D t ⟨a, b, ds, us⟩) → Q (.ref t) H'
section
variable {P : Program} {w : World} {K : PySem.W.Frag} {mg : Str → Option Value} {base : Heap}
theorem scMkg : FnScope ["_law_s", "_law_m", "_law_maker", "_law_made", "_law_down", "_law_up", "_law_word"] ["_law_s", "_law_m", "_law_maker", "_law_made"] (defScope sMkg) := ⟨rfl, rfl, rfl, by decide +kernel, rfl, by decide +kernel, by decide +kernel⟩
theorem ok_mkg {f fG : Addr} {fd dG : FuncData} (F : Fun K "_law_making" "_law_making" sMkg f fd) (DG : Dn K mg "_law_digit" sDigit ["_law_state_here", "_law_base"] fG dG) : FnOk P w K mg base CX0 2 f fd ["_law_s", "_law_m", "_law_maker", "_law_made"] spMkg := by
  have GG : FnOk P w K mg base CX0 1 fG dG _ spDigit := ok_digit DG.F
  refine F.ok scMkg (fun vs H Q E h => ?_) (fun cdv A outer s H vs Q E hr h => ?_)
  · obtain ⟨p, m, a, b, kvs, lw, ws, rfl, _⟩ := h
    rfl
  · obtain ⟨p, m, a, b, kvs, lw, ws, rfl, hS, hm, hgw, hw, w9, k⟩ := h
    have hr1 : Room 1 _ := hr
    have hu := hu_of hr
    refine ⟨_, (pss_cons (ps_setLc (i := 4) (own := [("_law_word", 6)]) (g := gName 6) (tt := tTest (tOp rEq (tCall spDigit [] E0 (tCons (tVar 0) (tCons (tC (.int 2)) tNil))) (tC (.int 1)))) (te := tVar 6) rfl scMkg.nd rfl rfl (sw_true rfl rfl rfl (by decide +kernel)) (pi_list (pe_dget hu (pv 1) pe_str (fun _ _ => rfl))) (blkOk_by (N := ["_law_s", "_law_m", "_law_maker", "_law_made", "_law_down", "_law_up", "_law_word"]) (sc := defScope sMkg) (by decide +kernel)) (fun _ _ _ _ _ => (pg_name (i := 6) scMkg.nd rfl (Or.inl rfl))) (fun _ _ _ _ _ => (pts_one (pt_cmpR op_eq (pe_call GG hr1 rfl DG.g DG.F.kp DG.b .nil pass0 (pa_cons (pv 0) (pa_cons pe_int pa_nil))) pe_int (nomark _)))) (fun _ _ _ _ _ => (pv 6)))
      (pss_cons (ps_setLc (i := 5) (own := [("_law_word", 6)]) (g := gName 6) (tt := tTest (tOp rEq (tCall spDigit [] E0 (tCons (tVar 0) (tCons (tC (.int 3)) tNil))) (tC (.int 1)))) (te := tVar 6) rfl scMkg.nd rfl rfl (sw_true rfl rfl rfl (by decide +kernel)) (pi_list (pe_dget hu (pv 1) pe_str (fun _ _ => rfl))) (blkOk_by (N := ["_law_s", "_law_m", "_law_maker", "_law_made", "_law_down", "_law_up", "_law_word"]) (sc := defScope sMkg) (by decide +kernel)) (fun _ _ _ _ _ => (pg_name (i := 6) scMkg.nd rfl (Or.inl rfl))) (fun _ _ _ _ _ => (pts_one (pt_cmpR op_eq (pe_call GG hr1 rfl DG.g DG.F.kp DG.b .nil pass0 (pa_cons (pv 0) (pa_cons pe_int pa_nil))) pe_int (nomark _)))) (fun _ _ _ _ _ => (pv 6)))
      (pss_one (ps_ret (pe_tup (pa_cons (pv 2) (pa_cons (pv 3) (pa_cons (pv 4) (pa_cons (pv 5) pa_nil))))))))), ?_⟩
    have dgw : ∀ {H' : Hp}, H' m = some (.dK kvs) → DGet H' m (.str "words") (some (.ref lw)) := fun {H'} h => hgw ▸ DGet.k (k := Sum.inr "words") h
    have nmp : m ≠ p := But.ne hS hm ns_dK
    have nwp : lw ≠ p := But.ne hS hw ns_strs
    have grow : ∀ {i : Nat} {z : Str} {ds : List Str}, ws[i]? = some z → ds.Sublist (ws.take i) → (ds ++ [z]).Sublist (ws.take (i + 1)) ∧ ds.Sublist (ws.take (i + 1)) := fun {i z ds} hz hd => by
      rw [List.take_add_one, hz]
      exact ⟨hd.append (List.Sublist.refl _), hd.trans (List.sublist_append_left _ _)⟩
    refine ⟨_, rfl, m, _, rfl, dgw hm, lw, rfl, ⟨_, SqL.of hw⟩, fun D hD => ?_⟩
    have nDp : D ≠ p := st_free hS hD
    refine lc_list (K := K) (a := lw) (xs := ws.map V.str) (fun i H' => ∃ ds : List Str, ds.Sublist (ws.take i) ∧ H' D = some (.lst (ds.map V.str)) ∧ But p H H' ∧ StOk H' p) ⟨[], List.Sublist.refl _, upd_same, but_new (But.refl p H) nDp hD, hS.upd nDp⟩ (fun i H' _ ⟨ds, _, _, B, _⟩ => SqL.of (B _ _ nwp hw)) ?_ ?_
    · rintro i x H1 hx ⟨ds, sb, hd, B, S⟩
      obtain ⟨z, hz, rfl⟩ := map_str_get hx
      obtain ⟨g1, g2⟩ := grow hz sb
      refine ⟨rfl, _, rfl, p, 2, rfl, S, by decide, by decide, fun d2 H2 d0 d1 B2 S2 => ⟨rfl, _, rfl, ?_⟩⟩
      have hd2 := B2 _ _ nDp hd
      refine ite2 (fun _ => ⟨_, rfl, _, hd2, ?_, ds ++ [z], g1, ?_, but_new (B.trans B2) nDp hD, S2.upd nDp⟩) (fun _ => ⟨ds, g2, hd2, B.trans B2, S2⟩)
      · have q := sb.length_le
        rw [List.length_take] at q
        rw [List.length_map]
        exact Nat.lt_of_le_of_lt (show _ ≤ 1000 by omega) (by decide)
      · rw [upd_same, List.map_append]
        rfl
    rintro H1 ⟨ds, sb, hd, B, S⟩
    rw [List.length_map, List.take_length] at sb
    dsimp only [gName, List.set_cons_succ, List.set_cons_zero]
    refine ⟨_, rfl, m, _, rfl, dgw (B _ _ nmp hm), lw, rfl, ⟨_, SqL.of (B _ _ nwp hw)⟩, fun D2 hD2 => ?_⟩
    have nDp2 : D2 ≠ p := st_free S hD2
    have nDD : D ≠ D2 := ne_of_none hd hD2
    have D20 : H D2 = none := B.free nDp2 hD2
    refine lc_list (K := K) (a := lw) (xs := ws.map V.str) (fun i H' => H' D = some (.lst (ds.map V.str)) ∧ ∃ us : List Str, us.Sublist (ws.take i) ∧ H' D2 = some (.lst (us.map V.str)) ∧ But p H H' ∧ StOk H' p) ⟨(upd_ne nDD).trans hd, [], List.Sublist.refl _, upd_same, but_new B nDp2 D20, S.upd nDp2⟩ (fun i H' _ ⟨_, us, _, _, B, _⟩ => SqL.of (B _ _ nwp hw)) ?_ ?_
    · rintro i x H1 hx ⟨hdd, us, sb, hd, B, S⟩
      obtain ⟨z, hz, rfl⟩ := map_str_get hx
      obtain ⟨g1, g2⟩ := grow hz sb
      refine ⟨rfl, _, rfl, p, 3, rfl, S, by decide, by decide, fun d2 H2 d0 d1 B2 S2 => ⟨rfl, _, rfl, ?_⟩⟩
      have hd2 := B2 _ _ nDp2 hd
      refine ite2 (fun _ => ⟨_, rfl, _, hd2, ?_, (upd_ne nDD).trans (B2 _ _ nDp hdd), us ++ [z], g1, ?_, but_new (B.trans B2) nDp2 D20, S2.upd nDp2⟩) (fun _ => ⟨B2 _ _ nDp hdd, us, g2, hd2, B.trans B2, S2⟩)
      · have q := sb.length_le
        rw [List.length_take] at q
        rw [List.length_map]
        exact Nat.lt_of_le_of_lt (show _ ≤ 1000 by omega) (by decide)
      · rw [upd_same, List.map_append]
        rfl
    rintro H2 ⟨hdd, us, sb2, hd2, B2, S2⟩
    rw [List.length_map, List.take_length] at sb2
    dsimp only [gName, List.set_cons_succ, List.set_cons_zero]
    refine ⟨_, rfl, _, rfl, _, rfl, _, rfl, by show 4 ≤ sizeLine; decide, fun t ht => ?_⟩
    have ntp : t ≠ p := st_free S2 ht
    have t0 : H t = none := B2.free ntp ht
    exact k t ds us _ sb sb2 t0 (but_new B2 ntp t0) (S2.upd ntp) fun D3 o hD3 => ⟨D, D2, (ne_of_none hD3 hD).symm, (ne_of_none hD3 D20).symm, upd_same, (Same.upd ht) _ _ hdd, (Same.upd ht) _ _ hd2⟩
end
end Wm
namespace Wm
open PySem L2 StX
theorem cut_drop (xs : List V) (i : Nat) : cutV xs (some (i : Int)) none = xs.drop i := by
  unfold cutV
  rw [HT.sIx_none, HT.sIx_nat]
  by_cases h : i ≤ xs.length
  · rw [Nat.min_eq_left h, List.take_of_length_le (by rw [List.length_drop]; omega)]
  · rw [Nat.min_eq_right (by omega), List.drop_of_length_le (Nat.le_refl _), List.drop_of_length_le (by omega)]
    simp
abbrev kS : L2.Key := Sum.inr "sorts"
abbrev kW : L2.Key := Sum.inr "words"
abbrev kM : L2.Key := Sum.inr "makings"
abbrev kR : L2.Key := Sum.inr "rules"
theorem kSW : ¬ kS = kW := by decide +kernel
theorem kSM : ¬ kS = kM := by decide +kernel
theorem kWM : ¬ kW = kM := by decide +kernel
theorem kSR : ¬ kS = kR := by decide +kernel
theorem kWR : ¬ kW = kR := by decide +kernel
theorem kMR : ¬ kM = kR := by decide +kernel
def md1 (l1 : Addr) : List (L2.Key × V) := [(kS, .ref l1)]
def md2 (l1 l2 : Addr) : List (L2.Key × V) := [(kS, .ref l1), (kW, .ref l2)]
def md3 (l1 l2 l3 : Addr) : List (L2.Key × V) := [(kS, .ref l1), (kW, .ref l2), (kM, .ref l3)]
def md4 (l1 l2 l3 l4 : Addr) : List (L2.Key × V) := [(kS, .ref l1), (kW, .ref l2), (kM, .ref l3), (kR, .ref l4)]
theorem put12 (l1 l2 : Addr) : putK (md1 l1) kW (.ref l2) = md2 l1 l2 := putK_new _ ((valV_neg kSW).trans valV_nil)
theorem put23 (l1 l2 l3 : Addr) : putK (md2 l1 l2) kM (.ref l3) = md3 l1 l2 l3 := putK_new _ ((valV_neg kSM).trans ((valV_neg kWM).trans valV_nil))
theorem put34 (l1 l2 l3 l4 : Addr) : putK (md3 l1 l2 l3) kR (.ref l4) = md4 l1 l2 l3 l4 := putK_new _ ((valV_neg kSR).trans ((valV_neg kWR).trans ((valV_neg kMR).trans valV_nil)))
theorem md3_s (l1 l2 l3 : Addr) : valV (md3 l1 l2 l3) kS = some (.ref l1) := valV_pos rfl
theorem md3_w (l1 l2 l3 : Addr) : valV (md3 l1 l2 l3) kW = some (.ref l2) := (valV_neg kSW).trans (valV_pos rfl)
theorem md3_m (l1 l2 l3 : Addr) : valV (md3 l1 l2 l3) kM = some (.ref l3) := (valV_neg kSM).trans ((valV_neg kWM).trans (valV_pos rfl))
theorem md4_s (l1 l2 l3 l4 : Addr) : valV (md4 l1 l2 l3 l4) kS = some (.ref l1) := valV_pos rfl
theorem md4_w (l1 l2 l3 l4 : Addr) : valV (md4 l1 l2 l3 l4) kW = some (.ref l2) := (valV_neg kSW).trans (valV_pos rfl)
theorem md4_m (l1 l2 l3 l4 : Addr) : valV (md4 l1 l2 l3 l4) kM = some (.ref l3) := (valV_neg kSM).trans ((valV_neg kWM).trans (valV_pos rfl))
theorem md4_r (l1 l2 l3 l4 : Addr) : valV (md4 l1 l2 l3 l4) kR = some (.ref l4) := (valV_neg kSR).trans ((valV_neg kWR).trans ((valV_neg kMR).trans (valV_pos rfl)))
/-- names as the law draws them -/
structure Drawn (zs : List Str) : Prop where
  nd : zs.Nodup
  nm : ∀ z ∈ zs, NmP z ∧ z.length ≤ 6
/-- makings as far as they are drawn -/
structure MksInv (ss ws : List Str) (k j : Nat) (ms : List MkD) : Prop where
  nd : (ms.map fun x => (x.mr, x.md)).Nodup
  at_ : ∀ x ∈ ms, ∃ i i' : Nat, i < i' ∧ ss[i]? = some x.mr ∧ ss[i']? = some x.md ∧ (i < k ∨ (i = k ∧ i' < k + 1 + j))
  sb : ∀ x ∈ ms, x.dn.Sublist ws ∧ x.up.Sublist ws
  ln : ms.length ≤ k * 10 + j
theorem MksInv.nil (ss ws : List Str) : MksInv ss ws 0 0 [] := ⟨List.nodup_nil, fun _ h => (List.not_mem_nil h).elim, fun _ h => (List.not_mem_nil h).elim, Nat.le_refl _⟩
theorem MksInv.skip {ss ws : List Str} {k j : Nat} {ms : List MkD} (h : MksInv ss ws k j ms) : MksInv ss ws k (j + 1) ms :=
  ⟨h.nd, fun x hx => by
    obtain ⟨i, i', a, b, c, d⟩ := h.at_ x hx
    exact ⟨i, i', a, b, c, by omega⟩, h.sb, by have := h.ln; omega⟩
theorem MksInv.next {ss ws : List Str} {k j : Nat} {ms : List MkD} (h : MksInv ss ws k j ms) (hj : j ≤ 10) : MksInv ss ws (k + 1) 0 ms :=
  ⟨h.nd, fun x hx => by
    obtain ⟨i, i', a, b, c, d⟩ := h.at_ x hx
    exact ⟨i, i', a, b, c, by omega⟩, h.sb, by have := h.ln; omega⟩
theorem idx_uniq {ss : List Str} (nd : ss.Nodup) {i j : Nat} {z : Str} (hi : ss[i]? = some z) (hj : ss[j]? = some z) : i = j := by
  obtain ⟨li, ei⟩ := List.getElem?_eq_some_iff.mp hi
  obtain ⟨lj, ej⟩ := List.getElem?_eq_some_iff.mp hj
  rcases Nat.lt_trichotomy i j with q | q | q
  · exact absurd (ei.trans ej.symm) ((List.pairwise_iff_getElem.mp nd) i j li lj q)
  · exact q
  · exact absurd (ej.trans ei.symm) ((List.pairwise_iff_getElem.mp nd) j i lj li q)
theorem MksInv.more {ss ws : List Str} {k j : Nat} {ms : List MkD} {a b : Str} {ds us : List Str} (h : MksInv ss ws k j ms) (ns : ss.Nodup) (ha : ss[k]? = some a) (hb : ss[k + 1 + j]? = some b) (hd : ds.Sublist ws) (hu : us.Sublist ws) : MksInv ss ws k (j + 1) (ms ++ [⟨a, b, ds, us⟩]) := by
  refine ⟨?_, fun x hx => ?_, fun x hx => ?_, ?_⟩
  · rw [List.map_append, List.nodup_append]
    refine ⟨h.nd, by simp, fun u hu v hv e => ?_⟩
    obtain ⟨x, hx, rfl⟩ := List.mem_map.mp hu
    have hv : v = (a, b) := by simpa using hv
    rw [hv] at e
    obtain ⟨i, i', q1, q2, q3, q4⟩ := h.at_ x hx
    have e1 : x.mr = a := congrArg Prod.fst e
    have e2 : x.md = b := congrArg Prod.snd e
    rw [e1] at q2
    rw [e2] at q3
    have r1 := idx_uniq ns q2 ha
    have r2 := idx_uniq ns q3 hb
    omega
  · rcases List.mem_append.mp hx with q | q
    · obtain ⟨i, i', a, b, c, d⟩ := h.at_ x q
      exact ⟨i, i', a, b, c, by omega⟩
    · rw [List.mem_singleton.mp q]
      exact ⟨k, k + 1 + j, by omega, ha, hb, .inr ⟨rfl, by omega⟩⟩
  · rcases List.mem_append.mp hx with q | q
    · exact h.sb x q
    · rw [List.mem_singleton.mp q]
      exact ⟨hd, hu⟩
  · rw [List.length_append, List.length_singleton]
    have := h.ln
    omega
/-- a model as the law draws it -/
structure MdlOk (ss ws : List Str) (ms : List MkD) (rs : List RlD) : Prop where
  sd : Drawn ss
  wd : Drawn ws
  s1 : 1 ≤ ss.length
  s4 : ss.length ≤ 4
  w1 : 1 ≤ ws.length
  w3 : ws.length ≤ 3
  mi : MksInv ss ws ss.length 0 ms
  rd : Drawn (rs.map (·.p.nm))
  r1 : 1 ≤ rs.length
  r8 : rs.length ≤ 8
  rk : ∀ r ∈ rs, RuleOk ss ws r
def MdAt (K : PySem.W.Frag) (H : Hp) (d : Addr) (ss ws : List Str) (ms : List MkD) (rs : List RlD) : Prop := ∃ l1 l2 l3 l4 as bs, H d = some (.dK (md4 l1 l2 l3 l4)) ∧ H l1 = some (.lst (ss.map V.str)) ∧ H l2 = some (.lst (ws.map V.str)) ∧ H l3 = some (.lst (as.map V.ref)) ∧ AllAt (MMak H) as ms ∧ H l4 = some (.lst (bs.map V.ref)) ∧ AllAt (MRul K H) bs rs
theorem MdAt.kp {K : PySem.W.Frag} {H H' : Hp} {d : Addr} {ss ws : List Str} {ms : List MkD} {rs : List RlD} (k : Kp H H') (h : MdAt K H d ss ws ms rs) : MdAt K H' d ss ws ms rs := by
  obtain ⟨l1, l2, l3, l4, as, bs, h0, h1, h2, h3, h4, h5, h6⟩ := h
  exact ⟨l1, l2, l3, l4, as, bs, k _ _ ns_dK h0, k _ _ ns_strs h1, k _ _ ns_strs h2, k _ _ ns_refs h3, h4.imp fun _ _ q => q.kp k, k _ _ ns_refs h5, h6.imp fun _ _ q => q.kp k⟩
def spMdl (K : PySem.W.Frag) : Sp := fun vs H Q _ => ∃ (p : Addr) (nr mo : Int), vs = [.ref p, .int nr, .int mo] ∧ StOk H p ∧ 1 ≤ nr ∧ nr ≤ 8 ∧ 1 ≤ mo ∧ mo ≤ 4 ∧
  ∀ d H' ss ws ms rs, MdlOk ss ws ms rs → H d = none → But p H H' → StOk H' p → MdAt K H' d ss ws ms rs → Q (.ref d) H'
/-- lists of the model, while it is drawn -/
structure MI (H0 H : Hp) (p d l1 l2 l3 : Addr) (ss ws : List Str) (as : List Addr) (ms : List MkD) : Prop where
  hd : H d = some (.dK (md3 l1 l2 l3))
  h1 : H l1 = some (.lst (ss.map V.str))
  h2 : H l2 = some (.lst (ws.map V.str))
  h3 : H l3 = some (.lst (as.map V.ref))
  am : AllAt (MMakN H l3) as ms
  b : But p H0 H
  s : StOk H p
theorem MI.step {H0 H H' : Hp} {p d l1 l2 l3 : Addr} {ss ws : List Str} {as : List Addr} {ms : List MkD} (h : MI H0 H p d l1 l2 l3 ss ws as ms) (B : But p H H') (S : StOk H' p) : MI H0 H' p d l1 l2 l3 ss ws as ms := by
  have k := B.kp h.s
  exact ⟨k _ _ ns_dK h.hd, k _ _ ns_strs h.h1, k _ _ ns_strs h.h2, k _ _ ns_refs h.h3, h.am.imp fun _ _ q => q.kp k, h.b.trans B, S⟩
section
variable {P : Program} {w : World} {K : PySem.W.Frag} {mg : Str → Option Value} {base : Heap}
theorem scMdl : FnScope ["_law_s", "_law_rules", "_law_most", "_law_m", "_law_k", "_law_made", "_law_name_here"] ["_law_s", "_law_rules", "_law_most"] (defScope sMdl) := ⟨rfl, rfl, rfl, by decide +kernel, rfl, by decide +kernel, by decide +kernel⟩
theorem ok_mdl {f fG fN fR fM : Addr} {fd dG dN dR dM : FuncData} (F : Fun K "_law_model" "_law_model" sMdl f fd) (T : TxB mg) (DG : Dn K mg "_law_digit" sDigit ["_law_state_here", "_law_base"] fG dG) (DN : Dn K mg "_law_names" sNms ["_law_s", "_law_many"] fN dN) (GN : FnOk P w K mg base CX0 3 fN dN ["_law_s", "_law_many"] spNms)
    (DR : Dn K mg "_law_rule" sRle ["_law_s", "_law_m", "_law_name_here"] fR dR) (GR : FnOk P w K mg base CX0 2 fR dR ["_law_s", "_law_m", "_law_name_here"] (spRle K)) (DM : Dn K mg "_law_making" sMkg ["_law_s", "_law_m", "_law_maker", "_law_made"] fM dM) (GM : FnOk P w K mg base CX0 2 fM dM ["_law_s", "_law_m", "_law_maker", "_law_made"] spMkg) :
    FnOk P w K mg base CX0 4 f fd ["_law_s", "_law_rules", "_law_most"] (spMdl K) := by
  have GG : FnOk P w K mg base CX0 1 fG dG _ spDigit := ok_digit DG.F
  refine F.ok scMdl (fun vs H Q E h => ?_) (fun cdv A outer s H vs Q E hr h => ?_)
  · obtain ⟨p, nr, mo, rfl, _⟩ := h
    rfl
  · obtain ⟨p, nr, mo, rfl, hS, nr1, nr8, mo1, mo4, k⟩ := h
    have hr1 : Room 1 _ := hr.mono (by decide)
    have hr2 : Room 2 _ := hr.mono (by decide)
    have hr3 : Room 3 _ := hr
    have hu := hu_of hr
    refine ⟨_, (pss_cons (ps_set (i := 3) scMdl.nd rfl (Or.inr rfl) (pe_disp (pps_cons pe_str (pe_call GN hr3 rfl DN.g DN.F.kp DN.b .nil pass0 (pa_cons (pv 0) (pa_cons (pe_op op_add pe_int (pe_call GG hr1 rfl DG.g DG.F.kp DG.b .nil pass0 (pa_cons (pv 0) (pa_cons (pv 2) pa_nil)))) pa_nil))) pps_nil) (by rfl) (by rfl) (fun z => by cases z) (by decide)))
      (pss_cons (ps_dput hu (pv 3) pe_str (pe_call GN hr3 rfl DN.g DN.F.kp DN.b .nil pass0 (pa_cons (pv 0) (pa_cons (pe_op op_add pe_int (pe_call GG hr1 rfl DG.g DG.F.kp DG.b .nil pass0 (pa_cons (pv 0) (pa_cons pe_int pa_nil)))) pa_nil))) rfl)
      (pss_cons (ps_dput hu (pv 3) pe_str (pe_lst pa_nil) rfl)
      (pss_cons (ps_for PassesOwn.never rfl (pi_range1 rfl T.range (pa_cons (pe_callB call_len_seq (by rfl) T.len (by decide +kernel) (pa_cons (pe_dget hu (pv 3) pe_str (fun _ _ => rfl)) pa_nil)) pa_nil)) (pg_name (i := 4) scMdl.nd rfl (Or.inl rfl)) (pss_one (ps_for PassesOwn.never rfl (pi_list (pe_slice sl_list (pe_dget hu (pv 3) pe_str (fun _ _ => rfl)) (po_some (pe_op op_add (pv 4) pe_int)) po_none)) (pg_name (i := 5) scMdl.nd rfl (Or.inl rfl)) (pss_one (ps_if (pt_cmpR op_eq (pe_call GG hr1 rfl DG.g DG.F.kp DG.b .nil pass0 (pa_cons (pv 0) (pa_cons pe_int pa_nil))) pe_int (nomark _)) (pss_one (ps_expr (pe_bm PySem.F.plainAttrs_list PySem.F.slot_list_append PySem.F.type_list_append mt_append (pe_dget hu (pv 3) pe_str (fun _ _ => rfl)) (pa_cons (pe_call GM hr2 rfl DM.g DM.F.kp DM.b .nil pass0 (pa_cons (pv 0) (pa_cons (pv 3) (pa_cons (pe_ix ix_list (pe_dget hu (pv 3) pe_str (fun _ _ => rfl)) (pv 4) (fun _ _ => rfl)) (pa_cons (pv 5) pa_nil))))) pa_nil)))) pss_nil)))))
      (pss_cons (ps_dput hu (pv 3) pe_str (pe_lc (own := [("_law_name_here", 6)]) (g := gName 6) (tt := tYes) (te := tCall (spRle K) [] E0 (tCons (tVar 0) (tCons (tVar 3) (tCons (tVar 6) tNil)))) rfl scMdl.nd (pi_list (pe_call GN hr3 rfl DN.g DN.F.kp DN.b .nil pass0 (pa_cons (pv 0) (pa_cons (pe_op op_add pe_int (pe_call GG hr1 rfl DG.g DG.F.kp DG.b .nil pass0 (pa_cons (pv 0) (pa_cons (pv 1) pa_nil)))) pa_nil)))) (blkOk_by (N := ["_law_s", "_law_rules", "_law_most", "_law_m", "_law_k", "_law_made", "_law_name_here"]) (sc := defScope sMdl) (by decide +kernel)) (fun _ _ _ _ _ => (pg_name (i := 6) scMdl.nd rfl (Or.inl rfl))) (fun _ _ _ _ _ => pts_nil) (fun _ _ _ _ _ => (pe_call GR hr2 rfl DR.g DR.F.kp DR.b .nil pass0 (pa_cons (pv 0) (pa_cons (pv 3) (pa_cons (pv 6) pa_nil)))))) rfl)
      (pss_one (ps_ret (pv 3)))))))), ?_⟩
    intro d hd
    have ndp : d ≠ p := st_free hS hd
    have S0 : StOk (upd H d (.dK [])) p := hS.upd ndp
    have B0 : But p H (upd H d (.dK [])) := but_new (But.refl p H) ndp hd
    have e0 : (upd H d (.dK [])) d = some (.dK []) := upd_same
    generalize upd H d (.dK []) = H0 at S0 B0 e0
    refine ⟨_, rfl, _, rfl, _, rfl, p, mo, rfl, S0, by omega, by omega, fun d1 H1 a1 b1 B1 S1 => ⟨_, _, rfl, rfl, p, 1 + d1, rfl, S1, by omega, by omega, fun ss l1 H2 n1 p1 B2 S2 h12 sl snd snm => ?_⟩⟩
    have B2' := (B0.trans B1).trans B2
    have e2 : H2 d = some (.dK []) := B2 _ _ ndp (B1 _ _ ndp e0)
    refine ⟨e2, [(kS, .ref l1)], rfl, by show 1 ≤ 15; decide, ?_⟩
    have n1p : l1 ≠ p := p1
    have l10 : H l1 = none := (B0.trans B1).free n1p n1
    have em : mergeK [] [(kS, V.ref l1)] = md1 l1 := rfl
    rw [em]
    have S3 : StOk (upd H2 d (.dK (md1 l1))) p := S2.upd ndp
    have B3 : But p H (upd H2 d (.dK (md1 l1))) := but_new B2' ndp hd
    have e3 : (upd H2 d (.dK (md1 l1))) d = some (.dK (md1 l1)) := upd_same
    have h13 : (upd H2 d (.dK (md1 l1))) l1 = some (.lst (ss.map V.str)) := (upd_ne (ne_of h12 e2 (by intro z; cases z))).trans h12
    generalize upd H2 d (.dK (md1 l1)) = H3 at S3 B3 e3 h13
    dsimp only [gName, List.set_cons_succ, List.set_cons_zero]
    refine ⟨_, rfl, _, rfl, p, 3, rfl, S3, by decide, by decide, fun d2 H4 a2 b2 B4 S4 => ⟨_, _, rfl, rfl, p, 1 + d2, rfl, S4, by omega, by omega, fun ws l2 H5 n2 n2p B5 S5 h25 wl wnd wnm => ?_⟩⟩
    have l20 : H l2 = none := (B3.trans B4).free n2p n2
    have B5' := (B3.trans B4).trans B5
    have e5 : H5 d = some (.dK (md1 l1)) := B5 _ _ ndp (B4 _ _ ndp e3)
    have h15 := B5 _ _ n1p (B4 _ _ n1p h13)
    refine ⟨_, rfl, d, _, rfl, DPut.k (k := kW) e5 (by show 1 < sizeLine; decide), ?_⟩
    rw [put12]
    have S6 : StOk (upd H5 d (.dK (md2 l1 l2))) p := S5.upd ndp
    have B6 : But p H (upd H5 d (.dK (md2 l1 l2))) := but_new B5' ndp hd
    have e6 : (upd H5 d (.dK (md2 l1 l2))) d = some (.dK (md2 l1 l2)) := upd_same
    have h16 : (upd H5 d (.dK (md2 l1 l2))) l1 = some (.lst (ss.map V.str)) := (upd_ne (ne_of h15 e5 (by intro z; cases z))).trans h15
    have h26 : (upd H5 d (.dK (md2 l1 l2))) l2 = some (.lst (ws.map V.str)) := (upd_ne (ne_of h25 e5 (by intro z; cases z))).trans h25
    generalize upd H5 d (.dK (md2 l1 l2)) = H6 at S6 B6 e6 h16 h26
    refine ⟨Nat.zero_le _, fun l3 hl3 => ?_⟩
    have N13 : l1 ≠ l3 := ne_of_none h16 hl3
    have N23 : l2 ≠ l3 := ne_of_none h26 hl3
    have n3p : l3 ≠ p := st_free S6 hl3
    have l30 : H l3 = none := B6.free n3p hl3
    have S7 : StOk (upd H6 l3 (.lst [])) p := S6.upd n3p
    have B7 : But p H (upd H6 l3 (.lst [])) := but_new B6 n3p l30
    have T7 : Same H6 (upd H6 l3 (.lst [])) := Same.upd hl3
    have e7 := T7 _ _ e6
    refine ⟨_, rfl, d, _, rfl, DPut.k (k := kM) e7 (by show 2 < sizeLine; decide), ?_⟩
    rw [put23]
    have M0 : MI H (upd (upd H6 l3 (.lst [])) d (.dK (md3 l1 l2 l3))) p d l1 l2 l3 ss ws [] [] := by
      have nd3 : l3 ≠ d := (ne_of_none e6 hl3).symm
      refine ⟨upd_same, (upd_ne (ne_of (T7 _ _ h16) e7 (by intro z; cases z))).trans (T7 _ _ h16), (upd_ne (ne_of (T7 _ _ h26) e7 (by intro z; cases z))).trans (T7 _ _ h26), (upd_ne nd3).trans upd_same, True.intro, but_new B7 ndp hd, S7.upd ndp⟩
    generalize upd (upd H6 l3 (.lst [])) d (.dK (md3 l1 l2 l3)) = H8 at M0
    clear S7 B7 T7 e7 S6 B6 e6 h16 h26 hl3 S5 B5 B5' h25 h15 e5 S4 B4 S3 B3 e3 h13 em n2
    have sl4 : ss.length ≤ 4 := by omega
    have sl1 : 1 ≤ ss.length := by omega
    have wl3 : ws.length ≤ 3 := by omega
    have wl1 : 1 ≤ ws.length := by omega
    have dgS : ∀ {H' : Hp}, H' d = some (.dK (md3 l1 l2 l3)) → DGet H' d (.str "sorts") (some (.ref l1)) := fun {H'} h => md3_s l1 l2 l3 ▸ DGet.k (k := kS) h
    have dgM : ∀ {H' : Hp}, H' d = some (.dK (md3 l1 l2 l3)) → DGet H' d (.str "makings") (some (.ref l3)) := fun {H'} h => md3_m l1 l2 l3 ▸ DGet.k (k := kM) h
    refine ⟨_, rfl, d, _, rfl, dgS M0.hd, l1, _, rfl, .inl (SqL.of M0.h1), _, rfl, by omega, by rw [List.length_map]; omega, ?_⟩
    refine for_range (n := (((ss.map V.str).length : Nat) : Int).toNat) (fun i σ H' => ∃ (u4 u5 : Option V) (as : List Addr) (ms : List MkD), σ = [some (.ref p), some (.int nr), some (.int mo), some (.ref d), u4, u5, none] ∧ MI H H' p d l1 l2 l3 ss ws as ms ∧ MksInv ss ws i 0 ms) ⟨_, _, [], [], rfl, M0, MksInv.nil ss ws⟩ ?_ ?_
    · rintro i σ H' hi ⟨u4, u5, as, ms, rfl, M, mi⟩
      rw [List.length_map, Int.toNat_natCast] at hi
      dsimp only [gName, List.set_cons_succ, List.set_cons_zero]
      refine ⟨_, rfl, d, _, rfl, dgS M.hd, _, rfl, _, _, rfl, rfl, _, rfl, l1, _, rfl, SqL.of M.h1, fun l hl => ?_⟩
      have ec : cutV (ss.map V.str) (some (0 + (i : Int) + 1)) none = (ss.drop (i + 1)).map V.str := by
        have q : (0 + (i : Int) + 1) = ((i + 1 : Nat) : Int) := by omega
        rw [q, cut_drop, List.map_drop]
      rw [ec]
      have nlp : l ≠ p := st_free M.s hl
      have l0 : H l = none := M.b.free nlp hl
      have T : Same H' (upd H' l (.lst ((ss.drop (i + 1)).map V.str))) := Same.upd hl
      have M1 := M.step (Same.but T) (M.s.upd nlp)
      have e1 : (upd H' l (.lst ((ss.drop (i + 1)).map V.str))) l = some (.lst ((ss.drop (i + 1)).map V.str)) := upd_same
      generalize upd H' l (.lst ((ss.drop (i + 1)).map V.str)) = H1' at M1 e1
      have nl3 : l ≠ l3 := (ne_of_none M.h3 hl).symm
      have nl1 : l ≠ l1 := (ne_of_none M.h1 hl).symm
      have nld : l ≠ d := (ne_of_none M.hd hl).symm
      refine ⟨l, rfl, ⟨_, SqL.of e1⟩, for_list (K := K) (a := l) (xs := (ss.drop (i + 1)).map V.str) (fun j σ H' => ∃ (u5 : Option V) (as : List Addr) (ms : List MkD), σ = [some (.ref p), some (.int nr), some (.int mo), some (.ref d), some (.int (0 + (i : Int))), u5, none] ∧ MI H H' p d l1 l2 l3 ss ws as ms ∧ MksInv ss ws i j ms ∧ H' l = some (.lst ((ss.drop (i + 1)).map V.str))) ⟨_, as, ms, rfl, M1, mi, e1⟩ (fun j σ H' _ ⟨_, _, _, _, _, _, h⟩ => SqL.of h) ?_ ?_⟩
      · rintro j x σ H2 hx ⟨u5, as, ms, rfl, M2, mi2, e2⟩
        obtain ⟨z, hz, rfl⟩ := map_str_get hx
        have hj : j < (ss.drop (i + 1)).length := (List.getElem?_eq_some_iff.mp hz).1
        rw [List.length_drop] at hj
        rw [List.getElem?_drop] at hz
        dsimp only [gName, List.set_cons_succ, List.set_cons_zero]
        refine ⟨_, rfl, p, 2, rfl, M2.s, by decide, by decide, fun d3 H3 a3 b3 B3 S3 => ⟨rfl, _, rfl, ?_⟩⟩
        have M3 := M2.step B3 S3
        have e3 := (B3.kp M2.s) _ _ ns_strs e2
        refine ite2 (fun _ => ?_) (fun _ => ⟨_, as, ms, rfl, M3, mi2.skip, e3⟩)
        obtain ⟨y, hy⟩ : ∃ y, ss[i]? = some y := ⟨_, List.getElem?_eq_getElem (by omega)⟩
        have hy' : (ss.map V.str)[i]? = some (.str y) := by rw [List.getElem?_map, hy]; rfl
        refine ⟨_, rfl, d, _, rfl, dgM M3.hd, .inl ⟨rfl, _, SqL.of M3.h3⟩, _, rfl, _, rfl, _, rfl, d, _, rfl, dgS M3.hd, _, rfl, rdList M3.h1 (j := i) (by omega) hy' ⟨_, rfl, p, d, y, z, md3 l1 l2 l3, l2, ws, rfl, S3, M3.hd, md3_w l1 l2 l3, M3.h2, by omega, fun t ds us H4 sd su t0 B4 S4 hmk => ?_⟩⟩
        have M4 := M3.step B4 S4
        have e4 := (B4.kp S3) _ _ ns_strs e3
        refine ⟨l3, _, _, rfl, rfl, M4.h3, ?_, ?_⟩
        · rw [List.length_map, M4.am.len]
          have := mi2.ln
          exact Nat.lt_of_le_of_lt (show _ ≤ 1000 by omega) (by decide)
        · refine ⟨_, as ++ [t], ms ++ [⟨y, z, ds, us⟩], rfl, ⟨(upd_ne (ne_of M4.hd M4.h3 (by intro z; cases z))).trans M4.hd, ?_, ?_, ?_, ?_, but_new M4.b n3p l30, M4.s.upd n3p⟩, mi2.more snd hy hz sd su, (upd_ne nl3).trans e4⟩
          · exact (upd_ne N13).trans M4.h1
          · exact (upd_ne N23).trans M4.h2
          · rw [upd_same, List.map_append]
            rfl
          · exact AllAt.append (M4.am.imp fun _ _ q => q.put M4.h3) ⟨(hmk l3 _ M3.h3).put M4.h3, True.intro⟩
      · rintro σ H2 ⟨u5, as, ms, rfl, M2, mi2, e2⟩
        rw [List.length_map, List.length_drop] at mi2
        exact ⟨_, _, as, ms, rfl, M2, mi2.next (by omega)⟩
    rintro σ H9 ⟨u4, u5, as, ms, rfl, M9, mi9⟩
    rw [List.length_map, Int.toNat_natCast] at mi9
    refine ⟨_, rfl, _, rfl, _, rfl, p, nr, rfl, M9.s, by omega, by omega, fun d4 H10 a4 b4 B10 S10 => ⟨_, _, rfl, rfl, p, 1 + d4, rfl, S10, by omega, by omega, fun rn lr H11 nr0 nrp B11 S11 hr11 rl rnd rnm => ?_⟩⟩
    have M11 := (M9.step B10 S10).step B11 S11
    refine ⟨lr, rfl, ⟨_, SqL.of hr11⟩, fun D hD => ?_⟩
    have nDp : D ≠ p := st_free S11 hD
    have D0 : H D = none := M11.b.free nDp hD
    have nrD : lr ≠ D := ne_of_none hr11 hD
    refine lc_list (K := K) (a := lr) (xs := rn.map V.str) (fun i H' => Kp H11 H' ∧ But p H H' ∧ StOk H' p ∧ ∃ (bs : List Addr) (rs : List RlD), H' D = some (.lst (bs.map V.ref)) ∧ AllAt (MRulN K H' D) bs rs ∧ rs.map (·.p.nm) = rn.take i ∧ ∀ r ∈ rs, RuleOk ss ws r) ⟨(Kp.refl H11).new hD, but_new M11.b nDp D0, S11.upd nDp, [], [], upd_same, True.intro, rfl, fun _ h => (List.not_mem_nil h).elim⟩ (fun i H' _ h => SqL.of (h.1 _ _ ns_strs hr11)) ?_ ?_
    · rintro i x H1 hx ⟨K1, B1, S1, bs, rs, hD1, ab, er, ro⟩
      obtain ⟨z, hz, rfl⟩ := map_str_get hx
      have hi : i < rn.length := (List.getElem?_eq_some_iff.mp hz).1
      refine ⟨rfl, _, rfl, _, rfl, _, rfl, p, d, z, md3 l1 l2 l3, l2, l1, ws, ss, rfl, S1, K1 _ _ ns_dK M11.hd, md3_w l1 l2 l3, K1 _ _ ns_strs M11.h2, md3_s l1 l2 l3, K1 _ _ ns_strs M11.h1, by omega, by omega, by omega, by omega, fun t r H2 en rok t0 B2 S2 hrl => ?_⟩
      have k2 := B2.kp S1
      have hD2 := k2 _ _ ns_refs hD1
      have rlen : rs.length = i := by
        have q := congrArg List.length er
        rw [List.length_map, List.length_take] at q
        omega
      refine ⟨_, hD2, ?_, (K1.trans k2).new hD, but_new (B1.trans B2) nDp D0, S2.upd nDp, bs ++ [t], rs ++ [r], ?_, ?_, ?_, ?_⟩
      · rw [List.length_map, ab.len]
        exact Nat.lt_of_le_of_lt (show _ ≤ 1000 by omega) (by decide)
      · rw [upd_same, List.map_append]
        rfl
      · exact AllAt.append (ab.imp fun _ _ q => (q.kp k2).put hD2) ⟨(hrl D _ hD1).put hD2, True.intro⟩
      · rw [List.map_append, er, List.take_add_one, hz, ← en]
        rfl
      · intro u hu
        rcases List.mem_append.mp hu with q | q
        · exact ro u q
        · rw [List.mem_singleton.mp q]
          exact rok
    rintro H12 ⟨K1, B1, S1, bs, rs, hD1, ab, er, ro⟩
    rw [List.length_map, List.take_length] at er
    have rlen : rs.length = rn.length := by rw [← er, List.length_map]
    have hd12 := K1 _ _ ns_dK M11.hd
    refine ⟨_, rfl, d, _, rfl, DPut.k (k := kR) hd12 (by show 3 < sizeLine; decide), ?_⟩
    rw [put34]
    refine ⟨_, rfl, ?_⟩
    have am12 := M11.am.imp fun _ _ q => q.kp K1
    have U : ∀ {a : Addr} {xs : List V}, H12 a = some (.lst xs) → (upd H12 d (.dK (md4 l1 l2 l3 D))) a = some (.lst xs) := fun h => (upd_ne (ne_of h hd12 (by intro z; cases z))).trans h
    have Ut : ∀ {a : Addr} {xs : List V}, H12 a = some (.tup xs) → (upd H12 d (.dK (md4 l1 l2 l3 D))) a = some (.tup xs) := fun h => (upd_ne (ne_of h hd12 (by intro z; cases z))).trans h
    have Us : ∀ {a : Addr} {xs : List V}, SqT K H12 a xs → SqT K (upd H12 d (.dK (md4 l1 l2 l3 D))) a xs := fun h => by
      rcases h with (h | ⟨ob, h⟩) | h
      · exact .inl (.inl (Ut h))
      · exact .inl (.inr ⟨ob, (upd_ne (ne_of h hd12 (by intro z; cases z))).trans h⟩)
      · exact .inr h
    refine k d _ ss ws ms rs ⟨⟨snd, snm⟩, ⟨wnd, wnm⟩, sl1, sl4, wl1, wl3, mi9, ⟨by rw [er]; exact rnd, by rw [er]; exact rnm⟩, by omega, by omega, ro⟩ hd (but_new B1 ndp hd) (S1.upd ndp) ⟨l1, l2, l3, D, as, bs, upd_same, U (K1 _ _ ns_strs M11.h1), U (K1 _ _ ns_strs M11.h2), U (K1 _ _ ns_refs M11.h3), am12.imp fun _ _ q => ?_, U hD1, ab.imp fun _ _ q => ?_⟩
    · obtain ⟨ld, lu, _, _, q1, q2, q3⟩ := q
      exact ⟨ld, lu, Ut q1, U q2, U q3⟩
    · obtain ⟨lv, lc, g, ps, qs, _, _, q1, q2, q3, q4, q5, q6⟩ := q
      exact ⟨lv, lc, g, ps, qs, Ut q1, U q2, rows_imp Us q3, U q4, rows_imp Us q5, Ut q6⟩
end
end Wm
namespace Wm
open PySem L2 StX
theorem low_let : ∀ c : Fin 123, 97 ≤ c.1 → c.1 ∈ LET := by decide +kernel
theorem fig_fig : ∀ c : Fin 58, 48 ≤ c.1 → c.1 ∈ FIG := by decide +kernel
theorem nm_is {z : Str} (h : NmP z) (hl : z.length ≤ 12) : isNm z = true := by
  obtain ⟨c, cs, e, l, r⟩ := h
  have ol : ∀ d, lowC d → d ∈ LET := fun d q => low_let ⟨d, Nat.lt_succ_of_le q.2⟩ q.1
  have of' : ∀ d, figC d → d ∈ FIG := fun d q => fig_fig ⟨d, Nat.lt_succ_of_le q.2⟩ q.1
  have hlen : z.length = (c :: cs).length := by
    rw [← e]
    exact (Array.length_toList).symm
  unfold isNm
  rw [e]
  have a1 : (c :: cs).all okc = true := by
    rw [List.all_eq_true]
    intro d hd
    unfold okc
    rcases List.mem_cons.mp hd with h | h
    · rw [h, decide_eq_true (ol c l)]
      rfl
    · rcases r d h with q | q
      · rw [decide_eq_true (ol d q)]
        rfl
      · rw [decide_eq_true (of' d q), Bool.or_true]
  have a2 : first (c :: cs) = true := by
    unfold first
    exact decide_eq_true (ol c l)
  rw [a1, a2, decide_eq_true hl]
  simp [hlen]

theorem same_make {H : Hp} {x dx C : Addr} (nx : H x = none) (ndx : H dx = none) : Same H (upd (upd H dx (.own x)) x (.ins C dx [])) := fun b o e => by
  rw [upd_ne (ne_of_none e nx), upd_ne (ne_of_none e ndx)]
  exact e
theorem dueM_all {C : Addr} {zs : List Str} {H0 : Hp} {ok : Hp → Prop} {E : XK} (h : ∀ z ∈ zs, isNm z = true) (k : ∀ H', Same H0 H' → ok H') : DueM C zs H0 ok E := by
  unfold DueM
  have e : zs.find? (fun z => !isNm z) = none := by
    rw [List.find?_eq_none]
    intro z hz
    rw [h z hz]
    decide
  rw [e]
  exact k
theorem rul_new {K : PySem.W.Frag} {C RB : Addr} {H : Hp} {l1 l2 g : Addr} {nm b : Str} {ps qs : List Addr} {vars : List Var} {cs : List Tri} {gt : Tri} {R : Addr → Hp → Prop} {E : XK} (h1 : SqL K H l1 (ps.map V.ref)) (r1 : RowsAt K H ps (vars.map varV)) (h2 : SqL K H l2 (qs.map V.ref)) (r2 : RowsAt K H qs (cs.map triV)) (hg : H g = some (.tup (triV gt)))
    (ok : PatOk vars cs [gt] [b]) (hn : ∀ z ∈ textsL nm vars (cs ++ [gt]), isNm z = true ∧ z.length ≤ 12) (k : ∀ x H', H x = none → Same H H' → RlAt K RB H' x ⟨⟨nm, vars, cs⟩, gt, b⟩ → R x H') :
    ∀ x dx, H x = none → H dx = none → dx ≠ x → spRul K C RB [.ref x, .str nm, .ref l1, .ref l2, .ref g, .str b] (upd (upd H dx (.own x)) x (.ins RB dx [])) (fun v H3 => v = .non ∧ R x H3) E := fun x dx hx hd ne => by
  refine ⟨H, x, dx, l1, l2, g, nm, b, ps, qs, vars, cs, gt, rfl, same_make hx hd, hx, upd_same, h1, r1, h2, r2, hg, ok, fun z hz => Nat.le_trans (hn z hz).2 (by decide), dueM_all (fun z hz => (hn z hz).1) fun H' S' t1 t2 a1 a2 a3 => ⟨rfl, ?_⟩⟩
  exact k x H' hx S' ⟨dx, t1, t2, g, ps, qs, a1, SqT.of a2, r1.same S', SqT.of a3, r2.same S', SqT.of (S' _ _ hg)⟩
theorem mak_new {K : PySem.W.Frag} {C MB : Addr} {H : Hp} {l1 l2 : Addr} {mk md : Str} {ds us : List Str} {R : Addr → Hp → Prop} {E : XK} (h1 : SqL K H l1 (ds.map V.str)) (h2 : SqL K H l2 (us.map V.str)) (n1 : ds.length ≤ 100) (n2 : us.length ≤ 100) (w1 : NoTw (ds.map V.str)) (w2 : NoTw (us.map V.str))
    (hn : ∀ z ∈ mk :: md :: (ds ++ us), isNm z = true ∧ z.length ≤ 12) (k : ∀ x H', H x = none → Same H H' → MkAt K MB H' x ⟨mk, md, ds, us⟩ → R x H') :
    ∀ x dx, H x = none → H dx = none → dx ≠ x → spMak K C MB [.ref x, .str mk, .str md, .ref l1, .ref l2] (upd (upd H dx (.own x)) x (.ins MB dx [])) (fun v H3 => v = .non ∧ R x H3) E := fun x dx hx hd ne => by
  refine ⟨H, x, dx, l1, l2, mk, md, ds, us, rfl, same_make hx hd, hx, upd_same, h1, h2, n1, n2, w1, w2, fun z hz => Nat.le_trans (hn z hz).2 (by decide), dueM_all (fun z hz => (hn z hz).1) fun H' S' t1 t2 a1 a2 a3 => ⟨rfl, ?_⟩⟩
  exact k x H' hx S' ⟨dx, t1, t2, a1, SqT.of a2, SqT.of a3⟩
theorem MkAt.put {K : PySem.W.Frag} {B D : Addr} {H : Hp} {a : Addr} {m : MkD} {xs : List V} {o : HO} (hD : H D = some (.lst xs)) (h : MkAt K B H a m) : MkAt K B (upd H D o) a m := by
  obtain ⟨d, t1, t2, h0, h1, h2⟩ := h
  exact ⟨d, t1, t2, (upd_ne (ne_of h0 hD (by intro z; cases z))).trans h0, sqT_put hD h1, sqT_put hD h2⟩
theorem RlAt.put {K : PySem.W.Frag} {B D : Addr} {H : Hp} {a : Addr} {r : RlD} {xs : List V} {o : HO} (hD : H D = some (.lst xs)) (h : RlAt K B H a r) : RlAt K B (upd H D o) a r := by
  obtain ⟨d, t1, t2, t3, ps, qs, h0, h1, h2, h3, h4, h5⟩ := h
  exact ⟨d, t1, t2, t3, ps, qs, (upd_ne (ne_of h0 hD (by intro z; cases z))).trans h0, sqT_put hD h1, rows_put hD h2, sqT_put hD h3, rows_put hD h4, sqT_put hD h5⟩
theorem Drawn.is {zs : List Str} (h : Drawn zs) {z : Str} (hz : z ∈ zs) : isNm z = true ∧ z.length ≤ 12 := ⟨nm_is (h.nm z hz).1 (Nat.le_trans (h.nm z hz).2 (by decide)), Nat.le_trans (h.nm z hz).2 (by decide)⟩
theorem Drawn.ok {zs : List Str} (h : Drawn zs) {z : Str} (hz : z ∈ zs) : okS z := (h.nm z hz).1.ok
theorem MdlOk.sch {ss ws : List Str} {ms : List MkD} {rs : List RlD} (h : MdlOk ss ws ms rs) : SchOk ss ws ms rs [] := by
  have w3 := h.w3
  have s4 := h.s4
  have ln := h.mi.ln
  refine ⟨⟨fun z hz => h.sd.is hz, h.sd.nd⟩, ⟨fun z hz => h.wd.is hz, h.wd.nd⟩, h.s1, h.s4, h.w1, by omega, by omega, h.r8, by show 0 ≤ 4; decide, h.mi.nd, h.rd.nd, List.nodup_nil, fun z hz => h.sd.ok hz, fun x hx => ?_, fun x hx => ?_, fun x hx => ?_, fun x hx => ?_, fun x hx => ?_, fun x hx => (List.not_mem_nil hx).elim⟩
  · obtain ⟨i, j, _, a, b, _⟩ := h.mi.at_ x hx
    exact ⟨List.mem_of_getElem? a, List.mem_of_getElem? b⟩
  · obtain ⟨i, j, l, a, b, _⟩ := h.mi.at_ x hx
    exact ⟨i, j, l, a, b⟩
  · obtain ⟨a, b⟩ := h.mi.sb x hx
    exact ⟨Nat.le_trans a.length_le (by omega), Nat.le_trans b.length_le (by omega)⟩
  · obtain ⟨a, b⟩ := h.mi.sb x hx
    exact ⟨fun z hz => a.subset hz, fun z hz => b.subset hz⟩
  · have q := h.rk x hx
    exact ⟨q.pt.v4, q.pt.c3, q.vs, q.cw, q.gw⟩
theorem MdlOk.mkTexts {ss ws : List Str} {ms : List MkD} {rs : List RlD} (h : MdlOk ss ws ms rs) {x : MkD} (hx : x ∈ ms) : ∀ z ∈ x.mr :: x.md :: (x.dn ++ x.up), isNm z = true ∧ z.length ≤ 12 := fun z hz => by
  obtain ⟨i, j, _, a, b, _⟩ := h.mi.at_ x hx
  obtain ⟨u, v⟩ := h.mi.sb x hx
  rcases List.mem_cons.mp hz with rfl | hz
  · exact h.sd.is (List.mem_of_getElem? a)
  · rcases List.mem_cons.mp hz with rfl | hz
    · exact h.sd.is (List.mem_of_getElem? b)
    · rcases List.mem_append.mp hz with hz | hz
      · exact h.wd.is (u.subset hz)
      · exact h.wd.is (v.subset hz)
theorem MdlOk.rlTexts {ss ws : List Str} {ms : List MkD} {rs : List RlD} (h : MdlOk ss ws ms rs) {r : RlD} (hr : r ∈ rs) : ∀ z ∈ textsL r.p.nm r.p.vars (r.p.cs ++ [r.g]), isNm z = true ∧ z.length ≤ 12 := fun z hz => by
  have q := h.rk r hr
  unfold textsL at hz
  rcases List.mem_append.mp hz with hz | hz
  · rcases List.mem_cons.mp hz with rfl | hz
    · exact h.rd.is (List.mem_map_of_mem hr)
    · obtain ⟨v, hv, hz⟩ := List.mem_flatMap.mp hz
      unfold varT at hz
      rcases List.mem_cons.mp hz with rfl | hz
      · exact ⟨(q.vn v hv).1, (q.vn v hv).2.1⟩
      · exact h.sd.is (q.vs v hv z (Option.mem_toList.mp hz))
  · obtain ⟨t, ht, rfl⟩ := List.mem_map.mp hz
    rcases List.mem_append.mp ht with ht | ht
    · exact h.wd.is (q.cw t ht)
    · rw [List.mem_singleton.mp ht]
      exact h.wd.is q.gw
def spSce (K : PySem.W.Frag) (S MB RB BB : Addr) : Sp := fun vs H Q _ => ∃ (m : Addr) (ss ws : List Str) (ms : List MkD) (rs : List RlD), vs = [.ref m] ∧ MdAt K H m ss ws ms rs ∧ MdlOk ss ws ms rs ∧ ∀ x H' as bs, H x = none → Same H H' → SchG S H' x ss ws as bs [] → Parts K MB RB BB H' as bs [] ms rs [] → Q (.ref x) H'
section
variable {P : Program} {w : World} {K : PySem.W.Frag} {mg : Str → Option Value} {base : Heap}
theorem scSce : FnScope ["_law_m", "_law_makings", "_law_rules", "_law_one"] ["_law_m"] (defScope sSce) := ⟨rfl, rfl, rfl, by decide +kernel, rfl, by decide +kernel, by decide +kernel⟩
theorem ok_sce {f S MB RB BB C fM fR fS : Addr} {fd dM dR dS : FuncData} (F : Fun K "_law_scheme" "_law_scheme" sSce f fd) (tl : mg "list" = none) (TM : TxMak K mg MB fM) (TR : TxRul K mg RB fR) (TC : TxSch K mg S fS)
    (bM : Binds K dM ["self", "maker", "made", "down", "up"] []) (GM : FnOk P w K mg base (L2.CX P w) 5 fM dM ["self", "maker", "made", "down", "up"] (spMak K C MB))
    (bR : Binds K dR ["self", "name", "variables", "conditions", "gives", "by"] []) (GR : FnOk P w K mg base (L2.CX P w) 6 fR dR ["self", "name", "variables", "conditions", "gives", "by"] (spRul K C RB))
    (bS : Binds K dS ["self", "sorts", "words", "makings", "rules", "bars"] [.none]) (GS : FnOk P w K mg base CX0 4 fS dS ["self", "sorts", "words", "makings", "rules", "bars"] (spSch K S MB RB BB)) :
    FnOk P w K mg base CX0 8 f fd ["_law_m"] (spSce K S MB RB BB) := by
  refine F.ok scSce (fun vs H Q E h => ?_) (fun cdv A outer s H vs Q E hr h => ?_)
  · obtain ⟨m, ss, ws, ms, rs, rfl, _⟩ := h
    rfl
  · obtain ⟨m, ss, ws, ms, rs, rfl, hm, ok, k⟩ := h
    have hr5 : Room 5 _ := hr.mono (by decide)
    have hr6 : Room 6 _ := hr.mono (by decide)
    have hr7 : Room 7 _ := hr
    have hu := hu_of hr
    refine ⟨_, (pss_cons (ps_setLc (i := 1) (own := [("_law_one", 3)]) (g := gName 3) (tt := tYes) (te := tMake MB (spMak K C MB) [] E0 (tCons (tOp (rIxT K) (tVar 3) (tC (.int 0))) (tCons (tOp (rIxT K) (tVar 3) (tC (.int 1))) (tCons (tCB (fun xs H Q => ∃ p ys, xs = [V.ref p] ∧ (SqL K H p ys ∨ SqT K H p ys) ∧ ∀ l, H l = none → Q (.ref l) (upd H l (.lst ys))) (tCons (tOp (rIxT K) (tVar 3) (tC (.int 2))) tNil)) (tCons (tCB (fun xs H Q => ∃ p ys, xs = [V.ref p] ∧ (SqL K H p ys ∨ SqT K H p ys) ∧ ∀ l, H l = none → Q (.ref l) (upd H l (.lst ys))) (tCons (tOp (rIxT K) (tVar 3) (tC (.int 3))) tNil)) tNil))))) rfl scSce.nd rfl rfl (sw_true rfl rfl rfl (by decide +kernel)) (pi_list (pe_dget hu (pv 0) pe_str (fun _ _ => rfl))) (blkOk_by (N := ["_law_m", "_law_makings", "_law_rules", "_law_one"]) (sc := defScope sSce) (by decide +kernel)) (fun _ _ _ _ _ => (pg_name (i := 3) scSce.nd rfl (Or.inl rfl))) (fun _ _ _ _ _ => pts_nil) (fun _ _ _ _ _ => (pe_make TM.m GM hr6 rfl TM.g bM .nil passL (pa_cons (pe_ix ix_tup (pv 3) pe_int (fun _ _ => rfl)) (pa_cons (pe_ix ix_tup (pv 3) pe_int (fun _ _ => rfl)) (pa_cons (pe_callTy call_list_of (by rfl) tl (by decide +kernel) (pa_cons (pe_ix ix_tup (pv 3) pe_int (fun _ _ => rfl)) pa_nil)) (pa_cons (pe_callTy call_list_of (by rfl) tl (by decide +kernel) (pa_cons (pe_ix ix_tup (pv 3) pe_int (fun _ _ => rfl)) pa_nil)) pa_nil)))))))
      (pss_cons (ps_setLc (i := 2) (own := [("_law_one", 3)]) (g := gName 3) (tt := tYes) (te := tMake RB (spRul K C RB) [] E0 (tCons (tOp (rIxT K) (tVar 3) (tC (.int 0))) (tCons (tCB (fun xs H Q => ∃ p ys, xs = [V.ref p] ∧ (SqL K H p ys ∨ SqT K H p ys) ∧ ∀ l, H l = none → Q (.ref l) (upd H l (.lst ys))) (tCons (tOp (rIxT K) (tVar 3) (tC (.int 1))) tNil)) (tCons (tCB (fun xs H Q => ∃ p ys, xs = [V.ref p] ∧ (SqL K H p ys ∨ SqT K H p ys) ∧ ∀ l, H l = none → Q (.ref l) (upd H l (.lst ys))) (tCons (tOp (rIxT K) (tVar 3) (tC (.int 2))) tNil)) (tCons (tOp (rIxT K) (tVar 3) (tC (.int 3))) (tCons (tOp (rIxT K) (tVar 3) (tC (.int 4))) tNil)))))) rfl scSce.nd rfl rfl (sw_true rfl rfl rfl (by decide +kernel)) (pi_list (pe_dget hu (pv 0) pe_str (fun _ _ => rfl))) (blkOk_by (N := ["_law_m", "_law_makings", "_law_rules", "_law_one"]) (sc := defScope sSce) (by decide +kernel)) (fun _ _ _ _ _ => (pg_name (i := 3) scSce.nd rfl (Or.inl rfl))) (fun _ _ _ _ _ => pts_nil) (fun _ _ _ _ _ => (pe_make TR.m GR hr7 rfl TR.g bR .nil passL (pa_cons (pe_ix ix_tup (pv 3) pe_int (fun _ _ => rfl)) (pa_cons (pe_callTy call_list_of (by rfl) tl (by decide +kernel) (pa_cons (pe_ix ix_tup (pv 3) pe_int (fun _ _ => rfl)) pa_nil)) (pa_cons (pe_callTy call_list_of (by rfl) tl (by decide +kernel) (pa_cons (pe_ix ix_tup (pv 3) pe_int (fun _ _ => rfl)) pa_nil)) (pa_cons (pe_ix ix_tup (pv 3) pe_int (fun _ _ => rfl)) (pa_cons (pe_ix ix_tup (pv 3) pe_int (fun _ _ => rfl)) pa_nil))))))))
      (pss_one (ps_ret (pe_make (dvs := [.non]) TC.m GS hr5 rfl TC.g bS (.cons rfl .nil) pass0 (pa_cons (pe_callTy call_list_of (by rfl) tl (by decide +kernel) (pa_cons (pe_dget hu (pv 0) pe_str (fun _ _ => rfl)) pa_nil)) (pa_cons (pe_callTy call_list_of (by rfl) tl (by decide +kernel) (pa_cons (pe_dget hu (pv 0) pe_str (fun _ _ => rfl)) pa_nil)) (pa_cons (pv 1) (pa_cons (pv 2) pa_nil))))))))), ?_⟩
    obtain ⟨l1, l2, l3, l4, as, bs, h0, h1, h2, h3, h4, h5, h6⟩ := hm
    have dgS : ∀ {H' : Hp}, Same H H' → DGet H' m (.str "sorts") (some (.ref l1)) := fun {H'} h => md4_s l1 l2 l3 l4 ▸ DGet.k (k := kS) (h _ _ h0)
    have dgW : ∀ {H' : Hp}, Same H H' → DGet H' m (.str "words") (some (.ref l2)) := fun {H'} h => md4_w l1 l2 l3 l4 ▸ DGet.k (k := kW) (h _ _ h0)
    have dgM : ∀ {H' : Hp}, Same H H' → DGet H' m (.str "makings") (some (.ref l3)) := fun {H'} h => md4_m l1 l2 l3 l4 ▸ DGet.k (k := kM) (h _ _ h0)
    have dgR : ∀ {H' : Hp}, Same H H' → DGet H' m (.str "rules") (some (.ref l4)) := fun {H'} h => md4_r l1 l2 l3 l4 ▸ DGet.k (k := kR) (h _ _ h0)
    have S0 : Same H H := Same.refl H
    refine ⟨_, rfl, m, _, rfl, dgM S0, l3, rfl, ⟨_, SqL.of h3⟩, fun D hD => ?_⟩
    refine lc_list (K := K) (a := l3) (xs := as.map V.ref) (fun i H' => Same H H' ∧ ∃ xs : List Addr, H' D = some (.lst (xs.map V.ref)) ∧ AllAt (MkAt K MB H') xs (ms.take i)) ⟨Same.upd hD, [], upd_same, True.intro⟩ (fun i H' _ h => SqL.of (h.1 _ _ h3)) ?_ ?_
    · rintro i x H1 hx ⟨S1, xs, hD1, al⟩
      obtain ⟨a, mk, rfl, hmk, ld, lu, q1, q2, q3⟩ := h4.get hx
      have hmem : mk ∈ ms := List.mem_of_getElem? hmk
      have t1 := S1 _ _ q1
      refine ⟨rfl, ?_⟩
      refine ⟨_, rfl, a, _, 0, _, rfl, rfl, SqT.of t1, atI_nat (j := 0) rfl, _, rfl, a, _, 1, _, rfl, rfl, SqT.of t1, atI_nat (j := 1) rfl, _, rfl, a, _, 2, _, rfl, rfl, SqT.of t1, atI_nat (j := 2) rfl, ld, _, rfl, .inl (SqL.of (S1 _ _ q2)), fun ld' hld => ?_⟩
      have S2 : Same H1 (upd H1 ld' (.lst (mk.dn.map V.str))) := Same.upd hld
      refine ⟨_, rfl, a, _, 3, _, rfl, rfl, SqT.of (S2 _ _ t1), atI_nat (j := 3) rfl, lu, _, rfl, .inl (SqL.of (S2 _ _ (S1 _ _ q3))), fun lu' hlu => ?_⟩
      have S3 : Same (upd H1 ld' (.lst (mk.dn.map V.str))) (upd (upd H1 ld' (.lst (mk.dn.map V.str))) lu' (.lst (mk.up.map V.str))) := Same.upd hlu
      have e1 := S3 _ _ (upd_same (H := H1) (a := ld') (o := .lst (mk.dn.map V.str)))
      have e2 : (upd (upd H1 ld' (.lst (mk.dn.map V.str))) lu' (.lst (mk.up.map V.str))) lu' = some (.lst (mk.up.map V.str)) := upd_same
      have S23 := S2.trans S3
      generalize upd (upd H1 ld' (.lst (mk.dn.map V.str))) lu' (.lst (mk.up.map V.str)) = H2 at S23 e1 e2
      obtain ⟨sd, su⟩ := ok.mi.sb mk hmem
      have w3 := ok.w3
      refine mak_new (SqL.of e1) (SqL.of e2) (Nat.le_trans sd.length_le (by omega)) (Nat.le_trans su.length_le (by omega)) (noTw_of (List.Pairwise.sublist sd ok.wd.nd)) (noTw_of (List.Pairwise.sublist su ok.wd.nd)) (ok.mkTexts hmem) fun x H3 nx S4 hat => ?_
      have hD3 := S4 _ _ (S23 _ _ hD1)
      refine ⟨_, hD3, ?_, fun b o e => ?_, xs ++ [x], ?_, ?_⟩
      · have q := al.len
        have ln := ok.mi.ln
        have s4 := ok.s4
        rw [List.length_take] at q
        rw [List.length_map]
        exact Nat.lt_of_le_of_lt (show _ ≤ 1000 by omega) (by decide)
      · rw [upd_ne (ne_of_none e hD)]
        exact S4 _ _ (S23 _ _ (S1 _ _ e))
      · rw [upd_same, List.map_append]
        rfl
      · rw [List.take_add_one, hmk]
        exact AllAt.append (al.imp fun _ _ q => ((q.same S23).same S4).put hD3) ⟨hat.put hD3, True.intro⟩
    rintro H1 ⟨S1, xs, hD1, al⟩
    rw [List.length_map, h4.len, List.take_length] at al
    dsimp only [gName, List.set_cons_succ, List.set_cons_zero]
    refine ⟨_, rfl, m, _, rfl, dgR S1, l4, rfl, ⟨_, SqL.of (S1 _ _ h5)⟩, fun D2 hD2 => ?_⟩
    refine lc_list (K := K) (a := l4) (xs := bs.map V.ref) (fun i H' => Same H1 H' ∧ ∃ ys : List Addr, H' D2 = some (.lst (ys.map V.ref)) ∧ AllAt (RlAt K RB H') ys (rs.take i)) ⟨Same.upd hD2, [], upd_same, True.intro⟩ (fun i H' _ h => SqL.of (h.1 _ _ (S1 _ _ h5))) ?_ ?_
    · rintro i x H3 hx ⟨S3, ys, hD3, ar⟩
      obtain ⟨a, r, rfl, hrl, lv, lc, g, ps, qs, q1, q2, q3, q4, q5, q6⟩ := h6.get hx
      have hmem : r ∈ rs := List.mem_of_getElem? hrl
      have S13 := S1.trans S3
      have t1 := S13 _ _ q1
      refine ⟨rfl, ?_⟩
      refine ⟨_, rfl, a, _, 0, _, rfl, rfl, SqT.of t1, atI_nat (j := 0) rfl, _, rfl, a, _, 1, _, rfl, rfl, SqT.of t1, atI_nat (j := 1) rfl, lv, _, rfl, .inl (SqL.of (S13 _ _ q2)), fun lv' hlv => ?_⟩
      have S4 : Same H3 (upd H3 lv' (.lst (ps.map V.ref))) := Same.upd hlv
      refine ⟨_, rfl, a, _, 2, _, rfl, rfl, SqT.of (S4 _ _ t1), atI_nat (j := 2) rfl, lc, _, rfl, .inl (SqL.of (S4 _ _ (S13 _ _ q4))), fun lc' hlc => ?_⟩
      have S5 : Same (upd H3 lv' (.lst (ps.map V.ref))) (upd (upd H3 lv' (.lst (ps.map V.ref))) lc' (.lst (qs.map V.ref))) := Same.upd hlc
      have e1 := S5 _ _ (upd_same (H := H3) (a := lv') (o := .lst (ps.map V.ref)))
      have e2 : (upd (upd H3 lv' (.lst (ps.map V.ref))) lc' (.lst (qs.map V.ref))) lc' = some (.lst (qs.map V.ref)) := upd_same
      have S45 := S4.trans S5
      generalize upd (upd H3 lv' (.lst (ps.map V.ref))) lc' (.lst (qs.map V.ref)) = H4 at S45 e1 e2
      have t4 := S45 _ _ t1
      have SS := S13.trans S45
      refine ⟨_, rfl, a, _, 3, _, rfl, rfl, SqT.of t4, atI_nat (j := 3) rfl, _, rfl, a, _, 4, _, rfl, rfl, SqT.of t4, atI_nat (j := 4) rfl, ?_⟩
      refine rul_new (SqL.of e1) (q3.same SS) (SqL.of e2) (q5.same SS) (SS _ _ q6) (ok.rk r hmem).pt (ok.rlTexts hmem) fun x H5 nx S6 hat => ?_
      have hD5 := S6 _ _ (S45 _ _ hD3)
      refine ⟨_, hD5, ?_, fun b o e => ?_, ys ++ [x], ?_, ?_⟩
      · have q := ar.len
        have r8 := ok.r8
        rw [List.length_take] at q
        rw [List.length_map]
        exact Nat.lt_of_le_of_lt (show _ ≤ 1000 by omega) (by decide)
      · rw [upd_ne (ne_of_none e hD2)]
        exact S6 _ _ (S45 _ _ (S3 _ _ e))
      · rw [upd_same, List.map_append]
        rfl
      · rw [List.take_add_one, hrl]
        exact AllAt.append (ar.imp fun _ _ q => ((q.same S45).same S6).put hD5) ⟨hat.put hD5, True.intro⟩
    rintro H3 ⟨S3, ys, hD3, ar⟩
    rw [List.length_map, h6.len, List.take_length] at ar
    dsimp only [gName, List.set_cons_succ, List.set_cons_zero]
    have S13 := S1.trans S3
    refine ⟨_, rfl, m, _, rfl, dgS S13, l1, _, rfl, .inl (SqL.of (S13 _ _ h1)), fun a1 ha1 => ?_⟩
    have S4 : Same H3 (upd H3 a1 (.lst (ss.map V.str))) := Same.upd ha1
    refine ⟨_, rfl, m, _, rfl, dgW (S13.trans S4), l2, _, rfl, .inl (SqL.of (S4 _ _ (S13 _ _ h2))), fun a2 ha2 => ?_⟩
    have S5 : Same (upd H3 a1 (.lst (ss.map V.str))) (upd (upd H3 a1 (.lst (ss.map V.str))) a2 (.lst (ws.map V.str))) := Same.upd ha2
    have e1 := S5 _ _ (upd_same (H := H3) (a := a1) (o := .lst (ss.map V.str)))
    have e2 : (upd (upd H3 a1 (.lst (ss.map V.str))) a2 (.lst (ws.map V.str))) a2 = some (.lst (ws.map V.str)) := upd_same
    have S45 := S4.trans S5
    generalize upd (upd H3 a1 (.lst (ss.map V.str))) a2 (.lst (ws.map V.str)) = H4 at S45 e1 e2
    have S14 := S13.trans S45
    refine ⟨_, rfl, _, rfl, fun x dx nx ndx ne => ?_⟩
    have pt : Parts K MB RB BB H4 xs ys [] ms rs [] := ⟨al.imp fun _ _ q => (q.same S3).same S45, ar.imp fun _ _ q => q.same S45, True.intro⟩
    refine ⟨H4, x, dx, a1, a2, .ref D, .ref D2, .non, ss, ws, xs, ys, [], ms, rs, [], rfl, same_make nx ndx, nx, upd_same, SqL.of e1, SqL.of e2, .inr ⟨D, rfl, SqL.of (S45 _ _ (S3 _ _ hD1))⟩, .inr ⟨D2, rfl, SqL.of (S45 _ _ hD3)⟩, .inl ⟨rfl, rfl⟩, pt, ok.sch, fun H5 S6 hg => ⟨rfl, ?_⟩⟩
    exact k x H5 xs ys (S14.free nx) (S14.trans S6) hg (pt.same S6)
end
end Wm
namespace Wm
open PySem L2
/-- the dict of an error of a holding -/
def ef3 (u v x : V) : List (Str × V) := [("y", x), ("word", v), ("x", u), ("kind", .str "notheld")]
def spE3 (C : Addr) : Sp := fun vs H Q _ => ∃ (a : Addr) (u v x : V), vs = [.ref a, u, v, x] ∧ H a = some (exo a C none) ∧ ∀ dx H', H dx = none → dx ≠ a → (∀ b o, b ≠ a → H b = some o → H' b = some o) → H' a = some (exo a C (some dx)) → H' dx = some (exd dx (ef3 u v x)) → Q .non H'
section
variable {P : Program} {w : World} {K : PySem.W.Frag} {mg : Str → Option Value} {base : Heap}
theorem scNT : FnScope ["self", "name"] ["self", "name"] (defScope sNT) := ⟨rfl, rfl, rfl, by decide +kernel, rfl, by decide +kernel, by decide +kernel⟩
theorem ok_noth {f C f0 W : Addr} {fd fd0 : FuncData} (F : Fun K "__init__" "NoThing.__init__" sNT f fd) (T : ErrT K mg "NoThing" "name" C f) (TW : WhoT K mg W f0 fd0) (G0 : FnOk P w K mg base CX0 1 f0 fd0 ["self", "kind"] (spWI K)) :
    FnOk P w K mg base CX0 2 f fd ["self", "name"] (spE1 C "name" "nothing") := by
  refine F.ok scNT (fun vs H Q E h => ?_) (fun cdv A outer s H vs Q E hr h => ?_)
  · obtain ⟨a, v, rfl, _⟩ := h
    rfl
  · obtain ⟨a, v, rfl, ha, k⟩ := h
    refine ⟨_, pss_cons (ps_expr (pe_clsFn rfl TW.g TW.r TW.m TW.k G0 hr TW.b .nil pass0 (pa_cons (pv 0) (pa_cons pe_str pa_nil)))) (pss_one (ps_ost (pv 0) (pv 1))), ?_⟩
    refine ⟨_, rfl, a, C, _, rfl, T.o, T.nk, ha, fun dx n ne => ?_⟩
    refine ⟨_, rfl, _, rfl, a, C, rfl, T.o, T.nf, .inr ⟨dx, _, upd_same, Eq.trans (upd_ne ne) upd_same, by decide, ?_⟩⟩
    refine k dx _ n ne (fun b o nb e => ?_) ?_ upd_same
    · have nd : b ≠ dx := ne_of_none e n
      rw [upd_ne nd, upd_ne nb, upd_ne nd]
      exact e
    · rw [upd_ne ne.symm, upd_same]
theorem scNW : FnScope ["self", "name"] ["self", "name"] (defScope sNW) := ⟨rfl, rfl, rfl, by decide +kernel, rfl, by decide +kernel, by decide +kernel⟩
theorem ok_noword {f C f0 W : Addr} {fd fd0 : FuncData} (F : Fun K "__init__" "NoWord.__init__" sNW f fd) (T : ErrT K mg "NoWord" "name" C f) (TW : WhoT K mg W f0 fd0) (G0 : FnOk P w K mg base CX0 1 f0 fd0 ["self", "kind"] (spWI K)) :
    FnOk P w K mg base CX0 2 f fd ["self", "name"] (spE1 C "name" "noword") := by
  refine F.ok scNW (fun vs H Q E h => ?_) (fun cdv A outer s H vs Q E hr h => ?_)
  · obtain ⟨a, v, rfl, _⟩ := h
    rfl
  · obtain ⟨a, v, rfl, ha, k⟩ := h
    refine ⟨_, pss_cons (ps_expr (pe_clsFn rfl TW.g TW.r TW.m TW.k G0 hr TW.b .nil pass0 (pa_cons (pv 0) (pa_cons pe_str pa_nil)))) (pss_one (ps_ost (pv 0) (pv 1))), ?_⟩
    refine ⟨_, rfl, a, C, _, rfl, T.o, T.nk, ha, fun dx n ne => ?_⟩
    refine ⟨_, rfl, _, rfl, a, C, rfl, T.o, T.nf, .inr ⟨dx, _, upd_same, Eq.trans (upd_ne ne) upd_same, by decide, ?_⟩⟩
    refine k dx _ n ne (fun b o nb e => ?_) ?_ upd_same
    · have nd : b ≠ dx := ne_of_none e n
      rw [upd_ne nd, upd_ne nb, upd_ne nd]
      exact e
    · rw [upd_ne ne.symm, upd_same]
theorem scNH : FnScope ["self", "x", "word", "y"] ["self", "x", "word", "y"] (defScope sNH) := ⟨rfl, rfl, rfl, by decide +kernel, rfl, by decide +kernel, by decide +kernel⟩
theorem ok_nheld {f C f0 W : Addr} {fd fd0 : FuncData} (F : Fun K "__init__" "NotHeld.__init__" sNH f fd) (T : ErrT K mg "NotHeld" "x" C f) (n2 : PySem.W.findIn K (.ref C) "word" = some none) (n3 : PySem.W.findIn K (.ref C) "y" = some none) (TW : WhoT K mg W f0 fd0) (G0 : FnOk P w K mg base CX0 1 f0 fd0 ["self", "kind"] (spWI K)) :
    FnOk P w K mg base CX0 2 f fd ["self", "x", "word", "y"] (spE3 C) := by
  refine F.ok scNH (fun vs H Q E h => ?_) (fun cdv A outer s H vs Q E hr h => ?_)
  · obtain ⟨a, u, v, x, rfl, _⟩ := h
    rfl
  · obtain ⟨a, u, v, x, rfl, ha, k⟩ := h
    refine ⟨_, pss_cons (ps_expr (pe_clsFn rfl TW.g TW.r TW.m TW.k G0 hr TW.b .nil pass0 (pa_cons (pv 0) (pa_cons pe_str pa_nil)))) (pss_cons (ps_ost (pv 0) (pv 1)) (pss_cons (ps_ost (pv 0) (pv 2)) (pss_one (ps_ost (pv 0) (pv 3))))), ?_⟩
    refine ⟨_, rfl, a, C, _, rfl, T.o, T.nk, ha, fun dx n ne => ?_⟩
    refine ⟨_, rfl, _, rfl, a, C, rfl, T.o, T.nf, .inr ⟨dx, _, upd_same, Eq.trans (upd_ne ne) upd_same, by decide, ?_⟩⟩
    refine ⟨_, rfl, _, rfl, a, C, rfl, T.o, n2, .inr ⟨dx, _, Eq.trans (upd_ne ne.symm) upd_same, upd_same, by show 2 ≤ 900; decide, ?_⟩⟩
    refine ⟨_, rfl, _, rfl, a, C, rfl, T.o, n3, .inr ⟨dx, _, Eq.trans (upd_ne ne.symm) (Eq.trans (upd_ne ne.symm) upd_same), upd_same, by show 3 ≤ 900; decide, ?_⟩⟩
    refine k dx _ n ne (fun b o nb e => ?_) ?_ upd_same
    · have nd : b ≠ dx := ne_of_none e n
      rw [upd_ne nd, upd_ne nd, upd_ne nd, upd_ne nb, upd_ne nd]
      exact e
    · rw [upd_ne ne.symm, upd_ne ne.symm, upd_ne ne.symm, upd_same]
theorem scAs : FnScope ["self", "name"] ["self", "name"] (defScope sAs) := ⟨rfl, rfl, rfl, by decide +kernel, rfl, by decide +kernel, by decide +kernel⟩
theorem ok_asleep {f C f0 W : Addr} {fd fd0 : FuncData} (F : Fun K "__init__" "Asleep.__init__" sAs f fd) (T : ErrT K mg "Asleep" "name" C f) (TW : WhoT K mg W f0 fd0) (G0 : FnOk P w K mg base CX0 1 f0 fd0 ["self", "kind"] (spWI K)) :
    FnOk P w K mg base CX0 2 f fd ["self", "name"] (spE1 C "name" "asleep") := by
  refine F.ok scAs (fun vs H Q E h => ?_) (fun cdv A outer s H vs Q E hr h => ?_)
  · obtain ⟨a, v, rfl, _⟩ := h
    rfl
  · obtain ⟨a, v, rfl, ha, k⟩ := h
    refine ⟨_, pss_cons (ps_expr (pe_clsFn rfl TW.g TW.r TW.m TW.k G0 hr TW.b .nil pass0 (pa_cons (pv 0) (pa_cons pe_str pa_nil)))) (pss_one (ps_ost (pv 0) (pv 1))), ?_⟩
    refine ⟨_, rfl, a, C, _, rfl, T.o, T.nk, ha, fun dx n ne => ?_⟩
    refine ⟨_, rfl, _, rfl, a, C, rfl, T.o, T.nf, .inr ⟨dx, _, upd_same, Eq.trans (upd_ne ne) upd_same, by decide, ?_⟩⟩
    refine k dx _ n ne (fun b o nb e => ?_) ?_ upd_same
    · have nd : b ≠ dx := ne_of_none e n
      rw [upd_ne nd, upd_ne nb, upd_ne nd]
      exact e
    · rw [upd_ne ne.symm, upd_same]
end
theorem mk3 {C : Addr} {u v x : V} {H : Hp} {E : XK} (k : ∀ d H', H d = none → Same H H' → H' d = some (.xd (ef3 u v x)) → E (.ref C) (some d) H') :
    [u, v, x].length ≤ 1000 ∧ ∀ a, H a = none → spE3 C (.ref a :: ([u, v, x] ++ [])) (upd H a (exo a C none)) (fun w H2 => w = .non ∧ ∃ (d : Addr) (fs : List (Str × V)), H2 a = some (exo a C (some d)) ∧ H2 d = some (exd d fs) ∧ H d = none ∧ E (.ref C) (some d) (upd (del H2 a) d (.xd fs))) (fun _ _ _ => False) := by
  refine ⟨by show 3 ≤ 1000; decide, fun a na => ⟨a, u, v, x, rfl, upd_same, fun dx H' n ne kp ha hd => ⟨rfl, dx, _, ha, hd, ?_, ?_⟩⟩⟩
  · rw [upd_ne ne] at n
    exact n
  · rw [upd_ne ne] at n
    refine k dx _ n (fun b o e => ?_) upd_same
    have nb : b ≠ a := ne_of_none e na
    rw [upd_ne (ne_of_none e n), del_ne nb]
    exact kp b o nb (by rw [upd_ne nb]; exact e)
end Wm
/-! sorted of triples of texts, as a list and as the keys of a dict -/
namespace Wm
open PySem PySem.Spec PyProof.Rows L2
def triD3 (t : Str × Str × Str) : PyData := .tuple [.str t.1, .str t.2.1, .str t.2.2]
def triV3 (t : Str × Str × Str) : List V := [.str t.1, .str t.2.1, .str t.2.2]
/-- the triples in their order -/
def sortT (ts : List (Str × Str × Str)) : List (Str × Str × Str) := ts.mergeSort (PySem.W.dataLe false triD3)
def TrisAt (K : PySem.W.Frag) (H : Hp) : List Addr → List (Str × Str × Str) → Prop
  | [], [] => True
  | p :: ps, t :: ts => SqT K H p (triV3 t) ∧ TrisAt K H ps ts
  | [], _ :: _ => False
  | _ :: _, [] => False
theorem TrisAt.len {K : PySem.W.Frag} {H : Hp} : ∀ {ps : List Addr} {ts : List (Str × Str × Str)}, TrisAt K H ps ts → ps.length = ts.length
  | [], [], _ => rfl
  | _ :: _, _ :: _, h => by rw [List.length_cons, List.length_cons, TrisAt.len h.2]
  | [], _ :: _, h => h.elim
  | _ :: _, [], h => h.elim
theorem TrisAt.same {K : PySem.W.Frag} {H H' : Hp} (e : ∀ {a : Addr} {xs : List V}, SqT K H a xs → SqT K H' a xs) : ∀ {ps : List Addr} {ts : List (Str × Str × Str)}, TrisAt K H ps ts → TrisAt K H' ps ts
  | [], [], _ => True.intro
  | _ :: _, _ :: _, h => ⟨e h.1, TrisAt.same e h.2⟩
  | [], _ :: _, h => h.elim
  | _ :: _, [], h => h.elim
/-- a value that is a triple -/
def isTri (K : PySem.W.Frag) (H : Hp) (u : Value) (t : Str × Str × Str) : Prop := ∃ p, u = .ref p ∧ SqT K H p (triV3 t)
theorem tris_each {K : PySem.W.Frag} {H : Hp} : ∀ {ps : List Addr} {ts : List (Str × Str × Str)} {us : List Value}, TrisAt K H ps ts → Vals (ps.map V.ref) us → PySem.W.EachIs (isTri K H) us ts
  | [], [], _, _, r => by
    cases r
    exact .nil
  | p :: ps, t :: ts, _, h, r => by
    cases r with
    | cons r1 r2 =>
      cases r1
      exact .cons ⟨p, rfl, h.1⟩ (tris_each h.2 r2)
  | [], _ :: _, _, h, _ => h.elim
  | _ :: _, [], _, h, _ => h.elim
theorem each_tris {K : PySem.W.Frag} {H : Hp} : ∀ {us : List Value} {ts : List (Str × Str × Str)}, PySem.W.EachIs (isTri K H) us ts → ∃ qs : List Addr, TrisAt K H qs ts ∧ Vals (qs.map V.ref) us
  | _, _, .nil => ⟨[], True.intro, .nil⟩
  | _, _, .cons h r => by
    obtain ⟨p, rfl, hp⟩ := h
    obtain ⟨qs, hq, hv⟩ := each_tris r
    exact ⟨p :: qs, ⟨hp, hq⟩, .cons rfl hv⟩
theorem tri_dp {K : PySem.W.Frag} {H : Hp} {p : Addr} {t : Str × Str × Str} (h : SqT K H p (triV3 t)) : Dp K H (.ref p) (triD3 t) := .tup h (.cons (.str _) (.cons (.str _) (.cons (.str _) .nil)))
theorem tri_depth (t : Str × Str × Str) : (triD3 t).depth ≤ 2 := by
  simp [triD3, PyData.depth, PyData.depthAll]
section
variable {X : Cx} {pins : List (Addr × Obj)} {σ : L2.St} {H : Hp} {s : Shared}
theorem tri_reads (I : Inv X pins σ H s) : ∀ {us : List Value} {ts : List (Str × Str × Str)}, PySem.W.EachIs (isTri X.K H) us ts → PySem.W.EachIs (fun v b => ∃ as, Reads s.heap v (triD3 b) as) us ts
  | _, _, .nil => .nil
  | _, _, .cons h r => by
    obtain ⟨p, rfl, hp⟩ := h
    exact .cons (Dp.reads I _ _ _ (tri_dp hp) rfl) (tri_reads I r)
theorem tri_alike (ts : List (Str × Str × Str)) : PySem.W.AllAlike (ts.map triD3) := PySem.W.AllAlike.of fun b b' => by
  simp [triD3, PySem.W.alike, PySem.W.alikeAll]
theorem tri_sortable (ts : List (Str × Str × Str)) : PySem.W.Sortable (ts.map triD3) := PySem.W.Sortable.tuples fun b => ⟨_, _, rfl⟩
theorem sortT_len (ts : List (Str × Str × Str)) : (sortT ts).length = ts.length := List.length_mergeSort _
/-- sorted(xs) -/
def rSortTL (K : PySem.W.Frag) : List V → Hp → VK → Prop := fun vs H Q => ∃ (a : Addr) (ps : List Addr) (ts : List (Str × Str × Str)), vs = [.ref a] ∧ SqL K H a (ps.map V.ref) ∧ TrisAt K H ps ts ∧
  ∀ (qs : List Addr) (p : Addr), TrisAt K H qs (sortT ts) → H p = none → Q (.ref p) (upd H p (.lst (qs.map V.ref)))
theorem cr_sortTL (hu : X.A.units + 64 < cLine) : CallR X (.builtin "sorted") (rSortTL X.K) := by
  intro pins s σ H xs us Q I r h
  obtain ⟨a, ps, ts, rfl, hs, ht, q⟩ := h
  obtain ⟨its, rv, hl, hz⟩ := I.list hs
  obtain ⟨u, rfl, ru⟩ := vals1 r
  obtain rfl : u = Value.ref a := ru
  have he := tris_each ht rv
  have hlen : ts.length ≤ sizeLine := by
    rw [← ht.len]
    rw [List.length_map] at hz
    exact hz
  refine PySem.W.sorted_data (bs := ts) (enc := triD3) (R := isTri X.K H) hl.isList he (tri_reads I he) (tri_alike ts) (tri_sortable ts) hlen (fun b _ => by have := tri_depth b; omega) fun out ho hout => ?_
  obtain ⟨qs, hq, hv⟩ := each_tris hout
  obtain ⟨e, hat⟩ := sortedAll_at s.heap its out.toArray
  have hle : s.heap.objs.size ≤ s.heap.objs.size + 1 := Nat.le_succ _
  refine ⟨.ref (s.heap.objs.size + 1), upd H (s.heap.objs.size + 1) (.lst (qs.map V.ref)), I.laid (t' := s.toks) (fun b o z => sortedAll_old z) hle ⟨?_, out, e, hv, hat⟩, rfl, q qs _ hq (I.hok.fresh hle)⟩
  rw [List.length_map, hq.len, List.length_mergeSort]
  exact hlen
def triK (t : Str × Str × Str) : List L2.Key := [Sum.inr t.1, Sum.inr t.2.1, Sum.inr t.2.2]
/-- sorted(d), d a dict whose keys are triples -/
def rSortTD (K : PySem.W.Frag) : List V → Hp → VK → Prop := fun vs H Q => ∃ (a : Addr) (kvs : List (List L2.Key × V)) (ts : List (Str × Str × Str)), vs = [.ref a] ∧ H a = some (.dT kvs) ∧ kvs.map (·.1) = ts.map triK ∧
  ∀ (qs : List Addr) (p : Addr), TrisAt K H qs (sortT ts) → H p = none → Q (.ref p) (upd H p (.lst (qs.map V.ref)))
theorem keys_tris {K : PySem.W.Frag} {H : Hp} : ∀ {kvs : List (List L2.Key × V)} {bs : List Addr} {ts : List (Str × Str × Str)}, IsKeys H kvs bs → kvs.map (·.1) = ts.map triK → TrisAt K H bs ts
  | [], _, ts, h, e => by
    cases h
    cases ts with
    | nil => exact True.intro
    | cons t r => cases e
  | kv :: kvs, _, ts, h, e => by
    cases h with
    | cons h1 h2 =>
      cases ts with
      | nil => cases e
      | cons t r =>
        have e1 : kv.1 = triK t := (List.cons.inj e).1
        rw [e1] at h1
        exact ⟨SqT.of h1, keys_tris h2 (List.cons.inj e).2⟩
theorem cr_sortTD (hc : X.calm = true) (hu : X.A.units + 64 < cLine) : CallR X (.builtin "sorted") (rSortTD X.K) := by
  intro pins s σ H xs us Q I r h
  obtain ⟨d, kvs, ts, rfl, hd, hk, q⟩ := h
  obtain ⟨u, rfl, ru⟩ := vals1 r
  obtain rfl : u = Value.ref d := ru
  obtain ⟨z, hs, ks, pr, o, es, ep, ho, hx, hdt, he, hn⟩ := (show ObjOk X.prog X.w H s.heap d (.dT kvs) from I.hok d _ hd)
  have l1 : es.size = ks.length := size_of_entries he
  have l2 : kvs.length = ks.length := Paired.length pr
  have l3 : ts.length = kvs.length := by
    have e := congrArg List.length hk
    rw [List.length_map, List.length_map] at e
    exact e.symm
  have hT : TrisAt X.K H (ks.map fun x => x.2.1) ts := keys_tris (isKeys_of pr) hk
  refine Calls.call_function_entry kind_sorted plain_sorted entry_sorted (args_sorted1 _) ?_
  unfold Builtin.«sorted»
  refine wpAny_bind (m := checkCount "sorted" 1 1 _) (wpAny_pure ?_)
  refine wpAny_bind (PySem.W.kdu_collect (A := X.A.in1) (kdl_raw hs hx hdt) (I.ok.hd hc) ho (by omega) fun h' tk acc kp it => ?_)
  have ea : acc.toList = (ks.map fun x => x.2.1).map Value.ref := by
    apply List.ext_getElem?
    intro j
    have hl : acc.toList.length = ks.length := by rw [Array.length_toList, it.1]; exact l1
    rw [List.getElem?_map, List.getElem?_map]
    cases hb : ks[j]? with
    | none =>
      have := List.getElem?_eq_none_iff.mp hb
      rw [List.getElem?_eq_none (by omega)]
      rfl
    | some b =>
      have hj : j < acc.toList.length := by rw [hl]; exact (List.getElem?_eq_some_iff.mp hb).1
      have e1 := List.getElem?_eq_getElem hj
      obtain ⟨en, hen, hv⟩ := it.2 j _ (by rw [← Array.getElem?_toList]; exact e1)
      have qe := entry_at he j
      rw [hen, hb] at qe
      have e2 : en = entryOfKey (tupleKind (mixKind X.prog X.w)) b := Option.some.inj qe
      rw [e1, hv, e2]
      rfl
  have I1 : Inv X pins σ H { s with heap := h', toks := tk } := I.kept (t' := tk) kp
  have rv : Vals ((ks.map fun x => x.2.1).map V.ref) acc.toList := by rw [ea]; exact vals_refs _
  have each := tris_each hT rv
  have alen : acc.toList.length ≤ sizeLine := by
    rw [Array.length_toList, it.1]
    omega
  refine wpAny_bind (wpAny_newList ?_ alen)
  have hoL : (h'.push (seqObj "list" acc.toList.toArray 0)).get? h'.objs.size = some (seqObj "list" acc.toList.toArray 0) := Heap.get?_push_size _ rfl
  show wpAny _ _ _ _ _ { s with heap := h'.push (seqObj "list" acc.toList.toArray 0), toks := tk }
  have er : PySem.W.EachIs (fun v b => ∃ as, Reads (PySem.W.sortingHeap (h'.push (seqObj "list" acc.toList.toArray 0)) h'.objs.size acc.toList) v (triD3 b) as) acc.toList ts :=
    (tri_reads I1 each).mono fun _ _ ⟨as, rr⟩ => ⟨as, Reads.keeps (fun b o zz => PySem.W.sortingHeap_old (Nat.ne_of_lt (Heap.lt_size zz)) (Heap.get?_push_of_some _ zz)) rr⟩
  refine wpAny_bind (wpAny_holding (wpAny_call_entry slot_list_sort ⟨_, hoL, rfl⟩ entry_list_sort
    (PySem.W.list_sort_vals (s := { s with heap := h'.push (seqObj "list" acc.toList.toArray 0), toks := tk }) hoL
      (PySem.W.SortsAt.data (A := X.A.in1.in1) (s := { s with heap := PySem.W.sortingHeap (h'.push (seqObj "list" acc.toList.toArray 0)) h'.objs.size acc.toList, toks := tk }) (PySem.W.each_map (R := fun v d => ∃ as, Reads (PySem.W.sortingHeap (h'.push (seqObj "list" acc.toList.toArray 0)) h'.objs.size acc.toList) v d as) triD3 er) (tri_alike ts) (tri_sortable ts) (PySem.W.bound_map fun b _ => by
        have := tri_depth b
        have e2 : X.A.in1.in1.units ≤ X.A.units + 2 := Nat.le_refl _
        omega)) alen ⟨_, rfl, ?_⟩)
    (args_list_sort _)))
  have hout := PySem.W.sortVals_data (R := isTri X.K H) false each er (tri_alike ts)
  obtain ⟨qs, hq, hv⟩ := each_tris hout
  obtain ⟨e, hat⟩ := sortedHeap_at (vs := acc.toList) (out := (PySem.W.sortVals _ false acc.toList acc.toList).toArray) hoL
  refine wpAny_pure ⟨_, rfl, .ref h'.objs.size, upd H h'.objs.size (.lst (qs.map V.ref)), I1.laid (t' := tk) (fun b o zz => ?_) (Nat.le_refl _) ⟨?_, _, e, hv, hat⟩, rfl, q qs _ hq (I1.hok.fresh (Nat.le_refl _))⟩
  · have lt := Heap.lt_size zz
    have lt2 : b < (h'.push (seqObj "list" acc.toList.toArray 0)).objs.size := Heap.lt_size (Heap.get?_push_of_some _ zz)
    rw [sortedHeap_old (Nat.ne_of_lt lt) lt2]
    exact Heap.get?_push_of_some _ zz
  · rw [List.length_map, hq.len, List.length_mergeSort]
    omega
end
end Wm
/-! del d[t], d.pop(t): keys that are tuples -/
namespace Wm
open PySem PySem.Spec PyProof.Rows L2 L2.DX
section
variable {X : Cx} {pins : List (Addr × Obj)} {σ : L2.St} {H : Hp} {s : Shared} {a b : Addr} {kvs : List (List L2.Key × V)} {k : List L2.Key} {o i e : Expr} {td ty : TE} {tpos pos apos cpos : Pos}
theorem at_of {H : Hp} {kvs : List (List L2.Key × V)} {xs : List (List L2.Key × Addr × Value)} {v : V} (rel : KT H kvs xs) (ev : valV kvs k = some v) : ∃ p, atKey xs k = some p ∧ RelV v p.2 := by
  have r := rel.val k
  rw [ev] at r
  cases h : atKey xs k with
  | none =>
    rw [h] at r
    exact (show False from r).elim
  | some p =>
    rw [h] at r
    exact ⟨p, rfl, r⟩
theorem inv_drop {h' : Heap} {tk : Nat} {xs : List (List L2.Key × Addr × Value)} (I : Inv X pins σ H s) (ha : H a = some (.dT kvs)) (z : kvs.length ≤ sizeLine) (hd : (a == sysModules) = false) (rel : KT H kvs xs)
    (dd : h'.DictOfH (tupleKind (mixKind X.prog X.w)) a (withoutH xs k)) (hs : Heap.SameBut a s.heap h') : Inv X pins σ (upd H a (.dT (dropK kvs k))) { s with heap := h', toks := tk } := by
  obtain ⟨o, es, ep, hq, h2, h3, h4, _, h5⟩ := dd
  exact d_write I (by rw [ha]; exact True.intro) hs ⟨o, hq⟩ ⟨Nat.le_trans (dropK_le kvs k) z, hd, _, (KT_drop k rel).keeps (fun c ys ec => (by rw [upd_ne (ne_of ec ha (fun z => nomatch z))]; exact ec)), o, es, ep, hq, h2, h3, h4, h5⟩
def sDDelT (td ty : TE) : TS := fun D σ H => td σ H fun x H1 => ty σ H1 fun y H2 => ∃ a kvs k b, x = .ref a ∧ y = .ref b ∧ H2 a = some (.dT kvs) ∧ H2 b = some (.tup (k.map kV)) ∧ (valV kvs k).isSome = true ∧ D.nx σ (upd H2 a (.dT (dropK kvs k)))
theorem ps_ddelT (hu : X.A.units + 1 < cLine) (ho : PE X o td) (hi : PE X i ty) : PS X (.Delete [.Subscript o i tpos] pos) (sDDelT td ty) := by
  refine ⟨fun pins s σ H D I h => ?_⟩
  refine wpAny_Delete (wpAny_deleteEach_cons (wpAny_delete_Subscript (thn (ho.run pins s σ H _ I h) fun u s1 ⟨x, H1, I1, rx, q1⟩ => thn (hi.run pins s1 σ H1 _ I1 q1) fun iv s2 ⟨y, H2, I2, ry, a, kvs, k, b, ex, ey, ea, eb, l, q2⟩ => ?_)))
  subst ex ey
  obtain rfl : u = Value.ref a := rx
  obtain rfl : iv = Value.ref b := ry
  obtain ⟨z, hd, xs, rel, dd⟩ := dt_of I2.hok ea
  obtain ⟨v, ev⟩ := Option.isSome_iff_exists.mp l
  obtain ⟨p, hp, _⟩ := at_of rel ev
  exact wpAny_delItem_heap (hsz := by rw [← Paired.length rel]; exact z) (knd := tupleKind (mixKind X.prog X.w)) (tupleKind_room_in1 hu) (key_of I2.hok eb) hd dd hp fun h' hm' hs => wpAny_deleteEach_nil ⟨σ, _, inv_drop I2 ea z hd rel hm' hs, q2⟩
def tDPopT1 (td ty : TE) : TE := fun σ H Q => td σ H fun x H1 => ∃ a, x = .ref a ∧ IsD H1 a ∧ ty σ H1 fun y H2 => ∃ kvs k b v, y = .ref b ∧ H2 a = some (.dT kvs) ∧ H2 b = some (.tup (k.map kV)) ∧ valV kvs k = some v ∧ Q v (upd H2 a (.dT (dropK kvs k)))
theorem pe_dpopT1 (hu : X.A.units + 1 < cLine) (ho : PE X o td) (he : PE X e ty) (m : M1 X o "pop" apos e cpos) : PE X (.Call (.Attribute o "pop" apos) [e] [] cpos) (tDPopT1 td ty) := by
  refine ⟨fun pins s σ H Q I h => ?_⟩
  refine wpAny_Call_method m.base m.few m.line PySem.F.plainAttrs_dict PySem.F.slot_dict_pop PySem.F.type_dict_pop (thn (ho.run pins s σ H _ I h) fun u s1 ⟨x, H1, I1, rx, a, ex, d, q1⟩ => ?_)
  subst ex
  obtain rfl : u = Value.ref a := rx
  obtain ⟨t1, t2, _⟩ := isD_at I1 d
  refine ⟨t1, t2, ?_⟩
  rw [m.trees]
  refine Calls.callWith_builtin rfl (Calls.evalArgs_plain (Calls.spliced_cons (thn (he.run pins s1 σ H1 _ I1 q1) fun iv s2 ⟨y, H2, I2, ry, kvs, k, b, v, ey, ea, eb, ev, q2⟩ => Calls.spliced_nil ?_)))
  subst ey
  obtain rfl : iv = Value.ref b := ry
  obtain ⟨z, hd, xs, rel, dd⟩ := dt_of I2.hok ea
  obtain ⟨p, hp, rp⟩ := at_of rel ev
  exact call_pop_heap (more := []) (hsz := by rw [← Paired.length rel]; exact z) (knd := tupleKind (mixKind X.prog X.w)) (.inl rfl) (PySem.F.args_dict_pop_2 _ _) (tupleKind_room_in1 hu) (key_of I2.hok eb) hd dd hp fun h' hm' hs => ⟨v, _, inv_drop I2 ea z hd rel hm' hs, rp, q2⟩
end
end Wm
/-! lists walked to their end while an error is handled: sum, comprehensions -/
namespace Wm
open PySem PySem.Spec PyProof.Rows L2 HotX
section
variable {prog : Program} {w : World} {A : Around} {E : Value → Shared → Prop} {s : Shared}
/-- a list iterator at its end: the StopIteration gets the handled error as its context, nothing else is touched -/
theorem next_end_hot {it l x1 : Addr} {i : Nat} {items : Array Value} {Q : Option Value → Shared → Prop} (hot : HotAt A x1 s.heap) (hne : x1 ≠ it) (hit : s.heap.IsListIter it l i) (hl : s.heap.IsList l items) (hx : items[i]? = none)
    (hQ : ∀ h', Heap.ExtBut it s.heap h' → Q none { s with heap := h' }) : wpAny (model prog w) A (pyNext (.ref it)) Q E s := by
  obtain ⟨hh, o1, vs1, g1, f1, c1⟩ := hot
  obtain ⟨oi, gi, ci, di⟩ := id hit
  obtain ⟨ol, gl, _, nl, dl⟩ := hl
  have slot := slot_listiter_next
  unfold pyNext
  refine wpAny_bind (wpAny_attempt (wpAny_callSpecial?_slot (name := Str.ofString "__next__") hit.typeIs slot (wpAny_call_entry slot hit.typeIs entry_listiter_next ?_ (args_listiter_next _))))
  have rd0 : ∀ {Q' : Value → Shared → Prop} {E'} {A'}, Q' (.ref l) s → wpAny (model prog w) A' (field (.ref it) 0) Q' E' s := fun q => wpAny_field gi di (x := .ref l) rfl q
  have rd1 : ∀ {Q' : Value → Shared → Prop} {E'} {A'}, Q' (.int i 0) s → wpAny (model prog w) A' (field (.ref it) 1) Q' E' s := fun q => wpAny_field gi di (x := .int i 0) rfl q
  show wpAny _ _ (field (.ref it) 0 >>= _) _ _ s
  refine wpAny_bind (rd0 ?_)
  show wpAny _ _ (if (Value.ref l == Value.none) = true then _ else _) _ _ s
  rw [if_neg (show ¬ ((Value.ref l == Value.none) = true) from Bool.false_ne_true)]
  show wpAny _ _ (field (.ref it) 1 >>= _) _ _ s
  refine wpAny_bind (rd1 ?_)
  show wpAny _ _ (seqItems? (.ref l) >>= _) _ _ s
  refine wpAny_bind (wpAny_seqItems gl dl ?_)
  simp only [Int.toNat_natCast, hx]
  refine wpAny_bind (wpAny_rule (wpAny_bind (wpAny_setField gi di (by simp) ?_)))
  show wpAny _ _ (newExc (.type "StopIteration") [] >>= _) _ _ _
  refine wpAny_bind ?_
  simp only [newExc, newTuple]
  refine wpAny_bind (wpAny_newObj_type ?_ (by size_fits))
  refine wpAny_bind (m := firstArgMember _ _) (wpAny_of_eq (a := Value.none) (by first | rfl | (simp only [firstArgMember]; rfl)) ?_)
  refine wpAny_newObj_type ?_ (by size_fits)
  refine raiseNew_hot ⟨hh, o1, vs1, (((Heap.SameBut.update ..).extBut.push _).push _) x1 o1 hne g1, f1, c1⟩ (Nat.ne_of_lt (Heap.lt_size (((Heap.SameBut.update ..).extBut.push _) x1 o1 hne g1))) (Heap.get?_push_size _ rfl) rfl (by first | (simp; done) | (simp; omega) | (simp only [Array.size_append]; simp; omega)) ?_
  refine wpAny_bind (wpAny_isInstance (T := "StopIteration") (b := true) ⟨_, Heap.get?_update_self _ (Heap.get?_push_size _ rfl) rfl, rfl⟩ isSubtype_stop ?_)
  refine wpAny_pure (hQ _ fun b o nb e => ?_)
  rw [Heap.get?_update_other _ _ (Nat.ne_of_gt (Heap.lt_size (((Heap.SameBut.update ..).extBut.push _) b o nb e)))]
  exact (((Heap.SameBut.update ..).extBut.push _).push _) b o nb e
/-- the walk over a list, the handled error's object kept in sight -/
theorem walks_hot {x1 : Addr} {o1 : Obj} {v1 : Array Value} (hh : A.handled = some (.ref x1)) (d1 : o1.data = .fields v1) (c1 : v1[2]? = some .none) (I ax : Addr) (hne : ax ≠ I) (hx : x1 ≠ I) (items : Array Value) :
    Walks prog w A I [I, ax, x1] [I] items.size (fun i v => items[i]? = some v) (fun i h => h.IsListIter I ax i ∧ h.IsList ax items ∧ h.get? x1 = some o1) where
  sub := fun b hb => by
    rw [List.mem_singleton.mp hb]
    exact List.mem_cons_self
  frame := fun i h h' ⟨a, b, c⟩ k => ⟨a.at fun o e => k I (by simp) o e, b.at fun o e => k ax (by simp) o e, k x1 (by simp) o1 c⟩
  item := fun i s Q E hi ⟨a, b, c⟩ q => by
    refine wpAny_pyNext_list_item a b (Array.getElem?_eq_getElem hi) fun h' a' sb => ?_
    exact q _ h' s.toks (Array.getElem?_eq_getElem hi) ⟨a', b.at fun o e => (sb.2 ax hne).trans e, (sb.2 x1 hx).trans c⟩ fun y o ny e => (sb.2 y (fun z => ny (by rw [z]; exact List.mem_cons_self))).trans e
  done := fun s Q E ⟨a, b, c⟩ q => next_end_hot ⟨hh, o1, v1, c, d1, c1⟩ hx a b (Array.getElem?_eq_none (Nat.le_refl _)) fun h' eb => q h' s.toks fun y o ny e => eb y o (fun z => ny (by rw [z]; exact List.mem_cons_self)) e
  self := fun i s Q E ⟨a, _, _⟩ q => wpAny_pyIter_listiter a q
theorem sum_hot {l x1 : Addr} {o1 : Obj} {v1 : Array Value} {its : List Value} {ns : List Int} {Q : Value → Shared → Prop} (hh : A.handled = some (.ref x1)) (g1 : s.heap.get? x1 = some o1) (d1 : o1.data = .fields v1) (c1 : v1[2]? = some .none) (hl : s.heap.IsList l its.toArray) (hi : IntsAre its ns)
    (h : ∀ h' tk t', (∀ b o, s.heap.get? b = some o → h'.get? b = some o) → Q (.int ns.sum t') { s with heap := h', toks := tk }) : wpAny (model prog w) A (call (.builtin "sum") [.ref l]) Q E s := by
  obtain ⟨xs, e⟩ := hi.allInts.items
  have hn : numsOf (intItems xs).toList = ns := by rw [← e]; exact hi.numsOf
  rw [nums_intItems] at hn
  rw [e] at hl
  refine call_sum_walkG (iter_intList hl fun s2 e2 st fpl hlI => ?_)
  subst e2
  have hx : x1 ≠ s.heap.objs.size := Nat.ne_of_lt (Heap.lt_size g1)
  refine ⟨_, _, _, _, _, _, numAt xs, rfl, walks_hot (A := A.in1) hh d1 c1 _ l hlI hx (intItems xs), ⟨st.1, st.2, Heap.get?_push_of_some _ g1⟩, fun b hb => ?_, (fun _ _ => intItems_at), fun h' tk t' hk => ?_⟩
  · rcases List.mem_cons.mp hb with z | hb
    · exact fpl b (by rw [z]; simp)
    rcases List.mem_cons.mp hb with z | hb
    · exact fpl b (by rw [z]; simp)
    · rw [List.mem_singleton.mp hb]
      exact Heap.lt_size (Heap.get?_push_of_some _ g1)
  · have q := h h' tk t' (old_kept hk)
    have e3 : preSum (numAt xs) (intItems xs).size = ns.sum := by
      rw [preSum_eq, List.take_of_length_le (by simp [intItems]), hn]
    rw [e3]
    exact q
end
section
variable {X : Cx} {a : Addr} {oe : Obj} {vf : Array Value} {pn : List (Addr × Obj)}
theorem cr_sumH (hf : oe.data = .fields vf) (hn : vf[2]? = some .none) : CallR (X.suite a ((a, oe) :: pn)) (.builtin "sum") (rSum X.K) := by
  intro pins s σ H vs us Q I r h
  obtain ⟨l, ns, rfl, hs, q⟩ := h
  obtain ⟨its, rv, hl, _⟩ := I.list hs
  have P1 := I.pin (a, oe) (List.mem_append_left _ (List.mem_cons_self ..))
  rw [Vals.ref1 r]
  exact sum_hot (x1 := a) rfl P1.1 hf hn hl.isList rv.ints fun h' tk t' hk => ⟨.int _, H, I.kept hk, ⟨_, rfl⟩, q⟩
end
end Wm
/-! [elt for target in a list], no tests, while an error is handled -/
namespace Wm
open PySem PySem.Spec PyProof.Rows L2 HotX
/-- W i: what holds ahead of the turn i -/
def tLcH (K : PySem.W.Frag) (tl : TE) (g : TG) (te : TE) (vs : List Nat) : TE := fun σ H Q => tl σ H fun v H1 => ∃ (l : Addr) (xs : List V), v = .ref l ∧ SqL K H1 l xs ∧ ∀ D, H1 D = none → ∃ W : Nat → Hp → Prop, W 0 (upd H1 D (.lst [])) ∧ (∀ i H', W i H' → SqL K H' l xs) ∧
  (∀ i x H', xs[i]? = some x → W i H' → g x (wipe σ vs) H' fun σ2 H2 => wipe σ2 vs = wipe σ vs ∧ te σ2 H2 fun y H4 => ∃ acc, H4 D = some (.lst acc) ∧ acc.length < sizeLine ∧ W (i + 1) (upd H4 D (.lst (acc ++ [y])))) ∧ ∀ H', W xs.length H' → Q (.ref D) H'
section
variable {X : Cx} {a : Addr} {oe : Obj} {vf : Array Value}
theorem pe_lcH {elt tg l : Expr} {scope : Scope} {own : List (Str × Nat)} {pos : Pos} {tl : TE} {g : TG} {te : TE} (hA : X.A.handled = some (.ref a)) (hpn : (a, oe) ∈ X.pn) (hf : oe.data = .fields vf) (hn : vf[2]? = some .none) (hN : X.N.Nodup) (hl : PE X l tl) (ok : BlkOk X.N X.env.scope scope own)
    (hg : ∀ (s : Shared) (H : Hp) (C : Addr) (cl : List (Str × Addr)) (fp : List Addr), PG (X.blk s H scope (compEnvC scope cl C X.env) fp) tg g)
    (he : ∀ (s : Shared) (H : Hp) (C : Addr) (cl : List (Str × Addr)) (fp : List Addr), PE (X.blk s H scope (compEnvC scope cl C X.env) fp) elt te) (hs : ∀ x, foldedSetIterable l X.env x = pure x := by intro _; rfl) :
    PE X (.ListComp elt [⟨tg, l, [], 0⟩] scope pos) (tLcH X.K tl g te (own.map (·.2))) := by
  refine ⟨fun pins s σ H Q I h => ?_⟩
  rw [eval_ListComp]
  have cells : ∀ y ∈ scope.names, y.2 = .free → ∃ c, X.env.cells.lookup y.1 = some c := fun y hy e => (ok.free y hy e).elim (fun k => I.ok.has _ (.inl k)) (fun k => I.ok.has _ (.inr k))
  refine wpAny_comprehension_free (use := none) rfl hs (closure_ok cells) ok.kind (fun y hy e => by rw [ok.uniq y hy, e]) (thn (hl.run pins s σ H _ I h) fun v s1 ⟨x, H1, I1, r1, q1⟩ => ?_)
  obtain ⟨la, xs, rfl, hq, q⟩ := q1
  cases r1
  obtain ⟨its, rv, p, hz⟩ := I1.list hq
  refine wpAny_pyIter_list p.isList ?_
  -- the iterator, the new list, the block
  generalize hit : s1.heap.objs.size = it
  have itn : H1 it = none := I1.hok.fresh (Nat.le_of_eq hit)
  have I2 : Inv X pins σ H1 { s1 with heap := s1.heap.push { cls := .type "list_iterator", data := .fields #[.ref la, .int 0 0] } } := I1.kept (t' := s1.toks) fun b o e => Heap.get?_push_of_some _ e
  have st2 : ({ s1 with heap := s1.heap.push { cls := .type "list_iterator", data := .fields #[.ref la, .int 0 0] } } : Shared).heap.IsListIter it la 0 := by
    rw [← hit]
    exact ⟨_, Heap.get?_push_size _ rfl, rfl, rfl⟩
  have fp2 : FpOk X pins H1 it := I1.fpOk (Nat.le_of_eq hit) itn
  generalize hs2 : ({ s1 with heap := s1.heap.push { cls := .type "list_iterator", data := .fields #[.ref la, .int 0 0] } } : Shared) = s2 at I2 st2 ⊢
  refine wpAny_newObj_type (newEnv_comp ?_) (by show 0 ≤ sizeLine; decide)
  generalize hD : s2.heap.objs.size = D
  have Dn : H1 D = none := I2.hok.fresh (Nat.le_of_eq hD)
  have itD : it ≠ D := fun z => by
    obtain ⟨o, e, _⟩ := st2
    exact absurd (Heap.lt_size e) (by rw [z, ← hD]; exact Nat.lt_irrefl _)
  obtain ⟨W, w0, wq, step, fin⟩ := q D Dn
  have I3 : Inv X pins σ (upd H1 D (.lst [])) { s2 with heap := s2.heap.push { cls := .type "list", data := .seq ([] : List Value).toArray } } := by
    refine I2.laid (t' := s2.toks) (fun b o e => Heap.get?_push_of_some _ e) (Nat.le_of_eq hD) ⟨Nat.zero_le _, [], 0, .nil, ?_⟩
    rw [← hD]
    exact Heap.get?_push_size _ rfl
  have st3 : ({ s2 with heap := s2.heap.push { cls := .type "list", data := .seq ([] : List Value).toArray } } : Shared).heap.IsListIter it la 0 := st2.at fun o e => Heap.get?_push_of_some _ e
  generalize ({ s2 with heap := s2.heap.push { cls := .type "list", data := .seq ([] : List Value).toArray } } : Shared) = s3 at I3 st3 ⊢
  generalize hH3 : upd H1 D (.lst []) = H3 at I3 w0
  have it3 : H3 it = none := by rw [← hH3, upd_ne itD]; exact itn
  have fp3 : ∀ b ∈ [it], FpOk X pins H3 b ∧ b < s3.heap.objs.size := fun b hb => by
    rw [List.mem_singleton.mp hb]
    obtain ⟨o, e, _⟩ := st3
    exact ⟨⟨it3, fp2.2⟩, Heap.lt_size e⟩
  have I4 := block_start I3 ok hN fp3
  have pg := hg s3 H3 s3.heap.objs.size (cellsFrom (s3.heap.objs.size + 1) scope.names (cloFrom X.env.cells scope.names [])) [it]
  have pe := he s3 H3 s3.heap.objs.size (cellsFrom (s3.heap.objs.size + 1) scope.names (cloFrom X.env.cells scope.names [])) [it]
  have P3 := I3.pin (a, oe) (List.mem_append_left _ hpn)
  have aS : a ∉ frs X.stack := fun z => (List.mem_cons.mp (I3.stkSub a z)).elim P3.2.2.1 P3.2.2.2.1
  have aI : a ≠ it := fun z => fp2.2.2.2.2.2 (a, oe) (List.mem_append_left _ hpn) z
  show codeAny _ _ (.compStart (.ListComp elt [⟨tg, l, [], 0⟩] scope pos) 0 (.ref it) (.ref D) (compEnvC scope (cellsFrom (s3.heap.objs.size + 1) scope.names (cloFrom X.env.cells scope.names [])) s3.heap.objs.size X.env)) _ { s3 with heap := pushCells (s3.heap.push { cls := .type "dict", data := .dict #[] }) scope.names }
  generalize hce : compEnvC scope (cellsFrom (s3.heap.objs.size + 1) scope.names (cloFrom X.env.cells scope.names [])) s3.heap.objs.size X.env = ce at I4 pg pe ⊢
  have cL : ce.locals = s3.heap.objs.size := by subst hce; rfl
  have st4 : ({ s3 with heap := pushCells (s3.heap.push { cls := .type "dict", data := .dict #[] }) scope.names } : Shared).heap.IsListIter it la 0 := st3.at fun o e => pushCells_keeps _ _ _ _ (Heap.get?_push_of_some _ e)
  generalize ({ s3 with heap := pushCells (s3.heap.push { cls := .type "dict", data := .dict #[] }) scope.names } : Shared) = s4 at I4 st4 ⊢
  -- the iterator stands apart in every state of the block
  have apart : ∀ {σ' : L2.St} {H' : Hp} {s' : Shared}, Inv (X.blk s3 H3 scope ce [it]) [] σ' H' s' → H' it = none → FpOk (X.blk s3 H3 scope ce [it]) [] H' it := fun {σ' H' s'} I' z =>
    have m : it ∈ [it] := List.mem_cons_self
    ⟨z, (I'.ok.exf it m).1, I'.ok.exfs it m, .inl m, fun y c e => (I'.ok.exf it m).2 y c e, fun p hp => (List.not_mem_nil (show p ∈ ([] : List (Addr × Obj)) from hp)).elim⟩
  have loop : codeAny (model X.prog X.w) X.A (.compLoop (.ListComp elt [⟨tg, l, [], 0⟩] scope pos) 0 (.ref it) (.ref D) ce) (compPost (model X.prog X.w) X.A X.xe none (EP X pins σ Q) (.ref D) s3.heap.objs.size) s4 := by
    refine compLoop_any (fun n s' => ∃ i H', i + n = xs.length ∧ Inv (X.blk s3 H3 scope ce [it]) [] (wipe σ (own.map (·.2))) H' s' ∧ s'.heap.IsListIter it la i ∧ H' it = none ∧ W i H') ?_ xs.length ⟨0, H3, Nat.zero_add _, I4, st4, it3, w0⟩
    rintro n s5 ⟨i, H5, hi, I5, st5, n5, w5⟩
    obtain ⟨its5, rv5, p5, _⟩ := I5.list (wq i H5 w5)
    have hl5 := rv5.length
    have F5 := apart I5 n5
    obtain ⟨f0, f1, f2, f3, f4, f5⟩ := F5
    cases n with
    | zero =>
      have hot : HotAt X.A a s5.heap := ⟨hA, oe, vf, I5.base.keep a oe P3.1 P3.2.1 aS (fun z => aI (List.mem_singleton.mp z)), hf, hn⟩
      refine next_end_hot hot aI st5 p5.isList (by simp; omega) fun h' eb => ?_
      have I6 : Inv (X.blk s3 H3 scope ce [it]) [] (wipe σ (own.map (·.2))) H5 { s5 with heap := h' } := I5.turned (t' := s5.toks) (fun b o hb e => eb b o hb e) f0 f1 f3 f4 f5
      have I7 : Inv X pins σ H5 { s5 with heap := h' } := I3.call' (ch := [it]) I6.os I6.base I6.hok I6.bare fun b hb => ⟨(fp3 b hb).1.2.2.2.1, (fp3 b hb).1.2.1, (fp3 b hb).1.2.2.2.2.1, (fp3 b hb).1.2.2.2.2.2⟩
      have nC : H5 s3.heap.objs.size = none := by
        rw [← cL]
        exact I6.free
      obtain ⟨m, hm, _⟩ := I6.loc
      have hm : ({ s5 with heap := h' } : Shared).heap.Ns ce.locals m := hm
      rw [cL] at hm
      obtain ⟨k0, k1, k2, k3, k4, k5⟩ := I3.fpOk (Nat.le_refl _) nC
      refine ⟨m, hm, fun h'' sb => ⟨.ref D, H5, I7.turned (t' := s5.toks) (fun b o hb e => (sb.2 b hb).trans e) k0 k1 k3 k4 k5, rfl, fin H5 ?_⟩⟩
      have e : i = xs.length := by omega
      rw [← e]
      exact w5
    | succ n =>
      have hlt : i < xs.length := by omega
      obtain ⟨u, hu, ru⟩ := rv5.get (List.getElem?_eq_getElem hlt)
      refine wpAny_pyNext_list_item st5 p5.isList (x := u) (by simpa using hu) fun h' st6 sb => ?_
      have I6 : Inv (X.blk s3 H3 scope ce [it]) [] (wipe σ (own.map (·.2))) H5 { s5 with heap := h' } := I5.turned (t' := s5.toks) (fun b o hb e => (sb.2 b hb).trans e) f0 f1 f3 f4 f5
      obtain ⟨o6, e6, c6, d6⟩ := id st6
      refine go_of (s := { s5 with heap := h' }) e6 c6 d6 (by decide) ?_
      have I6' := I6.pinned (fp := [it]) (fun b hb => by rw [List.mem_singleton.mp hb]; exact apart I6 n5) (fun b hb => by rw [List.mem_singleton.mp hb]; exact ⟨o6, e6, fun v z => by rw [d6] at z; cases z⟩)
      refine thnF (pg.run _ _ _ H5 _ u _ I6' ru (step i _ H5 (List.getElem?_eq_getElem hlt) w5)) fun _ s8 ⟨σ8, H8, I8, hw8, q8⟩ => ?_
      refine wpAny_tests_nil ?_
      simp only [if_true]
      refine thnF (pe.run _ s8 σ8 H8 _ I8 q8) fun z s10 ⟨yv, H10, I10, r10, acc, hD10, hz10, nx⟩ => ?_
      refine app_ok (X := X.blk s3 H3 scope ce [it]) I10 hD10 hz10 r10 fun s11 I11 => ?_
      have pin := I11.pin (it, o6) (List.mem_append_right _ (List.mem_append_right _ (mem_pinsAt List.mem_cons_self e6)))
      refine ⟨n, Nat.lt_succ_self n, i + 1, _, by omega, (I11.unpinned (pins := [])).weak (by rw [← hw8, wipe_length]) (fun j v e => ?_), st6.at fun o e => ?_, pin.2.1, nx⟩
      · rw [← hw8] at e
        exact (wipe_some e).1
      · rw [e6] at e
        cases e
        exact pin.1
  exact codeAny_compStart_list loop (wpAny_pyIter_listiter st4 loop)
end
end Wm
namespace Wm
open L2 PySem PySem.W
/-- a def to which a caught error is handed within the suite that caught it -/
structure FnE (P : Program) (w : World) (K : Frag) (mg : Str → Option Value) (base : Heap) (k : Nat) (f : Addr) (fd : FuncData) (ps : List Str)
    (sp : Addr → Value → Option Addr → Sp) : Prop where
  len : ∀ a cls d vs H Q E, sp a cls d vs H Q E → vs.length = ps.length
  run : ∀ (A : Around) (outer : List Env) (s : Shared) (H : Hp) (args : Args) (us : List Value) (vs : List V) (Q : VK) (E : XK) (a : Addr) (oe : Obj) (cls : Value) (d : Option Addr),
    L2H.RoomH k A → A.handled = some (.ref a) → Zc cls d oe → (∃ vs, oe.data = .fields vs) → L2H.PinOk outer H s (a, oe) → Env0 P w K mg base A outer s H →
    BindsTo s fd args (ps.zip us) → Vals vs us → sp a cls d vs H Q E → codeAny (model P w) A (.call (.ref f) args) (CR CX0 outer P w H s Q E) s
theorem mark_self {A : Around} {a : Addr} (h : A.handled = some (.ref a)) : A.mark (some (.ref a)) = A := by
  cases A
  simp only at h
  subst h
  rfl
theorem fn_ofE {P : Program} {w : World} {K : Frag} {mg : Str → Option Value} {base : Heap} {k : Nat} {f : Addr} {name qual : Str} {params : Arguments} {body : List Stmt} {scope : Scope}
    {dV kV doc pm cdv ct oc : Value} {an od : Option Addr} {osl : Array (Option Value)} {N ps : List Str} {sp : Addr → Value → Option Addr → Sp}
    (lk : List.lookup f K = some { cls := oc, dict := od, data := .func (fnOf name qual params body scope dV kV doc pm an cdv ct), slots := osl })
    (hcd : codeIn K cdv qual = true) (S : FnScope N ps scope)
    (len : ∀ a cls d vs H Q E, sp a cls d vs H Q E → vs.length = ps.length)
    (hbody : ∀ (A : Around) (outer : List Env) (s : Shared) (H : Hp) (vs : List V) (Q : VK) (E : XK) (a : Addr) (oe : Obj) (cls : Value) (d : Option Addr),
      Zc cls d oe → (∃ vs, oe.data = .fields vs) → L2H.RoomH k (A.deeper (PyProof.Rows.envOfC qual scope s.heap.objs.size f cdv)) → sp a cls d vs H Q E →
      ∃ t, PSs ((cxOf CX0 P w K mg base N qual scope f cdv A outer s H E).suite a [(a, oe)]) body t ∧ t { nx := fun _ H' => Q .non H', rt := Q } (L2.start N vs) H) :
    FnE P w K mg base (k + 1) f (fnOf name qual params body scope dV kV doc pm an cdv ct) ps sp where
  len := len
  run := by
    intro A outer s H args us vs Q E a oe cls d hr hh hz hf hpin e0 hb r hsp
    have KX := Frag.In.keeps e0.mod.kin fun b o e => (e0.bs b o e).1
    have lim := Heap.NoLimit.keeps e0.mod.nolimit fun b o e => (e0.bs b o e).1
    refine codeAny_call_function hr.depth (KX f _ lk) rfl S.co S.gen rfl (codeRec_of KX hcd) (hb _ A.in1 _ _ (wpAny_newFunctionEnv_cells S.kind ?_ ?_))
    · rintro ⟨n, v⟩ hy
      rcases S.par n (List.of_mem_zip hy).1 with q | q
      · exact Or.inl q
      · exact Or.inr ⟨q, cellsFrom_some scope.names (s.heap.objs.size + 1) [] (Or.inl q)⟩
    · intro env he s1 x
      subst he
      refine ⟨Heap.NoLimit.keeps lim x.toInCall.keep, codeAny_func ?_⟩
      obtain ⟨t, ht, hq⟩ := hbody A outer s H vs Q E a oe cls d hz hf (L2H.RoomH.deeper hr _) hsp
      have I := L2H.inv_startH (CX := CX0) (E := E) S hpin e0 (len _ _ _ _ _ _ _ hsp) r x
      have hm : (A.deeper (PyProof.Rows.envOfC qual scope s.heap.objs.size f cdv)).mark (some (.ref a)) = A.deeper (PyProof.Rows.envOfC qual scope s.heap.objs.size f cdv) := mark_self hh
      have o := I.ok
      have I2 : Inv ((cxOf CX0 P w K mg base N qual scope f cdv A outer s H E).suite a [(a, oe)]) [] (L2.start N vs) H s1 :=
        ⟨⟨o.mod, o.kind, o.glob, o.blt, o.above, o.inj, o.has, o.cab, (fun h => by cases h), o.frames, o.stk, o.exf, o.bs, o.bsz, o.noex, o.exfs, o.funs, o.frf⟩,
          I.os, I.bare, I.base, I.loc, I.cell, I.free, I.freeC, I.pin, I.hok, I.len⟩
      have go := ht.run [] s1 (L2.start N vs) H { nx := fun _ H' => Q .non H', rt := Q } I2 hq
      dsimp only [Cx.suite, cxOf] at go
      rw [hm] at go
      refine wpAny_mono go (fun fl s' hs => ?_) fun e s' hs => hs.elim
      cases fl with
      | next =>
        obtain ⟨σ', H', J, q⟩ := hs
        exact ⟨.non, H', J.os, J.bare, J.base, J.hok, rfl, q⟩
      | brk =>
        obtain ⟨_, _, _, q⟩ := hs
        exact q.elim
      | cont =>
        obtain ⟨_, _, _, q⟩ := hs
        exact q.elim
      | ret u =>
        obtain ⟨v, σ', H', J, rv, q⟩ := hs
        exact ⟨v, H', J.os, J.bare, J.base, J.hok, rv, q⟩
theorem FunE_ok {P : Program} {w : World} {K : Frag} {mg : Str → Option Value} {base : Heap} {x qual : Str} {st : Stmt} {f : Addr} {fd : FuncData} {N ps : List Str} {k : Nat} {sp : Addr → Value → Option Addr → Sp}
    (F : Fun K x qual st f fd) (S : FnScope N ps (defScope st))
    (len : ∀ a cls d vs H Q E, sp a cls d vs H Q E → vs.length = ps.length)
    (hbody : ∀ (cdv : Value) (A : Around) (outer : List Env) (s : Shared) (H : Hp) (vs : List V) (Q : VK) (E : XK) (a : Addr) (oe : Obj) (cls : Value) (d : Option Addr),
      Zc cls d oe → (∃ vs, oe.data = .fields vs) → L2H.RoomH k (A.deeper (PyProof.Rows.envOfC qual (defScope st) s.heap.objs.size f cdv)) → sp a cls d vs H Q E →
      ∃ t, PSs ((cxOf CX0 P w K mg base N qual (defScope st) f cdv A outer s H E).suite a [(a, oe)]) (defBody st) t ∧ t { nx := fun _ H' => Q .non H', rt := Q } (L2.start N vs) H) :
    FnE P w K mg base (k + 1) f fd ps sp := by
  obtain ⟨oc, od, kV, doc, pm, an, cdv, ct, osl, rfl, lk, hcd⟩ := F.ex
  exact fn_ofE lk hcd S len fun A outer s H vs Q E a oe cls d hz hf hr hsp => hbody cdv A outer s H vs Q E a oe cls d hz hf hr hsp
/-- the call f(e, ..) of such a def within the suite -/
def tCallE (sp : Sp) (t : TA) : TE := fun σ H Q => t σ H fun vs H1 => sp vs H1 Q (fun _ _ _ => False)
theorem pe_callE {X : Cx} {k : Nat} {f : Addr} {fd : FuncData} {ps : List Str} {sp : Addr → Value → Option Addr → Sp} {a : Addr} {oe : Obj} {cls : Value} {d : Option Addr} {pn : List (Addr × Obj)}
    {x : Str} {q pos : Pos} {e : Expr} {es : List Expr} {t : TA}
    (F : FnE X.prog X.w X.K X.mg X.base k f fd ps sp) (hr : L2H.RoomH k X.A) (hz : Zc cls d oe) (hf : ∃ vs, oe.data = .fields vs) (hg : Gl X x) (hm : X.mg x = some (.ref f))
    (hk : keepIn X.K (.ref f) = true) (hb : L2.Binds X.K fd ps []) (ha : PA (X.suite a ((a, oe) :: pn)) (e :: es) t)
    (hdb : (x == Str.ofString "__debug__") = false := by rfl) (he : starEach (e :: es) X.env = (false, eval e X.env) :: starEach es X.env := by rfl)
    (hpl : ((backTo pos (starEach es X.env)).any fun x => x.1) = false := by rfl) :
    PE (X.suite a ((a, oe) :: pn)) (.Call (.Name x q) (e :: es) [] pos) (tCallE (sp a cls d) t) where
  run := by
    intro pins s σ H Q I h
    refine wpAny_Call_Name_kw (ld_glob I hg hm (callWith_K I.ok.mod.kin hk (thn (ha.run pos pins s σ H _ I h) ?_) he hpl) hdb)
    rintro us s1 ⟨vs, H1, I1, r, h1⟩
    refine ⟨I1.kIn, ?_⟩
    have P1 := I1.pin (a, oe) (List.mem_append_left _ (List.mem_cons_self ..))
    have hp : L2H.PinOk X.stack H1 s1 (a, oe) := ⟨P1.1, P1.2.1, fun hx => (List.mem_cons.mp (I1.stkSub a hx)).elim P1.2.2.1 P1.2.2.2.1, P1.2.2.2.2⟩
    have hl : (us ++ []).length = ps.length := by rw [List.append_nil, ← r.length]; exact F.len _ _ _ _ _ _ _ h1
    have b := hb s1 us I1.kIn hl
    rw [List.append_nil] at b
    have hr2 : L2H.RoomH k (X.suite a ((a, oe) :: pn)).A := ⟨hr.dp, hr.un⟩
    refine wpAny_call (codeAny_mono (F.run (X.suite a ((a, oe) :: pn)).A X.stack s1 H1 ⟨us, []⟩ us vs Q _ a oe cls d hr2 rfl hz hf hp I1.env0 b r h1) fun r s' hq => ?_)
    cases r with
    | error e => exact hq.elim
    | ok fl =>
      cases fl with
      | next => exact hq.elim
      | brk => exact hq.elim
      | cont => exact hq.elim
      | ret u => exact I1.after hq
end Wm
/-! own errors whose context is known to be None, from raise to the suite that hands them on -/
namespace Wm
open PySem PySem.Spec PyProof.Rows L2
section
variable {X : Cx} {e : Expr} {es : List Expr} {ta : TA} {p pos : Pos}
/-- an own error made: its context is None -/
theorem pmkN_oex {CX : CXT} {x : Str} {C fI : Addr} {k : Nat} {fd : FuncData} {ps : List Str} {sp : Sp} (T : OexC X.K C) (iC : PySem.W.findIn X.K (.ref C) "__init__" = some (some (.ref fI))) (tI : PySem.W.typeIn X.K (.ref fI) = some (.type "function"))
    (G : FnOk X.prog X.w X.K X.mg X.base CX k fI fd ps sp) (hr : Room (k + 1) X.A) (hb : L2.Binds X.K fd ps []) (hx : Passes CX X (fun _ _ _ => False)) (hg : Gl X x) (hm : X.mg x = some (.ref C)) (ha : PA X (e :: es) ta)
    (hdb : (x == ("__debug__" : Str)) = false := by decide) (he : starEach (e :: es) X.env = (false, eval e X.env) :: starEach es X.env := by rfl) (hpl : (backTo pos (starEach es X.env)).any (·.1) = false := by rfl) :
    L2N.PMk X (.Call (.Name x p) (e :: es) [] pos) (tMkO C sp [] ta) := by
  intro pins s σ H Q I h
  obtain ⟨nm, q, N, bs, bm, sn, sub, ab, col, dd, k0, k1, k2, k3, k5, hC, hbm⟩ := T.cls
  refine wpAny_Call_Name_kw (ld_glob I hg hm (PySem.W.callWith_K (h₀ := X.base) I.ok.mod.kin T.kC (thn (ha.run pos pins s σ H _ I h) ?_) he hpl) hdb)
  rintro us ⟨hp, g, dr, tk, os⟩ ⟨vs, H1, I1, r1, hz, q1⟩
  refine ⟨I1.kIn, ?_⟩
  generalize hA : hp.objs.size + 1 = A1 at *
  have le : hp.objs.size ≤ A1 := by omega
  have fr : H1 A1 = none := I1.hok.fresh le
  have hq := q1 A1 fr
  rw [List.append_nil] at hq
  have kp : ∀ b o, hp.get? b = some o → ((hp.push (PySem.W.kdv_tup us)).push (PySem.HandSPX.excO C hp.objs.size)).get? b = some o := fun b o z => Heap.get?_push_of_some _ (Heap.get?_push_of_some _ z)
  have new : ((hp.push (PySem.W.kdv_tup us)).push (PySem.HandSPX.excO C hp.objs.size)).get? A1 = some (PySem.HandSPX.excO C hp.objs.size) := by
    rw [← hA]
    heap_get
  have I2 : Inv X pins σ (upd H1 A1 (exo A1 C none)) ⟨(hp.push (PySem.W.kdv_tup us)).push (PySem.HandSPX.excO C hp.objs.size), g, dr, tk, os⟩ := I1.laid (t' := tk) (a := A1) (o := exo A1 C none) kp le (exo_ok new)
  have r2 : Vals (V.ref A1 :: vs) (Value.ref A1 :: us) := .cons rfl r1
  have ln : (Value.ref A1 :: us ++ []).length = ps.length := by
    rw [List.append_nil, ← r2.length]
    exact G.len _ _ _ _ hq
  have b2 := hb _ (Value.ref A1 :: us) I2.kIn ln
  rw [List.append_nil] at b2
  have big : us.length ≤ sizeLine := by
    rw [← Paired.length r1, sizeLine_eq]
    omega
  subst hA
  refine wpAny_call (PySem.HandSPX.call_own F.excBase_ValueError (fun Y => PySem.HandSPX.refsVE_contains Y bm hbm) (I1.kIn _ _ hC) (PySem.W.looks_findIn I1.kIn iC) (fun self => PySem.W.bind_fn I1.kIn self tI) big
    (codeAny_mono (G.run _ X.stack _ _ _ _ _ _ (fun _ _ _ => False) (hr.make C us []) (I2.env0.make C us []) b2 r2 hq) fun r s' hq' => ?_))
  cases r with
  | error er => exact hx pins σ _ _ er s' I2 hq'
  | ok fl =>
    cases fl with
    | next => exact hq'.elim
    | brk => exact hq'.elim
    | cont => exact hq'.elim
    | ret u =>
      obtain ⟨v, H2, os2, bare2, un2, hok2, rv, rfl, d, fs, ea, ed, hd1, q2⟩ := hq'
      obtain ⟨h2, g2, d2, t2, os'⟩ := s'
      obtain ⟨t0, W, J, kW, ge, hoe, na⟩ := mk_end0 (d2 := d2) (t2 := t2) I1 le kp un2 hok2 os2 bare2 ea ed hd1
      refine ⟨rv, hp.objs.size + 1, _, _, ⟨W, g2, d2, t2, os'⟩, _, .ref C, some d, rfl, J, kW, ge, hoe, ⟨rfl, rfl, fun vs hv => ?_⟩, rfl, rfl, na, rfl, bare2, raises_own T.exC T.tyC, q2⟩
      cases hv
      rfl
end
section
variable {P : Program} {w : World} {K : PySem.W.Frag} {mg : Str → Option Value} {base : Heap}
theorem okN {x qual : Str} {st : Stmt} {f : Addr} {fd : FuncData} {N ps : List Str} {k : Nat} {sp : Sp} (F : Fun K x qual st f fd) (S : FnScope N ps (defScope st)) (len : ∀ vs H Q E, sp vs H Q E → vs.length = ps.length)
    (hbody : ∀ (cdv : Value) (A : Around) (outer : List Env) (s : Shared) (H : Hp) (vs : List V) (Q : VK) (E : XK), Room k (A.deeper (envOfC qual (defScope st) s.heap.objs.size f cdv)) → sp vs H Q E →
      ∃ t, PSs (cxOf (L2N.CX P w) P w K mg base N qual (defScope st) f cdv A outer s H E) (defBody st) t ∧ t { nx := fun _ H' => Q .non H', rt := Q } (L2.start N vs) H) : FnOk P w K mg base (L2N.CX P w) (k + 1) f fd ps sp := by
  obtain ⟨oc, od, kV, doc, pm, an, cdv, ct, osl, rfl, lk, hcd⟩ := F.ex
  exact fn_of lk hcd S len fun A outer s H vs Q E hr hsp => hbody cdv A outer s H vs Q E hr hsp
end
/-- around a body nothing is let out -/
theorem takesN0 {X : Cx} : L2N.Takes X (fun _ _ _ _ => False) := fun _ _ x => by
  obtain ⟨_, _, _, _, _, _, _, _, _, _, _, _, _, _, _, _, z⟩ := x
  exact z.elim
end Wm
namespace Wm
open PySem L2 StX
/-! ### dicts of things -/
abbrev Thing := Str × Str × Bool
abbrev T3 := Str × Str × Str
def k1 (th : List Thing) : List (L2.Key × V) := th.map fun t => (Sum.inr t.1, .str t.2.1)
def k2 (th : List Thing) : List (L2.Key × V) := th.map fun t => (Sum.inr t.1, .bl t.2.2)
def k3 (ts : List T3) : List (List L2.Key × V) := ts.map fun t => (triK t, .bl true)
def nmL (th : List Thing) : List Str := th.map (·.1)
theorem val_is {κ : Type} [DecidableEq κ] (kvs : List (κ × V)) (k : κ) : (valV kvs k).isSome = decide (k ∈ kvs.map (·.1)) := by
  unfold valV
  rw [Option.isSome_map]
  by_cases h : k ∈ kvs.map (·.1)
  · rw [decide_eq_true h, List.find?_isSome]
    obtain ⟨x, hx, e⟩ := List.mem_map.mp h
    exact ⟨x, hx, decide_eq_true e⟩
  · rw [decide_eq_false h]
    cases e : kvs.find? (fun kv => decide (kv.1 = k)) with
    | none => rfl
    | some x =>
      have q := List.find?_some e
      exact (h (List.mem_map.mpr ⟨x, List.mem_of_find?_eq_some e, of_decide_eq_true q⟩)).elim
theorem keys1 (th : List Thing) : (k1 th).map (·.1) = (nmL th).map Sum.inr := by
  unfold k1 nmL
  rw [List.map_map, List.map_map]
  rfl
theorem keys2 (th : List Thing) : (k2 th).map (·.1) = (nmL th).map Sum.inr := by
  unfold k2 nmL
  rw [List.map_map, List.map_map]
  rfl
theorem inr_mem {n : Str} {l : List Str} : (Sum.inr n : L2.Key) ∈ l.map Sum.inr ↔ n ∈ l := by
  rw [List.mem_map]
  exact ⟨fun ⟨x, hx, e⟩ => by cases e; exact hx, fun h => ⟨n, h, rfl⟩⟩
theorem is1 (th : List Thing) (n : Str) : (valV (k1 th) (Sum.inr n)).isSome = decide (n ∈ nmL th) := by
  rw [val_is, keys1]
  exact decide_eq_decide.mpr inr_mem
theorem is2 (th : List Thing) (n : Str) : (valV (k2 th) (Sum.inr n)).isSome = decide (n ∈ nmL th) := by
  rw [val_is, keys2]
  exact decide_eq_decide.mpr inr_mem
theorem put_new {κ : Type} [DecidableEq κ] {kvs : List (κ × V)} {k : κ} {v : V} (h : k ∉ kvs.map (·.1)) : putK kvs k v = kvs ++ [(k, v)] := by
  unfold putK
  rw [if_neg]
  intro e
  obtain ⟨x, hx, q⟩ := List.any_eq_true.mp e
  exact h (List.mem_map.mpr ⟨x, hx, of_decide_eq_true q⟩)
theorem put_old {κ : Type} [DecidableEq κ] {kvs : List (κ × V)} {k : κ} {v : V} (h : k ∈ kvs.map (·.1)) : putK kvs k v = kvs.map (fun kv => if kv.1 = k then (kv.1, v) else kv) := by
  unfold putK
  rw [if_pos]
  obtain ⟨x, hx, e⟩ := List.mem_map.mp h
  exact List.any_eq_true.mpr ⟨x, hx, decide_eq_true e⟩
def setA (th : List Thing) (n : Str) (b : Bool) : List Thing := th.map fun t => if t.1 = n then (t.1, t.2.1, b) else t
theorem setA_nm (th : List Thing) (n : Str) (b : Bool) : nmL (setA th n b) = nmL th := by
  unfold nmL setA
  rw [List.map_map]
  refine List.map_congr_left fun t _ => ?_
  show (if t.1 = n then (t.1, t.2.1, b) else t).1 = t.1
  split <;> rfl
theorem setA_k1 (th : List Thing) (n : Str) (b : Bool) : k1 (setA th n b) = k1 th := by
  unfold k1 setA
  rw [List.map_map]
  refine List.map_congr_left fun t _ => ?_
  show (Sum.inr (if t.1 = n then (t.1, t.2.1, b) else t).1, V.str (if t.1 = n then (t.1, t.2.1, b) else t).2.1) = _
  split <;> rfl
theorem setA_put {th : List Thing} {n : Str} (b : Bool) (h : n ∈ nmL th) : putK (k2 th) (Sum.inr n) (.bl b) = k2 (setA th n b) := by
  rw [put_old (by rw [keys2]; exact inr_mem.mpr h)]
  unfold k2 setA
  rw [List.map_map, List.map_map]
  refine List.map_congr_left fun t _ => ?_
  show (if (Sum.inr t.1 : L2.Key) = Sum.inr n then (Sum.inr t.1, V.bl b) else (Sum.inr t.1, V.bl t.2.2)) = (Sum.inr (if t.1 = n then (t.1, t.2.1, b) else t).1, V.bl (if t.1 = n then (t.1, t.2.1, b) else t).2.2)
  by_cases e : t.1 = n
  · rw [if_pos e, if_pos (by rw [e])]
  · rw [if_neg e, if_neg (fun z => e (Sum.inr.inj z))]
theorem new1 {th : List Thing} {n s : Str} {b : Bool} (h : n ∉ nmL th) : putK (k1 th) (Sum.inr n) (.str s) = k1 (th ++ [(n, s, b)]) := by
  rw [put_new (by rw [keys1]; exact fun z => h (inr_mem.mp z))]
  unfold k1
  rw [List.map_append]
  rfl
theorem new2 {th : List Thing} {n s : Str} {b : Bool} (h : n ∉ nmL th) : putK (k2 th) (Sum.inr n) (.bl b) = k2 (th ++ [(n, s, b)]) := by
  rw [put_new (by rw [keys2]; exact fun z => h (inr_mem.mp z))]
  unfold k2
  rw [List.map_append]
  rfl
theorem triK_inj {t u : T3} (h : triK t = triK u) : t = u := by
  obtain ⟨a, b, c⟩ := t
  obtain ⟨d, e, f⟩ := u
  simp only [triK, List.cons.injEq, Sum.inr.injEq, and_true] at h
  obtain ⟨rfl, rfl, rfl⟩ := h
  rfl
def addT (ts : List T3) (t : T3) : List T3 := if t ∈ ts then ts else ts ++ [t]
theorem keys3 (ts : List T3) : (k3 ts).map (·.1) = ts.map triK := by
  unfold k3
  rw [List.map_map]
  rfl
theorem triK_mem {t : T3} {ts : List T3} : triK t ∈ ts.map triK ↔ t ∈ ts := by
  rw [List.mem_map]
  exact ⟨fun ⟨x, hx, e⟩ => by rw [← triK_inj e]; exact hx, fun h => ⟨t, h, rfl⟩⟩
theorem put3 (ts : List T3) (t : T3) : putK (k3 ts) (triK t) (.bl true) = k3 (addT ts t) := by
  unfold addT
  by_cases h : t ∈ ts
  · rw [if_pos h, put_old (by rw [keys3]; exact triK_mem.mpr h)]
    unfold k3
    rw [List.map_map]
    refine List.map_congr_left fun u _ => ?_
    show (if triK u = triK t then (triK u, V.bl true) else (triK u, V.bl true)) = _
    split <;> rfl
  · rw [if_neg h, put_new (by rw [keys3]; exact fun z => h (triK_mem.mp z))]
    unfold k3
    rw [List.map_append]
    rfl
/-- who is awake -/
def awk (th : List Thing) (n : Str) : Option Bool := (th.find? fun t => decide (t.1 = n)).map (·.2.2)
theorem val2 (th : List Thing) (n : Str) : valV (k2 th) (Sum.inr n) = (awk th n).map V.bl := by
  unfold valV k2 awk
  rw [List.find?_map]
  have e : ((fun kv : L2.Key × V => decide (kv.1 = Sum.inr n)) ∘ fun t : Thing => ((Sum.inr t.1 : L2.Key), V.bl t.2.2)) = fun t : Thing => decide (t.1 = n) := by
    funext t
    exact decide_eq_decide.mpr ⟨fun z => Sum.inr.inj z, fun z => congrArg Sum.inr z⟩
  rw [e, Option.map_map, Option.map_map]
  rfl
theorem val1 {th : List Thing} {n s : Str} (hs : ∀ t ∈ th, t.2.1 = s) (h : n ∈ nmL th) : valV (k1 th) (Sum.inr n) = some (.str s) := by
  have q : (valV (k1 th) (Sum.inr n)).isSome = true := by rw [is1]; exact decide_eq_true h
  unfold valV at q ⊢
  cases e : (k1 th).find? (fun kv => decide (kv.1 = Sum.inr n)) with
  | none =>
    rw [e] at q
    cases q
  | some x =>
    obtain ⟨t, ht, rfl⟩ := List.mem_map.mp (List.mem_of_find?_eq_some e)
    show some (V.str t.2.1) = _
    rw [hs t ht]
theorem awk_some {th : List Thing} {n : Str} (h : n ∈ nmL th) : ∃ b, awk th n = some b := by
  have q : (valV (k2 th) (Sum.inr n)).isSome = true := by
    rw [is2]
    exact decide_eq_true h
  rw [val2, Option.isSome_map] at q
  exact Option.isSome_iff_exists.mp q
/-! ### a house -/
def hsF (sc d1 d2 d3 : Addr) : List (Str × V) := putF "standing" (.ref d3) (putF "awake_by_name" (.ref d2) (putF "sort_by_name" (.ref d1) (putF "own_scheme" (.ref sc) [])))
theorem hsF_sc (sc d1 d2 d3 : Addr) : (hsF sc d1 d2 d3).lookup ("own_scheme" : Str) = some (.ref sc) := by
  unfold hsF
  rw [lookN (by decide +kernel), lookN (by decide +kernel), lookN (by decide +kernel), lookF]
theorem hsF_1 (sc d1 d2 d3 : Addr) : (hsF sc d1 d2 d3).lookup ("sort_by_name" : Str) = some (.ref d1) := by
  unfold hsF
  rw [lookN (by decide +kernel), lookN (by decide +kernel), lookF]
theorem hsF_2 (sc d1 d2 d3 : Addr) : (hsF sc d1 d2 d3).lookup ("awake_by_name" : Str) = some (.ref d2) := by
  unfold hsF
  rw [lookN (by decide +kernel), lookF]
theorem hsF_3 (sc d1 d2 d3 : Addr) : (hsF sc d1 d2 d3).lookup ("standing" : Str) = some (.ref d3) := by
  unfold hsF
  rw [lookF]
theorem hsF_no {f : Str} (h1 : ¬ f = "standing") (h2 : ¬ f = "awake_by_name") (h3 : ¬ f = "sort_by_name") (h4 : ¬ f = "own_scheme") (sc d1 d2 d3 : Addr) : (hsF sc d1 d2 d3).lookup f = none := by
  unfold hsF
  rw [lookN h1, lookN h2, lookN h3, lookN h4]
  rfl
def srt (th : List Thing) (n : Str) : Option Str := (th.find? fun t => decide (t.1 = n)).map (·.2.1)
theorem val1s (th : List Thing) (n : Str) : valV (k1 th) (Sum.inr n) = (srt th n).map V.str := by
  unfold valV k1 srt
  rw [List.find?_map]
  have e : ((fun kv : L2.Key × V => decide (kv.1 = Sum.inr n)) ∘ fun t : Thing => ((Sum.inr t.1 : L2.Key), V.str t.2.1)) = fun t : Thing => decide (t.1 = n) := by
    funext t
    exact decide_eq_decide.mpr ⟨fun z => Sum.inr.inj z, fun z => congrArg Sum.inr z⟩
  rw [e, Option.map_map, Option.map_map]
  rfl
structure TxH (K : PySem.W.Frag) (mg : Str → Option Value) (HC fH : Addr) : Prop where
  cl : Cls K HC
  n0 : NoAttr K HC "own_scheme"
  n1 : NoAttr K HC "sort_by_name"
  n2 : NoAttr K HC "awake_by_name"
  n3 : NoAttr K HC "standing"
  g : mg "House" = some (.ref HC)
  m : Mk K HC fH
structure HsAt (HC S : Addr) (H : Hp) (x dx sc d1 d2 d3 : Addr) (ss ws : List Str) (th : List Thing) (ts : List T3) : Prop where
  hx : H x = some (.ins HC dx (hsF sc d1 d2 d3))
  hs : SchAt S H sc ss ws
  h1 : H d1 = some (.dK (k1 th))
  h2 : H d2 = some (.dK (k2 th))
  h3 : H d3 = some (.dT (k3 ts))
  ne : d1 ≠ d2
theorem SchAt.same {S x : Addr} {H H' : Hp} {ss ws : List Str} (s : Same H H') (h : SchAt S H x ss ws) : SchAt S H' x ss ws := by
  obtain ⟨dx, l1, l2, l3, l4, l5, a, b, c⟩ := h.ex
  exact ⟨dx, l1, l2, l3, l4, l5, s _ _ a, s _ _ b, s _ _ c⟩
theorem SchAt.but {S x d : Addr} {H H' : Hp} {ss ws : List Str} {o : HO} (s : But d H H') (hd : H d = some o) (n1 : ∀ C dx fs, o ≠ .ins C dx fs) (n2 : ∀ xs, o ≠ .lst xs) (h : SchAt S H x ss ws) : SchAt S H' x ss ws := by
  obtain ⟨dx, l1, l2, l3, l4, l5, a, b, c⟩ := h.ex
  exact ⟨dx, l1, l2, l3, l4, l5, s _ _ (ne_of a hd (n1 _ _ _).symm) a, s _ _ (ne_of b hd (n2 _).symm) b, s _ _ (ne_of c hd (n2 _).symm) c⟩
theorem HsAt.same {HC S x dx sc d1 d2 d3 : Addr} {H H' : Hp} {ss ws : List Str} {th : List Thing} {ts : List T3} (s : Same H H') (h : HsAt HC S H x dx sc d1 d2 d3 ss ws th ts) : HsAt HC S H' x dx sc d1 d2 d3 ss ws th ts :=
  ⟨s _ _ h.hx, h.hs.same s, s _ _ h.h1, s _ _ h.h2, s _ _ h.h3, h.ne⟩
/-- behind a change of a list that is none of the house's -/
theorem HsAt.but {HC S x dx sc d1 d2 d3 p : Addr} {H H' : Hp} {ss ws : List Str} {th : List Thing} {ts : List T3} (s : But p H H') (st : StOk H p) (hp : ∀ l1 l2 : Addr, H l1 = some (.lst (ss.map V.str)) → H l2 = some (.lst (ws.map V.str)) → l1 ≠ p ∧ l2 ≠ p) (h : HsAt HC S H x dx sc d1 d2 d3 ss ws th ts) : HsAt HC S H' x dx sc d1 d2 d3 ss ws th ts := by
  obtain ⟨a, b, c, e, _⟩ := st
  obtain ⟨dy, l1, l2, l3, l4, l5, q1, q2, q3⟩ := h.hs.ex
  have z := hp l1 l2 q2 q3
  exact ⟨s _ _ (ne_of h.hx e (by intro z; cases z)) h.hx, ⟨dy, l1, l2, l3, l4, l5, s _ _ (ne_of q1 e (by intro z; cases z)) q1, s _ _ z.1 q2, s _ _ z.2 q3⟩, s _ _ (ne_of h.h1 e (by intro z; cases z)) h.h1, s _ _ (ne_of h.h2 e (by intro z; cases z)) h.h2, s _ _ (ne_of h.h3 e (by intro z; cases z)) h.h3, h.ne⟩
def spHin (HC : Addr) : Sp := fun vs H Q _ => ∃ (H0 : Hp) (x dx sc : Addr), vs = [.ref x, .ref sc] ∧ Same H0 H ∧ H0 x = none ∧ H x = some (.ins HC dx []) ∧
  ∀ d1 d2 d3 H', H0 d1 = none → H0 d2 = none → H0 d3 = none → d1 ≠ d2 → Same H0 H' → H' x = some (.ins HC dx (hsF sc d1 d2 d3)) → H' d1 = some (.dK []) → H' d2 = some (.dK []) → H' d3 = some (.dT []) → Q .non H'
/-- what is strange of a holding -/
def unk (C D : Addr) (ws : List Str) (nms : List Str) (n wd m : Str) : Option (Addr × Str × Str) := if n ∈ nms then (if m ∈ nms then (if wd ∈ ws then none else some (D, "noword", wd)) else some (C, "nothing", m)) else some (C, "nothing", n)
def Out (u : Option (Addr × Str × Str)) (H : Hp) (E : XK) (Q : Prop) : Prop := match u with
  | none => Q
  | some (X, kd, z) => ∀ d H', H d = none → Same H H' → H' d = some (.xd (ef1 "name" kd (.str z))) → E (.ref X) (some d) H'
def DueT (C : Addr) (n : Str) (th : List Thing) (H : Hp) (Q : Prop) (E : XK) : Prop := if n ∈ nmL th then Q else ∀ d H', H d = none → Same H H' → H' d = some (.xd (ef1 "name" "nothing" (.str n))) → E (.ref C) (some d) H'
def remT (ts : List T3) (t : T3) : List T3 := ts.filter fun u => decide (u ≠ t)
theorem drop3 (ts : List T3) (t : T3) : dropK (k3 ts) (triK t) = k3 (remT ts t) := by
  unfold dropK k3 remT
  rw [List.filter_map]
  congr 1
  refine List.filter_congr fun u _ => ?_
  show decide (triK u ≠ triK t) = decide (u ≠ t)
  exact decide_eq_decide.mpr ⟨fun z e => z (by rw [e]), fun z e => z (triK_inj e)⟩
theorem is3 (ts : List T3) (t : T3) : (valV (k3 ts) (triK t)).isSome = decide (t ∈ ts) := by
  rw [val_is, keys3]
  exact decide_eq_decide.mpr triK_mem
def spHrsX (HC S C D : Addr) : Sp := fun vs H Q E => ∃ (x dx sc d1 d2 d3 : Addr) (n wd m : Str) (ss ws : List Str) (th : List Thing) (ts : List T3), vs = [.ref x, .str n, .str wd, .str m] ∧ HsAt HC S H x dx sc d1 d2 d3 ss ws th ts ∧ Out (unk C D ws (nmL th) n wd m) H E (∀ H', Same H H' → Q .non H')
def spGiv (HC S C D : Addr) : Sp := fun vs H Q E => ∃ (x dx sc d1 d2 d3 : Addr) (n wd m : Str) (ss ws : List Str) (th : List Thing) (ts : List T3), vs = [.ref x, .str n, .str wd, .str m] ∧ HsAt HC S H x dx sc d1 d2 d3 ss ws th ts ∧ ts.length ≤ 1000 ∧
  Out (unk C D ws (nmL th) n wd m) H E (∀ H', But d3 H H' → HsAt HC S H' x dx sc d1 d2 d3 ss ws th (addT ts (n, wd, m)) → Q .non H')
def spTak (HC S C D NH : Addr) : Sp := fun vs H Q E => ∃ (x dx sc d1 d2 d3 : Addr) (n wd m : Str) (ss ws : List Str) (th : List Thing) (ts : List T3), vs = [.ref x, .str n, .str wd, .str m] ∧ HsAt HC S H x dx sc d1 d2 d3 ss ws th ts ∧
  Out (unk C D ws (nmL th) n wd m) H E (if (n, wd, m) ∈ ts then ∀ H', But d3 H H' → HsAt HC S H' x dx sc d1 d2 d3 ss ws th (remT ts (n, wd, m)) → Q .non H' else ∀ d H', H d = none → Same H H' → H' d = some (.xd (ef3 (.str n) (.str wd) (.str m))) → E (.ref NH) (some d) H')
def spHol (HC S C D : Addr) : Sp := fun vs H Q E => ∃ (x dx sc d1 d2 d3 : Addr) (n wd m : Str) (ss ws : List Str) (th : List Thing) (ts : List T3), vs = [.ref x, .str n, .str wd, .str m] ∧ HsAt HC S H x dx sc d1 d2 d3 ss ws th ts ∧
  Out (unk C D ws (nmL th) n wd m) H E (∀ H', Same H H' → Q (.bl (decide ((n, wd, m) ∈ ts))) H')
/-- behind a change of what stands -/
theorem HsAt.put3 {HC S x dx sc d1 d2 d3 : Addr} {H : Hp} {ss ws : List Str} {th : List Thing} {ts us : List T3} (h2 : HsAt HC S H x dx sc d1 d2 d3 ss ws th ts) : HsAt HC S (upd H d3 (.dT (k3 us))) x dx sc d1 d2 d3 ss ws th us := by
  refine ⟨?_, h2.hs.but But.upd h2.h3 (fun _ _ _ z => by cases z) (fun _ z => by cases z), ?_, ?_, upd_same, h2.ne⟩
  · rw [upd_ne (ne_of h2.hx h2.h3 (by intro z; cases z))]
    exact h2.hx
  · rw [upd_ne (ne_of h2.h1 h2.h3 (by intro z; cases z))]
    exact h2.h1
  · rw [upd_ne (ne_of h2.h2 h2.h3 (by intro z; cases z))]
    exact h2.h2
def spHrtX (HC S C : Addr) : Sp := fun vs H Q E => ∃ (x dx sc d1 d2 d3 : Addr) (n : Str) (ss ws : List Str) (th : List Thing) (ts : List T3), vs = [.ref x, .str n] ∧ HsAt HC S H x dx sc d1 d2 d3 ss ws th ts ∧ DueT C n th H (Q .non H) E
def spHen (HC S : Addr) : Sp := fun vs H Q _ => ∃ (x dx sc d1 d2 d3 : Addr) (n so : Str) (b : Bool) (ss ws : List Str) (th : List Thing) (ts : List T3), vs = [.ref x, .str n, .str so, .bl b] ∧ HsAt HC S H x dx sc d1 d2 d3 ss ws th ts ∧ isNm n = true ∧ n.length ≤ 12 ∧ n ∉ nmL th ∧ so ∈ ss ∧ th.length < 60 ∧
  ∀ H', (∀ q o, q ≠ d1 → q ≠ d2 → H q = some o → H' q = some o) → HsAt HC S H' x dx sc d1 d2 d3 ss ws (th ++ [(n, so, b)]) ts → Q .non H'
def spHth (HC S : Addr) : Sp := fun vs H Q _ => ∃ (x dx sc d1 d2 d3 : Addr) (ss ws : List Str) (th : List Thing) (ts : List T3), vs = [.ref x] ∧ HsAt HC S H x dx sc d1 d2 d3 ss ws th ts ∧ ∀ l, H l = none → Q (.ref l) (upd H l (.lst ((nmL th).map V.str)))
def spHhe (K : PySem.W.Frag) (HC S : Addr) : Sp := fun vs H Q _ => ∃ (x dx sc d1 d2 d3 : Addr) (ss ws : List Str) (th : List Thing) (ts : List T3), vs = [.ref x] ∧ HsAt HC S H x dx sc d1 d2 d3 ss ws th ts ∧ ∀ qs l, TrisAt K H qs (sortT ts) → H l = none → Q (.ref l) (upd H l (.lst (qs.map V.ref)))
section
variable {P : Program} {w : World} {K : PySem.W.Frag} {mg : Str → Option Value} {base : Heap}
theorem scHin : FnScope ["self", "scheme"] ["self", "scheme"] (defScope sHin) := ⟨rfl, rfl, rfl, by decide +kernel, rfl, by decide +kernel, by decide +kernel⟩
theorem ok_hin {f HC : Addr} {fd : FuncData} (F : Fun K "__init__" "House.__init__" sHin f fd) (TH : TxH K mg HC f) : FnOk P w K mg base CX0 1 f fd ["self", "scheme"] (spHin HC) := by
  refine F.ok scHin (fun vs H Q E h => ?_) (fun cdv A outer s H vs Q E hr h => ?_)
  · obtain ⟨H0, x, dx, sc, rfl, _⟩ := h
    rfl
  · obtain ⟨H0, x, dx, sc, rfl, S0, x0, hx, k⟩ := h
    have Sx : ∀ {H1 : Hp} {o : HO}, Same H0 H1 → Same H0 (upd H1 x o) := fun hs b o e => by
      rw [upd_ne (ne_of_none e x0)]
      exact hs b o e
    refine ⟨_, (pss_cons (ps_fld (pv 0) (pv 1) rfl) (pss_cons (ps_fld (pv 0) pe_dnewK rfl) (pss_cons (ps_fld (pv 0) pe_dnewK rfl) (pss_one (ps_fld (pv 0) pe_dnewT rfl))))), ?_⟩
    have L1 := putF_len "own_scheme" (.ref sc) []
    refine ⟨_, rfl, _, rfl, x, HC, dx, _, rfl, hx, TH.cl, TH.n0, by show 0 < 1000; decide, fun d1 g1 => ?_⟩
    have n1 : d1 ≠ x := fun z => by
      rw [z, upd_same] at g1
      cases g1
    have L2' := putF_len "sort_by_name" (.ref d1) (putF "own_scheme" (.ref sc) [])
    have L3 : ∀ d2, (putF "awake_by_name" (.ref d2) (putF "sort_by_name" (.ref d1) (putF "own_scheme" (.ref sc) []))).length ≤ _ := fun d2 => putF_len "awake_by_name" (.ref d2) (putF "sort_by_name" (.ref d1) (putF "own_scheme" (.ref sc) []))
    simp only [List.length_nil] at L1
    refine ⟨_, rfl, x, HC, dx, _, rfl, (upd_ne n1.symm).trans upd_same, TH.cl, TH.n1, by omega, fun d2 g2 => ?_⟩
    have n2 : d2 ≠ x := fun z => by
      rw [z, upd_same] at g2
      cases g2
    have n12 : d1 ≠ d2 := fun z => by
      rw [← z, upd_ne n1, upd_same] at g2
      cases g2
    refine ⟨_, rfl, x, HC, dx, _, rfl, (upd_ne n2.symm).trans upd_same, TH.cl, TH.n2, by omega, fun d3 g3 => ?_⟩
    have n3 : d3 ≠ x := fun z => by
      rw [z, upd_same] at g3
      cases g3
    have n23 : d2 ≠ d3 := fun z => by
      rw [← z, upd_ne n2, upd_same] at g3
      cases g3
    have n13 : d1 ≠ d3 := fun z => by
      rw [← z, upd_ne n1, upd_ne n12, upd_ne n1, upd_same] at g3
      cases g3
    refine ⟨_, rfl, x, HC, dx, _, rfl, (upd_ne n3.symm).trans upd_same, TH.cl, TH.n3, by have := L3 d2; omega, ?_⟩
    have SA := Sx (o := .ins HC dx (putF "own_scheme" (.ref sc) [])) S0
    have SB := Sx (o := .ins HC dx (putF "sort_by_name" (.ref d1) (putF "own_scheme" (.ref sc) []))) (SA.trans (Same.upd (o := .dK []) g1))
    have SC := Sx (o := .ins HC dx (putF "awake_by_name" (.ref d2) (putF "sort_by_name" (.ref d1) (putF "own_scheme" (.ref sc) [])))) (SB.trans (Same.upd (o := .dK []) g2))
    refine k d1 d2 d3 _ (SA.free g1) (SB.free g2) (SC.free g3) n12 (Sx (SC.trans (Same.upd g3))) upd_same ?_ ?_ ?_
    · rw [upd_ne n1, upd_ne n13, upd_ne n1, upd_ne n12, upd_ne n1, upd_same]
    · rw [upd_ne n2, upd_ne n23, upd_ne n2, upd_same]
    · rw [upd_ne n3, upd_same]
theorem scHrt : FnScope ["self", "name"] ["self", "name"] (defScope sHrt) := ⟨rfl, rfl, rfl, by decide +kernel, rfl, by decide +kernel, by decide +kernel⟩
theorem ok_hrtX {f HC S C fI fH : Addr} {fd fdI : FuncData} (F : Fun K "refuse_no_thing" "House.refuse_no_thing" sHrt f fd) (TH : TxH K mg HC fH) (TE : ErrT K mg "NoThing" "name" C fI) (bI : Binds K fdI ["self", "name"] []) (GI : FnOk P w K mg base CX0 2 fI fdI ["self", "name"] (spE1 C "name" "nothing")) :
    FnOk P w K mg base (L2N.CX P w) 4 f fd ["self", "name"] (spHrtX HC S C) := by
  refine okN F scHrt (fun vs H Q E h => ?_) (fun cdv A outer s H vs Q E hr h => ?_)
  · obtain ⟨x, dx, sc, d1, d2, d3, n, ss, ws, th, ts, rfl, _⟩ := h
    rfl
  · obtain ⟨x, dx, sc, d1, d2, d3, n, ss, ws, th, ts, rfl, hh, q⟩ := h
    refine ⟨_, (pss_one (ps_if (pt_cmp (pc_dnotin (hu_of hr) (pv 1) (pe_fld (pv 0) rfl))) (pss_one (L2N.ps_raise rfl (L2N.takes_of rfl rfl rfl rfl) (pmkN_oex TE.o TE.iC TE.tI GI hr bI pass0 rfl TE.g (pa_cons (pv 1) pa_nil)))) pss_nil)), ?_⟩
    refine ⟨_, rfl, _, rfl, x, HC, dx, _, _, rfl, hh.hx, TH.cl, TH.n1, hsF_1 _ _ _ _, d1, _, rfl, DGet.k (k := Sum.inr n) hh.h1, _, rfl, ?_⟩
    rw [is1]
    unfold DueT at q
    by_cases hn : n ∈ nmL th
    · rw [if_pos hn] at q
      rw [decide_eq_true hn]
      exact iteF q
    · rw [if_neg hn] at q
      rw [decide_eq_false hn]
      exact iteT ⟨_, rfl, mk1 q⟩
abbrev ps4 : List Str := ["self", "x", "word", "y"]
theorem scHrs : FnScope ps4 ps4 (defScope sHrs) := ⟨rfl, rfl, rfl, by decide +kernel, rfl, by decide +kernel, by decide +kernel⟩
theorem ok_hrsX {f HC S fH fR fS fW C D fI : Addr} {fd dR dW fdI : FuncData} (F : Fun K "refuse_strange" "House.refuse_strange" sHrs f fd) (TH : TxH K mg HC fH) (mR : Meth K HC "refuse_no_thing" fR) (bR : Binds K dR ["self", "name"] []) (GR : FnOk P w K mg base (L2N.CX P w) 4 fR dR ["self", "name"] (spHrtX HC S C))
    (TC : TxSch K mg S fS) (mW : Meth K S "words" fW) (bW : Binds K dW ["self"] []) (GW : FnOk P w K mg base CX0 1 fW dW ["self"] (spWor S)) (TE : ErrT K mg "NoWord" "name" D fI) (bI : Binds K fdI ["self", "name"] []) (GI : FnOk P w K mg base CX0 2 fI fdI ["self", "name"] (spE1 D "name" "noword")) : FnOk P w K mg base (L2N.CX P w) 5 f fd ps4 (spHrsX HC S C D) := by
  refine okN F scHrs (fun vs H Q E h => ?_) (fun cdv A outer s H vs Q E hr h => ?_)
  · obtain ⟨x, dx, sc, d1, d2, d3, n, wd, m, ss, ws, th, ts, rfl, _⟩ := h
    rfl
  · obtain ⟨x, dx, sc, d1, d2, d3, n, wd, m, ss, ws, th, ts, rfl, hh, q⟩ := h
    have hr1 : Room 1 _ := hr.mono (by decide)
    have hr3 : Room 3 _ := hr.mono (by decide)
    have no : (hsF sc d1 d2 d3).lookup ("refuse_no_thing" : Str) = none := hsF_no (by decide +kernel) (by decide +kernel) (by decide +kernel) (by decide +kernel) _ _ _ _
    refine ⟨_, (pss_cons (ps_expr (pe_meth (pv 0) TH.cl mR GR hr bR .nil (L2N.passes_call (L2N.takes_of rfl rfl rfl rfl) (fun _ _ _ _ h => h)) (pa_cons (pv 1) pa_nil))) (pss_cons (ps_expr (pe_meth (pv 0) TH.cl mR GR hr bR .nil (L2N.passes_call (L2N.takes_of rfl rfl rfl rfl) (fun _ _ _ _ h => h)) (pa_cons (pv 3) pa_nil)))
      (pss_one (ps_if (pt_cmpR op_notIn_seq (pv 2) (pe_meth0 (pe_fld (pv 0) rfl) TC.cl mW GW hr1 bW .nil pass0) (by rfl)) (pss_one (L2N.ps_raise rfl (L2N.takes_of rfl rfl rfl rfl) (pmkN_oex TE.o TE.iC TE.tI GI hr3 bI pass0 rfl TE.g (pa_cons (pv 2) pa_nil)))) pss_nil)))), ?_⟩
    refine ⟨_, rfl, x, dx, _, rfl, hh.hx, no, _, rfl, x, dx, sc, d1, d2, d3, n, ss, ws, th, ts, rfl, hh, ?_⟩
    unfold unk at q
    unfold DueT
    by_cases hn : n ∈ nmL th
    · rw [if_pos hn] at q ⊢
      refine ⟨_, rfl, x, dx, _, rfl, hh.hx, no, _, rfl, x, dx, sc, d1, d2, d3, m, ss, ws, th, ts, rfl, hh, ?_⟩
      unfold DueT
      by_cases hm : m ∈ nmL th
      · rw [if_pos hm] at q ⊢
        obtain ⟨dy, l1, l2, l3, l4, l5, e1, e2, e3⟩ := hh.hs.ex
        refine ⟨_, rfl, _, rfl, x, HC, dx, _, _, rfl, hh.hx, TH.cl, TH.n0, hsF_sc _ _ _ _, sc, dy, _, rfl, e1, schF_no (by decide +kernel) (by decide +kernel) (by decide +kernel) (by decide +kernel) (by decide +kernel) _ _ _ _ _, sc, ss, ws, rfl, hh.hs, fun l hl => ?_⟩
        refine ⟨l, _, rfl, .inl (SqL.of upd_same), rfl, flats ws, _, rfl, ?_⟩
        show if (!inV (.str wd) (ws.map V.str)) = true then _ else _
        have S1 : Same H (upd H l (.lst (ws.map V.str))) := Same.upd hl
        by_cases hw : wd ∈ ws
        · rw [if_pos hw] at q
          rw [inV_strs, decide_eq_true hw]
          exact iteF (q _ S1)
        · rw [if_neg hw] at q
          rw [inV_strs, decide_eq_false hw]
          exact iteT ⟨_, rfl, mk1 fun d H' nd S' e => q d H' (S1.free nd) (S1.trans S') e⟩
      · rw [if_neg hm] at q ⊢
        exact q
    · rw [if_neg hn] at q ⊢
      exact q
theorem scHgi : FnScope ps4 ps4 (defScope sHgi) := ⟨rfl, rfl, rfl, by decide +kernel, rfl, by decide +kernel, by decide +kernel⟩
theorem ok_giv {f HC S C D fH fR : Addr} {fd dR : FuncData} (F : Fun K "give" "House.give" sHgi f fd) (TH : TxH K mg HC fH) (mR : Meth K HC "refuse_strange" fR) (bR : Binds K dR ps4 []) (GR : FnOk P w K mg base (L2N.CX P w) 5 fR dR ps4 (spHrsX HC S C D)) : FnOk P w K mg base (L2N.CX P w) 6 f fd ps4 (spGiv HC S C D) := by
  refine okN F scHgi (fun vs H Q E h => ?_) (fun cdv A outer s H vs Q E hr h => ?_)
  · obtain ⟨x, dx, sc, d1, d2, d3, n, wd, m, ss, ws, th, ts, rfl, _⟩ := h
    rfl
  · obtain ⟨x, dx, sc, d1, d2, d3, n, wd, m, ss, ws, th, ts, rfl, hh, hts, q⟩ := h
    refine ⟨_, (pss_cons (ps_expr (pe_meth (pv 0) TH.cl mR GR hr bR .nil (L2N.passes_call (L2N.takes_of rfl rfl rfl rfl) (fun _ _ _ _ h => h)) (pa_cons (pv 1) (pa_cons (pv 2) (pa_cons (pv 3) pa_nil))))) (pss_one (ps_dput (hu_of hr) (pe_fld (pv 0) rfl) (pe_tup (pa_cons (pv 1) (pa_cons (pv 2) (pa_cons (pv 3) pa_nil)))) pe_bl rfl))), ?_⟩
    refine ⟨_, rfl, x, dx, _, rfl, hh.hx, hsF_no (by decide +kernel) (by decide +kernel) (by decide +kernel) (by decide +kernel) _ _ _ _, _, rfl, _, rfl, _, rfl, x, dx, sc, d1, d2, d3, n, wd, m, ss, ws, th, ts, rfl, hh, ?_⟩
    revert q
    cases unk C D ws (nmL th) n wd m with
    | some u => exact fun q => q
    | none =>
      intro q H1 S1
      have h1 := hh.same S1
      refine ⟨_, rfl, x, HC, dx, _, _, rfl, h1.hx, TH.cl, TH.n3, hsF_3 _ _ _ _, _, rfl, _, rfl, _, rfl, by show 3 ≤ sizeLine; decide, fun t ht => ?_⟩
      have S2 := Same.upd (o := .tup [.str n, .str wd, .str m]) ht
      have h2 := h1.same S2
      refine ⟨d3, _, rfl, DPut.t (k := triK (n, wd, m)) h2.h3 upd_same ?_, ?_⟩
      · unfold k3
        rw [List.length_map]
        exact Nat.lt_of_le_of_lt hts (by decide)
      · rw [put3]
        refine q _ (fun q o nq e => ?_) h2.put3
        rw [upd_ne nq]
        exact S2 _ _ (S1 _ _ e)
theorem scHta : FnScope ps4 ps4 (defScope sHta) := ⟨rfl, rfl, rfl, by decide +kernel, rfl, by decide +kernel, by decide +kernel⟩
theorem ok_tak {f HC S C D NH fH fR fI : Addr} {fd dR fdI : FuncData} (F : Fun K "take" "House.take" sHta f fd) (TH : TxH K mg HC fH) (mR : Meth K HC "refuse_strange" fR) (bR : Binds K dR ps4 []) (GR : FnOk P w K mg base (L2N.CX P w) 5 fR dR ps4 (spHrsX HC S C D)) (TE : ErrT K mg "NotHeld" "x" NH fI) (bI : Binds K fdI ps4 []) (GI : FnOk P w K mg base CX0 2 fI fdI ps4 (spE3 NH)) : FnOk P w K mg base (L2N.CX P w) 6 f fd ps4 (spTak HC S C D NH) := by
  refine okN F scHta (fun vs H Q E h => ?_) (fun cdv A outer s H vs Q E hr h => ?_)
  · obtain ⟨x, dx, sc, d1, d2, d3, n, wd, m, ss, ws, th, ts, rfl, _⟩ := h
    rfl
  · obtain ⟨x, dx, sc, d1, d2, d3, n, wd, m, ss, ws, th, ts, rfl, hh, q⟩ := h
    have hr3 : Room 3 _ := hr.mono (by decide)
    refine ⟨_, (pss_cons (ps_expr (pe_meth (pv 0) TH.cl mR GR hr bR .nil (L2N.passes_call (L2N.takes_of rfl rfl rfl rfl) (fun _ _ _ _ h => h)) (pa_cons (pv 1) (pa_cons (pv 2) (pa_cons (pv 3) pa_nil)))))
      (pss_cons (ps_if (pt_cmp (pc_dnotin (hu_of hr) (pe_tup (pa_cons (pv 1) (pa_cons (pv 2) (pa_cons (pv 3) pa_nil)))) (pe_fld (pv 0) rfl))) (pss_one (L2N.ps_raise rfl (L2N.takes_of rfl rfl rfl rfl) (pmkN_oex TE.o TE.iC TE.tI GI hr3 bI pass0 rfl TE.g (pa_cons (pv 1) (pa_cons (pv 2) (pa_cons (pv 3) pa_nil)))))) pss_nil)
      (pss_one (ps_ddelT (hu_of hr) (pe_fld (pv 0) rfl) (pe_tup (pa_cons (pv 1) (pa_cons (pv 2) (pa_cons (pv 3) pa_nil)))))))), ?_⟩
    refine ⟨_, rfl, x, dx, _, rfl, hh.hx, hsF_no (by decide +kernel) (by decide +kernel) (by decide +kernel) (by decide +kernel) _ _ _ _, _, rfl, _, rfl, _, rfl, x, dx, sc, d1, d2, d3, n, wd, m, ss, ws, th, ts, rfl, hh, ?_⟩
    revert q
    cases unk C D ws (nmL th) n wd m with
    | some u => exact fun q => q
    | none =>
      intro q H1 S1
      have q : if (n, wd, m) ∈ ts then _ else _ := q
      have h1 := hh.same S1
      refine ⟨_, rfl, _, rfl, _, rfl, by show 3 ≤ sizeLine; decide, fun t ht => ?_⟩
      have S2 := Same.upd (o := .tup [.str n, .str wd, .str m]) ht
      have h2 := h1.same S2
      refine ⟨_, rfl, x, HC, dx, _, _, rfl, h2.hx, TH.cl, TH.n3, hsF_3 _ _ _ _, ?_⟩
      refine ⟨d3, _, rfl, DGet.t (k := triK (n, wd, m)) h2.h3 upd_same, _, rfl, ?_⟩
      rw [is3]
      have S12 := S1.trans S2
      by_cases hm : (n, wd, m) ∈ ts
      · rw [if_pos hm] at q
        rw [decide_eq_true hm]
        refine iteF ?_
        refine ⟨_, rfl, x, HC, dx, _, _, rfl, h2.hx, TH.cl, TH.n3, hsF_3 _ _ _ _, _, rfl, _, rfl, _, rfl, by show 3 ≤ sizeLine; decide, fun t2 ht2 => ?_⟩
        have S3 := Same.upd (o := .tup [.str n, .str wd, .str m]) ht2
        have h3 := h2.same S3
        refine ⟨d3, _, triK (n, wd, m), t2, rfl, rfl, h3.h3, upd_same, by rw [is3]; exact decide_eq_true hm, ?_⟩
        rw [drop3]
        refine q _ (fun q o nq e => ?_) h3.put3
        rw [upd_ne nq]
        exact S3 _ _ (S12 _ _ e)
      · rw [if_neg hm] at q
        rw [decide_eq_false hm]
        refine iteT ⟨_, rfl, _, rfl, _, rfl, mk3 fun d H' nd S' e => q d H' (S12.free nd) (S12.trans S') e⟩
theorem scHho : FnScope ps4 ps4 (defScope sHho) := ⟨rfl, rfl, rfl, by decide +kernel, rfl, by decide +kernel, by decide +kernel⟩
theorem ok_hol {f HC S C D fH fR : Addr} {fd dR : FuncData} (F : Fun K "holds" "House.holds" sHho f fd) (TH : TxH K mg HC fH) (mR : Meth K HC "refuse_strange" fR) (bR : Binds K dR ps4 []) (GR : FnOk P w K mg base (L2N.CX P w) 5 fR dR ps4 (spHrsX HC S C D)) : FnOk P w K mg base (L2N.CX P w) 6 f fd ps4 (spHol HC S C D) := by
  refine okN F scHho (fun vs H Q E h => ?_) (fun cdv A outer s H vs Q E hr h => ?_)
  · obtain ⟨x, dx, sc, d1, d2, d3, n, wd, m, ss, ws, th, ts, rfl, _⟩ := h
    rfl
  · obtain ⟨x, dx, sc, d1, d2, d3, n, wd, m, ss, ws, th, ts, rfl, hh, q⟩ := h
    refine ⟨_, (pss_cons (ps_expr (pe_meth (pv 0) TH.cl mR GR hr bR .nil (L2N.passes_call (L2N.takes_of rfl rfl rfl rfl) (fun _ _ _ _ h => h)) (pa_cons (pv 1) (pa_cons (pv 2) (pa_cons (pv 3) pa_nil)))))
      (pss_one (ps_ret (pe_cmp (pc_din (hu_of hr) (pe_tup (pa_cons (pv 1) (pa_cons (pv 2) (pa_cons (pv 3) pa_nil)))) (pe_fld (pv 0) rfl)) rfl)))), ?_⟩
    refine ⟨_, rfl, x, dx, _, rfl, hh.hx, hsF_no (by decide +kernel) (by decide +kernel) (by decide +kernel) (by decide +kernel) _ _ _ _, _, rfl, _, rfl, _, rfl, x, dx, sc, d1, d2, d3, n, wd, m, ss, ws, th, ts, rfl, hh, ?_⟩
    revert q
    cases unk C D ws (nmL th) n wd m with
    | some u => exact fun q => q
    | none =>
      intro q H1 S1
      have h1 := hh.same S1
      refine ⟨_, rfl, _, rfl, _, rfl, by show 3 ≤ sizeLine; decide, fun t ht => ?_⟩
      have S2 := Same.upd (o := .tup [.str n, .str wd, .str m]) ht
      have h2 := h1.same S2
      refine ⟨_, rfl, x, HC, dx, _, _, rfl, h2.hx, TH.cl, TH.n3, hsF_3 _ _ _ _, ?_⟩
      refine ⟨d3, _, rfl, DGet.t (k := triK (n, wd, m)) h2.h3 upd_same, ?_⟩
      rw [is3]
      exact q _ (S1.trans S2)
theorem scHth : FnScope ["self"] ["self"] (defScope sHth) := ⟨rfl, rfl, rfl, by decide +kernel, rfl, by decide +kernel, by decide +kernel⟩
theorem ok_hth {f HC S fH : Addr} {fd : FuncData} (F : Fun K "things" "House.things" sHth f fd) (tl : mg "list" = none) (TH : TxH K mg HC fH) : FnOk P w K mg base CX0 1 f fd ["self"] (spHth HC S) := by
  refine F.ok scHth (fun vs H Q E h => ?_) (fun cdv A outer s H vs Q E hr h => ?_)
  · obtain ⟨x, dx, sc, d1, d2, d3, ss, ws, th, ts, rfl, _⟩ := h
    rfl
  · obtain ⟨x, dx, sc, d1, d2, d3, ss, ws, th, ts, rfl, hh, q⟩ := h
    refine ⟨_, (pss_one (ps_ret (pe_callTy (call_listD rfl) (by rfl) tl (by decide +kernel) (pa_cons (pe_fld (pv 0) rfl) pa_nil)))), ?_⟩
    refine ⟨_, rfl, x, HC, dx, _, _, rfl, hh.hx, TH.cl, TH.n1, hsF_1 _ _ _ _, d1, _, rfl, .inl hh.h1, fun l hl => ?_⟩
    have e : ((k1 th).map fun kv => kV kv.1) = (nmL th).map V.str := by
      unfold k1 nmL
      rw [List.map_map, List.map_map]
      rfl
    rw [e]
    exact q l hl
theorem scHhe : FnScope ["self"] ["self"] (defScope sHhe) := ⟨rfl, rfl, rfl, by decide +kernel, rfl, by decide +kernel, by decide +kernel⟩
theorem ok_hhe {f HC S fH : Addr} {fd : FuncData} (F : Fun K "held" "House.held" sHhe f fd) (tsr : mg "sorted" = none) (TH : TxH K mg HC fH) : FnOk P w K mg base CX0 1 f fd ["self"] (spHhe K HC S) := by
  refine F.ok scHhe (fun vs H Q E h => ?_) (fun cdv A outer s H vs Q E hr h => ?_)
  · obtain ⟨x, dx, sc, d1, d2, d3, ss, ws, th, ts, rfl, _⟩ := h
    rfl
  · obtain ⟨x, dx, sc, d1, d2, d3, ss, ws, th, ts, rfl, hh, q⟩ := h
    refine ⟨_, (pss_one (ps_ret (pe_callB (cr_sortTD rfl hr.units) (by rfl) tsr (by decide +kernel) (pa_cons (pe_fld (pv 0) rfl) pa_nil)))), ?_⟩
    exact ⟨_, rfl, x, HC, dx, _, _, rfl, hh.hx, TH.cl, TH.n3, hsF_3 _ _ _ _, d3, _, ts, rfl, hh.h3, keys3 ts, fun qs l hq hl => q qs l hq hl⟩
theorem scHen : FnScope ["self", "name", "sort", "awake"] ["self", "name", "sort", "awake"] (defScope sHen) := ⟨rfl, rfl, rfl, by decide +kernel, rfl, by decide +kernel, by decide +kernel⟩
theorem ok_hen {f HC S fH fS fN fO : Addr} {fd dN dO : FuncData} {dvs : List V} (F : FunD K "enter" "House.enter" (defArgs sHen) (defBody sHen) (defScope sHen) dvs [] f fd) (T : TxB mg) (MT : ∃ t, mg "MOST_THINGS" = some (.int 60 t)) (TH : TxH K mg HC fH) (DN : Dn K mg "refuse_no_name" sRN ["texts"] fN dN) (GN : FnOk P w K mg base CX0 2 fN dN ["texts"] (spRNv K))
    (TC : TxSch K mg S fS) (mO : Meth K S "sorts" fO) (bO : Binds K dO ["self"] []) (GO : FnOk P w K mg base CX0 1 fO dO ["self"] (spSor S)) : FnOk P w K mg base CX0 3 f fd ["self", "name", "sort", "awake"] (spHen HC S) := by
  refine F.ok scHen (fun vs H Q E h => ?_) (fun cdv A outer s H vs Q E hr h => ?_)
  · obtain ⟨x, dx, sc, d1, d2, d3, n, so, b, ss, ws, th, ts, rfl, _⟩ := h
    rfl
  · obtain ⟨x, dx, sc, d1, d2, d3, n, so, b, ss, ws, th, ts, rfl, hh, hn, hn12, hnew, hso, h60, q⟩ := h
    have hr1 : Room 1 _ := hr.mono (by decide)
    obtain ⟨t60, g60⟩ := MT
    refine ⟨_, (pss_cons (ps_expr (pe_call GN hr rfl DN.g DN.F.kp DN.b .nil pass0 (pa_cons (pe_lst (pa_cons (pv 1) pa_nil)) pa_nil)))
      (pss_cons (ps_if (pt_cmp (pc_din (hu_of hr) (pv 1) (pe_fld (pv 0) rfl))) (pss_one ps_never) pss_nil)
      (pss_cons (ps_if (pt_cmpR op_notIn_seq (pv 2) (pe_meth0 (pe_fld (pv 0) rfl) TC.cl mO GO hr1 bO .nil pass0) (by rfl)) (pss_one ps_never) pss_nil)
      (pss_cons (ps_if (pt_cmpR op_ge (pe_callB call_lenD (by rfl) T.len (by decide +kernel) (pa_cons (pe_fld (pv 0) rfl) pa_nil)) (pe_glob (v := .int 60) rfl g60 ⟨t60, rfl⟩) (nomark _)) (pss_one ps_never) pss_nil)
      (pss_cons (ps_dput (hu_of hr) (pe_fld (pv 0) rfl) (pv 1) (pv 2) rfl)
      (pss_one (ps_dput (hu_of hr) (pe_fld (pv 0) rfl) (pv 1) (pv 3) rfl))))))), ?_⟩
    refine ⟨_, rfl, by show 1 ≤ sizeLine; decide, fun l0 hl0 => ?_⟩
    refine ⟨l0, [n], rfl, SqL.of upd_same, fun z hz => by rw [List.mem_singleton.mp hz]; exact ⟨hn, hn12⟩, fun H1 S1 => ?_⟩
    have SA : Same H H1 := (Same.upd hl0).trans S1
    have h1 := hh.same SA
    refine ⟨_, rfl, _, rfl, x, HC, dx, _, _, rfl, h1.hx, TH.cl, TH.n1, hsF_1 _ _ _ _, d1, _, rfl, DGet.k (k := Sum.inr n) h1.h1, _, rfl, ?_⟩
    rw [is1, decide_eq_false hnew]
    refine iteF ?_
    obtain ⟨dy, l1, l2, l3, l4, l5, e1, e2, e3⟩ := h1.hs.ex
    refine ⟨_, rfl, _, rfl, x, HC, dx, _, _, rfl, h1.hx, TH.cl, TH.n0, hsF_sc _ _ _ _, sc, dy, _, rfl, e1, schF_no (by decide +kernel) (by decide +kernel) (by decide +kernel) (by decide +kernel) (by decide +kernel) _ _ _ _ _, sc, ss, ws, rfl, h1.hs, fun l hl => ?_⟩
    refine ⟨l, _, rfl, .inl (SqL.of upd_same), rfl, flats ss, _, rfl, ?_⟩
    show if (!inV (.str so) (ss.map V.str)) = true then _ else _
    rw [inV_strs, decide_eq_true hso]
    refine iteF ?_
    have SB : Same H1 (upd H1 l (.lst (ss.map V.str))) := Same.upd hl
    have h2 := h1.same SB
    have S02 := SA.trans SB
    generalize upd H1 l (.lst (ss.map V.str)) = H2 at SB h2 S02
    refine ⟨_, rfl, x, HC, dx, _, _, rfl, h2.hx, TH.cl, TH.n1, hsF_1 _ _ _ _, d1, _, rfl, h2.h1, _, _, rfl, rfl, _, rfl, ?_⟩
    have el : (k1 th).length = th.length := by unfold k1; rw [List.length_map]
    have el2 : (k2 th).length = th.length := by unfold k2; rw [List.length_map]
    refine ite2 (fun z => absurd (of_decide_eq_true z) (by rw [el]; omega)) (fun _ => ?_)
    have lt1 : (k1 th).length < sizeLine := Nat.lt_of_lt_of_le (by rw [el]; exact h60) (by decide)
    have lt2 : (k2 th).length < sizeLine := Nat.lt_of_lt_of_le (by rw [el2]; exact h60) (by decide)
    refine ⟨_, rfl, _, rfl, x, HC, dx, _, _, rfl, h2.hx, TH.cl, TH.n1, hsF_1 _ _ _ _, _, rfl, d1, _, rfl, DPut.k (k := Sum.inr n) h2.h1 lt1, ?_⟩
    rw [new1 (b := b) hnew]
    have ne1x : x ≠ d1 := ne_of h2.hx h2.h1 (by intro z; cases z)
    refine ⟨_, rfl, _, rfl, x, HC, dx, _, _, rfl, (upd_ne ne1x).trans h2.hx, TH.cl, TH.n2, hsF_2 _ _ _ _, _, rfl, d2, _, rfl, DPut.k (k := Sum.inr n) ((upd_ne hh.ne.symm).trans h2.h2) lt2, ?_⟩
    rw [new2 (s := so) hnew]
    have ne2x : x ≠ d2 := ne_of h2.hx h2.h2 (by intro z; cases z)
    have ne31 : d3 ≠ d1 := ne_of h2.h3 h2.h1 (by intro z; cases z)
    have ne32 : d3 ≠ d2 := ne_of h2.h3 h2.h2 (by intro z; cases z)
    refine q _ (fun z o n1 n2 e => by rw [upd_ne n2, upd_ne n1]; exact S02 _ _ e) ⟨?_, ?_, ?_, upd_same, ?_, hh.ne⟩
    · rw [upd_ne ne2x, upd_ne ne1x]
      exact h2.hx
    · have q1 := h2.hs.but (But.upd (o := .dK (k1 (th ++ [(n, so, b)])))) h2.h1 (fun _ _ _ z => by cases z) (fun _ z => by cases z)
      exact q1.but But.upd ((upd_ne hh.ne.symm).trans h2.h2) (fun _ _ _ z => by cases z) (fun _ z => by cases z)
    · rw [upd_ne hh.ne, upd_same]
    · rw [upd_ne ne32, upd_ne ne31]
      exact h2.h3
def spHln (HC S : Addr) : Sp := fun vs H Q _ => ∃ (x dx sc d1 d2 d3 : Addr) (ss ws : List Str) (th : List Thing) (ts : List T3), vs = [.ref x] ∧ HsAt HC S H x dx sc d1 d2 d3 ss ws th ts ∧ Q (.int th.length) H
def spHrt (HC S : Addr) : Sp := fun vs H Q _ => ∃ (x dx sc d1 d2 d3 : Addr) (n : Str) (ss ws : List Str) (th : List Thing) (ts : List T3), vs = [.ref x, .str n] ∧ HsAt HC S H x dx sc d1 d2 d3 ss ws th ts ∧ n ∈ nmL th ∧ Q .non H
def spHso (HC S : Addr) : Sp := fun vs H Q _ => ∃ (x dx sc d1 d2 d3 : Addr) (n s0 : Str) (ss ws : List Str) (th : List Thing) (ts : List T3), vs = [.ref x, .str n] ∧ HsAt HC S H x dx sc d1 d2 d3 ss ws th ts ∧ n ∈ nmL th ∧ srt th n = some s0 ∧ Q (.str s0) H
def spHia (HC S : Addr) : Sp := fun vs H Q _ => ∃ (x dx sc d1 d2 d3 : Addr) (n : Str) (b : Bool) (ss ws : List Str) (th : List Thing) (ts : List T3), vs = [.ref x, .str n] ∧ HsAt HC S H x dx sc d1 d2 d3 ss ws th ts ∧ n ∈ nmL th ∧ awk th n = some b ∧ Q (.bl b) H
theorem scHln : FnScope ["self"] ["self"] (defScope sHln) := ⟨rfl, rfl, rfl, by decide +kernel, rfl, by decide +kernel, by decide +kernel⟩
theorem ok_hln {f HC S fH : Addr} {fd : FuncData} (F : Fun K "__len__" "House.__len__" sHln f fd) (T : TxB mg) (TH : TxH K mg HC fH) : FnOk P w K mg base CX0 1 f fd ["self"] (spHln HC S) := by
  refine F.ok scHln (fun vs H Q E h => ?_) (fun cdv A outer s H vs Q E hr h => ?_)
  · obtain ⟨x, dx, sc, d1, d2, d3, ss, ws, th, ts, rfl, _⟩ := h
    rfl
  · obtain ⟨x, dx, sc, d1, d2, d3, ss, ws, th, ts, rfl, hh, q⟩ := h
    refine ⟨_, (pss_one (ps_ret (pe_callB call_lenD (by rfl) T.len (by decide +kernel) (pa_cons (pe_fld (pv 0) rfl) pa_nil)))), ?_⟩
    refine ⟨_, rfl, x, HC, dx, _, _, rfl, hh.hx, TH.cl, TH.n1, hsF_1 _ _ _ _, d1, _, rfl, hh.h1, ?_⟩
    have el : (k1 th).length = th.length := by unfold k1; rw [List.length_map]
    rw [el]
    exact q
theorem ok_hrt {f HC S fH : Addr} {fd : FuncData} (F : Fun K "refuse_no_thing" "House.refuse_no_thing" sHrt f fd) (TH : TxH K mg HC fH) : FnOk P w K mg base CX0 1 f fd ["self", "name"] (spHrt HC S) := by
  refine F.ok scHrt (fun vs H Q E h => ?_) (fun cdv A outer s H vs Q E hr h => ?_)
  · obtain ⟨x, dx, sc, d1, d2, d3, n, ss, ws, th, ts, rfl, _⟩ := h
    rfl
  · obtain ⟨x, dx, sc, d1, d2, d3, n, ss, ws, th, ts, rfl, hh, hn, q⟩ := h
    refine ⟨_, (pss_one (ps_if (pt_cmp (pc_dnotin (hu_of hr) (pv 1) (pe_fld (pv 0) rfl))) (pss_one ps_never) pss_nil)), ?_⟩
    refine ⟨_, rfl, _, rfl, x, HC, dx, _, _, rfl, hh.hx, TH.cl, TH.n1, hsF_1 _ _ _ _, d1, _, rfl, DGet.k (k := Sum.inr n) hh.h1, _, rfl, ?_⟩
    rw [is1, decide_eq_true hn]
    exact iteF q
theorem scHso : FnScope ["self", "x"] ["self", "x"] (defScope sHso) := ⟨rfl, rfl, rfl, by decide +kernel, rfl, by decide +kernel, by decide +kernel⟩
theorem ok_hso {f HC S fH fR : Addr} {fd dR : FuncData} (F : Fun K "sort_of" "House.sort_of" sHso f fd) (TH : TxH K mg HC fH) (mR : Meth K HC "refuse_no_thing" fR) (bR : Binds K dR ["self", "name"] []) (GR : FnOk P w K mg base CX0 1 fR dR ["self", "name"] (spHrt HC S)) : FnOk P w K mg base CX0 2 f fd ["self", "x"] (spHso HC S) := by
  refine F.ok scHso (fun vs H Q E h => ?_) (fun cdv A outer s H vs Q E hr h => ?_)
  · obtain ⟨x, dx, sc, d1, d2, d3, n, s0, ss, ws, th, ts, rfl, _⟩ := h
    rfl
  · obtain ⟨x, dx, sc, d1, d2, d3, n, s0, ss, ws, th, ts, rfl, hh, hn, hs, q⟩ := h
    refine ⟨_, (pss_cons (ps_expr (pe_meth (pv 0) TH.cl mR GR hr bR .nil pass0 (pa_cons (pv 1) pa_nil))) (pss_one (ps_ret (pe_dget (hu_of hr) (pe_fld (pv 0) rfl) (pv 1) (fun _ _ => rfl))))), ?_⟩
    refine ⟨_, rfl, x, dx, _, rfl, hh.hx, hsF_no (by decide +kernel) (by decide +kernel) (by decide +kernel) (by decide +kernel) _ _ _ _, _, rfl, x, dx, sc, d1, d2, d3, n, ss, ws, th, ts, rfl, hh, hn, ?_⟩
    refine ⟨_, rfl, x, HC, dx, _, _, rfl, hh.hx, TH.cl, TH.n1, hsF_1 _ _ _ _, _, rfl, d1, .str s0, rfl, ?_, q⟩
    have e : valV (k1 th) (Sum.inr n) = some (.str s0) := by rw [val1s, hs]; rfl
    rw [← e]
    exact DGet.k (k := Sum.inr n) hh.h1
theorem scHia : FnScope ["self", "x"] ["self", "x"] (defScope sHia) := ⟨rfl, rfl, rfl, by decide +kernel, rfl, by decide +kernel, by decide +kernel⟩
theorem ok_hia {f HC S fH fR : Addr} {fd dR : FuncData} (F : Fun K "is_awake" "House.is_awake" sHia f fd) (TH : TxH K mg HC fH) (mR : Meth K HC "refuse_no_thing" fR) (bR : Binds K dR ["self", "name"] []) (GR : FnOk P w K mg base CX0 1 fR dR ["self", "name"] (spHrt HC S)) : FnOk P w K mg base CX0 2 f fd ["self", "x"] (spHia HC S) := by
  refine F.ok scHia (fun vs H Q E h => ?_) (fun cdv A outer s H vs Q E hr h => ?_)
  · obtain ⟨x, dx, sc, d1, d2, d3, n, b, ss, ws, th, ts, rfl, _⟩ := h
    rfl
  · obtain ⟨x, dx, sc, d1, d2, d3, n, b, ss, ws, th, ts, rfl, hh, hn, hb, q⟩ := h
    refine ⟨_, (pss_cons (ps_expr (pe_meth (pv 0) TH.cl mR GR hr bR .nil pass0 (pa_cons (pv 1) pa_nil))) (pss_one (ps_ret (pe_dget (hu_of hr) (pe_fld (pv 0) rfl) (pv 1) (fun _ _ => rfl))))), ?_⟩
    refine ⟨_, rfl, x, dx, _, rfl, hh.hx, hsF_no (by decide +kernel) (by decide +kernel) (by decide +kernel) (by decide +kernel) _ _ _ _, _, rfl, x, dx, sc, d1, d2, d3, n, ss, ws, th, ts, rfl, hh, hn, ?_⟩
    refine ⟨_, rfl, x, HC, dx, _, _, rfl, hh.hx, TH.cl, TH.n2, hsF_2 _ _ _ _, _, rfl, d2, .bl b, rfl, ?_, q⟩
    have e : valV (k2 th) (Sum.inr n) = some (.bl b) := by rw [val2, hb]; rfl
    rw [← e]
    exact DGet.k (k := Sum.inr n) hh.h2
end
end Wm
namespace Wm
open L2 PySem PySem.W
/-- a def to which a caught error is handed within the suite that caught it -/
structure FnEN (P : Program) (w : World) (K : Frag) (mg : Str → Option Value) (base : Heap) (k : Nat) (f : Addr) (fd : FuncData) (ps : List Str)
    (sp : Addr → Value → Option Addr → Sp) : Prop where
  len : ∀ a cls d vs H Q E, sp a cls d vs H Q E → vs.length = ps.length
  run : ∀ (A : Around) (outer : List Env) (s : Shared) (H : Hp) (args : Args) (us : List Value) (vs : List V) (Q : VK) (E : XK) (a : Addr) (oe : Obj) (cls : Value) (d : Option Addr),
    L2H.RoomH k A → A.handled = some (.ref a) → L2N.Zn cls d oe → (∃ vs, oe.data = .fields vs) → L2H.PinOk outer H s (a, oe) → Env0 P w K mg base A outer s H →
    BindsTo s fd args (ps.zip us) → Vals vs us → sp a cls d vs H Q E → codeAny (model P w) A (.call (.ref f) args) (CR CX0 outer P w H s Q E) s
theorem fn_ofEN {P : Program} {w : World} {K : Frag} {mg : Str → Option Value} {base : Heap} {k : Nat} {f : Addr} {name qual : Str} {params : Arguments} {body : List Stmt} {scope : Scope}
    {dV kV doc pm cdv ct oc : Value} {an od : Option Addr} {osl : Array (Option Value)} {N ps : List Str} {sp : Addr → Value → Option Addr → Sp}
    (lk : List.lookup f K = some { cls := oc, dict := od, data := .func (fnOf name qual params body scope dV kV doc pm an cdv ct), slots := osl })
    (hcd : codeIn K cdv qual = true) (S : FnScope N ps scope)
    (len : ∀ a cls d vs H Q E, sp a cls d vs H Q E → vs.length = ps.length)
    (hbody : ∀ (A : Around) (outer : List Env) (s : Shared) (H : Hp) (vs : List V) (Q : VK) (E : XK) (a : Addr) (oe : Obj) (cls : Value) (d : Option Addr),
      L2N.Zn cls d oe → (∃ vs, oe.data = .fields vs) → L2H.RoomH k (A.deeper (PyProof.Rows.envOfC qual scope s.heap.objs.size f cdv)) → sp a cls d vs H Q E →
      ∃ t, PSs ((cxOf CX0 P w K mg base N qual scope f cdv A outer s H E).suite a [(a, oe)]) body t ∧ t { nx := fun _ H' => Q .non H', rt := Q } (L2.start N vs) H) :
    FnEN P w K mg base (k + 1) f (fnOf name qual params body scope dV kV doc pm an cdv ct) ps sp where
  len := len
  run := by
    intro A outer s H args us vs Q E a oe cls d hr hh hz hf hpin e0 hb r hsp
    have KX := Frag.In.keeps e0.mod.kin fun b o e => (e0.bs b o e).1
    have lim := Heap.NoLimit.keeps e0.mod.nolimit fun b o e => (e0.bs b o e).1
    refine codeAny_call_function hr.depth (KX f _ lk) rfl S.co S.gen rfl (codeRec_of KX hcd) (hb _ A.in1 _ _ (wpAny_newFunctionEnv_cells S.kind ?_ ?_))
    · rintro ⟨n, v⟩ hy
      rcases S.par n (List.of_mem_zip hy).1 with q | q
      · exact Or.inl q
      · exact Or.inr ⟨q, cellsFrom_some scope.names (s.heap.objs.size + 1) [] (Or.inl q)⟩
    · intro env he s1 x
      subst he
      refine ⟨Heap.NoLimit.keeps lim x.toInCall.keep, codeAny_func ?_⟩
      obtain ⟨t, ht, hq⟩ := hbody A outer s H vs Q E a oe cls d hz hf (L2H.RoomH.deeper hr _) hsp
      have I := L2H.inv_startH (CX := CX0) (E := E) S hpin e0 (len _ _ _ _ _ _ _ hsp) r x
      have hm : (A.deeper (PyProof.Rows.envOfC qual scope s.heap.objs.size f cdv)).mark (some (.ref a)) = A.deeper (PyProof.Rows.envOfC qual scope s.heap.objs.size f cdv) := mark_self hh
      have o := I.ok
      have I2 : Inv ((cxOf CX0 P w K mg base N qual scope f cdv A outer s H E).suite a [(a, oe)]) [] (L2.start N vs) H s1 :=
        ⟨⟨o.mod, o.kind, o.glob, o.blt, o.above, o.inj, o.has, o.cab, (fun h => by cases h), o.frames, o.stk, o.exf, o.bs, o.bsz, o.noex, o.exfs, o.funs, o.frf⟩,
          I.os, I.bare, I.base, I.loc, I.cell, I.free, I.freeC, I.pin, I.hok, I.len⟩
      have go := ht.run [] s1 (L2.start N vs) H { nx := fun _ H' => Q .non H', rt := Q } I2 hq
      dsimp only [Cx.suite, cxOf] at go
      rw [hm] at go
      refine wpAny_mono go (fun fl s' hs => ?_) fun e s' hs => hs.elim
      cases fl with
      | next =>
        obtain ⟨σ', H', J, q⟩ := hs
        exact ⟨.non, H', J.os, J.bare, J.base, J.hok, rfl, q⟩
      | brk =>
        obtain ⟨_, _, _, q⟩ := hs
        exact q.elim
      | cont =>
        obtain ⟨_, _, _, q⟩ := hs
        exact q.elim
      | ret u =>
        obtain ⟨v, σ', H', J, rv, q⟩ := hs
        exact ⟨v, H', J.os, J.bare, J.base, J.hok, rv, q⟩
theorem FunEN_ok {P : Program} {w : World} {K : Frag} {mg : Str → Option Value} {base : Heap} {x qual : Str} {st : Stmt} {f : Addr} {fd : FuncData} {N ps : List Str} {k : Nat} {sp : Addr → Value → Option Addr → Sp}
    (F : Fun K x qual st f fd) (S : FnScope N ps (defScope st))
    (len : ∀ a cls d vs H Q E, sp a cls d vs H Q E → vs.length = ps.length)
    (hbody : ∀ (cdv : Value) (A : Around) (outer : List Env) (s : Shared) (H : Hp) (vs : List V) (Q : VK) (E : XK) (a : Addr) (oe : Obj) (cls : Value) (d : Option Addr),
      L2N.Zn cls d oe → (∃ vs, oe.data = .fields vs) → L2H.RoomH k (A.deeper (PyProof.Rows.envOfC qual (defScope st) s.heap.objs.size f cdv)) → sp a cls d vs H Q E →
      ∃ t, PSs ((cxOf CX0 P w K mg base N qual (defScope st) f cdv A outer s H E).suite a [(a, oe)]) (defBody st) t ∧ t { nx := fun _ H' => Q .non H', rt := Q } (L2.start N vs) H) :
    FnEN P w K mg base (k + 1) f fd ps sp := by
  obtain ⟨oc, od, kV, doc, pm, an, cdv, ct, osl, rfl, lk, hcd⟩ := F.ex
  exact fn_ofEN lk hcd S len fun A outer s H vs Q E a oe cls d hz hf hr hsp => hbody cdv A outer s H vs Q E a oe cls d hz hf hr hsp
theorem pe_callEN {X : Cx} {k : Nat} {f : Addr} {fd : FuncData} {ps : List Str} {sp : Addr → Value → Option Addr → Sp} {a : Addr} {oe : Obj} {cls : Value} {d : Option Addr} {pn : List (Addr × Obj)}
    {x : Str} {q pos : Pos} {e : Expr} {es : List Expr} {t : TA}
    (F : FnEN X.prog X.w X.K X.mg X.base k f fd ps sp) (hr : L2H.RoomH k X.A) (hz : L2N.Zn cls d oe) (hf : ∃ vs, oe.data = .fields vs) (hg : Gl X x) (hm : X.mg x = some (.ref f))
    (hk : keepIn X.K (.ref f) = true) (hb : L2.Binds X.K fd ps []) (ha : PA (X.suite a ((a, oe) :: pn)) (e :: es) t)
    (hdb : (x == Str.ofString "__debug__") = false := by rfl) (he : starEach (e :: es) X.env = (false, eval e X.env) :: starEach es X.env := by rfl)
    (hpl : ((backTo pos (starEach es X.env)).any fun x => x.1) = false := by rfl) :
    PE (X.suite a ((a, oe) :: pn)) (.Call (.Name x q) (e :: es) [] pos) (tCallE (sp a cls d) t) where
  run := by
    intro pins s σ H Q I h
    refine wpAny_Call_Name_kw (ld_glob I hg hm (callWith_K I.ok.mod.kin hk (thn (ha.run pos pins s σ H _ I h) ?_) he hpl) hdb)
    rintro us s1 ⟨vs, H1, I1, r, h1⟩
    refine ⟨I1.kIn, ?_⟩
    have P1 := I1.pin (a, oe) (List.mem_append_left _ (List.mem_cons_self ..))
    have hp : L2H.PinOk X.stack H1 s1 (a, oe) := ⟨P1.1, P1.2.1, fun hx => (List.mem_cons.mp (I1.stkSub a hx)).elim P1.2.2.1 P1.2.2.2.1, P1.2.2.2.2⟩
    have hl : (us ++ []).length = ps.length := by rw [List.append_nil, ← r.length]; exact F.len _ _ _ _ _ _ _ h1
    have b := hb s1 us I1.kIn hl
    rw [List.append_nil] at b
    have hr2 : L2H.RoomH k (X.suite a ((a, oe) :: pn)).A := ⟨hr.dp, hr.un⟩
    refine wpAny_call (codeAny_mono (F.run (X.suite a ((a, oe) :: pn)).A X.stack s1 H1 ⟨us, []⟩ us vs Q _ a oe cls d hr2 rfl hz hf hp I1.env0 b r h1) fun r s' hq => ?_)
    cases r with
    | error e => exact hq.elim
    | ok fl =>
      cases fl with
      | next => exact hq.elim
      | brk => exact hq.elim
      | cont => exact hq.elim
      | ret u => exact I1.after hq
end Wm
namespace Wm
open PySem L2 StX
def rIsG (K : PySem.W.Frag) (cls : Value) (d : Option Addr) (a : Addr) : List V → Hp → VK → Prop := fun xs H Q => ∃ (D dd : Addr), cls = .ref D ∧ d = some dd ∧ ExcC K D ∧ rIsX K D a dd xs H Q
theorem call_isG {X : Cx} {a : Addr} {cls : Value} {d : Option Addr} {oe : Obj} {pn : List (Addr × Obj)} (hz : Zc cls d oe) (hf : ∃ vs, oe.data = .fields vs) : CallR (X.suite a ((a, oe) :: pn)) (.builtin "isinstance") (rIsG X.K cls d a) := by
  intro pins s σ H xs us Q I r h
  obtain ⟨D, dd, rfl, rfl, C, h⟩ := h
  exact call_isX C hz hf pins s σ H xs us Q I r h
/-- an error class, as the law's told asks for it: which of the twelve it is -/
structure ErK (K : PySem.W.Frag) (Z C0 C1 C2 C3 C4 C5 C6 C7 C8 C9 C10 C11 W : Addr) (i : Nat) : Prop where
  te : PySem.W.exmOne K (.ref Z) (.ref W) = some true
  xf : XfC K Z
  xc : ExcC K Z
  k0 : PySem.W.kitOne K (.ref Z) (.ref C0) = some (decide (i = 0))
  k1 : PySem.W.kitOne K (.ref Z) (.ref C1) = some (decide (i = 1))
  k2 : PySem.W.kitOne K (.ref Z) (.ref C2) = some (decide (i = 2))
  k3 : PySem.W.kitOne K (.ref Z) (.ref C3) = some (decide (i = 3))
  k4 : PySem.W.kitOne K (.ref Z) (.ref C4) = some (decide (i = 4))
  k5 : PySem.W.kitOne K (.ref Z) (.ref C5) = some (decide (i = 5))
  k6 : PySem.W.kitOne K (.ref Z) (.ref C6) = some (decide (i = 6))
  k7 : PySem.W.kitOne K (.ref Z) (.ref C7) = some (decide (i = 7))
  k8 : PySem.W.kitOne K (.ref Z) (.ref C8) = some (decide (i = 8))
  k9 : PySem.W.kitOne K (.ref Z) (.ref C9) = some (decide (i = 9))
  k10 : PySem.W.kitOne K (.ref Z) (.ref C10) = some (decide (i = 10))
  k11 : PySem.W.kitOne K (.ref Z) (.ref C11) = some (decide (i = 11))
  kv : PySem.W.kitOne K (.ref Z) (.type "ValueError") = some true
structure TxE (K : PySem.W.Frag) (mg : Str → Option Value) (C0 C1 C2 C3 C4 C5 C6 C7 C8 C9 C10 C11 W : Addr) : Prop where
  g0 : mg "NoName" = some (.ref C0)
  g1 : mg "Taken" = some (.ref C1)
  g2 : mg "NoSort" = some (.ref C2)
  g3 : mg "NoThing" = some (.ref C3)
  g4 : mg "NoWord" = some (.ref C4)
  g5 : mg "Asleep" = some (.ref C5)
  g6 : mg "NoRule" = some (.ref C6)
  g7 : mg "Misfit" = some (.ref C7)
  g8 : mg "Full" = some (.ref C8)
  g9 : mg "NotHeld" = some (.ref C9)
  g10 : mg "NoMaking" = some (.ref C10)
  g11 : mg "NoDeed" = some (.ref C11)
  gW : mg "WhoError" = some (.ref W)
  er : ∀ {i : Nat} {Z : Addr}, ([C0, C1, C2, C3, C4, C5, C6, C7, C8, C9, C10, C11] : List Addr)[i]? = some Z → ErK K Z C0 C1 C2 C3 C4 C5 C6 C7 C8 C9 C10 C11 W i
  nn : ∀ {i : Nat} {Z : Addr}, i < 8 → ([C0, C1, C2, C3, C4, C5, C6, C7, C8, C9, C10, C11] : List Addr)[i]? = some Z → PySem.W.findIn K (.ref Z) "name" = some none
  x9 : XfC K C9
  n9_x : PySem.W.findIn K (.ref C9) "x" = some none
  n9_word : PySem.W.findIn K (.ref C9) "word" = some none
  n9_y : PySem.W.findIn K (.ref C9) "y" = some none
  x10 : XfC K C10
  n10_maker : PySem.W.findIn K (.ref C10) "maker" = some none
  n10_made : PySem.W.findIn K (.ref C10) "made" = some none
  x11 : XfC K C11
  n11_word : PySem.W.findIn K (.ref C11) "word" = some none
/-- what is refused -/
inductive Rf where
  | one (i : Nat) (z : Str)
  | full
  | held (x w y : Str)
  | mkg (x y : Str)
  | deed (z : Str)
def kds : List Str := ["noname", "taken", "nosort", "nothing", "noword", "asleep", "norule", "misfit"]
def kdOf (i : Nat) : Str := kds.getD i ""
def ixOf : Rf → Nat
  | .one i _ => i
  | .full => 8
  | .held _ _ _ => 9
  | .mkg _ _ => 10
  | .deed _ => 11
def ef0 : List (Str × V) := [("kind", .str "full")]
def ef2 (u v : V) : List (Str × V) := [("made", v), ("maker", u), ("kind", .str "nomaking")]
def fsOf : Rf → List (Str × V)
  | .one i z => ef1 "name" (kdOf i) (.str z)
  | .full => ef0
  | .held x w y => ef3 (.str x) (.str w) (.str y)
  | .mkg x y => ef2 (.str x) (.str y)
  | .deed z => ef1 "word" "nodeed" (.str z)
def tupOf : Rf → List V
  | .one i z => [.str (kdOf i), .str z]
  | .full => [.str "full"]
  | .held x w y => [.str "notheld", .str x, .str w, .str y]
  | .mkg x y => [.str "nomaking", .str x, .str y]
  | .deed z => [.str "nodeed", .str z]
def Rf.ok : Rf → Prop
  | .one i _ => i < 8
  | _ => True
def spTld (e : List Addr) : Addr → Value → Option Addr → Sp := fun a cls d vs H Q _ => vs = [.ref a] ∧ ∃ (dd : Addr) (r : Rf), d = some dd ∧ (∃ Z, cls = .ref Z ∧ e[ixOf r]? = some Z) ∧ r.ok ∧ H dd = some (.xd (fsOf r)) ∧ ∀ t H', Same H H' → H t = none → H' t = some (.tup (tupOf r)) → Q (.ref t) H'
def b2i (b : Bool) : Int := if b then 1 else 0
section
variable {P : Program} {w : World} {K : PySem.W.Frag} {mg : Str → Option Value} {base : Heap}
theorem scTld : FnScope ["_law_e", "_law_some", "_law_names_here", "_law_at", "_law_one"] ["_law_e"] (defScope sTld) := ⟨rfl, rfl, rfl, by decide +kernel, rfl, by decide +kernel, by decide +kernel⟩
theorem ok_tld {f C0 C1 C2 C3 C4 C5 C6 C7 C8 C9 C10 C11 W : Addr} {fd : FuncData} (F : Fun K "_law_told" "_law_told" sTld f fd) (T : TxB mg) (tsum : mg "sum" = none) (TE : TxE K mg C0 C1 C2 C3 C4 C5 C6 C7 C8 C9 C10 C11 W) : FnEN P w K mg base 1 f fd ["_law_e"] (spTld [C0, C1, C2, C3, C4, C5, C6, C7, C8, C9, C10, C11]) := by
  refine FunEN_ok F scTld (fun a cls d vs H Q E h => ?_) (fun cdv A outer s H vs Q E a oe cls d hz hf hr h => ?_)
  · obtain ⟨rfl, _⟩ := h
    rfl
  · obtain ⟨rfl, dd, r, rfl, ⟨Z, hcl, hZ⟩, rok, h⟩ := h
    obtain ⟨vf, hv⟩ := id hf
    have hn : vf[2]? = some .none := hz.2.2 vf hv
    have go : ∀ {Z Y : Addr} {i : Nat} {fs : List (Str × V)}, cls = .ref Z → H dd = some (.xd fs) → ErK K Z C0 C1 C2 C3 C4 C5 C6 C7 C8 C9 C10 C11 W i → XfC K Y → PySem.W.findIn K (.ref Y) "name" = some none → (([decide (i = 0), decide (i = 1), decide (i = 2), decide (i = 3), decide (i = 4), decide (i = 5), decide (i = 6), decide (i = 7), decide (i = 8), decide (i = 9), decide (i = 10), decide (i = 11)] : List Bool).map b2i).sum = 1 → ([.bl (decide (i = 0)), .bl (decide (i = 1)), .bl (decide (i = 2)), .bl (decide (i = 3)), .bl (decide (i = 4)), .bl (decide (i = 5)), .bl (decide (i = 6)), .bl (decide (i = 7)), .bl (decide (i = 8)), .bl (decide (i = 9)), .bl (decide (i = 10)), .bl (decide (i = 11))] : List V)[i]? = some (.bl true) →
        (∀ (m : Nat) (z' : V), m < i → ([.bl (decide (i = 0)), .bl (decide (i = 1)), .bl (decide (i = 2)), .bl (decide (i = 3)), .bl (decide (i = 4)), .bl (decide (i = 5)), .bl (decide (i = 6)), .bl (decide (i = 7)), .bl (decide (i = 8)), .bl (decide (i = 9)), .bl (decide (i = 10)), .bl (decide (i = 11))] : List V)[m]? = some z' → eqV z' (.bl true) = false) → i < 12 →
        ((i < 8 ∧ cls = .ref Y ∧ ∃ (u : V) (kd : Str), ([.str "noname", .str "taken", .str "nosort", .str "nothing", .str "noword", .str "asleep", .str "norule", .str "misfit"] : List V)[i]? = some (.str kd) ∧ fs.lookup ("name" : Str) = some u ∧ ∀ t H'', Same H H'' → H t = none → H'' t = some (.tup [.str kd, u]) → Q (.ref t) H'')
          ∨ (i = 8 ∧ ∀ t H'', Same H H'' → H t = none → H'' t = some (.tup [.str "full"]) → Q (.ref t) H'')
          ∨ (i = 9 ∧ cls = .ref C9 ∧ ∃ x w y : V, fs.lookup ("x" : Str) = some x ∧ fs.lookup ("word" : Str) = some w ∧ fs.lookup ("y" : Str) = some y ∧ ∀ t H'', Same H H'' → H t = none → H'' t = some (.tup [.str "notheld", x, w, y]) → Q (.ref t) H'')
          ∨ (i = 10 ∧ cls = .ref C10 ∧ ∃ x y : V, fs.lookup ("maker" : Str) = some x ∧ fs.lookup ("made" : Str) = some y ∧ ∀ t H'', Same H H'' → H t = none → H'' t = some (.tup [.str "nomaking", x, y]) → Q (.ref t) H'')
          ∨ (i = 11 ∧ cls = .ref C11 ∧ ∃ x : V, fs.lookup ("word" : Str) = some x ∧ ∀ t H'', Same H H'' → H t = none → H'' t = some (.tup [.str "nodeed", x]) → Q (.ref t) H'')) →
        ∃ t, PSs ((cxOf CX0 P w K mg base ["_law_e", "_law_some", "_law_names_here", "_law_at", "_law_one"] "_law_told" (defScope sTld) f cdv A outer s H E).suite a [(a, oe)]) (defBody sTld) t ∧ t { nx := fun _ H' => Q .non H', rt := Q } (L2.start ["_law_e", "_law_some", "_law_names_here", "_law_at", "_law_one"] [.ref a]) H := by
      intro Z Y i fs hcls hx EZ xY nY one iT iF i9 rest
      refine ⟨_, (pss_cons (ps_set (i := 1) scTld.nd rfl (Or.inl rfl) (pe_lst (pa_cons (pe_callB (call_isG hz.zc hf) (by rfl) T.isinstance (by decide +kernel) (pa_cons (pv 0) (pa_cons (pe_glob (v := .ref C0) (by rfl) TE.g0 rfl) pa_nil))) (pa_cons (pe_callB (call_isG hz.zc hf) (by rfl) T.isinstance (by decide +kernel) (pa_cons (pv 0) (pa_cons (pe_glob (v := .ref C1) (by rfl) TE.g1 rfl) pa_nil))) (pa_cons (pe_callB (call_isG hz.zc hf) (by rfl) T.isinstance (by decide +kernel) (pa_cons (pv 0) (pa_cons (pe_glob (v := .ref C2) (by rfl) TE.g2 rfl) pa_nil))) (pa_cons (pe_callB (call_isG hz.zc hf) (by rfl) T.isinstance (by decide +kernel) (pa_cons (pv 0) (pa_cons (pe_glob (v := .ref C3) (by rfl) TE.g3 rfl) pa_nil))) pa_nil))))))
      (pss_cons (ps_set (i := 1) scTld.nd rfl (Or.inl rfl) (pe_op op_cat (pv 1) (pe_lst (pa_cons (pe_callB (call_isG hz.zc hf) (by rfl) T.isinstance (by decide +kernel) (pa_cons (pv 0) (pa_cons (pe_glob (v := .ref C4) (by rfl) TE.g4 rfl) pa_nil))) (pa_cons (pe_callB (call_isG hz.zc hf) (by rfl) T.isinstance (by decide +kernel) (pa_cons (pv 0) (pa_cons (pe_glob (v := .ref C5) (by rfl) TE.g5 rfl) pa_nil))) (pa_cons (pe_callB (call_isG hz.zc hf) (by rfl) T.isinstance (by decide +kernel) (pa_cons (pv 0) (pa_cons (pe_glob (v := .ref C6) (by rfl) TE.g6 rfl) pa_nil))) (pa_cons (pe_callB (call_isG hz.zc hf) (by rfl) T.isinstance (by decide +kernel) (pa_cons (pv 0) (pa_cons (pe_glob (v := .ref C7) (by rfl) TE.g7 rfl) pa_nil))) pa_nil)))))))
      (pss_cons (ps_set (i := 1) scTld.nd rfl (Or.inl rfl) (pe_op op_cat (pv 1) (pe_lst (pa_cons (pe_callB (call_isG hz.zc hf) (by rfl) T.isinstance (by decide +kernel) (pa_cons (pv 0) (pa_cons (pe_glob (v := .ref C8) (by rfl) TE.g8 rfl) pa_nil))) (pa_cons (pe_callB (call_isG hz.zc hf) (by rfl) T.isinstance (by decide +kernel) (pa_cons (pv 0) (pa_cons (pe_glob (v := .ref C9) (by rfl) TE.g9 rfl) pa_nil))) (pa_cons (pe_callB (call_isG hz.zc hf) (by rfl) T.isinstance (by decide +kernel) (pa_cons (pv 0) (pa_cons (pe_glob (v := .ref C10) (by rfl) TE.g10 rfl) pa_nil))) (pa_cons (pe_callB (call_isG hz.zc hf) (by rfl) T.isinstance (by decide +kernel) (pa_cons (pv 0) (pa_cons (pe_glob (v := .ref C11) (by rfl) TE.g11 rfl) pa_nil))) pa_nil)))))))
      (pss_cons (ps_if (PW.pt (pw_or (pt_cmpR op_ne (pe_callB (cr_sumH hv hn) (by rfl) tsum (by decide +kernel) (pa_cons (pe_lcH (own := [("_law_one", 4)]) (g := gName 4) rfl List.mem_cons_self hv hn scTld.nd (pv 1) (blkOk_by (N := ["_law_e", "_law_some", "_law_names_here", "_law_at", "_law_one"]) (sc := defScope sTld) (by decide +kernel)) (fun _ _ _ _ _ => (pg_name (i := 4) scTld.nd rfl (Or.inl rfl))) (fun _ _ _ _ _ => (pe_callTy call_int1 (by rfl) T.int (by decide +kernel) (pa_cons (pv 4) pa_nil)))) pa_nil)) pe_int (nomark _)) (pw_or1 (pt_not (pt_val (pe_callB (call_isG hz.zc hf) (by rfl) T.isinstance (by decide +kernel) (pa_cons (pv 0) (pa_cons (pe_bltn (v := .ty "ValueError") (by rfl) T.ve (by decide +kernel) rfl) pa_nil)))))))) (pss_one (ps_ret (pe_tup (pa_cons pe_str pa_nil)))) pss_nil)
      (pss_cons (ps_set (i := 2) scTld.nd rfl (Or.inl rfl) (pe_lst (pa_cons pe_str (pa_cons pe_str (pa_cons pe_str (pa_cons pe_str (pa_cons pe_str (pa_cons pe_str (pa_cons pe_str (pa_cons pe_str pa_nil))))))))))
      (pss_cons (ps_set (i := 3) scTld.nd rfl (Or.inl rfl) (pe_bm PySem.F.plainAttrs_list PySem.F.slot_list_index PySem.F.type_list_index mt_index (pv 1) (pa_cons pe_bl pa_nil)))
      (pss_cons (ps_if (pt_cmpR op_lt (pv 3) pe_int (nomark _)) (pss_one (ps_ret (pe_tup (pa_cons (pe_ix ix_list (pv 2) (pv 3) (fun _ _ => rfl)) (pa_cons (pe_xf xY nY hz.zc hf (pv 0)) pa_nil))))) pss_nil)
      (pss_cons (ps_if (pt_cmpR op_eq (pv 3) pe_int (nomark _)) (pss_one (ps_ret (pe_tup (pa_cons pe_str (pa_cons (pe_xf TE.x9 TE.n9_x hz.zc hf (pv 0)) (pa_cons (pe_xf TE.x9 TE.n9_word hz.zc hf (pv 0)) (pa_cons (pe_xf TE.x9 TE.n9_y hz.zc hf (pv 0)) pa_nil))))))) pss_nil)
      (pss_cons (ps_if (pt_cmpR op_eq (pv 3) pe_int (nomark _)) (pss_one (ps_ret (pe_tup (pa_cons pe_str (pa_cons (pe_xf TE.x10 TE.n10_maker hz.zc hf (pv 0)) (pa_cons (pe_xf TE.x10 TE.n10_made hz.zc hf (pv 0)) pa_nil)))))) pss_nil)
      (pss_cons (ps_if (pt_cmpR op_eq (pv 3) pe_int (nomark _)) (pss_one (ps_ret (pe_tup (pa_cons pe_str (pa_cons (pe_xf TE.x11 TE.n11_word hz.zc hf (pv 0)) pa_nil))))) pss_nil)
      (pss_one (ps_ret (pe_tup (pa_cons pe_str pa_nil)))))))))))))), ?_⟩
      refine ⟨_, rfl, Z, dd, hcls, rfl, EZ.xc, _, _, _, _, rfl, hx, (fun u r => r), EZ.k0, ?_⟩
      refine ⟨_, rfl, Z, dd, hcls, rfl, EZ.xc, _, _, _, _, rfl, hx, (fun u r => r), EZ.k1, ?_⟩
      refine ⟨_, rfl, Z, dd, hcls, rfl, EZ.xc, _, _, _, _, rfl, hx, (fun u r => r), EZ.k2, ?_⟩
      refine ⟨_, rfl, Z, dd, hcls, rfl, EZ.xc, _, _, _, _, rfl, hx, (fun u r => r), EZ.k3, ?_⟩
      refine ⟨by show 4 ≤ sizeLine; decide, fun l0 hl0 => ?_⟩
      dsimp only [gName, List.set_cons_succ, List.set_cons_zero]
      have S0 : Same H (upd H l0 (.lst [.bl (decide (i = 0)), .bl (decide (i = 1)), .bl (decide (i = 2)), .bl (decide (i = 3))])) := Same.upd hl0
      have e0 : (upd H l0 (.lst [.bl (decide (i = 0)), .bl (decide (i = 1)), .bl (decide (i = 2)), .bl (decide (i = 3))])) l0 = some (.lst [.bl (decide (i = 0)), .bl (decide (i = 1)), .bl (decide (i = 2)), .bl (decide (i = 3))]) := upd_same
      generalize upd H l0 (.lst [.bl (decide (i = 0)), .bl (decide (i = 1)), .bl (decide (i = 2)), .bl (decide (i = 3))]) = G0 at S0 e0
      have hx0 := S0 _ _ hx
      refine ⟨_, rfl, ?_⟩
      refine ⟨_, rfl, Z, dd, hcls, rfl, EZ.xc, _, _, _, _, rfl, hx0, (fun u r => r), EZ.k4, ?_⟩
      refine ⟨_, rfl, Z, dd, hcls, rfl, EZ.xc, _, _, _, _, rfl, hx0, (fun u r => r), EZ.k5, ?_⟩
      refine ⟨_, rfl, Z, dd, hcls, rfl, EZ.xc, _, _, _, _, rfl, hx0, (fun u r => r), EZ.k6, ?_⟩
      refine ⟨_, rfl, Z, dd, hcls, rfl, EZ.xc, _, _, _, _, rfl, hx0, (fun u r => r), EZ.k7, ?_⟩
      refine ⟨by show 4 ≤ sizeLine; decide, fun l1 hl1 => ?_⟩
      have S1 : Same G0 (upd G0 l1 (.lst [.bl (decide (i = 4)), .bl (decide (i = 5)), .bl (decide (i = 6)), .bl (decide (i = 7))])) := Same.upd hl1
      have e1 : (upd G0 l1 (.lst [.bl (decide (i = 4)), .bl (decide (i = 5)), .bl (decide (i = 6)), .bl (decide (i = 7))])) l1 = some (.lst [.bl (decide (i = 4)), .bl (decide (i = 5)), .bl (decide (i = 6)), .bl (decide (i = 7))]) := upd_same
      have e01 := S1 _ _ e0
      have S01 := S0.trans S1
      generalize upd G0 l1 (.lst [.bl (decide (i = 4)), .bl (decide (i = 5)), .bl (decide (i = 6)), .bl (decide (i = 7))]) = G1 at S1 e1 e01 S01
      refine ⟨l0, l1, _, _, rfl, rfl, e01, e1, by show 8 ≤ sizeLine; decide, fun l2 hl2 => ?_⟩
      dsimp only [gName, List.set_cons_succ, List.set_cons_zero]
      have S2 : Same G1 (upd G1 l2 (.lst ([.bl (decide (i = 0)), .bl (decide (i = 1)), .bl (decide (i = 2)), .bl (decide (i = 3))] ++ [.bl (decide (i = 4)), .bl (decide (i = 5)), .bl (decide (i = 6)), .bl (decide (i = 7))]))) := Same.upd hl2
      have e2 : (upd G1 l2 (.lst ([.bl (decide (i = 0)), .bl (decide (i = 1)), .bl (decide (i = 2)), .bl (decide (i = 3))] ++ [.bl (decide (i = 4)), .bl (decide (i = 5)), .bl (decide (i = 6)), .bl (decide (i = 7))]))) l2 = some (.lst ([.bl (decide (i = 0)), .bl (decide (i = 1)), .bl (decide (i = 2)), .bl (decide (i = 3))] ++ [.bl (decide (i = 4)), .bl (decide (i = 5)), .bl (decide (i = 6)), .bl (decide (i = 7))])) := upd_same
      have S02 := S01.trans S2
      generalize upd G1 l2 (.lst ([.bl (decide (i = 0)), .bl (decide (i = 1)), .bl (decide (i = 2)), .bl (decide (i = 3))] ++ [.bl (decide (i = 4)), .bl (decide (i = 5)), .bl (decide (i = 6)), .bl (decide (i = 7))])) = G2 at S2 e2 S02
      have hx2' := S02 _ _ hx
      refine ⟨_, rfl, ?_⟩
      refine ⟨_, rfl, Z, dd, hcls, rfl, EZ.xc, _, _, _, _, rfl, hx2', (fun u r => r), EZ.k8, ?_⟩
      refine ⟨_, rfl, Z, dd, hcls, rfl, EZ.xc, _, _, _, _, rfl, hx2', (fun u r => r), EZ.k9, ?_⟩
      refine ⟨_, rfl, Z, dd, hcls, rfl, EZ.xc, _, _, _, _, rfl, hx2', (fun u r => r), EZ.k10, ?_⟩
      refine ⟨_, rfl, Z, dd, hcls, rfl, EZ.xc, _, _, _, _, rfl, hx2', (fun u r => r), EZ.k11, ?_⟩
      refine ⟨by show 4 ≤ sizeLine; decide, fun l3 hl3 => ?_⟩
      have S3 : Same G2 (upd G2 l3 (.lst [.bl (decide (i = 8)), .bl (decide (i = 9)), .bl (decide (i = 10)), .bl (decide (i = 11))])) := Same.upd hl3
      have e3 : (upd G2 l3 (.lst [.bl (decide (i = 8)), .bl (decide (i = 9)), .bl (decide (i = 10)), .bl (decide (i = 11))])) l3 = some (.lst [.bl (decide (i = 8)), .bl (decide (i = 9)), .bl (decide (i = 10)), .bl (decide (i = 11))]) := upd_same
      have e23 := S3 _ _ e2
      have S03 := S02.trans S3
      generalize upd G2 l3 (.lst [.bl (decide (i = 8)), .bl (decide (i = 9)), .bl (decide (i = 10)), .bl (decide (i = 11))]) = G3 at S3 e3 e23 S03
      refine ⟨l2, l3, _, _, rfl, rfl, e23, e3, by show 12 ≤ sizeLine; decide, fun l hl => ?_⟩
      dsimp only [gName, List.set_cons_succ, List.set_cons_zero]
      have S4 : Same G3 (upd G3 l (.lst (([.bl (decide (i = 0)), .bl (decide (i = 1)), .bl (decide (i = 2)), .bl (decide (i = 3))] ++ [.bl (decide (i = 4)), .bl (decide (i = 5)), .bl (decide (i = 6)), .bl (decide (i = 7))]) ++ [.bl (decide (i = 8)), .bl (decide (i = 9)), .bl (decide (i = 10)), .bl (decide (i = 11))]))) := Same.upd hl
      have el : (upd G3 l (.lst (([.bl (decide (i = 0)), .bl (decide (i = 1)), .bl (decide (i = 2)), .bl (decide (i = 3))] ++ [.bl (decide (i = 4)), .bl (decide (i = 5)), .bl (decide (i = 6)), .bl (decide (i = 7))]) ++ [.bl (decide (i = 8)), .bl (decide (i = 9)), .bl (decide (i = 10)), .bl (decide (i = 11))]))) l = some (.lst [.bl (decide (i = 0)), .bl (decide (i = 1)), .bl (decide (i = 2)), .bl (decide (i = 3)), .bl (decide (i = 4)), .bl (decide (i = 5)), .bl (decide (i = 6)), .bl (decide (i = 7)), .bl (decide (i = 8)), .bl (decide (i = 9)), .bl (decide (i = 10)), .bl (decide (i = 11))]) := upd_same
      have S1 := S03.trans S4
      generalize upd G3 l (.lst (([.bl (decide (i = 0)), .bl (decide (i = 1)), .bl (decide (i = 2)), .bl (decide (i = 3))] ++ [.bl (decide (i = 4)), .bl (decide (i = 5)), .bl (decide (i = 6)), .bl (decide (i = 7))]) ++ [.bl (decide (i = 8)), .bl (decide (i = 9)), .bl (decide (i = 10)), .bl (decide (i = 11))])) = H1 at S4 el S1
      refine ⟨_, rfl, l, _, rfl, SqL.of el, fun Dl hD => ⟨fun j H' => H' Dl = some (.lst ((([decide (i = 0), decide (i = 1), decide (i = 2), decide (i = 3), decide (i = 4), decide (i = 5), decide (i = 6), decide (i = 7), decide (i = 8), decide (i = 9), decide (i = 10), decide (i = 11)].take j).map b2i).map V.int)) ∧ Same H1 H', ⟨upd_same, Same.upd hD⟩, fun j H' p => SqL.of (p.2 _ _ el), ?_, ?_⟩⟩
      · rintro j x H' hxj ⟨hj, sj⟩
        obtain ⟨b, hb, rfl⟩ : ∃ b, ([decide (i = 0), decide (i = 1), decide (i = 2), decide (i = 3), decide (i = 4), decide (i = 5), decide (i = 6), decide (i = 7), decide (i = 8), decide (i = 9), decide (i = 10), decide (i = 11)] : List Bool)[j]? = some b ∧ V.bl b = x := by
          have hxj : (([decide (i = 0), decide (i = 1), decide (i = 2), decide (i = 3), decide (i = 4), decide (i = 5), decide (i = 6), decide (i = 7), decide (i = 8), decide (i = 9), decide (i = 10), decide (i = 11)] : List Bool).map V.bl)[j]? = some x := hxj
          rw [List.getElem?_map] at hxj
          exact Option.map_eq_some_iff.mp hxj
        refine ⟨rfl, ⟨_, rfl, .inr ⟨b, rfl, _, hj, ?_, ?_, ?_⟩⟩⟩
        · rw [List.length_map, List.length_map, List.length_take]
          exact Nat.lt_of_le_of_lt (show min j 12 ≤ 12 from Nat.min_le_right _ _) (by decide)
        · rw [upd_same, List.take_add_one, hb, List.map_append, List.map_append]
          rfl
        · intro q o z
          rw [upd_ne (ne_of_none z hD)]
          exact sj q o z
      · rintro H2 ⟨hj, s2⟩
        have hj : H2 Dl = some (.lst ((([decide (i = 0), decide (i = 1), decide (i = 2), decide (i = 3), decide (i = 4), decide (i = 5), decide (i = 6), decide (i = 7), decide (i = 8), decide (i = 9), decide (i = 10), decide (i = 11)] : List Bool).map b2i).map V.int)) := hj
        refine ⟨Dl, _, rfl, SqL.of hj, rfl, _, rfl, ?_⟩
        rw [one]
        refine ite2 (fun q => absurd q (by simp)) (fun _ => ?_)
        have S2 := S1.trans s2
        have hx2 := S2 _ _ hx
        refine ⟨_, rfl, Z, dd, hcls, rfl, EZ.xc, _, _, _, _, rfl, hx2, (fun u r => by cases r; rfl), EZ.kv, _, rfl, ?_⟩
        refine iteF ?_
        refine ⟨by show 8 ≤ sizeLine; decide, fun ln hln => ?_⟩
        dsimp only [gName, List.set_cons_succ, List.set_cons_zero]
        have S5 : Same H2 (upd H2 ln (.lst [.str "noname", .str "taken", .str "nosort", .str "nothing", .str "noword", .str "asleep", .str "norule", .str "misfit"])) := Same.upd hln
        have en : (upd H2 ln (.lst [.str "noname", .str "taken", .str "nosort", .str "nothing", .str "noword", .str "asleep", .str "norule", .str "misfit"])) ln = some (.lst [.str "noname", .str "taken", .str "nosort", .str "nothing", .str "noword", .str "asleep", .str "norule", .str "misfit"]) := upd_same
        have el5 := S5 _ _ (s2 _ _ el)
        have hx5 := S5 _ _ hx2
        have S05 := S2.trans S5
        generalize upd H2 ln (.lst [.str "noname", .str "taken", .str "nosort", .str "nothing", .str "noword", .str "asleep", .str "norule", .str "misfit"]) = H5 at S5 en el5 hx5 S05
        refine ⟨_, rfl, .inl ⟨rfl, _, SqL.of el5⟩, ?_⟩
        refine ⟨l, _, .bl true, i, .bl true, rfl, rfl, SqL.of el5, rfl, rfl, iT, rfl, iF, ?_⟩
        dsimp only [gName, List.set_cons_succ, List.set_cons_zero]
        refine ⟨_, rfl, _, _, rfl, rfl, _, rfl, ?_⟩
        refine ite2 (fun z => ?_) (fun z => ?_)
        · have i8 : i < 8 := by have := of_decide_eq_true z; omega
          rcases rest with ⟨_, ec, u, kd, ek, lu, qq⟩ | ⟨rfl, _⟩ | ⟨rfl, _⟩ | ⟨rfl, _⟩ | ⟨rfl, _⟩
          · refine ⟨_, rfl, _, rfl, ?_⟩
            refine rdList en (j := i) (v := .str kd) rfl ek ?_
            refine ⟨_, rfl, rfl, ec, dd, _, _, rfl, hx5, lu, ?_⟩
            exact ⟨by show 2 ≤ sizeLine; decide, fun t nt => qq t _ (S05.trans (Same.upd nt)) (S05.free nt) upd_same⟩
          · exact absurd i8 (by decide)
          · exact absurd i8 (by decide)
          · exact absurd i8 (by decide)
          · exact absurd i8 (by decide)
        · have i8 : ¬ i < 8 := fun q => z (decide_eq_true (by omega))
          rcases rest with ⟨q8, _⟩ | ⟨rfl, rest⟩ | ⟨rfl, ec, u, v, y, l1', l2', l3', qq⟩ | ⟨rfl, ec, u, y, l1', l2', qq⟩ | ⟨rfl, ec, u, l1', qq⟩
          · exact absurd q8 i8
          · refine ⟨_, rfl, rfl, _, rfl, ?_⟩
            refine ite2 (fun q => absurd (V.int.inj (of_decide_eq_true q)) (by decide)) (fun _ => ?_)
            refine ⟨_, rfl, rfl, _, rfl, ?_⟩
            refine ite2 (fun q => absurd (V.int.inj (of_decide_eq_true q)) (by decide)) (fun _ => ?_)
            refine ⟨_, rfl, rfl, _, rfl, ?_⟩
            refine ite2 (fun q => absurd (V.int.inj (of_decide_eq_true q)) (by decide)) (fun _ => ?_)
            exact ⟨by show 1 ≤ sizeLine; decide, fun t nt => rest t _ (S05.trans (Same.upd nt)) (S05.free nt) upd_same⟩
          · refine ⟨_, rfl, rfl, _, rfl, ?_⟩
            refine ite2 (fun _ => ?_) (fun q => absurd (decide_eq_true rfl) q)
            refine ⟨_, rfl, rfl, ec, dd, _, _, rfl, hx5, l1', _, rfl, rfl, ec, dd, _, _, rfl, hx5, l2', _, rfl, rfl, ec, dd, _, _, rfl, hx5, l3', ?_⟩
            exact ⟨by show 4 ≤ sizeLine; decide, fun t nt => qq t _ (S05.trans (Same.upd nt)) (S05.free nt) upd_same⟩
          · refine ⟨_, rfl, rfl, _, rfl, ?_⟩
            refine ite2 (fun q => absurd (V.int.inj (of_decide_eq_true q)) (by decide)) (fun _ => ?_)
            refine ⟨_, rfl, rfl, _, rfl, ?_⟩
            refine ite2 (fun _ => ?_) (fun q => absurd (decide_eq_true rfl) q)
            refine ⟨_, rfl, rfl, ec, dd, _, _, rfl, hx5, l1', _, rfl, rfl, ec, dd, _, _, rfl, hx5, l2', ?_⟩
            exact ⟨by show 3 ≤ sizeLine; decide, fun t nt => qq t _ (S05.trans (Same.upd nt)) (S05.free nt) upd_same⟩
          · refine ⟨_, rfl, rfl, _, rfl, ?_⟩
            refine ite2 (fun q => absurd (V.int.inj (of_decide_eq_true q)) (by decide)) (fun _ => ?_)
            refine ⟨_, rfl, rfl, _, rfl, ?_⟩
            refine ite2 (fun q => absurd (V.int.inj (of_decide_eq_true q)) (by decide)) (fun _ => ?_)
            refine ⟨_, rfl, rfl, _, rfl, ?_⟩
            refine ite2 (fun _ => ?_) (fun q => absurd (decide_eq_true rfl) q)
            refine ⟨_, rfl, rfl, ec, dd, _, _, rfl, hx5, l1', ?_⟩
            exact ⟨by show 2 ≤ sizeLine; decide, fun t nt => qq t _ (S05.trans (Same.upd nt)) (S05.free nt) upd_same⟩
    have no : ∀ {i : Nat}, i < 12 → ∀ (m : Nat) (z' : V), m < i → ([.bl (decide (i = 0)), .bl (decide (i = 1)), .bl (decide (i = 2)), .bl (decide (i = 3)), .bl (decide (i = 4)), .bl (decide (i = 5)), .bl (decide (i = 6)), .bl (decide (i = 7)), .bl (decide (i = 8)), .bl (decide (i = 9)), .bl (decide (i = 10)), .bl (decide (i = 11))] : List V)[m]? = some z' → eqV z' (.bl true) = false := by
      intro i hi m z' hm e
      have em : ([.bl (decide (i = 0)), .bl (decide (i = 1)), .bl (decide (i = 2)), .bl (decide (i = 3)), .bl (decide (i = 4)), .bl (decide (i = 5)), .bl (decide (i = 6)), .bl (decide (i = 7)), .bl (decide (i = 8)), .bl (decide (i = 9)), .bl (decide (i = 10)), .bl (decide (i = 11))] : List V)[m]? = some (.bl (decide (i = m))) := by
        rcases (by omega : m = 0 ∨ m = 1 ∨ m = 2 ∨ m = 3 ∨ m = 4 ∨ m = 5 ∨ m = 6 ∨ m = 7 ∨ m = 8 ∨ m = 9 ∨ m = 10) with rfl | rfl | rfl | rfl | rfl | rfl | rfl | rfl | rfl | rfl | rfl <;> rfl
      rw [em, decide_eq_false (by omega)] at e
      cases e
      rfl
    have one : ∀ {i : Nat}, i < 12 → (([decide (i = 0), decide (i = 1), decide (i = 2), decide (i = 3), decide (i = 4), decide (i = 5), decide (i = 6), decide (i = 7), decide (i = 8), decide (i = 9), decide (i = 10), decide (i = 11)] : List Bool).map b2i).sum = 1 := by
      intro i hi
      rcases (by omega : i = 0 ∨ i = 1 ∨ i = 2 ∨ i = 3 ∨ i = 4 ∨ i = 5 ∨ i = 6 ∨ i = 7 ∨ i = 8 ∨ i = 9 ∨ i = 10 ∨ i = 11) with rfl | rfl | rfl | rfl | rfl | rfl | rfl | rfl | rfl | rfl | rfl | rfl <;> decide
    have hit : ∀ {i : Nat}, i < 12 → ([.bl (decide (i = 0)), .bl (decide (i = 1)), .bl (decide (i = 2)), .bl (decide (i = 3)), .bl (decide (i = 4)), .bl (decide (i = 5)), .bl (decide (i = 6)), .bl (decide (i = 7)), .bl (decide (i = 8)), .bl (decide (i = 9)), .bl (decide (i = 10)), .bl (decide (i = 11))] : List V)[i]? = some (.bl true) := by
      intro i hi
      rcases (by omega : i = 0 ∨ i = 1 ∨ i = 2 ∨ i = 3 ∨ i = 4 ∨ i = 5 ∨ i = 6 ∨ i = 7 ∨ i = 8 ∨ i = 9 ∨ i = 10 ∨ i = 11) with rfl | rfl | rfl | rfl | rfl | rfl | rfl | rfl | rfl | rfl | rfl | rfl <;> rfl
    obtain ⟨hx, k⟩ := h
    have E := TE.er hZ
    match r, hZ, rok, hx, k, E with
    | .one i z, hZ, rok, hx, k, E =>
      have i8 : i < 8 := rok
      have i12 : i < 12 := Nat.lt_of_lt_of_le i8 (by decide)
      refine go (i := i) hcl hx E E.xf (TE.nn i8 hZ) (one i12) (hit i12) (no i12) i12 (.inl ⟨i8, hcl, .str z, kdOf i, ?_, rfl, k⟩)
      rcases (by omega : i = 0 ∨ i = 1 ∨ i = 2 ∨ i = 3 ∨ i = 4 ∨ i = 5 ∨ i = 6 ∨ i = 7) with rfl | rfl | rfl | rfl | rfl | rfl | rfl | rfl <;> rfl
    | .full, hZ, rok, hx, k, E => exact go (i := 8) hcl hx E (TE.er (i := 0) rfl).xf (TE.nn (i := 0) (by decide) rfl) (one (by decide)) (hit (by decide)) (no (by decide)) (by decide) (.inr (.inl ⟨rfl, k⟩))
    | .held x w y, hZ, rok, hx, k, E => exact go (i := 9) hcl hx E (TE.er (i := 0) rfl).xf (TE.nn (i := 0) (by decide) rfl) (one (by decide)) (hit (by decide)) (no (by decide)) (by decide) (.inr (.inr (.inl ⟨rfl, by rw [hcl, ← Option.some.inj hZ], .str x, .str w, .str y, rfl, rfl, rfl, k⟩)))
    | .mkg x y, hZ, rok, hx, k, E => exact go (i := 10) hcl hx E (TE.er (i := 0) rfl).xf (TE.nn (i := 0) (by decide) rfl) (one (by decide)) (hit (by decide)) (no (by decide)) (by decide) (.inr (.inr (.inr (.inl ⟨rfl, by rw [hcl, ← Option.some.inj hZ], .str x, .str y, rfl, rfl, k⟩))))
    | .deed z, hZ, rok, hx, k, E => exact go (i := 11) hcl hx E (TE.er (i := 0) rfl).xf (TE.nn (i := 0) (by decide) rfl) (one (by decide)) (hit (by decide)) (no (by decide)) (by decide) (.inr (.inr (.inr (.inr ⟨rfl, by rw [hcl, ← Option.some.inj hZ], .str z, rfl, k⟩))))
end
end Wm
namespace Wm
open PySem L2 StX
theorem unk_none {C D : Addr} {ws nms : List Str} {n wd m : Str} (h : unk C D ws nms n wd m = none) : n ∈ nms ∧ m ∈ nms ∧ wd ∈ ws := by
  unfold unk at h
  split at h
  · split at h
    · split at h
      · exact ⟨by assumption, by assumption, by assumption⟩
      · cases h
    · cases h
  · cases h
def spRAs (HC S CA : Addr) : Sp := fun vs H Q E => ∃ (x dx sc d1 d2 d3 : Addr) (n : Str) (b : Bool) (ss ws : List Str) (th : List Thing) (ts : List T3), vs = [.ref x, .str n] ∧ HsAt HC S H x dx sc d1 d2 d3 ss ws th ts ∧ n ∈ nmL th ∧ awk th n = some b ∧ if b = true then Q .non H else ∀ d H', H d = none → Same H H' → H' d = some (.xd (ef1 "name" "asleep" (.str n))) → E (.ref CA) (some d) H'
/-- what is due of a holding that x lets go -/
def DueD (HC S C D CA NH : Addr) (x dx sc d1 d2 d3 : Addr) (n wd m : Str) (ss ws : List Str) (th : List Thing) (ts : List T3) (H : Hp) (Q : VK) (E : XK) : Prop := Out (unk C D ws (nmL th) n wd m) H E (∀ b, awk th n = some b → if b = true then (if (n, wd, m) ∈ ts then ∀ H', But d3 H H' → HsAt HC S H' x dx sc d1 d2 d3 ss ws th (remT ts (n, wd, m)) → Q .non H' else ∀ d H', H d = none → Same H H' → H' d = some (.xd (ef3 (.str n) (.str wd) (.str m))) → E (.ref NH) (some d) H')
  else ∀ d H', H d = none → Same H H' → H' d = some (.xd (ef1 "name" "asleep" (.str n))) → E (.ref CA) (some d) H')
def spDrop (HC S C D CA NH : Addr) : Sp := fun vs H Q E => ∃ (x dx sc d1 d2 d3 : Addr) (n wd m : Str) (ss ws : List Str) (th : List Thing) (ts : List T3), vs = [.ref x, .str n, .str wd, .str m] ∧ HsAt HC S H x dx sc d1 d2 d3 ss ws th ts ∧ DueD HC S C D CA NH x dx sc d1 d2 d3 n wd m ss ws th ts H Q E
section
variable {P : Program} {w : World} {K : PySem.W.Frag} {mg : Str → Option Value} {base : Heap}
theorem scRAs : FnScope ["house", "name"] ["house", "name"] (defScope sRAs) := ⟨rfl, rfl, rfl, by decide +kernel, rfl, by decide +kernel, by decide +kernel⟩
theorem ok_ras {f HC S CA fI fH fA : Addr} {fd fdI dA : FuncData} (F : Fun K "refuse_asleep" "refuse_asleep" sRAs f fd) (TH : TxH K mg HC fH) (mA : Meth K HC "is_awake" fA) (bA : Binds K dA ["self", "x"] []) (GA : FnOk P w K mg base CX0 2 fA dA ["self", "x"] (spHia HC S)) (TE : ErrT K mg "Asleep" "name" CA fI) (bI : Binds K fdI ["self", "name"] []) (GI : FnOk P w K mg base CX0 2 fI fdI ["self", "name"] (spE1 CA "name" "asleep")) :
    FnOk P w K mg base (L2N.CX P w) 4 f fd ["house", "name"] (spRAs HC S CA) := by
  refine okN F scRAs (fun vs H Q E h => ?_) (fun cdv A outer s H vs Q E hr h => ?_)
  · obtain ⟨x, dx, sc, d1, d2, d3, n, b, ss, ws, th, ts, rfl, _⟩ := h
    rfl
  · obtain ⟨x, dx, sc, d1, d2, d3, n, b, ss, ws, th, ts, rfl, hh, hn, hb, q⟩ := h
    have hr3 : Room 3 _ := hr
    have hr2 : Room 2 _ := hr.mono (by decide)
    refine ⟨_, (pss_one (ps_if (pt_not (pt_val (pe_meth (pv 0) TH.cl mA GA hr2 bA .nil pass0 (pa_cons (pv 1) pa_nil)))) (pss_one (L2N.ps_raise rfl (L2N.takes_of rfl rfl rfl rfl) (pmkN_oex TE.o TE.iC TE.tI GI hr3 bI pass0 rfl TE.g (pa_cons (pv 1) pa_nil)))) pss_nil)), ?_⟩
    refine ⟨_, rfl, x, dx, _, rfl, hh.hx, hsF_no (by decide +kernel) (by decide +kernel) (by decide +kernel) (by decide +kernel) _ _ _ _, _, rfl, x, dx, sc, d1, d2, d3, n, b, ss, ws, th, ts, rfl, hh, hn, hb, _, rfl, ?_⟩
    cases b with
    | true => exact iteF q
    | false => exact iteT ⟨_, rfl, mk1 q⟩
theorem scPDr : FnScope ["house", "x", "word", "y"] ["house", "x", "word", "y"] (defScope sPDr) := ⟨rfl, rfl, rfl, by decide +kernel, rfl, by decide +kernel, by decide +kernel⟩
theorem ok_pdr {f HC S C D CA NH fH fR fA fT : Addr} {fd dR dA dT : FuncData} (F : Fun K "play_drop" "play_drop" sPDr f fd) (TH : TxH K mg HC fH) (mR : Meth K HC "refuse_strange" fR) (bR : Binds K dR ps4 []) (GR : FnOk P w K mg base (L2N.CX P w) 5 fR dR ps4 (spHrsX HC S C D)) (DA : Dn K mg "refuse_asleep" sRAs ["house", "name"] fA dA) (GA : FnOk P w K mg base (L2N.CX P w) 4 fA dA ["house", "name"] (spRAs HC S CA)) (mT : Meth K HC "take" fT) (bT : Binds K dT ps4 []) (GT : FnOk P w K mg base (L2N.CX P w) 6 fT dT ps4 (spTak HC S C D NH)) :
    FnOk P w K mg base (L2N.CX P w) 7 f fd ["house", "x", "word", "y"] (spDrop HC S C D CA NH) := by
  refine okN F scPDr (fun vs H Q E h => ?_) (fun cdv A outer s H vs Q E hr h => ?_)
  · obtain ⟨x, dx, sc, d1, d2, d3, n, wd, m, ss, ws, th, ts, rfl, _⟩ := h
    rfl
  · obtain ⟨x, dx, sc, d1, d2, d3, n, wd, m, ss, ws, th, ts, rfl, hh, q⟩ := h
    have hr4 : Room 4 _ := hr.mono (by decide)
    have hr5 : Room 5 _ := hr.mono (by decide)
    refine ⟨_, (pss_cons (ps_expr (pe_meth (pv 0) TH.cl mR GR hr5 bR .nil (L2N.passes_call (L2N.takes_of rfl rfl rfl rfl) (fun _ _ _ _ h => h)) (pa_cons (pv 1) (pa_cons (pv 2) (pa_cons (pv 3) pa_nil)))))
      (pss_cons (ps_expr (pe_call GA hr4 rfl DA.g DA.F.kp DA.b .nil (L2N.passes_call (L2N.takes_of rfl rfl rfl rfl) (fun _ _ _ _ h => h)) (pa_cons (pv 0) (pa_cons (pv 1) pa_nil))))
      (pss_one (ps_expr (pe_meth (pv 0) TH.cl mT GT hr bT .nil (L2N.passes_call (L2N.takes_of rfl rfl rfl rfl) (fun _ _ _ _ h => h)) (pa_cons (pv 1) (pa_cons (pv 2) (pa_cons (pv 3) pa_nil)))))))), ?_⟩
    have no : ∀ {f : Str}, ¬ f = "standing" → ¬ f = "awake_by_name" → ¬ f = "sort_by_name" → ¬ f = "own_scheme" → (hsF sc d1 d2 d3).lookup f = none := fun a b c d => hsF_no a b c d _ _ _ _
    refine ⟨_, rfl, x, dx, _, rfl, hh.hx, no (by decide +kernel) (by decide +kernel) (by decide +kernel) (by decide +kernel), _, rfl, _, rfl, _, rfl, x, dx, sc, d1, d2, d3, n, wd, m, ss, ws, th, ts, rfl, hh, ?_⟩
    unfold DueD at q
    cases hu : unk C D ws (nmL th) n wd m with
    | some u =>
      rw [hu] at q
      exact q
    | none =>
      rw [hu] at q
      obtain ⟨hn, hm, hw⟩ := unk_none hu
      obtain ⟨b, hb⟩ := awk_some hn
      intro H1 S1
      have q := q b hb
      have h1 := hh.same S1
      refine ⟨_, rfl, _, rfl, x, dx, sc, d1, d2, d3, n, b, ss, ws, th, ts, rfl, h1, hn, hb, ?_⟩
      cases b with
      | false =>
        rw [if_neg (by decide)] at q
        rw [if_neg (by decide)]
        exact fun d H' nd S' e => q d H' (S1.free nd) (S1.trans S') e
      | true =>
        rw [if_pos rfl] at q
        rw [if_pos rfl]
        refine ⟨_, rfl, x, dx, _, rfl, h1.hx, no (by decide +kernel) (by decide +kernel) (by decide +kernel) (by decide +kernel), _, rfl, _, rfl, _, rfl, x, dx, sc, d1, d2, d3, n, wd, m, ss, ws, th, ts, rfl, h1, ?_⟩
        rw [hu]
        show if (n, wd, m) ∈ ts then _ else _
        by_cases hmem : (n, wd, m) ∈ ts
        · rw [if_pos hmem] at q
          rw [if_pos hmem]
          exact fun H' B' h' => q H' (fun a o na e => B' a o na (S1 _ _ e)) h'
        · rw [if_neg hmem] at q
          rw [if_neg hmem]
          exact fun d H' nd S' e => q d H' (S1.free nd) (S1.trans S') e
end
end Wm
namespace Wm
open PySem L2 StX
theorem eqv_self {d : PyData} (h : SeqAt.shaped d = true) : PyData.eqv d d = true := SeqAt.eqv_refl d (SeqAt.canLay_of_shaped h)
theorem dp_strs {K : PySem.W.Frag} {H : Hp} : ∀ zs : List Str, DpAll K H (zs.map V.str) (zs.map PyData.str)
  | [] => .nil
  | z :: r => .cons (.str z) (dp_strs r)
theorem lay_strs : ∀ {zs : List Str}, (∀ z ∈ zs, okS z) → PyData.canLayAll0 (zs.map PyData.str) = true ∧ PyData.depthAll (zs.map PyData.str) ≤ 1
  | [], _ => by simp [PyData.canLayAll0, PyData.depthAll]
  | z :: r, h => by
    have h1 := strOk_of (h z List.mem_cons_self)
    have h2 := lay_strs (zs := r) fun y hy => h y (List.mem_cons_of_mem _ hy)
    obtain ⟨h2, h3⟩ := h2
    refine ⟨by simp only [List.map_cons, PyData.canLayAll0, PyData.canLay0, h1, h2, Bool.and_self], ?_⟩
    simp [PyData.depthAll, PyData.depth]
    omega
theorem shaped_strs {zs : List Str} (h : ∀ z ∈ zs, okS z) : SeqAt.shaped (.list (zs.map PyData.str)) = true := by
  obtain ⟨h1, h2⟩ := lay_strs h
  simp [SeqAt.shaped, PyData.canLay0, PyData.depth, h1]
  omega
def okT (t : T3) : Prop := okS t.1 ∧ okS t.2.1 ∧ okS t.2.2
theorem dp_tris {K : PySem.W.Frag} {H : Hp} : ∀ {ps : List Addr} {ts : List T3}, TrisAt K H ps ts → DpAll K H (ps.map V.ref) (ts.map triD3)
  | [], [], _ => .nil
  | _ :: _, _ :: _, h => .cons (tri_dp h.1) (dp_tris h.2)
  | [], _ :: _, h => h.elim
  | _ :: _, [], h => h.elim
theorem lay_tris : ∀ {ts : List T3}, (∀ t ∈ ts, okT t) → PyData.canLayAll0 (ts.map triD3) = true ∧ PyData.depthAll (ts.map triD3) ≤ 3
  | [], _ => by simp [PyData.canLayAll0, PyData.depthAll]
  | t :: r, h => by
    obtain ⟨a, b, c⟩ := h t List.mem_cons_self
    have h2 := lay_tris (ts := r) fun y hy => h y (List.mem_cons_of_mem _ hy)
    obtain ⟨h2, h3⟩ := h2
    have e : (triD3 t).canLay0 = true := by simp [triD3, PyData.canLay0, PyData.canLayAll0, strOk_of a, strOk_of b, strOk_of c]
    have d : (triD3 t).depth ≤ 2 := tri_depth t
    refine ⟨by simp only [List.map_cons, PyData.canLayAll0, e, h2, Bool.and_self], ?_⟩
    simp only [List.map_cons, PyData.depthAll]
    omega
theorem shaped_tris {ts : List T3} (h : ∀ t ∈ ts, okT t) : SeqAt.shaped (.list (ts.map triD3)) = true := by
  obtain ⟨h1, h2⟩ := lay_tris h
  simp [SeqAt.shaped, PyData.canLay0, PyData.depth, h1]
  omega
theorem sortT_mem {t : T3} {ts : List T3} : t ∈ sortT ts ↔ t ∈ ts := List.mem_mergeSort
theorem tris_len {K : PySem.W.Frag} {H : Hp} : ∀ {qs : List Addr} {us : List T3}, TrisAt K H qs us → qs.length = us.length
  | [], [], _ => rfl
  | _ :: _, _ :: _, h => congrArg (· + 1) (tris_len h.2)
  | [], _ :: _, h => h.elim
  | _ :: _, [], h => h.elim
theorem tris_get {K : PySem.W.Frag} {H : Hp} : ∀ {qs : List Addr} {us : List T3} {j : Nat}, TrisAt K H qs us → j < qs.length → ∃ q t, (qs.map V.ref)[j]? = some (.ref q) ∧ t ∈ us ∧ SqT K H q (triV3 t)
  | q :: qs, t :: us, 0, h, _ => ⟨q, t, rfl, List.mem_cons_self, h.1⟩
  | q :: qs, t :: us, j + 1, h, hj => by
    obtain ⟨q', t', a, b, c⟩ := tris_get (j := j) h.2 (by simpa using hj)
    exact ⟨q', t', a, List.mem_cons_of_mem _ b, c⟩
  | [], _, _, _, hj => absurd hj (Nat.not_lt_zero _)
  | _ :: _, [], _, h, _ => h.elim
theorem add_len (ts : List T3) (t : T3) : (addT ts t).length ≤ ts.length + 1 := by
  unfold addT
  split
  · omega
  · rw [List.length_append, List.length_singleton]
    omega
theorem add_ok {ts : List T3} {t : T3} (h : ∀ u ∈ ts, okT u) (ht : okT t) : ∀ u ∈ addT ts t, okT u := fun u hu => by
  unfold addT at hu
  split at hu
  · exact h u hu
  · rcases List.mem_append.mp hu with q | q
    · exact h u q
    · rw [List.mem_singleton.mp q]
      exact ht
theorem rem_len (ts : List T3) (t : T3) : (remT ts t).length ≤ ts.length := List.length_filter_le _ _
theorem rem_ok {ts : List T3} {t : T3} (h : ∀ u ∈ ts, okT u) : ∀ u ∈ remT ts t, okT u := fun u hu => h u (List.mem_filter.mp hu).1
theorem val3 {ts : List T3} {t : T3} (h : t ∈ ts) : valV (k3 ts) (triK t) = some (.bl true) := by
  have q : (valV (k3 ts) (triK t)).isSome = true := by
    rw [is3]
    exact decide_eq_true h
  unfold valV at q ⊢
  cases e : (k3 ts).find? (fun kv => decide (kv.1 = triK t)) with
  | none =>
    rw [e] at q
    cases q
  | some y =>
    obtain ⟨u, _, rfl⟩ := List.mem_map.mp (List.mem_of_find?_eq_some e)
    rfl
theorem find_nd {th : List Thing} {t : Thing} (nd : (nmL th).Nodup) (h : t ∈ th) : (th.find? fun u => decide (u.1 = t.1)) = some t := by
  induction th with
  | nil => cases h
  | cons u r ih =>
    have nd' : (u.1 :: nmL r).Nodup := nd
    rw [List.nodup_cons] at nd'
    rcases List.mem_cons.mp h with e | h
    · rw [← e, List.find?_cons_of_pos (by exact decide_eq_true rfl)]
    · have ne : ¬ u.1 = t.1 := fun e => nd'.1 (by rw [e]; exact List.mem_map.mpr ⟨t, h, rfl⟩)
      rw [List.find?_cons_of_neg (by simpa using ne)]
      exact ih nd'.2 h
end Wm
namespace Wm
open PySem L2 StX
abbrev kT : L2.Key := Sum.inr "things"
abbrev kA : L2.Key := Sum.inr "awake"
abbrev kH : L2.Key := Sum.inr "held"
theorem kTS : ¬ kT = kS := by decide +kernel
theorem kTA : ¬ kT = kA := by decide +kernel
theorem kTH : ¬ kT = kH := by decide +kernel
theorem kSA : ¬ kS = kA := by decide +kernel
theorem kSH : ¬ kS = kH := by decide +kernel
theorem kAH : ¬ kA = kH := by decide +kernel
def hmF (lt ds da dh : Addr) : List (L2.Key × V) := [(kT, .ref lt), (kS, .ref ds), (kA, .ref da), (kH, .ref dh)]
theorem hmF_t (lt ds da dh : Addr) : valV (hmF lt ds da dh) kT = some (.ref lt) := valV_pos rfl
theorem hmF_s (lt ds da dh : Addr) : valV (hmF lt ds da dh) kS = some (.ref ds) := (valV_neg kTS).trans (valV_pos rfl)
theorem hmF_a (lt ds da dh : Addr) : valV (hmF lt ds da dh) kA = some (.ref da) := (valV_neg kTA).trans ((valV_neg kSA).trans (valV_pos rfl))
theorem hmF_h (lt ds da dh : Addr) : valV (hmF lt ds da dh) kH = some (.ref dh) := (valV_neg kTH).trans ((valV_neg kSH).trans ((valV_neg kAH).trans (valV_pos rfl)))
theorem hmF_mk (lt ds da dh : Addr) : mergeK [] [(kT, .ref lt), (kS, .ref ds), (kA, .ref da), (kH, .ref dh)] = hmF lt ds da dh := by
  have a1 : putK ([] : List (L2.Key × V)) kT (.ref lt) = [(kT, .ref lt)] := putK_new _ valV_nil
  have a2 : putK [(kT, V.ref lt)] kS (.ref ds) = [(kT, .ref lt), (kS, .ref ds)] := putK_new _ ((valV_neg kTS).trans valV_nil)
  have a3 : putK [(kT, V.ref lt), (kS, V.ref ds)] kA (.ref da) = [(kT, .ref lt), (kS, .ref ds), (kA, .ref da)] := putK_new _ ((valV_neg kTA).trans ((valV_neg kSA).trans valV_nil))
  have a4 : putK [(kT, V.ref lt), (kS, V.ref ds), (kA, V.ref da)] kH (.ref dh) = hmF lt ds da dh := putK_new _ ((valV_neg kTH).trans ((valV_neg kSH).trans ((valV_neg kAH).trans valV_nil)))
  show putK (putK (putK (putK [] kT (.ref lt)) kS (.ref ds)) kA (.ref da)) kH (.ref dh) = _
  rw [a1, a2, a3, a4]
/-- the law's own house -/
structure HmAt (H : Hp) (h lt ds da dh : Addr) (th : List Thing) (ts : List T3) : Prop where
  hh : H h = some (.dK (hmF lt ds da dh))
  ht : H lt = some (.lst ((nmL th).map V.str))
  hs : H ds = some (.dK (k1 th))
  ha : H da = some (.dK (k2 th))
  he : H dh = some (.dT (k3 ts))
  ne : ds ≠ da
  nhs : h ≠ ds
  nha : h ≠ da
theorem HmAt.kp {H H' : Hp} {h lt ds da dh : Addr} {th : List Thing} {ts : List T3} (k : Kp H H') (a : HmAt H h lt ds da dh th ts) : HmAt H' h lt ds da dh th ts :=
  ⟨k _ _ ns_dK a.hh, k _ _ ns_strs a.ht, k _ _ ns_dK a.hs, k _ _ ns_dK a.ha, k _ _ ns_dT a.he, a.ne, a.nhs, a.nha⟩
theorem HmAt.gt {H : Hp} {h lt ds da dh : Addr} {th : List Thing} {ts : List T3} (a : HmAt H h lt ds da dh th ts) : DGet H h (.str "things") (some (.ref lt)) := hmF_t lt ds da dh ▸ DGet.k (k := kT) a.hh
theorem HmAt.gs {H : Hp} {h lt ds da dh : Addr} {th : List Thing} {ts : List T3} (a : HmAt H h lt ds da dh th ts) : DGet H h (.str "sorts") (some (.ref ds)) := hmF_s lt ds da dh ▸ DGet.k (k := kS) a.hh
theorem HmAt.ga {H : Hp} {h lt ds da dh : Addr} {th : List Thing} {ts : List T3} (a : HmAt H h lt ds da dh th ts) : DGet H h (.str "awake") (some (.ref da)) := hmF_a lt ds da dh ▸ DGet.k (k := kA) a.hh
theorem HmAt.gh {H : Hp} {h lt ds da dh : Addr} {th : List Thing} {ts : List T3} (a : HmAt H h lt ds da dh th ts) : DGet H h (.str "held") (some (.ref dh)) := hmF_h lt ds da dh ▸ DGet.k (k := kH) a.hh
theorem HmAt.of {H H' : Hp} {h lt ds da dh h' lt' ds' da' dh' : Addr} {th : List Thing} {ts : List T3} (a : HmAt H h lt ds da dh th ts) (s : Same H H') : HmAt H' h lt ds da dh th ts := a.kp (Same.kp s)
def spHou : Sp := fun vs H Q _ => vs = [] ∧ ∀ h lt ds da dh H', H h = none → H lt = none → H ds = none → H da = none → H dh = none → Same H H' → HmAt H' h lt ds da dh [] [] → Q (.ref h) H'
/-- what the law reckons as due of a holding that is asked for -/
def unR (ws nms : List Str) (n wd m : Str) : Option Rf := if n ∈ nms then (if m ∈ nms then (if wd ∈ ws then none else some (.one 4 wd)) else some (.one 3 m)) else some (.one 3 n)
def dueR (ws : List Str) (th : List Thing) (ts : List T3) (n wd m : Str) : Option Rf := match unR ws (nmL th) n wd m with
  | some r => some r
  | none => if awk th n = some true then (if (n, wd, m) ∈ ts then none else some (.held n wd m)) else some (.one 5 n)
def Told (u : Option Rf) (H : Hp) (Q : VK) : Prop := match u with
  | none => ∀ H', Same H H' → Q .non H'
  | some r => ∀ t H', Same H H' → H t = none → H' t = some (.tup (tupOf r)) → Q (.ref t) H'
theorem unR_none {ws nms : List Str} {n wd m : Str} (h : unR ws nms n wd m = none) : n ∈ nms ∧ m ∈ nms ∧ wd ∈ ws := by
  unfold unR at h
  split at h
  · split at h
    · split at h
      · exact ⟨by assumption, by assumption, by assumption⟩
      · cases h
    · cases h
  · cases h
def spUna : Sp := fun vs H Q _ => ∃ (h m lt ln lw : Addr) (kh km : List (L2.Key × V)) (n wd y : Str) (nms ws : List Str), vs = [.ref h, .ref m, .str n, .str wd, .str y] ∧ DGet H h (.str "things") (some (.ref ln)) ∧ H ln = some (.lst (nms.map V.str)) ∧ DGet H m (.str "words") (some (.ref lw)) ∧ H lw = some (.lst (ws.map V.str)) ∧ H h = some (.dK kh) ∧ H m = some (.dK km) ∧ Told (unR ws nms n wd y) H Q
theorem DGet.kp {H H' : Hp} {a : Addr} {kvs : List (L2.Key × V)} {k : Str} {v : V} (e : H a = some (.dK kvs)) (e' : H' a = some (.dK kvs)) (h : DGet H a (.str k) (some v)) : DGet H' a (.str k) (some v) := by
  rcases h with ⟨ks, kk, q, ek, ev⟩ | ⟨ks, kk, b, q, eb, _⟩
  · rcases q with q | ⟨o, q⟩
    · rw [e] at q
      cases q
      exact .inl ⟨kvs, kk, .inl e', ek, ev⟩
    · rw [e] at q
      cases q
  · cases eb
def spDrD (K : PySem.W.Frag) : Sp := fun vs H Q _ => ∃ (h m lt ds da dh t : Addr) (n wd y : Str) (ss ws : List Str) (ms : List MkD) (rs : List RlD) (th : List Thing) (ts : List T3), vs = [.ref h, .ref m, .ref t] ∧ HmAt H h lt ds da dh th ts ∧ MdAt K H m ss ws ms rs ∧ H t = some (.tup [.str "drop", .str n, .str wd, .str y]) ∧ Told (dueR ws th ts n wd y) H Q
def spThg : Sp := fun vs H Q _ => ∃ (p h lt ds da dh : Addr) (th : List Thing) (ts : List T3), vs = [.ref p, .ref h] ∧ StOk H p ∧ HmAt H h lt ds da dh th ts ∧ th.length ≤ 60 ∧ (∀ z ∈ nmL th, okS z) ∧ ∀ (z : Str) H', (z = "stranger" ∨ z ∈ nmL th) → okS z → But p H H' → StOk H' p → Q (.str z) H'
theorem okS_stranger : okS "stranger" := by
  unfold okS
  decide +kernel
section
variable {P : Program} {w : World} {K : PySem.W.Frag} {mg : Str → Option Value} {base : Heap}
theorem scHou : FnScope [] [] (defScope sHou) := ⟨rfl, rfl, rfl, by decide +kernel, rfl, by decide +kernel, by decide +kernel⟩
theorem ok_hou {f : Addr} {fd : FuncData} (F : Fun K "_law_house" "_law_house" sHou f fd) : FnOk P w K mg base CX0 1 f fd [] spHou := by
  refine F.ok scHou (fun vs H Q E h => ?_) (fun cdv A outer s H vs Q E hr h => ?_)
  · obtain ⟨rfl, _⟩ := h
    rfl
  · obtain ⟨rfl, k⟩ := h
    refine ⟨_, (pss_one (ps_ret (pe_disp (pps_cons pe_str (pe_lst pa_nil) (pps_cons pe_str pe_dnewK (pps_cons pe_str pe_dnewK (pps_cons pe_str pe_dnewT pps_nil)))) (by rfl) (by rfl) (fun z => by cases z) (by decide)))), ?_⟩
    intro h hh
    refine ⟨Nat.zero_le _, fun lt hlt => ?_⟩
    intro ds hds da hda dh hdh
    have S1 : Same H (upd H h (.dK [])) := Same.upd hh
    have S2 : Same (upd H h (.dK [])) (upd (upd H h (.dK [])) lt (.lst [])) := Same.upd hlt
    have S3 : Same (upd (upd H h (.dK [])) lt (.lst [])) (upd (upd (upd H h (.dK [])) lt (.lst [])) ds (.dK [])) := Same.upd hds
    have S4 : Same (upd (upd (upd H h (.dK [])) lt (.lst [])) ds (.dK [])) (upd (upd (upd (upd H h (.dK [])) lt (.lst [])) ds (.dK [])) da (.dK [])) := Same.upd hda
    have S5 : Same (upd (upd (upd (upd H h (.dK [])) lt (.lst [])) ds (.dK [])) da (.dK [])) (upd (upd (upd (upd (upd H h (.dK [])) lt (.lst [])) ds (.dK [])) da (.dK [])) dh (.dT [])) := Same.upd hdh
    have e1 := S2.trans (S3.trans (S4.trans S5)) _ _ (upd_same (H := H) (a := h) (o := .dK []))
    have e2 := (S3.trans (S4.trans S5)) _ _ (upd_same (H := upd H h (.dK [])) (a := lt) (o := .lst []))
    have e3 := (S4.trans S5) _ _ (upd_same (H := upd (upd H h (.dK [])) lt (.lst [])) (a := ds) (o := .dK []))
    have e4 := S5 _ _ (upd_same (H := upd (upd (upd H h (.dK [])) lt (.lst [])) ds (.dK [])) (a := da) (o := .dK []))
    have e5 : (upd (upd (upd (upd (upd H h (.dK [])) lt (.lst [])) ds (.dK [])) da (.dK [])) dh (.dT [])) dh = some (.dT []) := upd_same
    have n1 : h ≠ ds := ne_of_none (S2 _ _ (upd_same (H := H) (a := h) (o := .dK []))) hds
    have n2 : h ≠ da := ne_of_none ((S2.trans S3) _ _ (upd_same (H := H) (a := h) (o := .dK []))) hda
    have n3 : ds ≠ da := ne_of_none (upd_same (H := upd (upd H h (.dK [])) lt (.lst [])) (a := ds) (o := .dK [])) hda
    have S15 := S1.trans (S2.trans (S3.trans (S4.trans S5)))
    generalize hG : (upd (upd (upd (upd (upd H h (.dK [])) lt (.lst [])) ds (.dK [])) da (.dK [])) dh (.dT [])) = G at e1 e2 e3 e4 e5 S15
    refine ⟨e1, [(kT, .ref lt), (kS, .ref ds), (kA, .ref da), (kH, .ref dh)], rfl, by show 4 ≤ 15; decide, ?_⟩
    rw [hmF_mk]
    have T : ∀ {a : Addr} {o : HO}, a ≠ h → G a = some o → (upd G h (.dK (hmF lt ds da dh))) a = some o := fun n e => (upd_ne n).trans e
    refine k h lt ds da dh _ hh (S1.free hlt) ((S1.trans S2).free hds) (((S1.trans S2).trans S3).free hda) ((((S1.trans S2).trans S3).trans S4).free hdh) (fun b o e => T (ne_of_none e hh) (S15 b o e)) ⟨upd_same, T (ne_of e2 e1 (by intro z; cases z)) e2, T n1.symm e3, T n2.symm e4, T (ne_of e5 e1 (by intro z; cases z)) e5, n3, n1, n2⟩
theorem scUna : FnScope ["_law_h", "_law_m", "_law_x", "_law_word", "_law_y", "_law_name_here"] ["_law_h", "_law_m", "_law_x", "_law_word", "_law_y"] (defScope sUna) := ⟨rfl, rfl, rfl, by decide +kernel, rfl, by decide +kernel, by decide +kernel⟩
theorem ok_una {f : Addr} {fd : FuncData} (F : Fun K "_law_unasked" "_law_unasked" sUna f fd) : FnOk P w K mg base CX0 1 f fd ["_law_h", "_law_m", "_law_x", "_law_word", "_law_y"] spUna := by
  refine F.ok scUna (fun vs H Q E h => ?_) (fun cdv A outer s H vs Q E hr h => ?_)
  · obtain ⟨h, m, lt, ln, lw, kh, km, n, wd, y, nms, ws, rfl, _⟩ := h
    rfl
  · obtain ⟨h, m, lt, ln, lw, kh, km, n, wd, y, nms, ws, rfl, gt, hl, gw, hw, eh, em, q⟩ := h
    have hu := hu_of hr
    refine ⟨_, (pss_cons (ps_for PassesOwn.never rfl (pi_list (pe_lst (pa_cons (pv 2) (pa_cons (pv 4) pa_nil)))) (pg_name (i := 5) scUna.nd rfl (Or.inl rfl)) (pss_one (ps_if (pt_cmpR op_notIn_seq (pv 5) (pe_dget hu (pv 0) pe_str (fun _ _ => rfl)) (by rfl)) (pss_one (ps_ret (pe_tup (pa_cons pe_str (pa_cons (pv 5) pa_nil))))) pss_nil)))
      (pss_cons (ps_if (pt_cmpR op_notIn_seq (pv 3) (pe_dget hu (pv 1) pe_str (fun _ _ => rfl)) (by rfl)) (pss_one (ps_ret (pe_tup (pa_cons pe_str (pa_cons (pv 3) pa_nil))))) pss_nil)
      (pss_one (ps_ret pe_non)))), ?_⟩
    refine ⟨_, rfl, _, rfl, by show 2 ≤ sizeLine; decide, fun l nl => ?_⟩
    have S1 : Same H (upd H l (.lst [.str n, .str y])) := Same.upd nl
    have el : (upd H l (.lst [.str n, .str y])) l = some (.lst [.str n, .str y]) := upd_same
    have hl1 := S1 _ _ hl
    have hw1 := S1 _ _ hw
    have gt1 := DGet.kp eh (S1 _ _ eh) gt
    have gw1 := DGet.kp em (S1 _ _ em) gw
    generalize upd H l (.lst [.str n, .str y]) = H1 at S1 el hl1 hw1 gt1 gw1
    unfold unR at q
    refine ⟨l, rfl, ⟨_, SqL.of el⟩, for_list (K := K) (a := l) (xs := [.str n, .str y]) (fun i σ H' => (∃ v, σ = [some (.ref h), some (.ref m), some (.str n), some (.str wd), some (.str y), v]) ∧ H' = H1 ∧ (1 ≤ i → n ∈ nms) ∧ (2 ≤ i → y ∈ nms)) ⟨⟨none, rfl⟩, rfl, fun z => absurd z (by decide), fun z => absurd z (by decide)⟩ (fun i σ H' _ p => by rw [p.2.1]; exact SqL.of el) ?_ ?_⟩
    · rintro i v σ H' hi ⟨⟨v', rfl⟩, rfl, g1, g2⟩
      have hy : (i = 0 ∧ v = .str n) ∨ (i = 1 ∧ v = .str y) := by
        match i, hi with
        | 0, hi => exact .inl ⟨rfl, (Option.some.inj hi).symm⟩
        | 1, hi => exact .inr ⟨rfl, (Option.some.inj hi).symm⟩
        | k + 2, hi => simp at hi
      rcases hy with ⟨rfl, rfl⟩ | ⟨rfl, rfl⟩
      · refine ⟨_, rfl, _, rfl, h, _, rfl, gt1, ln, _, rfl, .inl (SqL.of hl1), rfl, flats nms, _, rfl, ?_⟩
        show if (!inV (.str n) (nms.map V.str)) = true then _ else _
        rw [inV_strs]
        by_cases hn : n ∈ nms
        · rw [decide_eq_true hn]
          exact iteF ⟨⟨_, rfl⟩, rfl, fun _ => hn, fun z => absurd z (by decide)⟩
        · rw [if_neg hn] at q
          rw [decide_eq_false hn]
          exact iteT ⟨_, rfl, by show 2 ≤ sizeLine; decide, fun t nt => q t _ (S1.trans (Same.upd nt)) (S1.free nt) upd_same⟩
      · refine ⟨_, rfl, _, rfl, h, _, rfl, gt1, ln, _, rfl, .inl (SqL.of hl1), rfl, flats nms, _, rfl, ?_⟩
        show if (!inV (.str y) (nms.map V.str)) = true then _ else _
        rw [inV_strs]
        rw [if_pos (g1 (Nat.le_refl _))] at q
        by_cases hn : y ∈ nms
        · rw [decide_eq_true hn]
          exact iteF ⟨⟨_, rfl⟩, rfl, fun _ => g1 (Nat.le_refl _), fun _ => hn⟩
        · rw [if_neg hn] at q
          rw [decide_eq_false hn]
          exact iteT ⟨_, rfl, by show 2 ≤ sizeLine; decide, fun t nt => q t _ (S1.trans (Same.upd nt)) (S1.free nt) upd_same⟩
    · rintro σ H' ⟨⟨v, rfl⟩, rfl, g1, g2⟩
      rw [if_pos (g1 (by show 1 ≤ 2; decide)), if_pos (g2 (by show 2 ≤ 2; decide))] at q
      refine ⟨_, rfl, _, rfl, m, _, rfl, gw1, lw, _, rfl, .inl (SqL.of hw1), rfl, flats ws, _, rfl, ?_⟩
      show if (!inV (.str wd) (ws.map V.str)) = true then _ else _
      rw [inV_strs]
      by_cases hn : wd ∈ ws
      · rw [if_pos hn] at q
        rw [decide_eq_true hn]
        exact iteF (q _ S1)
      · rw [if_neg hn] at q
        rw [decide_eq_false hn]
        exact iteT ⟨_, rfl, by show 2 ≤ sizeLine; decide, fun t nt => q t _ (S1.trans (Same.upd nt)) (S1.free nt) upd_same⟩
theorem scDrD : FnScope ["_law_h", "_law_m", "_law_deed_here", "_law_kind", "_law_x", "_law_word", "_law_y", "_law_due_here"] ["_law_h", "_law_m", "_law_deed_here"] (defScope sDrD) := ⟨rfl, rfl, rfl, by decide +kernel, rfl, by decide +kernel, by decide +kernel⟩
theorem ok_drd {f fU : Addr} {fd dU : FuncData} (F : Fun K "_law_drop_due" "_law_drop_due" sDrD f fd) (DU : Dn K mg "_law_unasked" sUna ["_law_h", "_law_m", "_law_x", "_law_word", "_law_y"] fU dU) : FnOk P w K mg base CX0 2 f fd ["_law_h", "_law_m", "_law_deed_here"] (spDrD K) := by
  have GU : FnOk P w K mg base CX0 1 fU dU _ spUna := ok_una DU.F
  refine F.ok scDrD (fun vs H Q E h => ?_) (fun cdv A outer s H vs Q E hr h => ?_)
  · obtain ⟨h, m, lt, ds, da, dh, t, n, wd, y, ss, ws, ms, rs, th, ts, rfl, _⟩ := h
    rfl
  · obtain ⟨h, m, lt, ds, da, dh, t, n, wd, y, ss, ws, ms, rs, th, ts, rfl, hm, md, ht, q⟩ := h
    have hu := hu_of hr
    have hr1 : Room 1 _ := hr
    refine ⟨_, (pss_cons (ps_asg (pv 2) (pg_tup rfl (pgs_cons (pg_name (i := 3) scDrD.nd rfl (Or.inl rfl)) (pgs_cons (pg_name (i := 4) scDrD.nd rfl (Or.inl rfl)) (pgs_cons (pg_name (i := 5) scDrD.nd rfl (Or.inl rfl)) (pgs_cons (pg_name (i := 6) scDrD.nd rfl (Or.inl rfl)) pgs_nil))))))
      (pss_cons (ps_set (i := 7) scDrD.nd rfl (Or.inl rfl) (pe_call GU hr1 rfl DU.g DU.F.kp DU.b .nil pass0 (pa_cons (pv 0) (pa_cons (pv 1) (pa_cons (pv 4) (pa_cons (pv 5) (pa_cons (pv 6) pa_nil)))))))
      (pss_cons (ps_if (pt_cmp (pc_notN (pv 7))) (pss_one (ps_ret (pv 7))) pss_nil)
      (pss_cons (ps_if (pt_not (pt_val (pe_dget hu (pe_dget hu (pv 0) pe_str (fun _ _ => rfl)) (pv 4) (fun _ _ => rfl)))) (pss_one (ps_ret (pe_tup (pa_cons pe_str (pa_cons (pv 4) pa_nil))))) pss_nil)
      (pss_cons (ps_if (pt_cmp (pc_dnotin hu (pe_tup (pa_cons (pv 4) (pa_cons (pv 5) (pa_cons (pv 6) pa_nil)))) (pe_dget hu (pv 0) pe_str (fun _ _ => rfl)))) (pss_one (ps_ret (pe_tup (pa_cons pe_str (pa_cons (pv 4) (pa_cons (pv 5) (pa_cons (pv 6) pa_nil))))))) pss_nil)
      (pss_one (ps_ret pe_non))))))), ?_⟩
    refine ⟨_, rfl, t, _, rfl, SqT.of ht, rfl, _, _, rfl, _, _, rfl, _, _, rfl, _, _, rfl, rfl, ?_⟩
    dsimp only [gName, List.set_cons_succ, List.set_cons_zero]
    have md' := md
    obtain ⟨l1, l2, l3, l4, as, bs, m0, m1, m2, _⟩ := md'
    refine ⟨_, rfl, _, rfl, _, rfl, _, rfl, _, rfl, h, m, lt, lt, l2, _, _, n, wd, y, nmL th, ws, rfl, hm.gt, hm.ht, md4_w l1 l2 l3 l4 ▸ DGet.k (k := kW) m0, m2, hm.hh, m0, ?_⟩
    unfold dueR at q
    cases hu' : unR ws (nmL th) n wd y with
    | some r =>
      rw [hu'] at q
      intro t1 H1 S1 n1 e1
      dsimp only [gName, List.set_cons_succ, List.set_cons_zero]
      refine ⟨_, rfl, _, rfl, ?_⟩
      exact iteT ⟨_, rfl, q t1 H1 S1 n1 e1⟩
    | none =>
      rw [hu'] at q
      obtain ⟨hn, hy, hw⟩ := unR_none hu'
      obtain ⟨b, hb⟩ := awk_some hn
      have q : Told (if awk th n = some true then (if (n, wd, y) ∈ ts then none else some (.held n wd y)) else some (.one 5 n)) H Q := q
      intro H1 S1
      dsimp only [gName, List.set_cons_succ, List.set_cons_zero]
      refine ⟨_, rfl, _, rfl, ?_⟩
      refine iteF ?_
      have hm1 := hm.of (h' := h) (lt' := h) (ds' := h) (da' := h) (dh' := h) S1
      have ga : DGet H1 da (.str n) (some (.bl b)) := by
        have e := DGet.k (k := Sum.inr n) hm1.ha
        rw [val2, hb] at e
        exact e
      refine ⟨_, rfl, h, _, rfl, hm1.ga, _, rfl, da, _, rfl, ga, _, rfl, ?_⟩
      cases b with
      | false =>
        rw [if_neg (by rw [hb]; decide)] at q
        exact iteT ⟨_, rfl, by show 2 ≤ sizeLine; decide, fun t nt => q t _ (S1.trans (Same.upd nt)) (S1.free nt) upd_same⟩
      | true =>
        rw [if_pos hb] at q
        refine iteF ?_
        refine ⟨_, rfl, _, rfl, _, rfl, by show 3 ≤ sizeLine; decide, fun t2 nt2 => ?_⟩
        have S2 : Same H1 (upd H1 t2 (.tup [.str n, .str wd, .str y])) := Same.upd nt2
        have e2 : (upd H1 t2 (.tup [.str n, .str wd, .str y])) t2 = some (.tup ((triK (n, wd, y)).map kV)) := upd_same
        generalize upd H1 t2 (.tup [.str n, .str wd, .str y]) = H2 at S2 e2
        have S02 := S1.trans S2
        have hm2 := hm.of (h' := h) (lt' := h) (ds' := h) (da' := h) (dh' := h) S02
        refine ⟨_, rfl, h, _, rfl, hm2.gh, dh, _, rfl, DGet.t (k := triK (n, wd, y)) hm2.he e2, _, rfl, ?_⟩
        rw [is3]
        by_cases hmem : (n, wd, y) ∈ ts
        · rw [if_pos hmem] at q
          rw [decide_eq_true hmem]
          exact iteF (q _ S02)
        · rw [if_neg hmem] at q
          rw [decide_eq_false hmem]
          exact iteT ⟨_, rfl, _, rfl, _, rfl, by show 4 ≤ sizeLine; decide, fun t nt => q t _ (S02.trans (Same.upd nt)) (S02.free nt) upd_same⟩
theorem scThg : FnScope ["_law_s", "_law_h"] ["_law_s", "_law_h"] (defScope sThg) := ⟨rfl, rfl, rfl, by decide +kernel, rfl, by decide +kernel, by decide +kernel⟩
theorem ok_thg {f fG : Addr} {fd dG : FuncData} (F : Fun K "_law_thing" "_law_thing" sThg f fd) (T : TxB mg) (DG : Dn K mg "_law_digit" sDigit ["_law_state_here", "_law_base"] fG dG) : FnOk P w K mg base CX0 2 f fd ["_law_s", "_law_h"] spThg := by
  have GG : FnOk P w K mg base CX0 1 fG dG _ spDigit := ok_digit DG.F
  refine F.ok scThg (fun vs H Q E h => ?_) (fun cdv A outer s H vs Q E hr h => ?_)
  · obtain ⟨p, h, lt, ds, da, dh, th, ts, rfl, _⟩ := h
    rfl
  · obtain ⟨p, h, lt, ds, da, dh, th, ts, rfl, st, hm, l60, on, k⟩ := h
    have hu := hu_of hr
    have hr1 : Room 1 _ := hr
    refine ⟨_, (pss_cons (ps_if (PW.pt (pw_or (pt_cmpR (op_eqD hr.units) (pe_dget hu (pv 1) pe_str (fun _ _ => rfl)) (pe_lst pa_nil) (nomark _)) (pw_or1 (pt_cmpR op_eq (pe_call GG hr1 rfl DG.g DG.F.kp DG.b .nil pass0 (pa_cons (pv 0) (pa_cons pe_int pa_nil))) pe_int (nomark _))))) (pss_one (ps_ret pe_str)) pss_nil)
      (pss_one (ps_ret (pe_ix ix_list (pe_dget hu (pv 1) pe_str (fun _ _ => rfl)) (pe_call GG hr1 rfl DG.g DG.F.kp DG.b .nil pass0 (pa_cons (pv 0) (pa_cons (pe_callB call_len_seq (by rfl) T.len (by decide +kernel) (pa_cons (pe_dget hu (pv 1) pe_str (fun _ _ => rfl)) pa_nil)) pa_nil))) (fun _ _ => rfl))))), ?_⟩
    refine ⟨_, rfl, h, _, rfl, hm.gt, Nat.zero_le _, fun l hl => ?_⟩
    have S1 : Same H (upd H l (.lst [])) := Same.upd hl
    have e1 : (upd H l (.lst [])) l = some (.lst []) := upd_same
    generalize upd H l (.lst []) = H1 at S1 e1
    have hm1 := hm.of (h' := h) (lt' := h) (ds' := h) (da' := h) (dh' := h) S1
    have st1 := st.same S1
    have B1 : But p H H1 := Same.but S1
    have nml : (nmL th).length = th.length := by unfold nmL; rw [List.length_map]
    refine ⟨_, _, .lst (SqL.of hm1.ht) (dp_strs _), .lst (SqL.of e1) .nil, shaped_strs on, by decide +kernel, _, rfl, ?_⟩
    refine ite2 (fun _ => ?_) (fun hne => ?_)
    · exact iteT (k _ H1 (.inl rfl) okS_stranger B1 st1)
    refine ⟨_, rfl, p, 14, rfl, st1, by decide, by decide, fun d H2 d0 d1 B2 st2 => ⟨rfl, _, rfl, ?_⟩⟩
    have B02 := B1.trans B2
    refine ite2 (fun _ => k _ H2 (.inl rfl) okS_stranger B02 st2) (fun _ => ?_)
    have hm2 := hm1.kp (B2.kp st1)
    have pos : 0 < (nmL th).length := by
      cases e : nmL th with
      | nil =>
        rw [e] at hne
        exact absurd (by decide +kernel) hne
      | cons a r => simp
    refine ⟨_, rfl, h, _, rfl, hm2.gt, _, rfl, _, rfl, h, _, rfl, hm2.gt, lt, _, rfl, .inl (SqL.of hm2.ht), p, _, rfl, st2, by rw [List.length_map]; omega, by rw [List.length_map]; omega, fun d' H3 d0' d1' B3 st3 => ?_⟩
    obtain ⟨z, hz, ez⟩ := str_get d0' d1'
    exact rdList ((B3.kp st2) _ _ ns_strs hm2.ht) (j := d'.toNat) (by omega) ez (k z H3 (.inr hz) (on z hz) (B02.trans B3) st3)
end
end Wm
namespace Wm
open PySem PySem.Spec PyProof.Rows L2
/-- len(o), o an instance of the class at C, whose __len__ is the def at f -/
def rLenO (C : Addr) (sp : Sp) : List V → Hp → VK → Prop := fun xs H Q => ∃ (a dx : Addr) (fs : List (Str × V)), xs = [.ref a] ∧ H a = some (.ins C dx fs) ∧ sp [.ref a] H (fun v H' => ∃ n : Nat, v = .int n ∧ n ≤ 1000000 ∧ Q (.int n) H') E0
theorem call_lenO {X : Cx} {C f : Addr} {fd : FuncData} {k : Nat} {sp : Sp} (hs : PySem.W.findIn X.K (.ref C) "__len__" = some (some (.ref f))) (hf : PySem.W.isFn X.K (.ref f) = true) (F : FnOk X.prog X.w X.K X.mg X.base CX0 k f fd ["self"] sp) (hr : Room (k + 1) X.A) (hb : L2.Binds X.K fd ["self"] []) :
    CallR X (.builtin "len") (rLenO C sp) := by
  intro pins s σ H xs us Q I r h
  obtain ⟨a, dx, fs, rfl, ha, h⟩ := h
  cases r with
  | cons rx rr =>
    cases rr
    cases rx
    obtain ⟨mA, ob, _⟩ := ins_get I.hok ha
    obtain ⟨od, J, _⟩ := ob.look
    have hr1 : Room k X.A.in1 := hr.in1
    obtain ⟨m, hF⟩ := I.fr
    refine PySem.W.len_K hF I.ok.mod.kin J hs hf ?_
    have hl : ([Value.ref a] ++ []).length = (["self"] : List Str).length := rfl
    have rv : Vals [V.ref a] [Value.ref a] := .cons rfl .nil
    refine wpAny_call (codeAny_mono (F.run X.A.in1 X.stack s H ⟨[Value.ref a], []⟩ [Value.ref a] [V.ref a] _ E0 hr1 I.env0.in1 (hb s [Value.ref a] I.kIn hl) rv h) fun r s' hq => ?_)
    cases r with
    | error e => exact hq.elim
    | ok fl =>
      cases fl with
      | ret u =>
        obtain ⟨v, H', J', ru, n, rfl, hn, q⟩ := I.after (Q := fun v H' => ∃ n : Nat, v = .int n ∧ n ≤ 1000000 ∧ Q (.int n) H') hq
        obtain ⟨t, rfl⟩ := ru
        exact ⟨⟨by omega, by omega⟩, .int n, H', J'.tok _, ⟨_, rfl⟩, q⟩
      | next => exact False.elim hq
      | brk => exact False.elim hq
      | cont => exact False.elim hq
section
variable {X : Cx} {p pos : Pos}
/-- an own error made with nothing handed in: its context is None -/
theorem pmkN_oex0 {CX : CXT} {x : Str} {C fI : Addr} {k : Nat} {fd : FuncData} {ps : List Str} {sp : Sp} (T : OexC X.K C) (iC : PySem.W.findIn X.K (.ref C) "__init__" = some (some (.ref fI))) (tI : PySem.W.typeIn X.K (.ref fI) = some (.type "function"))
    (G : FnOk X.prog X.w X.K X.mg X.base CX k fI fd ps sp) (hr : Room (k + 1) X.A) (hb : L2.Binds X.K fd ps []) (hx : Passes CX X (fun _ _ _ => False)) (hg : Gl X x) (hm : X.mg x = some (.ref C))
    (hdb : (x == ("__debug__" : Str)) = false := by decide) :
    L2N.PMk X (.Call (.Name x p) [] [] pos) (tMkO C sp [] tNil) := by
  intro pins s σ H Q I h
  obtain ⟨nm, q, N, bs, bm, sn, sub, ab, col, dd, k0, k1, k2, k3, k5, hC, hbm⟩ := T.cls
  refine wpAny_Call_Name_kw (ld_glob I hg hm (PySem.W.callWith_K0 I.kIn T.kC ?_) hdb)
  obtain ⟨hp, g, dr, tk, os⟩ := s
  obtain ⟨hz, q1⟩ := h
  generalize hA : hp.objs.size + 1 = A1 at *
  have le : hp.objs.size ≤ A1 := by omega
  have fr : H A1 = none := I.hok.fresh le
  have hq := q1 A1 fr
  rw [List.append_nil] at hq
  have kp : ∀ b o, hp.get? b = some o → ((hp.push (PySem.W.kdv_tup [])).push (PySem.HandSPX.excO C hp.objs.size)).get? b = some o := fun b o z => Heap.get?_push_of_some _ (Heap.get?_push_of_some _ z)
  have new : ((hp.push (PySem.W.kdv_tup [])).push (PySem.HandSPX.excO C hp.objs.size)).get? A1 = some (PySem.HandSPX.excO C hp.objs.size) := by
    rw [← hA]
    heap_get
  have I2 : Inv X pins σ (upd H A1 (exo A1 C none)) ⟨(hp.push (PySem.W.kdv_tup [])).push (PySem.HandSPX.excO C hp.objs.size), g, dr, tk, os⟩ := I.laid (t' := tk) (a := A1) (o := exo A1 C none) kp le (exo_ok new)
  have r2 : Vals (V.ref A1 :: []) (Value.ref A1 :: []) := .cons rfl .nil
  have ln : (Value.ref A1 :: [] ++ []).length = ps.length := by
    rw [List.append_nil, ← r2.length]
    exact G.len _ _ _ _ hq
  have b2 := hb _ (Value.ref A1 :: []) I2.kIn ln
  rw [List.append_nil] at b2
  subst hA
  refine wpAny_call (PySem.HandSPX.call_own F.excBase_ValueError (fun Y => PySem.HandSPX.refsVE_contains Y bm hbm) (I.kIn _ _ hC) (PySem.W.looks_findIn I.kIn iC) (fun self => PySem.W.bind_fn I.kIn self tI) (Nat.zero_le _)
    (codeAny_mono (G.run _ X.stack _ _ _ _ _ _ (fun _ _ _ => False) (hr.make C [] []) (I2.env0.make C [] []) b2 r2 hq) fun r s' hq' => ?_))
  cases r with
  | error er => exact hx pins σ _ _ er s' I2 hq'
  | ok fl =>
    cases fl with
    | next => exact hq'.elim
    | brk => exact hq'.elim
    | cont => exact hq'.elim
    | ret u =>
      obtain ⟨v, H2, os2, bare2, un2, hok2, rv, rfl, d, fs, ea, ed, hd1, q2⟩ := hq'
      obtain ⟨h2, g2, d2, t2, os'⟩ := s'
      obtain ⟨t0, W, J, kW, ge, hoe, na⟩ := mk_end0 (d2 := d2) (t2 := t2) I le kp un2 hok2 os2 bare2 ea ed hd1
      refine ⟨rv, hp.objs.size + 1, _, _, ⟨W, g2, d2, t2, os'⟩, _, .ref C, some d, rfl, J, kW, ge, hoe, ⟨rfl, rfl, fun vs hv => ?_⟩, rfl, rfl, na, rfl, bare2, raises_own T.exC T.tyC, q2⟩
      cases hv
      rfl
end
end Wm
namespace Wm
open PySem L2 StX
theorem srt_some {th : List Thing} {n : Str} (h : n ∈ nmL th) : ∃ b, srt th n = some b := by
  unfold srt
  cases e : th.find? fun t => decide (t.1 = n) with
  | some t => exact ⟨_, rfl⟩
  | none =>
    obtain ⟨t, ht, rfl⟩ := List.mem_map.mp h
    have q := List.find?_eq_none.mp e t ht
    simp at q
def spRgt (HC S : Addr) : Sp := fun vs H Q _ => ∃ (x dx sc d1 d2 d3 h lt ds da dh : Addr) (ss ws : List Str) (th : List Thing) (ts : List T3), vs = [.ref x, .ref h] ∧ HsAt HC S H x dx sc d1 d2 d3 ss ws th ts ∧ HmAt H h lt ds da dh th ts ∧ (∀ z ∈ nmL th, okS z) ∧ (∀ t ∈ ts, okT t) ∧ th.length ≤ 100 ∧ ∀ H', Same H H' → Q (.bl true) H'
section
variable {P : Program} {w : World} {K : PySem.W.Frag} {mg : Str → Option Value} {base : Heap}
theorem scRgt : FnScope ["_law_house_here", "_law_h", "_law_name_here"] ["_law_house_here", "_law_h"] (defScope sRgt) := ⟨rfl, rfl, rfl, by decide +kernel, rfl, by decide +kernel, by decide +kernel⟩
theorem ok_rgt {f HC S fH fTh fHe fSo fIa fLn : Addr} {fd dTh dHe dSo dIa dLn : FuncData} (F : Fun K "_law_right" "_law_right" sRgt f fd) (T : TxB mg) (tl : mg "list" = none) (tsr : mg "sorted" = none) (TH : TxH K mg HC fH)
    (mTh : Meth K HC "things" fTh) (bTh : Binds K dTh ["self"] []) (GTh : FnOk P w K mg base CX0 1 fTh dTh ["self"] (spHth HC S)) (mHe : Meth K HC "held" fHe) (bHe : Binds K dHe ["self"] []) (GHe : FnOk P w K mg base CX0 1 fHe dHe ["self"] (spHhe K HC S))
    (mSo : Meth K HC "sort_of" fSo) (bSo : Binds K dSo ["self", "x"] []) (GSo : FnOk P w K mg base CX0 2 fSo dSo ["self", "x"] (spHso HC S)) (mIa : Meth K HC "is_awake" fIa) (bIa : Binds K dIa ["self", "x"] []) (GIa : FnOk P w K mg base CX0 2 fIa dIa ["self", "x"] (spHia HC S))
    (hLn : PySem.W.findIn K (.ref HC) "__len__" = some (some (.ref fLn))) (iLn : PySem.W.isFn K (.ref fLn) = true) (bLn : Binds K dLn ["self"] []) (GLn : FnOk P w K mg base CX0 1 fLn dLn ["self"] (spHln HC S)) :
    FnOk P w K mg base CX0 3 f fd ["_law_house_here", "_law_h"] (spRgt HC S) := by
  refine F.ok scRgt (fun vs H Q E h => ?_) (fun cdv A outer s H vs Q E hr h => ?_)
  · obtain ⟨x, dx, sc, d1, d2, d3, h, lt, ds, da, dh, ss, ws, th, ts, rfl, _⟩ := h
    rfl
  · obtain ⟨x, dx, sc, d1, d2, d3, h, lt, ds, da, dh, ss, ws, th, ts, rfl, hh, hm, on, ot, t60, k⟩ := h
    have hr1 : Room 1 _ := hr.mono (by decide)
    have hr2 : Room 2 _ := hr
    have hu := hu_of hr
    have noM : ∀ {f : Str}, ¬ f = "standing" → ¬ f = "awake_by_name" → ¬ f = "sort_by_name" → ¬ f = "own_scheme" → (hsF sc d1 d2 d3).lookup f = none := fun a b c d => hsF_no a b c d _ _ _ _
    have HM : ∀ {H' : Hp}, Same H H' → HmAt H' h lt ds da dh th ts := fun S => hm.kp (Same.kp S)
    refine ⟨_, (pss_cons (ps_if (PW.pt (pw_or (pt_cmpR (op_neD hr.units) (pe_meth0 (pv 0) TH.cl mTh GTh hr1 bTh .nil pass0) (pe_dget hu (pv 1) pe_str (fun _ _ => rfl)) (nomark _)) (pw_or1 (pt_cmpR op_ne (pe_callB (call_lenO hLn iLn GLn hr2 bLn) (by rfl) T.len (by decide +kernel) (pa_cons (pv 0) pa_nil)) (pe_callB call_len_seq (by rfl) T.len (by decide +kernel) (pa_cons (pe_dget hu (pv 1) pe_str (fun _ _ => rfl)) pa_nil)) (nomark _))))) (pss_one (ps_ret pe_bl)) pss_nil)
      (pss_cons (ps_for PassesOwn.never rfl (pi_list (pe_dget hu (pv 1) pe_str (fun _ _ => rfl))) (pg_name (i := 2) scRgt.nd rfl (Or.inl rfl)) (pss_one (ps_if (PW.pt (pw_or (pt_cmpR op_ne (pe_meth (pv 0) TH.cl mSo GSo hr2 bSo .nil pass0 (pa_cons (pv 2) pa_nil)) (pe_dget hu (pe_dget hu (pv 1) pe_str (fun _ _ => rfl)) (pv 2) (fun _ _ => rfl)) (nomark _)) (pw_or1 (pt_cmpR op_ne (pe_cmpR op_isBl (pe_meth (pv 0) TH.cl mIa GIa hr2 bIa .nil pass0 (pa_cons (pv 2) pa_nil)) pe_bl (nomark _)) (pe_dget hu (pe_dget hu (pv 1) pe_str (fun _ _ => rfl)) (pv 2) (fun _ _ => rfl)) (nomark _))))) (pss_one (ps_ret pe_bl)) pss_nil)))
      (pss_one (ps_ret (pe_cmpR (op_eqD hr.units) (pe_meth0 (pv 0) TH.cl mHe GHe hr1 bHe .nil pass0) (pe_callB (cr_sortTL hr.units) (by rfl) tsr (by decide +kernel) (pa_cons (pe_callTy (call_list_dT rfl) (by rfl) tl (by decide +kernel) (pa_cons (pe_dget hu (pv 1) pe_str (fun _ _ => rfl)) pa_nil)) pa_nil)) (nomark _)))))), ?_⟩
    refine ⟨_, rfl, x, dx, _, rfl, hh.hx, noM (by decide +kernel) (by decide +kernel) (by decide +kernel) (by decide +kernel), x, dx, sc, d1, d2, d3, ss, ws, th, ts, rfl, hh, fun l1 hl1 => ?_⟩
    have S1 : Same H (upd H l1 (.lst ((nmL th).map V.str))) := Same.upd hl1
    have e1 : (upd H l1 (.lst ((nmL th).map V.str))) l1 = some (.lst ((nmL th).map V.str)) := upd_same
    generalize upd H l1 (.lst ((nmL th).map V.str)) = H1 at S1 e1
    have shn : SeqAt.shaped (.list ((nmL th).map PyData.str)) = true := shaped_strs on
    refine ⟨_, rfl, h, _, rfl, (HM S1).gt, _, _, .lst (SqL.of e1) (dp_strs _), .lst (SqL.of (HM S1).ht) (dp_strs _), shn, shn, _, rfl, ?_⟩
    rw [eqv_self shn]
    refine iteF ?_
    have hh1 := hh.same S1
    have hm1 := HM S1
    refine ⟨_, rfl, x, dx, _, rfl, hh1.hx, x, dx, sc, d1, d2, d3, ss, ws, th, ts, rfl, hh1, th.length, rfl, by omega, ?_⟩
    refine ⟨_, rfl, h, _, rfl, hm1.gt, lt, _, rfl, .inl (SqL.of hm1.ht), rfl, _, rfl, ?_⟩
    have nml : ((nmL th).map V.str).length = th.length := by unfold nmL; rw [List.length_map, List.length_map]
    rw [nml]
    refine ite2 (fun c => absurd c (by simp)) (fun _ => ?_)
    refine ⟨_, rfl, h, _, rfl, hm1.gt, lt, rfl, ⟨_, SqL.of hm1.ht⟩, for_list (K := K) (a := lt) (xs := (nmL th).map V.str) (fun i σ H' => (∃ u, σ = [some (.ref x), some (.ref h), u]) ∧ H' = H1) ⟨⟨none, rfl⟩, rfl⟩ (fun i σ H' _ p => by rw [p.2]; exact SqL.of hm1.ht) ?_ ?_⟩
    · rintro i y σ H' hi ⟨⟨u, rfl⟩, rfl⟩
      obtain ⟨n, hn, rfl⟩ := map_str_get hi
      have mn : n ∈ nmL th := List.mem_of_getElem? hn
      obtain ⟨b, hb⟩ := awk_some mn
      obtain ⟨so, hso⟩ := srt_some mn
      dsimp only [gName, List.set_cons_succ, List.set_cons_zero]
      have ga : DGet H' da (.str n) (some (.bl b)) := by
        have e := DGet.k (k := Sum.inr n) hm1.ha
        rw [val2, hb] at e
        exact e
      have gs : DGet H' ds (.str n) (some (.str so)) := by
        have e := DGet.k (k := Sum.inr n) hm1.hs
        rw [val1s, hso] at e
        exact e
      refine ⟨_, rfl, x, dx, _, rfl, hh1.hx, noM (by decide +kernel) (by decide +kernel) (by decide +kernel) (by decide +kernel), _, rfl, x, dx, sc, d1, d2, d3, n, so, ss, ws, th, ts, rfl, hh1, mn, hso, _, rfl, h, _, rfl, hm1.gs, _, rfl, ds, _, rfl, gs, rfl, _, rfl, ?_⟩
      refine ite2 (fun c => absurd c (by simp)) (fun _ => ?_)
      refine ⟨_, rfl, x, dx, _, rfl, hh1.hx, noM (by decide +kernel) (by decide +kernel) (by decide +kernel) (by decide +kernel), _, rfl, x, dx, sc, d1, d2, d3, n, b, ss, ws, th, ts, rfl, hh1, mn, hb, _, _, rfl, rfl, _, rfl, h, _, rfl, hm1.ga, _, rfl, da, _, rfl, ga, rfl, _, rfl, ?_⟩
      exact ite2 (fun c => absurd c (by cases b <;> simp)) (fun _ => ⟨⟨_, rfl⟩, rfl⟩)
    rintro σ H' ⟨⟨u, rfl⟩, rfl⟩
    have sh : SeqAt.shaped (.list ((sortT ts).map triD3)) = true := shaped_tris fun t ht => ot t (sortT_mem.mp ht)
    refine ⟨_, rfl, x, dx, _, rfl, hh1.hx, noM (by decide +kernel) (by decide +kernel) (by decide +kernel) (by decide +kernel), x, dx, sc, d1, d2, d3, ss, ws, th, ts, rfl, hh1, fun qs l hq hln => ?_⟩
    have S2 : Same H' (upd H' l (.lst (qs.map V.ref))) := Same.upd hln
    have e2 : (upd H' l (.lst (qs.map V.ref))) l = some (.lst (qs.map V.ref)) := upd_same
    have tq2 := hq.same fun z => same_seqT S2 z
    generalize upd H' l (.lst (qs.map V.ref)) = H2 at S2 e2 tq2
    have hm2 := HM (S1.trans S2)
    refine ⟨_, rfl, h, _, rfl, hm2.gh, dh, _, rfl, .inl hm2.he, fun lk bs hlk hbs => ?_⟩
    have S3 : Same H2 (upd H2 lk (.lst (bs.map V.ref))) := Same.upd hlk
    have tr3 : TrisAt K (upd H2 lk (.lst (bs.map V.ref))) bs ts := (keys_tris hbs (keys3 ts)).same fun z => same_seqT S3 z
    refine ⟨lk, bs, ts, rfl, SqL.of upd_same, tr3, fun qs2 kl hqs2 hkl => ?_⟩
    have S4 : Same (upd H2 lk (.lst (bs.map V.ref))) (upd (upd H2 lk (.lst (bs.map V.ref))) kl (.lst (qs2.map V.ref))) := Same.upd hkl
    have ek : (upd (upd H2 lk (.lst (bs.map V.ref))) kl (.lst (qs2.map V.ref))) kl = some (.lst (qs2.map V.ref)) := upd_same
    have tk := hqs2.same fun z => same_seqT S4 z
    have S34 := S3.trans S4
    generalize upd (upd H2 lk (.lst (bs.map V.ref))) kl (.lst (qs2.map V.ref)) = H4 at S34 ek tk
    refine ⟨_, _, .lst (SqL.of (S34 _ _ e2)) (dp_tris (tq2.same fun z => same_seqT S34 z)), .lst (SqL.of ek) (dp_tris tk), sh, sh, ?_⟩
    rw [eqv_self sh]
    exact k _ ((S1.trans S2).trans S34)
end
end Wm
namespace Wm
open PySem L2 StX
/-- all that was tracked stands, but at the four -/
def Fr4 (p d1 d2 d3 : Addr) (H H' : Hp) : Prop := ∀ q o, q ≠ p → q ≠ d1 → q ≠ d2 → q ≠ d3 → H q = some o → H' q = some o
section
variable {p d1 d2 d3 a : Addr} {H0 H H' : Hp} {o : HO}
theorem Fr4.refl : Fr4 p d1 d2 d3 H H := fun _ _ _ _ _ _ h => h
theorem Fr4.same (f : Fr4 p d1 d2 d3 H0 H) (s : Same H H') : Fr4 p d1 d2 d3 H0 H' := fun q o n1 n2 n3 n4 h => s _ _ (f q o n1 n2 n3 n4 h)
theorem Fr4.but (f : Fr4 p d1 d2 d3 H0 H) (s : But p H H') : Fr4 p d1 d2 d3 H0 H' := fun q o n1 n2 n3 n4 h => s _ _ n1 (f q o n1 n2 n3 n4 h)
theorem Fr4.but3 (f : Fr4 p d1 d2 d3 H0 H) (s : But d3 H H') : Fr4 p d1 d2 d3 H0 H' := fun q o n1 n2 n3 n4 h => s _ _ n4 (f q o n1 n2 n3 n4 h)
theorem Fr4.but12 (f : Fr4 p d1 d2 d3 H0 H) (s : ∀ q o, q ≠ d1 → q ≠ d2 → H q = some o → H' q = some o) : Fr4 p d1 d2 d3 H0 H' := fun q o n1 n2 n3 n4 h => s _ _ n2 n3 (f q o n1 n2 n3 n4 h)
theorem Fr4.new (f : Fr4 p d1 d2 d3 H0 H) (n : H0 a = none) : Fr4 p d1 d2 d3 H0 (upd H a o) := fun q u n1 n2 n3 n4 h => by
  rw [upd_ne (ne_of_none h n)]
  exact f q u n1 n2 n3 n4 h
theorem Fr4.free (f : Fr4 p d1 d2 d3 H0 H) (n1 : a ≠ p) (n2 : a ≠ d1) (n3 : a ≠ d2) (n4 : a ≠ d3) (h : H a = none) : H0 a = none := by
  cases e : H0 a with
  | none => rfl
  | some o =>
    rw [f a o n1 n2 n3 n4 e] at h
    cases h
end
/-- what stands whatever becomes of states and dicts -/
def Kq (H H' : Hp) : Prop := ∀ a o, NotSt o → (∀ k, o ≠ .dK k) → (∀ k, o ≠ .dT k) → H a = some o → H' a = some o
theorem Fr4.kq {p d1 d2 d3 : Addr} {H H' : Hp} {k1 k2 : List (L2.Key × V)} {k3 : List (List L2.Key × V)} (f : Fr4 p d1 d2 d3 H H') (st : StOk H p) (e1 : H d1 = some (.dK k1)) (e2 : H d2 = some (.dK k2)) (e3 : H d3 = some (.dT k3)) : Kq H H' := fun a o n nk nt h =>
  f a o (But.ne st h n) (ne_of h e1 (nk _)) (ne_of h e2 (nk _)) (ne_of h e3 (nt _)) h
section
variable {K : PySem.W.Frag} {H H' : Hp}
theorem Kq.lst (k : Kq H H') {a : Addr} {xs : List V} (n : NotSt (.lst xs)) (h : H a = some (.lst xs)) : H' a = some (.lst xs) := k _ _ n (fun _ z => by cases z) (fun _ z => by cases z) h
theorem Kq.tup (k : Kq H H') {a : Addr} {xs : List V} (h : H a = some (.tup xs)) : H' a = some (.tup xs) := k _ _ ns_tup (fun _ z => by cases z) (fun _ z => by cases z) h
theorem Kq.ins (k : Kq H H') {a C d : Addr} {fs : List (Str × V)} (h : H a = some (.ins C d fs)) : H' a = some (.ins C d fs) := k _ _ ns_ins (fun _ z => by cases z) (fun _ z => by cases z) h
theorem Kq.sqT (k : Kq H H') {a : Addr} {xs : List V} (h : SqT K H a xs) : SqT K H' a xs := by
  rcases h with (h | ⟨o, h⟩) | h
  · exact .inl (.inl (k.tup h))
  · exact .inl (.inr ⟨o, k _ _ ns_frz (fun _ z => by cases z) (fun _ z => by cases z) h⟩)
  · exact .inr h
theorem SchAt.kq (k : Kq H H') {S x : Addr} {ss ws : List Str} (h : SchAt S H x ss ws) : SchAt S H' x ss ws := by
  obtain ⟨dx, l1, l2, l3, l4, l5, a, b, c⟩ := h.ex
  exact ⟨dx, l1, l2, l3, l4, l5, k.ins a, k.lst ns_strs b, k.lst ns_strs c⟩
theorem MMak.kq (k : Kq H H') {a : Addr} {m : MkD} (h : MMak H a m) : MMak H' a m := by
  obtain ⟨ld, lu, h1, h2, h3⟩ := h
  exact ⟨ld, lu, k.tup h1, k.lst ns_strs h2, k.lst ns_strs h3⟩
theorem MRul.kq (k : Kq H H') {a : Addr} {r : RlD} (h : MRul K H a r) : MRul K H' a r := by
  obtain ⟨lv, lc, g, ps, qs, h1, h2, h3, h4, h5, h6⟩ := h
  exact ⟨lv, lc, g, ps, qs, k.tup h1, k.lst ns_refs h2, rows_imp (fun q => k.sqT q) h3, k.lst ns_refs h4, rows_imp (fun q => k.sqT q) h5, k.tup h6⟩
theorem MdAt.kq (k : Kq H H') {d : Addr} {ss ws : List Str} {ms : List MkD} {rs : List RlD} (hd : ∀ o, H d = some o → H' d = some o) (h : MdAt K H d ss ws ms rs) : MdAt K H' d ss ws ms rs := by
  obtain ⟨l1, l2, l3, l4, as, bs, h0, h1, h2, h3, h4, h5, h6⟩ := h
  exact ⟨l1, l2, l3, l4, as, bs, hd _ h0, k.lst ns_strs h1, k.lst ns_strs h2, k.lst ns_refs h3, h4.imp fun _ _ q => q.kq k, k.lst ns_refs h5, h6.imp fun _ _ q => q.kq k⟩
end
theorem unk_mem {C D : Addr} {ws nms : List Str} {n wd m : Str} (h1 : n ∈ nms) (h2 : m ∈ nms) (h3 : wd ∈ ws) : unk C D ws nms n wd m = none := by
  unfold unk
  rw [if_pos h1, if_pos h2, if_pos h3]
theorem add_all {P : T3 → Prop} {ts : List T3} {t : T3} (h : ∀ u ∈ ts, P u) (ht : P t) : ∀ u ∈ addT ts t, P u := fun u hu => by
  unfold addT at hu
  split at hu
  · exact h u hu
  · rcases List.mem_append.mp hu with q | q
    · exact h u q
    · rw [List.mem_singleton.mp q]
      exact ht
def spBeg (K : PySem.W.Frag) (HC S : Addr) : Sp := fun vs H Q _ => ∃ (p m x dx sc d1 d2 d3 : Addr) (many : Nat) (ss ws : List Str) (ms : List MkD) (rs : List RlD), vs = [.ref p, .ref m, .ref x, .int many] ∧ StOk H p ∧ MdAt K H m ss ws ms rs ∧ MdlOk ss ws ms rs ∧ HsAt HC S H x dx sc d1 d2 d3 ss ws [] [] ∧ m ≠ d1 ∧ m ≠ d2 ∧ 1 ≤ many ∧ many ≤ 55 ∧
  ∀ h lt ds da dh th ts H', H h = none → H lt = none → H ds = none → H da = none → H dh = none → Fr4 p d1 d2 d3 H H' → StOk H' p → HsAt HC S H' x dx sc d1 d2 d3 ss ws th ts → HmAt H' h lt ds da dh th ts → MdAt K H' m ss ws ms rs → Drawn (nmL th) → th.length = many → (∀ t ∈ th, t.2.1 ∈ ss) → ts.length ≤ 3 * many → (∀ t ∈ ts, t.1 ∈ nmL th ∧ t.2.1 ∈ ws ∧ t.2.2 ∈ nmL th) → Q (.ref h) H'
section
variable {P : Program} {w : World} {K : PySem.W.Frag} {mg : Str → Option Value} {base : Heap}
theorem scBeg : FnScope ["_law_s", "_law_m", "_law_house_here", "_law_many", "_law_h", "_law_name_here", "_law_sort", "_law_awake", "_law_k", "_law_x", "_law_word", "_law_y"] ["_law_s", "_law_m", "_law_house_here", "_law_many"] (defScope sBeg) := ⟨rfl, rfl, rfl, by decide +kernel, rfl, by decide +kernel, by decide +kernel⟩
theorem ok_beg {f HC S C D fHC fG fN fHo fEn fGi : Addr} {fd dG dN dHo dEn dGi : FuncData} (F : Fun K "_law_begun" "_law_begun" sBeg f fd) (T : TxB mg) (TH : TxH K mg HC fHC) (DG : Dn K mg "_law_digit" sDigit ["_law_state_here", "_law_base"] fG dG) (DN : Dn K mg "_law_names" sNms ["_law_s", "_law_many"] fN dN) (GN : FnOk P w K mg base CX0 3 fN dN ["_law_s", "_law_many"] spNms) (DHo : Dn K mg "_law_house" sHou [] fHo dHo)
    (mEn : Meth K HC "enter" fEn) (bEn : Binds K dEn ["self", "name", "sort", "awake"] []) (GEn : FnOk P w K mg base CX0 3 fEn dEn ["self", "name", "sort", "awake"] (spHen HC S))
    (mGi : Meth K HC "give" fGi) (bGi : Binds K dGi ps4 []) (GGi : FnOk P w K mg base (L2N.CX P w) 6 fGi dGi ps4 (spGiv HC S C D)) : FnOk P w K mg base CX0 7 f fd ["_law_s", "_law_m", "_law_house_here", "_law_many"] (spBeg K HC S) := by
  have GG : FnOk P w K mg base CX0 1 fG dG _ spDigit := ok_digit DG.F
  have GHo : FnOk P w K mg base CX0 1 fHo dHo _ spHou := ok_hou DHo.F
  refine F.ok scBeg (fun vs H Q E h => ?_) (fun cdv A outer s H vs Q E hr h => ?_)
  · obtain ⟨p, m, x, dx, sc, d1, d2, d3, many, ss, ws, ms, rs, rfl, _⟩ := h
    rfl
  · obtain ⟨p, m, x, dx, sc, d1, d2, d3, many, ss, ws, ms, rs, rfl, hS, hmd, ok, hs0, nm1, nm2, many1, many2, k⟩ := h
    have hr1 : Room 1 _ := hr.mono (by decide)
    have hr3 : Room 3 _ := hr.mono (by decide)
    have hr6 : Room 6 _ := hr
    have hu := hu_of hr
    have noM : ∀ {f : Str}, ¬ f = "standing" → ¬ f = "awake_by_name" → ¬ f = "sort_by_name" → ¬ f = "own_scheme" → (hsF sc d1 d2 d3).lookup f = none := fun a b c d => hsF_no a b c d _ _ _ _
    refine ⟨_, (pss_cons (ps_set (i := 4) scBeg.nd rfl (Or.inl rfl) (pe_call0 GHo hr1 rfl DHo.g DHo.F.kp DHo.b .nil pass0))
      (pss_cons (ps_for PassesOwn.never rfl (pi_list (pe_call GN hr3 rfl DN.g DN.F.kp DN.b .nil pass0 (pa_cons (pv 0) (pa_cons (pv 3) pa_nil)))) (pg_name (i := 5) scBeg.nd rfl (Or.inl rfl)) (pss_cons (ps_set (i := 6) scBeg.nd rfl (Or.inl rfl) (pe_ix ix_list (pe_dget hu (pv 1) pe_str (fun _ _ => rfl)) (pe_call GG hr1 rfl DG.g DG.F.kp DG.b .nil pass0 (pa_cons (pv 0) (pa_cons (pe_callB call_len_seq (by rfl) T.len (by decide +kernel) (pa_cons (pe_dget hu (pv 1) pe_str (fun _ _ => rfl)) pa_nil)) pa_nil))) (fun _ _ => rfl)))
      (pss_cons (ps_set (i := 7) scBeg.nd rfl (Or.inl rfl) (pe_cmpR op_gt (pe_call GG hr1 rfl DG.g DG.F.kp DG.b .nil pass0 (pa_cons (pv 0) (pa_cons pe_int pa_nil))) pe_int (nomark _)))
      (pss_cons (ps_expr (pe_bm PySem.F.plainAttrs_list PySem.F.slot_list_append PySem.F.type_list_append mt_append (pe_dget hu (pv 4) pe_str (fun _ _ => rfl)) (pa_cons (pv 5) pa_nil)))
      (pss_cons (ps_dput hu (pe_dget hu (pv 4) pe_str (fun _ _ => rfl)) (pv 5) (pv 6) rfl)
      (pss_cons (ps_dput hu (pe_dget hu (pv 4) pe_str (fun _ _ => rfl)) (pv 5) (pv 7) rfl)
      (pss_one (ps_expr (pe_meth (pv 2) TH.cl mEn GEn hr3 bEn .nil pass0 (pa_cons (pv 5) (pa_cons (pv 6) (pa_cons (pv 7) pa_nil))))))))))))
      (pss_cons (ps_for PassesOwn.never rfl (pi_range1 rfl T.range (pa_cons (pe_call GG hr1 rfl DG.g DG.F.kp DG.b .nil pass0 (pa_cons (pv 0) (pa_cons (pe_op op_mul pe_int (pv 3)) pa_nil))) pa_nil)) (pg_name (i := 8) scBeg.nd rfl (Or.inl rfl)) (pss_cons (ps_set (i := 9) scBeg.nd rfl (Or.inl rfl) (pe_ix ix_list (pe_dget hu (pv 4) pe_str (fun _ _ => rfl)) (pe_call GG hr1 rfl DG.g DG.F.kp DG.b .nil pass0 (pa_cons (pv 0) (pa_cons (pv 3) pa_nil))) (fun _ _ => rfl)))
      (pss_cons (ps_set (i := 10) scBeg.nd rfl (Or.inl rfl) (pe_ix ix_list (pe_dget hu (pv 1) pe_str (fun _ _ => rfl)) (pe_call GG hr1 rfl DG.g DG.F.kp DG.b .nil pass0 (pa_cons (pv 0) (pa_cons (pe_callB call_len_seq (by rfl) T.len (by decide +kernel) (pa_cons (pe_dget hu (pv 1) pe_str (fun _ _ => rfl)) pa_nil)) pa_nil))) (fun _ _ => rfl)))
      (pss_cons (ps_set (i := 11) scBeg.nd rfl (Or.inl rfl) (pe_ix ix_list (pe_dget hu (pv 4) pe_str (fun _ _ => rfl)) (pe_call GG hr1 rfl DG.g DG.F.kp DG.b .nil pass0 (pa_cons (pv 0) (pa_cons (pv 3) pa_nil))) (fun _ _ => rfl)))
      (pss_cons (ps_dput hu (pe_dget hu (pv 4) pe_str (fun _ _ => rfl)) (pe_tup (pa_cons (pv 9) (pa_cons (pv 10) (pa_cons (pv 11) pa_nil)))) pe_bl rfl)
      (pss_one (ps_expr (pe_meth (E := E0) (pv 2) TH.cl mGi GGi hr6 bGi .nil (L2N.passes_call takesN0 (fun _ _ _ _ h => h)) (pa_cons (pv 9) (pa_cons (pv 10) (pa_cons (pv 11) pa_nil)))))))))))
      (pss_one (ps_ret (pv 4)))))), ?_⟩
    have hmd0 := hmd
    obtain ⟨l1, l2, l3, l4, as, bs, m0, m1, m2, _⟩ := hmd0
    have nmp : m ≠ p := But.ne hS m0 ns_dK
    have nm3 : m ≠ d3 := ne_of m0 hs0.h3 (by intro z; cases z)
    have kqO : ∀ {H' : Hp}, Fr4 p d1 d2 d3 H H' → Kq H H' := fun f => f.kq hS hs0.h1 hs0.h2 hs0.h3
    have mO : ∀ {H' : Hp}, Fr4 p d1 d2 d3 H H' → H' m = some (.dK (md4 l1 l2 l3 l4)) := fun f => f _ _ nmp nm1 nm2 nm3 m0
    have dgS : ∀ {H' : Hp}, Fr4 p d1 d2 d3 H H' → DGet H' m (.str "sorts") (some (.ref l1)) := fun f => md4_s l1 l2 l3 l4 ▸ DGet.k (k := kS) (mO f)
    have dgW : ∀ {H' : Hp}, Fr4 p d1 d2 d3 H H' → DGet H' m (.str "words") (some (.ref l2)) := fun f => md4_w l1 l2 l3 l4 ▸ DGet.k (k := kW) (mO f)
    have hsO : ∀ {H' : Hp} {th : List Thing} {ts : List T3}, Fr4 p d1 d2 d3 H H' → H' d1 = some (.dK (k1 th)) → H' d2 = some (.dK (k2 th)) → H' d3 = some (.dT (k3 ts)) → HsAt HC S H' x dx sc d1 d2 d3 ss ws th ts := fun f e1 e2 e3 => ⟨(kqO f).ins hs0.hx, hs0.hs.kq (kqO f), e1, e2, e3, hs0.ne⟩
    have d1p : d1 ≠ p := But.ne hS hs0.h1 ns_dK
    have d2p : d2 ≠ p := But.ne hS hs0.h2 ns_dK
    have d3p : d3 ≠ p := But.ne hS hs0.h3 ns_dT
    have s1 := ok.s1
    have s4 := ok.s4
    have w1 := ok.w1
    have w3 := ok.w3
    have slen : ((ss.map V.str).length : Int) = ss.length := by rw [List.length_map]
    have wlen : ((ws.map V.str).length : Int) = ws.length := by rw [List.length_map]
    refine ⟨rfl, fun h lt ds da dh H1 h0 lt0 ds0 da0 dh0 S1 hm1 => ?_⟩
    dsimp only [gName, List.set_cons_succ, List.set_cons_zero]
    have st1 := hS.same S1
    have f1 : Fr4 p d1 d2 d3 H H1 := Fr4.refl.same S1
    have h_d1 : h ≠ d1 := (ne_of_none hs0.h1 h0).symm
    have h_d2 : h ≠ d2 := (ne_of_none hs0.h2 h0).symm
    have ds_d1 : ds ≠ d1 := (ne_of_none hs0.h1 ds0).symm
    have ds_d2 : ds ≠ d2 := (ne_of_none hs0.h2 ds0).symm
    have da_d1 : da ≠ d1 := (ne_of_none hs0.h1 da0).symm
    have da_d2 : da ≠ d2 := (ne_of_none hs0.h2 da0).symm
    have dh_d3 : dh ≠ d3 := (ne_of_none hs0.h3 dh0).symm
    refine ⟨_, rfl, _, rfl, p, many, rfl, st1, by omega, by omega, fun zs ln H2 nln nlp B2 st2 hl2 zl znd znm => ?_⟩
    have f2 := f1.but B2
    have k2' := B2.kp st1
    have hm2 := hm1.kp k2'
    have nlt : ln ≠ lt := (ne_of_none hm1.ht nln).symm
    have ln0 : H ln = none := S1.free nln
    refine ⟨ln, rfl, ⟨_, SqL.of hl2⟩, for_list (K := K) (a := ln) (xs := zs.map V.str) (fun i σ H' => ∃ (u5 u6 u7 : Option V) (th : List Thing), σ = [some (.ref p), some (.ref m), some (.ref x), some (.int many), some (.ref h), u5, u6, u7, none, none, none, none] ∧
      HmAt H' h lt ds da dh th [] ∧ H' d1 = some (.dK (k1 th)) ∧ H' d2 = some (.dK (k2 th)) ∧ H' d3 = some (.dT (k3 [])) ∧ StOk H' p ∧ Fr4 p d1 d2 d3 H H' ∧ H' ln = some (.lst (zs.map V.str)) ∧ nmL th = zs.take i ∧ ∀ t ∈ th, t.2.1 ∈ ss)
      ⟨none, none, none, [], rfl, hm2, k2' _ _ ns_dK (S1 _ _ hs0.h1), k2' _ _ ns_dK (S1 _ _ hs0.h2), k2' _ _ ns_dT (S1 _ _ hs0.h3), st2, f2, hl2, rfl, fun _ h => (List.not_mem_nil h).elim⟩ (fun i σ H' _ ⟨_, _, _, _, _, _, _, _, _, _, _, h, _⟩ => SqL.of h) ?_ ?_⟩
    · rintro i y σ H3 hi ⟨u5, u6, u7, th, rfl, hm3, e31, e32, e33, st3, f3, hl3, enm, hso⟩
      obtain ⟨n, hn, rfl⟩ := map_str_get hi
      have hil : i < zs.length := (List.getElem?_eq_some_iff.mp hn).1
      have hz := znm n (List.mem_of_getElem? hn)
      have hthl : th.length = i := by
        have e := congrArg List.length enm
        unfold nmL at e
        rw [List.length_map, List.length_take] at e
        omega
      have hnew : n ∉ nmL th := fun hm => by
        rw [enm] at hm
        obtain ⟨j, hj⟩ := List.mem_iff_getElem?.mp hm
        have hlt : j < i := by
          have q := (List.getElem?_eq_some_iff.mp hj).1
          rw [List.length_take] at q
          omega
        rw [List.getElem?_take_of_lt hlt] at hj
        have q := idx_uniq znd hj hn
        omega
      dsimp only [gName, List.set_cons_succ, List.set_cons_zero]
      refine ⟨_, rfl, m, _, rfl, dgS f3, _, rfl, _, rfl, m, _, rfl, dgS f3, l1, _, rfl, .inl (SqL.of ((kqO f3).lst ns_strs m1)), p, _, rfl, st3, by rw [slen]; omega, by rw [slen]; omega, fun da' H4 a4 b4 B4 st4 => ?_⟩
      obtain ⟨so, hsm, eso⟩ := str_get a4 b4
      have f4 := f3.but B4
      refine rdList ((kqO f4).lst ns_strs m1) (j := da'.toNat) (by omega) eso ?_
      dsimp only [gName, List.set_cons_succ, List.set_cons_zero]
      refine ⟨_, rfl, p, 4, rfl, st4, by decide, by decide, fun db H5 a5 b5 B5 st5 => ⟨_, _, rfl, rfl, ?_⟩⟩
      dsimp only [gName, List.set_cons_succ, List.set_cons_zero]
      generalize decide (0 < db) = b
      have f5 := f4.but B5
      have k5 := (B4.kp st3).trans (B5.kp st4)
      have hm5 := hm3.kp k5
      have e51 := k5 _ _ ns_dK e31
      have e52 := k5 _ _ ns_dK e32
      have e53 := k5 _ _ ns_dT e33
      have hl5 := k5 _ _ ns_strs hl3
      -- the law's own house: things
      refine ⟨_, rfl, h, _, rfl, hm5.gt, .inl ⟨rfl, _, SqL.of hm5.ht⟩, _, rfl, lt, _, _, rfl, rfl, hm5.ht, ?_, ?_⟩
      · unfold nmL
        rw [List.length_map, List.length_map]
        exact Nat.lt_of_le_of_lt (show _ ≤ 1000 by omega) (by decide)
      have eT : (nmL th).map V.str ++ [.str n] = (nmL (th ++ [(n, so, b)])).map V.str := by
        unfold nmL
        rw [List.map_append, List.map_append]
        rfl
      rw [eT]
      have T6 : ∀ {a : Addr} {u : HO}, a ≠ lt → H5 a = some u → (upd H5 lt (.lst ((nmL (th ++ [(n, so, b)])).map V.str))) a = some u := fun n e => (upd_ne n).trans e
      have t6 : (upd H5 lt (.lst ((nmL (th ++ [(n, so, b)])).map V.str))) lt = some (.lst ((nmL (th ++ [(n, so, b)])).map V.str)) := upd_same
      have f6 : Fr4 p d1 d2 d3 H (upd H5 lt (.lst ((nmL (th ++ [(n, so, b)])).map V.str))) := f5.new lt0
      have st6 : StOk (upd H5 lt (.lst ((nmL (th ++ [(n, so, b)])).map V.str))) p := st5.upd (But.ne st5 hm5.ht ns_strs)
      generalize upd H5 lt (.lst ((nmL (th ++ [(n, so, b)])).map V.str)) = H6 at T6 t6 f6 st6
      have h6 := T6 (ne_of hm5.hh hm5.ht (by intro z; cases z)) hm5.hh
      have s6 := T6 (ne_of hm5.hs hm5.ht (by intro z; cases z)) hm5.hs
      have a6 := T6 (ne_of hm5.ha hm5.ht (by intro z; cases z)) hm5.ha
      have g6 := T6 (ne_of hm5.he hm5.ht (by intro z; cases z)) hm5.he
      have e61 := T6 (ne_of e51 hm5.ht (by intro z; cases z)) e51
      have e62 := T6 (ne_of e52 hm5.ht (by intro z; cases z)) e52
      have e63 := T6 (ne_of e53 hm5.ht (by intro z; cases z)) e53
      have l6 := T6 nlt hl5
      have kl : (k1 th).length < sizeLine := by
        unfold k1
        rw [List.length_map]
        exact Nat.lt_of_le_of_lt (show _ ≤ 1000 by omega) (by decide)
      have kl2 : (k2 th).length < sizeLine := by
        unfold k2
        rw [List.length_map]
        exact Nat.lt_of_le_of_lt (show _ ≤ 1000 by omega) (by decide)
      -- sorts
      refine ⟨_, rfl, _, rfl, h, _, rfl, hmF_s lt ds da dh ▸ DGet.k (k := kS) h6, _, rfl, ds, _, rfl, DPut.k (k := Sum.inr n) s6 kl, ?_⟩
      rw [new1 (b := b) hnew]
      have T7 : ∀ {a : Addr} {u : HO}, a ≠ ds → H6 a = some u → (upd H6 ds (.dK (k1 (th ++ [(n, so, b)])))) a = some u := fun n e => (upd_ne n).trans e
      have s7 : (upd H6 ds (.dK (k1 (th ++ [(n, so, b)])))) ds = some (.dK (k1 (th ++ [(n, so, b)]))) := upd_same
      have f7 : Fr4 p d1 d2 d3 H (upd H6 ds (.dK (k1 (th ++ [(n, so, b)])))) := f6.new ds0
      have st7 : StOk (upd H6 ds (.dK (k1 (th ++ [(n, so, b)])))) p := st6.upd (But.ne st6 s6 ns_dK)
      generalize upd H6 ds (.dK (k1 (th ++ [(n, so, b)]))) = H7 at T7 s7 f7 st7
      have h7 := T7 hm5.nhs h6
      have t7 := T7 (ne_of t6 s6 (by intro z; cases z)) t6
      have a7 := T7 hm5.ne.symm a6
      have g7 := T7 (ne_of g6 s6 (by intro z; cases z)) g6
      have e71 := T7 ds_d1.symm e61
      have e72 := T7 ds_d2.symm e62
      have e73 := T7 (ne_of e63 s6 (by intro z; cases z)) e63
      have l7 := T7 (ne_of l6 s6 (by intro z; cases z)) l6
      -- awake
      refine ⟨_, rfl, _, rfl, h, _, rfl, hmF_a lt ds da dh ▸ DGet.k (k := kA) h7, _, rfl, da, _, rfl, DPut.k (k := Sum.inr n) a7 kl2, ?_⟩
      rw [new2 (s := so) hnew]
      have T8 : ∀ {a : Addr} {u : HO}, a ≠ da → H7 a = some u → (upd H7 da (.dK (k2 (th ++ [(n, so, b)])))) a = some u := fun n e => (upd_ne n).trans e
      have a8 : (upd H7 da (.dK (k2 (th ++ [(n, so, b)])))) da = some (.dK (k2 (th ++ [(n, so, b)]))) := upd_same
      have f8 : Fr4 p d1 d2 d3 H (upd H7 da (.dK (k2 (th ++ [(n, so, b)])))) := f7.new da0
      have st8 : StOk (upd H7 da (.dK (k2 (th ++ [(n, so, b)])))) p := st7.upd (But.ne st7 a7 ns_dK)
      generalize upd H7 da (.dK (k2 (th ++ [(n, so, b)]))) = H8 at T8 a8 f8 st8
      have h8 := T8 hm5.nha h7
      have t8 := T8 (ne_of t7 a7 (by intro z; cases z)) t7
      have s8 := T8 hm5.ne s7
      have g8 := T8 (ne_of g7 a7 (by intro z; cases z)) g7
      have e81 := T8 da_d1.symm e71
      have e82 := T8 da_d2.symm e72
      have e83 := T8 (ne_of e73 a7 (by intro z; cases z)) e73
      have l8 := T8 (ne_of l7 a7 (by intro z; cases z)) l7
      have hs8 := hsO f8 e81 e82 e83
      refine ⟨_, rfl, x, dx, _, rfl, hs8.hx, noM (by decide +kernel) (by decide +kernel) (by decide +kernel) (by decide +kernel), _, rfl, _, rfl, _, rfl, x, dx, sc, d1, d2, d3, n, so, b, _, _, th, [], rfl, hs8, nm_is hz.1 (by omega), by omega, hnew, hsm, by omega, fun H9 B9 hh9 => ?_⟩
      have lt_d : ∀ {a : Addr} {u : List V}, H8 a = some (.lst u) → H9 a = some (.lst u) := fun e => B9 _ _ (ne_of e e81 (by intro z; cases z)) (ne_of e e82 (by intro z; cases z)) e
      refine ⟨_, _, _, th ++ [(n, so, b)], rfl, ⟨B9 _ _ h_d1 h_d2 h8, lt_d t8, B9 _ _ ds_d1 ds_d2 s8, B9 _ _ da_d1 da_d2 a8, B9 _ _ (ne_of g8 e81 (by intro z; cases z)) (ne_of g8 e82 (by intro z; cases z)) g8, hm5.ne, hm5.nhs, hm5.nha⟩, hh9.h1, hh9.h2, hh9.h3, ?_, f8.but12 B9, lt_d l8, ?_, fun t ht => ?_⟩
      · obtain ⟨x, y, z, e, r⟩ := st8
        exact ⟨x, y, z, lt_d e, r⟩
      · unfold nmL at enm ⊢
        rw [List.map_append, enm, List.take_add_one, hn]
        rfl
      · rcases List.mem_append.mp ht with q | q
        · exact hso t q
        · rw [List.mem_singleton.mp q]
          exact hsm
    rintro σ H3 ⟨u5, u6, u7, th, rfl, hm3, e31, e32, e33, st3, f3, hl3, enm, hso⟩
    rw [List.length_map, List.take_length] at enm
    have hthl : th.length = many := by
      have e := congrArg List.length enm
      unfold nmL at e
      rw [List.length_map] at e
      omega
    have nml : (nmL th).length = many := by unfold nmL; rw [List.length_map]; exact hthl
    refine ⟨_, rfl, _, rfl, _, _, rfl, rfl, .inl ⟨by decide, by decide⟩, p, _, rfl, st3, by omega, by omega, fun dm H4 a4 b4 B4 st4 => ⟨_, rfl, by omega, by omega, ?_⟩⟩
    have k4 := B4.kp st3
    refine for_range (n := dm.toNat) (fun i σ H' => ∃ (u8 u9 u10 u11 : Option V) (ts : List T3), σ = [some (.ref p), some (.ref m), some (.ref x), some (.int many), some (.ref h), u5, u6, u7, u8, u9, u10, u11] ∧
      HmAt H' h lt ds da dh th ts ∧ H' d1 = some (.dK (k1 th)) ∧ H' d2 = some (.dK (k2 th)) ∧ H' d3 = some (.dT (k3 ts)) ∧ StOk H' p ∧ Fr4 p d1 d2 d3 H H' ∧ ts.length ≤ i ∧ ∀ t ∈ ts, t.1 ∈ nmL th ∧ t.2.1 ∈ ws ∧ t.2.2 ∈ nmL th)
      ⟨none, none, none, none, [], rfl, hm3.kp k4, k4 _ _ ns_dK e31, k4 _ _ ns_dK e32, k4 _ _ ns_dT e33, st4, f3.but B4, Nat.le_refl _, fun _ h => (List.not_mem_nil h).elim⟩ ?_ ?_
    · rintro i σ H5 hi ⟨u8, u9, u10, u11, ts, rfl, hm5, e51, e52, e53, st5, f5, tl5, tm5⟩
      dsimp only [gName, List.set_cons_succ, List.set_cons_zero]
      refine ⟨_, rfl, h, _, rfl, hm5.gt, _, rfl, _, rfl, p, many, rfl, st5, by omega, by omega, fun j6 H6 a6 b6 B6 st6 => ?_⟩
      obtain ⟨z1, hz1, ez1⟩ := str_get (ws := nmL th) a6 (by rw [List.length_map]; omega)
      have k6 := B6.kp st5
      refine rdList (k6 _ _ ns_strs hm5.ht) (j := j6.toNat) (by omega) ez1 ?_
      dsimp only [gName, List.set_cons_succ, List.set_cons_zero]
      have f6 := f5.but B6
      refine ⟨_, rfl, m, _, rfl, dgW f6, _, rfl, _, rfl, m, _, rfl, dgW f6, l2, _, rfl, .inl (SqL.of ((kqO f6).lst ns_strs m2)), p, _, rfl, st6, by rw [wlen]; omega, by rw [wlen]; omega, fun j7 H7 a7 b7 B7 st7 => ?_⟩
      obtain ⟨wd, hwd, ewd⟩ := str_get a7 b7
      have f7 := f6.but B7
      refine rdList ((kqO f7).lst ns_strs m2) (j := j7.toNat) (by omega) ewd ?_
      dsimp only [gName, List.set_cons_succ, List.set_cons_zero]
      have k7 := k6.trans (B7.kp st6)
      have hm7 := hm5.kp k7
      refine ⟨_, rfl, h, _, rfl, hm7.gt, _, rfl, _, rfl, p, many, rfl, st7, by omega, by omega, fun j8 H8 a8 b8 B8 st8 => ?_⟩
      obtain ⟨z2, hz2, ez2⟩ := str_get (ws := nmL th) a8 (by rw [List.length_map]; omega)
      have k8 := k7.trans (B8.kp st7)
      have hm8 := hm5.kp k8
      refine rdList hm8.ht (j := j8.toNat) (by omega) ez2 ?_
      dsimp only [gName, List.set_cons_succ, List.set_cons_zero]
      have f8 := f7.but B8
      refine ⟨_, rfl, h, _, rfl, hm8.gh, _, rfl, _, rfl, _, rfl, by show 3 ≤ sizeLine; decide, fun tt htt => ?_⟩
      have S9 : Same H8 (upd H8 tt (.tup [.str z1, .str wd, .str z2])) := Same.upd htt
      have e9 : (upd H8 tt (.tup [.str z1, .str wd, .str z2])) tt = some (.tup ((triK (z1, wd, z2)).map kV)) := upd_same
      generalize upd H8 tt (.tup [.str z1, .str wd, .str z2]) = H9 at S9 e9
      have hm9 := hm8.kp (Same.kp S9)
      have f9 := f8.same S9
      have st9 := st8.same S9
      have K9 := k8.trans (Same.kp S9)
      refine ⟨dh, _, rfl, DPut.t (k := triK (z1, wd, z2)) hm9.he e9 ?_, ?_⟩
      · unfold k3
        rw [List.length_map]
        exact Nat.lt_of_le_of_lt (show _ ≤ 1000 by omega) (by decide)
      rw [put3]
      have T10 : ∀ {a : Addr} {u : HO}, a ≠ dh → H9 a = some u → (upd H9 dh (.dT (k3 (addT ts (z1, wd, z2))))) a = some u := fun n e => (upd_ne n).trans e
      have g10 : (upd H9 dh (.dT (k3 (addT ts (z1, wd, z2))))) dh = some (.dT (k3 (addT ts (z1, wd, z2)))) := upd_same
      have f10 : Fr4 p d1 d2 d3 H (upd H9 dh (.dT (k3 (addT ts (z1, wd, z2))))) := f9.new dh0
      have st10 : StOk (upd H9 dh (.dT (k3 (addT ts (z1, wd, z2))))) p := st9.upd (But.ne st9 hm9.he ns_dT)
      generalize upd H9 dh (.dT (k3 (addT ts (z1, wd, z2)))) = H10 at T10 g10 f10 st10
      have e91 := K9 _ _ ns_dK e51
      have e92 := K9 _ _ ns_dK e52
      have e93 := K9 _ _ ns_dT e53
      have h10 := T10 (ne_of hm9.hh hm9.he (by intro z; cases z)) hm9.hh
      have t10 := T10 (ne_of hm9.ht hm9.he (by intro z; cases z)) hm9.ht
      have s10 := T10 (ne_of hm9.hs hm9.he (by intro z; cases z)) hm9.hs
      have a10 := T10 (ne_of hm9.ha hm9.he (by intro z; cases z)) hm9.ha
      have e101 := T10 (ne_of e91 hm9.he (by intro z; cases z)) e91
      have e102 := T10 (ne_of e92 hm9.he (by intro z; cases z)) e92
      have e103 := T10 dh_d3.symm e93
      have hs10 := hsO f10 e101 e102 e103
      refine ⟨_, rfl, x, dx, _, rfl, hs10.hx, noM (by decide +kernel) (by decide +kernel) (by decide +kernel) (by decide +kernel), _, rfl, _, rfl, _, rfl, x, dx, sc, d1, d2, d3, z1, wd, z2, ss, ws, th, ts, rfl, hs10, by omega, ?_⟩
      rw [unk_mem hz1 hz2 hwd]
      intro H11 B11 hs11
      have U : ∀ {a : Addr} {u : HO}, (∀ k, u ≠ .dT k) → H10 a = some u → H11 a = some u := fun n e => B11 _ _ (ne_of e e103 (n _)) e
      refine ⟨_, _, _, _, addT ts (z1, wd, z2), rfl, ⟨U (fun _ z => by cases z) h10, U (fun _ z => by cases z) t10, U (fun _ z => by cases z) s10, U (fun _ z => by cases z) a10, B11 _ _ dh_d3 g10, hm9.ne, hm9.nhs, hm9.nha⟩, hs11.h1, hs11.h2, hs11.h3, ?_, f10.but3 B11, ?_, add_all tm5 ⟨hz1, hwd, hz2⟩⟩
      · obtain ⟨x, y, z, e, r⟩ := st10
        exact ⟨x, y, z, U (fun _ z => by cases z) e, r⟩
      · have q := add_len ts (z1, wd, z2)
        omega
    · rintro σ H5 ⟨u8, u9, u10, u11, ts, rfl, hm5, e51, e52, e53, st5, f5, tl5, tm5⟩
      refine ⟨_, rfl, k h lt ds da dh th ts H5 h0 lt0 ds0 da0 dh0 f5 st5 (hsO f5 e51 e52 e53) hm5 (hmd.kq (kqO f5) fun o e => f5 _ _ nmp nm1 nm2 nm3 e) ⟨by rw [enm]; exact znd, by rw [enm]; exact znm⟩ hthl hso (by omega) tm5⟩
end
end Wm
namespace Wm
open PySem L2 StX
theorem SchAt.kp {H H' : Hp} (k : Kp H H') {S x : Addr} {ss ws : List Str} (h : SchAt S H x ss ws) : SchAt S H' x ss ws := by
  obtain ⟨dx, l1, l2, l3, l4, l5, a, b, c⟩ := h.ex
  exact ⟨dx, l1, l2, l3, l4, l5, k _ _ ns_ins a, k _ _ ns_strs b, k _ _ ns_strs c⟩
theorem HsAt.kp {H H' : Hp} (k : Kp H H') {HC S x dx sc d1 d2 d3 : Addr} {ss ws : List Str} {th : List Thing} {ts : List T3} (h : HsAt HC S H x dx sc d1 d2 d3 ss ws th ts) : HsAt HC S H' x dx sc d1 d2 d3 ss ws th ts :=
  ⟨k _ _ ns_ins h.hx, h.hs.kp k, k _ _ ns_dK h.h1, k _ _ ns_dK h.h2, k _ _ ns_dT h.h3, h.ne⟩
section
variable {K : PySem.W.Frag} {HC S : Addr} {H H' : Hp} {x dx sc d1 d2 d3 h lt ds da dh m : Addr} {ss ws : List Str} {ms : List MkD} {rs : List RlD} {th : List Thing} {ts us : List T3}
end
/-! ### what is due -/
def strsOf : Rf → List Str
  | .one i z => [kdOf i, z]
  | .full => ["full"]
  | .held x w y => ["notheld", x, w, y]
  | .mkg x y => ["nomaking", x, y]
  | .deed z => ["nodeed", z]
theorem tup_strs (r : Rf) : tupOf r = (strsOf r).map V.str := by cases r <;> rfl
theorem shaped_tstrs {zs : List Str} (h : ∀ z ∈ zs, okS z) : SeqAt.shaped (.tuple (zs.map PyData.str)) = true := by
  obtain ⟨h1, h2⟩ := lay_strs h
  simp [SeqAt.shaped, PyData.canLay0, PyData.depth, h1]
  omega
end Wm
/-! zip of a list and a tuple -/
namespace Wm
open PySem PySem.Spec PyProof.Rows L2
/-- the list at a and the tuple at b as they stand at each turn, the items in new pairs -/
def ItzM (K : PySem.W.Frag) (a b : Addr) : It :=
  ⟨fun i H => ∃ (xs ys : List V) (x y : V), SqL K H a xs ∧ SqT K H b ys ∧ xs[i]? = some x ∧ ys[i]? = some y,
    fun i H v H' => ∃ T x y, v = .ref T ∧ H T = none ∧ H' = upd H T (.tup [x, y]) ∧ (∀ xs, SqL K H a xs → xs[i]? = some x) ∧ ∀ ys, SqT K H b ys → ys[i]? = some y,
    fun i H => ∃ xs ys : List V, SqL K H a xs ∧ SqT K H b ys ∧ i ≤ xs.length ∧ i ≤ ys.length ∧ (i = xs.length ∨ i = ys.length)⟩
theorem sepM {z TI TO i1 i2 a b : Addr} (D : ZipApart z TI TO i1 i2 a b) : ZipSep2 z TI TO i1 i2 [i1, a] [i2, b] :=
  ⟨D.TIz, D.TOz, D.TITO, D.TIi1, by simp, by simp [D.i1z.symm, D.l1z.symm], by simp [D.TOi1, D.l1TO.symm], D.TIi2, by simp, by simp [D.i2z.symm, D.l2z.symm], by simp [D.TOi2, D.l2TO.symm], by simp [D.i12, D.l2i1.symm], by simp [D.i12.symm, D.l1i2.symm]⟩
theorem turn_zipM {P : Program} {w : World} {K : PySem.W.Frag} {elts : List Expr} {kk : Nat} {tpos : Pos} {a b z TI TO i1 i2 : Addr} (D : ZipApart z TI TO i1 i2 a b) :
    Turn P w K (.Tuple elts kk tpos) (ItzM K a b) [z, TI, TO, i1, i2] z (fun i h => IsZip h z TI TO .none ∧ IsPair h TI (.ref i1) (.ref i2) ∧ (∃ x y, IsPair h TO x y) ∧ h.IsListIter i1 a i ∧ h.IsTupleIter i2 b i) where
  mem := by simp
  obj := fun i h st c hc => by
    obtain ⟨hz, hTI, ⟨x, y, hTO⟩, ⟨o1, e1, _, d1⟩, ⟨o2, e2, _, d2⟩⟩ := st
    have e' : c = z ∨ c = TI ∨ c = TO ∨ c = i1 ∨ c = i2 := by simpa using hc
    rcases e' with q | q | q | q | q
    · rw [q]; exact ⟨_, hz, fun v q => nomatch q⟩
    · rw [q]; exact ⟨_, hTI, fun v q => nomatch q⟩
    · rw [q]; exact ⟨_, hTO, fun v q => nomatch q⟩
    · rw [q]; exact ⟨o1, e1, fun v q => by rw [d1] at q; cases q⟩
    · rw [q]; exact ⟨o2, e2, fun v q => by rw [d2] at q; cases q⟩
  keep := fun i h h' st k => by
    obtain ⟨hz, hTI, ⟨x, y, hTO⟩, h1, h2⟩ := st
    exact ⟨k z (by simp) _ hz, k TI (by simp) _ hTI, ⟨x, y, k TO (by simp) _ hTO⟩, h1.at fun o q => k i1 (by simp) o q, h2.at fun o q => k i2 (by simp) o q⟩
  item := by
    intro X hP hw hK hc i pins s σ H E I hf st hg
    subst hP hw hK
    obtain ⟨hz, hTI, ⟨x0, y0, hTO⟩, h1, h2⟩ := st
    obtain ⟨xs, ys, x, y, hqx, hqy, hx, hy⟩ := hg
    obtain ⟨its, rv, p, _⟩ := I.list hqx
    obtain ⟨its2, rv2, p2, _⟩ := I.tuple hqy
    obtain ⟨u, hu, ru⟩ := rv.get hx
    obtain ⟨u2, hu2, ru2⟩ := rv2.get hy
    have hzl : z < s.heap.objs.size := Heap.lt_size hz
    have hh : X.A.in1.handled = none := I.ok.hd hc
    have hu' : its.toArray[i]? = some u := by simpa using hu
    have hu2' : its2.toArray[i]? = some u2 := by simpa using hu2
    have lt1 : i < its.toArray.size := (Array.getElem?_eq_some_iff.mp hu').1
    have lt2 : i < its2.toArray.size := (Array.getElem?_eq_some_iff.mp hu2').1
    refine wpAny_pyNext_zipD2_item (sepM D) (Draws.list hh i1 a D.l1i1 its.toArray) (Draws.tuple hh i2 b D.l2i2 its2.toArray) hz hTI hTO ⟨h1, p.isList⟩ ⟨h2, p2⟩ lt1 lt2 fun x1 x2 h' tk P1 P2 z' TO' h1' h2' hT hsz hk => ?_
    have e1 : x1 = u := Option.some.inj (P1.symm.trans hu')
    have e2 : x2 = u2 := Option.some.inj (P2.symm.trans hu2')
    subst e1 e2
    refine ⟨_, rfl, wpAny_letOwnedTupleGo_zip (s := { s with heap := h', toks := tk }) z' fun h'' z'' sb => ?_⟩
    have hT2 : h''.get? s.heap.objs.size = some { cls := .type "tuple", data := .seq #[x1, x2] } := (sb.2 _ (Nat.ne_of_gt hzl)).trans hT
    have new : ObjOk X.prog X.w (upd H s.heap.objs.size (.tup [x, y])) h'' s.heap.objs.size (.tup [x, y]) :=
      ⟨by show 2 ≤ sizeLine; decide, [x1, x2], .cons ru (.cons ru2 .nil), ⟨_, hT2, rfl, _, rfl⟩⟩
    have I1 : Inv X pins σ (upd H s.heap.objs.size (.tup [x, y])) { s with heap := h'', toks := tk } :=
      I.turnedNew (t' := tk) (ch := [z, TI, TO, i1, i2]) (fun c o hb q => (sb.2 c (fun q' => hb (by simp [q']))).trans (hk c o (fun q' => hb (by simp [q'])) (fun q' => hb (by simp [q'])) (fun q' => hb (by simp [q'])) (fun q' => hb (by simp [q'])) q)) hf (Nat.le_refl _) new
    refine ⟨.ref s.heap.objs.size, _, I1, rfl, ⟨_, x, y, rfl, I.hok.fresh (Nat.le_refl _), rfl, fun l hl => by rw [I.list_inj hl hqx]; exact hx, fun l hl => by rw [I.tuple_inj hl hqy]; exact hy⟩, ⟨z'', ?_, ⟨x1, x2, ?_⟩, ?_, ?_⟩, fun c hcm => ?_⟩
    · exact (sb.2 _ D.TIz).trans (hk _ _ D.TIz D.TITO D.TIi1 D.TIi2 hTI)
    · exact (sb.2 _ D.TOz).trans TO'
    · exact h1'.1.at fun o q => (sb.2 _ D.i1z).trans q
    · exact h2'.1.at fun o q => (sb.2 _ D.i2z).trans q
    · have hlt : c < s.heap.objs.size := by
        have e' : c = z ∨ c = TI ∨ c = TO ∨ c = i1 ∨ c = i2 := by simpa using hcm
        rcases e' with q | q | q | q | q
        · rw [q]; exact hzl
        · rw [q]; exact Heap.lt_size hTI
        · rw [q]; exact Heap.lt_size hTO
        · rw [q]; obtain ⟨_, e1, _⟩ := h1; exact Heap.lt_size e1
        · rw [q]; obtain ⟨_, e2, _⟩ := h2; exact Heap.lt_size e2
      rw [upd_ne (Nat.ne_of_lt hlt)]
      exact (hf c hcm).1
  done := by
    intro X hP hw hK hc i pins s σ H E I hf st hg
    subst hP hw hK
    obtain ⟨hz, hTI, ⟨x0, y0, hTO⟩, h1, h2⟩ := st
    obtain ⟨xs, ys, hqx, hqy, le1, le2, hend⟩ := hg
    obtain ⟨its, rv, p, _⟩ := I.list hqx
    obtain ⟨its2, rv2, p2, _⟩ := I.tuple hqy
    have l1 := rv.length
    have l2 := rv2.length
    have hh : X.A.in1.handled = none := I.ok.hd hc
    exact wpAny_pyNext_zipD2_end (sepM D) (Draws.list hh i1 a D.l1i1 its.toArray) (Draws.tuple hh i2 b D.l2i2 its2.toArray) hz hTI hTO ⟨h1, p.isList⟩ ⟨h2, p2⟩ (by simp; omega) (by simp; omega) (by simp; omega) fun h' tk hk => ⟨rfl, I.turnedL (t' := tk) (ch := [z, TI, TO, i1, i2]) (fun c o hb q =>
      hk c o (fun q' => hb (by simp [q'])) (fun q' => hb (by simp [q'])) (fun q' => hb (by simp [q'])) (fun q' => hb (by simp [q'])) q) hf⟩
  self := fun A i s Q E st h => wpAny_pyIter_zip st.1 h
def iZipM (K : PySem.W.Frag) (ta : TA) : TI := fun σ H R => ta σ H fun vs H1 => ∃ a b xs ys, vs = [.ref a, .ref b] ∧ SqL K H1 a xs ∧ SqT K H1 b ys ∧ R (ItzM K a b) H1
theorem pi_zipM {X : Cx} {e e2 : Expr} {ta : TA} {p pos tpos : Pos} {elts : List Expr} {kk : Nat} (hg : Gl X "zip") (hm : X.mg "zip" = none) (ha : PA X [e, e2] ta)
    (hs : starEach [e, e2] X.env = (false, eval e X.env) :: starEach [e2] X.env := by rfl) (hpl : (backTo pos (starEach [e2] X.env)).any (·.1) = false := by rfl) :
    PI X (.Tuple elts kk tpos) (.Call (.Name "zip" p) [e, e2] [] pos) (iZipM X.K ta) := by
  refine ⟨fun pins s σ H R I h => ?_⟩
  refine Call_ (ld_blt I hg hm PyProof.Rows.boot_zip (PyProof.Rows.callWith_type1 (thn (ha.run pos pins s σ H _ I h) fun us s1 ⟨vs, H1, I1, r1, q1⟩ => ?_) hs hpl))
  obtain ⟨a, b, xs, ys, ex, hqx, hqy, q⟩ := q1
  subst ex
  cases r1 with
  | cons r rr =>
    cases rr with
    | cons r' rr =>
      cases rr
      cases r
      cases r'
      have fresh5 : ∀ c, c ∈ [s1.heap.objs.size + 4, s1.heap.objs.size + 2, s1.heap.objs.size + 3, s1.heap.objs.size, s1.heap.objs.size + 1] → FpOk X pins H1 c := fun c hcm => by
        have e' : c = s1.heap.objs.size + 4 ∨ c = s1.heap.objs.size + 2 ∨ c = s1.heap.objs.size + 3 ∨ c = s1.heap.objs.size ∨ c = s1.heap.objs.size + 1 := by simpa using hcm
        have hle : s1.heap.objs.size ≤ c := by
          rcases e' with z | z | z | z | z
          · rw [z]; exact Nat.le_add_right _ _
          · rw [z]; exact Nat.le_add_right _ _
          · rw [z]; exact Nat.le_add_right _ _
          · rw [z]; exact Nat.le_refl _
          · rw [z]; exact Nat.le_add_right _ _
        exact I1.fpOk hle (I1.hok.fresh hle)
      obtain ⟨its, rv, p1, _⟩ := I1.list hqx
      obtain ⟨its2, rv2, p2, _⟩ := I1.tuple hqy
      obtain ⟨o2, ho2, _⟩ := id p2
      refine zip_begins2 (begins_list a its.toArray) (begins_tuple b its2.toArray) p1.isList p2 fun h' hz hTI hTO h1 h2 hsz hk => wpAny_pyIter_zip hz ?_
      have I2 : Inv X pins σ H1 { s1 with heap := h' } := I1.kept (t' := s1.toks) hk
      exact ⟨s1.heap.objs.size + 4, [s1.heap.objs.size + 4, s1.heap.objs.size + 2, s1.heap.objs.size + 3, s1.heap.objs.size, s1.heap.objs.size + 1], _, _, H1, rfl, I2, turn_zipM (PySem.W.ktu_apart s1.heap.objs.size a b p1.lt (Heap.lt_size ho2)), ⟨hz, hTI, ⟨_, _, hTO⟩, ⟨_, h1, rfl, rfl⟩, ⟨_, h2, rfl, rfl⟩⟩, fresh5, q⟩
/-- a loop over zip of a list and a tuple of one length -/
theorem for_zipM {K : PySem.W.Frag} {a b : Addr} {xs ys : List V} {g : TG} {tb : TS} {D : Ends} {σ : L2.St} {H : Hp} (hl : xs.length = ys.length) (Pv : Nat → L2.St → Hp → Prop) (h0 : Pv 0 σ H) (hq : ∀ i σ H, Pv i σ H → SqL K H a xs ∧ SqT K H b ys)
    (hs : ∀ (i : Nat) (x y : V) (T : Addr) (σ : L2.St) (H : Hp), xs[i]? = some x → ys[i]? = some y → Pv i σ H → H T = none → g (.ref T) σ (upd H T (.tup [x, y])) fun σ2 H2 => tb { D with nx := Pv (i + 1), ct := Pv (i + 1), bk := D.nx } σ2 H2) (hd : ∀ σ H, Pv xs.length σ H → D.nx σ H) :
    ∃ W : Nat → Nat → L2.St → Hp → Prop, (∃ m, W 0 m σ H) ∧ ∀ i m σ H, W i m σ H →
      ((ItzM K a b).stop i H ∧ D.nx σ H) ∨ ((ItzM K a b).go i H ∧ ∃ N : L2.St → Hp → Prop, (∀ σ' H', N σ' H' → ∃ m', m' < m ∧ W (i + 1) m' σ' H') ∧ ∀ v H', (ItzM K a b).yld i H v H' → g v σ H' fun σ2 H2 => tb { D with nx := N, ct := N, bk := D.nx } σ2 H2) := by
  refine ⟨fun i m σ H => m = xs.length - i ∧ i ≤ xs.length ∧ Pv i σ H, ⟨xs.length, rfl, Nat.zero_le _, h0⟩, ?_⟩
  rintro i m σ H ⟨rfl, hi, p⟩
  obtain ⟨qx, qy⟩ := hq i σ H p
  by_cases hlt : i < xs.length
  · have hx : xs[i]? = some xs[i] := List.getElem?_eq_getElem hlt
    have hlt2 : i < ys.length := by omega
    have hy : ys[i]? = some ys[i] := List.getElem?_eq_getElem hlt2
    refine .inr ⟨⟨xs, ys, _, _, qx, qy, hx, hy⟩, Pv (i + 1), fun σ' H' p' => ⟨xs.length - (i + 1), by omega, rfl, hlt, p'⟩, fun v H' y => ?_⟩
    obtain ⟨T, x', y', rfl, hT, rfl, f1, f2⟩ := y
    exact hs i x' y' T σ H (f1 xs qx) (f2 ys qy) p hT
  · have e : i = xs.length := by omega
    subst e
    exact .inl ⟨⟨xs, ys, qx, qy, Nat.le_refl _, by omega, .inl rfl⟩, hd σ H p⟩
/-- a dict's comprehension over zip of two tuples of one length -/
theorem dc_zipT {K : PySem.W.Frag} {a b : Addr} {xs ys : List V} {g : TG} {tt : TT} {tk tv : TE} {vs : List Nat} {σ : L2.St} {H1 : Hp} {D : Addr} {Qd : Hp → Prop} (hl : xs.length = ys.length) (Pv : Nat → Hp → Prop) (h0 : Pv 0 (upd H1 D (.dK []))) (hq : ∀ i H, Pv i H → SqT K H a xs ∧ SqT K H b ys)
    (hs : ∀ (i : Nat) (x y : V) (T : Addr) (H : Hp), xs[i]? = some x → ys[i]? = some y → Pv i H → H T = none → g (.ref T) (wipe σ vs) (upd H T (.tup [x, y])) fun σ2 H2 => wipe σ2 vs = wipe σ vs ∧ tt σ2 H2 fun b H3 =>
      if b = true then tk σ2 H3 fun y H4 => tv σ2 H4 fun z H5 => ∃ kvs k, y = kV k ∧ H5 D = some (.dK kvs) ∧ kvs.length < sizeLine ∧ Pv (i + 1) (upd H5 D (.dK (putK kvs k z))) else Pv (i + 1) H3) (hd : ∀ H, Pv xs.length H → Qd H) :
    ∃ W : Nat → Nat → Hp → Prop, (∃ m, W 0 m (upd H1 D (.dK []))) ∧ ∀ i m H, W i m H →
      ((RZ.ItzT K a b).stop i H ∧ Qd H) ∨ ((RZ.ItzT K a b).go i H ∧ ∃ Nx : Hp → Prop, (∀ H', Nx H' → ∃ m', m' < m ∧ W (i + 1) m' H') ∧ ∀ x H', (RZ.ItzT K a b).yld i H x H' → g x (wipe σ vs) H' fun σ2 H2 => wipe σ2 vs = wipe σ vs ∧ tt σ2 H2 fun b H3 =>
        if b = true then tk σ2 H3 fun y H4 => tv σ2 H4 fun z H5 => ∃ kvs k, y = kV k ∧ H5 D = some (.dK kvs) ∧ kvs.length < sizeLine ∧ Nx (upd H5 D (.dK (putK kvs k z))) else Nx H3) := by
  refine ⟨fun i m H => m = xs.length - i ∧ i ≤ xs.length ∧ Pv i H, ⟨xs.length, by simp, Nat.zero_le _, h0⟩, ?_⟩
  rintro i m H ⟨rfl, hi, p⟩
  obtain ⟨qx, qy⟩ := hq i H p
  by_cases hlt : i < xs.length
  · have hx : xs[i]? = some xs[i] := List.getElem?_eq_getElem hlt
    have hlt2 : i < ys.length := by omega
    have hy : ys[i]? = some ys[i] := List.getElem?_eq_getElem hlt2
    refine .inr ⟨⟨xs, ys, _, _, qx, qy, hx, hy⟩, Pv (i + 1), fun H' p' => ⟨xs.length - (i + 1), by omega, rfl, hlt, p'⟩, fun v H' y => ?_⟩
    obtain ⟨T, x', y', rfl, hT, rfl, f1, f2⟩ := y
    exact hs i x' y' T H (f1 xs qx) (f2 ys qy) p hT
  · have e : i = xs.length := by omega
    subst e
    exact .inl ⟨⟨xs, ys, qx, qy, .inl (Nat.le_refl _)⟩, hd H p⟩
end Wm
namespace Wm
open PySem L2 StX
/-! ### which thing stands for which variable -/
def thS (k : List (L2.Key × V)) (p : Var × Str) : List (L2.Key × V) := putK k (.inr p.1.1) (V.str p.2)
def thD (vs : List Var) (ths : List Str) : List (L2.Key × V) := (vs.zip ths).foldl thS []
def thg (vs : List Var) (ths : List Str) (z : Str) : Str := match valV (thD vs ths) (.inr z) with
  | some (.str s) => s
  | _ => ""
def inst (vs : List Var) (ths : List Str) (c : Tri) : T3 := (thg vs ths c.1, c.2.1, thg vs ths c.2.2)
theorem thS_fold (z : Str) : ∀ (l : List (Var × Str)) (k0 : List (L2.Key × V)), (∃ s, valV (l.foldl thS k0) (.inr z) = some (.str s) ∧ s ∈ l.map (·.2)) ∨ (valV (l.foldl thS k0) (.inr z) = valV k0 (.inr z) ∧ z ∉ l.map (·.1.1))
  | [], k0 => .inr ⟨rfl, by simp⟩
  | p :: l, k0 => by
    rw [List.foldl_cons]
    rcases thS_fold z l (thS k0 p) with ⟨s, h, m⟩ | ⟨h, m⟩
    · exact .inl ⟨s, h, by simp at m ⊢; exact .inr m⟩
    · rw [h]
      unfold thS
      rw [valV_put]
      by_cases e : z = p.1.1
      · rw [if_pos (by rw [e])]
        exact .inl ⟨p.2, rfl, by simp⟩
      · rw [if_neg (fun q => e (Sum.inr.inj q))]
        refine .inr ⟨rfl, fun q => ?_⟩
        rw [List.map_cons] at q
        rcases List.mem_cons.mp q with q | q
        · exact e q
        · exact m q
theorem thg_at {vs : List Var} {ths : List Str} {z : Str} (hl : vs.length = ths.length) (h : z ∈ vs.map (·.1)) : valV (thD vs ths) (.inr z) = some (.str (thg vs ths z)) ∧ thg vs ths z ∈ ths := by
  have hz : z ∈ (vs.zip ths).map (·.1.1) := by
    have e : (vs.zip ths).map (·.1.1) = vs.map (·.1) := by
      have q : ((vs.zip ths).map Prod.fst).map Prod.fst = vs.map Prod.fst := by rw [List.map_fst_zip (Nat.le_of_eq hl)]
      rw [List.map_map] at q
      exact q
    rw [e]
    exact h
  rcases thS_fold z (vs.zip ths) [] with ⟨s, e, m⟩ | ⟨_, n⟩
  · have e : valV (thD vs ths) (.inr z) = some (.str s) := e
    have q : thg vs ths z = s := by
      unfold thg
      rw [e]
    rw [q]
    refine ⟨e, ?_⟩
    obtain ⟨p, hp, rfl⟩ := List.mem_map.mp m
    exact (List.of_mem_zip (a := p.1) (b := p.2) hp).2
  · exact absurd hz n
theorem thS_len : ∀ (l : List (Var × Str)) (k0 : List (L2.Key × V)), (l.foldl thS k0).length ≤ k0.length + l.length
  | [], _ => Nat.le_refl _
  | p :: l, k0 => by
    have h := thS_len l (thS k0 p)
    have g := length_putK k0 (.inr p.1.1) (V.str p.2)
    have g : (thS k0 p).length ≤ k0.length + 1 := g
    rw [List.foldl_cons, List.length_cons]
    omega
theorem thS_step {l : List (Var × Str)} {i : Nat} {p : Var × Str} (h : l[i]? = some p) : (l.take (i + 1)).foldl thS [] = thS ((l.take i).foldl thS []) p := by
  rw [List.take_add_one, h, List.foldl_append]
  rfl
theorem zip_at {α β : Type} {as : List α} {bs : List β} {i : Nat} {a : α} {b : β} (ha : as[i]? = some a) (hb : bs[i]? = some b) : (as.zip bs)[i]? = some (a, b) := by
  rw [List.getElem?_zip_eq_some]
  exact ⟨ha, hb⟩
theorem row_at {K : PySem.W.Frag} {H : Hp} {ps : List Addr} {vs : List Var} {i : Nat} {x : V} (h : RowsAt K H ps (vs.map varV)) (e : (ps.map V.ref)[i]? = some x) : ∃ q v, x = .ref q ∧ vs[i]? = some v ∧ SqT K H q (varV v) := by
  rw [List.getElem?_map] at e
  obtain ⟨q, hq, rfl⟩ := Option.map_eq_some_iff.mp e
  obtain ⟨r, hr, hs⟩ := h.get hq
  rw [List.getElem?_map] at hr
  obtain ⟨v, hv, rfl⟩ := Option.map_eq_some_iff.mp hr
  exact ⟨q, v, rfl, hv, hs⟩
theorem tri_at {K : PySem.W.Frag} {H : Hp} {ps : List Addr} {vs : List Tri} {i : Nat} {x : V} (h : RowsAt K H ps (vs.map triV)) (e : (ps.map V.ref)[i]? = some x) : ∃ q v, x = .ref q ∧ vs[i]? = some v ∧ SqT K H q (triV v) := by
  rw [List.getElem?_map] at e
  obtain ⟨q, hq, rfl⟩ := Option.map_eq_some_iff.mp e
  obtain ⟨r, hr, hs⟩ := h.get hq
  rw [List.getElem?_map] at hr
  obtain ⟨v, hv, rfl⟩ := Option.map_eq_some_iff.mp hr
  exact ⟨q, v, rfl, hv, hs⟩
theorem strz_at {zs : List Str} {i : Nat} {x : V} (e : (zs.map V.str)[i]? = some x) : ∃ z, x = .str z ∧ zs[i]? = some z := by
  rw [List.getElem?_map] at e
  obtain ⟨q, hq, rfl⟩ := Option.map_eq_some_iff.mp e
  exact ⟨q, rfl, hq⟩
theorem tris_snoc {K : PySem.W.Frag} {H : Hp} {q : Addr} {t : T3} : ∀ {qs : List Addr} {ts : List T3}, TrisAt K H qs ts → SqT K H q (triV3 t) → TrisAt K H (qs ++ [q]) (ts ++ [t])
  | [], [], _, h => ⟨h, True.intro⟩
  | _ :: _, _ :: _, h, g => ⟨h.1, tris_snoc h.2 g⟩
  | [], _ :: _, h, _ => h.elim
  | _ :: _, [], h, _ => h.elim
theorem tris_at {K : PySem.W.Frag} {H : Hp} : ∀ {qs : List Addr} {ts : List T3} {i : Nat} {y : V}, TrisAt K H qs ts → (qs.map V.ref)[i]? = some y → ∃ q t, y = .ref q ∧ ts[i]? = some t ∧ SqT K H q (triV3 t)
  | [], [], _, _, _, h => by simp at h
  | q :: _, t :: _, 0, y, h, e => ⟨q, t, (Option.some.inj e).symm, rfl, h.1⟩
  | _ :: _, _ :: _, i + 1, y, h, e => by
    obtain ⟨q, t, a, b, c⟩ := tris_at (i := i) (y := y) h.2 (by simpa using e)
    exact ⟨q, t, a, by simpa using b, c⟩
  | [], _ :: _, _, _, h, _ => h.elim
  | _ :: _, [], _, _, h, _ => h.elim
theorem tris_imp {K : PySem.W.Frag} {H H' : Hp} (s : ∀ {q : Addr} {xs : List V}, SqT K H q xs → SqT K H' q xs) : ∀ {qs : List Addr} {ts : List T3}, TrisAt K H qs ts → TrisAt K H' qs ts
  | [], [], _ => True.intro
  | _ :: _, _ :: _, h => ⟨s h.1, tris_imp s h.2⟩
  | [], _ :: _, h => h.elim
  | _ :: _, [], h => h.elim
/-- a rule, and things for its variables -/
structure RlW (r : RlD) (ths : List Str) : Prop where
  v9 : r.p.vars.length ≤ 100
  c9 : r.p.cs.length ≤ 100
  ln : r.p.vars.length = ths.length
  en : ∀ t ∈ r.p.cs, t.1 ∈ r.p.vars.map (·.1) ∧ t.2.2 ∈ r.p.vars.map (·.1)
  gn : r.g.1 ∈ r.p.vars.map (·.1) ∧ r.g.2.2 ∈ r.p.vars.map (·.1)
  bn : r.bh ∈ r.p.vars.map (·.1)
def spTbv (K : PySem.W.Frag) (RB : Addr) : Sp := fun vs H Q _ => ∃ (a t : Addr) (r : RlD) (ths : List Str), vs = [.ref a, .ref t] ∧ RlAt K RB H a r ∧ SqT K H t (ths.map V.str) ∧ RlW r ths ∧ ∀ D H', H D = none → Same H H' → H' D = some (.dK (thD r.p.vars ths)) → Q (.ref D) H'
def spPin (K : PySem.W.Frag) : Sp := fun vs H Q _ => ∃ (t D : Addr) (c : Tri) (kvs : List (L2.Key × V)) (a b : Str), vs = [.ref t, .ref D] ∧ SqT K H t (triV c) ∧ H D = some (.dK kvs) ∧ valV kvs (.inr c.1) = some (.str a) ∧ valV kvs (.inr c.2.2) = some (.str b) ∧ ∀ p, H p = none → Q (.ref p) (upd H p (.tup (triV3 (a, c.2.1, b))))
def spCat (K : PySem.W.Frag) (RB : Addr) : Sp := fun vs H Q _ => ∃ (a t : Addr) (r : RlD) (ths : List Str), vs = [.ref a, .ref t] ∧ RlAt K RB H a r ∧ SqT K H t (ths.map V.str) ∧ RlW r ths ∧ ∀ l qs H', H l = none → Same H H' → H' l = some (.lst (qs.map V.ref)) → TrisAt K H' qs (r.p.cs.map (inst r.p.vars ths)) → Q (.ref l) H'
def spGat (K : PySem.W.Frag) (RB : Addr) : Sp := fun vs H Q _ => ∃ (a t : Addr) (r : RlD) (ths : List Str), vs = [.ref a, .ref t] ∧ RlAt K RB H a r ∧ SqT K H t (ths.map V.str) ∧ RlW r ths ∧ ∀ p H', H p = none → Same H H' → H' p = some (.tup (triV3 (inst r.p.vars ths r.g))) → Q (.ref p) H'
def spHat (K : PySem.W.Frag) (RB : Addr) : Sp := fun vs H Q _ => ∃ (a t : Addr) (r : RlD) (ths : List Str), vs = [.ref a, .ref t] ∧ RlAt K RB H a r ∧ SqT K H t (ths.map V.str) ∧ RlW r ths ∧ ∀ H', Same H H' → Q (.str (thg r.p.vars ths r.bh)) H'
def spHsc (HC S : Addr) : Sp := fun vs H Q _ => ∃ (x dx sc d1 d2 d3 : Addr) (ss ws : List Str) (th : List Thing) (ts : List T3), vs = [.ref x] ∧ HsAt HC S H x dx sc d1 d2 d3 ss ws th ts ∧ Q (.ref sc) H
def fndR (rs : List RlD) (z : Str) : Option RlD := rs.find? fun r => decide (r.p.nm = z)
def spSR1 (K : PySem.W.Frag) (S RB C : Addr) : Sp := fun vs H Q E => ∃ (x : Addr) (z : Str) (ss ws : List Str) (as bs cs : List Addr) (rs : List RlD), vs = [.ref x, .str z] ∧ SchG S H x ss ws as bs cs ∧ AllAt (RlAt K RB H) bs rs ∧ match fndR rs z with
  | some r => ∀ a, RlAt K RB H a r → Q (.ref a) H
  | none => ∀ d H', H d = none → Same H H' → H' d = some (.xd (ef1 "name" "norule" (.str z))) → E (.ref C) (some d) H'
section
variable {P : Program} {w : World} {K : PySem.W.Frag} {mg : Str → Option Value} {base : Heap}
theorem scNR : FnScope ["self", "name"] ["self", "name"] (defScope sNR) := ⟨rfl, rfl, rfl, by decide +kernel, rfl, by decide +kernel, by decide +kernel⟩
theorem ok_norule {f C f0 W : Addr} {fd fd0 : FuncData} (F : Fun K "__init__" "NoRule.__init__" sNR f fd) (T : ErrT K mg "NoRule" "name" C f) (TW : WhoT K mg W f0 fd0) (G0 : FnOk P w K mg base CX0 1 f0 fd0 ["self", "kind"] (spWI K)) :
    FnOk P w K mg base CX0 2 f fd ["self", "name"] (spE1 C "name" "norule") := by
  refine F.ok scNR (fun vs H Q E h => ?_) (fun cdv A outer s H vs Q E hr h => ?_)
  · obtain ⟨a, v, rfl, _⟩ := h
    rfl
  · obtain ⟨a, v, rfl, ha, k⟩ := h
    refine ⟨_, pss_cons (ps_expr (pe_clsFn rfl TW.g TW.r TW.m TW.k G0 hr TW.b .nil pass0 (pa_cons (pv 0) (pa_cons pe_str pa_nil)))) (pss_one (ps_ost (pv 0) (pv 1))), ?_⟩
    refine ⟨_, rfl, a, C, _, rfl, T.o, T.nk, ha, fun dx n ne => ?_⟩
    refine ⟨_, rfl, _, rfl, a, C, rfl, T.o, T.nf, .inr ⟨dx, _, upd_same, Eq.trans (upd_ne ne) upd_same, by decide, ?_⟩⟩
    refine k dx _ n ne (fun b o nb e => ?_) ?_ upd_same
    · have nd : b ≠ dx := ne_of_none e n
      rw [upd_ne nd, upd_ne nb, upd_ne nd]
      exact e
    · rw [upd_ne ne.symm, upd_same]
theorem scMi : FnScope ["self", "name"] ["self", "name"] (defScope sMi) := ⟨rfl, rfl, rfl, by decide +kernel, rfl, by decide +kernel, by decide +kernel⟩
theorem ok_misfit {f C f0 W : Addr} {fd fd0 : FuncData} (F : Fun K "__init__" "Misfit.__init__" sMi f fd) (T : ErrT K mg "Misfit" "name" C f) (TW : WhoT K mg W f0 fd0) (G0 : FnOk P w K mg base CX0 1 f0 fd0 ["self", "kind"] (spWI K)) :
    FnOk P w K mg base CX0 2 f fd ["self", "name"] (spE1 C "name" "misfit") := by
  refine F.ok scMi (fun vs H Q E h => ?_) (fun cdv A outer s H vs Q E hr h => ?_)
  · obtain ⟨a, v, rfl, _⟩ := h
    rfl
  · obtain ⟨a, v, rfl, ha, k⟩ := h
    refine ⟨_, pss_cons (ps_expr (pe_clsFn rfl TW.g TW.r TW.m TW.k G0 hr TW.b .nil pass0 (pa_cons (pv 0) (pa_cons pe_str pa_nil)))) (pss_one (ps_ost (pv 0) (pv 1))), ?_⟩
    refine ⟨_, rfl, a, C, _, rfl, T.o, T.nk, ha, fun dx n ne => ?_⟩
    refine ⟨_, rfl, _, rfl, a, C, rfl, T.o, T.nf, .inr ⟨dx, _, upd_same, Eq.trans (upd_ne ne) upd_same, by decide, ?_⟩⟩
    refine k dx _ n ne (fun b o nb e => ?_) ?_ upd_same
    · have nd : b ≠ dx := ne_of_none e n
      rw [upd_ne nd, upd_ne nb, upd_ne nd]
      exact e
    · rw [upd_ne ne.symm, upd_same]
theorem scHsc : FnScope ["self"] ["self"] (defScope sHsc) := ⟨rfl, rfl, rfl, by decide +kernel, rfl, by decide +kernel, by decide +kernel⟩
theorem ok_hsc {f HC S fH : Addr} {fd : FuncData} (F : Fun K "scheme" "House.scheme" sHsc f fd) (TH : TxH K mg HC fH) : FnOk P w K mg base CX0 1 f fd ["self"] (spHsc HC S) := by
  refine F.ok scHsc (fun vs H Q E h => ?_) (fun cdv A outer s H vs Q E hr h => ?_)
  · obtain ⟨x, dx, sc, d1, d2, d3, ss, ws, th, ts, rfl, _⟩ := h
    rfl
  · obtain ⟨x, dx, sc, d1, d2, d3, ss, ws, th, ts, rfl, hh, k⟩ := h
    refine ⟨_, (pss_one (ps_ret (pe_fld (pv 0) rfl))), ?_⟩
    exact ⟨_, rfl, x, HC, dx, _, _, rfl, hh.hx, TH.cl, TH.n0, hsF_sc _ _ _ _, k⟩
theorem scSR1 : FnScope ["self", "name", "rule"] ["self", "name"] (defScope sSR1) := ⟨rfl, rfl, rfl, by decide +kernel, rfl, by decide +kernel, by decide +kernel⟩
theorem ok_sr1 {f S fS RB fR C fI : Addr} {fd fdI : FuncData} (F : Fun K "rule" "Scheme.rule" sSR1 f fd) (TC : TxSch K mg S fS) (TR : TxRul K mg RB fR) (TE : ErrT K mg "NoRule" "name" C fI) (bI : Binds K fdI ["self", "name"] []) (GI : FnOk P w K mg base CX0 2 fI fdI ["self", "name"] (spE1 C "name" "norule")) : FnOk P w K mg base (L2N.CX P w) 4 f fd ["self", "name"] (spSR1 K S RB C) := by
  refine okN F scSR1 (fun vs H Q E h => ?_) (fun cdv A outer s H vs Q E hr h => ?_)
  · obtain ⟨x, z, ss, ws, as, bs, cs, rs, rfl, _⟩ := h
    rfl
  · obtain ⟨x, z, ss, ws, as, bs, cs, rs, rfl, ⟨dx, l1, l2, l3, l4, l5, h0, h1, h2, h3, h4, h5⟩, hat, q⟩ := h
    have hr3 : Room 3 _ := hr
    refine ⟨_, (pss_cons (ps_for (passes_of rfl) rfl (pi_list (pe_fld (pv 0) rfl)) (pg_name (i := 2) scSR1.nd rfl (Or.inl rfl)) (pss_one (ps_if (pt_cmpR op_eq (pe_fld (pv 2) rfl) (pv 1) (nomark _)) (pss_one (ps_ret (pv 2))) pss_nil)))
      (pss_one (L2N.ps_raise rfl (L2N.takes_of rfl rfl rfl rfl) (pmkN_oex TE.o TE.iC TE.tI GI hr3 bI pass0 rfl TE.g (pa_cons (pv 1) pa_nil))))), ?_⟩
    refine ⟨_, rfl, x, S, dx, _, _, rfl, h0, TC.cl, TC.n4, schF_ru _ _ _ _ _, l4, rfl, ⟨_, SqL.of h4⟩, for_list (K := K) (a := l4) (xs := bs.map V.ref) (fun i σ H' => H' = H ∧ (∃ v, σ = [some (.ref x), some (.str z), v]) ∧ ∀ y ∈ rs.take i, y.p.nm ≠ z) ⟨rfl, ⟨_, rfl⟩, fun y hy => by simp at hy⟩ (fun i σ H' _ p => by rw [p.1]; exact SqL.of h4) ?_ ?_⟩
    · rintro i v σ H' hi ⟨rfl, ⟨u, rfl⟩, hno⟩
      obtain ⟨b, m, rfl, hm, hq⟩ := hat.get hi
      have hq' := hq
      obtain ⟨d, t1, t2, t3, us, qs, hb, _⟩ := hq'
      refine ⟨_, rfl, b, RB, d, _, _, rfl, hb, TR.cl, TR.nn, rulF_name _ _ _ _ _, _, rfl, rfl, _, rfl, ite2 (fun hc => ?_) (fun hc => ?_)⟩
      · have hc : m.p.nm = z := V.str.inj (of_decide_eq_true hc)
        have hf : fndR rs z = some m := by
          unfold fndR
          rw [List.find?_eq_some_iff_getElem]
          obtain ⟨hil, em⟩ := List.getElem?_eq_some_iff.mp hm
          refine ⟨decide_eq_true hc, i, hil, em, fun j hj => ?_⟩
          have q := hno (rs[j]) (List.mem_take_iff_getElem.mpr ⟨j, by omega, rfl⟩)
          rw [decide_eq_false q]
          rfl
        rw [hf] at q
        exact ⟨_, rfl, q b hq⟩
      · have hc : ¬ m.p.nm = z := fun e => hc (decide_eq_true (by rw [e]))
        refine ⟨rfl, ⟨_, rfl⟩, fun y hy => ?_⟩
        rw [List.take_add_one, hm] at hy
        rcases List.mem_append.mp hy with q | q
        · exact hno y q
        · simp at q
          rw [q]
          exact hc
    · rintro σ H' ⟨rfl, ⟨v, rfl⟩, hno⟩
      rw [List.length_map, hat.len, List.take_length] at hno
      have hf : fndR rs z = none := List.find?_eq_none.mpr fun y hy => by
        rw [decide_eq_false (hno y hy)]
        decide
      rw [hf] at q
      exact ⟨_, rfl, mk1 q⟩
theorem scTbv : FnScope ["pattern", "things", "variable", "sort", "thing"] ["pattern", "things"] (defScope sTbv) := ⟨rfl, rfl, rfl, by decide +kernel, rfl, by decide +kernel, by decide +kernel⟩
theorem ok_tbv {f RB fR : Addr} {fd : FuncData} (F : Fun K "thing_by_variable" "thing_by_variable" sTbv f fd) (TR : TxRul K mg RB fR) (hz : mg "zip" = none) : FnOk P w K mg base CX0 1 f fd ["pattern", "things"] (spTbv K RB) := by
  refine F.ok scTbv (fun vs H Q E h => ?_) (fun cdv A outer s H vs Q E hr h => ?_)
  · obtain ⟨a, t, r, ths, rfl, _⟩ := h
    rfl
  · obtain ⟨a, t, r, ths, rfl, ⟨d, t1, t2, t3, ps, qs, hb, e1, r1, e2, r2, e3⟩, ht, rw', k⟩ := h
    refine ⟨_, (pss_one (ps_ret (pe_dc (own := [("thing", 4), ("variable", 2), ("sort", 3)]) (g := gTup K 2 (gCons (gTup K 2 (gCons (gName 2) (gCons (gName 3) gNil))) (gCons (gName 4) gNil))) (tt := tYes) (tk := tVar 2) (tv := tVar 4) rfl scTbv.nd (RZ.pi_zipA rfl hz (pa_cons (pe_fld (pv 0) rfl) (pa_cons (pv 1) pa_nil))) (blkOk_by (N := ["pattern", "things", "variable", "sort", "thing"]) (sc := defScope sTbv) (by decide +kernel)) (fun _ _ _ _ _ => (pg_tup rfl (pgs_cons (pg_tup rfl (pgs_cons (pg_name (i := 2) scTbv.nd rfl (Or.inl rfl)) (pgs_cons (pg_name (i := 3) scTbv.nd rfl (Or.inl rfl)) pgs_nil))) (pgs_cons (pg_name (i := 4) scTbv.nd rfl (Or.inl rfl)) pgs_nil)))) (fun _ _ _ _ _ => pts_nil) (fun _ _ _ _ _ => (pv 2)) (fun _ _ _ _ _ => (pv 4))))), ?_⟩
    refine ⟨_, rfl, a, RB, d, _, _, rfl, hb, TR.cl, TR.nv, rulF_vars _ _ _ _ _, _, rfl, t1, t, _, _, rfl, .inr ⟨e1, ht, fun D hD => ?_⟩⟩
    have pl : (ps.map V.ref).length = (ths.map V.str).length := by
      rw [List.length_map, List.length_map, r1.len, List.length_map, rw'.ln]
    refine dc_zipT (K := K) (a := t1) (b := t) pl (fun i H' => Same H H' ∧ H' D = some (.dK (((r.p.vars.zip ths).take i).foldl thS []))) ⟨Same.upd hD, upd_same⟩ (fun i H' p => ⟨same_seqT p.1 e1, same_seqT p.1 ht⟩) ?_ ?_
    · rintro i x y T H2 hx hy ⟨S2, hD2⟩ hT
      obtain ⟨q, v, rfl, hv, hq⟩ := row_at r1 hx
      obtain ⟨z, rfl, hzz⟩ := strz_at hy
      have S3 : Same H2 (upd H2 T (.tup [.ref q, .str z])) := Same.upd hT
      have eT : (upd H2 T (.tup [.ref q, .str z])) T = some (.tup [.ref q, .str z]) := upd_same
      generalize upd H2 T (.tup [.ref q, .str z]) = H3 at S3 eT
      refine ⟨T, _, rfl, SqT.of eT, rfl, _, _, rfl, ⟨q, _, rfl, same_seqT (S2.trans S3) hq, rfl, _, _, rfl, _, _, rfl, rfl, _, _, rfl, rfl, ?_⟩⟩
      refine ⟨rfl, _, rfl, _, rfl, _, .inr v.1, rfl, S3 _ _ hD2, ?_, fun b o e => ?_, ?_⟩
      · have q1 := thS_len ((r.p.vars.zip ths).take i) []
        have q2 := rw'.v9
        rw [List.length_take, List.length_zip] at q1
        simp only [List.length_nil] at q1
        exact Nat.lt_of_le_of_lt (show _ ≤ 100 by omega) (by decide)
      · rw [upd_ne (ne_of_none e hD)]
        exact S3 _ _ (S2 _ _ e)
      · rw [upd_same, thS_step (zip_at hv hzz)]
        rfl
    · rintro H2 ⟨S2, hD2⟩
      refine k D H2 hD S2 ?_
      rw [hD2]
      unfold thD
      rw [List.take_of_length_le]
      rw [List.length_zip, List.length_map, r1.len, List.length_map]
      exact Nat.min_le_left _ _
theorem scPin : FnScope ["triple", "thing_of", "x", "word", "y"] ["triple", "thing_of"] (defScope sPin) := ⟨rfl, rfl, rfl, by decide +kernel, rfl, by decide +kernel, by decide +kernel⟩
theorem ok_pin {f : Addr} {fd : FuncData} (F : Fun K "put_in" "put_in" sPin f fd) : FnOk P w K mg base CX0 1 f fd ["triple", "thing_of"] (spPin K) := by
  refine F.ok scPin (fun vs H Q E h => ?_) (fun cdv A outer s H vs Q E hr h => ?_)
  · obtain ⟨t, D, c, kvs, a, b, rfl, _⟩ := h
    rfl
  · obtain ⟨t, D, c, kvs, a, b, rfl, ht, hD, va, vb, k⟩ := h
    have hu := hu_of hr
    refine ⟨_, (pss_cons (ps_asg (pv 0) (pg_tup rfl (pgs_cons (pg_name (i := 2) scPin.nd rfl (Or.inl rfl)) (pgs_cons (pg_name (i := 3) scPin.nd rfl (Or.inl rfl)) (pgs_cons (pg_name (i := 4) scPin.nd rfl (Or.inl rfl)) pgs_nil)))))
      (pss_one (ps_ret (pe_tup (pa_cons (pe_dget hu (pv 1) (pv 2) (fun _ _ => rfl)) (pa_cons (pv 3) (pa_cons (pe_dget hu (pv 1) (pv 4) (fun _ _ => rfl)) pa_nil))))))), ?_⟩
    refine ⟨_, rfl, t, _, rfl, ht, rfl, _, _, rfl, _, _, rfl, _, _, rfl, rfl, ?_⟩
    dsimp only [gName, List.set_cons_succ, List.set_cons_zero]
    refine ⟨_, rfl, _, rfl, D, _, rfl, va ▸ DGet.k (k := .inr c.1) hD, _, rfl, _, rfl, _, rfl, D, _, rfl, vb ▸ DGet.k (k := .inr c.2.2) hD, by show 3 ≤ sizeLine; decide, fun p hp => k p hp⟩
theorem scCat : FnScope ["pattern", "things", "thing_of", "condition"] ["pattern", "things"] (defScope sCat) := ⟨rfl, rfl, rfl, by decide +kernel, rfl, by decide +kernel, by decide +kernel⟩
theorem ok_cat {f RB fR fT fP : Addr} {fd dT dP : FuncData} (F : Fun K "conditions_at" "conditions_at" sCat f fd) (TR : TxRul K mg RB fR) (DT : Dn K mg "thing_by_variable" sTbv ["pattern", "things"] fT dT) (GT : FnOk P w K mg base CX0 1 fT dT ["pattern", "things"] (spTbv K RB)) (DP : Dn K mg "put_in" sPin ["triple", "thing_of"] fP dP) (GP : FnOk P w K mg base CX0 1 fP dP ["triple", "thing_of"] (spPin K)) : FnOk P w K mg base CX0 2 f fd ["pattern", "things"] (spCat K RB) := by
  refine F.ok scCat (fun vs H Q E h => ?_) (fun cdv A outer s H vs Q E hr h => ?_)
  · obtain ⟨a, t, r, ths, rfl, _⟩ := h
    rfl
  · obtain ⟨a, t, r, ths, rfl, ha, ht, rw', k⟩ := h
    have hr1 : Room 1 _ := hr
    refine ⟨_, (pss_cons (ps_set (i := 2) scCat.nd rfl (Or.inr rfl) (pe_call GT hr1 rfl DT.g DT.F.kp DT.b .nil pass0 (pa_cons (pv 0) (pa_cons (pv 1) pa_nil))))
      (pss_one (ps_ret (pe_lc (own := [("condition", 3)]) (g := gName 3) (tt := tYes) (te := tCall (spPin K) [] E0 (tCons (tVar 3) (tCons (tVar 2) tNil))) rfl scCat.nd (pi_tup (pe_fld (pv 0) rfl)) (blkOk_by (N := ["pattern", "things", "thing_of", "condition"]) (sc := defScope sCat) (by decide +kernel)) (fun _ _ _ _ _ => (pg_name (i := 3) scCat.nd rfl (Or.inl rfl))) (fun _ _ _ _ _ => pts_nil) (fun _ _ _ _ _ => (pe_call GP hr1 rfl DP.g DP.F.kp DP.b .nil pass0 (pa_cons (pv 3) (pa_cons (pv 2) pa_nil)))))))), ?_⟩
    refine ⟨_, rfl, _, rfl, a, t, r, ths, rfl, ha, ht, rw', fun D H1 D0 S1 hD => ?_⟩
    dsimp only [List.set_cons_succ, List.set_cons_zero]
    have ha1 := ha.same S1
    obtain ⟨d, t1, t2, t3, ps, qs, hb, e1, r1, e2, r2, e3⟩ := ha1
    refine ⟨_, rfl, a, RB, d, _, _, rfl, hb, TR.cl, TR.nc, rulF_cond _ _ _ _ _, t2, rfl, ⟨_, e2⟩, fun l hl => ?_⟩
    refine lc_tup (K := K) (a := t2) (xs := qs.map V.ref) (fun i H' => Same H1 H' ∧ ∃ us : List Addr, H' l = some (.lst (us.map V.ref)) ∧ TrisAt K H' us ((r.p.cs.take i).map (inst r.p.vars ths))) ⟨Same.upd hl, [], upd_same, True.intro⟩ (fun i H' _ h => same_seqT h.1 e2) ?_ ?_
    · rintro i x H2 hx ⟨S2, us, hl2, tu⟩
      obtain ⟨q, c, rfl, hc, hq⟩ := tri_at r2 hx
      obtain ⟨n1, n2⟩ := rw'.en c (List.mem_of_getElem? hc)
      have v1 := (thg_at rw'.ln n1).1
      have v2 := (thg_at rw'.ln n2).1
      refine ⟨rfl, _, rfl, _, rfl, q, D, c, _, _, _, rfl, same_seqT S2 hq, S2 _ _ hD, v1, v2, fun p hp => ?_⟩
      have S3 : Same H2 (upd H2 p (.tup (triV3 (inst r.p.vars ths c)))) := Same.upd hp
      have ep : (upd H2 p (.tup (triV3 (inst r.p.vars ths c)))) p = some (.tup (triV3 (inst r.p.vars ths c))) := upd_same
      show ∃ _, _
      have et : r.p.cs.take (i + 1) = r.p.cs.take i ++ [c] := by
        rw [List.take_add_one, hc]
        rfl
      refine ⟨_, S3 _ _ hl2, ?_, fun b o e => ?_, us ++ [p], ?_, ?_⟩
      · have q := tris_len tu
        have q2 := rw'.c9
        rw [List.length_map, List.length_take] at q
        rw [List.length_map]
        exact Nat.lt_of_le_of_lt (show _ ≤ 100 by omega) (by decide)
      · rw [upd_ne (ne_of_none e hl)]
        exact S3 _ _ (S2 _ _ e)
      · rw [upd_same, List.map_append]
        rfl
      · rw [et, List.map_append]
        have hl3 := S3 _ _ hl2
        exact tris_snoc (tris_imp (fun q => sqT_put hl3 (same_seqT S3 q)) tu) (sqT_put hl3 (SqT.of ep))
    · rintro H2 ⟨S2, us, hl2, tu⟩
      rw [List.length_map, r2.len, List.length_map, List.take_length] at tu
      exact k l us H2 (S1.free hl) (S1.trans S2) hl2 tu
theorem scGat : FnScope ["rule", "things"] ["rule", "things"] (defScope sGat) := ⟨rfl, rfl, rfl, by decide +kernel, rfl, by decide +kernel, by decide +kernel⟩
theorem ok_gat {f RB fR fT fP : Addr} {fd dT dP : FuncData} (F : Fun K "given_at" "given_at" sGat f fd) (TR : TxRul K mg RB fR) (DT : Dn K mg "thing_by_variable" sTbv ["pattern", "things"] fT dT) (GT : FnOk P w K mg base CX0 1 fT dT ["pattern", "things"] (spTbv K RB)) (DP : Dn K mg "put_in" sPin ["triple", "thing_of"] fP dP) (GP : FnOk P w K mg base CX0 1 fP dP ["triple", "thing_of"] (spPin K)) : FnOk P w K mg base CX0 2 f fd ["rule", "things"] (spGat K RB) := by
  refine F.ok scGat (fun vs H Q E h => ?_) (fun cdv A outer s H vs Q E hr h => ?_)
  · obtain ⟨a, t, r, ths, rfl, _⟩ := h
    rfl
  · obtain ⟨a, t, r, ths, rfl, ha, ht, rw', k⟩ := h
    have hr1 : Room 1 _ := hr
    refine ⟨_, (pss_one (ps_ret (pe_call GP hr1 rfl DP.g DP.F.kp DP.b .nil pass0 (pa_cons (pe_fld (pv 0) rfl) (pa_cons (pe_call GT hr1 rfl DT.g DT.F.kp DT.b .nil pass0 (pa_cons (pv 0) (pa_cons (pv 1) pa_nil))) pa_nil))))), ?_⟩
    have ha' := ha
    obtain ⟨d, t1, t2, t3, ps, qs, hb, e1, r1, e2, r2, e3⟩ := ha'
    refine ⟨_, rfl, a, RB, d, _, _, rfl, hb, TR.cl, TR.ng, rulF_gives _ _ _ _ _, _, rfl, _, rfl, a, t, r, ths, rfl, ha, ht, rw', fun D H1 D0 S1 hD => ?_⟩
    exact ⟨t3, D, r.g, _, _, _, rfl, same_seqT S1 e3, hD, (thg_at rw'.ln rw'.gn.1).1, (thg_at rw'.ln rw'.gn.2).1, fun p hp => k p _ (S1.free hp) (S1.trans (Same.upd hp)) upd_same⟩
theorem scHat : FnScope ["rule", "things"] ["rule", "things"] (defScope sHat) := ⟨rfl, rfl, rfl, by decide +kernel, rfl, by decide +kernel, by decide +kernel⟩
theorem ok_hat {f RB fR fT : Addr} {fd dT : FuncData} (F : Fun K "hand_at" "hand_at" sHat f fd) (TR : TxRul K mg RB fR) (DT : Dn K mg "thing_by_variable" sTbv ["pattern", "things"] fT dT) (GT : FnOk P w K mg base CX0 1 fT dT ["pattern", "things"] (spTbv K RB)) : FnOk P w K mg base CX0 2 f fd ["rule", "things"] (spHat K RB) := by
  refine F.ok scHat (fun vs H Q E h => ?_) (fun cdv A outer s H vs Q E hr h => ?_)
  · obtain ⟨a, t, r, ths, rfl, _⟩ := h
    rfl
  · obtain ⟨a, t, r, ths, rfl, ha, ht, rw', k⟩ := h
    have hr1 : Room 1 _ := hr
    have hu := hu_of hr
    refine ⟨_, (pss_one (ps_ret (pe_dget hu (pe_call GT hr1 rfl DT.g DT.F.kp DT.b .nil pass0 (pa_cons (pv 0) (pa_cons (pv 1) pa_nil))) (pe_fld (pv 0) rfl) (fun _ _ => rfl)))), ?_⟩
    refine ⟨_, rfl, _, rfl, a, t, r, ths, rfl, ha, ht, rw', fun D H1 D0 S1 hD => ?_⟩
    obtain ⟨d, t1, t2, t3, ps, qs, hb, e1, r1, e2, r2, e3⟩ := ha.same S1
    exact ⟨_, rfl, a, RB, d, _, _, rfl, hb, TR.cl, TR.nb, rulF_by _ _ _ _ _, D, _, rfl, (thg_at rw'.ln rw'.bn).1 ▸ DGet.k (k := .inr r.bh) hD, k H1 S1⟩
end
end Wm
namespace Wm
open PySem L2 StX
def fitP (th : List Thing) (p : Var × Str) : Bool := match p.1.2 with
  | none => true
  | some s => decide (srt th p.2 = some s)
def fitB (th : List Thing) (vs : List Var) (ths : List Str) : Bool := decide (ths.length = vs.length) && (vs.zip ths).all (fitP th)
/-- what is due of a deed by a rule -/
def doDue (rs : List RlD) (th : List Thing) (ts : List T3) (z : Str) (ths : List Str) : Option Rf := match fndR rs z with
  | none => some (.one 6 z)
  | some r => match ths.find? fun x => decide (x ∉ nmL th) with
    | some x => some (.one 3 x)
    | none => if fitB th r.p.vars ths = true then (if awk th (thg r.p.vars ths r.bh) = some true then (match (r.p.cs.map (inst r.p.vars ths)).find? fun t => decide (t ∉ ts) with
        | some t => some (.held t.1 t.2.1 t.2.2)
        | none => none) else some (.one 5 (thg r.p.vars ths r.bh))) else some (.one 7 z)
def DueC (cl : List Addr) (o : Option Rf) (H : Hp) (Q : Prop) (E : XK) : Prop := match o with
  | none => Q
  | some r => ∀ Z d H', cl[ixOf r]? = some Z → H d = none → Same H H' → H' d = some (.xd (fsOf r)) → E (.ref Z) (some d) H'
structure RlsOk (ws : List Str) (r : RlD) : Prop where
  v9 : r.p.vars.length ≤ 100
  c9 : r.p.cs.length ≤ 100
  en : ∀ t ∈ r.p.cs, t.1 ∈ r.p.vars.map (·.1) ∧ t.2.2 ∈ r.p.vars.map (·.1)
  gn : r.g.1 ∈ r.p.vars.map (·.1) ∧ r.g.2.2 ∈ r.p.vars.map (·.1)
  bn : r.bh ∈ r.p.vars.map (·.1)
  cw : ∀ t ∈ r.p.cs, t.2.1 ∈ ws
  gw : r.g.2.1 ∈ ws
theorem RlsOk.w {ws : List Str} {r : RlD} {ths : List Str} (h : RlsOk ws r) (e : ths.length = r.p.vars.length) : RlW r ths := ⟨h.v9, h.c9, e.symm, h.en, h.gn, h.bn⟩
theorem fnd_in {rs : List RlD} {z : Str} {r : RlD} (h : fndR rs z = some r) : r ∈ rs ∧ r.p.nm = z := by
  unfold fndR at h
  have q := List.find?_some h
  simp at q
  exact ⟨List.mem_of_find?_eq_some h, q⟩
theorem find_first {α : Type} {p : α → Bool} {l : List α} {i : Nat} {x : α} (h : l[i]? = some x) (hx : p x = true) (hn : ∀ y ∈ l.take i, p y = false) : l.find? p = some x := by
  rw [List.find?_eq_some_iff_getElem]
  obtain ⟨hil, em⟩ := List.getElem?_eq_some_iff.mp h
  refine ⟨hx, i, hil, em, fun j hj => ?_⟩
  rw [hn (l[j]) (List.mem_take_iff_getElem.mpr ⟨j, by omega, rfl⟩)]
  rfl
theorem take_no {α : Type} {p : α → Bool} {l : List α} {i : Nat} {x : α} (h : l[i]? = some x) (hx : p x = false) (hn : ∀ y ∈ l.take i, p y = false) : ∀ y ∈ l.take (i + 1), p y = false := fun y hy => by
  rw [List.take_add_one, h] at hy
  rcases List.mem_append.mp hy with q | q
  · exact hn y q
  · simp at q
    rw [q]
    exact hx
theorem find_no {α : Type} {p : α → Bool} {l : List α} (hn : ∀ y ∈ l, p y = false) : l.find? p = none := List.find?_eq_none.mpr fun y hy => by
  rw [hn y hy]
  decide
def spRNH (HC S NH : Addr) : Sp := fun vs H Q E => ∃ (x dx sc d1 d2 d3 : Addr) (n wd m : Str) (ss ws : List Str) (th : List Thing) (ts : List T3), vs = [.ref x, .str n, .str wd, .str m] ∧ HsAt HC S H x dx sc d1 d2 d3 ss ws th ts ∧ n ∈ nmL th ∧ m ∈ nmL th ∧ wd ∈ ws ∧ if (n, wd, m) ∈ ts then ∀ H', Same H H' → Q .non H' else ∀ d H', H d = none → Same H H' → H' d = some (.xd (ef3 (.str n) (.str wd) (.str m))) → E (.ref NH) (some d) H'
def spRMi (K : PySem.W.Frag) (HC S RB C : Addr) : Sp := fun vs H Q E => ∃ (x dx sc d1 d2 d3 a t : Addr) (r : RlD) (ths ss ws : List Str) (th : List Thing) (ts : List T3), vs = [.ref x, .ref a, .ref t] ∧ HsAt HC S H x dx sc d1 d2 d3 ss ws th ts ∧ RlAt K RB H a r ∧ SqT K H t (ths.map V.str) ∧ (∀ z ∈ ths, z ∈ nmL th) ∧ if fitB th r.p.vars ths = true then ∀ H', Same H H' → Q .non H' else ∀ d H', H d = none → Same H H' → H' d = some (.xd (ef1 "name" "misfit" (.str r.p.nm))) → E (.ref C) (some d) H'
def spPDo (K : PySem.W.Frag) (HC S RB : Addr) (cl : List Addr) : Sp := fun vs H Q E => ∃ (x dx sc d1 d2 d3 t : Addr) (z : Str) (ths ss ws : List Str) (as bs cs : List Addr) (rs : List RlD) (th : List Thing) (ts : List T3), vs = [.ref x, .str z, .ref t] ∧ HsAt HC S H x dx sc d1 d2 d3 ss ws th ts ∧ SchG S H sc ss ws as bs cs ∧ AllAt (RlAt K RB H) bs rs ∧ (∀ r ∈ rs, RlsOk ws r) ∧ SqT K H t (ths.map V.str) ∧ ts.length ≤ 700 ∧
  DueC cl (doDue rs th ts z ths) H (∀ r H', fndR rs z = some r → RlW r ths → (∀ y ∈ ths, y ∈ nmL th) → But d3 H H' → HsAt HC S H' x dx sc d1 d2 d3 ss ws th (addT ts (inst r.p.vars ths r.g)) → Q .non H') E
section
variable {P : Program} {w : World} {K : PySem.W.Frag} {mg : Str → Option Value} {base : Heap}
theorem scRNH : FnScope ["house", "x", "word", "y"] ["house", "x", "word", "y"] (defScope sRNH) := ⟨rfl, rfl, rfl, by decide +kernel, rfl, by decide +kernel, by decide +kernel⟩
theorem ok_rnh {f HC S C D NH fH fHo fI : Addr} {fd dHo fdI : FuncData} (F : Fun K "refuse_not_held" "refuse_not_held" sRNH f fd) (TH : TxH K mg HC fH) (mHo : Meth K HC "holds" fHo) (bHo : Binds K dHo ps4 []) (GHo : FnOk P w K mg base (L2N.CX P w) 6 fHo dHo ps4 (spHol HC S C D)) (TE : ErrT K mg "NotHeld" "x" NH fI) (bI : Binds K fdI ps4 []) (GI : FnOk P w K mg base CX0 2 fI fdI ps4 (spE3 NH)) :
    FnOk P w K mg base (L2N.CX P w) 7 f fd ["house", "x", "word", "y"] (spRNH HC S NH) := by
  refine okN F scRNH (fun vs H Q E h => ?_) (fun cdv A outer s H vs Q E hr h => ?_)
  · obtain ⟨x, dx, sc, d1, d2, d3, n, wd, m, ss, ws, th, ts, rfl, _⟩ := h
    rfl
  · obtain ⟨x, dx, sc, d1, d2, d3, n, wd, m, ss, ws, th, ts, rfl, hh, hn, hm, hw, q⟩ := h
    have hr6 : Room 6 _ := hr
    have hr3 : Room 3 _ := hr.mono (by decide)
    refine ⟨_, (pss_one (ps_if (pt_not (pt_val (pe_meth (pv 0) TH.cl mHo GHo hr6 bHo .nil (L2N.passes_call (L2N.takes_of rfl rfl rfl rfl) (fun _ _ _ _ h => h)) (pa_cons (pv 1) (pa_cons (pv 2) (pa_cons (pv 3) pa_nil)))))) (pss_one (L2N.ps_raise rfl (L2N.takes_of rfl rfl rfl rfl) (pmkN_oex TE.o TE.iC TE.tI GI hr3 bI pass0 rfl TE.g (pa_cons (pv 1) (pa_cons (pv 2) (pa_cons (pv 3) pa_nil)))))) pss_nil)), ?_⟩
    refine ⟨_, rfl, x, dx, _, rfl, hh.hx, hsF_no (by decide +kernel) (by decide +kernel) (by decide +kernel) (by decide +kernel) _ _ _ _, _, rfl, _, rfl, _, rfl, x, dx, sc, d1, d2, d3, n, wd, m, ss, ws, th, ts, rfl, hh, ?_⟩
    rw [unk_mem hn hm hw]
    intro H1 S1
    refine ⟨_, rfl, ?_⟩
    by_cases hmem : (n, wd, m) ∈ ts
    · rw [if_pos hmem] at q
      rw [decide_eq_true hmem]
      exact iteF (q H1 S1)
    · rw [if_neg hmem] at q
      rw [decide_eq_false hmem]
      exact iteT ⟨_, rfl, _, rfl, _, rfl, mk3 fun d H' nd S' e => q d H' (S1.free nd) (S1.trans S') e⟩
theorem scRMi : FnScope ["house", "rule", "things", "variable", "sort", "thing"] ["house", "rule", "things"] (defScope sRMi) := ⟨rfl, rfl, rfl, by decide +kernel, rfl, by decide +kernel, by decide +kernel⟩
theorem ok_rmi {f HC S RB C fH fR fSo fI : Addr} {fd dSo fdI : FuncData} (F : Fun K "refuse_misfit" "refuse_misfit" sRMi f fd) (T : TxB mg) (hz : mg "zip" = none) (TH : TxH K mg HC fH) (TR : TxRul K mg RB fR) (mSo : Meth K HC "sort_of" fSo) (bSo : Binds K dSo ["self", "x"] []) (GSo : FnOk P w K mg base CX0 2 fSo dSo ["self", "x"] (spHso HC S)) (TE : ErrT K mg "Misfit" "name" C fI) (bI : Binds K fdI ["self", "name"] []) (GI : FnOk P w K mg base CX0 2 fI fdI ["self", "name"] (spE1 C "name" "misfit")) :
    FnOk P w K mg base (L2N.CX P w) 4 f fd ["house", "rule", "things"] (spRMi K HC S RB C) := by
  refine okN F scRMi (fun vs H Q E h => ?_) (fun cdv A outer s H vs Q E hr h => ?_)
  · obtain ⟨x, dx, sc, d1, d2, d3, a, t, r, ths, ss, ws, th, ts, rfl, _⟩ := h
    rfl
  · obtain ⟨x, dx, sc, d1, d2, d3, a, t, r, ths, ss, ws, th, ts, rfl, hh, ha, ht, hn, q⟩ := h
    have hr3 : Room 3 _ := hr
    have hr2 : Room 2 _ := hr.mono (by decide)
    have no : ∀ {f : Str}, ¬ f = "standing" → ¬ f = "awake_by_name" → ¬ f = "sort_by_name" → ¬ f = "own_scheme" → (hsF sc d1 d2 d3).lookup f = none := fun a b c d => hsF_no a b c d _ _ _ _
    refine ⟨_, (pss_cons (ps_if (pt_cmpR op_ne (pe_callB call_len_seq (by rfl) T.len (by decide +kernel) (pa_cons (pv 2) pa_nil)) (pe_callB call_len_seq (by rfl) T.len (by decide +kernel) (pa_cons (pe_fld (pv 1) rfl) pa_nil)) (nomark _)) (pss_one (L2N.ps_raise rfl (L2N.takes_of rfl rfl rfl rfl) (pmkN_oex TE.o TE.iC TE.tI GI hr3 bI pass0 rfl TE.g (pa_cons (pe_fld (pv 1) rfl) pa_nil)))) pss_nil)
      (pss_one (ps_for (passes_of rfl) rfl (RZ.pi_zipA rfl hz (pa_cons (pe_fld (pv 1) rfl) (pa_cons (pv 2) pa_nil))) (pg_tup rfl (pgs_cons (pg_tup rfl (pgs_cons (pg_name (i := 3) scRMi.nd rfl (Or.inl rfl)) (pgs_cons (pg_name (i := 4) scRMi.nd rfl (Or.inl rfl)) pgs_nil))) (pgs_cons (pg_name (i := 5) scRMi.nd rfl (Or.inl rfl)) pgs_nil))) (pss_one (ps_if (PW.pt (pw_and (pt_cmp (pc_notN (pv 4))) (pw_and1 (pt_cmpR op_ne (pe_meth (pv 0) TH.cl mSo GSo hr2 bSo .nil pass0 (pa_cons (pv 5) pa_nil)) (pv 4) (nomark _))))) (pss_one (L2N.ps_raise rfl (L2N.takes_of rfl rfl rfl rfl) (pmkN_oex TE.o TE.iC TE.tI GI hr3 bI pass0 rfl TE.g (pa_cons (pe_fld (pv 1) rfl) pa_nil)))) pss_nil))))), ?_⟩
    have ha' := ha
    obtain ⟨d, t1, t2, t3, ps, qs, hb, e1, r1, e2, r2, e3⟩ := ha'
    have pl : (ps.map V.ref).length = r.p.vars.length := by rw [List.length_map, r1.len, List.length_map]
    refine ⟨_, rfl, t, _, rfl, .inr ht, _, rfl, a, RB, d, _, _, rfl, hb, TR.cl, TR.nv, rulF_vars _ _ _ _ _, t1, _, rfl, .inr e1, rfl, _, rfl, ?_⟩
    rw [List.length_map, pl]
    unfold fitB at q
    refine ite2 (fun hc => ?_) (fun hc => ?_)
    · have hc : ¬ ths.length = r.p.vars.length := fun e => by simp [e] at hc
      rw [decide_eq_false hc, Bool.false_and, if_neg (by decide)] at q
      exact ⟨_, rfl, a, RB, d, _, _, rfl, hb, TR.cl, TR.nn, rulF_name _ _ _ _ _, mk1 q⟩
    have hc : ths.length = r.p.vars.length := by
      simp at hc
      omega
    rw [decide_eq_true hc, Bool.true_and] at q
    have pl2 : (ps.map V.ref).length = (ths.map V.str).length := by rw [pl, List.length_map, hc]
    refine ⟨_, rfl, a, RB, d, _, _, rfl, hb, TR.cl, TR.nv, rulF_vars _ _ _ _ _, _, rfl, t1, t, _, _, rfl, .inr ⟨e1, ht, ?_⟩⟩
    refine RZ.for_zipT (K := K) (a := t1) (b := t) pl2 (fun i σ H' => (∃ u3 u4 u5, σ = [some (.ref x), some (.ref a), some (.ref t), u3, u4, u5]) ∧ Same H H' ∧ ∀ y ∈ (r.p.vars.zip ths).take i, fitP th y = true) ⟨⟨_, _, _, rfl⟩, Same.refl _, fun y hy => by simp at hy⟩ (fun i σ H' p => ⟨same_seqT p.2.1 e1, same_seqT p.2.1 ht⟩) ?_ ?_
    · rintro i x0 y0 U σ H2 hx hy ⟨⟨u3, u4, u5, rfl⟩, S2, hf⟩ hU
      obtain ⟨qa, v, rfl, hv, hq⟩ := row_at r1 hx
      obtain ⟨z, rfl, hzz⟩ := strz_at hy
      have S3 : Same H2 (upd H2 U (.tup [.ref qa, .str z])) := Same.upd hU
      have eU : (upd H2 U (.tup [.ref qa, .str z])) U = some (.tup [.ref qa, .str z]) := upd_same
      generalize upd H2 U (.tup [.ref qa, .str z]) = H3 at S3 eU
      have S03 := S2.trans S3
      have hzip := zip_at hv hzz
      have hzn := hn z (List.mem_of_getElem? hzz)
      obtain ⟨s0, hs0⟩ := srt_some hzn
      have hh3 := hh.same S03
      have bad : fitP th (v, z) = false → ∀ d H', H3 d = none → Same H3 H' → H' d = some (.xd (ef1 "name" "misfit" (.str r.p.nm))) → E (.ref C) (some d) H' := fun hbad d H' nd S' e => by
        have q : if (r.p.vars.zip ths).all (fitP th) = true then _ else _ := q
        rw [if_neg (fun hall => by
          rw [List.all_eq_true] at hall
          have := hall _ (List.mem_of_getElem? hzip)
          rw [hbad] at this
          cases this)] at q
        exact q d H' (S03.free nd) (S03.trans S') e
      have good : fitP th (v, z) = true → ∀ y ∈ (r.p.vars.zip ths).take (i + 1), fitP th y = true := fun hg y hy => by
        rw [List.take_add_one, hzip] at hy
        rcases List.mem_append.mp hy with q | q
        · exact hf y q
        · simp at q
          rw [q]
          exact hg
      refine ⟨U, _, rfl, SqT.of eU, rfl, _, _, rfl, ⟨qa, _, rfl, same_seqT S03 hq, rfl, _, _, rfl, _, _, rfl, rfl, _, _, rfl, rfl, ?_⟩⟩
      dsimp only [gName, List.set_cons_succ, List.set_cons_zero]
      obtain ⟨vn, vo⟩ := v
      cases vo with
      | none =>
        refine ⟨_, rfl, _, rfl, ?_⟩
        refine iteF (iteF ?_)
        exact ⟨⟨_, _, _, rfl⟩, S03, good rfl⟩
      | some so =>
        refine ⟨_, rfl, _, rfl, ?_⟩
        refine iteT ⟨_, rfl, x, dx, _, rfl, hh3.hx, no (by decide +kernel) (by decide +kernel) (by decide +kernel) (by decide +kernel), _, rfl, x, dx, sc, d1, d2, d3, z, s0, ss, ws, th, ts, rfl, hh3, hzn, hs0, _, rfl, rfl, _, rfl, ?_⟩
        by_cases hso : s0 = so
        · have e1 : (!decide (V.str s0 = sortV (some so))) = false := by
            rw [hso]
            show (!decide (V.str so = V.str so)) = false
            rw [decide_eq_true rfl]
            rfl
          have e2 : fitP th ((vn, some so), z) = true := by
            show decide (srt th z = some so) = true
            rw [hs0, hso]
            exact decide_eq_true rfl
          show if (!decide (V.str s0 = sortV (some so))) = true then _ else _
          exact ite2 (fun c => absurd (e1.symm.trans c) (by decide)) (fun _ => ⟨⟨_, _, _, rfl⟩, S03, good e2⟩)
        · have e1 : (!decide (V.str s0 = sortV (some so))) = true := by
            show (!decide (V.str s0 = V.str so)) = true
            rw [decide_eq_false (fun z => hso (V.str.inj z))]
            rfl
          have e2 : fitP th ((vn, some so), z) = false := by
            show decide (srt th z = some so) = false
            rw [hs0]
            exact decide_eq_false (fun z => hso (Option.some.inj z))
          obtain ⟨dB, b1, b2, b3, bps, bqs, hb3, _⟩ := ha.same S03
          show if (!decide (V.str s0 = sortV (some so))) = true then _ else _
          exact ite2 (fun _ => ⟨_, rfl, a, RB, dB, _, _, rfl, hb3, TR.cl, TR.nn, rulF_name _ _ _ _ _, mk1 (bad e2)⟩) (fun c => absurd e1 c)
    · rintro σ H2 ⟨_, S2, hf⟩
      rw [pl, List.take_of_length_le (by rw [List.length_zip]; exact Nat.min_le_left _ _)] at hf
      have q : if (r.p.vars.zip ths).all (fitP th) = true then _ else _ := q
      rw [if_pos (List.all_eq_true.mpr hf)] at q
      exact q H2 S2
theorem scPDo : FnScope ["house", "name", "things", "rule", "thing", "x", "word", "y"] ["house", "name", "things"] (defScope sPDo) := ⟨rfl, rfl, rfl, by decide +kernel, rfl, by decide +kernel, by decide +kernel⟩
theorem ok_pdo {f HC S RB c3 c4 c5 c6 c7 c9 fH fS fR fSc fRu fM fA fHd fC fG fN fGi : Addr} {fd dR dSc dRu dM dA dHd dC dG dN dGi : FuncData} {cl : List Addr} (h3 : cl[3]? = some c3) (h5 : cl[5]? = some c5) (h6 : cl[6]? = some c6) (h7 : cl[7]? = some c7) (h9 : cl[9]? = some c9) (F : Fun K "play_do" "play_do" sPDo f fd) (TH : TxH K mg HC fH) (TC : TxSch K mg S fS)
    (mR : Meth K HC "refuse_no_thing" fR) (bR : Binds K dR ["self", "name"] []) (GR : FnOk P w K mg base (L2N.CX P w) 4 fR dR ["self", "name"] (spHrtX HC S c3))
    (mSc : Meth K HC "scheme" fSc) (bSc : Binds K dSc ["self"] []) (GSc : FnOk P w K mg base CX0 1 fSc dSc ["self"] (spHsc HC S)) (mRu : Meth K S "rule" fRu) (bRu : Binds K dRu ["self", "name"] []) (GRu : FnOk P w K mg base (L2N.CX P w) 4 fRu dRu ["self", "name"] (spSR1 K S RB c6))
    (DM : Dn K mg "refuse_misfit" sRMi ["house", "rule", "things"] fM dM) (GM : FnOk P w K mg base (L2N.CX P w) 4 fM dM ["house", "rule", "things"] (spRMi K HC S RB c7))
    (DA : Dn K mg "refuse_asleep" sRAs ["house", "name"] fA dA) (GA : FnOk P w K mg base (L2N.CX P w) 4 fA dA ["house", "name"] (spRAs HC S c5))
    (DH : Dn K mg "hand_at" sHat ["rule", "things"] fHd dHd) (GH : FnOk P w K mg base CX0 2 fHd dHd ["rule", "things"] (spHat K RB))
    (DC : Dn K mg "conditions_at" sCat ["pattern", "things"] fC dC) (GC : FnOk P w K mg base CX0 2 fC dC ["pattern", "things"] (spCat K RB))
    (DG : Dn K mg "given_at" sGat ["rule", "things"] fG dG) (GG : FnOk P w K mg base CX0 2 fG dG ["rule", "things"] (spGat K RB))
    (DN : Dn K mg "refuse_not_held" sRNH ["house", "x", "word", "y"] fN dN) (GN : FnOk P w K mg base (L2N.CX P w) 7 fN dN ["house", "x", "word", "y"] (spRNH HC S c9))
    (mGi : Meth K HC "give" fGi) (bGi : Binds K dGi ps4 []) (GGi : FnOk P w K mg base (L2N.CX P w) 6 fGi dGi ps4 (spGiv HC S c3 c4)) :
    FnOk P w K mg base (L2N.CX P w) 8 f fd ["house", "name", "things"] (spPDo K HC S RB cl) := by
  refine okN F scPDo (fun vs H Q E h => ?_) (fun cdv A outer s H vs Q E hr h => ?_)
  · obtain ⟨x, dx, sc, d1, d2, d3, t, z, ths, ss, ws, as, bs, cs, rs, th, ts, rfl, _⟩ := h
    rfl
  · obtain ⟨x, dx, sc, d1, d2, d3, t, z, ths, ss, ws, as, bs, cs, rs, th, ts, rfl, hh, hg, ar, ro, ht, t700, q⟩ := h
    have hr1 : Room 1 _ := hr.mono (by decide)
    have hr2 : Room 2 _ := hr.mono (by decide)
    have hr4 : Room 4 _ := hr.mono (by decide)
    have hr6 : Room 6 _ := hr.mono (by decide)
    have hr7 : Room 7 _ := hr
    have no : ∀ {f : Str}, ¬ f = "standing" → ¬ f = "awake_by_name" → ¬ f = "sort_by_name" → ¬ f = "own_scheme" → (hsF sc d1 d2 d3).lookup f = none := fun a b c d => hsF_no a b c d _ _ _ _
    refine ⟨_, (pss_cons (ps_set (i := 3) scPDo.nd rfl (Or.inl rfl) (pe_meth (pe_meth0 (pv 0) TH.cl mSc GSc hr1 bSc .nil pass0) TC.cl mRu GRu hr4 bRu .nil (L2N.passes_call (L2N.takes_of rfl rfl rfl rfl) (fun _ _ _ _ h => h)) (pa_cons (pv 1) pa_nil)))
      (pss_cons (ps_for (passes_of rfl) rfl (pi_tup (pv 2)) (pg_name (i := 4) scPDo.nd rfl (Or.inl rfl)) (pss_one (ps_expr (pe_meth (pv 0) TH.cl mR GR hr4 bR .nil (L2N.passes_call (L2N.takes_of rfl rfl rfl rfl) (fun _ _ _ _ h => h)) (pa_cons (pv 4) pa_nil)))))
      (pss_cons (ps_expr (pe_call GM hr4 rfl DM.g DM.F.kp DM.b .nil (L2N.passes_call (L2N.takes_of rfl rfl rfl rfl) (fun _ _ _ _ h => h)) (pa_cons (pv 0) (pa_cons (pv 3) (pa_cons (pv 2) pa_nil)))))
      (pss_cons (ps_expr (pe_call GA hr4 rfl DA.g DA.F.kp DA.b .nil (L2N.passes_call (L2N.takes_of rfl rfl rfl rfl) (fun _ _ _ _ h => h)) (pa_cons (pv 0) (pa_cons (pe_call GH hr2 rfl DH.g DH.F.kp DH.b .nil pass0 (pa_cons (pv 3) (pa_cons (pv 2) pa_nil))) pa_nil))))
      (pss_cons (ps_for (passes_of rfl) rfl (pi_list (pe_call GC hr2 rfl DC.g DC.F.kp DC.b .nil pass0 (pa_cons (pv 3) (pa_cons (pv 2) pa_nil)))) (pg_tup rfl (pgs_cons (pg_name (i := 5) scPDo.nd rfl (Or.inl rfl)) (pgs_cons (pg_name (i := 6) scPDo.nd rfl (Or.inl rfl)) (pgs_cons (pg_name (i := 7) scPDo.nd rfl (Or.inl rfl)) pgs_nil)))) (pss_one (ps_expr (pe_call GN hr7 rfl DN.g DN.F.kp DN.b .nil (L2N.passes_call (L2N.takes_of rfl rfl rfl rfl) (fun _ _ _ _ h => h)) (pa_cons (pv 0) (pa_cons (pv 5) (pa_cons (pv 6) (pa_cons (pv 7) pa_nil))))))))
      (pss_cons (ps_asg (pe_call GG hr2 rfl DG.g DG.F.kp DG.b .nil pass0 (pa_cons (pv 3) (pa_cons (pv 2) pa_nil))) (pg_tup rfl (pgs_cons (pg_name (i := 5) scPDo.nd rfl (Or.inl rfl)) (pgs_cons (pg_name (i := 6) scPDo.nd rfl (Or.inl rfl)) (pgs_cons (pg_name (i := 7) scPDo.nd rfl (Or.inl rfl)) pgs_nil)))))
      (pss_one (ps_expr (pe_meth (pv 0) TH.cl mGi GGi hr6 bGi .nil (L2N.passes_call (L2N.takes_of rfl rfl rfl rfl) (fun _ _ _ _ h => h)) (pa_cons (pv 5) (pa_cons (pv 6) (pa_cons (pv 7) pa_nil)))))))))))), ?_⟩
    have hg' := hg
    obtain ⟨dy, l1, l2, l3, l4, l5, g1, _⟩ := hg'
    unfold doDue at q
    refine ⟨_, rfl, x, dx, _, rfl, hh.hx, no (by decide +kernel) (by decide +kernel) (by decide +kernel) (by decide +kernel), x, dx, sc, d1, d2, d3, ss, ws, th, ts, rfl, hh, sc, dy, _, rfl, g1, schF_no (by decide +kernel) (by decide +kernel) (by decide +kernel) (by decide +kernel) (by decide +kernel) _ _ _ _ _, _, rfl, sc, z, ss, ws, as, bs, cs, rs, rfl, hg, ar, ?_⟩
    cases hf : fndR rs z with
    | none =>
      rw [hf] at q
      exact fun d H' nd S' e => q c6 d H' h6 nd S' e
    | some r =>
      rw [hf] at q
      obtain ⟨rin, rnm⟩ := fnd_in hf
      have rk := ro r rin
      intro a ha
      dsimp only [List.set_cons_succ, List.set_cons_zero]
      refine ⟨_, rfl, t, rfl, ⟨_, ht⟩, for_tup (K := K) (a := t) (xs := ths.map V.str) (fun i σ H' => H' = H ∧ (∃ u4, σ = [some (.ref x), some (.str z), some (.ref t), some (.ref a), u4, none, none, none]) ∧ ∀ y ∈ ths.take i, decide (y ∉ nmL th) = false) ⟨rfl, ⟨_, rfl⟩, fun y hy => by simp at hy⟩ (fun i σ H' _ p => by rw [p.1]; exact ht) ?_ ?_⟩
      · rintro i v σ H' hi ⟨rfl, ⟨u4, rfl⟩, hno⟩
        obtain ⟨y, rfl, hy⟩ := strz_at hi
        dsimp only [gName, List.set_cons_succ, List.set_cons_zero]
        refine ⟨_, rfl, x, dx, _, rfl, hh.hx, no (by decide +kernel) (by decide +kernel) (by decide +kernel) (by decide +kernel), _, rfl, x, dx, sc, d1, d2, d3, y, ss, ws, th, ts, rfl, hh, ?_⟩
        unfold DueT
        by_cases hn : y ∈ nmL th
        · rw [if_pos hn]
          exact ⟨rfl, ⟨_, rfl⟩, take_no hy (decide_eq_false (fun c => c hn)) hno⟩
        · rw [if_neg hn]
          have q : DueC cl (match ths.find? (fun x => decide (x ∉ nmL th)) with | some x => some (Rf.one 3 x) | none => _) _ _ E := q
          rw [find_first hy (decide_eq_true hn) hno] at q
          exact fun d H' nd S' e => q c3 d H' h3 nd S' e
      rintro σ H' ⟨rfl, ⟨u4, rfl⟩, hno⟩
      rw [List.length_map, List.take_length] at hno
      have hin : ∀ y ∈ ths, y ∈ nmL th := fun y hy => Decidable.of_not_not (of_decide_eq_false (hno y hy))
      have q : DueC cl (match ths.find? (fun x => decide (x ∉ nmL th)) with | some x => some (Rf.one 3 x) | none => _) _ _ E := q
      rw [find_no hno] at q
      have q : DueC cl (if fitB th r.p.vars ths = true then _ else some (.one 7 z)) _ _ E := q
      refine ⟨_, rfl, _, rfl, _, rfl, x, dx, sc, d1, d2, d3, a, t, r, ths, ss, ws, th, ts, rfl, hh, ha, ht, hin, ?_⟩
      by_cases hfit : fitB th r.p.vars ths = true
      case neg =>
        rw [if_neg hfit] at q ⊢
        rw [rnm]
        exact fun d H' nd S' e => q c7 d H' h7 nd S' e
      rw [if_pos hfit] at q ⊢
      have hlen : ths.length = r.p.vars.length := by
        unfold fitB at hfit
        simp at hfit
        exact hfit.1
      have rw' : RlW r ths := rk.w hlen
      intro H1 S1
      have ha1 := ha.same S1
      have ht1 : SqT K H1 t (ths.map V.str) := same_seqT S1 ht
      refine ⟨_, rfl, _, rfl, _, rfl, a, t, r, ths, rfl, ha1, ht1, rw', fun H2 S2 => ?_⟩
      have S02 := S1.trans S2
      have hh2 := hh.same S02
      have hbn := hin _ (thg_at rw'.ln rw'.bn).2
      obtain ⟨b, hb⟩ := awk_some hbn
      refine ⟨x, dx, sc, d1, d2, d3, _, b, ss, ws, th, ts, rfl, hh2, hbn, hb, ?_⟩
      cases b with
      | false =>
        rw [if_neg (by rw [hb]; decide)] at q
        rw [if_neg (by decide)]
        exact fun d H' nd S' e => q c5 d H' h5 (S02.free nd) (S02.trans S') e
      | true =>
        rw [if_pos hb] at q
        rw [if_pos rfl]
        refine ⟨_, rfl, _, rfl, a, t, r, ths, rfl, ha1.same S2, same_seqT S2 ht1, rw', fun lq qs H3 lq0 S3 elq tq => ?_⟩
        have S03 := S02.trans S3
        have hh3 := hh.same S03
        have inn : ∀ {c : Tri}, (c.1 ∈ r.p.vars.map (·.1) ∧ c.2.2 ∈ r.p.vars.map (·.1)) → (inst r.p.vars ths c).1 ∈ nmL th ∧ (inst r.p.vars ths c).2.2 ∈ nmL th := fun h => ⟨hin _ (thg_at rw'.ln h.1).2, hin _ (thg_at rw'.ln h.2).2⟩
        have q : DueC cl (match (r.p.cs.map (inst r.p.vars ths)).find? (fun t => decide (t ∉ ts)) with | some t => some (Rf.held t.1 t.2.1 t.2.2) | none => none) _ _ E := q
        refine ⟨lq, rfl, ⟨_, SqL.of elq⟩, for_list (K := K) (a := lq) (xs := qs.map V.ref) (fun i σ H' => (∃ u5 u6 u7, σ = [some (.ref x), some (.str z), some (.ref t), some (.ref a), u4, u5, u6, u7]) ∧ Same H3 H' ∧ ∀ y ∈ (r.p.cs.map (inst r.p.vars ths)).take i, decide (y ∉ ts) = false) ⟨⟨none, none, none, rfl⟩, Same.refl _, fun y hy => by simp at hy⟩ (fun i σ H' _ p => SqL.of (p.2.1 _ _ elq)) ?_ ?_⟩
        · rintro i y σ H4 hy ⟨⟨u5, u6, u7, rfl⟩, S4, hno4⟩
          obtain ⟨qa, t', rfl, ht', hq⟩ := tris_at tq hy
          have hmem := List.mem_of_getElem? ht'
          obtain ⟨c, hc, rfl⟩ := List.mem_map.mp hmem
          obtain ⟨p1, p3⟩ := inn (rk.en c hc)
          have S04 := S03.trans S4
          refine ⟨qa, _, rfl, same_seqT S4 hq, rfl, _, _, rfl, _, _, rfl, _, _, rfl, rfl, ?_⟩
          dsimp only [gName, List.set_cons_succ, List.set_cons_zero]
          refine ⟨_, rfl, _, rfl, _, rfl, _, rfl, x, dx, sc, d1, d2, d3, _, _, _, ss, ws, th, ts, rfl, hh.same S04, p1, p3, rk.cw c hc, ?_⟩
          by_cases hheld : inst r.p.vars ths c ∈ ts
          · rw [if_pos hheld]
            exact fun H' S' => ⟨⟨_, _, _, rfl⟩, S4.trans S', take_no ht' (decide_eq_false (fun c => c hheld)) hno4⟩
          · rw [if_neg hheld]
            rw [find_first ht' (decide_eq_true hheld) hno4] at q
            exact fun d H' nd S' e => q c9 d H' h9 (S04.free nd) (S04.trans S') e
        · rintro σ H4 ⟨⟨u5, u6, u7, rfl⟩, S4, hno4⟩
          rw [List.length_map, tris_len tq, List.take_length] at hno4
          rw [find_no hno4] at q
          have S04 := S03.trans S4
          refine ⟨_, rfl, _, rfl, a, t, r, ths, rfl, ha.same S04, same_seqT S04 ht, rw', fun p H5 p0 S5 ep => ?_⟩
          obtain ⟨p1, p3⟩ := inn rk.gn
          have S05 := S04.trans S5
          have hh5 := hh.same S05
          refine ⟨p, _, rfl, SqT.of ep, rfl, _, _, rfl, _, _, rfl, _, _, rfl, rfl, ?_⟩
          dsimp only [gName, List.set_cons_succ, List.set_cons_zero]
          refine ⟨_, rfl, x, dx, _, rfl, hh5.hx, no (by decide +kernel) (by decide +kernel) (by decide +kernel) (by decide +kernel), _, rfl, _, rfl, _, rfl, x, dx, sc, d1, d2, d3, _, _, _, ss, ws, th, ts, rfl, hh5, by omega, ?_⟩
          rw [unk_mem p1 p3 (show (inst r.p.vars ths r.g).2.1 ∈ ws from rk.gw)]
          exact fun H6 B6 hh6 => q r H6 rfl rw' hin (fun b o nb e => B6 _ _ nb (S05 _ _ e)) hh6
end
end Wm
namespace Wm
open PySem L2 StX
def spE0 (C : Addr) : Sp := fun vs H Q _ => ∃ (a : Addr), vs = [.ref a] ∧ H a = some (exo a C none) ∧ ∀ dx H', H dx = none → dx ≠ a → (∀ b o, b ≠ a → H b = some o → H' b = some o) → H' a = some (exo a C (some dx)) → H' dx = some (exd dx ef0) → Q .non H'
section
variable {P : Program} {w : World} {K : PySem.W.Frag} {mg : Str → Option Value} {base : Heap}
theorem scTk : FnScope ["self", "name"] ["self", "name"] (defScope sTk) := ⟨rfl, rfl, rfl, by decide +kernel, rfl, by decide +kernel, by decide +kernel⟩
theorem ok_taken {f C f0 W : Addr} {fd fd0 : FuncData} (F : Fun K "__init__" "Taken.__init__" sTk f fd) (T : ErrT K mg "Taken" "name" C f) (TW : WhoT K mg W f0 fd0) (G0 : FnOk P w K mg base CX0 1 f0 fd0 ["self", "kind"] (spWI K)) :
    FnOk P w K mg base CX0 2 f fd ["self", "name"] (spE1 C "name" "taken") := by
  refine F.ok scTk (fun vs H Q E h => ?_) (fun cdv A outer s H vs Q E hr h => ?_)
  · obtain ⟨a, v, rfl, _⟩ := h
    rfl
  · obtain ⟨a, v, rfl, ha, k⟩ := h
    refine ⟨_, pss_cons (ps_expr (pe_clsFn rfl TW.g TW.r TW.m TW.k G0 hr TW.b .nil pass0 (pa_cons (pv 0) (pa_cons pe_str pa_nil)))) (pss_one (ps_ost (pv 0) (pv 1))), ?_⟩
    refine ⟨_, rfl, a, C, _, rfl, T.o, T.nk, ha, fun dx n ne => ?_⟩
    refine ⟨_, rfl, _, rfl, a, C, rfl, T.o, T.nf, .inr ⟨dx, _, upd_same, Eq.trans (upd_ne ne) upd_same, by decide, ?_⟩⟩
    refine k dx _ n ne (fun b o nb e => ?_) ?_ upd_same
    · have nd : b ≠ dx := ne_of_none e n
      rw [upd_ne nd, upd_ne nb, upd_ne nd]
      exact e
    · rw [upd_ne ne.symm, upd_same]
theorem scNS : FnScope ["self", "name"] ["self", "name"] (defScope sNS) := ⟨rfl, rfl, rfl, by decide +kernel, rfl, by decide +kernel, by decide +kernel⟩
theorem ok_nosort {f C f0 W : Addr} {fd fd0 : FuncData} (F : Fun K "__init__" "NoSort.__init__" sNS f fd) (T : ErrT K mg "NoSort" "name" C f) (TW : WhoT K mg W f0 fd0) (G0 : FnOk P w K mg base CX0 1 f0 fd0 ["self", "kind"] (spWI K)) :
    FnOk P w K mg base CX0 2 f fd ["self", "name"] (spE1 C "name" "nosort") := by
  refine F.ok scNS (fun vs H Q E h => ?_) (fun cdv A outer s H vs Q E hr h => ?_)
  · obtain ⟨a, v, rfl, _⟩ := h
    rfl
  · obtain ⟨a, v, rfl, ha, k⟩ := h
    refine ⟨_, pss_cons (ps_expr (pe_clsFn rfl TW.g TW.r TW.m TW.k G0 hr TW.b .nil pass0 (pa_cons (pv 0) (pa_cons pe_str pa_nil)))) (pss_one (ps_ost (pv 0) (pv 1))), ?_⟩
    refine ⟨_, rfl, a, C, _, rfl, T.o, T.nk, ha, fun dx n ne => ?_⟩
    refine ⟨_, rfl, _, rfl, a, C, rfl, T.o, T.nf, .inr ⟨dx, _, upd_same, Eq.trans (upd_ne ne) upd_same, by decide, ?_⟩⟩
    refine k dx _ n ne (fun b o nb e => ?_) ?_ upd_same
    · have nd : b ≠ dx := ne_of_none e n
      rw [upd_ne nd, upd_ne nb, upd_ne nd]
      exact e
    · rw [upd_ne ne.symm, upd_same]
theorem scFu : FnScope ["self"] ["self"] (defScope sFu) := ⟨rfl, rfl, rfl, by decide +kernel, rfl, by decide +kernel, by decide +kernel⟩
theorem ok_full {f C f0 W : Addr} {fd fd0 : FuncData} (F : Fun K "__init__" "Full.__init__" sFu f fd) (T : ErrT K mg "Full" "kind" C f) (TW : WhoT K mg W f0 fd0) (G0 : FnOk P w K mg base CX0 1 f0 fd0 ["self", "kind"] (spWI K)) :
    FnOk P w K mg base CX0 2 f fd ["self"] (spE0 C) := by
  refine F.ok scFu (fun vs H Q E h => ?_) (fun cdv A outer s H vs Q E hr h => ?_)
  · obtain ⟨a, rfl, _⟩ := h
    rfl
  · obtain ⟨a, rfl, ha, k⟩ := h
    refine ⟨_, pss_one (ps_expr (pe_clsFn rfl TW.g TW.r TW.m TW.k G0 hr TW.b .nil pass0 (pa_cons (pv 0) (pa_cons pe_str pa_nil)))), ?_⟩
    refine ⟨_, rfl, a, C, _, rfl, T.o, T.nk, ha, fun dx n ne => ?_⟩
    refine k dx _ n ne (fun b o nb e => ?_) upd_same (Eq.trans (upd_ne ne) upd_same)
    have nd : b ≠ dx := ne_of_none e n
    rw [upd_ne nb, upd_ne nd]
    exact e
end
theorem mk0 {C : Addr} {H : Hp} {E : XK} (k : ∀ d H', H d = none → Same H H' → H' d = some (.xd ef0) → E (.ref C) (some d) H') :
    ([] : List V).length ≤ 1000 ∧ ∀ a, H a = none → spE0 C (.ref a :: ([] ++ [])) (upd H a (exo a C none)) (fun w H2 => w = .non ∧ ∃ (d : Addr) (fs : List (Str × V)), H2 a = some (exo a C (some d)) ∧ H2 d = some (exd d fs) ∧ H d = none ∧ E (.ref C) (some d) (upd (del H2 a) d (.xd fs))) (fun _ _ _ => False) := by
  refine ⟨by show 0 ≤ 1000; decide, fun a na => ⟨a, rfl, upd_same, fun dx H' n ne kp ha hd => ⟨rfl, dx, _, ha, hd, ?_, ?_⟩⟩⟩
  · rw [upd_ne ne] at n
    exact n
  · rw [upd_ne ne] at n
    refine k dx _ n (fun b o e => ?_) upd_same
    have nb : b ≠ a := ne_of_none e na
    rw [upd_ne (ne_of_none e n), del_ne nb]
    exact kp b o nb (by rw [upd_ne nb]; exact e)
structure Er4 where
  c0 : Addr
  c1 : Addr
  c2 : Addr
  c8 : Addr
def clsOf (e : Er4) : Rf → Addr
  | .one 0 _ => e.c0
  | .one 1 _ => e.c1
  | .one _ _ => e.c2
  | _ => e.c8
def entD (ss : List Str) (th : List Thing) (n so : Str) : Option Rf :=
  if isNm n = true then (if n ∈ nmL th then some (.one 1 n) else if so ∈ ss then (if th.length < 60 then none else some .full) else some (.one 2 so)) else some (.one 0 n)
def DueR (e : Er4) (o : Option Rf) (H : Hp) (Q : Prop) (E : XK) : Prop := match o with
  | none => Q
  | some r => ∀ d H', H d = none → Same H H' → H' d = some (.xd (fsOf r)) → E (.ref (clsOf e r)) (some d) H'
def spRNx (K : PySem.W.Frag) (C : Addr) : Sp := fun vs H Q E => ∃ (l : Addr) (z : Str), vs = [.ref l] ∧ SqL K H l [.str z] ∧ z.length ≤ 1000 ∧ if isNm z = true then ∀ H', Same H H' → Q .non H' else ∀ d H', H d = none → Same H H' → H' d = some (.xd (ef1 "name" "noname" (.str z))) → E (.ref C) (some d) H'
def spHenX (HC S : Addr) (e : Er4) : Sp := fun vs H Q E => ∃ (x dx sc d1 d2 d3 : Addr) (n so : Str) (b : Bool) (ss ws : List Str) (th : List Thing) (ts : List T3), vs = [.ref x, .str n, .str so, .bl b] ∧ HsAt HC S H x dx sc d1 d2 d3 ss ws th ts ∧ n.length ≤ 1000 ∧ th.length ≤ 60 ∧
  DueR e (entD ss th n so) H (∀ H', (∀ q o, q ≠ d1 → q ≠ d2 → H q = some o → H' q = some o) → HsAt HC S H' x dx sc d1 d2 d3 ss ws (th ++ [(n, so, b)]) ts → Q .non H') E
section
variable {P : Program} {w : World} {K : PySem.W.Frag} {mg : Str → Option Value} {base : Heap}
theorem ok_rnX {f fN C fI : Addr} {fd fdN fdI : FuncData} (F : Fun K "refuse_no_name" "refuse_no_name" sRN f fd) (D : Dn K mg "is_name" sName ["text"] fN fdN) (GN : FnOk P w K mg base CX0 1 fN fdN ["text"] spName) (TE : ErrT K mg "NoName" "name" C fI) (bI : Binds K fdI ["self", "name"] [])
    (GI : FnOk P w K mg base CX0 2 fI fdI ["self", "name"] (spE1 C "name" "noname")) : FnOk P w K mg base (L2N.CX P w) 4 f fd ["texts"] (spRNx K C) := by
  refine okN F scRN (fun vs H Q E h => ?_) (fun cdv A outer s H vs Q E hr h => ?_)
  · obtain ⟨l, z, rfl, _⟩ := h
    rfl
  · obtain ⟨l, z, rfl, hl, hz, k⟩ := h
    have hr1 : Room 1 _ := hr.mono (by decide)
    have hr3 : Room 3 _ := hr
    refine ⟨_, (pss_one (ps_for (passes_of rfl) rfl (pi_list (pv 0)) (pg_name (i := 1) scRN.nd rfl (Or.inl rfl)) (pss_one (ps_if (pt_not (pt_val (pe_call GN hr1 rfl D.g D.F.kp D.b .nil pass0 (pa_cons (pv 1) pa_nil)))) (pss_one (L2N.ps_raise rfl (L2N.takes_of rfl rfl rfl rfl) (pmkN_oex TE.o TE.iC TE.tI GI hr3 bI pass0 rfl TE.g (pa_cons (pv 1) pa_nil)))) pss_nil)))), ?_⟩
    refine ⟨_, rfl, l, rfl, ⟨_, hl⟩, for_list (K := K) (a := l) (xs := [.str z]) (fun i σ H' => (∃ v, σ = [some (.ref l), v]) ∧ Same H H' ∧ (1 ≤ i → isNm z = true)) ⟨⟨none, rfl⟩, Same.refl H, fun q => absurd q (by decide)⟩ (fun i σ H' _ p => p.2.1.seq hl) ?_ ?_⟩
    · rintro i y σ H' hi ⟨⟨v, rfl⟩, hS, _⟩
      have ey : V.str z = y := by
        match i, hi with
        | 0, hi => exact Option.some.inj hi
        | k + 1, hi => simp at hi
      subst ey
      refine ⟨_, rfl, z, rfl, hz, fun H2 hS2 => ⟨_, rfl, ?_⟩⟩
      cases e : isNm z with
      | true => exact iteF ⟨⟨_, rfl⟩, hS.trans hS2, fun _ => rfl⟩
      | false =>
        rw [if_neg (by rw [e]; decide)] at k
        exact iteT ⟨_, rfl, mk1 fun d H3 hd hS3 hx => k d H3 (hS.free (hS2.free hd)) (hS.trans (hS2.trans hS3)) hx⟩
    · rintro σ H' ⟨⟨v, rfl⟩, hS, hi⟩
      rw [if_pos (hi (by show 1 ≤ 1; decide))] at k
      exact k _ hS
theorem ok_henX {f HC S fH fS fN fO cN cT cS cF iT iS iF : Addr} {fd dN dO dT dS dF : FuncData} {dvs : List V} (F : FunD K "enter" "House.enter" (defArgs sHen) (defBody sHen) (defScope sHen) dvs [] f fd) (T : TxB mg) (MT : ∃ t, mg "MOST_THINGS" = some (.int 60 t)) (TH : TxH K mg HC fH) (DN : Dn K mg "refuse_no_name" sRN ["texts"] fN dN) (GN : FnOk P w K mg base (L2N.CX P w) 4 fN dN ["texts"] (spRNx K cN))
    (TT : ErrT K mg "Taken" "name" cT iT) (bT : Binds K dT ["self", "name"] []) (GT : FnOk P w K mg base CX0 2 iT dT ["self", "name"] (spE1 cT "name" "taken")) (TS : ErrT K mg "NoSort" "name" cS iS) (bS : Binds K dS ["self", "name"] []) (GS : FnOk P w K mg base CX0 2 iS dS ["self", "name"] (spE1 cS "name" "nosort"))
    (TF : ErrT K mg "Full" "kind" cF iF) (bF : Binds K dF ["self"] []) (GF : FnOk P w K mg base CX0 2 iF dF ["self"] (spE0 cF))
    (TC : TxSch K mg S fS) (mO : Meth K S "sorts" fO) (bO : Binds K dO ["self"] []) (GO : FnOk P w K mg base CX0 1 fO dO ["self"] (spSor S)) : FnOk P w K mg base (L2N.CX P w) 5 f fd ["self", "name", "sort", "awake"] (spHenX HC S ⟨cN, cT, cS, cF⟩) := by
  refine F.ok scHen (fun vs H Q E h => ?_) (fun cdv A outer s H vs Q E hr h => ?_)
  · obtain ⟨x, dx, sc, d1, d2, d3, n, so, b, ss, ws, th, ts, rfl, _⟩ := h
    rfl
  · obtain ⟨x, dx, sc, d1, d2, d3, n, so, b, ss, ws, th, ts, rfl, hh, hn1000, h60', q⟩ := h
    have hr1 : Room 1 _ := hr.mono (by decide)
    have hr3 : Room 3 _ := hr.mono (by decide)
    obtain ⟨t60, g60⟩ := MT
    refine ⟨_, (pss_cons (ps_expr (pe_call GN hr rfl DN.g DN.F.kp DN.b .nil (L2N.passes_call (L2N.takes_of rfl rfl rfl rfl) (fun _ _ _ _ h => h)) (pa_cons (pe_lst (pa_cons (pv 1) pa_nil)) pa_nil)))
      (pss_cons (ps_if (pt_cmp (pc_din (hu_of hr) (pv 1) (pe_fld (pv 0) rfl))) (pss_one (L2N.ps_raise rfl (L2N.takes_of rfl rfl rfl rfl) (pmkN_oex TT.o TT.iC TT.tI GT hr3 bT pass0 rfl TT.g (pa_cons (pv 1) pa_nil)))) pss_nil)
      (pss_cons (ps_if (pt_cmpR op_notIn_seq (pv 2) (pe_meth0 (pe_fld (pv 0) rfl) TC.cl mO GO hr1 bO .nil pass0) (by rfl)) (pss_one (L2N.ps_raise rfl (L2N.takes_of rfl rfl rfl rfl) (pmkN_oex TS.o TS.iC TS.tI GS hr3 bS pass0 rfl TS.g (pa_cons (pv 2) pa_nil)))) pss_nil)
      (pss_cons (ps_if (pt_cmpR op_ge (pe_callB call_lenD (by rfl) T.len (by decide +kernel) (pa_cons (pe_fld (pv 0) rfl) pa_nil)) (pe_glob (v := .int 60) rfl g60 ⟨t60, rfl⟩) (nomark _)) (pss_one (L2N.ps_raise rfl (L2N.takes_of rfl rfl rfl rfl) (pmkN_oex0 TF.o TF.iC TF.tI GF hr3 bF pass0 rfl TF.g))) pss_nil)
      (pss_cons (ps_dput (hu_of hr) (pe_fld (pv 0) rfl) (pv 1) (pv 2) rfl)
      (pss_one (ps_dput (hu_of hr) (pe_fld (pv 0) rfl) (pv 1) (pv 3) rfl))))))), ?_⟩
    refine ⟨_, rfl, by show 1 ≤ sizeLine; decide, fun l0 hl0 => ?_⟩
    have S0 : Same H (upd H l0 (.lst [.str n])) := Same.upd hl0
    refine ⟨l0, n, rfl, SqL.of upd_same, hn1000, ?_⟩
    unfold entD at q
    by_cases hn : isNm n = true
    · rw [if_pos hn] at q ⊢
      intro H1 S1
      have SA : Same H H1 := S0.trans S1
      have h1 := hh.same SA
      refine ⟨_, rfl, _, rfl, x, HC, dx, _, _, rfl, h1.hx, TH.cl, TH.n1, hsF_1 _ _ _ _, d1, _, rfl, DGet.k (k := Sum.inr n) h1.h1, _, rfl, ?_⟩
      rw [is1]
      by_cases hin : n ∈ nmL th
      · rw [if_pos hin] at q
        rw [decide_eq_true hin]
        exact iteT ⟨_, rfl, mk1 fun d H3 hd hS3 hx => q d H3 (SA.free hd) (SA.trans hS3) hx⟩
      rw [if_neg hin] at q
      rw [decide_eq_false hin]
      refine iteF ?_
      obtain ⟨dy, l1, l2, l3, l4, l5, e1, e2, e3⟩ := h1.hs.ex
      refine ⟨_, rfl, _, rfl, x, HC, dx, _, _, rfl, h1.hx, TH.cl, TH.n0, hsF_sc _ _ _ _, sc, dy, _, rfl, e1, schF_no (by decide +kernel) (by decide +kernel) (by decide +kernel) (by decide +kernel) (by decide +kernel) _ _ _ _ _, sc, ss, ws, rfl, h1.hs, fun l hl => ?_⟩
      refine ⟨l, _, rfl, .inl (SqL.of upd_same), rfl, flats ss, _, rfl, ?_⟩
      show if (!inV (.str so) (ss.map V.str)) = true then _ else _
      rw [inV_strs]
      have SB : Same H1 (upd H1 l (.lst (ss.map V.str))) := Same.upd hl
      have h2 := h1.same SB
      have S02 := SA.trans SB
      generalize upd H1 l (.lst (ss.map V.str)) = H2 at SB h2 S02
      by_cases hso : so ∈ ss
      · rw [if_pos hso] at q
        rw [decide_eq_true hso]
        refine iteF ?_
        refine ⟨_, rfl, x, HC, dx, _, _, rfl, h2.hx, TH.cl, TH.n1, hsF_1 _ _ _ _, d1, _, rfl, h2.h1, _, _, rfl, rfl, _, rfl, ?_⟩
        have el : (k1 th).length = th.length := by unfold k1; rw [List.length_map]
        have el2 : (k2 th).length = th.length := by unfold k2; rw [List.length_map]
        by_cases h60 : th.length < 60
        · rw [if_pos h60] at q
          refine ite2 (fun z => absurd (of_decide_eq_true z) (by rw [el]; omega)) (fun _ => ?_)
          have lt1 : (k1 th).length < sizeLine := Nat.lt_of_lt_of_le (by rw [el]; exact h60) (by decide)
          have lt2 : (k2 th).length < sizeLine := Nat.lt_of_lt_of_le (by rw [el2]; exact h60) (by decide)
          refine ⟨_, rfl, _, rfl, x, HC, dx, _, _, rfl, h2.hx, TH.cl, TH.n1, hsF_1 _ _ _ _, _, rfl, d1, _, rfl, DPut.k (k := Sum.inr n) h2.h1 lt1, ?_⟩
          rw [new1 (b := b) hin]
          have ne1x : x ≠ d1 := ne_of h2.hx h2.h1 (by intro z; cases z)
          refine ⟨_, rfl, _, rfl, x, HC, dx, _, _, rfl, (upd_ne ne1x).trans h2.hx, TH.cl, TH.n2, hsF_2 _ _ _ _, _, rfl, d2, _, rfl, DPut.k (k := Sum.inr n) ((upd_ne hh.ne.symm).trans h2.h2) lt2, ?_⟩
          rw [new2 (s := so) hin]
          have ne2x : x ≠ d2 := ne_of h2.hx h2.h2 (by intro z; cases z)
          have ne31 : d3 ≠ d1 := ne_of h2.h3 h2.h1 (by intro z; cases z)
          have ne32 : d3 ≠ d2 := ne_of h2.h3 h2.h2 (by intro z; cases z)
          refine q _ (fun z o n1 n2 e => by rw [upd_ne n2, upd_ne n1]; exact S02 _ _ e) ⟨?_, ?_, ?_, upd_same, ?_, hh.ne⟩
          · rw [upd_ne ne2x, upd_ne ne1x]
            exact h2.hx
          · have q1 := h2.hs.but (But.upd (o := .dK (k1 (th ++ [(n, so, b)])))) h2.h1 (fun _ _ _ z => by cases z) (fun _ z => by cases z)
            exact q1.but But.upd ((upd_ne hh.ne.symm).trans h2.h2) (fun _ _ _ z => by cases z) (fun _ z => by cases z)
          · rw [upd_ne hh.ne, upd_same]
          · rw [upd_ne ne32, upd_ne ne31]
            exact h2.h3
        · rw [if_neg h60] at q
          refine ite2 (fun _ => ?_) (fun z => absurd (decide_eq_true (by rw [el]; omega)) z)
          exact mk0 fun d H3 hd hS3 hx => q d H3 (S02.free hd) (S02.trans hS3) hx
      · rw [if_neg hso] at q
        rw [decide_eq_false hso]
        exact iteT ⟨_, rfl, mk1 fun d H3 hd hS3 hx => q d H3 (S02.free hd) (S02.trans hS3) hx⟩
    · rw [if_neg hn] at q ⊢
      exact fun d H3 hd hS3 hx => q d H3 (S0.free hd) (S0.trans hS3) hx
end
end Wm
namespace Wm
open PySem L2 StX
def spE2 (C : Addr) : Sp := fun vs H Q _ => ∃ (a : Addr) (u v : V), vs = [.ref a, u, v] ∧ H a = some (exo a C none) ∧ ∀ dx H', H dx = none → dx ≠ a → (∀ b o, b ≠ a → H b = some o → H' b = some o) → H' a = some (exo a C (some dx)) → H' dx = some (exd dx (ef2 u v)) → Q .non H'
theorem mk2 {C : Addr} {u v : V} {H : Hp} {E : XK} (k : ∀ d H', H d = none → Same H H' → H' d = some (.xd (ef2 u v)) → E (.ref C) (some d) H') :
    [u, v].length ≤ 1000 ∧ ∀ a, H a = none → spE2 C (.ref a :: ([u, v] ++ [])) (upd H a (exo a C none)) (fun w H2 => w = .non ∧ ∃ (d : Addr) (fs : List (Str × V)), H2 a = some (exo a C (some d)) ∧ H2 d = some (exd d fs) ∧ H d = none ∧ E (.ref C) (some d) (upd (del H2 a) d (.xd fs))) (fun _ _ _ => False) := by
  refine ⟨by show 2 ≤ 1000; decide, fun a na => ⟨a, u, v, rfl, upd_same, fun dx H' n ne kp ha hd => ⟨rfl, dx, _, ha, hd, ?_, ?_⟩⟩⟩
  · rw [upd_ne ne] at n
    exact n
  · rw [upd_ne ne] at n
    refine k dx _ n (fun b o e => ?_) upd_same
    have nb : b ≠ a := ne_of_none e na
    rw [upd_ne (ne_of_none e n), del_ne nb]
    exact kp b o nb (by rw [upd_ne nb]; exact e)
/-- the making from one sort to another -/
def fndM (ms : List MkD) (a b : Str) : Option MkD := ms.find? fun x => decide (x.mr = a) && decide (x.md = b)
def mkT (m : MkD) (n z : Str) : List T3 := m.dn.map (fun w => (n, w, z)) ++ m.up.map (fun w => (z, w, n))
theorem fnd_filter {ms : List MkD} {a b : Str} : (ms.filter fun x => decide (x.mr = a)).find? (fun x => decide (x.md = b)) = fndM ms a b := by
  unfold fndM
  induction ms with
  | nil => rfl
  | cons x r ih =>
    rw [List.filter_cons]
    by_cases h : x.mr = a
    · rw [if_pos (decide_eq_true h), List.find?_cons, List.find?_cons, decide_eq_true h, Bool.true_and, ih]
    · rw [if_neg (by rw [decide_eq_false h]; decide), List.find?_cons, decide_eq_false h, Bool.false_and, ih]
def spMF (K : PySem.W.Frag) (S MB : Addr) : Sp := fun vs H Q _ => ∃ (sc : Addr) (a : Str) (ss ws : List Str) (as bs cs : List Addr) (ms : List MkD), vs = [.ref sc, .str a] ∧ SchG S H sc ss ws as bs cs ∧ AllAt (MkAt K MB H) as ms ∧ ms.length ≤ 1000 ∧ ∀ l fs H', H l = none → Same H H' → H' l = some (.lst (fs.map V.ref)) → AllAt (MkAt K MB H') fs (ms.filter fun x => decide (x.mr = a)) → Q (.ref l) H'
def spMB (K : PySem.W.Frag) (S MB NM : Addr) : Sp := fun vs H Q E => ∃ (sc : Addr) (a b : Str) (ss ws : List Str) (as bs cs : List Addr) (ms : List MkD), vs = [.ref sc, .str a, .str b] ∧ SchG S H sc ss ws as bs cs ∧ AllAt (MkAt K MB H) as ms ∧ ms.length ≤ 1000 ∧ match fndM ms a b with
  | some m => ∀ x H', Same H H' → MkAt K MB H' x m → Q (.ref x) H'
  | none => ∀ d H', H d = none → Same H H' → H' d = some (.xd (ef2 (.str a) (.str b))) → E (.ref NM) (some d) H'
def spMH (K : PySem.W.Frag) (MB : Addr) : Sp := fun vs H Q _ => ∃ (x : Addr) (n z : Str) (m : MkD), vs = [.ref x, .str n, .str z] ∧ MkAt K MB H x m ∧ m.dn.length ≤ 100 ∧ m.up.length ≤ 100 ∧ ∀ l qs H', H l = none → Same H H' → H' l = some (.lst (qs.map V.ref)) → TrisAt K H' qs (mkT m n z) → Q (.ref l) H'
theorem tris_app {K : PySem.W.Frag} {H : Hp} : ∀ {qs ps : List Addr} {ts us : List T3}, TrisAt K H qs ts → TrisAt K H ps us → TrisAt K H (qs ++ ps) (ts ++ us)
  | [], _, [], _, _, g => g
  | _ :: _, _, _ :: _, _, h, g => ⟨h.1, tris_app h.2 g⟩
  | [], _, _ :: _, _, h, _ => h.elim
  | _ :: _, _, [], _, h, _ => h.elim
/-- what stands whatever becomes of the house's dicts -/
def Fr3 (d1 d2 d3 : Addr) (H H' : Hp) : Prop := ∀ q o, q ≠ d1 → q ≠ d2 → q ≠ d3 → H q = some o → H' q = some o
/-- what is due of a making deed -/
def mkDue (ss : List Str) (ms : List MkD) (th : List Thing) (n so z : Str) : Option Rf :=
  if n ∈ nmL th then (if so ∈ ss then (if awk th n = some true then (match srt th n with
    | some a => (match fndM ms a so with
      | some _ => entD ss th z so
      | none => some (.mkg a so))
    | none => none) else some (.one 5 n)) else some (.one 2 so)) else some (.one 3 n)
structure MksOk (ws : List Str) (ms : List MkD) : Prop where
  ln : ms.length ≤ 1000
  dl : ∀ m ∈ ms, m.dn.length ≤ 100 ∧ m.up.length ≤ 100
  dw : ∀ m ∈ ms, (∀ z ∈ m.dn, z ∈ ws) ∧ ∀ z ∈ m.up, z ∈ ws
def spPMk (K : PySem.W.Frag) (HC S MB : Addr) (cl : List Addr) : Sp := fun vs H Q E => ∃ (x dx sc d1 d2 d3 : Addr) (n so z : Str) (ss ws : List Str) (as bs cs : List Addr) (ms : List MkD) (th : List Thing) (ts : List T3), vs = [.ref x, .str n, .str so, .str z] ∧ HsAt HC S H x dx sc d1 d2 d3 ss ws th ts ∧ SchG S H sc ss ws as bs cs ∧ AllAt (MkAt K MB H) as ms ∧ MksOk ws ms ∧ z.length ≤ 1000 ∧ th.length ≤ 60 ∧ ts.length ≤ 700 ∧
  DueC cl (mkDue ss ms th n so z) H (∀ a m H', srt th n = some a → fndM ms a so = some m → Fr3 d1 d2 d3 H H' → HsAt HC S H' x dx sc d1 d2 d3 ss ws (th ++ [(z, so, true)]) ((mkT m n z).foldl addT ts) → Q .non H') E
section
variable {P : Program} {w : World} {K : PySem.W.Frag} {mg : Str → Option Value} {base : Heap}
theorem scNMk : FnScope ["self", "maker", "made"] ["self", "maker", "made"] (defScope sNMk) := ⟨rfl, rfl, rfl, by decide +kernel, rfl, by decide +kernel, by decide +kernel⟩
theorem ok_nmk {f C f0 W : Addr} {fd fd0 : FuncData} (F : Fun K "__init__" "NoMaking.__init__" sNMk f fd) (T : ErrT K mg "NoMaking" "maker" C f) (n2 : PySem.W.findIn K (.ref C) "made" = some none) (TW : WhoT K mg W f0 fd0) (G0 : FnOk P w K mg base CX0 1 f0 fd0 ["self", "kind"] (spWI K)) :
    FnOk P w K mg base CX0 2 f fd ["self", "maker", "made"] (spE2 C) := by
  refine F.ok scNMk (fun vs H Q E h => ?_) (fun cdv A outer s H vs Q E hr h => ?_)
  · obtain ⟨a, u, v, rfl, _⟩ := h
    rfl
  · obtain ⟨a, u, v, rfl, ha, k⟩ := h
    refine ⟨_, pss_cons (ps_expr (pe_clsFn rfl TW.g TW.r TW.m TW.k G0 hr TW.b .nil pass0 (pa_cons (pv 0) (pa_cons pe_str pa_nil)))) (pss_cons (ps_ost (pv 0) (pv 1)) (pss_one (ps_ost (pv 0) (pv 2)))), ?_⟩
    refine ⟨_, rfl, a, C, _, rfl, T.o, T.nk, ha, fun dx n ne => ?_⟩
    refine ⟨_, rfl, _, rfl, a, C, rfl, T.o, T.nf, .inr ⟨dx, _, upd_same, Eq.trans (upd_ne ne) upd_same, by decide, ?_⟩⟩
    refine ⟨_, rfl, _, rfl, a, C, rfl, T.o, n2, .inr ⟨dx, _, Eq.trans (upd_ne ne.symm) upd_same, upd_same, by show 2 ≤ 900; decide, ?_⟩⟩
    refine k dx _ n ne (fun b o nb e => ?_) ?_ upd_same
    · have nd : b ≠ dx := ne_of_none e n
      rw [upd_ne nd, upd_ne nd, upd_ne nb, upd_ne nd]
      exact e
    · rw [upd_ne ne.symm, upd_ne ne.symm, upd_same]
theorem scMF : FnScope ["scheme", "sort", "making"] ["scheme", "sort"] (defScope sMF) := ⟨rfl, rfl, rfl, by decide +kernel, rfl, by decide +kernel, by decide +kernel⟩
theorem ok_mf {f S fS MB fM fMk : Addr} {fd dMk : FuncData} (F : Fun K "makings_from" "makings_from" sMF f fd) (TC : TxSch K mg S fS) (TM : TxMak K mg MB fM) (mMk : Meth K S "makings" fMk) (bMk : Binds K dMk ["self"] []) (GMk : FnOk P w K mg base CX0 1 fMk dMk ["self"] (spSMk S)) : FnOk P w K mg base CX0 2 f fd ["scheme", "sort"] (spMF K S MB) := by
  refine F.ok scMF (fun vs H Q E h => ?_) (fun cdv A outer s H vs Q E hr h => ?_)
  · obtain ⟨sc, a, ss, ws, as, bs, cs, ms, rfl, _⟩ := h
    rfl
  · obtain ⟨sc, a, ss, ws, as, bs, cs, ms, rfl, hs, am, ml, k⟩ := h
    have hr1 : Room 1 _ := hr
    refine ⟨_, (pss_one (ps_ret (pe_lc (own := [("making", 2)]) (g := gName 2) (tt := tTest (tOp rEq (tFld K (tVar 2) "maker") (tVar 1))) (te := tVar 2) rfl scMF.nd (pi_list (pe_meth0 (pv 0) TC.cl mMk GMk hr1 bMk .nil pass0)) (blkOk_by (N := ["scheme", "sort", "making"]) (sc := defScope sMF) (by decide +kernel)) (fun _ _ _ _ _ => (pg_name (i := 2) scMF.nd rfl (Or.inl rfl))) (fun _ _ _ _ _ => (pts_one (pt_cmpR op_eq (pe_fld (pv 2) rfl) (pv 1) (nomark _)))) (fun _ _ _ _ _ => (pv 2))))), ?_⟩
    have hs' := hs
    obtain ⟨dx, l1, l2, l3, l4, l5, h0, _⟩ := hs'
    refine ⟨_, rfl, sc, dx, _, rfl, h0, schF_no (by decide +kernel) (by decide +kernel) (by decide +kernel) (by decide +kernel) (by decide +kernel) _ _ _ _ _, sc, ss, ws, as, bs, cs, rfl, hs, fun l hl => ?_⟩
    have S1 : Same H (upd H l (.lst (as.map V.ref))) := Same.upd hl
    have e1 : (upd H l (.lst (as.map V.ref))) l = some (.lst (as.map V.ref)) := upd_same
    generalize upd H l (.lst (as.map V.ref)) = H1 at S1 e1
    have am1 := am.imp fun _ _ q => q.same S1
    refine ⟨l, rfl, ⟨_, SqL.of e1⟩, fun D hD => ?_⟩
    refine lc_list (K := K) (a := l) (xs := as.map V.ref) (fun i H' => Same H1 H' ∧ ∃ fs : List Addr, H' D = some (.lst (fs.map V.ref)) ∧ AllAt (MkAt K MB H') fs ((ms.take i).filter fun x => decide (x.mr = a))) ⟨Same.upd hD, [], upd_same, True.intro⟩ (fun i H' _ h => SqL.of (h.1 _ _ e1)) ?_ ?_
    · rintro i x H2 hx ⟨S2, fs, hD2, af⟩
      obtain ⟨q, m, rfl, hm, hq⟩ := am1.get hx
      have hq2 := hq.same S2
      have hq3 := hq2
      obtain ⟨d, t1, t2, g0, g1, g2⟩ := hq3
      have et : ms.take (i + 1) = ms.take i ++ [m] := by
        rw [List.take_add_one, hm]
        rfl
      refine ⟨rfl, _, rfl, q, MB, d, _, _, rfl, g0, TM.cl, TM.nk, makF_maker _ _ _ _, _, rfl, rfl, _, rfl, ?_⟩
      refine ite2 (fun hc => ?_) (fun hc => ?_)
      · have hc : m.mr = a := V.str.inj (of_decide_eq_true hc)
        refine ⟨_, rfl, _, hD2, ?_, fun b o e => ?_, fs ++ [q], ?_, ?_⟩
        · have ql := af.len
          have qf := List.length_filter_le (fun x : MkD => decide (x.mr = a)) (ms.take i)
          rw [List.length_take] at qf
          rw [List.length_map]
          exact Nat.lt_of_le_of_lt (show _ ≤ 1000 by omega) (by decide)
        · rw [upd_ne (ne_of_none e hD)]
          exact S2 _ _ e
        · rw [upd_same, List.map_append]
          rfl
        · rw [et, List.filter_append, List.filter_cons, if_pos (decide_eq_true hc), List.filter_nil]
          exact AllAt.append (af.imp fun _ _ q => q.put hD2) ⟨hq2.put hD2, True.intro⟩
      · have hc : ¬ m.mr = a := fun z => hc (decide_eq_true (by rw [z]))
        refine ⟨S2, fs, hD2, ?_⟩
        rw [et, List.filter_append, List.filter_cons, if_neg (by rw [decide_eq_false hc]; decide), List.filter_nil, List.append_nil]
        exact af
    rintro H2 ⟨S2, fs, hD2, af⟩
    rw [List.length_map, am.len, List.take_length] at af
    exact k D fs H2 (S1.free hD) (S1.trans S2) hD2 af
theorem scMB : FnScope ["scheme", "maker", "made", "making"] ["scheme", "maker", "made"] (defScope sMB) := ⟨rfl, rfl, rfl, by decide +kernel, rfl, by decide +kernel, by decide +kernel⟩
theorem ok_mb {f S MB NM fM fF fI : Addr} {fd dF fdI : FuncData} (F : Fun K "making_between" "making_between" sMB f fd) (TM : TxMak K mg MB fM) (DF : Dn K mg "makings_from" sMF ["scheme", "sort"] fF dF) (GF : FnOk P w K mg base CX0 2 fF dF ["scheme", "sort"] (spMF K S MB)) (TE : ErrT K mg "NoMaking" "maker" NM fI) (bI : Binds K fdI ["self", "maker", "made"] []) (GI : FnOk P w K mg base CX0 2 fI fdI ["self", "maker", "made"] (spE2 NM)) :
    FnOk P w K mg base (L2N.CX P w) 4 f fd ["scheme", "maker", "made"] (spMB K S MB NM) := by
  refine okN F scMB (fun vs H Q E h => ?_) (fun cdv A outer s H vs Q E hr h => ?_)
  · obtain ⟨sc, a, b, ss, ws, as, bs, cs, ms, rfl, _⟩ := h
    rfl
  · obtain ⟨sc, a, b, ss, ws, as, bs, cs, ms, rfl, hs, am, ml, q⟩ := h
    have hr2 : Room 2 _ := hr.mono (by decide)
    have hr3 : Room 3 _ := hr
    refine ⟨_, (pss_cons (ps_for (passes_of rfl) rfl (pi_list (pe_call GF hr2 rfl DF.g DF.F.kp DF.b .nil pass0 (pa_cons (pv 0) (pa_cons (pv 1) pa_nil)))) (pg_name (i := 3) scMB.nd rfl (Or.inl rfl)) (pss_one (ps_if (pt_cmpR op_eq (pe_fld (pv 3) rfl) (pv 2) (nomark _)) (pss_one (ps_ret (pv 3))) pss_nil)))
      (pss_one (L2N.ps_raise rfl (L2N.takes_of rfl rfl rfl rfl) (pmkN_oex TE.o TE.iC TE.tI GI hr3 bI pass0 rfl TE.g (pa_cons (pv 1) (pa_cons (pv 2) pa_nil)))))), ?_⟩
    refine ⟨_, rfl, _, rfl, sc, a, ss, ws, as, bs, cs, ms, rfl, hs, am, ml, fun l fs H1 l0 S1 e1 af => ?_⟩
    rw [← fnd_filter] at q
    generalize (ms.filter fun x => decide (x.mr = a)) = ns at q af
    refine ⟨l, rfl, ⟨_, SqL.of e1⟩, for_list (K := K) (a := l) (xs := fs.map V.ref) (fun i σ H' => (∃ u, σ = [some (.ref sc), some (.str a), some (.str b), u]) ∧ H' = H1 ∧ ∀ y ∈ ns.take i, y.md ≠ b) ⟨⟨none, rfl⟩, rfl, fun y hy => by simp at hy⟩ (fun i σ H' _ p => by rw [p.2.1]; exact SqL.of e1) ?_ ?_⟩
    · rintro i x σ H' hx ⟨⟨u, rfl⟩, rfl, hno⟩
      obtain ⟨qa, m, rfl, hm, hq⟩ := af.get hx
      have hq3 := hq
      obtain ⟨d, t1, t2, g0, g1, g2⟩ := hq3
      dsimp only [gName, List.set_cons_succ, List.set_cons_zero]
      refine ⟨_, rfl, qa, MB, d, _, _, rfl, g0, TM.cl, TM.nd, makF_made _ _ _ _, _, rfl, rfl, _, rfl, ?_⟩
      refine ite2 (fun hc => ?_) (fun hc => ?_)
      · have hc : m.md = b := V.str.inj (of_decide_eq_true hc)
        have hf : ns.find? (fun x => decide (x.md = b)) = some m := by
          rw [List.find?_eq_some_iff_getElem]
          obtain ⟨hil, em⟩ := List.getElem?_eq_some_iff.mp hm
          refine ⟨decide_eq_true hc, i, hil, em, fun j hj => ?_⟩
          have q := hno (ns[j]) (List.mem_take_iff_getElem.mpr ⟨j, by omega, rfl⟩)
          rw [decide_eq_false q]
          rfl
        rw [hf] at q
        exact ⟨_, rfl, q qa _ S1 hq⟩
      · have hc : ¬ m.md = b := fun z => hc (decide_eq_true (by rw [z]))
        refine ⟨⟨_, rfl⟩, rfl, fun y hy => ?_⟩
        rw [List.take_add_one, hm] at hy
        rcases List.mem_append.mp hy with q | q
        · exact hno y q
        · simp at q
          rw [q]
          exact hc
    · rintro σ H' ⟨⟨u, rfl⟩, rfl, hno⟩
      rw [List.length_map, af.len, List.take_length] at hno
      have hf : ns.find? (fun x => decide (x.md = b)) = none := List.find?_eq_none.mpr fun y hy => by
        rw [decide_eq_false (hno y hy)]
        decide
      rw [hf] at q
      exact ⟨_, rfl, _, rfl, mk2 fun d H2 nd S2 e2 => q d H2 (S1.free nd) (S1.trans S2) e2⟩
theorem scMH : FnScope ["making", "maker", "name", "down", "up", "word"] ["making", "maker", "name"] (defScope sMH) := ⟨rfl, rfl, rfl, by decide +kernel, rfl, by decide +kernel, by decide +kernel⟩
theorem ok_mh {f MB fM : Addr} {fd : FuncData} (F : Fun K "made_holdings" "made_holdings" sMH f fd) (TM : TxMak K mg MB fM) : FnOk P w K mg base CX0 1 f fd ["making", "maker", "name"] (spMH K MB) := by
  refine F.ok scMH (fun vs H Q E h => ?_) (fun cdv A outer s H vs Q E hr h => ?_)
  · obtain ⟨x, n, z, m, rfl, _⟩ := h
    rfl
  · obtain ⟨x, n, z, m, rfl, hx, dl, ul, k⟩ := h
    refine ⟨_, (pss_cons (ps_setLc (i := 3) (own := [("word", 5)]) (g := gName 5) rfl scMH.nd rfl rfl (sw_true rfl rfl rfl (by decide +kernel)) (pi_tup (pe_fld (pv 0) rfl)) (blkOk_by (N := ["making", "maker", "name", "down", "up", "word"]) (sc := defScope sMH) (by decide +kernel)) (fun _ _ _ _ _ => (pg_name (i := 5) scMH.nd rfl (Or.inl rfl))) (fun _ _ _ _ _ => pts_nil) (fun _ _ _ _ _ => (pe_tup (pa_cons (pv 1) (pa_cons (pv 5) (pa_cons (pv 2) pa_nil))))))
      (pss_cons (ps_setLc (i := 4) (own := [("word", 5)]) (g := gName 5) rfl scMH.nd rfl rfl (sw_true rfl rfl rfl (by decide +kernel)) (pi_tup (pe_fld (pv 0) rfl)) (blkOk_by (N := ["making", "maker", "name", "down", "up", "word"]) (sc := defScope sMH) (by decide +kernel)) (fun _ _ _ _ _ => (pg_name (i := 5) scMH.nd rfl (Or.inl rfl))) (fun _ _ _ _ _ => pts_nil) (fun _ _ _ _ _ => (pe_tup (pa_cons (pv 2) (pa_cons (pv 5) (pa_cons (pv 1) pa_nil))))))
      (pss_one (ps_ret (pe_lst (pa_star (pv 3) (pa_star (pv 4) pa_nil))))))), ?_⟩
    obtain ⟨d, t1, t2, g0, g1, g2⟩ := hx
    refine ⟨_, rfl, x, MB, d, _, _, rfl, g0, TM.cl, TM.nw, makF_down _ _ _ _, t1, rfl, ⟨_, g1⟩, fun D hD => ?_⟩
    refine lc_tup (K := K) (a := t1) (xs := m.dn.map V.str) (fun i H' => Same H H' ∧ ∃ qs : List Addr, H' D = some (.lst (qs.map V.ref)) ∧ TrisAt K H' qs ((m.dn.take i).map fun w => (n, w, z))) ⟨Same.upd hD, [], upd_same, True.intro⟩ (fun i H' _ h => same_seqT h.1 g1) ?_ ?_
    · rintro i y H1 hy ⟨S1, qs, hD1, tq⟩
      obtain ⟨wd, hwd, rfl⟩ := map_str_get hy
      have hil : i < m.dn.length := (List.getElem?_eq_some_iff.mp hwd).1
      refine ⟨rfl, _, rfl, _, rfl, _, rfl, by show 3 ≤ sizeLine; decide, fun tt htt => ?_⟩
      have S2 : Same H1 (upd H1 tt (.tup [.str n, .str wd, .str z])) := Same.upd htt
      have e2 : (upd H1 tt (.tup [.str n, .str wd, .str z])) tt = some (.tup (triV3 (n, wd, z))) := upd_same
      generalize upd H1 tt (.tup [.str n, .str wd, .str z]) = H2 at S2 e2
      have hD2 := S2 _ _ hD1
      refine ⟨_, hD2, ?_, fun b o e => ?_, qs ++ [tt], ?_, ?_⟩
      · rw [List.length_map, tris_len tq, List.length_map, List.length_take]
        exact Nat.lt_of_le_of_lt (show _ ≤ 1000 by omega) (by decide)
      · rw [upd_ne (ne_of_none e hD)]
        exact S2 _ _ (S1 _ _ e)
      · rw [upd_same, List.map_append]
        rfl
      · rw [List.take_add_one, hwd, List.map_append]
        exact (tris_snoc (tq.same fun z => same_seqT S2 z) (SqT.of e2)).same fun z => sqT_put hD2 z
    rintro H1 ⟨S1, qs, hD1, tq⟩
    rw [List.length_map, List.take_length] at tq
    dsimp only [gName, List.set_cons_succ, List.set_cons_zero]
    refine ⟨_, rfl, x, MB, d, _, _, rfl, S1 _ _ g0, TM.cl, TM.nu, makF_up _ _ _ _, t2, rfl, ⟨_, same_seqT S1 g2⟩, fun D2 hD2 => ?_⟩
    refine lc_tup (K := K) (a := t2) (xs := m.up.map V.str) (fun i H' => Same H1 H' ∧ ∃ ps : List Addr, H' D2 = some (.lst (ps.map V.ref)) ∧ TrisAt K H' ps ((m.up.take i).map fun w => (z, w, n))) ⟨Same.upd hD2, [], upd_same, True.intro⟩ (fun i H' _ h => same_seqT (S1.trans h.1) g2) ?_ ?_
    · rintro i y H2 hy ⟨S2, ps, hD3, tq2⟩
      obtain ⟨wd, hwd, rfl⟩ := map_str_get hy
      have hil : i < m.up.length := (List.getElem?_eq_some_iff.mp hwd).1
      refine ⟨rfl, _, rfl, _, rfl, _, rfl, by show 3 ≤ sizeLine; decide, fun tt htt => ?_⟩
      have S3 : Same H2 (upd H2 tt (.tup [.str z, .str wd, .str n])) := Same.upd htt
      have e3 : (upd H2 tt (.tup [.str z, .str wd, .str n])) tt = some (.tup (triV3 (z, wd, n))) := upd_same
      generalize upd H2 tt (.tup [.str z, .str wd, .str n]) = H3 at S3 e3
      have hD4 := S3 _ _ hD3
      refine ⟨_, hD4, ?_, fun b o e => ?_, ps ++ [tt], ?_, ?_⟩
      · rw [List.length_map, tris_len tq2, List.length_map, List.length_take]
        exact Nat.lt_of_le_of_lt (show _ ≤ 1000 by omega) (by decide)
      · rw [upd_ne (ne_of_none e hD2)]
        exact S3 _ _ (S2 _ _ e)
      · rw [upd_same, List.map_append]
        rfl
      · rw [List.take_add_one, hwd, List.map_append]
        exact (tris_snoc (tq2.same fun z => same_seqT S3 z) (SqT.of e3)).same fun z => sqT_put hD4 z
    rintro H2 ⟨S2, ps, hD3, tq2⟩
    rw [List.length_map, List.take_length] at tq2
    dsimp only [gName, List.set_cons_succ, List.set_cons_zero]
    refine ⟨_, rfl, D, _, rfl, .inr (SqL.of (S2 _ _ hD1)), _, rfl, D2, _, rfl, .inr (SqL.of hD3), ?_, fun l hl => ?_⟩
    · rw [List.append_nil, List.length_append, List.length_map, List.length_map, tris_len tq, tris_len tq2, List.length_map, List.length_map]
      exact Nat.le_trans (show _ ≤ 1000 by omega) (by decide)
    have S3 : Same H2 (upd H2 l (.lst (qs.map V.ref ++ (ps.map V.ref ++ [])))) := Same.upd hl
    refine k l (qs ++ ps) _ (S1.free (S2.free hl)) ((S1.trans S2).trans S3) ?_ ((tris_app (tq.same fun z => same_seqT S2 z) tq2).same fun z => same_seqT S3 z)
    rw [upd_same, List.append_nil, List.map_append]
end
end Wm
namespace Wm
open PySem L2 StX
theorem SchG.fr3 {S sc d1 d2 d3 : Addr} {H H' : Hp} {ss ws : List Str} {as bs cs : List Addr} {k1 k2 : List (L2.Key × V)} {k3 : List (List L2.Key × V)} (f : Fr3 d1 d2 d3 H H') (e1 : H d1 = some (.dK k1)) (e2 : H d2 = some (.dK k2)) (e3 : H d3 = some (.dT k3)) (h : SchG S H sc ss ws as bs cs) : SchG S H' sc ss ws as bs cs := by
  have U : ∀ {a : Addr} {u : HO}, (∀ k, u ≠ .dT k) → (∀ k, u ≠ .dK k) → H a = some u → H' a = some u := fun n1 n2 e => f _ _ (ne_of e e1 (n2 _)) (ne_of e e2 (n2 _)) (ne_of e e3 (n1 _)) e
  obtain ⟨dx, l1, l2, l3, l4, l5, h0, h1, h2, h3, h4, h5⟩ := h
  exact ⟨dx, l1, l2, l3, l4, l5, U (fun _ z => by cases z) (fun _ z => by cases z) h0, U (fun _ z => by cases z) (fun _ z => by cases z) h1, U (fun _ z => by cases z) (fun _ z => by cases z) h2, U (fun _ z => by cases z) (fun _ z => by cases z) h3, U (fun _ z => by cases z) (fun _ z => by cases z) h4, U (fun _ z => by cases z) (fun _ z => by cases z) h5⟩
theorem fold_len : ∀ (us ts : List T3), (us.foldl addT ts).length ≤ ts.length + us.length
  | [], _ => Nat.le_refl _
  | u :: us, ts => by
    have q := fold_len us (addT ts u)
    have p := add_len ts u
    rw [List.foldl_cons, List.length_cons]
    omega
theorem fold_take {us : List T3} {ts : List T3} {i : Nat} {t : T3} (h : us[i]? = some t) : (us.take (i + 1)).foldl addT ts = addT ((us.take i).foldl addT ts) t := by
  rw [List.take_add_one, h, List.foldl_append]
  rfl
theorem fnd_mem {ms : List MkD} {a b : Str} {m : MkD} (h : fndM ms a b = some m) : m ∈ ms ∧ m.mr = a ∧ m.md = b := by
  unfold fndM at h
  have q := List.find?_some h
  simp at q
  exact ⟨List.mem_of_find?_eq_some h, q.1, q.2⟩
theorem mkT_mem {ws nms : List Str} {ms : List MkD} {m : MkD} {n z : Str} (ok : MksOk ws ms) (hm : m ∈ ms) (hn : n ∈ nms) {t : T3} (ht : t ∈ mkT m n z) : t.1 ∈ nms ++ [z] ∧ t.2.1 ∈ ws ∧ t.2.2 ∈ nms ++ [z] := by
  unfold mkT at ht
  rcases List.mem_append.mp ht with q | q
  · obtain ⟨wd, hw, rfl⟩ := List.mem_map.mp q
    exact ⟨List.mem_append_left _ hn, (ok.dw m hm).1 wd hw, by simp⟩
  · obtain ⟨wd, hw, rfl⟩ := List.mem_map.mp q
    exact ⟨by simp, (ok.dw m hm).2 wd hw, List.mem_append_left _ hn⟩
theorem entD_in {ss : List Str} {th : List Thing} {z so : Str} (hso : so ∈ ss) (h : entD ss th z so = none) : isNm z = true ∧ z ∉ nmL th ∧ th.length < 60 := by
  unfold entD at h
  by_cases h1 : isNm z = true
  · rw [if_pos h1] at h
    by_cases h2 : z ∈ nmL th
    · rw [if_pos h2] at h
      cases h
    · rw [if_neg h2, if_pos hso] at h
      by_cases h3 : th.length < 60
      · exact ⟨h1, h2, h3⟩
      · rw [if_neg h3] at h
        cases h
  · rw [if_neg h1] at h
    cases h
theorem ent_ix {cl : List Addr} {c0 c1 c2 c8 : Addr} (h0 : cl[0]? = some c0) (h1 : cl[1]? = some c1) (h2 : cl[2]? = some c2) (h8 : cl[8]? = some c8) {ss : List Str} {th : List Thing} {z so : Str} {r : Rf} (h : entD ss th z so = some r) : cl[ixOf r]? = some (clsOf ⟨c0, c1, c2, c8⟩ r) := by
  unfold entD at h
  split at h
  · split at h
    · cases h
      exact h1
    · split at h
      · split at h
        · cases h
        · cases h
          exact h8
      · cases h
        exact h2
  · cases h
    exact h0
section
variable {P : Program} {w : World} {K : PySem.W.Frag} {mg : Str → Option Value} {base : Heap}
theorem scPMk : FnScope ["house", "maker", "sort", "name", "making", "x", "word", "y"] ["house", "maker", "sort", "name"] (defScope sPMk) := ⟨rfl, rfl, rfl, by decide +kernel, rfl, by decide +kernel, by decide +kernel⟩
theorem ok_pmk {f HC S MB c0 c1 c2 c3 c4 c5 c8 c10 fH fS fM fR fSc fSo iS fA fMB fO fEn fMH fGi : Addr} {fd dR dSc dSo dS dA dMB dO dEn dMH dGi : FuncData} {cl : List Addr} (h0 : cl[0]? = some c0) (h1 : cl[1]? = some c1) (h2 : cl[2]? = some c2) (h3 : cl[3]? = some c3) (h5 : cl[5]? = some c5) (h8 : cl[8]? = some c8) (h10 : cl[10]? = some c10) (F : Fun K "play_make" "play_make" sPMk f fd) (TH : TxH K mg HC fH) (TC : TxSch K mg S fS)
    (mR : Meth K HC "refuse_no_thing" fR) (bR : Binds K dR ["self", "name"] []) (GR : FnOk P w K mg base (L2N.CX P w) 4 fR dR ["self", "name"] (spHrtX HC S c3))
    (mSc : Meth K HC "scheme" fSc) (bSc : Binds K dSc ["self"] []) (GSc : FnOk P w K mg base CX0 1 fSc dSc ["self"] (spHsc HC S)) (mO : Meth K S "sorts" fO) (bO : Binds K dO ["self"] []) (GO : FnOk P w K mg base CX0 1 fO dO ["self"] (spSor S))
    (TS : ErrT K mg "NoSort" "name" c2 iS) (bS : Binds K dS ["self", "name"] []) (GS : FnOk P w K mg base CX0 2 iS dS ["self", "name"] (spE1 c2 "name" "nosort"))
    (DA : Dn K mg "refuse_asleep" sRAs ["house", "name"] fA dA) (GA : FnOk P w K mg base (L2N.CX P w) 4 fA dA ["house", "name"] (spRAs HC S c5))
    (mSo : Meth K HC "sort_of" fSo) (bSo : Binds K dSo ["self", "x"] []) (GSo : FnOk P w K mg base CX0 2 fSo dSo ["self", "x"] (spHso HC S))
    (DMB : Dn K mg "making_between" sMB ["scheme", "maker", "made"] fMB dMB) (GMB : FnOk P w K mg base (L2N.CX P w) 4 fMB dMB ["scheme", "maker", "made"] (spMB K S MB c10))
    (mEn : Meth K HC "enter" fEn) (bEn : Binds K dEn ["self", "name", "sort", "awake"] [.bool true]) (GEn : FnOk P w K mg base (L2N.CX P w) 5 fEn dEn ["self", "name", "sort", "awake"] (spHenX HC S ⟨c0, c1, c2, c8⟩))
    (DMH : Dn K mg "made_holdings" sMH ["making", "maker", "name"] fMH dMH) (GMH : FnOk P w K mg base CX0 1 fMH dMH ["making", "maker", "name"] (spMH K MB))
    (mGi : Meth K HC "give" fGi) (bGi : Binds K dGi ps4 []) (GGi : FnOk P w K mg base (L2N.CX P w) 6 fGi dGi ps4 (spGiv HC S c3 c4)) :
    FnOk P w K mg base (L2N.CX P w) 7 f fd ["house", "maker", "sort", "name"] (spPMk K HC S MB cl) := by
  refine okN F scPMk (fun vs H Q E h => ?_) (fun cdv A outer s H vs Q E hr h => ?_)
  · obtain ⟨x, dx, sc, d1, d2, d3, n, so, z, ss, ws, as, bs, cs, ms, th, ts, rfl, _⟩ := h
    rfl
  · obtain ⟨x, dx, sc, d1, d2, d3, n, so, z, ss, ws, as, bs, cs, ms, th, ts, rfl, hh, hg, am, mo, zl, t60, t700, q⟩ := h
    have hr1 : Room 1 _ := hr.mono (by decide)
    have hr2 : Room 2 _ := hr.mono (by decide)
    have hr3 : Room 3 _ := hr.mono (by decide)
    have hr4 : Room 4 _ := hr.mono (by decide)
    have hr5 : Room 5 _ := hr.mono (by decide)
    have hr6 : Room 6 _ := hr
    have no : ∀ {f : Str}, ¬ f = "standing" → ¬ f = "awake_by_name" → ¬ f = "sort_by_name" → ¬ f = "own_scheme" → (hsF sc d1 d2 d3).lookup f = none := fun a b c d => hsF_no a b c d _ _ _ _
    refine ⟨_, (pss_cons (ps_expr (pe_meth (pv 0) TH.cl mR GR hr4 bR .nil (L2N.passes_call (L2N.takes_of rfl rfl rfl rfl) (fun _ _ _ _ h => h)) (pa_cons (pv 1) pa_nil)))
      (pss_cons (ps_if (pt_cmpR op_notIn_seq (pv 2) (pe_meth0 (pe_meth0 (pv 0) TH.cl mSc GSc hr1 bSc .nil pass0) TC.cl mO GO hr1 bO .nil pass0) (by rfl)) (pss_one (L2N.ps_raise rfl (L2N.takes_of rfl rfl rfl rfl) (pmkN_oex TS.o TS.iC TS.tI GS hr3 bS pass0 rfl TS.g (pa_cons (pv 2) pa_nil)))) pss_nil)
      (pss_cons (ps_expr (pe_call GA hr4 rfl DA.g DA.F.kp DA.b .nil (L2N.passes_call (L2N.takes_of rfl rfl rfl rfl) (fun _ _ _ _ h => h)) (pa_cons (pv 0) (pa_cons (pv 1) pa_nil))))
      (pss_cons (ps_set (i := 4) scPMk.nd rfl (Or.inl rfl) (pe_call GMB hr4 rfl DMB.g DMB.F.kp DMB.b .nil (L2N.passes_call (L2N.takes_of rfl rfl rfl rfl) (fun _ _ _ _ h => h)) (pa_cons (pe_meth0 (pv 0) TH.cl mSc GSc hr1 bSc .nil pass0) (pa_cons (pe_meth (pv 0) TH.cl mSo GSo hr2 bSo .nil pass0 (pa_cons (pv 1) pa_nil)) (pa_cons (pv 2) pa_nil)))))
      (pss_cons (ps_expr (pe_meth (dvs := [.bl true]) (pv 0) TH.cl mEn GEn hr5 bEn (.cons rfl .nil) (L2N.passes_call (L2N.takes_of rfl rfl rfl rfl) (fun _ _ _ _ h => h)) (pa_cons (pv 3) (pa_cons (pv 2) pa_nil))))
      (pss_one (ps_for (passes_of rfl) rfl (pi_list (pe_call GMH hr1 rfl DMH.g DMH.F.kp DMH.b .nil pass0 (pa_cons (pv 4) (pa_cons (pv 1) (pa_cons (pv 3) pa_nil))))) (pg_tup rfl (pgs_cons (pg_name (i := 5) scPMk.nd rfl (Or.inl rfl)) (pgs_cons (pg_name (i := 6) scPMk.nd rfl (Or.inl rfl)) (pgs_cons (pg_name (i := 7) scPMk.nd rfl (Or.inl rfl)) pgs_nil)))) (pss_one (ps_expr (pe_meth (pv 0) TH.cl mGi GGi hr6 bGi .nil (L2N.passes_call (L2N.takes_of rfl rfl rfl rfl) (fun _ _ _ _ h => h)) (pa_cons (pv 5) (pa_cons (pv 6) (pa_cons (pv 7) pa_nil))))))))))))), ?_⟩
    refine ⟨_, rfl, x, dx, _, rfl, hh.hx, no (by decide +kernel) (by decide +kernel) (by decide +kernel) (by decide +kernel), _, rfl, x, dx, sc, d1, d2, d3, n, ss, ws, th, ts, rfl, hh, ?_⟩
    unfold mkDue at q
    unfold DueT
    by_cases hn : n ∈ nmL th
    case neg =>
      rw [if_neg hn] at q ⊢
      exact fun d H' nd S' e => q c3 d H' h3 nd S' e
    rw [if_pos hn] at q ⊢
    obtain ⟨dy, l1, l2, l3, l4, l5, g1, _⟩ := hg
    have hg : SchG S H sc ss ws as bs cs := ⟨dy, l1, l2, l3, l4, l5, g1, by assumption⟩
    refine ⟨_, rfl, _, rfl, x, dx, _, rfl, hh.hx, no (by decide +kernel) (by decide +kernel) (by decide +kernel) (by decide +kernel), x, dx, sc, d1, d2, d3, ss, ws, th, ts, rfl, hh, sc, dy, _, rfl, g1, schF_no (by decide +kernel) (by decide +kernel) (by decide +kernel) (by decide +kernel) (by decide +kernel) _ _ _ _ _, sc, ss, ws, rfl, hh.hs, fun l hl => ?_⟩
    have S1 : Same H (upd H l (.lst (ss.map V.str))) := Same.upd hl
    refine ⟨l, _, rfl, .inl (SqL.of upd_same), rfl, flats ss, _, rfl, ?_⟩
    generalize upd H l (.lst (ss.map V.str)) = H1 at S1
    show if (!inV (.str so) (ss.map V.str)) = true then _ else _
    rw [inV_strs]
    by_cases hso : so ∈ ss
    case neg =>
      rw [if_neg hso] at q
      rw [decide_eq_false hso]
      exact iteT ⟨_, rfl, mk1 fun d H3 hd hS3 hx => q c2 d H3 h2 (S1.free hd) (S1.trans hS3) hx⟩
    rw [if_pos hso] at q
    rw [decide_eq_true hso]
    refine iteF ?_
    obtain ⟨b, hb⟩ := awk_some hn
    have hh1 := hh.same S1
    refine ⟨_, rfl, _, rfl, x, dx, sc, d1, d2, d3, n, b, ss, ws, th, ts, rfl, hh1, hn, hb, ?_⟩
    cases b with
    | false =>
      rw [if_neg (by rw [hb]; decide)] at q
      rw [if_neg (by decide)]
      exact fun d H' nd S' e => q c5 d H' h5 (S1.free nd) (S1.trans S') e
    | true =>
      rw [if_pos hb] at q
      rw [if_pos rfl]
      obtain ⟨a, ha⟩ := srt_some hn
      rw [ha] at q
      refine ⟨_, rfl, x, dx, _, rfl, hh1.hx, no (by decide +kernel) (by decide +kernel) (by decide +kernel) (by decide +kernel), x, dx, sc, d1, d2, d3, ss, ws, th, ts, rfl, hh1, _, rfl, x, dx, _, rfl, hh1.hx, no (by decide +kernel) (by decide +kernel) (by decide +kernel) (by decide +kernel), _, rfl, x, dx, sc, d1, d2, d3, n, a, ss, ws, th, ts, rfl, hh1, hn, ha, _, rfl, sc, a, so, ss, ws, as, bs, cs, ms, rfl, hg.same S1, am.imp fun _ _ q => q.same S1, mo.ln, ?_⟩
      cases hf : fndM ms a so with
      | none =>
        have q : DueC cl (match fndM ms a so with | some _ => entD ss th z so | none => some (.mkg a so)) H _ E := q
        rw [hf] at q
        exact fun d H' nd S' e => q c10 d H' h10 (S1.free nd) (S1.trans S') e
      | some m =>
        have q : DueC cl (match fndM ms a so with | some _ => entD ss th z so | none => some (.mkg a so)) H _ E := q
        rw [hf] at q
        have q : DueC cl (entD ss th z so) H _ E := q
        obtain ⟨mm, m1, m2⟩ := fnd_mem hf
        intro xm H2 S2 hxm
        dsimp only [gName, List.set_cons_succ, List.set_cons_zero]
        have S02 := S1.trans S2
        have hh2 := hh.same S02
        refine ⟨_, rfl, x, dx, _, rfl, hh2.hx, no (by decide +kernel) (by decide +kernel) (by decide +kernel) (by decide +kernel), _, rfl, _, rfl, x, dx, sc, d1, d2, d3, z, so, true, ss, ws, th, ts, rfl, hh2, zl, t60, ?_⟩
        cases he : entD ss th z so with
        | some r =>
          rw [he] at q
          have ei := ent_ix h0 h1 h2 h8 he
          exact fun d H' nd S' e => q _ d H' ei (S02.free nd) (S02.trans S') e
        | none =>
          rw [he] at q
          obtain ⟨hz1, hz2, hz3⟩ := entD_in hso he
          intro H3 B3 hh3
          have U3 : ∀ {b : Addr} {u : HO}, (∀ k, u ≠ .dK k) → H2 b = some u → H3 b = some u := fun nn e => B3 _ _ (ne_of e hh2.h1 (nn _)) (ne_of e hh2.h2 (nn _)) e
          have T3 : ∀ {b : Addr} {xs : List V}, SqT K H2 b xs → SqT K H3 b xs := fun hq => by
            rcases hq with (h | ⟨o, h⟩) | h
            · exact .inl (.inl (U3 (fun _ z => by cases z) h))
            · exact .inl (.inr ⟨o, U3 (fun _ z => by cases z) h⟩)
            · exact .inr h
          obtain ⟨dm, t1, t2, e0, e1, e2⟩ := hxm
          have hxm3 : MkAt K MB H3 xm m := ⟨dm, t1, t2, U3 (fun _ z => by cases z) e0, T3 e1, T3 e2⟩
          obtain ⟨dl, ul⟩ := mo.dl m mm
          refine ⟨_, rfl, _, rfl, _, rfl, xm, n, z, m, rfl, hxm3, dl, ul, fun lq qs H4 lq0 S4 elq tq => ?_⟩
          have hh4 := hh3.same S4
          have nm' : nmL (th ++ [(z, so, true)]) = nmL th ++ [z] := by
            unfold nmL
            rw [List.map_append]
            rfl
          have mkl : (mkT m n z).length ≤ 200 := by
            unfold mkT
            rw [List.length_append, List.length_map, List.length_map]
            omega
          refine ⟨lq, rfl, ⟨_, SqL.of elq⟩, for_list (K := K) (a := lq) (xs := qs.map V.ref) (fun i σ H' => (∃ u5 u6 u7, σ = [some (.ref x), some (.str n), some (.str so), some (.str z), some (.ref xm), u5, u6, u7]) ∧ HsAt HC S H' x dx sc d1 d2 d3 ss ws (th ++ [(z, so, true)]) (((mkT m n z).take i).foldl addT ts) ∧ But d3 H4 H') ⟨⟨none, none, none, rfl⟩, hh4, But.refl _ _⟩ (fun i σ H' _ p => SqL.of (p.2.2 _ _ (ne_of elq hh4.h3 (by intro z; cases z)) elq)) ?_ ?_⟩
          · rintro i y σ H5 hy ⟨⟨u5, u6, u7, rfl⟩, hh5, B5⟩
            obtain ⟨qa, t, rfl, ht, hq⟩ := tris_at tq hy
            have hil : i < (mkT m n z).length := (List.getElem?_eq_some_iff.mp ht).1
            have hq5 : SqT K H5 qa (triV3 t) := by
              rcases hq with (h | ⟨o, h⟩) | h
              · exact .inl (.inl (B5 _ _ (ne_of h hh4.h3 (by intro z; cases z)) h))
              · exact .inl (.inr ⟨o, B5 _ _ (ne_of h hh4.h3 (by intro z; cases z)) h⟩)
              · exact .inr h
            obtain ⟨p1, p2, p3⟩ := mkT_mem mo mm hn (List.mem_of_getElem? ht)
            refine ⟨qa, _, rfl, hq5, rfl, _, _, rfl, _, _, rfl, _, _, rfl, rfl, ?_⟩
            dsimp only [gName, List.set_cons_succ, List.set_cons_zero]
            have fl := fold_len ((mkT m n z).take i) ts
            rw [List.length_take] at fl
            refine ⟨_, rfl, x, dx, _, rfl, hh5.hx, no (by decide +kernel) (by decide +kernel) (by decide +kernel) (by decide +kernel), _, rfl, _, rfl, _, rfl, x, dx, sc, d1, d2, d3, t.1, t.2.1, t.2.2, ss, ws, _, _, rfl, hh5, by omega, ?_⟩
            rw [unk_mem (by rw [nm']; exact p1) (by rw [nm']; exact p3) p2]
            intro H6 B6 hh6
            refine ⟨⟨_, _, _, rfl⟩, ?_, B5.trans B6⟩
            rw [fold_take ht]
            exact hh6
          · rintro σ H5 ⟨⟨u5, u6, u7, rfl⟩, hh5, B5⟩
            rw [List.length_map, tris_len tq, List.take_length] at hh5
            exact q a m H5 rfl hf (fun b o n1 n2 n3 e => B5 _ _ n3 (S4 _ _ (B3 _ _ n1 n2 (S02 _ _ e)))) hh5
end
end Wm
namespace Wm
open PySem L2 StX
theorem dueR_none {ws : List Str} {th : List Thing} {ts : List T3} {n wd y : Str} (h : dueR ws th ts n wd y = none) : n ∈ nmL th ∧ y ∈ nmL th ∧ wd ∈ ws ∧ (n, wd, y) ∈ ts ∧ awk th n = some true := by
  unfold dueR at h
  cases e : unR ws (nmL th) n wd y with
  | some r => rw [e] at h; cases h
  | none =>
    rw [e] at h
    obtain ⟨a, b, c⟩ := unR_none e
    have h : (if awk th n = some true then (if (n, wd, y) ∈ ts then none else some (Rf.held n wd y)) else some (Rf.one 5 n)) = none := h
    split at h
    · split at h
      · exact ⟨a, b, c, by assumption, by assumption⟩
      · cases h
    · cases h
theorem unR_some {ws nms : List Str} {n wd y : Str} {r : Rf} (on : okS n) (ow : okS wd) (oy : okS y) (h : unR ws nms n wd y = some r) : ∃ i z, r = .one i z ∧ (i = 3 ∨ i = 4) ∧ okS z := by
  unfold unR at h
  split at h
  · split at h
    · split at h
      · cases h
      · cases h
        exact ⟨4, wd, rfl, .inr rfl, ow⟩
    · cases h
      exact ⟨3, y, rfl, .inl rfl, oy⟩
  · cases h
    exact ⟨3, n, rfl, .inl rfl, on⟩
theorem dueR_some {ws : List Str} {th : List Thing} {ts : List T3} {n wd y : Str} {r : Rf} (on : okS n) (ow : okS wd) (oy : okS y) (h : dueR ws th ts n wd y = some r) :
    (r = .held n wd y ∧ n ∈ nmL th ∧ y ∈ nmL th ∧ wd ∈ ws) ∨ ∃ i z, r = .one i z ∧ (i = 3 ∨ i = 4 ∨ i = 5) ∧ okS z := by
  unfold dueR at h
  cases e : unR ws (nmL th) n wd y with
  | some r' =>
    rw [e] at h
    cases h
    obtain ⟨i, z, a, b, c⟩ := unR_some on ow oy e
    exact .inr ⟨i, z, a, by omega, c⟩
  | none =>
    rw [e] at h
    obtain ⟨a, b, c⟩ := unR_none e
    have h : (if awk th n = some true then (if (n, wd, y) ∈ ts then none else some (Rf.held n wd y)) else some (Rf.one 5 n)) = some r := h
    split at h
    · split at h
      · cases h
      · cases h
        exact .inl ⟨rfl, a, b, c⟩
    · cases h
      exact .inr ⟨5, n, rfl, .inr (.inr rfl), on⟩
theorem dueR_strs {ws : List Str} {th : List Thing} {ts : List T3} {n wd y : Str} {r : Rf} (on : okS n) (ow : okS wd) (oy : okS y) (h : dueR ws th ts n wd y = some r) : r.ok ∧ ∀ z ∈ strsOf r, okS z := by
  have k3 : okS (kdOf 3) := by unfold okS; decide +kernel
  have k4 : okS (kdOf 4) := by unfold okS; decide +kernel
  have k5 : okS (kdOf 5) := by unfold okS; decide +kernel
  have kh : okS "notheld" := by unfold okS; decide +kernel
  rcases dueR_some on ow oy h with ⟨rfl, _⟩ | ⟨i, z, rfl, hi, oz⟩
  · refine ⟨True.intro, fun z hz => ?_⟩
    simp only [strsOf, List.mem_cons, List.not_mem_nil, or_false] at hz
    rcases hz with rfl | rfl | rfl | rfl
    · exact kh
    · exact on
    · exact ow
    · exact oy
  · refine ⟨by show i < 8; omega, fun u hu => ?_⟩
    simp only [strsOf, List.mem_cons, List.not_mem_nil, or_false] at hu
    rcases hu with rfl | rfl
    · rcases hi with rfl | rfl | rfl
      · exact k3
      · exact k4
      · exact k5
    · exact oz
/-- a deed by which a holding is let go, and what is due of it -/
theorem dueD_of {HC S C D CA NH : Addr} {cl : List Addr} {x dx sc d1 d2 d3 : Addr} {n wd y : Str} {ss ws : List Str} {th : List Thing} {ts : List T3} {H : Hp} {Q : VK} {E : XK} (h3 : cl[3]? = some C) (h4 : cl[4]? = some D) (h5 : cl[5]? = some CA) (h9 : cl[9]? = some NH)
    (h0 : dueR ws th ts n wd y = none → ∀ H', But d3 H H' → HsAt HC S H' x dx sc d1 d2 d3 ss ws th (remT ts (n, wd, y)) → Q .non H')
    (h1 : ∀ r, dueR ws th ts n wd y = some r → ∀ Z d H', cl[ixOf r]? = some Z → H d = none → Same H H' → H' d = some (.xd (fsOf r)) → E (.ref Z) (some d) H') : DueD HC S C D CA NH x dx sc d1 d2 d3 n wd y ss ws th ts H Q E := by
  unfold DueD unk
  by_cases hn : n ∈ nmL th
  · rw [if_pos hn]
    by_cases hy : y ∈ nmL th
    · rw [if_pos hy]
      by_cases hw : wd ∈ ws
      · rw [if_pos hw]
        have eu : unR ws (nmL th) n wd y = none := by unfold unR; rw [if_pos hn, if_pos hy, if_pos hw]
        show ∀ b, awk th n = some b → _
        intro b hb
        cases b with
        | true =>
          rw [if_pos rfl]
          by_cases hm : (n, wd, y) ∈ ts
          · rw [if_pos hm]
            exact h0 (by unfold dueR; rw [eu]; show (if awk th n = some true then _ else _) = _; rw [if_pos hb, if_pos hm])
          · rw [if_neg hm]
            exact fun d H' a b c => h1 (.held n wd y) (by unfold dueR; rw [eu]; show (if awk th n = some true then _ else _) = _; rw [if_pos hb, if_neg hm]) NH d H' h9 a b c
        | false =>
          rw [if_neg (by decide)]
          exact fun d H' a b c => h1 (.one 5 n) (by unfold dueR; rw [eu]; show (if awk th n = some true then _ else _) = _; rw [if_neg (by rw [hb]; decide)]) CA d H' h5 a b c
      · rw [if_neg hw]
        exact fun d H' a b c => h1 (.one 4 wd) (by unfold dueR unR; rw [if_pos hn, if_pos hy, if_neg hw]) D d H' h4 a b c
    · rw [if_neg hy]
      exact fun d H' a b c => h1 (.one 3 y) (by unfold dueR unR; rw [if_pos hn, if_neg hy]) C d H' h3 a b c
  · rw [if_neg hn]
    exact fun d H' a b c => h1 (.one 3 n) (by unfold dueR unR; rw [if_neg hn]) C d H' h3 a b c
end Wm
namespace Wm
open PySem L2 StX
/-! ### deeds of any kind -/
inductive Dd where
  | mk (n so z : Str)
  | act (z : Str) (ths : List Str)
  | dr (n wd y : Str)
  | no (k : Str)
def DdAt (H : Hp) (t : Addr) : Dd → Prop
  | .mk n so z => H t = some (.tup [.str "make", .str n, .str so, .str z])
  | .act z ths => ∃ u, H t = some (.tup [.str "do", .str z, .ref u]) ∧ H u = some (.tup (ths.map V.str))
  | .dr n wd y => H t = some (.tup [.str "drop", .str n, .str wd, .str y])
  | .no k => H t = some (.tup [.str k, .str "a", .str "b", .str "c"]) ∧ k ≠ "make" ∧ k ≠ "do" ∧ k ≠ "drop"
theorem DdAt.imp {H H' : Hp} {t : Addr} {d : Dd} (k : ∀ {a : Addr} {xs : List V}, H a = some (.tup xs) → H' a = some (.tup xs)) (h : DdAt H t d) : DdAt H' t d := by
  cases d with
  | mk n so z => exact k h
  | act z ths =>
    obtain ⟨u, a, b⟩ := h
    exact ⟨u, k a, k b⟩
  | dr n wd y => exact k h
  | no k' => exact ⟨k h.1, h.2⟩
theorem DdAt.same {H H' : Hp} {t : Addr} {d : Dd} (s : Same H H') (h : DdAt H t d) : DdAt H' t d := h.imp fun e => s _ _ e
def ddDue (ss ws : List Str) (ms : List MkD) (rs : List RlD) (th : List Thing) (ts : List T3) : Dd → Option Rf
  | .mk n so z => mkDue ss ms th n so z
  | .act z ths => doDue rs th ts z ths
  | .dr n wd y => dueR ws th ts n wd y
  | .no k => some (.deed k)
/-- the house behind a deed that is done -/
def ddTh (th : List Thing) : Dd → List Thing
  | .mk _ so z => th ++ [(z, so, true)]
  | _ => th
def ddTs (ms : List MkD) (rs : List RlD) (th : List Thing) (ts : List T3) : Dd → List T3
  | .mk n so z => match srt th n with
    | some a => match fndM ms a so with
      | some m => (mkT m n z).foldl addT ts
      | none => ts
    | none => ts
  | .act z ths => match fndR rs z with
    | some r => addT ts (inst r.p.vars ths r.g)
    | none => ts
  | .dr n wd y => remT ts (n, wd, y)
  | .no _ => ts
def spPly (K : PySem.W.Frag) (HC S MB RB : Addr) (cl : List Addr) : Sp := fun vs H Q E => ∃ (x t dx sc d1 d2 d3 : Addr) (d : Dd) (ss ws : List Str) (as bs cs : List Addr) (ms : List MkD) (rs : List RlD) (th : List Thing) (ts : List T3), vs = [.ref x, .ref t] ∧ DdAt H t d ∧ HsAt HC S H x dx sc d1 d2 d3 ss ws th ts ∧ SchG S H sc ss ws as bs cs ∧ AllAt (MkAt K MB H) as ms ∧ AllAt (RlAt K RB H) bs rs ∧ MksOk ws ms ∧ (∀ r ∈ rs, RlsOk ws r) ∧ (∀ n so z, d = .mk n so z → z.length ≤ 1000) ∧ th.length ≤ 60 ∧ ts.length ≤ 700 ∧
  DueC cl (ddDue ss ws ms rs th ts d) H (∀ H', Fr3 d1 d2 d3 H H' → HsAt HC S H' x dx sc d1 d2 d3 ss ws (ddTh th d) (ddTs ms rs th ts d) → Q .non H') E
section
variable {P : Program} {w : World} {K : PySem.W.Frag} {mg : Str → Option Value} {base : Heap}
theorem scNDd : FnScope ["self", "word"] ["self", "word"] (defScope sNDd) := ⟨rfl, rfl, rfl, by decide +kernel, rfl, by decide +kernel, by decide +kernel⟩
theorem ok_nodeed {f C f0 W : Addr} {fd fd0 : FuncData} (F : Fun K "__init__" "NoDeed.__init__" sNDd f fd) (T : ErrT K mg "NoDeed" "word" C f) (TW : WhoT K mg W f0 fd0) (G0 : FnOk P w K mg base CX0 1 f0 fd0 ["self", "kind"] (spWI K)) :
    FnOk P w K mg base CX0 2 f fd ["self", "word"] (spE1 C "word" "nodeed") := by
  refine F.ok scNDd (fun vs H Q E h => ?_) (fun cdv A outer s H vs Q E hr h => ?_)
  · obtain ⟨a, v, rfl, _⟩ := h
    rfl
  · obtain ⟨a, v, rfl, ha, k⟩ := h
    refine ⟨_, pss_cons (ps_expr (pe_clsFn rfl TW.g TW.r TW.m TW.k G0 hr TW.b .nil pass0 (pa_cons (pv 0) (pa_cons pe_str pa_nil)))) (pss_one (ps_ost (pv 0) (pv 1))), ?_⟩
    refine ⟨_, rfl, a, C, _, rfl, T.o, T.nk, ha, fun dx n ne => ?_⟩
    refine ⟨_, rfl, _, rfl, a, C, rfl, T.o, T.nf, .inr ⟨dx, _, upd_same, Eq.trans (upd_ne ne) upd_same, by decide, ?_⟩⟩
    refine k dx _ n ne (fun b o nb e => ?_) ?_ upd_same
    · have nd : b ≠ dx := ne_of_none e n
      rw [upd_ne nd, upd_ne nb, upd_ne nd]
      exact e
    · rw [upd_ne ne.symm, upd_same]
theorem scPly : FnScope ["house", "deed"] ["house", "deed"] (defScope sPly) := ⟨rfl, rfl, rfl, by decide +kernel, rfl, by decide +kernel, by decide +kernel⟩
theorem ok_ply {f HC S MB RB fM fA fD c3 c4 c5 c9 c11 fI : Addr} {fd dM dA dD fdI : FuncData} {cl : List Addr} (h3 : cl[3]? = some c3) (h4 : cl[4]? = some c4) (h5 : cl[5]? = some c5) (h9 : cl[9]? = some c9) (h11 : cl[11]? = some c11) (F : Fun K "play" "play" sPly f fd)
    (DM : Dn K mg "play_make" sPMk ["house", "maker", "sort", "name"] fM dM) (GM : FnOk P w K mg base (L2N.CX P w) 7 fM dM ["house", "maker", "sort", "name"] (spPMk K HC S MB cl))
    (DA : Dn K mg "play_do" sPDo ["house", "name", "things"] fA dA) (GA : FnOk P w K mg base (L2N.CX P w) 8 fA dA ["house", "name", "things"] (spPDo K HC S RB cl))
    (DD : Dn K mg "play_drop" sPDr ["house", "x", "word", "y"] fD dD) (GD : FnOk P w K mg base (L2N.CX P w) 7 fD dD ["house", "x", "word", "y"] (spDrop HC S c3 c4 c5 c9))
    (TE : ErrT K mg "NoDeed" "word" c11 fI) (bI : Binds K fdI ["self", "word"] []) (GI : FnOk P w K mg base CX0 2 fI fdI ["self", "word"] (spE1 c11 "word" "nodeed")) :
    FnOk P w K mg base (L2N.CX P w) 9 f fd ["house", "deed"] (spPly K HC S MB RB cl) := by
  refine okN F scPly (fun vs H Q E h => ?_) (fun cdv A outer s H vs Q E hr h => ?_)
  · obtain ⟨x, t, dx, sc, d1, d2, d3, d, ss, ws, as, bs, cs, ms, rs, th, ts, rfl, _⟩ := h
    rfl
  · obtain ⟨x, t, dx, sc, d1, d2, d3, d, ss, ws, as, bs, cs, ms, rs, th, ts, rfl, hd, hh, hg, am, ar, mo, ro, zl, t60, t700, q⟩ := h
    have hr7 : Room 7 _ := hr.mono (by decide)
    have hr3 : Room 3 _ := hr.mono (by decide)
    refine ⟨_, (pss_one (ps_if (pt_cmpR op_eq (pe_ix ix_tup (pv 1) pe_int (fun _ _ => rfl)) pe_str (nomark _)) (pss_one (ps_expr (pe_call GM hr7 rfl DM.g DM.F.kp DM.b .nil (L2N.passes_call (L2N.takes_of rfl rfl rfl rfl) (fun _ _ _ _ h => h)) (pa_cons (pv 0) (pa_cons (pe_ix ix_tup (pv 1) pe_int (fun _ _ => rfl)) (pa_cons (pe_ix ix_tup (pv 1) pe_int (fun _ _ => rfl)) (pa_cons (pe_ix ix_tup (pv 1) pe_int (fun _ _ => rfl)) pa_nil)))))))
      (pss_one (ps_if (pt_cmpR op_eq (pe_ix ix_tup (pv 1) pe_int (fun _ _ => rfl)) pe_str (nomark _)) (pss_one (ps_expr (pe_call GA hr rfl DA.g DA.F.kp DA.b .nil (L2N.passes_call (L2N.takes_of rfl rfl rfl rfl) (fun _ _ _ _ h => h)) (pa_cons (pv 0) (pa_cons (pe_ix ix_tup (pv 1) pe_int (fun _ _ => rfl)) (pa_cons (pe_ix ix_tup (pv 1) pe_int (fun _ _ => rfl)) pa_nil))))))
      (pss_one (ps_if (pt_cmpR op_eq (pe_ix ix_tup (pv 1) pe_int (fun _ _ => rfl)) pe_str (nomark _)) (pss_one (ps_expr (pe_call GD hr7 rfl DD.g DD.F.kp DD.b .nil (L2N.passes_call (L2N.takes_of rfl rfl rfl rfl) (fun _ _ _ _ h => h)) (pa_cons (pv 0) (pa_cons (pe_ix ix_tup (pv 1) pe_int (fun _ _ => rfl)) (pa_cons (pe_ix ix_tup (pv 1) pe_int (fun _ _ => rfl)) (pa_cons (pe_ix ix_tup (pv 1) pe_int (fun _ _ => rfl)) pa_nil)))))))
      (pss_one (L2N.ps_raise rfl (L2N.takes_of rfl rfl rfl rfl) (pmkN_oex TE.o TE.iC TE.tI GI hr3 bI pass0 rfl TE.g (pa_cons (pe_ix ix_tup (pv 1) pe_int (fun _ _ => rfl)) pa_nil)))))))))), ?_⟩
    cases d with
    | mk n so z =>
      have ht : SqT K H t [.str "make", .str n, .str so, .str z] := SqT.of hd
      refine ⟨_, rfl, t, _, 0, _, rfl, rfl, ht, atI_nat (j := 0) rfl, rfl, _, rfl, ?_⟩
      refine ite2 (fun _ => ?_) (fun z => absurd (decide_eq_true rfl) z)
      refine ⟨_, rfl, _, rfl, t, _, 1, _, rfl, rfl, ht, atI_nat (j := 1) rfl, _, rfl, t, _, 2, _, rfl, rfl, ht, atI_nat (j := 2) rfl, _, rfl, t, _, 3, _, rfl, rfl, ht, atI_nat (j := 3) rfl, x, dx, sc, d1, d2, d3, n, so, z, ss, ws, as, bs, cs, ms, th, ts, rfl, hh, hg, am, mo, zl n so z rfl, t60, t700, ?_⟩
      have q : DueC cl (mkDue ss ms th n so z) H _ E := q
      cases hdu : mkDue ss ms th n so z with
      | some r =>
        rw [hdu] at q
        exact q
      | none =>
        rw [hdu] at q
        intro a m H' ha hm f hs
        refine q H' f ?_
        show HsAt HC S H' x dx sc d1 d2 d3 ss ws (th ++ [(z, so, true)]) (match srt th n with | some a => (match fndM ms a so with | some m => (mkT m n z).foldl addT ts | none => ts) | none => ts)
        rw [ha]
        show HsAt HC S H' x dx sc d1 d2 d3 ss ws (th ++ [(z, so, true)]) (match fndM ms a so with | some m => (mkT m n z).foldl addT ts | none => ts)
        rw [hm]
        exact hs
    | act z ths =>
      obtain ⟨u, hd, hu⟩ := hd
      have ht : SqT K H t [.str "do", .str z, .ref u] := SqT.of hd
      refine ⟨_, rfl, t, _, 0, _, rfl, rfl, ht, atI_nat (j := 0) rfl, rfl, _, rfl, ?_⟩
      refine ite2 (fun z => absurd (V.str.inj (of_decide_eq_true z)) (by decide +kernel)) (fun _ => ?_)
      refine ⟨_, rfl, t, _, 0, _, rfl, rfl, ht, atI_nat (j := 0) rfl, rfl, _, rfl, ?_⟩
      refine ite2 (fun _ => ?_) (fun z => absurd (decide_eq_true rfl) z)
      refine ⟨_, rfl, _, rfl, t, _, 1, _, rfl, rfl, ht, atI_nat (j := 1) rfl, _, rfl, t, _, 2, _, rfl, rfl, ht, atI_nat (j := 2) rfl, x, dx, sc, d1, d2, d3, u, z, ths, ss, ws, as, bs, cs, rs, th, ts, rfl, hh, hg, ar, ro, SqT.of hu, t700, ?_⟩
      have q : DueC cl (doDue rs th ts z ths) H _ E := q
      cases hdu : doDue rs th ts z ths with
      | some r =>
        rw [hdu] at q
        exact q
      | none =>
        rw [hdu] at q
        intro r H' hf rw' hin b hs
        refine q H' (fun q o _ _ n3 e => b _ _ n3 e) ?_
        show HsAt HC S H' x dx sc d1 d2 d3 ss ws th (match fndR rs z with | some r => addT ts (inst r.p.vars ths r.g) | none => ts)
        rw [hf]
        exact hs
    | dr n wd y =>
      have ht : SqT K H t [.str "drop", .str n, .str wd, .str y] := SqT.of hd
      refine ⟨_, rfl, t, _, 0, _, rfl, rfl, ht, atI_nat (j := 0) rfl, rfl, _, rfl, ?_⟩
      refine ite2 (fun z => absurd (V.str.inj (of_decide_eq_true z)) (by decide +kernel)) (fun _ => ?_)
      refine ⟨_, rfl, t, _, 0, _, rfl, rfl, ht, atI_nat (j := 0) rfl, rfl, _, rfl, ?_⟩
      refine ite2 (fun z => absurd (V.str.inj (of_decide_eq_true z)) (by decide +kernel)) (fun _ => ?_)
      refine ⟨_, rfl, t, _, 0, _, rfl, rfl, ht, atI_nat (j := 0) rfl, rfl, _, rfl, ?_⟩
      refine ite2 (fun _ => ?_) (fun z => absurd (decide_eq_true rfl) z)
      refine ⟨_, rfl, _, rfl, t, _, 1, _, rfl, rfl, ht, atI_nat (j := 1) rfl, _, rfl, t, _, 2, _, rfl, rfl, ht, atI_nat (j := 2) rfl, _, rfl, t, _, 3, _, rfl, rfl, ht, atI_nat (j := 3) rfl, x, dx, sc, d1, d2, d3, n, wd, y, ss, ws, th, ts, rfl, hh, ?_⟩
      have q : DueC cl (dueR ws th ts n wd y) H _ E := q
      refine dueD_of h3 h4 h5 h9 (fun hdu H' b hs => ?_) (fun r hdu => ?_)
      · rw [hdu] at q
        exact q H' (fun q o _ _ n3 e => b _ _ n3 e) hs
      · rw [hdu] at q
        exact q
    | no k =>
      obtain ⟨hd, k1, k2, k3⟩ := hd
      have ht : SqT K H t [.str k, .str "a", .str "b", .str "c"] := SqT.of hd
      refine ⟨_, rfl, t, _, 0, _, rfl, rfl, ht, atI_nat (j := 0) rfl, rfl, _, rfl, ?_⟩
      refine ite2 (fun z => absurd (V.str.inj (of_decide_eq_true z)) k1) (fun _ => ?_)
      refine ⟨_, rfl, t, _, 0, _, rfl, rfl, ht, atI_nat (j := 0) rfl, rfl, _, rfl, ?_⟩
      refine ite2 (fun z => absurd (V.str.inj (of_decide_eq_true z)) k2) (fun _ => ?_)
      refine ⟨_, rfl, t, _, 0, _, rfl, rfl, ht, atI_nat (j := 0) rfl, rfl, _, rfl, ?_⟩
      refine ite2 (fun z => absurd (V.str.inj (of_decide_eq_true z)) k3) (fun _ => ?_)
      exact ⟨_, rfl, t, _, 0, _, rfl, rfl, ht, atI_nat (j := 0) rfl, mk1 fun d H' nd S' e => q c11 d H' h11 nd S' e⟩
end
end Wm
namespace Wm
open PySem L2 StX
theorem okS_strange : okS "strange" := by
  unfold okS
  decide +kernel
theorem lits_ok : ∀ z ∈ (["", "A", "9a", "a b", "abcdefghijklm", "ab_"] : List Str), okS z ∧ z.length ≤ 13 := by
  unfold okS
  decide +kernel
theorem fnd_iff {ms : List MkD} {a b : Str} : (fndM ms a b).isSome = decide ((a, b) ∈ ms.map fun x => (x.mr, x.md)) := by
  unfold fndM
  induction ms with
  | nil => rfl
  | cons x r ih =>
    rw [List.find?_cons]
    by_cases h : x.mr = a ∧ x.md = b
    · rw [decide_eq_true h.1, decide_eq_true h.2]
      simp [h.1, h.2]
    · have e : (decide (x.mr = a) && decide (x.md = b)) = false := by
        rw [Bool.and_eq_false_iff, decide_eq_false_iff_not, decide_eq_false_iff_not]
        by_cases h1 : x.mr = a
        · exact .inr fun h2 => h ⟨h1, h2⟩
        · exact .inl h1
      rw [e]
      show (List.find? _ r).isSome = _
      rw [ih]
      refine decide_eq_decide.mpr ?_
      rw [List.map_cons, List.mem_cons]
      refine ⟨.inr, fun q => q.resolve_left fun q => h ⟨(congrArg Prod.fst q).symm, (congrArg Prod.snd q).symm⟩⟩
theorem any_pr {ps : List (Str × Str)} {p : Str × Str} : ((ps.map prD).any fun z => PyData.eqv z (prD p)) = decide (p ∈ ps) := by
  induction ps with
  | nil => rfl
  | cons q r ih =>
    rw [List.map_cons, List.any_cons, ih, prD_eqv]
    by_cases h : q = p
    · rw [decide_eq_true h]
      simp [h]
    · rw [decide_eq_false h, Bool.false_or]
      refine decide_eq_decide.mpr ?_
      rw [List.mem_cons]
      exact ⟨.inr, fun z => z.resolve_left fun e => h e.symm⟩
theorem shaped_prs {ps : List (Str × Str)} (h : ∀ p ∈ ps, okS p.1 ∧ okS p.2) : SeqAt.shaped (.list (ps.map prD)) = true := by
  obtain ⟨h1, h2⟩ := prs_sh h
  simp [SeqAt.shaped, PyData.canLay0, PyData.depth, h1]
  omega
theorem srt_in {th : List Thing} {n a : Str} {ss : List Str} (hs : ∀ t ∈ th, t.2.1 ∈ ss) (h : srt th n = some a) : a ∈ ss := by
  unfold srt at h
  obtain ⟨t, ht, rfl⟩ := Option.map_eq_some_iff.mp h
  exact hs t (List.mem_of_find?_eq_some ht)
def spMkD (K : PySem.W.Frag) : Sp := fun vs H Q _ => ∃ (h m lt ds da dh t : Addr) (n so z : Str) (ss ws : List Str) (ms : List MkD) (rs : List RlD) (th : List Thing) (ts : List T3), vs = [.ref h, .ref m, .ref t] ∧ HmAt H h lt ds da dh th ts ∧ MdAt K H m ss ws ms rs ∧ MdlOk ss ws ms rs ∧ H t = some (.tup [.str "make", .str n, .str so, .str z]) ∧ okS so ∧ z.length ≤ 1000 ∧ (∀ t ∈ th, t.2.1 ∈ ss) ∧ Told (mkDue ss ms th n so z) H Q
section
variable {P : Program} {w : World} {K : PySem.W.Frag} {mg : Str → Option Value} {base : Heap}
theorem scLName : FnScope ["_law_text", "_law_sign"] ["_law_text"] (defScope sLNm) := ⟨rfl, rfl, rfl, by decide +kernel, rfl, by decide +kernel, by decide +kernel⟩
theorem ok_lname {f : Addr} {fd : FuncData} (F : Fun K "_law_is_name" "_law_is_name" sLNm f fd) (T : TxB mg) : FnOk P w K mg base CX0 1 f fd ["_law_text"] spName := by
  refine F.ok scLName (fun vs H Q E h => ?_) (fun cdv A outer s H vs Q E hr h => ?_)
  · obtain ⟨z, rfl, _⟩ := h
    rfl
  · obtain ⟨z, rfl, hz, k⟩ := h
    have hzl : z.length ≤ sizeLine := Nat.le_trans hz (by decide)
    refine ⟨_, (pss_cons (ps_if (PW.pt (pw_or (pt_cmpR op_eq (pv 0) pe_str (nomark _)) (pw_or (pt_cmpR op_gt (pe_callB call_len_str (by rfl) T.len (by decide +kernel) (pa_cons (pv 0) pa_nil)) pe_int (nomark _)) (pw_or1 (pt_cmpR op_in_sign (pe_ix ix_str (pv 0) pe_int (fun _ _ => rfl)) pe_str (by rfl)))))) (pss_one (ps_ret pe_bl)) pss_nil)
      (pss_one (ps_ret (pe_callB (cr_all rfl) (by rfl) T.all (by decide +kernel) (pa_cons (pe_lc (own := [("_law_sign", 1)]) (g := gName 1) rfl scLName.nd (pi_str (pv 0)) (blkOk_by (N := ["_law_text", "_law_sign"]) (sc := defScope sLNm) (by decide +kernel)) (fun _ _ _ _ _ => (pg_name (i := 1) scLName.nd rfl (Or.inl rfl))) (fun _ _ _ _ _ => pts_nil) (fun _ _ _ _ _ => (pe_cmpR op_in_sign (pv 1) pe_str (by rfl)))) pa_nil))))), ?_⟩
    refine ⟨_, rfl, rfl, _, rfl, ?_⟩
    have q0 := k H (Same.refl H)
    refine ite2 (fun h1 => ?_) (fun h1 => ?_)
    · have h1' : V.str z = V.str (PySem.Str.ofString "") := of_decide_eq_true h1
      have e1 : z = PySem.Str.ofString "" := V.str.inj h1'
      refine iteT ?_
      have e : isNm z = false := by rw [e1]; decide +kernel
      rw [e] at q0
      exact q0
    have h1' : ¬ z.length < 1 := fun x => h1 (decide_eq_true (by
      have e : z.cps = #[] := Array.eq_empty_of_size_eq_zero (by show z.length = 0; omega)
      have e2 : z = PySem.Str.ofString "" := by
        cases z
        cases e
        decide +kernel
      rw [e2]))
    refine ⟨_, rfl, z, rfl, hzl, _, _, rfl, rfl, _, rfl, ?_⟩
    refine ite2 (fun h2 => ?_) (fun h2 => ?_)
    · have h2' : (12 : Int) < z.length := of_decide_eq_true h2
      refine iteT ?_
      rw [isNm_small (.inr (by omega))] at q0
      exact q0
    have h2' : ¬ 12 < z.length := fun x => h2 (decide_eq_true (by omega))
    refine ⟨_, rfl, ?_⟩
    dsimp only [tC]
    refine rdItem (n := z.length) rfl (by decide) (by omega) (by omega) fun c hc => ?_
    refine ⟨c, _, rfl, rfl, _, rfl, ?_⟩
    refine ite2 (fun h3 => ?_) (fun h3 => ?_)
    · have h3' : c ∈ FIG := of_decide_eq_true h3
      rw [isNm_fig hc h3'] at q0
      exact q0
    have h3' : ¬ c ∈ FIG := fun x => h3 (decide_eq_true x)
    refine ⟨_, rfl, z, rfl, fun D hD => ?_⟩
    refine lc_signs (z := z) (f := okc) hz hD (fun c H Q q => ?_) fun H' hS hl => ?_
    · refine q _ rfl fun Q2 q2 => ?_
      rw [← okc_alnum] at q2
      exact ⟨_, rfl, c, _, rfl, rfl, q2⟩
    · refine ⟨D, _, rfl, SqL.of hl, ?_⟩
      have q := k H' hS
      rw [isNm_all2 h1' h2' hc h3', ← all_map] at q
      exact q
theorem scMkD : FnScope ["_law_h", "_law_m", "_law_deed_here", "_law_kind", "_law_maker", "_law_sort", "_law_name_here", "_law_above", "_law_one"] ["_law_h", "_law_m", "_law_deed_here"] (defScope sMkD) := ⟨rfl, rfl, rfl, by decide +kernel, rfl, by decide +kernel, by decide +kernel⟩
theorem ok_mkd {f fN : Addr} {fd dN : FuncData} (F : Fun K "_law_make_due" "_law_make_due" sMkD f fd) (T : TxB mg) (DNm : Dn K mg "_law_is_name" sLNm ["_law_text"] fN dN) : FnOk P w K mg base CX0 2 f fd ["_law_h", "_law_m", "_law_deed_here"] (spMkD K) := by
  have GNm : FnOk P w K mg base CX0 1 fN dN _ spName := ok_lname DNm.F T
  refine F.ok scMkD (fun vs H Q E h => ?_) (fun cdv A outer s H vs Q E hr h => ?_)
  · obtain ⟨h, m, lt, ds, da, dh, t, n, so, z, ss, ws, ms, rs, th, ts, rfl, _⟩ := h
    rfl
  · obtain ⟨h, m, lt, ds, da, dh, t, n, so, z, ss, ws, ms, rs, th, ts, rfl, hm, md, ok, ht, oso, zl, hss, q⟩ := h
    have hu := hu_of hr
    have hr1 : Room 1 _ := hr
    refine ⟨_, (pss_cons (ps_asg (pv 2) (pg_tup rfl (pgs_cons (pg_name (i := 3) scMkD.nd rfl (Or.inl rfl)) (pgs_cons (pg_name (i := 4) scMkD.nd rfl (Or.inl rfl)) (pgs_cons (pg_name (i := 5) scMkD.nd rfl (Or.inl rfl)) (pgs_cons (pg_name (i := 6) scMkD.nd rfl (Or.inl rfl)) pgs_nil))))))
      (pss_cons (ps_if (pt_cmpR op_notIn_seq (pv 4) (pe_dget hu (pv 0) pe_str (fun _ _ => rfl)) (by rfl)) (pss_one (ps_ret (pe_tup (pa_cons pe_str (pa_cons (pv 4) pa_nil))))) pss_nil)
      (pss_cons (ps_if (pt_cmpR op_notIn_seq (pv 5) (pe_dget hu (pv 1) pe_str (fun _ _ => rfl)) (by rfl)) (pss_one (ps_ret (pe_tup (pa_cons pe_str (pa_cons (pv 5) pa_nil))))) pss_nil)
      (pss_cons (ps_if (pt_not (pt_val (pe_dget hu (pe_dget hu (pv 0) pe_str (fun _ _ => rfl)) (pv 4) (fun _ _ => rfl)))) (pss_one (ps_ret (pe_tup (pa_cons pe_str (pa_cons (pv 4) pa_nil))))) pss_nil)
      (pss_cons (ps_set (i := 7) scMkD.nd rfl (Or.inl rfl) (pe_dget hu (pe_dget hu (pv 0) pe_str (fun _ _ => rfl)) (pv 4) (fun _ _ => rfl)))
      (pss_cons (ps_if (pt_cmpR (op_notInD (u65 hr)) (pe_tup (pa_cons (pv 7) (pa_cons (pv 5) pa_nil))) (pe_lc (own := [("_law_one", 8)]) (g := gName 8) (tt := tYes) (te := tTup (tCons (tOp (rIxT K) (tVar 8) (tC (.int 0))) (tCons (tOp (rIxT K) (tVar 8) (tC (.int 1))) tNil))) rfl scMkD.nd (pi_list (pe_dget hu (pv 1) pe_str (fun _ _ => rfl))) (blkOk_by (N := ["_law_h", "_law_m", "_law_deed_here", "_law_kind", "_law_maker", "_law_sort", "_law_name_here", "_law_above", "_law_one"]) (sc := defScope sMkD) (by decide +kernel)) (fun _ _ _ _ _ => (pg_name (i := 8) scMkD.nd rfl (Or.inl rfl))) (fun _ _ _ _ _ => pts_nil) (fun _ _ _ _ _ => (pe_tup (pa_cons (pe_ix ix_tup (pv 8) pe_int (fun _ _ => rfl)) (pa_cons (pe_ix ix_tup (pv 8) pe_int (fun _ _ => rfl)) pa_nil))))) (by rfl)) (pss_one (ps_ret (pe_tup (pa_cons pe_str (pa_cons (pv 7) (pa_cons (pv 5) pa_nil)))))) pss_nil)
      (pss_cons (ps_if (pt_not (pt_val (pe_call GNm hr1 rfl DNm.g DNm.F.kp DNm.b .nil pass0 (pa_cons (pv 6) pa_nil)))) (pss_one (ps_ret (pe_tup (pa_cons pe_str (pa_cons (pv 6) pa_nil))))) pss_nil)
      (pss_cons (ps_if (pt_cmpR op_in_seq (pv 6) (pe_dget hu (pv 0) pe_str (fun _ _ => rfl)) (by rfl)) (pss_one (ps_ret (pe_tup (pa_cons pe_str (pa_cons (pv 6) pa_nil))))) pss_nil)
      (pss_cons (ps_if (pt_cmpR op_ge (pe_callB call_len_seq (by rfl) T.len (by decide +kernel) (pa_cons (pe_dget hu (pv 0) pe_str (fun _ _ => rfl)) pa_nil)) pe_int (nomark _)) (pss_one (ps_ret (pe_tup (pa_cons pe_str pa_nil)))) pss_nil)
      (pss_one (ps_ret pe_non))))))))))), ?_⟩
    refine ⟨_, rfl, t, _, rfl, SqT.of ht, rfl, _, _, rfl, _, _, rfl, _, _, rfl, _, _, rfl, rfl, ?_⟩
    dsimp only [gName, List.set_cons_succ, List.set_cons_zero]
    have md' := md
    obtain ⟨l1, l2, l3, l4, as, bs, m0, m1, m2, m3, am, _⟩ := md'
    have HM : ∀ {H' : Hp}, Same H H' → HmAt H' h lt ds da dh th ts := fun S => hm.kp (Same.kp S)
    unfold mkDue at q
    refine ⟨_, rfl, _, rfl, h, _, rfl, hm.gt, lt, _, rfl, .inl (SqL.of hm.ht), rfl, flats _, _, rfl, ?_⟩
    show if (!inV (.str n) ((nmL th).map V.str)) = true then _ else _
    rw [inV_strs]
    by_cases hn : n ∈ nmL th
    case neg =>
      rw [if_neg hn] at q
      rw [decide_eq_false hn]
      exact iteT ⟨_, rfl, by show 2 ≤ sizeLine; decide, fun t nt => q t _ (Same.upd nt) nt upd_same⟩
    rw [if_pos hn] at q
    rw [decide_eq_true hn]
    refine iteF ?_
    refine ⟨_, rfl, _, rfl, m, _, rfl, md4_s l1 l2 l3 l4 ▸ DGet.k (k := kS) m0, l1, _, rfl, .inl (SqL.of m1), rfl, flats _, _, rfl, ?_⟩
    show if (!inV (.str so) (ss.map V.str)) = true then _ else _
    rw [inV_strs]
    by_cases hso : so ∈ ss
    case neg =>
      rw [if_neg hso] at q
      rw [decide_eq_false hso]
      exact iteT ⟨_, rfl, by show 2 ≤ sizeLine; decide, fun t nt => q t _ (Same.upd nt) nt upd_same⟩
    rw [if_pos hso] at q
    rw [decide_eq_true hso]
    refine iteF ?_
    obtain ⟨b, hb⟩ := awk_some hn
    obtain ⟨a, ha⟩ := srt_some hn
    have ga : DGet H da (.str n) (some (.bl b)) := by
      have e := DGet.k (k := Sum.inr n) hm.ha
      rw [val2, hb] at e
      exact e
    have gs : DGet H ds (.str n) (some (.str a)) := by
      have e := DGet.k (k := Sum.inr n) hm.hs
      rw [val1s, ha] at e
      exact e
    refine ⟨_, rfl, h, _, rfl, hm.ga, _, rfl, da, _, rfl, ga, _, rfl, ?_⟩
    cases b with
    | false =>
      rw [if_neg (by rw [hb]; decide)] at q
      exact iteT ⟨_, rfl, by show 2 ≤ sizeLine; decide, fun t nt => q t _ (Same.upd nt) nt upd_same⟩
    | true =>
      rw [if_pos hb, ha] at q
      have q : Told (match fndM ms a so with | some _ => entD ss th z so | none => some (.mkg a so)) H Q := q
      refine iteF ?_
      refine ⟨_, rfl, h, _, rfl, hm.gs, _, rfl, ds, _, rfl, gs, ?_⟩
      dsimp only [gName, List.set_cons_succ, List.set_cons_zero]
      refine ⟨_, rfl, _, rfl, by show 2 ≤ sizeLine; decide, fun tp htp => ?_⟩
      have S1 : Same H (upd H tp (.tup [.str a, .str so])) := Same.upd htp
      have e1 : (upd H tp (.tup [.str a, .str so])) tp = some (.tup (prV (a, so))) := upd_same
      generalize upd H tp (.tup [.str a, .str so]) = H1 at S1 e1
      have am1 := am.imp fun _ _ q => q.kp (Same.kp S1)
      refine ⟨_, rfl, m, _, rfl, md4_m l1 l2 l3 l4 ▸ DGet.k (k := kM) (S1 _ _ m0), l3, rfl, ⟨_, SqL.of (S1 _ _ m3)⟩, fun D hD => ?_⟩
      have ln := ok.mi.ln
      have s4 := ok.s4
      refine lc_list (K := K) (a := l3) (xs := as.map V.ref) (fun i H' => Same H1 H' ∧ ∃ qs : List Addr, H' D = some (.lst (qs.map V.ref)) ∧ RowsAt K H' qs (((ms.take i).map fun x => (x.mr, x.md)).map prV)) ⟨Same.upd hD, [], upd_same, True.intro⟩ (fun i H' _ h => SqL.of (h.1 _ _ (S1 _ _ m3))) ?_ ?_
      · rintro i y H2 hy ⟨S2, qs, hD2, rw2⟩
        obtain ⟨qa, mk, rfl, hmk, ld, lu, q1, q2, q3⟩ := am1.get hy
        have hil : i < ms.length := (List.getElem?_eq_some_iff.mp hmk).1
        have t2 := S2 _ _ q1
        refine ⟨rfl, _, rfl, qa, _, 0, _, rfl, rfl, SqT.of t2, atI_nat (j := 0) rfl, _, rfl, qa, _, 1, _, rfl, rfl, SqT.of t2, atI_nat (j := 1) rfl, by show 2 ≤ sizeLine; decide, fun tt htt => ?_⟩
        have S3 : Same H2 (upd H2 tt (.tup [.str mk.mr, .str mk.md])) := Same.upd htt
        have e3 : (upd H2 tt (.tup [.str mk.mr, .str mk.md])) tt = some (.tup (prV (mk.mr, mk.md))) := upd_same
        generalize upd H2 tt (.tup [.str mk.mr, .str mk.md]) = H3 at S3 e3
        have hD3 := S3 _ _ hD2
        refine ⟨_, hD3, ?_, fun b o e => ?_, qs ++ [tt], ?_, ?_⟩
        · have ql := rw2.len
          rw [List.length_map, List.length_map, List.length_take] at ql
          rw [List.length_map]
          exact Nat.lt_of_le_of_lt (show _ ≤ 1000 by omega) (by decide)
        · rw [upd_ne (ne_of_none e hD)]
          exact S3 _ _ (S2 _ _ e)
        · rw [upd_same, List.map_append]
          rfl
        · rw [List.take_add_one, hmk, List.map_append, List.map_append]
          exact RowsAt.append (rows_put hD3 (rw2.same S3)) ⟨sqT_put hD3 (SqT.of e3), True.intro⟩
      rintro H2 ⟨S2, qs, hD2, rw2⟩
      rw [List.length_map, am1.len, List.take_length] at rw2
      have S12 := S1.trans S2
      have oa : okS a := ok.sd.ok (srt_in hss ha)
      have opr : ∀ p ∈ ms.map (fun x => (x.mr, x.md)), okS p.1 ∧ okS p.2 := fun p hp => by
        obtain ⟨x, hx, rfl⟩ := List.mem_map.mp hp
        obtain ⟨i, j, _, c1, c2, _⟩ := ok.mi.at_ x hx
        exact ⟨ok.sd.ok (List.mem_of_getElem? c1), ok.sd.ok (List.mem_of_getElem? c2)⟩
      have sh1 : SeqAt.shaped (prD (a, so)) = true := by
        have q := shaped_tstrs (zs := [a, so]) (fun z hz => by
          simp at hz
          rcases hz with rfl | rfl
          · exact oa
          · exact oso)
        exact q
      refine ⟨prD (a, so), _, .tup (SqT.of (S2 _ _ e1)) (.cons (.str _) (.cons (.str _) .nil)), .lst (SqL.of hD2) (prs_dp rw2), sh1, shaped_prs opr, _, rfl, ?_⟩
      rw [any_pr, ← fnd_iff]
      cases hf : fndM ms a so with
      | none =>
        rw [hf] at q
        exact iteT ⟨_, rfl, _, rfl, by show 3 ≤ sizeLine; decide, fun t nt => q t _ (S12.trans (Same.upd nt)) (S12.free nt) upd_same⟩
      | some mk =>
        rw [hf] at q
        have q : Told (entD ss th z so) H Q := q
        refine iteF ?_
        refine ⟨_, rfl, z, rfl, zl, fun H3 S3 => ⟨_, rfl, ?_⟩⟩
        have S13 := S12.trans S3
        unfold entD at q
        cases hz : isNm z with
        | false =>
          rw [if_neg (by rw [hz]; decide)] at q
          exact iteT ⟨_, rfl, by show 2 ≤ sizeLine; decide, fun t nt => q t _ (S13.trans (Same.upd nt)) (S13.free nt) upd_same⟩
        | true =>
          rw [if_pos hz] at q
          refine iteF ?_
          have hm3 := HM S13
          refine ⟨_, rfl, _, rfl, h, _, rfl, hm3.gt, lt, _, rfl, .inl (SqL.of hm3.ht), rfl, flats _, _, rfl, ?_⟩
          show if inV (.str z) ((nmL th).map V.str) = true then _ else _
          rw [inV_strs]
          by_cases hzn : z ∈ nmL th
          · rw [if_pos hzn] at q
            rw [decide_eq_true hzn]
            exact iteT ⟨_, rfl, by show 2 ≤ sizeLine; decide, fun t nt => q t _ (S13.trans (Same.upd nt)) (S13.free nt) upd_same⟩
          · rw [if_neg hzn, if_pos hso] at q
            rw [decide_eq_false hzn]
            refine iteF ?_
            refine ⟨_, rfl, h, _, rfl, hm3.gt, lt, _, rfl, .inl (SqL.of hm3.ht), _, _, rfl, rfl, _, rfl, ?_⟩
            have nml : ((nmL th).map V.str).length = th.length := by unfold nmL; rw [List.length_map, List.length_map]
            rw [nml]
            by_cases h60 : th.length < 60
            · rw [if_pos h60] at q
              refine ite2 (fun c => absurd (of_decide_eq_true c) (by omega)) (fun _ => ?_)
              exact q _ S13
            · rw [if_neg h60] at q
              refine ite2 (fun _ => ?_) (fun c => absurd (decide_eq_true (by omega)) c)
              exact ⟨by show 1 ≤ sizeLine; decide, fun t nt => q t _ (S13.trans (Same.upd nt)) (S13.free nt) upd_same⟩
end
end Wm
namespace Wm
open PySem L2 StX
/-! ### a rule's data -/
def sortD : Option Str → PyData
  | none => .none
  | some z => .str z
def varDD (v : Var) : PyData := .tuple [.str v.1, sortD v.2]
def rulD (r : RlD) : PyData := .tuple [.str r.p.nm, .list (r.p.vars.map varDD), .list (r.p.cs.map triD3), triD3 r.g, .str r.bh]
structure okR (r : RlD) : Prop where
  nm : okS r.p.nm
  vs : ∀ v ∈ r.p.vars, okS v.1 ∧ ∀ z, v.2 = some z → okS z
  cs : ∀ t ∈ r.p.cs, okT t
  g : okT r.g
  b : okS r.bh
theorem dp_vars {K : PySem.W.Frag} {H : Hp} : ∀ {ps : List Addr} {vs : List Var}, RowsAt K H ps (vs.map varV) → DpAll K H (ps.map V.ref) (vs.map varDD)
  | [], [], _ => .nil
  | _ :: _, v :: _, h => .cons (.tup h.1 (.cons (.str _) (.cons (by cases e : v.2 with | none => exact .non | some z => exact .str _) .nil))) (dp_vars h.2)
  | [], _ :: _, h => h.elim
  | _ :: _, [], h => h.elim
theorem dp_trs {K : PySem.W.Frag} {H : Hp} : ∀ {ps : List Addr} {vs : List Tri}, RowsAt K H ps (vs.map triV) → DpAll K H (ps.map V.ref) (vs.map triD3)
  | [], [], _ => .nil
  | _ :: _, v :: _, h => .cons (tri_dp h.1) (dp_trs h.2)
  | [], _ :: _, h => h.elim
  | _ :: _, [], h => h.elim
theorem lay_vars : ∀ {vs : List Var}, (∀ v ∈ vs, okS v.1 ∧ ∀ z, v.2 = some z → okS z) → PyData.canLayAll0 (vs.map varDD) = true ∧ PyData.depthAll (vs.map varDD) ≤ 3
  | [], _ => by simp [PyData.canLayAll0, PyData.depthAll]
  | v :: r, h => by
    obtain ⟨a, b⟩ := h v List.mem_cons_self
    obtain ⟨h2, h3⟩ := lay_vars (vs := r) fun y hy => h y (List.mem_cons_of_mem _ hy)
    have e : (varDD v).canLay0 = true ∧ (varDD v).depth ≤ 2 := by
      obtain ⟨v1, v2⟩ := v
      cases v2 with
      | none => simp [varDD, sortD, PyData.canLay0, PyData.canLayAll0, PyData.depth, PyData.depthAll, strOk_of a]
      | some z => simp [varDD, sortD, PyData.canLay0, PyData.canLayAll0, PyData.depth, PyData.depthAll, strOk_of a, strOk_of (b z rfl)]
    refine ⟨by simp only [List.map_cons, PyData.canLayAll0, e.1, h2, Bool.and_self], ?_⟩
    simp only [List.map_cons, PyData.depthAll]
    have := e.2
    omega
theorem lay_rul {r : RlD} (h : okR r) : (rulD r).canLay0 = true ∧ (rulD r).depth ≤ 6 := by
  obtain ⟨a1, a2⟩ := lay_vars h.vs
  obtain ⟨b1, b2⟩ := lay_tris h.cs
  obtain ⟨g1, g2⟩ := lay_tris (ts := [r.g]) (fun t ht => by rw [List.mem_singleton.mp ht]; exact h.g)
  have g1 : (triD3 r.g).canLay0 = true := by simpa [PyData.canLayAll0] using g1
  have g2 : (triD3 r.g).depth ≤ 2 := tri_depth _
  refine ⟨by simp [rulD, PyData.canLay0, PyData.canLayAll0, a1, b1, g1, strOk_of h.nm, strOk_of h.b], ?_⟩
  simp [rulD, PyData.depth, PyData.depthAll]
  omega
theorem lay_ruls : ∀ {rs : List RlD}, (∀ r ∈ rs, okR r) → PyData.canLayAll0 (rs.map rulD) = true ∧ PyData.depthAll (rs.map rulD) ≤ 7
  | [], _ => by simp [PyData.canLayAll0, PyData.depthAll]
  | r :: rs, h => by
    obtain ⟨e, d⟩ := lay_rul (h r List.mem_cons_self)
    obtain ⟨h2, h3⟩ := lay_ruls (rs := rs) fun y hy => h y (List.mem_cons_of_mem _ hy)
    refine ⟨by simp only [List.map_cons, PyData.canLayAll0, e, h2, Bool.and_self], ?_⟩
    simp only [List.map_cons, PyData.depthAll]
    omega
theorem shaped_ruls {rs : List RlD} (h : ∀ r ∈ rs, okR r) : SeqAt.shaped (.list (rs.map rulD)) = true := by
  obtain ⟨h1, h2⟩ := lay_ruls h
  simp [SeqAt.shaped, PyData.canLay0, PyData.depth, h1]
  omega
theorem rul_dp {K : PySem.W.Frag} {H : Hp} {a : Addr} {r : RlD} (h : MRul K H a r) : Dp K H (.ref a) (rulD r) := by
  obtain ⟨lv, lc, g, ps, qs, h1, h2, h3, h4, h5, h6⟩ := h
  exact .tup (SqT.of h1) (.cons (.str _) (.cons (.lst (SqL.of h2) (dp_vars h3)) (.cons (.lst (SqL.of h4) (dp_trs h5)) (.cons (tri_dp (SqT.of h6)) (.cons (.str _) .nil)))))
theorem ruls_dp {K : PySem.W.Frag} {H : Hp} : ∀ {as : List Addr} {rs : List RlD}, AllAt (MRul K H) as rs → DpAll K H (as.map V.ref) (rs.map rulD)
  | [], [], _ => .nil
  | _ :: _, _ :: _, h => .cons (rul_dp h.1) (ruls_dp h.2)
  | [], _ :: _, h => h.elim
  | _ :: _, [], h => h.elim
theorem MdlOk.okR {ss ws : List Str} {ms : List MkD} {rs : List RlD} (h : MdlOk ss ws ms rs) {r : RlD} (hr : r ∈ rs) : Wm.okR r := by
  have k := h.rk r hr
  have nms : ∀ z ∈ r.p.vars.map (·.1), okS z := fun z hz => by
    obtain ⟨v, hv, rfl⟩ := List.mem_map.mp hz
    exact (k.vn v hv).2.2
  have en : ∀ z ∈ endsL (r.p.cs ++ [r.g]) ++ [r.bh], okS z := fun z hz => nms z (k.pt.en z hz)
  have ce : ∀ t ∈ r.p.cs ++ [r.g], okS t.1 ∧ okS t.2.2 := fun t ht => by
    have q : ∀ z ∈ [t.1, t.2.2], z ∈ endsL (r.p.cs ++ [r.g]) := fun z hz => List.mem_flatMap.mpr ⟨t, ht, hz⟩
    exact ⟨en _ (List.mem_append_left _ (q _ (by simp))), en _ (List.mem_append_left _ (q _ (by simp)))⟩
  refine ⟨h.rd.ok (List.mem_map.mpr ⟨r, hr, rfl⟩), fun v hv => ⟨(k.vn v hv).2.2, fun z e => h.sd.ok (k.vs v hv z e)⟩, fun t ht => ?_, ?_, en _ (by simp)⟩
  · have q := ce t (by simp [ht])
    exact ⟨q.1, h.wd.ok (k.cw t ht), q.2⟩
  · have q := ce r.g (by simp)
    exact ⟨q.1, h.wd.ok k.gw, q.2⟩
theorem MdlOk.rls {ss ws : List Str} {ms : List MkD} {rs : List RlD} (h : MdlOk ss ws ms rs) {r : RlD} (hr : r ∈ rs) : RlsOk ws r := by
  have k := h.rk r hr
  have v4 := k.pt.v4
  have c3 := k.pt.c3
  have ce : ∀ t ∈ r.p.cs ++ [r.g], t.1 ∈ r.p.vars.map (·.1) ∧ t.2.2 ∈ r.p.vars.map (·.1) := fun t ht => by
    have q : ∀ z ∈ [t.1, t.2.2], z ∈ endsL (r.p.cs ++ [r.g]) := fun z hz => List.mem_flatMap.mpr ⟨t, ht, hz⟩
    exact ⟨k.pt.en _ (List.mem_append_left _ (q _ (by simp))), k.pt.en _ (List.mem_append_left _ (q _ (by simp)))⟩
  exact ⟨by omega, by omega, fun t ht => ce t (by simp [ht]), ce r.g (by simp), k.pt.en _ (by simp), k.cw, k.gw⟩
theorem eqv_cn {d : PyData} {ds : List PyData} : ¬ PyData.eqv (.list (d :: ds)) (.list []) = true := by
  simp [PyData.eqv, PyData.eqvAll]
theorem fnd_head {rs : List RlD} {z : Str} : (rs.filter fun r => decide (r.p.nm = z)).head? = fndR rs z := by
  rw [List.head?_filter]
  rfl
def spDoD (K : PySem.W.Frag) : Sp := fun vs H Q _ => ∃ (h m lt ds da dh t u : Addr) (z : Str) (ths ss ws : List Str) (ms : List MkD) (rs : List RlD) (th : List Thing) (ts : List T3), vs = [.ref h, .ref m, .ref t] ∧ HmAt H h lt ds da dh th ts ∧ MdAt K H m ss ws ms rs ∧ MdlOk ss ws ms rs ∧ H t = some (.tup [.str "do", .str z, .ref u]) ∧ SqT K H u (ths.map V.str) ∧ Told (doDue rs th ts z ths) H Q
def spGvn (K : PySem.W.Frag) : Sp := fun vs H Q _ => ∃ (m t u : Addr) (z : Str) (ths ss ws : List Str) (ms : List MkD) (rs : List RlD) (r : RlD), vs = [.ref m, .ref t] ∧ MdAt K H m ss ws ms rs ∧ MdlOk ss ws ms rs ∧ H t = some (.tup [.str "do", .str z, .ref u]) ∧ SqT K H u (ths.map V.str) ∧ fndR rs z = some r ∧ RlW r ths ∧ ∀ p H', H p = none → Same H H' → H' p = some (.tup (triV3 (inst r.p.vars ths r.g))) → Q (.ref p) H'
section
variable {P : Program} {w : World} {K : PySem.W.Frag} {mg : Str → Option Value} {base : Heap}
theorem scDoD : FnScope ["_law_h", "_law_m", "_law_deed_here", "_law_kind", "_law_name_here", "_law_things", "_law_rules", "_law_one", "_law_variables", "_law_put", "_law_sort", "_law_thing_here", "_law_x", "_law_word", "_law_y"] ["_law_h", "_law_m", "_law_deed_here"] (defScope sDoD) := ⟨rfl, rfl, rfl, by decide +kernel, rfl, by decide +kernel, by decide +kernel⟩
theorem ok_dod {f : Addr} {fd : FuncData} (F : Fun K "_law_do_due" "_law_do_due" sDoD f fd) (T : TxB mg) (hz : mg "zip" = none) : FnOk P w K mg base CX0 1 f fd ["_law_h", "_law_m", "_law_deed_here"] (spDoD K) := by
  refine F.ok scDoD (fun vs H Q E h => ?_) (fun cdv A outer s H vs Q E hr h => ?_)
  · obtain ⟨h, m, lt, ds, da, dh, t, u, z, ths, ss, ws, ms, rs, th, ts, rfl, _⟩ := h
    rfl
  · obtain ⟨h, m, lt, ds, da, dh, t, u, z, ths, ss, ws, ms, rs, th, ts, rfl, hm, md, ok, ht, hu', q⟩ := h
    have hu := hu_of hr
    refine ⟨_, (pss_cons (ps_asg (pv 2) (pg_tup rfl (pgs_cons (pg_name (i := 3) scDoD.nd rfl (Or.inl rfl)) (pgs_cons (pg_name (i := 4) scDoD.nd rfl (Or.inr rfl)) (pgs_cons (pg_name (i := 5) scDoD.nd rfl (Or.inl rfl)) pgs_nil)))))
      (pss_cons (ps_setLc (i := 6) (own := [("_law_one", 7)]) (g := gName 7) (tt := tTest (tOp rEq (tOp (rIxT K) (tVar 7) (tC (.int 0))) (tVar 4))) (te := tVar 7) rfl scDoD.nd rfl rfl (sw_true rfl rfl rfl (by decide +kernel)) (pi_list (pe_dget hu (pv 1) pe_str (fun _ _ => rfl))) (blkOk_by (N := ["_law_h", "_law_m", "_law_deed_here", "_law_kind", "_law_name_here", "_law_things", "_law_rules", "_law_one", "_law_variables", "_law_put", "_law_sort", "_law_thing_here", "_law_x", "_law_word", "_law_y"]) (sc := defScope sDoD) (by decide +kernel)) (fun _ _ _ _ _ => (pg_name (i := 7) scDoD.nd rfl (Or.inl rfl))) (fun _ _ _ _ _ => (pts_one (pt_cmpR op_eq (pe_ix ix_tup (pv 7) pe_int (fun _ _ => rfl)) (pv 4) (nomark _)))) (fun _ _ _ _ _ => (pv 7)))
      (pss_cons (ps_if (pt_cmpR (op_eqD hr.units) (pv 6) (pe_lst pa_nil) (nomark _)) (pss_one (ps_ret (pe_tup (pa_cons pe_str (pa_cons (pv 4) pa_nil))))) pss_nil)
      (pss_cons (ps_for PassesOwn.never rfl (pi_tup (pv 5)) (pg_name (i := 7) scDoD.nd rfl (Or.inl rfl)) (pss_one (ps_if (pt_cmpR op_notIn_seq (pv 7) (pe_dget hu (pv 0) pe_str (fun _ _ => rfl)) (by rfl)) (pss_one (ps_ret (pe_tup (pa_cons pe_str (pa_cons (pv 7) pa_nil))))) pss_nil)))
      (pss_cons (ps_set (i := 8) scDoD.nd rfl (Or.inl rfl) (pe_ix ix_tup (pe_ix ix_list (pv 6) pe_int (fun _ _ => rfl)) pe_int (fun _ _ => rfl)))
      (pss_cons (ps_if (pt_cmpR op_ne (pe_callB call_len_seq (by rfl) T.len (by decide +kernel) (pa_cons (pv 5) pa_nil)) (pe_callB call_len_seq (by rfl) T.len (by decide +kernel) (pa_cons (pv 8) pa_nil)) (nomark _)) (pss_one (ps_ret (pe_tup (pa_cons pe_str (pa_cons (pv 4) pa_nil))))) pss_nil)
      (pss_cons (ps_set (i := 9) scDoD.nd rfl (Or.inl rfl) pe_dnewK)
      (pss_cons (ps_for PassesOwn.never rfl (pi_zipM rfl hz (pa_cons (pv 8) (pa_cons (pv 5) pa_nil))) (pg_tup rfl (pgs_cons (pg_tup rfl (pgs_cons (pg_name (i := 7) scDoD.nd rfl (Or.inl rfl)) (pgs_cons (pg_name (i := 10) scDoD.nd rfl (Or.inl rfl)) pgs_nil))) (pgs_cons (pg_name (i := 11) scDoD.nd rfl (Or.inl rfl)) pgs_nil))) (pss_cons (ps_dput hu (pv 9) (pv 7) (pv 11) rfl)
      (pss_one (ps_if (PW.pt (pw_and (pt_cmp (pc_notN (pv 10))) (pw_and1 (pt_cmpR op_ne (pe_dget hu (pe_dget hu (pv 0) pe_str (fun _ _ => rfl)) (pv 11) (fun _ _ => rfl)) (pv 10) (nomark _))))) (pss_one (ps_ret (pe_tup (pa_cons pe_str (pa_cons (pv 4) pa_nil))))) pss_nil))))
      (pss_cons (ps_if (pt_not (pt_val (pe_dget hu (pe_dget hu (pv 0) pe_str (fun _ _ => rfl)) (pe_dget hu (pv 9) (pe_ix ix_tup (pe_ix ix_list (pv 6) pe_int (fun _ _ => rfl)) pe_int (fun _ _ => rfl)) (fun _ _ => rfl)) (fun _ _ => rfl)))) (pss_one (ps_ret (pe_tup (pa_cons pe_str (pa_cons (pe_dget hu (pv 9) (pe_ix ix_tup (pe_ix ix_list (pv 6) pe_int (fun _ _ => rfl)) pe_int (fun _ _ => rfl)) (fun _ _ => rfl)) pa_nil))))) pss_nil)
      (pss_cons (ps_for PassesOwn.never rfl (pi_list (pe_ix ix_tup (pe_ix ix_list (pv 6) pe_int (fun _ _ => rfl)) pe_int (fun _ _ => rfl))) (pg_tup rfl (pgs_cons (pg_name (i := 12) scDoD.nd rfl (Or.inl rfl)) (pgs_cons (pg_name (i := 13) scDoD.nd rfl (Or.inl rfl)) (pgs_cons (pg_name (i := 14) scDoD.nd rfl (Or.inl rfl)) pgs_nil)))) (pss_one (ps_if (pt_cmp (pc_dnotin hu (pe_tup (pa_cons (pe_dget hu (pv 9) (pv 12) (fun _ _ => rfl)) (pa_cons (pv 13) (pa_cons (pe_dget hu (pv 9) (pv 14) (fun _ _ => rfl)) pa_nil)))) (pe_dget hu (pv 0) pe_str (fun _ _ => rfl)))) (pss_one (ps_ret (pe_tup (pa_cons pe_str (pa_cons (pe_dget hu (pv 9) (pv 12) (fun _ _ => rfl)) (pa_cons (pv 13) (pa_cons (pe_dget hu (pv 9) (pv 14) (fun _ _ => rfl)) pa_nil))))))) pss_nil)))
      (pss_one (ps_ret pe_non)))))))))))), ?_⟩
    refine ⟨_, rfl, t, _, rfl, SqT.of ht, rfl, _, _, rfl, _, _, rfl, _, _, rfl, rfl, ?_⟩
    dsimp only [gName, List.set_cons_succ, List.set_cons_zero]
    have md' := md
    obtain ⟨l1, l2, l3, l4, as, bs, m0, m1, m2, m3, am, m4, ar⟩ := md'
    have HM : ∀ {H' : Hp}, Same H H' → HmAt H' h lt ds da dh th ts := fun S => hm.kp (Same.kp S)
    unfold doDue at q
    have r8 := ok.r8
    refine ⟨_, rfl, m, _, rfl, md4_r l1 l2 l3 l4 ▸ DGet.k (k := kR) m0, l4, rfl, ⟨_, SqL.of m4⟩, fun D hD => ?_⟩
    refine lc_list (K := K) (a := l4) (xs := bs.map V.ref) (fun i H' => Same H H' ∧ ∃ fs : List Addr, H' D = some (.lst (fs.map V.ref)) ∧ AllAt (MRul K H) fs ((rs.take i).filter fun r => decide (r.p.nm = z))) ⟨Same.upd hD, [], upd_same, True.intro⟩ (fun i H' _ h => SqL.of (h.1 _ _ m4)) ?_ ?_
    · rintro i y H2 hy ⟨S2, fs, hD2, af⟩
      obtain ⟨qa, r, rfl, hmr, hq⟩ := ar.get hy
      have hil : i < rs.length := (List.getElem?_eq_some_iff.mp hmr).1
      have hq' := hq
      obtain ⟨lv, lc, g, ps, qs, q1, _⟩ := hq'
      have et : rs.take (i + 1) = rs.take i ++ [r] := by
        rw [List.take_add_one, hmr]
        rfl
      refine ⟨rfl, _, rfl, qa, _, 0, _, rfl, rfl, SqT.of (S2 _ _ q1), atI_nat (j := 0) rfl, _, rfl, rfl, _, rfl, ?_⟩
      refine ite2 (fun hc => ?_) (fun hc => ?_)
      · have hc : r.p.nm = z := V.str.inj (of_decide_eq_true hc)
        refine ⟨_, rfl, _, hD2, ?_, fun b o e => ?_, fs ++ [qa], ?_, ?_⟩
        · have ql := af.len
          have qf := List.length_filter_le (fun r : RlD => decide (r.p.nm = z)) (rs.take i)
          rw [List.length_take] at qf
          rw [List.length_map]
          exact Nat.lt_of_le_of_lt (show _ ≤ 1000 by omega) (by decide)
        · rw [upd_ne (ne_of_none e hD)]
          exact S2 _ _ e
        · rw [upd_same, List.map_append]
          rfl
        · rw [et, List.filter_append, List.filter_cons, if_pos (decide_eq_true hc), List.filter_nil]
          exact AllAt.append af ⟨hq, True.intro⟩
      · have hc : ¬ r.p.nm = z := fun e => hc (decide_eq_true (by rw [e]))
        refine ⟨S2, fs, hD2, ?_⟩
        rw [et, List.filter_append, List.filter_cons, if_neg (by rw [decide_eq_false hc]; decide), List.filter_nil, List.append_nil]
        exact af
    rintro H2 ⟨S2, fs, hD2, af⟩
    rw [List.length_map, ar.len, List.take_length] at af
    dsimp only [gName, List.set_cons_succ, List.set_cons_zero]
    have af2 := af.imp fun _ _ q => q.kp (Same.kp S2)
    have okf : ∀ r ∈ (rs.filter fun r => decide (r.p.nm = z)), okR r := fun r hr => ok.okR (List.mem_filter.mp hr).1
    refine ⟨_, rfl, Nat.zero_le _, fun l hl => ?_⟩
    have S3' : Same H2 (upd H2 l (.lst [])) := Same.upd hl
    have e3 : (upd H2 l (.lst [])) l = some (.lst []) := upd_same
    generalize upd H2 l (.lst []) = H3 at S3' e3
    have S3 := S2.trans S3'
    have hD3 := S3' _ _ hD2
    refine ⟨_, _, .lst (SqL.of hD3) (ruls_dp (af2.imp fun _ _ q => q.kp (Same.kp S3'))), .lst (SqL.of e3) .nil, shaped_ruls okf, by decide +kernel, _, rfl, ?_⟩
    cases hf : fndR rs z with
    | none =>
      have en : (rs.filter fun r => decide (r.p.nm = z)) = [] := by
        have e := fnd_head (rs := rs) (z := z)
        rw [hf, List.head?_eq_none_iff] at e
        exact e
      rw [hf] at q
      rw [en]
      exact iteT ⟨_, rfl, by show 2 ≤ sizeLine; decide, fun t nt => q t _ (S3.trans (Same.upd nt)) (S3.free nt) upd_same⟩
    | some r =>
    obtain ⟨rest, ec⟩ : ∃ rest, (rs.filter fun r => decide (r.p.nm = z)) = r :: rest := by
      have e := fnd_head (rs := rs) (z := z)
      rw [hf] at e
      cases el : (rs.filter fun r => decide (r.p.nm = z)) with
      | nil =>
        rw [el] at e
        cases e
      | cons a b =>
        rw [el] at e
        cases e
        exact ⟨b, rfl⟩
    rw [hf] at q
    rw [ec] at af ⊢
    obtain ⟨rin, rnm⟩ := fnd_in hf
    have rk := ok.rls rin
    have rok := ok.okR rin
    cases fs with
    | nil => exact af.elim
    | cons qa fr =>
    obtain ⟨lv, lc, g, ps, qs, q1, q2, q3, q4, q5, q6⟩ := af.1
    refine ite2 (fun c => absurd (show PyData.eqv (.list (rulD r :: rest.map rulD)) (.list []) = true from c) eqv_cn) (fun _ => ?_)
    have RD : ∀ {H' : Hp}, Same H3 H' → SqL K H' D ((qa :: fr).map V.ref) := fun S => SqL.of (S _ _ hD3)
    -- the things
    refine ⟨_, rfl, u, rfl, ⟨_, same_seqT S3 hu'⟩, for_tup (K := K) (a := u) (xs := ths.map V.str) (fun i σ H' => H' = H3 ∧ (∃ u7, σ = [some (.ref h), some (.ref m), some (.ref t), some (.str "do"), some (.str z), some (.ref u), some (.ref D), u7, none, none, none, none, none, none, none]) ∧ ∀ y ∈ ths.take i, decide (y ∉ nmL th) = false) ⟨rfl, ⟨_, rfl⟩, fun y hy => by simp at hy⟩ (fun i σ H' _ p => by rw [p.1]; exact same_seqT S3 hu') ?_ ?_⟩
    · rintro i v σ H' hi ⟨rfl, ⟨u7, rfl⟩, hno⟩
      obtain ⟨y, rfl, hy⟩ := strz_at hi
      dsimp only [gName, List.set_cons_succ, List.set_cons_zero]
      have hm3 := HM S3
      refine ⟨_, rfl, _, rfl, h, _, rfl, hm3.gt, lt, _, rfl, .inl (SqL.of hm3.ht), rfl, flats _, _, rfl, ?_⟩
      show if (!inV (.str y) ((nmL th).map V.str)) = true then _ else _
      rw [inV_strs]
      by_cases hn : y ∈ nmL th
      · rw [decide_eq_true hn]
        exact iteF ⟨rfl, ⟨_, rfl⟩, take_no hy (decide_eq_false (fun c => c hn)) hno⟩
      · rw [decide_eq_false hn]
        have q : Told (match ths.find? (fun x => decide (x ∉ nmL th)) with | some x => some (Rf.one 3 x) | none => _) H Q := q
        rw [find_first hy (decide_eq_true hn) hno] at q
        exact iteT ⟨_, rfl, by show 2 ≤ sizeLine; decide, fun t nt => q t _ (S3.trans (Same.upd nt)) (S3.free nt) upd_same⟩
    rintro σ H' ⟨rfl, ⟨u7, rfl⟩, hno⟩
    rw [List.length_map, List.take_length] at hno
    have hin : ∀ y ∈ ths, y ∈ nmL th := fun y hy => Decidable.of_not_not (of_decide_eq_false (hno y hy))
    have q : Told (match ths.find? (fun x => decide (x ∉ nmL th)) with | some x => some (Rf.one 3 x) | none => _) H Q := q
    rw [find_no hno] at q
    have q : Told (if fitB th r.p.vars ths = true then _ else some (.one 7 z)) H Q := q
    refine ⟨_, rfl, D, _, 0, _, rfl, rfl, RD (Same.refl _), atI_nat (j := 0) rfl, qa, _, 1, _, rfl, rfl, SqT.of (S3 _ _ q1), atI_nat (j := 1) rfl, ?_⟩
    dsimp only [gName, List.set_cons_succ, List.set_cons_zero]
    have pl : (ps.map V.ref).length = r.p.vars.length := by rw [List.length_map, q3.len, List.length_map]
    refine ⟨_, rfl, u, _, rfl, .inr (same_seqT S3 hu'), _, rfl, lv, _, rfl, .inl (SqL.of (S3 _ _ q2)), rfl, _, rfl, ?_⟩
    rw [List.length_map, pl]
    have ub : ∀ {H' : Hp}, Same H H' → SqT K H' u (ths.map V.str) := fun S => same_seqT S hu'
    by_cases hlen : ths.length = r.p.vars.length
    case neg =>
      have nf : ¬ fitB th r.p.vars ths = true := fun e => by
        unfold fitB at e
        simp [hlen] at e
      rw [if_neg nf] at q
      refine ite2 (fun _ => ?_) (fun c => absurd (by simp; omega) c)
      exact ⟨_, rfl, by show 2 ≤ sizeLine; decide, fun t nt => q t _ (S3.trans (Same.upd nt)) (S3.free nt) upd_same⟩
    refine ite2 (fun c => absurd c (by simp [hlen])) (fun _ => ?_)
    have rw' : RlW r ths := rk.w hlen
    intro dp hdp
    have S4 : Same H' (upd H' dp (.dK [])) := Same.upd hdp
    have e4 : (upd H' dp (.dK [])) dp = some (.dK []) := upd_same
    have dp0 : H dp = none := S3.free hdp
    generalize upd H' dp (.dK []) = H4 at S4 e4
    have S04 := S3.trans S4
    dsimp only [gName, List.set_cons_succ, List.set_cons_zero]
    have pl2 : (ps.map V.ref).length = (ths.map V.str).length := by rw [pl, List.length_map, hlen]
    refine ⟨_, rfl, _, rfl, lv, u, _, _, rfl, SqL.of (S04 _ _ q2), ub S04, ?_⟩
    refine for_zipM (K := K) (a := lv) (b := u) pl2 (fun i σ H5 => (∃ v7 v10 v11, σ = [some (.ref h), some (.ref m), some (.ref t), some (.str "do"), some (.str z), some (.ref u), some (.ref D), v7, some (.ref lv), some (.ref dp), v10, v11, none, none, none]) ∧ Same H' H5 ∧ H5 dp = some (.dK (((r.p.vars.zip ths).take i).foldl thS [])) ∧ ∀ y ∈ (r.p.vars.zip ths).take i, fitP th y = true) ⟨⟨_, _, _, rfl⟩, S4, e4, fun y hy => by simp at hy⟩ (fun i σ H5 p => ⟨SqL.of ((S3.trans p.2.1) _ _ q2), ub (S3.trans p.2.1)⟩) ?_ ?_
    · rintro i x0 y0 U σ H5 hx hy ⟨⟨v7, v10, v11, rfl⟩, S5, hd5, hf5⟩ hU
      obtain ⟨qv, v, rfl, hv, hqv⟩ := row_at q3 hx
      obtain ⟨y, rfl, hyy⟩ := strz_at hy
      have SU : Same H5 (upd H5 U (.tup [.ref qv, .str y])) := Same.upd hU
      have eU : (upd H5 U (.tup [.ref qv, .str y])) U = some (.tup [.ref qv, .str y]) := upd_same
      generalize upd H5 U (.tup [.ref qv, .str y]) = H6 at SU eU
      have S6 := S5.trans SU
      have S06 := S3.trans S6
      have hzip := zip_at hv hyy
      have hyn := hin y (List.mem_of_getElem? hyy)
      obtain ⟨s0, hs0⟩ := srt_some hyn
      have hd6 := SU _ _ hd5
      refine ⟨U, _, rfl, SqT.of eU, rfl, _, _, rfl, ⟨qv, _, rfl, same_seqT S06 hqv, rfl, _, _, rfl, _, _, rfl, rfl, _, _, rfl, rfl, ?_⟩⟩
      dsimp only [gName, List.set_cons_succ, List.set_cons_zero]
      refine ⟨_, rfl, _, rfl, _, rfl, dp, _, rfl, DPut.k (k := Sum.inr v.1) hd6 ?_, ?_⟩
      · have t1 := thS_len ((r.p.vars.zip ths).take i) []
        have t2 := rw'.v9
        rw [List.length_take, List.length_zip] at t1
        simp only [List.length_nil] at t1
        exact Nat.lt_of_le_of_lt (show _ ≤ 100 by omega) (by decide)
      have e7 : (upd H6 dp (.dK (putK (((r.p.vars.zip ths).take i).foldl thS []) (Sum.inr v.1) (V.str y)))) dp = some (.dK (((r.p.vars.zip ths).take (i + 1)).foldl thS [])) := by
        rw [upd_same, thS_step hzip]
        rfl
      have S7 : Same H' (upd H6 dp (.dK (putK (((r.p.vars.zip ths).take i).foldl thS []) (Sum.inr v.1) (V.str y)))) := fun b o e => by
        rw [upd_ne (ne_of_none e hdp)]
        exact S6 _ _ e
      generalize upd H6 dp (.dK (putK (((r.p.vars.zip ths).take i).foldl thS []) (Sum.inr v.1) (V.str y))) = H7 at e7 S7
      have S07 := S3.trans S7
      have hm7 := HM S07
      have gs : DGet H7 ds (.str y) (some (.str s0)) := by
        have e := DGet.k (k := Sum.inr y) hm7.hs
        rw [val1s, hs0] at e
        exact e
      have bad : fitP th (v, y) = false → Told (some (.one 7 z)) H Q := fun hbad => by
        rw [if_neg (fun hall => by
          unfold fitB at hall
          rw [Bool.and_eq_true, List.all_eq_true] at hall
          have := hall.2 _ (List.mem_of_getElem? hzip)
          rw [hbad] at this
          cases this)] at q
        exact q
      have good : fitP th (v, y) = true → ∀ y ∈ (r.p.vars.zip ths).take (i + 1), fitP th y = true := fun hg y hy => by
        rw [List.take_add_one, hzip] at hy
        rcases List.mem_append.mp hy with q | q
        · exact hf5 y q
        · simp at q
          rw [q]
          exact hg
      obtain ⟨vn, vo⟩ := v
      cases vo with
      | none =>
        refine ⟨_, rfl, _, rfl, ?_⟩
        refine iteF (iteF ?_)
        exact ⟨⟨_, _, _, rfl⟩, S7, e7, good rfl⟩
      | some so =>
        refine ⟨_, rfl, _, rfl, ?_⟩
        refine iteT ⟨_, rfl, h, _, rfl, hm7.gs, _, rfl, ds, _, rfl, gs, _, rfl, rfl, _, rfl, ?_⟩
        by_cases hso : s0 = so
        · have e1 : (!decide (V.str s0 = sortV (some so))) = false := by
            rw [hso]
            show (!decide (V.str so = V.str so)) = false
            rw [decide_eq_true rfl]
            rfl
          have e2 : fitP th ((vn, some so), y) = true := by
            show decide (srt th y = some so) = true
            rw [hs0, hso]
            exact decide_eq_true rfl
          show if (!decide (V.str s0 = sortV (some so))) = true then _ else _
          exact ite2 (fun c => absurd (e1.symm.trans c) (by decide)) (fun _ => ⟨⟨_, _, _, rfl⟩, S7, e7, good e2⟩)
        · have e1 : (!decide (V.str s0 = sortV (some so))) = true := by
            show (!decide (V.str s0 = V.str so)) = true
            rw [decide_eq_false (fun z => hso (V.str.inj z))]
            rfl
          have e2 : fitP th ((vn, some so), y) = false := by
            show decide (srt th y = some so) = false
            rw [hs0]
            exact decide_eq_false (fun z => hso (Option.some.inj z))
          show if (!decide (V.str s0 = sortV (some so))) = true then _ else _
          refine ite2 (fun _ => ?_) (fun c => absurd e1 c)
          exact ⟨_, rfl, by show 2 ≤ sizeLine; decide, fun t nt => bad e2 t _ (S07.trans (Same.upd nt)) (S07.free nt) upd_same⟩
    rintro σ H5 ⟨⟨v7, v10, v11, rfl⟩, S5, hd5, hf5⟩
    rw [pl, List.take_of_length_le (by rw [List.length_zip]; exact Nat.min_le_left _ _)] at hf5 hd5
    have hd5 : H5 dp = some (.dK (thD r.p.vars ths)) := hd5
    have hfit : fitB th r.p.vars ths = true := by
      unfold fitB
      rw [decide_eq_true hlen, Bool.true_and]
      exact List.all_eq_true.mpr hf5
    rw [if_pos hfit] at q
    have S05 := S3.trans S5
    have hm5 := HM S05
    obtain ⟨vb, mb⟩ := thg_at rw'.ln rw'.bn
    have hbn := hin _ mb
    obtain ⟨b, hb⟩ := awk_some hbn
    have ga : DGet H5 da (.str (thg r.p.vars ths r.bh)) (some (.bl b)) := by
      have e := DGet.k (k := Sum.inr (thg r.p.vars ths r.bh)) hm5.ha
      rw [val2, hb] at e
      exact e
    have gb : DGet H5 dp (.str r.bh) (some (.str (thg r.p.vars ths r.bh))) := vb ▸ DGet.k (k := Sum.inr r.bh) hd5
    refine ⟨_, rfl, h, _, rfl, hm5.ga, _, rfl, _, rfl, D, _, 0, _, rfl, rfl, RD S5, atI_nat (j := 0) rfl, qa, _, 4, _, rfl, rfl, SqT.of (S05 _ _ q1), atI_nat (j := 4) rfl, dp, _, rfl, gb, da, _, rfl, ga, _, rfl, ?_⟩
    cases b with
    | false =>
      rw [if_neg (by rw [hb]; decide)] at q
      refine iteT ⟨_, rfl, _, rfl, D, _, 0, _, rfl, rfl, RD S5, atI_nat (j := 0) rfl, qa, _, 4, _, rfl, rfl, SqT.of (S05 _ _ q1), atI_nat (j := 4) rfl, dp, _, rfl, gb, by show 2 ≤ sizeLine; decide, fun t nt => q t _ (S05.trans (Same.upd nt)) (S05.free nt) upd_same⟩
    | true =>
      rw [if_pos hb] at q
      refine iteF ?_
      have q : Told (match (r.p.cs.map (inst r.p.vars ths)).find? (fun t => decide (t ∉ ts)) with | some t => some (Rf.held t.1 t.2.1 t.2.2) | none => none) H Q := q
      refine ⟨_, rfl, D, _, 0, _, rfl, rfl, RD S5, atI_nat (j := 0) rfl, qa, _, 2, _, rfl, rfl, SqT.of (S05 _ _ q1), atI_nat (j := 2) rfl, lc, rfl, ⟨_, SqL.of (S05 _ _ q4)⟩, for_list (K := K) (a := lc) (xs := qs.map V.ref) (fun i σ H6 => (∃ v12 v13 v14, σ = [some (.ref h), some (.ref m), some (.ref t), some (.str "do"), some (.str z), some (.ref u), some (.ref D), v7, some (.ref lv), some (.ref dp), v10, v11, v12, v13, v14]) ∧ Same H5 H6 ∧ ∀ y ∈ (r.p.cs.map (inst r.p.vars ths)).take i, decide (y ∉ ts) = false) ⟨⟨_, _, _, rfl⟩, Same.refl _, fun y hy => by simp at hy⟩ (fun i σ H6 _ p => SqL.of ((S05.trans p.2.1) _ _ q4)) ?_ ?_⟩
      · rintro i y σ H6 hy ⟨⟨v12, v13, v14, rfl⟩, S6, hno6⟩
        obtain ⟨qc, c, rfl, hc, hqc⟩ := tri_at q5 hy
        have S06 := S05.trans S6
        have hm6 := HM S06
        obtain ⟨n1, n2⟩ := rk.en c (List.mem_of_getElem? hc)
        have g1 : DGet H6 dp (.str c.1) (some (.str (thg r.p.vars ths c.1))) := (thg_at rw'.ln n1).1 ▸ DGet.k (k := Sum.inr c.1) (S6 _ _ hd5)
        have g2 : DGet H6 dp (.str c.2.2) (some (.str (thg r.p.vars ths c.2.2))) := (thg_at rw'.ln n2).1 ▸ DGet.k (k := Sum.inr c.2.2) (S6 _ _ hd5)
        have hci : (r.p.cs.map (inst r.p.vars ths))[i]? = some (inst r.p.vars ths c) := by
          rw [List.getElem?_map, hc]
          rfl
        refine ⟨qc, _, rfl, same_seqT S06 hqc, rfl, _, _, rfl, _, _, rfl, _, _, rfl, rfl, ?_⟩
        dsimp only [gName, List.set_cons_succ, List.set_cons_zero]
        refine ⟨_, rfl, _, rfl, dp, _, rfl, g1, _, rfl, _, rfl, _, rfl, dp, _, rfl, g2, by show 3 ≤ sizeLine; decide, fun tt htt => ?_⟩
        have S7 : Same H6 (upd H6 tt (.tup (triV3 (inst r.p.vars ths c)))) := Same.upd htt
        have e7 : (upd H6 tt (.tup (triV3 (inst r.p.vars ths c)))) tt = some (.tup ((triK (inst r.p.vars ths c)).map kV)) := upd_same
        have S07 := S06.trans S7
        refine ⟨_, rfl, h, _, rfl, (HM S07).gh, dh, _, rfl, DGet.t (k := triK (inst r.p.vars ths c)) (HM S07).he e7, _, rfl, ?_⟩
        by_cases hheld : inst r.p.vars ths c ∈ ts
        · rw [is3, decide_eq_true hheld]
          exact iteF ⟨⟨_, _, _, rfl⟩, S6.trans S7, take_no hci (decide_eq_false (fun c => c hheld)) hno6⟩
        · rw [is3, decide_eq_false hheld]
          rw [find_first hci (decide_eq_true hheld) hno6] at q
          have g1' : DGet _ dp (.str c.1) (some (.str (thg r.p.vars ths c.1))) := (thg_at rw'.ln n1).1 ▸ DGet.k (k := Sum.inr c.1) (S7 _ _ (S6 _ _ hd5))
          have g2' : DGet _ dp (.str c.2.2) (some (.str (thg r.p.vars ths c.2.2))) := (thg_at rw'.ln n2).1 ▸ DGet.k (k := Sum.inr c.2.2) (S7 _ _ (S6 _ _ hd5))
          exact iteT ⟨_, rfl, _, rfl, dp, _, rfl, g1', _, rfl, _, rfl, _, rfl, dp, _, rfl, g2', by show 4 ≤ sizeLine; decide, fun t nt => q t _ (S07.trans (Same.upd nt)) (S07.free nt) upd_same⟩
      · rintro σ H6 ⟨_, S6, hno6⟩
        rw [List.length_map, q5.len, List.length_map] at hno6
        rw [List.take_of_length_le (by rw [List.length_map]; exact Nat.le_refl _)] at hno6
        rw [find_no hno6] at q
        exact q _ (S05.trans S6)
end
end Wm
namespace Wm
open PySem L2 StX
def PutOk (kvs : List (L2.Key × V)) : Prop := ∀ k v, valV kvs k = some v → ∃ s, v = .str s ∧ okS s
theorem PutOk.nil : PutOk [] := fun _ _ h => by cases h
theorem PutOk.put {kvs : List (L2.Key × V)} {k : L2.Key} {s : Str} (h : PutOk kvs) (hs : okS s) : PutOk (putK kvs k (.str s)) := fun j v e => by
  rw [valV_put] at e
  split at e
  · cases e
    exact ⟨s, rfl, hs⟩
  · exact h j v e
theorem PutOk.get {kvs : List (L2.Key × V)} (h : PutOk kvs) (k : L2.Key) (z : Str) (hz : okS z) : ∃ s, (valV kvs k).getD (.str z) = .str s ∧ okS s := by
  cases e : valV kvs k with
  | none => exact ⟨z, rfl, hz⟩
  | some v =>
    obtain ⟨s, rfl, hs⟩ := h k v e
    exact ⟨s, rfl, hs⟩
def spFit (K : PySem.W.Frag) : Sp := fun vs H Q _ => ∃ (h lt ds da dh dp c : Addr) (kvs : List (L2.Key × V)) (cd : Tri) (th : List Thing) (ts : List T3), vs = [.ref h, .ref dp, .ref c] ∧ HmAt H h lt ds da dh th ts ∧ H dp = some (.dK kvs) ∧ PutOk kvs ∧ SqT K H c (triV cd) ∧ ts.length ≤ 1000 ∧ (∀ t ∈ ts, okT t) ∧ ∀ l us (vs : List T3) H', H l = none → Same H H' → H' l = some (.lst (us.map V.ref)) → TrisAt K H' us vs → (∀ v ∈ vs, v ∈ ts) → vs.length ≤ ts.length → Q (.ref l) H'
/-- what a sieve over triples keeps -/
def Kept (K : PySem.W.Frag) (H1 : Hp) (D : Addr) (ts : List T3) (i : Nat) (H' : Hp) : Prop := Same H1 H' ∧ ∃ (us : List Addr) (vs : List T3), H' D = some (.lst (us.map V.ref)) ∧ TrisAt K H1 us vs ∧ (∀ v ∈ vs, v ∈ ts) ∧ vs.length ≤ i
theorem Kept.more {K : PySem.W.Frag} {H1 H' : Hp} {D q : Addr} {ts : List T3} {i : Nat} {t : T3} (hD : H1 D = none) (k : Kept K H1 D ts i H') (hq : SqT K H1 q (triV3 t)) (ht : t ∈ ts) (hi : i ≤ 1000) : ∃ xs, H' D = some (.lst xs) ∧ xs.length < sizeLine ∧ Kept K H1 D ts (i + 1) (upd H' D (.lst (xs ++ [.ref q]))) := by
  obtain ⟨S, us, vs, hD', tv, sub, le⟩ := k
  have ul := tris_len tv
  refine ⟨_, hD', ?_, fun b o e => ?_, us ++ [q], vs ++ [t], ?_, tris_snoc tv hq, fun v hv => ?_, ?_⟩
  · rw [List.length_map]
    exact Nat.lt_of_le_of_lt (show _ ≤ 1000 by omega) (by decide)
  · rw [upd_ne (ne_of_none e hD)]
    exact S _ _ e
  · rw [upd_same, List.map_append]
    rfl
  · rcases List.mem_append.mp hv with q | q
    · exact sub v q
    · rw [List.mem_singleton.mp q]
      exact ht
  · rw [List.length_append, List.length_singleton]
    omega
theorem Kept.next {K : PySem.W.Frag} {H1 H' : Hp} {D : Addr} {ts : List T3} {i : Nat} (k : Kept K H1 D ts i H') : Kept K H1 D ts (i + 1) H' := by
  obtain ⟨S, us, vs, hD', tv, sub, le⟩ := k
  exact ⟨S, us, vs, hD', tv, sub, by omega⟩
theorem Kept.nil {K : PySem.W.Frag} {H1 : Hp} {D : Addr} {ts : List T3} (hD : H1 D = none) : Kept K H1 D ts 0 (upd H1 D (.lst [])) := ⟨Same.upd hD, [], [], upd_same, True.intro, fun _ h => (List.not_mem_nil h).elim, Nat.le_refl _⟩
section
variable {P : Program} {w : World} {K : PySem.W.Frag} {mg : Str → Option Value} {base : Heap}
theorem scGvn : FnScope ["_law_m", "_law_deed_here", "_law_rule_here", "_law_put", "_law_one", "_law_sort", "_law_thing_here", "_law_x", "_law_word", "_law_y"] ["_law_m", "_law_deed_here"] (defScope sGvn) := ⟨rfl, rfl, rfl, by decide +kernel, rfl, by decide +kernel, by decide +kernel⟩
theorem ok_gvn {f : Addr} {fd : FuncData} (F : Fun K "_law_given" "_law_given" sGvn f fd) (T : TxB mg) (hz : mg "zip" = none) : FnOk P w K mg base CX0 1 f fd ["_law_m", "_law_deed_here"] (spGvn K) := by
  refine F.ok scGvn (fun vs H Q E h => ?_) (fun cdv A outer s H vs Q E hr h => ?_)
  · obtain ⟨m, t, u, z, ths, ss, ws, ms, rs, r, rfl, _⟩ := h
    rfl
  · obtain ⟨m, t, u, z, ths, ss, ws, ms, rs, r, rfl, md, ok, ht, hu', hf, rw', k⟩ := h
    have hu := hu_of hr
    refine ⟨_, (pss_cons (ps_set (i := 2) scGvn.nd rfl (Or.inl rfl) (pe_ix ix_list (pe_lc (own := [("_law_one", 4)]) (g := gName 4) (tt := tTest (tOp rEq (tOp (rIxT K) (tVar 4) (tC (.int 0))) (tOp (rIxT K) (tVar 1) (tC (.int 1))))) (te := tVar 4) rfl scGvn.nd (pi_list (pe_dget hu (pv 0) pe_str (fun _ _ => rfl))) (blkOk_by (N := ["_law_m", "_law_deed_here", "_law_rule_here", "_law_put", "_law_one", "_law_sort", "_law_thing_here", "_law_x", "_law_word", "_law_y"]) (sc := defScope sGvn) (by decide +kernel)) (fun _ _ _ _ _ => (pg_name (i := 4) scGvn.nd rfl (Or.inl rfl))) (fun _ _ _ _ _ => (pts_one (pt_cmpR op_eq (pe_ix ix_tup (pv 4) pe_int (fun _ _ => rfl)) (pe_ix ix_tup (pv 1) pe_int (fun _ _ => rfl)) (nomark _)))) (fun _ _ _ _ _ => (pv 4))) pe_int (fun _ _ => rfl)))
      (pss_cons (ps_set (i := 3) scGvn.nd rfl (Or.inl rfl) pe_dnewK)
      (pss_cons (ps_for PassesOwn.never rfl (pi_zipM rfl hz (pa_cons (pe_ix ix_tup (pv 2) pe_int (fun _ _ => rfl)) (pa_cons (pe_ix ix_tup (pv 1) pe_int (fun _ _ => rfl)) pa_nil))) (pg_tup rfl (pgs_cons (pg_tup rfl (pgs_cons (pg_name (i := 4) scGvn.nd rfl (Or.inl rfl)) (pgs_cons (pg_name (i := 5) scGvn.nd rfl (Or.inl rfl)) pgs_nil))) (pgs_cons (pg_name (i := 6) scGvn.nd rfl (Or.inl rfl)) pgs_nil))) (pss_one (ps_dput hu (pv 3) (pv 4) (pv 6) rfl)))
      (pss_cons (ps_asg (pe_ix ix_tup (pv 2) pe_int (fun _ _ => rfl)) (pg_tup rfl (pgs_cons (pg_name (i := 7) scGvn.nd rfl (Or.inl rfl)) (pgs_cons (pg_name (i := 8) scGvn.nd rfl (Or.inl rfl)) (pgs_cons (pg_name (i := 9) scGvn.nd rfl (Or.inl rfl)) pgs_nil)))))
      (pss_one (ps_ret (pe_tup (pa_cons (pe_dget hu (pv 3) (pv 7) (fun _ _ => rfl)) (pa_cons (pv 8) (pa_cons (pe_dget hu (pv 3) (pv 9) (fun _ _ => rfl)) pa_nil)))))))))), ?_⟩
    obtain ⟨l1, l2, l3, l4, as, bs, m0, m1, m2, m3, am, m4, ar⟩ := md
    have r8 := ok.r8
    refine ⟨_, rfl, m, _, rfl, md4_r l1 l2 l3 l4 ▸ DGet.k (k := kR) m0, l4, rfl, ⟨_, SqL.of m4⟩, fun D hD => ?_⟩
    refine lc_list (K := K) (a := l4) (xs := bs.map V.ref) (fun i H' => Same H H' ∧ ∃ fs : List Addr, H' D = some (.lst (fs.map V.ref)) ∧ AllAt (MRul K H) fs ((rs.take i).filter fun r => decide (r.p.nm = z))) ⟨Same.upd hD, [], upd_same, True.intro⟩ (fun i H' _ h => SqL.of (h.1 _ _ m4)) ?_ ?_
    · rintro i y H2 hy ⟨S2, fs, hD2, af⟩
      obtain ⟨qa, r, rfl, hmr, hq⟩ := ar.get hy
      have hil : i < rs.length := (List.getElem?_eq_some_iff.mp hmr).1
      have hq' := hq
      obtain ⟨lv, lc, g, ps, qs, q1, _⟩ := hq'
      have et : rs.take (i + 1) = rs.take i ++ [r] := by
        rw [List.take_add_one, hmr]
        rfl
      refine ⟨rfl, _, rfl, qa, _, 0, _, rfl, rfl, SqT.of (S2 _ _ q1), atI_nat (j := 0) rfl, _, rfl, t, _, 1, _, rfl, rfl, SqT.of (S2 _ _ ht), atI_nat (j := 1) rfl, rfl, _, rfl, ?_⟩
      refine ite2 (fun hc => ?_) (fun hc => ?_)
      · have hc : r.p.nm = z := V.str.inj (of_decide_eq_true hc)
        refine ⟨_, rfl, _, hD2, ?_, fun b o e => ?_, fs ++ [qa], ?_, ?_⟩
        · have ql := af.len
          have qf := List.length_filter_le (fun r : RlD => decide (r.p.nm = z)) (rs.take i)
          rw [List.length_take] at qf
          rw [List.length_map]
          exact Nat.lt_of_le_of_lt (show _ ≤ 1000 by omega) (by decide)
        · rw [upd_ne (ne_of_none e hD)]
          exact S2 _ _ e
        · rw [upd_same, List.map_append]
          rfl
        · rw [et, List.filter_append, List.filter_cons, if_pos (decide_eq_true hc), List.filter_nil]
          exact AllAt.append af ⟨hq, True.intro⟩
      · have hc : ¬ r.p.nm = z := fun e => hc (decide_eq_true (by rw [e]))
        refine ⟨S2, fs, hD2, ?_⟩
        rw [et, List.filter_append, List.filter_cons, if_neg (by rw [decide_eq_false hc]; decide), List.filter_nil, List.append_nil]
        exact af
    rintro H2 ⟨S2, fs, hD2, af⟩
    rw [List.length_map, ar.len, List.take_length] at af
    obtain ⟨rest, ec⟩ : ∃ rest, (rs.filter fun r => decide (r.p.nm = z)) = r :: rest := by
      have e := fnd_head (rs := rs) (z := z)
      rw [hf] at e
      cases el : (rs.filter fun r => decide (r.p.nm = z)) with
      | nil =>
        rw [el] at e
        cases e
      | cons a b =>
        rw [el] at e
        cases e
        exact ⟨b, rfl⟩
    rw [ec] at af
    cases fs with
    | nil => exact af.elim
    | cons qa fr =>
    obtain ⟨lv, lc, g, ps, qs, q1, q2, q3, q4, q5, q6⟩ := af.1
    refine ⟨D, _, 0, _, rfl, rfl, SqL.of hD2, atI_nat (j := 0) rfl, ?_⟩
    dsimp only [gName, List.set_cons_succ, List.set_cons_zero]
    intro dp hdp
    have S4 : Same H2 (upd H2 dp (.dK [])) := Same.upd hdp
    have e4 : (upd H2 dp (.dK [])) dp = some (.dK []) := upd_same
    have dp0 : H dp = none := S2.free hdp
    generalize upd H2 dp (.dK []) = H4 at S4 e4
    have S04 := S2.trans S4
    dsimp only [gName, List.set_cons_succ, List.set_cons_zero]
    have ub : ∀ {H' : Hp}, Same H H' → SqT K H' u (ths.map V.str) := fun S => same_seqT S hu'
    have pl : (ps.map V.ref).length = r.p.vars.length := by rw [List.length_map, q3.len, List.length_map]
    have pl2 : (ps.map V.ref).length = (ths.map V.str).length := by rw [pl, List.length_map, rw'.ln]
    refine ⟨_, rfl, qa, _, 1, _, rfl, rfl, SqT.of (S04 _ _ q1), atI_nat (j := 1) rfl, _, rfl, t, _, 2, _, rfl, rfl, SqT.of (S04 _ _ ht), atI_nat (j := 2) rfl, lv, u, _, _, rfl, SqL.of (S04 _ _ q2), ub S04, ?_⟩
    refine for_zipM (K := K) (a := lv) (b := u) pl2 (fun i σ H5 => (∃ v4 v5 v6, σ = [some (.ref m), some (.ref t), some (.ref qa), some (.ref dp), v4, v5, v6, none, none, none]) ∧ Same H2 H5 ∧ H5 dp = some (.dK (((r.p.vars.zip ths).take i).foldl thS []))) ⟨⟨_, _, _, rfl⟩, S4, e4⟩ (fun i σ H5 p => ⟨SqL.of ((S2.trans p.2.1) _ _ q2), ub (S2.trans p.2.1)⟩) ?_ ?_
    · rintro i x0 y0 U σ H5 hx hy ⟨⟨v4, v5, v6, rfl⟩, S5, hd5⟩ hU
      obtain ⟨qv, v, rfl, hv, hqv⟩ := row_at q3 hx
      obtain ⟨y, rfl, hyy⟩ := strz_at hy
      have SU : Same H5 (upd H5 U (.tup [.ref qv, .str y])) := Same.upd hU
      have eU : (upd H5 U (.tup [.ref qv, .str y])) U = some (.tup [.ref qv, .str y]) := upd_same
      generalize upd H5 U (.tup [.ref qv, .str y]) = H6 at SU eU
      have S6 := S5.trans SU
      have S06 := S2.trans S6
      have hzip := zip_at hv hyy
      have hd6 := SU _ _ hd5
      refine ⟨U, _, rfl, SqT.of eU, rfl, _, _, rfl, ⟨qv, _, rfl, same_seqT S06 hqv, rfl, _, _, rfl, _, _, rfl, rfl, _, _, rfl, rfl, ?_⟩⟩
      dsimp only [gName, List.set_cons_succ, List.set_cons_zero]
      refine ⟨_, rfl, _, rfl, _, rfl, dp, _, rfl, DPut.k (k := Sum.inr v.1) hd6 ?_, ⟨_, _, _, rfl⟩, fun b o e => ?_, ?_⟩
      · have t1 := thS_len ((r.p.vars.zip ths).take i) []
        have t2 := rw'.v9
        rw [List.length_take, List.length_zip] at t1
        simp only [List.length_nil] at t1
        exact Nat.lt_of_le_of_lt (show _ ≤ 100 by omega) (by decide)
      · rw [upd_ne (ne_of_none e hdp)]
        exact S6 _ _ e
      · rw [upd_same, thS_step hzip]
        rfl
    rintro σ H5 ⟨⟨v4, v5, v6, rfl⟩, S5, hd5⟩
    rw [pl, List.take_of_length_le (by rw [List.length_zip]; exact Nat.min_le_left _ _)] at hd5
    have hd5 : H5 dp = some (.dK (thD r.p.vars ths)) := hd5
    have S05 := S2.trans S5
    have g1 : DGet H5 dp (.str r.g.1) (some (.str (thg r.p.vars ths r.g.1))) := (thg_at rw'.ln rw'.gn.1).1 ▸ DGet.k (k := Sum.inr r.g.1) hd5
    have g2 : DGet H5 dp (.str r.g.2.2) (some (.str (thg r.p.vars ths r.g.2.2))) := (thg_at rw'.ln rw'.gn.2).1 ▸ DGet.k (k := Sum.inr r.g.2.2) hd5
    refine ⟨_, rfl, qa, _, 3, _, rfl, rfl, SqT.of (S05 _ _ q1), atI_nat (j := 3) rfl, g, _, rfl, SqT.of (S05 _ _ q6), rfl, _, _, rfl, _, _, rfl, _, _, rfl, rfl, ?_⟩
    dsimp only [gName, List.set_cons_succ, List.set_cons_zero]
    exact ⟨_, rfl, _, rfl, dp, _, rfl, g1, _, rfl, _, rfl, _, rfl, dp, _, rfl, g2, by show 3 ≤ sizeLine; decide, fun p hp => k p _ (S05.free hp) (S05.trans (Same.upd hp)) upd_same⟩
theorem scFit : FnScope ["_law_h", "_law_put", "_law_condition", "_law_x", "_law_word", "_law_y", "_law_found", "_law_one"] ["_law_h", "_law_put", "_law_condition"] (defScope sFit) := ⟨rfl, rfl, rfl, by decide +kernel, rfl, by decide +kernel, by decide +kernel⟩
theorem ok_fit {f : Addr} {fd : FuncData} (F : Fun K "_law_fits" "_law_fits" sFit f fd) (tl : mg "list" = none) (tsr : mg "sorted" = none) : FnOk P w K mg base CX0 1 f fd ["_law_h", "_law_put", "_law_condition"] (spFit K) := by
  refine F.ok scFit (fun vs H Q E h => ?_) (fun cdv A outer s H vs Q E hr h => ?_)
  · obtain ⟨h, lt, ds, da, dh, dp, c, kvs, cd, th, ts, rfl, _⟩ := h
    rfl
  · obtain ⟨h, lt, ds, da, dh, dp, c, kvs, cd, th, ts, rfl, hm, hdp, po, hc, tl9, ot, k⟩ := h
    have hu := hu_of hr
    refine ⟨_, (pss_cons (ps_asg (pv 2) (pg_tup rfl (pgs_cons (pg_name (i := 3) scFit.nd rfl (Or.inr rfl)) (pgs_cons (pg_name (i := 4) scFit.nd rfl (Or.inr rfl)) (pgs_cons (pg_name (i := 5) scFit.nd rfl (Or.inr rfl)) pgs_nil)))))
      (pss_cons (ps_setLc (i := 6) (own := [("_law_one", 7)]) (g := gName 7) (tt := tAnd (tTest (tOp rEq (tOp (rIxT K) (tVar 7) (tC (.int 1))) (tVar 4))) (tOr (tTest (tOp rNe (tVar 3) (tVar 5))) (tTest (tOp rEq (tOp (rIxT K) (tVar 7) (tC (.int 0))) (tOp (rIxT K) (tVar 7) (tC (.int 2))))))) (te := tVar 7) rfl scFit.nd rfl rfl (sw_true rfl rfl rfl (by decide +kernel)) (pi_list (pe_callB (cr_sortTL hr.units) (by rfl) tsr (by decide +kernel) (pa_cons (pe_callTy (call_list_dT rfl) (by rfl) tl (by decide +kernel) (pa_cons (pe_dget hu (pv 0) pe_str (fun _ _ => rfl)) pa_nil)) pa_nil))) (blkOk_by (N := ["_law_h", "_law_put", "_law_condition", "_law_x", "_law_word", "_law_y", "_law_found", "_law_one"]) (sc := defScope sFit) (by decide +kernel)) (fun _ _ _ _ _ => (pg_name (i := 7) scFit.nd rfl (Or.inl rfl))) (fun _ _ _ _ _ => (pts_one (PW.pt (pw_and (pt_cmpR op_eq (pe_ix ix_tup (pv 7) pe_int (fun _ _ => rfl)) (pv 4) (nomark _)) (pw_and1 (PW.pt (pw_or (pt_cmpR op_ne (pv 3) (pv 5) (nomark _)) (pw_or1 (pt_cmpR op_eq (pe_ix ix_tup (pv 7) pe_int (fun _ _ => rfl)) (pe_ix ix_tup (pv 7) pe_int (fun _ _ => rfl)) (nomark _)))))))))) (fun _ _ _ _ _ => (pv 7)))
      (pss_cons (ps_setLc (i := 6) (own := [("_law_one", 7)]) (g := gName 7) (tt := tTest (tOp rEq (tDGet2 (tVar 1) (tVar 3) (tOp (rIxT K) (tVar 7) (tC (.int 0)))) (tOp (rIxT K) (tVar 7) (tC (.int 0))))) (te := tVar 7) rfl scFit.nd rfl rfl (sw_true rfl rfl rfl (by decide +kernel)) (pi_list (pv 6)) (blkOk_by (N := ["_law_h", "_law_put", "_law_condition", "_law_x", "_law_word", "_law_y", "_law_found", "_law_one"]) (sc := defScope sFit) (by decide +kernel)) (fun _ _ _ _ _ => (pg_name (i := 7) scFit.nd rfl (Or.inl rfl))) (fun _ _ _ _ _ => (pts_one (pt_cmpR op_eq (pe_dget2 hu (pv 1) (pv 3) (pe_ix ix_tup (pv 7) pe_int (fun _ _ => rfl)) ⟨rfl, rfl, rfl, rfl⟩) (pe_ix ix_tup (pv 7) pe_int (fun _ _ => rfl)) (nomark _)))) (fun _ _ _ _ _ => (pv 7)))
      (pss_one (ps_ret (pe_lc (own := [("_law_one", 7)]) (g := gName 7) (tt := tTest (tOp rEq (tDGet2 (tVar 1) (tVar 5) (tOp (rIxT K) (tVar 7) (tC (.int 2)))) (tOp (rIxT K) (tVar 7) (tC (.int 2))))) (te := tVar 7) rfl scFit.nd (pi_list (pv 6)) (blkOk_by (N := ["_law_h", "_law_put", "_law_condition", "_law_x", "_law_word", "_law_y", "_law_found", "_law_one"]) (sc := defScope sFit) (by decide +kernel)) (fun _ _ _ _ _ => (pg_name (i := 7) scFit.nd rfl (Or.inl rfl))) (fun _ _ _ _ _ => (pts_one (pt_cmpR op_eq (pe_dget2 hu (pv 1) (pv 5) (pe_ix ix_tup (pv 7) pe_int (fun _ _ => rfl)) ⟨rfl, rfl, rfl, rfl⟩) (pe_ix ix_tup (pv 7) pe_int (fun _ _ => rfl)) (nomark _)))) (fun _ _ _ _ _ => (pv 7)))))))), ?_⟩
    refine ⟨_, rfl, c, _, rfl, hc, rfl, _, _, rfl, _, _, rfl, _, _, rfl, rfl, ?_⟩
    dsimp only [gName, List.set_cons_succ, List.set_cons_zero]
    refine ⟨_, rfl, h, _, rfl, hm.gh, dh, _, rfl, .inl hm.he, fun lk bs hlk hbs => ?_⟩
    have S3 : Same H (upd H lk (.lst (bs.map V.ref))) := Same.upd hlk
    have tr3 : TrisAt K (upd H lk (.lst (bs.map V.ref))) bs ts := (keys_tris hbs (keys3 ts)).same fun z => same_seqT S3 z
    refine ⟨lk, bs, ts, rfl, SqL.of upd_same, tr3, fun qs2 kl hqs2 hkl => ?_⟩
    have S4 : Same (upd H lk (.lst (bs.map V.ref))) (upd (upd H lk (.lst (bs.map V.ref))) kl (.lst (qs2.map V.ref))) := Same.upd hkl
    have ek : (upd (upd H lk (.lst (bs.map V.ref))) kl (.lst (qs2.map V.ref))) kl = some (.lst (qs2.map V.ref)) := upd_same
    have tk := hqs2.same fun z => same_seqT S4 z
    have S34 := S3.trans S4
    generalize upd (upd H lk (.lst (bs.map V.ref))) kl (.lst (qs2.map V.ref)) = H1 at S34 ek tk
    have sl : (sortT ts).length = ts.length := List.length_mergeSort ts
    refine ⟨kl, rfl, ⟨_, SqL.of ek⟩, fun D1 hD1 => ?_⟩
    refine lc_list (K := K) (a := kl) (xs := qs2.map V.ref) (Kept K H1 D1 ts) (Kept.nil hD1) (fun i H' _ h => SqL.of (h.1 _ _ ek)) ?_ ?_
    · rintro i y H2 hy kp
      obtain ⟨q, t, rfl, ht, hq⟩ := tris_at tk hy
      have hil : i < (sortT ts).length := (List.getElem?_eq_some_iff.mp ht).1
      have htm : t ∈ ts := sortT_mem.mp (List.mem_of_getElem? ht)
      have hq2 := same_seqT kp.1 hq
      have yes := kp.more hD1 hq htm (by omega)
      refine ⟨rfl, _, rfl, q, _, 1, _, rfl, rfl, hq2, atI_nat (j := 1) rfl, _, rfl, rfl, _, rfl, ?_⟩
      refine ite2 (fun _ => ?_) (fun _ => iteF kp.next)
      refine ⟨_, rfl, _, rfl, rfl, _, rfl, ?_⟩
      refine ite2 (fun _ => iteT ⟨_, rfl, yes⟩) (fun _ => ?_)
      refine ⟨_, rfl, q, _, 0, _, rfl, rfl, hq2, atI_nat (j := 0) rfl, _, rfl, q, _, 2, _, rfl, rfl, hq2, atI_nat (j := 2) rfl, rfl, _, rfl, ?_⟩
      exact ite2 (fun _ => ⟨_, rfl, yes⟩) (fun _ => kp.next)
    rintro H2 ⟨S2, us, vs, hD2, tv, sub, le⟩
    rw [List.length_map, tris_len tk, sl] at le
    dsimp only [gName, List.set_cons_succ, List.set_cons_zero]
    have tv2 := tris_imp (fun q => same_seqT S2 q) tv
    have hdp2 := (S34.trans S2) _ _ hdp
    refine ⟨_, rfl, D1, rfl, ⟨_, SqL.of hD2⟩, fun D2 hE => ?_⟩
    refine lc_list (K := K) (a := D1) (xs := us.map V.ref) (Kept K H2 D2 ts) (Kept.nil hE) (fun i H' _ h => SqL.of (h.1 _ _ hD2)) ?_ ?_
    · rintro i y H3 hy kp
      obtain ⟨q, t, rfl, ht, hq⟩ := tris_at tv2 hy
      have hil : i < vs.length := (List.getElem?_eq_some_iff.mp ht).1
      have htm : t ∈ ts := sub _ (List.mem_of_getElem? ht)
      have hq2 := same_seqT kp.1 hq
      have yes := kp.more hE hq htm (by omega)
      have hd3 := kp.1 _ _ hdp2
      obtain ⟨s0, es0, _⟩ := po.get (.inr cd.1) t.1 (ot t htm).1
      refine ⟨rfl, _, rfl, dp, rfl, .inl ⟨_, .inl hd3⟩, _, rfl, _, rfl, q, _, 0, _, rfl, rfl, hq2, atI_nat (j := 0) rfl, _, DGet.k (k := Sum.inr cd.1) hd3, _, rfl, q, _, 0, _, rfl, rfl, hq2, atI_nat (j := 0) rfl, ?_⟩
      show (scal ((valV kvs (.inr cd.1)).getD (.str t.1)) (.str t.1) = true ∧ _)
      rw [es0]
      refine ⟨rfl, _, rfl, ?_⟩
      exact ite2 (fun _ => ⟨_, rfl, yes⟩) (fun _ => kp.next)
    rintro H3 ⟨S3', us3, vs3, hD3, tv3, sub3, le3⟩
    rw [List.length_map, tris_len tv2] at le3
    dsimp only [gName, List.set_cons_succ, List.set_cons_zero]
    have tv4 := tris_imp (fun q => same_seqT S3' q) tv3
    have hdp3 := S3' _ _ hdp2
    refine ⟨_, rfl, D2, rfl, ⟨_, SqL.of hD3⟩, fun D3 hF => ?_⟩
    refine lc_list (K := K) (a := D2) (xs := us3.map V.ref) (Kept K H3 D3 ts) (Kept.nil hF) (fun i H' _ h => SqL.of (h.1 _ _ hD3)) ?_ ?_
    · rintro i y H4 hy kp
      obtain ⟨q, t, rfl, ht, hq⟩ := tris_at tv4 hy
      have hil : i < vs3.length := (List.getElem?_eq_some_iff.mp ht).1
      have htm : t ∈ ts := sub3 _ (List.mem_of_getElem? ht)
      have hq2 := same_seqT kp.1 hq
      have yes := kp.more hF hq htm (by omega)
      have hd4 := kp.1 _ _ hdp3
      obtain ⟨s0, es0, _⟩ := po.get (.inr cd.2.2) t.2.2 (ot t htm).2.2
      refine ⟨rfl, _, rfl, dp, rfl, .inl ⟨_, .inl hd4⟩, _, rfl, _, rfl, q, _, 2, _, rfl, rfl, hq2, atI_nat (j := 2) rfl, _, DGet.k (k := Sum.inr cd.2.2) hd4, _, rfl, q, _, 2, _, rfl, rfl, hq2, atI_nat (j := 2) rfl, ?_⟩
      show (scal ((valV kvs (.inr cd.2.2)).getD (.str t.2.2)) (.str t.2.2) = true ∧ _)
      rw [es0]
      refine ⟨rfl, _, rfl, ?_⟩
      exact ite2 (fun _ => ⟨_, rfl, yes⟩) (fun _ => kp.next)
    rintro H4 ⟨S4', us4, vs4, hD4, tv5, sub4, le4⟩
    rw [List.length_map, tris_len tv4] at le4
    have S24 := (S34.trans S2).trans S3'
    exact k D3 us4 vs4 H4 (S24.free hF) (S24.trans S4') hD4 (tris_imp (fun q => same_seqT S4' q) tv5) sub4 (by omega)
end
end Wm
namespace Wm
open PySem L2 StX
def spDo (K : PySem.W.Frag) : Sp := fun vs H Q _ => ∃ (p h m lt ds da dh : Addr) (ss ws : List Str) (ms : List MkD) (rs : List RlD) (th : List Thing) (ts : List T3), vs = [.ref p, .ref h, .ref m] ∧ StOk H p ∧ HmAt H h lt ds da dh th ts ∧ MdAt K H m ss ws ms rs ∧ MdlOk ss ws ms rs ∧ th.length ≤ 60 ∧ (∀ z ∈ nmL th, okS z) ∧ ts.length ≤ 1000 ∧ (∀ t ∈ ts, okT t) ∧
  ∀ t u (z : Str) (ths : List Str) H', okS z → (∀ y ∈ ths, okS y) → H t = none → H u = none → But p H H' → StOk H' p → H' t = some (.tup [.str "do", .str z, .ref u]) → H' u = some (.tup (ths.map V.str)) → Q (.ref t) H'
theorem all_get {α : Type} {R : Addr → α → Prop} : ∀ {as : List Addr} {xs : List α} {j : Nat}, AllAt R as xs → j < as.length → ∃ a x, (as.map V.ref)[j]? = some (.ref a) ∧ x ∈ xs ∧ R a x
  | a :: _, x :: _, 0, h, _ => ⟨a, x, rfl, List.mem_cons_self, h.1⟩
  | _ :: _, _ :: _, j + 1, h, hj => by
    obtain ⟨a, x, e, m, r⟩ := all_get (j := j) h.2 (by simpa using hj)
    exact ⟨a, x, by simpa using e, List.mem_cons_of_mem _ m, r⟩
  | [], [], _, _, hj => by simp at hj
  | [], _ :: _, _, h, _ => h.elim
  | _ :: _, [], _, h, _ => h.elim
theorem set_strs {zs : List Str} {j : Nat} {z : Str} : (zs.map V.str).set j (.str z) = (zs.set j z).map V.str := by rw [List.map_set]
theorem set_ok {zs : List Str} {j : Nat} {z : Str} (h : ∀ y ∈ zs, okS y) (hz : okS z) : ∀ y ∈ zs.set j z, okS y := fun y hy => by
  rcases List.mem_or_eq_of_mem_set hy with q | q
  · exact h y q
  · rw [q]
    exact hz
theorem app_ok {zs : List Str} {z : Str} (h : ∀ y ∈ zs, okS y) (hz : okS z) : ∀ y ∈ zs ++ [z], okS y := fun y hy => by
  rcases List.mem_append.mp hy with q | q
  · exact h y q
  · rw [List.mem_singleton.mp q]
    exact hz
theorem ixN_of {n : Nat} {d : Int} (h0 : 0 ≤ d) (h1 : d < n) : ixN n d = some d.toNat := by
  unfold ixN
  rw [if_pos h0, if_pos h1]
theorem eqv_nn : PyData.eqv (.list []) (.list []) = true := by decide +kernel
section
variable {P : Program} {w : World} {K : PySem.W.Frag} {mg : Str → Option Value} {base : Heap}
theorem scDo : FnScope ["_law_s", "_law_h", "_law_m", "_law_spoil", "_law_rule_here", "_law_put", "_law_condition", "_law_near", "_law_one", "_law_things", "_law_name_here", "_law_sort"] ["_law_s", "_law_h", "_law_m"] (defScope sDo) := ⟨rfl, rfl, rfl, by decide +kernel, rfl, by decide +kernel, by decide +kernel⟩
theorem ok_do {f fG fT fF fN : Addr} {fd dG dT dF dN : FuncData} (F : Fun K "_law_do" "_law_do" sDo f fd) (T : TxB mg) (DG : Dn K mg "_law_digit" sDigit ["_law_state_here", "_law_base"] fG dG) (DT : Dn K mg "_law_thing" sThg ["_law_s", "_law_h"] fT dT) (GT : FnOk P w K mg base CX0 2 fT dT ["_law_s", "_law_h"] spThg) (DF : Dn K mg "_law_fits" sFit ["_law_h", "_law_put", "_law_condition"] fF dF) (GF : FnOk P w K mg base CX0 1 fF dF ["_law_h", "_law_put", "_law_condition"] (spFit K)) (DNa : Dn K mg "_law_name" sNam ["_law_s", "_law_taken"] fN dN) (GNa : FnOk P w K mg base CX0 2 fN dN ["_law_s", "_law_taken"] spNam) : FnOk P w K mg base CX0 3 f fd ["_law_s", "_law_h", "_law_m"] (spDo K) := by
  have GG : FnOk P w K mg base CX0 1 fG dG _ spDigit := ok_digit DG.F
  refine F.ok scDo (fun vs H Q E h => ?_) (fun cdv A outer s H vs Q E hr h => ?_)
  · obtain ⟨p, h, m, lt, ds, da, dh, ss, ws, ms, rs, th, ts, rfl, _⟩ := h
    rfl
  · obtain ⟨p, h, m, lt, ds, da, dh, ss, ws, ms, rs, th, ts, rfl, st, hm, md, ok, t60, on, t9, ot, k⟩ := h
    have hu := hu_of hr
    have hr1 : Room 1 _ := hr.mono (by decide)
    have hr2 : Room 2 _ := hr
    have r8 := ok.r8
    have r1 := ok.r1
    refine ⟨_, (pss_cons (ps_set (i := 3) scDo.nd rfl (Or.inl rfl) (pe_call GG hr1 rfl DG.g DG.F.kp DG.b .nil pass0 (pa_cons (pv 0) (pa_cons pe_int pa_nil))))
      (pss_cons (ps_set (i := 4) scDo.nd rfl (Or.inl rfl) (pe_ix ix_list (pe_dget hu (pv 2) pe_str (fun _ _ => rfl)) (pe_call GG hr1 rfl DG.g DG.F.kp DG.b .nil pass0 (pa_cons (pv 0) (pa_cons (pe_callB call_len_seq (by rfl) T.len (by decide +kernel) (pa_cons (pe_dget hu (pv 2) pe_str (fun _ _ => rfl)) pa_nil)) pa_nil))) (fun _ _ => rfl)))
      (pss_cons (ps_set (i := 5) scDo.nd rfl (Or.inr rfl) pe_dnewK)
      (pss_cons (ps_for PassesOwn.never rfl (pi_list (pe_ix ix_tup (pv 4) pe_int (fun _ _ => rfl))) (pg_name (i := 6) scDo.nd rfl (Or.inl rfl)) (pss_cons (ps_set (i := 7) scDo.nd rfl (Or.inl rfl) (pe_call GF hr1 rfl DF.g DF.F.kp DF.b .nil pass0 (pa_cons (pv 1) (pa_cons (pv 5) (pa_cons (pv 6) pa_nil)))))
      (pss_one (ps_if (pt_cmpR (op_neD hr.units) (pv 7) (pe_lst pa_nil) (nomark _)) (pss_cons (ps_set (i := 8) scDo.nd rfl (Or.inl rfl) (pe_ix ix_list (pv 7) (pe_call GG hr1 rfl DG.g DG.F.kp DG.b .nil pass0 (pa_cons (pv 0) (pa_cons (pe_callB call_len_seq (by rfl) T.len (by decide +kernel) (pa_cons (pv 7) pa_nil)) pa_nil))) (fun _ _ => rfl)))
      (pss_cons (ps_dput hu (pv 5) (pe_ix ix_tup (pv 6) pe_int (fun _ _ => rfl)) (pe_ix ix_tup (pv 8) pe_int (fun _ _ => rfl)) rfl)
      (pss_one (ps_dput hu (pv 5) (pe_ix ix_tup (pv 6) pe_int (fun _ _ => rfl)) (pe_ix ix_tup (pv 8) pe_int (fun _ _ => rfl)) rfl)))) pss_nil))))
      (pss_cons (ps_setLc (i := 9) (own := [("_law_name_here", 10), ("_law_sort", 11)]) (g := gTup K 2 (gCons (gName 10) (gCons (gName 11) gNil))) (tt := tYes) (te := tDGet2 (tVar 5) (tVar 10) (tCall spThg [] E0 (tCons (tVar 0) (tCons (tVar 1) tNil)))) rfl scDo.nd rfl rfl (sw_true rfl rfl rfl (by decide +kernel)) (pi_list (pe_ix ix_tup (pv 4) pe_int (fun _ _ => rfl))) (blkOk_by (N := ["_law_s", "_law_h", "_law_m", "_law_spoil", "_law_rule_here", "_law_put", "_law_condition", "_law_near", "_law_one", "_law_things", "_law_name_here", "_law_sort"]) (sc := defScope sDo) (by decide +kernel)) (fun _ _ _ _ _ => (pg_tup rfl (pgs_cons (pg_name (i := 10) scDo.nd rfl (Or.inl rfl)) (pgs_cons (pg_name (i := 11) scDo.nd rfl (Or.inl rfl)) pgs_nil)))) (fun _ _ _ _ _ => pts_nil) (fun _ _ _ _ _ => (pe_dget2 hu (pv 5) (pv 10) (pe_call GT hr2 rfl DT.g DT.F.kp DT.b .nil pass0 (pa_cons (pv 0) (pa_cons (pv 1) pa_nil))) ⟨rfl, rfl, rfl, rfl⟩)))
      (pss_cons (ps_if (pt_cmpR op_eq (pv 3) pe_int (nomark _)) (pss_one (ps_asg (pe_call GT hr2 rfl DT.g DT.F.kp DT.b .nil pass0 (pa_cons (pv 0) (pa_cons (pv 1) pa_nil))) (pg_sub (pv 9) (pe_call GG hr1 rfl DG.g DG.F.kp DG.b .nil pass0 (pa_cons (pv 0) (pa_cons (pe_callB call_len_seq (by rfl) T.len (by decide +kernel) (pa_cons (pv 9) pa_nil)) pa_nil))) set_list))) pss_nil)
      (pss_cons (ps_if (pt_cmpR op_eq (pv 3) pe_int (nomark _)) (pss_one (ps_expr (pe_bm PySem.F.plainAttrs_list PySem.F.slot_list_append PySem.F.type_list_append mt_append (pv 9) (pa_cons (pe_call GT hr2 rfl DT.g DT.F.kp DT.b .nil pass0 (pa_cons (pv 0) (pa_cons (pv 1) pa_nil))) pa_nil)))) pss_nil)
      (pss_cons (ps_if (pt_cmpR op_eq (pv 3) pe_int (nomark _)) (pss_one (ps_expr (pe_bm0 PySem.F.plainAttrs_list PySem.F.slot_list_pop PySem.F.type_list_pop mt_pop (pv 9)))) pss_nil)
      (pss_cons (ps_if (pt_cmpR op_eq (pv 3) pe_int (nomark _)) (pss_cons (ps_asg pe_str (pg_sub (pv 9) (pe_call GG hr1 rfl DG.g DG.F.kp DG.b .nil pass0 (pa_cons (pv 0) (pa_cons (pe_callB call_len_seq (by rfl) T.len (by decide +kernel) (pa_cons (pv 9) pa_nil)) pa_nil))) set_list))
      (pss_one (ps_expr (pe_bm PySem.F.plainAttrs_list PySem.F.slot_list_append PySem.F.type_list_append mt_append (pv 9) (pa_cons (pe_call GT hr2 rfl DT.g DT.F.kp DT.b .nil pass0 (pa_cons (pv 0) (pa_cons (pv 1) pa_nil))) pa_nil))))) pss_nil)
      (pss_cons (ps_set (i := 10) scDo.nd rfl (Or.inl rfl) (pe_ix ix_tup (pv 4) pe_int (fun _ _ => rfl)))
      (pss_cons (ps_if (pt_cmpR op_eq (pv 3) pe_int (nomark _)) (pss_one (ps_set (i := 10) scDo.nd rfl (Or.inl rfl) (pe_call GNa hr2 rfl DNa.g DNa.F.kp DNa.b .nil pass0 (pa_cons (pv 0) (pa_cons (pe_lst pa_nil) pa_nil))))) pss_nil)
      (pss_one (ps_ret (pe_tup (pa_cons pe_str (pa_cons (pv 10) (pa_cons (pe_callTy call_tupN (by rfl) T.tuple (by decide +kernel) (pa_cons (pv 9) pa_nil)) pa_nil))))))))))))))))), ?_⟩
    refine ⟨_, rfl, p, 16, rfl, st, by decide, by decide, fun sp H1 s0 s1 B1 st1 => ?_⟩
    dsimp only [gName, List.set_cons_succ, List.set_cons_zero]
    have HK : ∀ {H' : Hp}, But p H H' → Kp H H' := fun b => b.kp st
    have HM : ∀ {H' : Hp}, But p H H' → HmAt H' h lt ds da dh th ts := fun b => hm.kp (b.kp st)
    obtain ⟨l1, l2, l3, l4, as, bs, m0, m1, m2, m3, am, m4, ar⟩ := md
    have bl : bs.length = rs.length := ar.len
    have g4 : ∀ {H' : Hp}, But p H H' → DGet H' m (.str "rules") (some (.ref l4)) := fun b => md4_r l1 l2 l3 l4 ▸ DGet.k (k := kR) (HK b _ _ ns_dK m0)
    have e4 : ∀ {H' : Hp}, But p H H' → H' l4 = some (.lst (bs.map V.ref)) := fun b => HK b _ _ ns_refs m4
    have wl : (((bs.map V.ref).length : Nat) : Int) = bs.length := by rw [List.length_map]
    refine ⟨_, rfl, m, _, rfl, g4 B1, _, rfl, _, rfl, m, _, rfl, g4 B1, l4, _, rfl, .inl (SqL.of (e4 B1)), p, _, rfl, st1, by rw [wl]; omega, by rw [wl]; omega, fun d1 H2 a2 b2 B2' st2 => ?_⟩
    have B2 := B1.trans B2'
    rw [wl] at b2
    obtain ⟨qa, r, er, rin, hq⟩ := all_get (j := d1.toNat) ar (by omega)
    refine rdList (e4 B2) (j := d1.toNat) (by omega) er ?_
    dsimp only [gName, List.set_cons_succ, List.set_cons_zero]
    obtain ⟨lv, lc, g, ps, qs, q1, q2, q3, q4, q5, q6⟩ := hq
    have rk := ok.rk r rin
    have rok := ok.okR rin
    have v4 := rk.pt.v4
    have v1 := rk.pt.v1
    have c3 := rk.pt.c3
    have T1 : ∀ {H' : Hp}, But p H H' → SqT K H' qa [.str r.p.nm, .ref lv, .ref lc, .ref g, .str r.bh] := fun b => SqT.of (HK b _ _ ns_tup q1)
    intro dp hdp
    have ndp : dp ≠ p := st_free st2 hdp
    have dp0 : H dp = none := B2.free ndp hdp
    have B3 : But p H (upd H2 dp (.dK [])) := but_new B2 ndp dp0
    have st3 : StOk (upd H2 dp (.dK [])) p := st2.upd ndp
    have e3 : (upd H2 dp (.dK [])) dp = some (.dK []) := upd_same
    generalize upd H2 dp (.dK []) = H3 at B3 st3 e3
    dsimp only [gName, List.set_cons_succ, List.set_cons_zero]
    refine ⟨_, rfl, qa, _, 2, _, rfl, rfl, T1 B3, atI_nat (j := 2) rfl, lc, rfl, ⟨_, SqL.of (HK B3 _ _ ns_refs q4)⟩, for_list (K := K) (a := lc) (xs := qs.map V.ref) (fun i σ H' => (∃ u6 u7 u8, σ = [some (.ref p), some (.ref h), some (.ref m), some (.int sp), some (.ref qa), some (.ref dp), u6, u7, u8, none, none, none]) ∧ But p H H' ∧ StOk H' p ∧ ∃ kvs, H' dp = some (.dK kvs) ∧ PutOk kvs ∧ kvs.length ≤ 2 * i) ⟨⟨_, _, _, rfl⟩, B3, st3, [], e3, PutOk.nil, Nat.zero_le _⟩ (fun i σ H' _ q => SqL.of (HK q.2.1 _ _ ns_refs q4)) ?_ ?_⟩
    · rintro i y σ H4 hy ⟨⟨u6, u7, u8, rfl⟩, B4, st4, kvs, e4', po, kl⟩
      obtain ⟨qc, c, rfl, hc, hqc⟩ := tri_at q5 hy
      have hil : i < r.p.cs.length := (List.getElem?_eq_some_iff.mp hc).1
      dsimp only [gName, List.set_cons_succ, List.set_cons_zero]
      refine ⟨_, rfl, _, rfl, _, rfl, h, lt, ds, da, dh, dp, qc, kvs, c, th, ts, rfl, HM B4, e4', po, (HK B4).sqT hqc, t9, ot, fun l us vs H5 l0 S5 el tv sub le => ?_⟩
      dsimp only [gName, List.set_cons_succ, List.set_cons_zero]
      have B5 := B4.trans (Same.but (p := p) S5)
      have st5 := st4.same S5
      have e5 := S5 _ _ e4'
      refine ⟨_, rfl, Nat.zero_le _, fun le' hle => ?_⟩
      have S6 : Same H5 (upd H5 le' (.lst [])) := Same.upd hle
      have e6 : (upd H5 le' (.lst [])) le' = some (.lst []) := upd_same
      generalize upd H5 le' (.lst []) = H6 at S6 e6
      have B6 := B5.trans (Same.but (p := p) S6)
      have st6 := st5.same S6
      have el6 := S6 _ _ el
      have tv6 := tris_imp (fun q => same_seqT S6 q) tv
      have ulen := tris_len tv
      refine ⟨_, _, .lst (SqL.of el6) (dp_tris tv6), .lst (SqL.of e6) .nil, shaped_tris (fun t ht => ot t (sub t ht)), by decide +kernel, _, rfl, ?_⟩
      refine ite2 (fun hne => ?_) (fun _ => ⟨⟨_, _, _, rfl⟩, B6, st6, kvs, S6 _ _ e5, po, by omega⟩)
      have pos : 0 < us.length := by
        cases hv : vs with
        | nil =>
          rw [hv] at hne
          exact absurd hne (by rw [List.map_nil, eqv_nn]; decide)
        | cons a b =>
          rw [ulen, hv]
          simp
      have ul : (((us.map V.ref).length : Nat) : Int) = us.length := by rw [List.length_map]
      refine ⟨_, rfl, _, rfl, _, rfl, l, _, rfl, .inl (SqL.of el6), p, _, rfl, st6, by rw [ul]; omega, by rw [ul]; omega, fun d7 H7 a7 b7 B7' st7 => ?_⟩
      rw [ul] at b7
      have B7 := B6.trans B7'
      have k7 := B7'.kp st6
      obtain ⟨qt, t, et, tin, hqt⟩ := tris_get (j := d7.toNat) tv6 (by omega)
      refine rdList (k7 _ _ ns_refs el6) (j := d7.toNat) (by omega) et ?_
      dsimp only [gName, List.set_cons_succ, List.set_cons_zero]
      have hqt7 := k7.sqT hqt
      have hqc7 : SqT K H7 qc (triV c) := (HK B7).sqT hqc
      have e7 : H7 dp = some (.dK kvs) := k7 _ _ ns_dK (S6 _ _ e5)
      have ot' := ot t (sub t tin)
      have kl9 : kvs.length < sizeLine := Nat.lt_of_le_of_lt (show _ ≤ 1000 by omega) (by decide)
      have ne1 : ∀ {q : Addr} {xs : List V}, SqT K H7 q xs → ∀ {o : HO} {kk : List (L2.Key × V)}, SqT K (upd H7 dp (.dK kk)) q xs := fun hs => by
        intro o kk
        rcases hs with (hs | ⟨ob, hs⟩) | hs
        · exact .inl (.inl (by rw [upd_ne (ne_of hs e7 (by intro z; cases z))]; exact hs))
        · exact .inl (.inr ⟨ob, by rw [upd_ne (ne_of hs e7 (by intro z; cases z))]; exact hs⟩)
        · exact .inr hs
      refine ⟨_, rfl, qt, _, 0, _, rfl, rfl, hqt7, atI_nat (j := 0) rfl, _, rfl, _, rfl, qc, _, 0, _, rfl, rfl, hqc7, atI_nat (j := 0) rfl, dp, _, rfl, DPut.k (k := Sum.inr c.1) e7 kl9, ?_⟩
      have kl2 := length_putK kvs (Sum.inr c.1) (V.str t.1)
      refine ⟨_, rfl, qt, _, 2, _, rfl, rfl, ne1 (o := .dK []) hqt7, atI_nat (j := 2) rfl, _, rfl, _, rfl, qc, _, 2, _, rfl, rfl, ne1 (o := .dK []) hqc7, atI_nat (j := 2) rfl, dp, _, rfl, DPut.k (k := Sum.inr c.2.2) upd_same (Nat.lt_of_le_of_lt (show _ ≤ 1000 by omega) (by decide)), ?_⟩
      have kl3 := length_putK (putK kvs (Sum.inr c.1) (V.str t.1)) (Sum.inr c.2.2) (V.str t.2.2)
      exact ⟨⟨_, _, _, rfl⟩, but_new (but_new B7 ndp dp0) ndp dp0, (st7.upd ndp).upd ndp, _, upd_same, (po.put ot'.1).put ot'.2.2, by omega⟩
    rintro σ H4 ⟨⟨u6, u7, u8, rfl⟩, B4, st4, kvs, e4', po, kl⟩
    -- the things
    refine ⟨_, rfl, qa, _, 1, _, rfl, rfl, T1 B4, atI_nat (j := 1) rfl, lv, rfl, ⟨_, SqL.of (HK B4 _ _ ns_refs q2)⟩, fun D hD => ?_⟩
    have nD : D ≠ p := st_free st4 hD
    have D0 : H D = none := B4.free nD hD
    have nDd : dp ≠ D := ne_of_none e4' hD
    refine lc_list (K := K) (a := lv) (xs := ps.map V.ref) (fun i H' => But p H H' ∧ StOk H' p ∧ H' dp = some (.dK kvs) ∧ ∃ zs : List Str, H' D = some (.lst (zs.map V.str)) ∧ (∀ z ∈ zs, okS z) ∧ zs.length = i) ⟨but_new B4 nD D0, st4.upd nD, (upd_ne nDd).trans e4', [], upd_same, fun _ h => (List.not_mem_nil h).elim, rfl⟩ (fun i H' _ q => SqL.of (HK q.1 _ _ ns_refs q2)) ?_ ?_
    · rintro i y H5 hy ⟨B5, st5, e5, zs, hD5, oz, zl⟩
      obtain ⟨qv, v, rfl, hv, hqv⟩ := row_at q3 hy
      have hil : i < r.p.vars.length := (List.getElem?_eq_some_iff.mp hv).1
      refine ⟨qv, _, rfl, (HK B5).sqT hqv, rfl, _, _, rfl, _, _, rfl, rfl, rfl, ?_⟩
      refine ⟨_, rfl, dp, rfl, .inl ⟨_, .inl e5⟩, _, rfl, _, rfl, _, rfl, p, h, lt, ds, da, dh, th, ts, rfl, st5, HM B5, t60, on, fun z H6 hz oz6 B6' st6 => ?_⟩
      have k6 := B6'.kp st5
      have e6 := k6 _ _ ns_dK e5
      have B6 := B5.trans B6'
      obtain ⟨s', es', os'⟩ := po.get (.inr v.1) z oz6
      refine ⟨_, DGet.k (k := Sum.inr v.1) e6, ?_⟩
      rw [es']
      refine ⟨_, k6 _ _ ns_strs hD5, ?_, but_new B6 nD D0, st6.upd nD, (upd_ne nDd).trans e6, zs ++ [s'], ?_, app_ok oz os', ?_⟩
      · rw [List.length_map]
        exact Nat.lt_of_le_of_lt (show _ ≤ 1000 by omega) (by decide)
      · rw [upd_same, List.map_append]
        rfl
      · rw [List.length_append, List.length_singleton]
        omega
    rintro H5 ⟨B5, st5, _, zs, hD5, oz, zl⟩
    rw [List.length_map, q3.len, List.length_map] at zl
    dsimp only [gName, List.set_cons_succ, List.set_cons_zero]
    let Good : Nat → (Nat → Prop) → L2.St → Hp → Prop := fun n q σ' H' => (∃ u10, σ' = [some (.ref p), some (.ref h), some (.ref m), some (.int sp), some (.ref qa), some (.ref dp), u6, u7, u8, some (.ref D), u10, none]) ∧ But p H H' ∧ StOk H' p ∧ ∃ zs : List Str, H' D = some (.lst (zs.map V.str)) ∧ (∀ z ∈ zs, okS z) ∧ zs.length ≤ n ∧ q zs.length
    have G0 : Good 4 (fun l => 1 ≤ l) [some (.ref p), some (.ref h), some (.ref m), some (.int sp), some (.ref qa), some (.ref dp), u6, u7, u8, some (.ref D), none, none] H5 := ⟨⟨_, rfl⟩, B5, st5, zs, hD5, oz, by omega, by omega⟩
    clear zl oz hD5 st5 B5 zs
    obtain ⟨_, B5, st5, zs, hD5, oz, zl, z1⟩ := G0
    have SL : ∀ {H' : Hp} {zs : List Str}, H' D = some (.lst (zs.map V.str)) → SqL K H' D (zs.map V.str) := fun e => SqL.of e
    have lenS : ∀ {zs : List Str}, (((zs.map V.str).length : Nat) : Int) = zs.length := fun {zs} => by rw [List.length_map]
    refine cut1 (Good 4 (fun l => 1 ≤ l)) ?_ (fun R' fin => ?_)
    · rintro σ' H6 ⟨⟨u10, rfl⟩, B6, st6, zs, hD6, oz, zl, z1⟩
      refine cut1 (Good 5 (fun l => 1 ≤ l)) ?_ (fun R' fin => ?_)
      · rintro σ' H6 ⟨⟨u10, rfl⟩, B6, st6, zs, hD6, oz, zl, z1⟩
        refine cut1 (Good 5 (fun l => 1 ≤ l ∨ sp = 13)) ?_ (fun R' fin => ?_)
        · rintro σ' H6 ⟨⟨u10, rfl⟩, B6, st6, zs, hD6, oz, zl, z1⟩
          refine cut1 (Good 6 (fun _ => True)) ?_ (fun R' fin => ?_)
          · rintro σ' H6 ⟨⟨u10, rfl⟩, B6, st6, zs, hD6, oz, zl, z1⟩
            refine ⟨_, rfl, qa, _, 0, _, rfl, rfl, T1 B6, atI_nat (j := 0) rfl, ?_⟩
            dsimp only [gName, List.set_cons_succ, List.set_cons_zero]
            refine cut1 (fun σ' H' => (∃ nm : Str, okS nm ∧ σ' = [some (.ref p), some (.ref h), some (.ref m), some (.int sp), some (.ref qa), some (.ref dp), u6, u7, u8, some (.ref D), some (.str nm), none]) ∧ But p H H' ∧ StOk H' p ∧ H' D = some (.lst (zs.map V.str))) ?_ (fun R' fin => ?_)
            · rintro σ' H7 ⟨⟨nm, onm, rfl⟩, B7, st7, hD7⟩
              refine ⟨_, rfl, _, rfl, D, _, rfl, .inl ⟨SqL.of hD7, fun u hu0 => ⟨by show 3 ≤ sizeLine; decide, fun t ht0 => ?_⟩⟩⟩
              have nu : u ≠ p := st_free st7 hu0
              have u0 : H u = none := B7.free nu hu0
              have B8 : But p H (upd H7 u (.tup (zs.map V.str))) := but_new B7 nu u0
              have st8 : StOk (upd H7 u (.tup (zs.map V.str))) p := st7.upd nu
              have nt : t ≠ p := st_free st8 ht0
              have t0 : H t = none := B8.free nt ht0
              have ntu : u ≠ t := ne_of_none (upd_same (H := H7) (a := u) (o := .tup (zs.map V.str))) ht0
              exact k t u nm zs _ onm oz t0 u0 (but_new B8 nt t0) (st8.upd nt) upd_same ((upd_ne ntu).trans upd_same)
            · refine ⟨_, rfl, rfl, _, rfl, ite2 (fun _ => ?_) (fun _ => fin _ _ ⟨⟨_, rok.nm, rfl⟩, B6, st6, hD6⟩)⟩
              refine ⟨_, rfl, Nat.zero_le _, fun le' hle => ?_⟩
              have nle := st_free st6 hle
              refine ⟨p, le', [], rfl, st6.upd nle, nle, upd_same, Nat.zero_le _, fun nm H7 hnm hn6 _ B7 st7 => ?_⟩
              exact fin _ _ ⟨⟨nm, hnm.ok, rfl⟩, B6.trans ((Same.but (Same.upd hle)).trans B7), st7, (B7.kp (st6.upd nle)) _ _ ns_strs ((Same.upd hle) _ _ hD6)⟩
          · refine ⟨_, rfl, rfl, _, rfl, ite2 (fun hc => ?_) (fun _ => fin _ _ ⟨⟨_, rfl⟩, B6, st6, zs, hD6, oz, by omega, True.intro⟩)⟩
            have hc : sp = 14 := V.int.inj (of_decide_eq_true hc)
            have z1 : 1 ≤ zs.length := z1.resolve_right (by omega)
            refine ⟨_, rfl, _, rfl, _, rfl, D, _, rfl, .inl (SL hD6), p, _, rfl, st6, by rw [lenS]; omega, by rw [lenS]; omega, fun d7 H7 a7 b7 B7 st7 => ?_⟩
            rw [lenS] at b7
            have hD7 := (B7.kp st6) _ _ ns_strs hD6
            refine ⟨D, _, d7, d7.toNat, rfl, rfl, hD7, ixN_of a7 (by rw [List.length_map]; exact b7), ?_⟩
            rw [set_strs]
            have B7' := but_new (o := .lst ((zs.set d7.toNat "stranger").map V.str)) (B6.trans B7) nD D0
            have st7' := st7.upd (o := .lst ((zs.set d7.toNat "stranger").map V.str)) nD
            have hD7' : (upd H7 D (.lst ((zs.set d7.toNat "stranger").map V.str))) D = some (.lst ((zs.set d7.toNat "stranger").map V.str)) := upd_same
            generalize upd H7 D (.lst ((zs.set d7.toNat "stranger").map V.str)) = H8 at B7' st7' hD7'
            refine ⟨_, rfl, .inl ⟨rfl, _, SL hD7'⟩, _, rfl, _, rfl, p, h, lt, ds, da, dh, th, ts, rfl, st7', HM B7', t60, on, fun z H9 _ oz9 B9 st9 => ?_⟩
            have hD9 := (B9.kp st7') _ _ ns_strs hD7'
            refine ⟨D, _, _, rfl, rfl, hD9, ?_, ?_⟩
            · rw [List.length_map, List.length_set]
              exact Nat.lt_of_le_of_lt (show _ ≤ 1000 by omega) (by decide)
            · refine fin _ _ ⟨⟨_, rfl⟩, but_new (B7'.trans B9) nD D0, st9.upd nD, zs.set d7.toNat "stranger" ++ [z], ?_, app_ok (set_ok oz okS_stranger) oz9, ?_, True.intro⟩
              · rw [upd_same, List.map_append]
                rfl
              · rw [List.length_append, List.length_set, List.length_singleton]
                omega
        · refine ⟨_, rfl, rfl, _, rfl, ite2 (fun hc => ?_) (fun _ => fin _ _ ⟨⟨_, rfl⟩, B6, st6, zs, hD6, oz, by omega, .inl z1⟩)⟩
          have hc : sp = 13 := V.int.inj (of_decide_eq_true hc)
          obtain ⟨y, hy⟩ : ∃ y, (zs.map V.str)[(zs.map V.str).length - 1]? = some y := ⟨_, List.getElem?_eq_getElem (by rw [List.length_map]; omega)⟩
          refine ⟨_, rfl, .inl ⟨rfl, _, SL hD6⟩, D, _, y, rfl, rfl, hD6, hy, ?_⟩
          refine fin _ _ ⟨⟨_, rfl⟩, but_new B6 nD D0, st6.upd nD, zs.dropLast, ?_, fun z hz => oz z (List.dropLast_subset _ hz), ?_, .inr hc⟩
          · rw [upd_same, List.map_dropLast]
          · rw [List.length_dropLast]
            omega
      · refine ⟨_, rfl, rfl, _, rfl, ite2 (fun hc => ?_) (fun _ => fin _ _ ⟨⟨_, rfl⟩, B6, st6, zs, hD6, oz, by omega, z1⟩)⟩
        refine ⟨_, rfl, .inl ⟨rfl, _, SL hD6⟩, _, rfl, _, rfl, p, h, lt, ds, da, dh, th, ts, rfl, st6, HM B6, t60, on, fun z H9 _ oz9 B9 st9 => ?_⟩
        have hD9 := (B9.kp st6) _ _ ns_strs hD6
        refine ⟨D, _, _, rfl, rfl, hD9, ?_, ?_⟩
        · rw [List.length_map]
          exact Nat.lt_of_le_of_lt (show _ ≤ 1000 by omega) (by decide)
        · refine fin _ _ ⟨⟨_, rfl⟩, but_new (B6.trans B9) nD D0, st9.upd nD, zs ++ [z], ?_, app_ok oz oz9, ?_, ?_⟩
          · rw [upd_same, List.map_append]
            rfl
          · rw [List.length_append, List.length_singleton]
            omega
          · rw [List.length_append]
            omega
    · refine ⟨_, rfl, rfl, _, rfl, ite2 (fun hc => ?_) (fun _ => fin _ _ ⟨⟨_, rfl⟩, B5, st5, zs, hD5, oz, zl, z1⟩)⟩
      refine ⟨_, rfl, _, rfl, p, h, lt, ds, da, dh, th, ts, rfl, st5, HM B5, t60, on, fun z H6 _ oz6 B6 st6 => ?_⟩
      have hD6 := (B6.kp st5) _ _ ns_strs hD5
      refine ⟨_, rfl, _, rfl, _, rfl, D, _, rfl, .inl (SL hD6), p, _, rfl, st6, by rw [lenS]; omega, by rw [lenS]; omega, fun d7 H7 a7 b7 B7 st7 => ?_⟩
      rw [lenS] at b7
      have hD7 := (B7.kp st6) _ _ ns_strs hD6
      refine ⟨D, _, d7, d7.toNat, rfl, rfl, hD7, ixN_of a7 (by rw [List.length_map]; exact b7), ?_⟩
      rw [set_strs]
      refine fin _ _ ⟨⟨_, rfl⟩, but_new ((B5.trans B6).trans B7) nD D0, st7.upd nD, zs.set d7.toNat z, upd_same, set_ok oz oz6, ?_, ?_⟩
      · rw [List.length_set]
        exact zl
      · rw [List.length_set]
        exact z1
end
end Wm
namespace Wm
open PySem L2 StX
structure NmsOk (th : List Thing) : Prop where
  ok : ∀ z ∈ nmL th, okS z ∧ z.length ≤ 12
  le : th.length ≤ 60
def spMke (K : PySem.W.Frag) : Sp := fun vs H Q _ => ∃ (p h m lt ds da dh : Addr) (ss ws : List Str) (ms : List MkD) (rs : List RlD) (th : List Thing) (ts : List T3), vs = [.ref p, .ref h, .ref m] ∧ StOk H p ∧ HmAt H h lt ds da dh th ts ∧ MdAt K H m ss ws ms rs ∧ MdlOk ss ws ms rs ∧ NmsOk th ∧
  ∀ t (n so z : Str) H', okS n → okS so → okS z → z.length ≤ 13 → H t = none → But p H H' → StOk H' p → H' t = some (.tup [.str "make", .str n, .str so, .str z]) → Q (.ref t) H'
def Fq4 (lt ds da dh : Addr) (H H' : Hp) : Prop := ∀ q o, q ≠ lt → q ≠ ds → q ≠ da → q ≠ dh → H q = some o → H' q = some o
section
variable {P : Program} {w : World} {K : PySem.W.Frag} {mg : Str → Option Value} {base : Heap}
theorem scMke : FnScope ["_law_s", "_law_h", "_law_m", "_law_maker", "_law_sorts", "_law_sort", "_law_below", "_law_one"] ["_law_s", "_law_h", "_law_m"] (defScope sMke) := ⟨rfl, rfl, rfl, by decide +kernel, rfl, by decide +kernel, by decide +kernel⟩
theorem ok_mke {f fG fT fF : Addr} {fd dG dT dF : FuncData} (F : Fun K "_law_make" "_law_make" sMke f fd) (T : TxB mg) (DG : Dn K mg "_law_digit" sDigit ["_law_state_here", "_law_base"] fG dG) (DT : Dn K mg "_law_thing" sThg ["_law_s", "_law_h"] fT dT) (GT : FnOk P w K mg base CX0 2 fT dT ["_law_s", "_law_h"] spThg) (DNa : Dn K mg "_law_name" sNam ["_law_s", "_law_taken"] fF dF) (GNa : FnOk P w K mg base CX0 2 fF dF ["_law_s", "_law_taken"] spNam) : FnOk P w K mg base CX0 3 f fd ["_law_s", "_law_h", "_law_m"] (spMke K) := by
  have GG : FnOk P w K mg base CX0 1 fG dG _ spDigit := ok_digit DG.F
  refine F.ok scMke (fun vs H Q E h => ?_) (fun cdv A outer s H vs Q E hr h => ?_)
  · obtain ⟨p, h, m, lt, ds, da, dh, ss, ws, ms, rs, th, ts, rfl, _⟩ := h
    rfl
  · obtain ⟨p, h, m, lt, ds, da, dh, ss, ws, ms, rs, th, ts, rfl, st, hm, md, ok, no, k⟩ := h
    have hu := hu_of hr
    have hr1 : Room 1 _ := hr.mono (by decide)
    have hr2 : Room 2 _ := hr
    have s1 := ok.s1
    have s4 := ok.s4
    have ln := ok.mi.ln
    refine ⟨_, (pss_cons (ps_set (i := 3) scMke.nd rfl (Or.inr rfl) (pe_call GT hr2 rfl DT.g DT.F.kp DT.b .nil pass0 (pa_cons (pv 0) (pa_cons (pv 1) pa_nil))))
      (pss_cons (ps_set (i := 4) scMke.nd rfl (Or.inl rfl) (pe_op op_cat (pe_dget hu (pv 2) pe_str (fun _ _ => rfl)) (pe_lst (pa_cons pe_str pa_nil))))
      (pss_cons (ps_set (i := 5) scMke.nd rfl (Or.inl rfl) (pe_ix ix_list (pv 4) (pe_call GG hr1 rfl DG.g DG.F.kp DG.b .nil pass0 (pa_cons (pv 0) (pa_cons (pe_callB call_len_seq (by rfl) T.len (by decide +kernel) (pa_cons (pv 4) pa_nil)) pa_nil))) (fun _ _ => rfl)))
      (pss_cons (ps_if (PW.pt (pw_and (pt_cmpR op_gt (pe_call GG hr1 rfl DG.g DG.F.kp DG.b .nil pass0 (pa_cons (pv 0) (pa_cons pe_int pa_nil))) pe_int (nomark _)) (pw_and1 (pt_cmpR op_in_seq (pv 3) (pe_dget hu (pv 1) pe_str (fun _ _ => rfl)) (by rfl))))) (pss_cons (ps_setLc (i := 6) (own := [("_law_one", 7)]) (g := gName 7) (tt := tTest (tOp rEq (tOp (rIxT K) (tVar 7) (tC (.int 0))) (tDGet (tDGet (tVar 1) (tC (.str "sorts"))) (tVar 3)))) (te := (tOp (rIxT K) (tVar 7) (tC (.int 1)))) rfl scMke.nd rfl rfl (sw_true rfl rfl rfl (by decide +kernel)) (pi_list (pe_dget hu (pv 2) pe_str (fun _ _ => rfl))) (blkOk_by (N := ["_law_s", "_law_h", "_law_m", "_law_maker", "_law_sorts", "_law_sort", "_law_below", "_law_one"]) (sc := defScope sMke) (by decide +kernel)) (fun _ _ _ _ _ => (pg_name (i := 7) scMke.nd rfl (Or.inl rfl))) (fun _ _ _ _ _ => (pts_one (pt_cmpR op_eq (pe_ix ix_tup (pv 7) pe_int (fun _ _ => rfl)) (pe_dget hu (pe_dget hu (pv 1) pe_str (fun _ _ => rfl)) (pv 3) (fun _ _ => rfl)) (nomark _)))) (fun _ _ _ _ _ => (pe_ix ix_tup (pv 7) pe_int (fun _ _ => rfl))))
      (pss_one (ps_set (i := 5) scMke.nd rfl (Or.inl rfl) (pe_ix ix_list (pe_op op_cat (pv 6) (pe_lst (pa_cons (pv 5) pa_nil))) (pe_call GG hr1 rfl DG.g DG.F.kp DG.b .nil pass0 (pa_cons (pv 0) (pa_cons (pe_op op_add (pe_callB call_len_seq (by rfl) T.len (by decide +kernel) (pa_cons (pv 6) pa_nil)) pe_int) pa_nil))) (fun _ _ => rfl))))) pss_nil)
      (pss_one (ps_ret (pe_tup (pa_cons pe_str (pa_cons (pv 3) (pa_cons (pv 5) (pa_cons (pe_call GNa hr2 rfl DNa.g DNa.F.kp DNa.b .nil pass0 (pa_cons (pv 0) (pa_cons (pe_lst pa_nil) pa_nil))) pa_nil))))))))))), ?_⟩
    refine ⟨_, rfl, _, rfl, p, h, lt, ds, da, dh, th, ts, rfl, st, hm, no.le, fun z hz => (no.ok z hz).1, fun n H1 hn on B1 st1 => ?_⟩
    dsimp only [gName, List.set_cons_succ, List.set_cons_zero]
    have k1' := B1.kp st
    obtain ⟨l1, l2, l3, l4, as, bs, m0, m1, m2, m3, am, _⟩ := md.kp k1'
    refine ⟨_, rfl, m, _, rfl, md4_s l1 l2 l3 l4 ▸ DGet.k (k := kS) m0, by show 1 ≤ sizeLine; decide, fun la hla => ?_⟩
    have S2a : Same H1 (upd H1 la (.lst [.str "strange"])) := Same.upd hla
    refine ⟨l1, la, _, _, rfl, rfl, S2a _ _ m1, upd_same, ?_, fun lw hlw => ?_⟩
    · rw [List.length_map]
      exact Nat.le_trans (show _ ≤ 1000 by simp; omega) (by decide)
    have S2b : Same (upd H1 la (.lst [.str "strange"])) (upd (upd H1 la (.lst [.str "strange"])) lw (.lst (ss.map V.str ++ [.str "strange"]))) := Same.upd hlw
    have e2 : (upd (upd H1 la (.lst [.str "strange"])) lw (.lst (ss.map V.str ++ [.str "strange"]))) lw = some (.lst ((ss ++ [("strange" : Str)]).map V.str)) := by
      rw [upd_same, List.map_append]
      rfl
    have S2 := S2a.trans S2b
    generalize upd (upd H1 la (.lst [.str "strange"])) lw (.lst (ss.map V.str ++ [.str "strange"])) = H2 at S2 e2
    dsimp only [gName, List.set_cons_succ, List.set_cons_zero]
    have st2 := st1.same S2
    have B2 : But p H H2 := B1.trans (Same.but S2)
    have oks : ∀ z ∈ ss ++ [("strange" : Str)], okS z := fun z hz => by
      rcases List.mem_append.mp hz with q | q
      · exact ok.sd.ok q
      · rw [List.mem_singleton.mp q]
        exact okS_strange
    have wl : ((((ss ++ [("strange" : Str)]).map V.str).length : Nat) : Int) = ss.length + 1 := by simp
    refine ⟨_, rfl, _, rfl, _, rfl, lw, _, rfl, .inl (SqL.of e2), p, _, rfl, st2, by rw [wl]; omega, by rw [wl]; omega, fun dw H3 a3 b3 B3 st3 => ?_⟩
    obtain ⟨so, hso, eso⟩ := str_get a3 b3
    refine rdList ((B3.kp st2) _ _ ns_strs e2) (j := dw.toNat) (by omega) eso ?_
    dsimp only [gName, List.set_cons_succ, List.set_cons_zero]
    have B3' := B2.trans B3
    have K3 : Kp H H3 := (k1'.trans (Same.kp S2)).trans (B3.kp st2)
    refine cut1 (fun σ' H' => ∃ (so' : Str) (u6 : Option V), σ' = [some (.ref p), some (.ref h), some (.ref m), some (.str n), some (.ref lw), some (.str so'), u6, none] ∧ okS so' ∧ But p H H' ∧ StOk H' p ∧ Kp H H') ?_ (fun R' fin => ?_)
    · rintro σ' H4 ⟨so', u6, rfl, oso, B4, st4, K4⟩
      refine ⟨_, rfl, _, rfl, _, rfl, Nat.zero_le _, fun le' hle => ?_⟩
      have nle := st_free st4 hle
      refine ⟨p, le', [], rfl, st4.upd nle, nle, upd_same, Nat.zero_le _, fun z H5 hnm hn6 _ B5 st5 => ⟨by show 4 ≤ sizeLine; decide, fun t ht => ?_⟩⟩
      have B5' := B4.trans ((Same.but (Same.upd hle)).trans B5)
      have ntp : t ≠ p := st_free st5 ht
      have t0 : H t = none := B5'.free ntp ht
      exact k t n so' z _ on oso hnm.ok (by omega) t0 (but_new B5' ntp t0) (st5.upd ntp) upd_same
    · refine ⟨_, rfl, p, 3, rfl, st3, by decide, by decide, fun d4 H4 a4 b4 B4 st4 => ⟨_, _, rfl, rfl, _, rfl, ?_⟩⟩
      have B4' := B3'.trans B4
      have K4 := K3.trans (B4.kp st3)
      have els : R' _ [some (.ref p), some (.ref h), some (.ref m), some (.str n), some (.ref lw), some (.str so), none, none] H4 := fin _ _ ⟨so, none, rfl, oks so hso, B4', st4, K4⟩
      refine ite2 (fun _ => ?_) (fun _ => els)
      have hm4 := hm.kp K4
      refine ⟨_, rfl, _, rfl, h, _, rfl, hm4.gt, lt, _, rfl, .inl (SqL.of hm4.ht), rfl, flats _, _, rfl, ?_⟩
      show if inV (.str n) ((nmL th).map V.str) = true then _ else _
      rw [inV_strs]
      by_cases hnn : n ∈ nmL th
      case neg =>
        rw [decide_eq_false hnn]
        exact iteF els
      rw [decide_eq_true hnn]
      refine iteT ?_
      obtain ⟨a, ha⟩ := srt_some hnn
      obtain ⟨l1, l2, l3, l4, as, bs, m0, m1, m2, m3, am, _⟩ := md.kp K4
      refine ⟨_, rfl, m, _, rfl, md4_m l1 l2 l3 l4 ▸ DGet.k (k := kM) m0, l3, rfl, ⟨_, SqL.of m3⟩, fun D hD => ?_⟩
      refine lc_list (K := K) (a := l3) (xs := as.map V.ref) (fun i H' => Same H4 H' ∧ ∃ zs : List Str, H' D = some (.lst (zs.map V.str)) ∧ zs.length ≤ i ∧ ∀ z ∈ zs, z ∈ ss) ⟨Same.upd hD, [], upd_same, Nat.le_refl _, fun _ h => (List.not_mem_nil h).elim⟩ (fun i H' _ h => SqL.of (h.1 _ _ m3)) ?_ ?_
      · rintro i y H5 hy ⟨S5, zs, hD5, zl, zm⟩
        obtain ⟨qa, mk, rfl, hmk, ld, lu, q1, q2, q3⟩ := am.get hy
        have hil : i < ms.length := (List.getElem?_eq_some_iff.mp hmk).1
        have t5 := S5 _ _ q1
        have hm5 := hm4.kp (Same.kp S5)
        have gs : DGet H5 ds (.str n) (some (.str a)) := by
          have e := DGet.k (k := Sum.inr n) hm5.hs
          rw [val1s, ha] at e
          exact e
        refine ⟨rfl, _, rfl, qa, _, 0, _, rfl, rfl, SqT.of t5, atI_nat (j := 0) rfl, _, rfl, h, _, rfl, hm5.gs, _, rfl, ds, _, rfl, gs, rfl, _, rfl, ?_⟩
        refine ite2 (fun _ => ?_) (fun _ => ⟨S5, zs, hD5, by omega, zm⟩)
        refine ⟨_, rfl, qa, _, 1, _, rfl, rfl, SqT.of t5, atI_nat (j := 1) rfl, _, hD5, ?_, fun b o e => ?_, zs ++ [mk.md], ?_, ?_, fun z hz => ?_⟩
        · rw [List.length_map]
          exact Nat.lt_of_le_of_lt (show _ ≤ 1000 by omega) (by decide)
        · rw [upd_ne (ne_of_none e hD)]
          exact S5 _ _ e
        · rw [upd_same, List.map_append]
          rfl
        · rw [List.length_append, List.length_singleton]
          omega
        · rcases List.mem_append.mp hz with q | q
          · exact zm z q
          · rw [List.mem_singleton.mp q]
            obtain ⟨i, j, _, c1, c2, _⟩ := ok.mi.at_ mk (List.mem_of_getElem? hmk)
            exact List.mem_of_getElem? c2
      rintro H5 ⟨S5, zs, hD5, zl, zm⟩
      rw [List.length_map, am.len] at zl
      dsimp only [gName, List.set_cons_succ, List.set_cons_zero]
      have st5 := st4.same S5
      refine ⟨_, rfl, _, rfl, by show 1 ≤ sizeLine; decide, fun l6 hl6 => ?_⟩
      have S6 : Same H5 (upd H5 l6 (.lst [.str so])) := Same.upd hl6
      refine ⟨D, l6, _, _, rfl, rfl, S6 _ _ hD5, upd_same, ?_, fun l7 hl7 => ?_⟩
      · rw [List.length_map]
        exact Nat.le_trans (show _ ≤ 1000 by simp; omega) (by decide)
      have S7 : Same (upd H5 l6 (.lst [.str so])) (upd (upd H5 l6 (.lst [.str so])) l7 (.lst (zs.map V.str ++ [.str so]))) := Same.upd hl7
      have e7 : (upd (upd H5 l6 (.lst [.str so])) l7 (.lst (zs.map V.str ++ [.str so]))) l7 = some (.lst ((zs ++ [so]).map V.str)) := by
        rw [upd_same, List.map_append]
        rfl
      have S57 := S6.trans S7
      generalize upd (upd H5 l6 (.lst [.str so])) l7 (.lst (zs.map V.str ++ [.str so])) = H7 at S57 e7
      have st7 := st5.same S57
      have zl2 : ((((zs ++ [so]).map V.str).length : Nat) : Int) = zs.length + 1 := by simp
      have zl3 : (((zs.map V.str).length : Nat) : Int) = zs.length := by rw [List.length_map]
      refine ⟨_, rfl, _, rfl, D, _, rfl, .inl (SqL.of (S57 _ _ hD5)), _, _, rfl, rfl, p, _, rfl, st7, by rw [zl3]; omega, by rw [zl3]; omega, fun d8 H8 a8 b8 B8 st8 => ?_⟩
      rw [zl3] at b8
      obtain ⟨so2, hso2, eso2⟩ := str_get (ws := zs ++ [so]) a8 (by rw [zl2]; exact b8)
      refine rdList ((B8.kp st7) _ _ ns_strs e7) (j := d8.toNat) (by omega) eso2 ?_
      dsimp only [gName, List.set_cons_succ, List.set_cons_zero]
      have S47 := S5.trans S57
      refine fin _ _ ⟨so2, _, rfl, ?_, (B4'.trans (Same.but S47)).trans B8, st8, (K4.trans (Same.kp S47)).trans (B8.kp st7)⟩
      rcases List.mem_append.mp hso2 with q | q
      · exact ok.sd.ok (zm _ q)
      · rw [List.mem_singleton.mp q]
        exact oks so hso
end
end Wm
namespace Wm
open PySem L2 StX
def spDrp (K : PySem.W.Frag) : Sp := fun vs H Q _ => ∃ (p h m lt ds da dh : Addr) (ss ws : List Str) (ms : List MkD) (rs : List RlD) (th : List Thing) (ts : List T3), vs = [.ref p, .ref h, .ref m] ∧ StOk H p ∧ HmAt H h lt ds da dh th ts ∧ MdAt K H m ss ws ms rs ∧ MdlOk ss ws ms rs ∧ th.length ≤ 60 ∧ (∀ z ∈ nmL th, okS z) ∧ (∀ t ∈ ts, okT t) ∧ ts.length ≤ 1000 ∧
  ∀ t (n wd y : Str) H', okS n → okS wd → okS y → H t = none → But p H H' → StOk H' p → H' t = some (.tup [.str "drop", .str n, .str wd, .str y]) → Q (.ref t) H'
section
variable {P : Program} {w : World} {K : PySem.W.Frag} {mg : Str → Option Value} {base : Heap}
theorem scDrp : FnScope ["_law_s", "_law_h", "_law_m", "_law_spoil", "_law_words", "_law_found", "_law_kept"] ["_law_s", "_law_h", "_law_m"] (defScope sDrp) := ⟨rfl, rfl, rfl, by decide +kernel, rfl, by decide +kernel, by decide +kernel⟩
theorem ok_drp {f fG fT : Addr} {fd dG dT : FuncData} (F : Fun K "_law_drop" "_law_drop" sDrp f fd) (T : TxB mg) (tl : mg "list" = none) (tsr : mg "sorted" = none) (DG : Dn K mg "_law_digit" sDigit ["_law_state_here", "_law_base"] fG dG) (DT : Dn K mg "_law_thing" sThg ["_law_s", "_law_h"] fT dT) (GT : FnOk P w K mg base CX0 2 fT dT ["_law_s", "_law_h"] spThg) : FnOk P w K mg base CX0 3 f fd ["_law_s", "_law_h", "_law_m"] (spDrp K) := by
  have GG : FnOk P w K mg base CX0 1 fG dG _ spDigit := ok_digit DG.F
  refine F.ok scDrp (fun vs H Q E h => ?_) (fun cdv A outer s H vs Q E hr h => ?_)
  · obtain ⟨p, h, m, lt, ds, da, dh, ss, ws, ms, rs, th, ts, rfl, _⟩ := h
    rfl
  · obtain ⟨p, h, m, lt, ds, da, dh, ss, ws, ms, rs, th, ts, rfl, st, hm, md, ok, t60, on, ot, t1000, k⟩ := h
    have hr1 : Room 1 _ := hr.mono (by decide)
    have hr2 : Room 2 _ := hr
    have hu := hu_of hr
    have w1 := ok.w1
    have w3 := ok.w3
    refine ⟨_, (pss_cons (ps_set (i := 3) scDrp.nd rfl (Or.inl rfl) (pe_call GG hr1 rfl DG.g DG.F.kp DG.b .nil pass0 (pa_cons (pv 0) (pa_cons pe_int pa_nil))))
      (pss_cons (ps_set (i := 4) scDrp.nd rfl (Or.inl rfl) (pe_op op_cat (pe_dget hu (pv 2) pe_str (fun _ _ => rfl)) (pe_lst (pa_cons pe_str pa_nil))))
      (pss_cons (ps_set (i := 5) scDrp.nd rfl (Or.inl rfl) (pe_lst (pa_cons (pe_call GT hr2 rfl DT.g DT.F.kp DT.b .nil pass0 (pa_cons (pv 0) (pa_cons (pv 1) pa_nil))) (pa_cons (pe_ix ix_list (pv 4) (pe_call GG hr1 rfl DG.g DG.F.kp DG.b .nil pass0 (pa_cons (pv 0) (pa_cons (pe_callB call_len_seq (by rfl) T.len (by decide +kernel) (pa_cons (pv 4) pa_nil)) pa_nil))) (fun _ _ => rfl)) (pa_cons (pe_call GT hr2 rfl DT.g DT.F.kp DT.b .nil pass0 (pa_cons (pv 0) (pa_cons (pv 1) pa_nil))) pa_nil)))))
      (pss_cons (ps_set (i := 6) scDrp.nd rfl (Or.inl rfl) (pe_callB (cr_sortTL hr.units) (by rfl) tsr (by decide +kernel) (pa_cons (pe_callTy (call_list_dT rfl) (by rfl) tl (by decide +kernel) (pa_cons (pe_dget hu (pv 1) pe_str (fun _ _ => rfl)) pa_nil)) pa_nil)))
      (pss_cons (ps_if (PW.pt (pw_and (pt_cmpR op_lt (pv 3) pe_int (nomark _)) (pw_and1 (pt_cmpR (op_neD hr.units) (pv 6) (pe_lst pa_nil) (nomark _))))) (pss_one (ps_set (i := 5) scDrp.nd rfl (Or.inl rfl) (pe_callTy call_list_of (by rfl) tl (by decide +kernel) (pa_cons (pe_ix ix_list (pv 6) (pe_call GG hr1 rfl DG.g DG.F.kp DG.b .nil pass0 (pa_cons (pv 0) (pa_cons (pe_callB call_len_seq (by rfl) T.len (by decide +kernel) (pa_cons (pv 6) pa_nil)) pa_nil))) (fun _ _ => rfl)) pa_nil)))) pss_nil)
      (pss_one (ps_ret (pe_tup (pa_cons pe_str (pa_cons (pe_ix ix_list (pv 5) pe_int (fun _ _ => rfl)) (pa_cons (pe_ix ix_list (pv 5) pe_int (fun _ _ => rfl)) (pa_cons (pe_ix ix_list (pv 5) pe_int (fun _ _ => rfl)) pa_nil)))))))))))), ?_⟩
    refine ⟨_, rfl, p, 10, rfl, st, by decide, by decide, fun sp H1 s0 s1 B1 st1 => ?_⟩
    dsimp only [gName, List.set_cons_succ, List.set_cons_zero]
    have k1' := B1.kp st
    obtain ⟨l1, l2, l3, l4, as, bs, m0, m1, m2, _⟩ := md.kp k1'
    refine ⟨_, rfl, m, _, rfl, md4_w l1 l2 l3 l4 ▸ DGet.k (k := kW) m0, by show 1 ≤ sizeLine; decide, fun la hla => ?_⟩
    have S2a : Same H1 (upd H1 la (.lst [.str "strange"])) := Same.upd hla
    refine ⟨l2, la, _, _, rfl, rfl, S2a _ _ m2, upd_same, ?_, fun lw hlw => ?_⟩
    · rw [List.length_map]
      exact Nat.le_trans (show _ ≤ 1000 by simp; omega) (by decide)
    have S2b : Same (upd H1 la (.lst [.str "strange"])) (upd (upd H1 la (.lst [.str "strange"])) lw (.lst (ws.map V.str ++ [.str "strange"]))) := Same.upd hlw
    have e2 : (upd (upd H1 la (.lst [.str "strange"])) lw (.lst (ws.map V.str ++ [.str "strange"]))) lw = some (.lst ((ws ++ [("strange" : Str)]).map V.str)) := by
      rw [upd_same, List.map_append]
      rfl
    have S2 := S2a.trans S2b
    generalize upd (upd H1 la (.lst [.str "strange"])) lw (.lst (ws.map V.str ++ [.str "strange"])) = H2 at S2 e2
    dsimp only [gName, List.set_cons_succ, List.set_cons_zero]
    have st2 := st1.same S2
    have B2 : But p H H2 := B1.trans (Same.but S2)
    have hm2 := hm.kp (k1'.trans (Same.kp S2))
    have okw : ∀ z ∈ ws ++ [("strange" : Str)], okS z := fun z hz => by
      rcases List.mem_append.mp hz with q | q
      · exact ok.wd.ok q
      · rw [List.mem_singleton.mp q]
        exact okS_strange
    refine ⟨_, rfl, _, rfl, p, h, lt, ds, da, dh, th, ts, rfl, st2, hm2, t60, on, fun z1 H3 _ oz1 B3 st3 => ?_⟩
    have k3' := B3.kp st2
    have e3 := k3' _ _ ns_strs e2
    have wl : ((((ws ++ [("strange" : Str)]).map V.str).length : Nat) : Int) = ws.length + 1 := by simp
    refine ⟨_, rfl, _, rfl, _, rfl, lw, _, rfl, .inl (SqL.of e3), p, _, rfl, st3, by rw [wl]; omega, by rw [wl]; omega, fun dw H4 a4 b4 B4 st4 => ?_⟩
    obtain ⟨wd, hwd, ewd⟩ := str_get a4 b4
    have k4 := B4.kp st3
    have hm4 := hm2.kp (k3'.trans k4)
    refine rdList (k4 _ _ ns_strs e3) (j := dw.toNat) (by omega) ewd ⟨_, rfl, _, rfl, p, h, lt, ds, da, dh, th, ts, rfl, st4, hm4, t60, on, fun z2 H5 _ oz2 B5 st5 => ⟨by show 3 ≤ sizeLine; decide, fun fl hfl => ?_⟩⟩
    dsimp only [gName, List.set_cons_succ, List.set_cons_zero]
    have B5' : But p H H5 := ((B2.trans B3).trans B4).trans B5
    have nfp : fl ≠ p := st_free st5 hfl
    have fl0 : H fl = none := B5'.free nfp hfl
    have S6 : Same H5 (upd H5 fl (.lst [.str z1, .str wd, .str z2])) := Same.upd hfl
    have e6 : (upd H5 fl (.lst [.str z1, .str wd, .str z2])) fl = some (.lst ([z1, wd, z2].map V.str)) := upd_same
    generalize upd H5 fl (.lst [.str z1, .str wd, .str z2]) = H6 at S6 e6
    have st6 := st5.same S6
    have B6 : But p H H6 := B5'.trans (Same.but S6)
    have hm6 := (hm4.kp (B5.kp st4)).kp (Same.kp S6)
    refine ⟨_, rfl, h, _, rfl, hm6.gh, dh, _, rfl, .inl hm6.he, fun lk bs hlk hbs => ?_⟩
    have S7 : Same H6 (upd H6 lk (.lst (bs.map V.ref))) := Same.upd hlk
    have tr7 : TrisAt K (upd H6 lk (.lst (bs.map V.ref))) bs ts := (keys_tris hbs (keys3 ts)).same fun z => same_seqT S7 z
    refine ⟨lk, bs, ts, rfl, SqL.of upd_same, tr7, fun qs kl hqs hkl => ?_⟩
    dsimp only [gName, List.set_cons_succ, List.set_cons_zero]
    have S8 : Same (upd H6 lk (.lst (bs.map V.ref))) (upd (upd H6 lk (.lst (bs.map V.ref))) kl (.lst (qs.map V.ref))) := Same.upd hkl
    have ek : (upd (upd H6 lk (.lst (bs.map V.ref))) kl (.lst (qs.map V.ref))) kl = some (.lst (qs.map V.ref)) := upd_same
    have tk := hqs.same fun z => same_seqT S8 z
    have S78 := S7.trans S8
    generalize upd (upd H6 lk (.lst (bs.map V.ref))) kl (.lst (qs.map V.ref)) = H8 at S78 ek tk
    have st8 := st6.same S78
    have B8 : But p H H8 := B6.trans (Same.but S78)
    have e8 := S78 _ _ e6
    have okwd : okS wd := okw wd hwd
    have G0 : ∀ {σ' : L2.St} {H' : Hp}, True := fun {_ _} => True.intro
    refine cut1 (fun σ' H' => ∃ (fl' : Addr) (a b c : Str), σ' = [some (.ref p), some (.ref h), some (.ref m), some (.int sp), some (.ref lw), some (.ref fl'), some (.ref kl)] ∧ H' fl' = some (.lst ([a, b, c].map V.str)) ∧ H fl' = none ∧ okS a ∧ okS b ∧ okS c ∧ But p H H' ∧ StOk H' p) ?_ (fun R' fin => ?_)
    · rintro σ' H9 ⟨fl', a, b, c, rfl, e9, f0, oa, ob, oc, B9, st9⟩
      have nfp' : fl' ≠ p := But.ne st9 e9 ns_strs
      refine ⟨_, rfl, fl', _, 0, _, rfl, rfl, SqL.of e9, atI_nat (j := 0) rfl, _, rfl, fl', _, 1, _, rfl, rfl, SqL.of e9, atI_nat (j := 1) rfl, _, rfl, fl', _, 2, _, rfl, rfl, SqL.of e9, atI_nat (j := 2) rfl, by show 4 ≤ sizeLine; decide, fun t ht => ?_⟩
      have ntp : t ≠ p := st_free st9 ht
      have t0 : H t = none := B9.free ntp ht
      exact k t a b c _ oa ob oc t0 (but_new B9 ntp t0) (st9.upd ntp) upd_same
    · have els : R' _ [some (.ref p), some (.ref h), some (.ref m), some (.int sp), some (.ref lw), some (.ref fl), some (.ref kl)] H8 := fin _ _ ⟨fl, z1, wd, z2, rfl, e8, fl0, oz1, okwd, oz2, B8, st8⟩
      refine ⟨_, rfl, _, _, rfl, rfl, _, rfl, ?_⟩
      refine ite2 (fun _ => ?_) (fun _ => els)
      refine ⟨_, rfl, Nat.zero_le _, fun le hle => ?_⟩
      have S9 : Same H8 (upd H8 le (.lst [])) := Same.upd hle
      have ele : (upd H8 le (.lst [])) le = some (.lst []) := upd_same
      generalize upd H8 le (.lst []) = H9 at S9 ele
      have ek9 := S9 _ _ ek
      have tk9 := tk.same fun z => same_seqT S9 z
      have st9 := st8.same S9
      have B9 : But p H H9 := B8.trans (Same.but S9)
      refine ⟨_, _, .lst (SqL.of ek9) (dp_tris tk9), .lst (SqL.of ele) .nil, shaped_tris fun t ht => ot t (sortT_mem.mp ht), by decide +kernel, _, rfl, ?_⟩
      refine ite2 (fun hne => ?_) (fun _ => fin _ _ ⟨fl, z1, wd, z2, rfl, S9 _ _ e8, fl0, oz1, okwd, oz2, B9, st9⟩)
      have qlen : 0 < qs.length := by
        rw [tris_len tk9]
        cases e : sortT ts with
        | nil =>
          rw [e] at hne
          simp [PyData.eqv, PyData.eqvAll] at hne
        | cons c r => simp
      have qlen2 : qs.length ≤ 1000 := by
        rw [tris_len tk9]
        unfold sortT
        rw [List.length_mergeSort]
        exact t1000
      refine ⟨_, rfl, _, rfl, _, rfl, kl, _, rfl, .inl (SqL.of ek9), p, _, rfl, st9, by rw [List.length_map]; omega, by rw [List.length_map]; omega, fun j9 H10 a9 b9 B10 st10 => ?_⟩
      rw [List.length_map] at b9
      obtain ⟨q, t, pq, mt, sq⟩ := tris_get (j := j9.toNat) tk9 (by omega)
      have k10 := B10.kp st9
      have sq10 := k10.sqT sq
      refine rdList (k10 _ _ ns_refs ek9) (j := j9.toNat) (by omega) pq ?_
      refine ⟨q, _, rfl, .inr sq10, fun l2 nl2 => ?_⟩
      dsimp only [gName, List.set_cons_succ, List.set_cons_zero]
      obtain ⟨o1, o2, o3⟩ := ot t (sortT_mem.mp mt)
      have nl2p : l2 ≠ p := st_free st10 nl2
      have B10' := B9.trans B10
      have l20 : H l2 = none := B10'.free nl2p nl2
      exact fin _ _ ⟨l2, t.1, t.2.1, t.2.2, rfl, upd_same, l20, o1, o2, o3, but_new B10' nl2p l20, st10.upd nl2p⟩
end
end Wm
namespace Wm
open PySem L2 StX
/-- a deed as the law draws it -/
def DdOk : Dd → Prop
  | .mk n so z => okS n ∧ okS so ∧ okS z ∧ z.length ≤ 13
  | .act z ths => okS z ∧ ∀ y ∈ ths, okS y
  | .dr n wd y => okS n ∧ okS wd ∧ okS y
  | .no k => okS k
def spAll (K : PySem.W.Frag) : Sp := fun vs H Q _ => ∃ (h m lt ds da dh t : Addr) (d : Dd) (ss ws : List Str) (ms : List MkD) (rs : List RlD) (th : List Thing) (ts : List T3), vs = [.ref h, .ref m, .ref t] ∧ HmAt H h lt ds da dh th ts ∧ MdAt K H m ss ws ms rs ∧ MdlOk ss ws ms rs ∧ DdAt H t d ∧ DdOk d ∧ (∀ t ∈ th, t.2.1 ∈ ss) ∧ Told (ddDue ss ws ms rs th ts d) H Q
def spDed (K : PySem.W.Frag) : Sp := fun vs H Q _ => ∃ (p h m lt ds da dh : Addr) (ss ws : List Str) (ms : List MkD) (rs : List RlD) (th : List Thing) (ts : List T3), vs = [.ref p, .ref h, .ref m] ∧ StOk H p ∧ HmAt H h lt ds da dh th ts ∧ MdAt K H m ss ws ms rs ∧ MdlOk ss ws ms rs ∧ NmsOk th ∧ ts.length ≤ 1000 ∧ (∀ t ∈ ts, okT t) ∧
  ∀ t (d : Dd) H', DdOk d → H t = none → But p H H' → StOk H' p → DdAt H' t d → Q (.ref t) H'
theorem kinds_ok : ∀ z ∈ (["give", "", "Make", "mak"] : List Str), okS z ∧ z ≠ "make" ∧ z ≠ "do" ∧ z ≠ "drop" := by
  unfold okS
  decide +kernel
section
variable {P : Program} {w : World} {K : PySem.W.Frag} {mg : Str → Option Value} {base : Heap}
theorem scAll : FnScope ["_law_h", "_law_m", "_law_deed_here"] ["_law_h", "_law_m", "_law_deed_here"] (defScope sAll) := ⟨rfl, rfl, rfl, by decide +kernel, rfl, by decide +kernel, by decide +kernel⟩
theorem ok_all {f fM fO fR : Addr} {fd dM dO dR : FuncData} (F : Fun K "_law_due" "_law_due" sAll f fd) (DMk : Dn K mg "_law_make_due" sMkD ["_law_h", "_law_m", "_law_deed_here"] fM dM) (GMk : FnOk P w K mg base CX0 2 fM dM ["_law_h", "_law_m", "_law_deed_here"] (spMkD K)) (DDo : Dn K mg "_law_do_due" sDoD ["_law_h", "_law_m", "_law_deed_here"] fO dO) (GDo : FnOk P w K mg base CX0 1 fO dO ["_law_h", "_law_m", "_law_deed_here"] (spDoD K)) (DDr : Dn K mg "_law_drop_due" sDrD ["_law_h", "_law_m", "_law_deed_here"] fR dR) (GDr : FnOk P w K mg base CX0 2 fR dR ["_law_h", "_law_m", "_law_deed_here"] (spDrD K)) :
    FnOk P w K mg base CX0 3 f fd ["_law_h", "_law_m", "_law_deed_here"] (spAll K) := by
  refine F.ok scAll (fun vs H Q E h => ?_) (fun cdv A outer s H vs Q E hr h => ?_)
  · obtain ⟨h, m, lt, ds, da, dh, t, d, ss, ws, ms, rs, th, ts, rfl, _⟩ := h
    rfl
  · obtain ⟨h, m, lt, ds, da, dh, t, d, ss, ws, ms, rs, th, ts, rfl, hm, md, ok, hd, od, hss, q⟩ := h
    have hr2 : Room 2 _ := hr
    have hr1 : Room 1 _ := hr.mono (by decide)
    refine ⟨_, (pss_cons (ps_if (pt_cmpR op_eq (pe_ix ix_tup (pv 2) pe_int (fun _ _ => rfl)) pe_str (nomark _)) (pss_one (ps_ret (pe_call GMk hr2 rfl DMk.g DMk.F.kp DMk.b .nil pass0 (pa_cons (pv 0) (pa_cons (pv 1) (pa_cons (pv 2) pa_nil)))))) pss_nil)
      (pss_cons (ps_if (pt_cmpR op_eq (pe_ix ix_tup (pv 2) pe_int (fun _ _ => rfl)) pe_str (nomark _)) (pss_one (ps_ret (pe_call GDo hr1 rfl DDo.g DDo.F.kp DDo.b .nil pass0 (pa_cons (pv 0) (pa_cons (pv 1) (pa_cons (pv 2) pa_nil)))))) pss_nil)
      (pss_cons (ps_if (pt_cmpR op_eq (pe_ix ix_tup (pv 2) pe_int (fun _ _ => rfl)) pe_str (nomark _)) (pss_one (ps_ret (pe_call GDr hr2 rfl DDr.g DDr.F.kp DDr.b .nil pass0 (pa_cons (pv 0) (pa_cons (pv 1) (pa_cons (pv 2) pa_nil)))))) pss_nil)
      (pss_one (ps_ret (pe_tup (pa_cons pe_str (pa_cons (pe_ix ix_tup (pv 2) pe_int (fun _ _ => rfl)) pa_nil)))))))), ?_⟩
    cases d with
    | mk n so z =>
      have ht : SqT K H t [.str "make", .str n, .str so, .str z] := SqT.of hd
      refine ⟨_, rfl, t, _, 0, _, rfl, rfl, ht, atI_nat (j := 0) rfl, rfl, _, rfl, ?_⟩
      refine ite2 (fun _ => ?_) (fun z => absurd (decide_eq_true rfl) z)
      have oz := od.2.2.2
      exact ⟨_, rfl, _, rfl, _, rfl, h, m, lt, ds, da, dh, t, n, so, z, ss, ws, ms, rs, th, ts, rfl, hm, md, ok, hd, od.2.1, by omega, hss, q⟩
    | act z ths =>
      obtain ⟨u, hd, hu⟩ := hd
      have ht : SqT K H t [.str "do", .str z, .ref u] := SqT.of hd
      refine ⟨_, rfl, t, _, 0, _, rfl, rfl, ht, atI_nat (j := 0) rfl, rfl, _, rfl, ?_⟩
      refine ite2 (fun z => absurd (V.str.inj (of_decide_eq_true z)) (by decide +kernel)) (fun _ => ?_)
      refine ⟨_, rfl, t, _, 0, _, rfl, rfl, ht, atI_nat (j := 0) rfl, rfl, _, rfl, ?_⟩
      refine ite2 (fun _ => ?_) (fun z => absurd (decide_eq_true rfl) z)
      exact ⟨_, rfl, _, rfl, _, rfl, h, m, lt, ds, da, dh, t, u, z, ths, ss, ws, ms, rs, th, ts, rfl, hm, md, ok, hd, SqT.of hu, q⟩
    | dr n wd y =>
      have ht : SqT K H t [.str "drop", .str n, .str wd, .str y] := SqT.of hd
      refine ⟨_, rfl, t, _, 0, _, rfl, rfl, ht, atI_nat (j := 0) rfl, rfl, _, rfl, ?_⟩
      refine ite2 (fun z => absurd (V.str.inj (of_decide_eq_true z)) (by decide +kernel)) (fun _ => ?_)
      refine ⟨_, rfl, t, _, 0, _, rfl, rfl, ht, atI_nat (j := 0) rfl, rfl, _, rfl, ?_⟩
      refine ite2 (fun z => absurd (V.str.inj (of_decide_eq_true z)) (by decide +kernel)) (fun _ => ?_)
      refine ⟨_, rfl, t, _, 0, _, rfl, rfl, ht, atI_nat (j := 0) rfl, rfl, _, rfl, ?_⟩
      refine ite2 (fun _ => ?_) (fun z => absurd (decide_eq_true rfl) z)
      exact ⟨_, rfl, _, rfl, _, rfl, h, m, lt, ds, da, dh, t, n, wd, y, ss, ws, ms, rs, th, ts, rfl, hm, md, hd, q⟩
    | no k =>
      obtain ⟨hd, k1, k2, k3⟩ := hd
      have ht : SqT K H t [.str k, .str "a", .str "b", .str "c"] := SqT.of hd
      refine ⟨_, rfl, t, _, 0, _, rfl, rfl, ht, atI_nat (j := 0) rfl, rfl, _, rfl, ?_⟩
      refine ite2 (fun z => absurd (V.str.inj (of_decide_eq_true z)) k1) (fun _ => ?_)
      refine ⟨_, rfl, t, _, 0, _, rfl, rfl, ht, atI_nat (j := 0) rfl, rfl, _, rfl, ?_⟩
      refine ite2 (fun z => absurd (V.str.inj (of_decide_eq_true z)) k2) (fun _ => ?_)
      refine ⟨_, rfl, t, _, 0, _, rfl, rfl, ht, atI_nat (j := 0) rfl, rfl, _, rfl, ?_⟩
      refine ite2 (fun z => absurd (V.str.inj (of_decide_eq_true z)) k3) (fun _ => ?_)
      exact ⟨_, rfl, t, _, 0, _, rfl, rfl, ht, atI_nat (j := 0) rfl, by show 2 ≤ sizeLine; decide, fun p np => q p _ (Same.upd np) np upd_same⟩
theorem scDed : FnScope ["_law_s", "_law_h", "_law_m", "_law_way"] ["_law_s", "_law_h", "_law_m"] (defScope sDed) := ⟨rfl, rfl, rfl, by decide +kernel, rfl, by decide +kernel, by decide +kernel⟩
theorem ok_ded {f fG fM fO fR : Addr} {fd dG dM dO dR : FuncData} (F : Fun K "_law_deed" "_law_deed" sDed f fd) (DG : Dn K mg "_law_digit" sDigit ["_law_state_here", "_law_base"] fG dG) (DMe : Dn K mg "_law_make" sMke ["_law_s", "_law_h", "_law_m"] fM dM) (GMe : FnOk P w K mg base CX0 3 fM dM ["_law_s", "_law_h", "_law_m"] (spMke K)) (DDo : Dn K mg "_law_do" sDo ["_law_s", "_law_h", "_law_m"] fO dO) (GDo : FnOk P w K mg base CX0 3 fO dO ["_law_s", "_law_h", "_law_m"] (spDo K)) (DDr : Dn K mg "_law_drop" sDrp ["_law_s", "_law_h", "_law_m"] fR dR) (GDr : FnOk P w K mg base CX0 3 fR dR ["_law_s", "_law_h", "_law_m"] (spDrp K)) :
    FnOk P w K mg base CX0 4 f fd ["_law_s", "_law_h", "_law_m"] (spDed K) := by
  have GG : FnOk P w K mg base CX0 1 fG dG _ spDigit := ok_digit DG.F
  refine F.ok scDed (fun vs H Q E h => ?_) (fun cdv A outer s H vs Q E hr h => ?_)
  · obtain ⟨p, h, m, lt, ds, da, dh, ss, ws, ms, rs, th, ts, rfl, _⟩ := h
    rfl
  · obtain ⟨p, h, m, lt, ds, da, dh, ss, ws, ms, rs, th, ts, rfl, st, hm, md, ok, no, t9, ot, k⟩ := h
    have hr3 : Room 3 _ := hr
    have hr1 : Room 1 _ := hr.mono (by decide)
    refine ⟨_, (pss_cons (ps_set (i := 3) scDed.nd rfl (Or.inl rfl) (pe_call GG hr1 rfl DG.g DG.F.kp DG.b .nil pass0 (pa_cons (pv 0) (pa_cons pe_int pa_nil))))
      (pss_cons (ps_if (pt_cmpR op_lt (pv 3) pe_int (nomark _)) (pss_one (ps_ret (pe_call GMe hr3 rfl DMe.g DMe.F.kp DMe.b .nil pass0 (pa_cons (pv 0) (pa_cons (pv 1) (pa_cons (pv 2) pa_nil)))))) pss_nil)
      (pss_cons (ps_if (pt_cmpR op_lt (pv 3) pe_int (nomark _)) (pss_one (ps_ret (pe_call GDo hr3 rfl DDo.g DDo.F.kp DDo.b .nil pass0 (pa_cons (pv 0) (pa_cons (pv 1) (pa_cons (pv 2) pa_nil)))))) pss_nil)
      (pss_cons (ps_if (pt_cmpR op_lt (pv 3) pe_int (nomark _)) (pss_one (ps_ret (pe_call GDr hr3 rfl DDr.g DDr.F.kp DDr.b .nil pass0 (pa_cons (pv 0) (pa_cons (pv 1) (pa_cons (pv 2) pa_nil)))))) pss_nil)
      (pss_one (ps_ret (pe_tup (pa_cons (pe_ix ix_list (pe_lst (pa_cons pe_str (pa_cons pe_str (pa_cons pe_str (pa_cons pe_str pa_nil))))) (pe_call GG hr1 rfl DG.g DG.F.kp DG.b .nil pass0 (pa_cons (pv 0) (pa_cons pe_int pa_nil))) (fun _ _ => rfl)) (pa_cons pe_str (pa_cons pe_str (pa_cons pe_str pa_nil))))))))))), ?_⟩
    refine ⟨_, rfl, p, 13, rfl, st, by decide, by decide, fun wy H1 w0 w1 B1 st1 => ?_⟩
    dsimp only [gName, List.set_cons_succ, List.set_cons_zero]
    have hm1 := hm.kp (B1.kp st)
    have md1 := md.kp (B1.kp st)
    have on : ∀ z ∈ nmL th, okS z := fun z hz => (no.ok z hz).1
    have fr : ∀ {t : Addr} {H' : Hp}, H1 t = none → H t = none := fun e => B1.free (st_free st1 e) e
    refine ⟨_, rfl, _, _, rfl, rfl, _, rfl, ?_⟩
    refine ite2 (fun _ => ?_) (fun _ => ?_)
    · exact ⟨_, rfl, _, rfl, _, rfl, p, h, m, lt, ds, da, dh, ss, ws, ms, rs, th, ts, rfl, st1, hm1, md1, ok, no, fun t n so z H2 on' oso oz z13 t0 B2 st2 et => k t (.mk n so z) H2 ⟨on', oso, oz, z13⟩ (fr (H' := H2) t0) (B1.trans B2) st2 et⟩
    refine ⟨_, rfl, _, _, rfl, rfl, _, rfl, ?_⟩
    refine ite2 (fun _ => ?_) (fun _ => ?_)
    · exact ⟨_, rfl, _, rfl, _, rfl, p, h, m, lt, ds, da, dh, ss, ws, ms, rs, th, ts, rfl, st1, hm1, md1, ok, no.le, on, t9, ot, fun t u z ths H2 oz oy t0 u0 B2 st2 et eu => k t (.act z ths) H2 ⟨oz, oy⟩ (fr (H' := H2) t0) (B1.trans B2) st2 ⟨u, et, eu⟩⟩
    refine ⟨_, rfl, _, _, rfl, rfl, _, rfl, ?_⟩
    refine ite2 (fun _ => ?_) (fun _ => ?_)
    · exact ⟨_, rfl, _, rfl, _, rfl, p, h, m, lt, ds, da, dh, ss, ws, ms, rs, th, ts, rfl, st1, hm1, md1, ok, no.le, on, ot, t9, fun t n wd y H2 o1 o2 o3 t0 B2 st2 et => k t (.dr n wd y) H2 ⟨o1, o2, o3⟩ (fr (H' := H2) t0) (B1.trans B2) st2 et⟩
    refine ⟨by show 4 ≤ sizeLine; decide, fun lq hlq => ?_⟩
    have SQ : Same H1 (upd H1 lq (.lst [.str "give", .str "", .str "Make", .str "mak"])) := Same.upd hlq
    have eq : (upd H1 lq (.lst [.str "give", .str "", .str "Make", .str "mak"])) lq = some (.lst ((["give", "", "Make", "mak"] : List Str).map V.str)) := upd_same
    have stq := st1.same SQ
    generalize upd H1 lq (.lst [.str "give", .str "", .str "Make", .str "mak"]) = HQ at SQ eq stq
    refine ⟨_, rfl, p, 4, rfl, stq, by decide, by decide, fun j H8 a8 b8 B8 st8 => ?_⟩
    obtain ⟨z, hz, ez⟩ := str_get (ws := ["give", "", "Make", "mak"]) a8 b8
    obtain ⟨oz, z1, z2, z3⟩ := kinds_ok z hz
    refine rdList ((B8.kp stq) _ _ ns_strs eq) (j := j.toNat) (by omega) ez ⟨by show 4 ≤ sizeLine; decide, fun t ht => ?_⟩
    have B8' := (B1.trans (Same.but SQ)).trans B8
    have ntp : t ≠ p := st_free st8 ht
    have t0 : H t = none := B8'.free ntp ht
    exact k t (.no z) _ oz t0 (but_new B8' ntp t0) (st8.upd ntp) ⟨upd_same, z1, z2, z3⟩
end
end Wm
namespace Wm
open PySem L2 StX
section
variable {lt ds da dh a : Addr} {H0 H H' : Hp} {o : HO}
theorem Fq4.refl : Fq4 lt ds da dh H H := fun _ _ _ _ _ _ h => h
theorem Fq4.same (f : Fq4 lt ds da dh H0 H) (s : Same H H') : Fq4 lt ds da dh H0 H' := fun q o n1 n2 n3 n4 h => s _ _ (f q o n1 n2 n3 n4 h)
theorem Fq4.u1 (f : Fq4 lt ds da dh H0 H) : Fq4 lt ds da dh H0 (upd H lt o) := fun q u n1 n2 n3 n4 h => (upd_ne n1).trans (f q u n1 n2 n3 n4 h)
theorem Fq4.u2 (f : Fq4 lt ds da dh H0 H) : Fq4 lt ds da dh H0 (upd H ds o) := fun q u n1 n2 n3 n4 h => (upd_ne n2).trans (f q u n1 n2 n3 n4 h)
theorem Fq4.u3 (f : Fq4 lt ds da dh H0 H) : Fq4 lt ds da dh H0 (upd H da o) := fun q u n1 n2 n3 n4 h => (upd_ne n3).trans (f q u n1 n2 n3 n4 h)
theorem Fq4.u4 (f : Fq4 lt ds da dh H0 H) : Fq4 lt ds da dh H0 (upd H dh o) := fun q u n1 n2 n3 n4 h => (upd_ne n4).trans (f q u n1 n2 n3 n4 h)
end
theorem HmAt.puth {H : Hp} {h lt ds da dh : Addr} {th : List Thing} {ts us : List T3} (a : HmAt H h lt ds da dh th ts) : HmAt (upd H dh (.dT (k3 us))) h lt ds da dh th us := by
  have T : ∀ {b : Addr} {u : HO}, (∀ k, u ≠ .dT k) → H b = some u → (upd H dh (.dT (k3 us))) b = some u := fun n e => (upd_ne (ne_of e a.he (n _))).trans e
  exact ⟨T (fun _ z => by cases z) a.hh, T (fun _ z => by cases z) a.ht, T (fun _ z => by cases z) a.hs, T (fun _ z => by cases z) a.ha, upd_same, a.ne, a.nhs, a.nha⟩
/-- a thing more in the law's own house -/
theorem HmAt.more {H : Hp} {h lt ds da dh : Addr} {th : List Thing} {ts : List T3} {n so : Str} {b : Bool} (a : HmAt H h lt ds da dh th ts) :
    HmAt (upd (upd (upd H lt (.lst ((nmL (th ++ [(n, so, b)])).map V.str))) ds (.dK (k1 (th ++ [(n, so, b)])))) da (.dK (k2 (th ++ [(n, so, b)])))) h lt ds da dh (th ++ [(n, so, b)]) ts := by
  have n1 : lt ≠ ds := ne_of a.ht a.hs (by intro z; cases z)
  have n2 : lt ≠ da := ne_of a.ht a.ha (by intro z; cases z)
  have n3 : h ≠ lt := ne_of a.hh a.ht (by intro z; cases z)
  have n4 : dh ≠ lt := ne_of a.he a.ht (by intro z; cases z)
  have n5 : dh ≠ ds := ne_of a.he a.hs (by intro z; cases z)
  have n6 : dh ≠ da := ne_of a.he a.ha (by intro z; cases z)
  refine ⟨?_, ?_, ?_, upd_same, ?_, a.ne, a.nhs, a.nha⟩
  · rw [upd_ne a.nha, upd_ne a.nhs, upd_ne n3]
    exact a.hh
  · rw [upd_ne n2, upd_ne n1, upd_same]
  · rw [upd_ne a.ne, upd_same]
  · rw [upd_ne n6, upd_ne n5, upd_ne n4]
    exact a.he
theorem mkDue_none {ss ws : List Str} {ms : List MkD} {th : List Thing} {n so z : Str} (h : mkDue ss ms th n so z = none) : n ∈ nmL th ∧ so ∈ ss ∧ ∃ a mk, srt th n = some a ∧ fndM ms a so = some mk ∧ isNm z = true ∧ z ∉ nmL th ∧ th.length < 60 := by
  unfold mkDue at h
  by_cases hn : n ∈ nmL th
  · rw [if_pos hn] at h
    by_cases hso : so ∈ ss
    · rw [if_pos hso] at h
      split at h
      · obtain ⟨a, ha⟩ := srt_some hn
        rw [ha] at h
        cases hf : fndM ms a so with
        | none =>
          have h : (match fndM ms a so with | some _ => entD ss th z so | none => some (.mkg a so)) = none := h
          rw [hf] at h
          cases h
        | some mk =>
          have h : (match fndM ms a so with | some _ => entD ss th z so | none => some (.mkg a so)) = none := h
          rw [hf] at h
          exact ⟨hn, hso, a, mk, ha, hf, entD_in hso h⟩
      · cases h
    · rw [if_neg hso] at h
      cases h
  · rw [if_neg hn] at h
    cases h
theorem NmsOk.more {th : List Thing} {z so : Str} {b : Bool} (h : NmsOk th) (hz : isNm z = true) (oz : okS z) (hl : th.length < 60) : NmsOk (th ++ [(z, so, b)]) := by
  refine ⟨fun y hy => ?_, ?_⟩
  · unfold nmL at hy
    rw [List.map_append] at hy
    rcases List.mem_append.mp hy with q | q
    · exact h.ok y q
    · simp at q
      rw [q]
      refine ⟨oz, ?_⟩
      unfold isNm at hz
      simp only [Bool.and_eq_true, decide_eq_true_eq] at hz
      exact hz.2.1
  · rw [List.length_append, List.length_singleton]
    omega
theorem doDue_fit {rs : List RlD} {th : List Thing} {ts : List T3} {z : Str} {ths : List Str} (h : doDue rs th ts z ths = none) : ∃ r, fndR rs z = some r ∧ ths.length = r.p.vars.length ∧ ∀ y ∈ ths, y ∈ nmL th := by
  unfold doDue at h
  cases hf : fndR rs z with
  | none =>
    rw [hf] at h
    cases h
  | some r =>
    rw [hf] at h
    cases hn : ths.find? (fun x => decide (x ∉ nmL th)) with
    | some x =>
      have h : (match ths.find? (fun x => decide (x ∉ nmL th)) with | some x => some (Rf.one 3 x) | none => _) = none := h
      rw [hn] at h
      cases h
    | none =>
      have h : (match ths.find? (fun x => decide (x ∉ nmL th)) with | some x => some (Rf.one 3 x) | none => _) = none := h
      rw [hn] at h
      have h : (if fitB th r.p.vars ths = true then _ else some (Rf.one 7 z)) = none := h
      by_cases hfit : fitB th r.p.vars ths = true
      case neg =>
        rw [if_neg hfit] at h
        cases h
      unfold fitB at hfit
      simp at hfit
      refine ⟨r, rfl, hfit.1, fun y hy => ?_⟩
      have q := List.find?_eq_none.mp hn y hy
      simp at q
      exact q
def spLPl (K : PySem.W.Frag) : Sp := fun vs H Q _ => ∃ (Hb : Hp) (h m lt ds da dh t : Addr) (d : Dd) (ss ws : List Str) (ms : List MkD) (rs : List RlD) (th : List Thing) (ts : List T3), vs = [.ref h, .ref m, .ref t] ∧ HmAt H h lt ds da dh th ts ∧ MdAt K Hb m ss ws ms rs ∧ Kq Hb H ∧ (∀ o, Hb m = some o → H m = some o) ∧ Hb lt = none ∧ MdlOk ss ws ms rs ∧ m ≠ ds ∧ m ≠ da ∧ DdAt H t d ∧ DdOk d ∧ ddDue ss ws ms rs th ts d = none ∧ (∀ t ∈ th, t.2.1 ∈ ss) ∧ th.length ≤ 60 ∧ ts.length ≤ 700 ∧
  ∀ H', Fq4 lt ds da dh H H' → HmAt H' h lt ds da dh (ddTh th d) (ddTs ms rs th ts d) → Q .non H'
section
variable {P : Program} {w : World} {K : PySem.W.Frag} {mg : Str → Option Value} {base : Heap}
theorem scPlm : FnScope ["_law_h", "_law_m", "_law_deed_here", "_law_kind", "_law_maker", "_law_sort", "_law_name_here", "_law_making_here", "_law_word", "_law_one"] ["_law_h", "_law_m", "_law_deed_here"] (defScope sPlm) := ⟨rfl, rfl, rfl, by decide +kernel, rfl, by decide +kernel, by decide +kernel⟩
theorem ok_plm {f fV : Addr} {fd dV : FuncData} (F : Fun K "_law_play" "_law_play" sPlm f fd) (DGv : Dn K mg "_law_given" sGvn ["_law_m", "_law_deed_here"] fV dV) (GGv : FnOk P w K mg base CX0 1 fV dV ["_law_m", "_law_deed_here"] (spGvn K)) : FnOk P w K mg base CX0 2 f fd ["_law_h", "_law_m", "_law_deed_here"] (spLPl K) := by
  refine F.ok scPlm (fun vs H Q E h => ?_) (fun cdv A outer s H vs Q E hr h => ?_)
  · obtain ⟨Hb, h, m, lt, ds, da, dh, t, d, ss, ws, ms, rs, th, ts, rfl, _⟩ := h
    rfl
  · obtain ⟨Hb, h, m, lt, ds, da, dh, t, d, ss, ws, ms, rs, th, ts, rfl, hm, mdb, kb, kbm, lt0, ok, nm1, nm2, hd, od, hdu, hss, t60, t700, k⟩ := h
    have hu := hu_of hr
    have hr1 : Room 1 _ := hr
    refine ⟨_, (pss_one (ps_if (pt_cmpR op_eq (pe_ix ix_tup (pv 2) pe_int (fun _ _ => rfl)) pe_str (nomark _)) (pss_cons (ps_asg (pv 2) (pg_tup rfl (pgs_cons (pg_name (i := 3) scPlm.nd rfl (Or.inl rfl)) (pgs_cons (pg_name (i := 4) scPlm.nd rfl (Or.inr rfl)) (pgs_cons (pg_name (i := 5) scPlm.nd rfl (Or.inr rfl)) (pgs_cons (pg_name (i := 6) scPlm.nd rfl (Or.inl rfl)) pgs_nil))))))
      (pss_cons (ps_set (i := 7) scPlm.nd rfl (Or.inl rfl) (pe_ix ix_list (pe_lc (own := [("_law_one", 9)]) (g := gName 9) (tt := tTest (tOp (rEqD K) (tTup (tCons (tOp (rIxT K) (tVar 9) (tC (.int 0))) (tCons (tOp (rIxT K) (tVar 9) (tC (.int 1))) tNil))) (tTup (tCons (tDGet (tDGet (tVar 0) (tC (.str "sorts"))) (tVar 4)) (tCons (tVar 5) tNil))))) (te := tVar 9) rfl scPlm.nd (pi_list (pe_dget hu (pv 1) pe_str (fun _ _ => rfl))) (blkOk_by (N := ["_law_h", "_law_m", "_law_deed_here", "_law_kind", "_law_maker", "_law_sort", "_law_name_here", "_law_making_here", "_law_word", "_law_one"]) (sc := defScope sPlm) (by decide +kernel)) (fun _ _ _ _ _ => (pg_name (i := 9) scPlm.nd rfl (Or.inl rfl))) (fun _ _ _ _ _ => (pts_one (pt_cmpR (op_eqD hr.units) (pe_tup (pa_cons (pe_ix ix_tup (pv 9) pe_int (fun _ _ => rfl)) (pa_cons (pe_ix ix_tup (pv 9) pe_int (fun _ _ => rfl)) pa_nil))) (pe_tup (pa_cons (pe_dget hu (pe_dget hu (pv 0) pe_str (fun _ _ => rfl)) (pv 4) (fun _ _ => rfl)) (pa_cons (pv 5) pa_nil))) (nomark _)))) (fun _ _ _ _ _ => (pv 9))) pe_int (fun _ _ => rfl)))
      (pss_cons (ps_expr (pe_bm PySem.F.plainAttrs_list PySem.F.slot_list_append PySem.F.type_list_append mt_append (pe_dget hu (pv 0) pe_str (fun _ _ => rfl)) (pa_cons (pv 6) pa_nil)))
      (pss_cons (ps_dput hu (pe_dget hu (pv 0) pe_str (fun _ _ => rfl)) (pv 6) (pv 5) rfl)
      (pss_cons (ps_dput hu (pe_dget hu (pv 0) pe_str (fun _ _ => rfl)) (pv 6) pe_bl rfl)
      (pss_cons (ps_for PassesOwn.never rfl (pi_list (pe_ix ix_tup (pv 7) pe_int (fun _ _ => rfl))) (pg_name (i := 8) scPlm.nd rfl (Or.inl rfl)) (pss_one (ps_dput hu (pe_dget hu (pv 0) pe_str (fun _ _ => rfl)) (pe_tup (pa_cons (pv 4) (pa_cons (pv 8) (pa_cons (pv 6) pa_nil)))) pe_bl rfl)))
      (pss_one (ps_for PassesOwn.never rfl (pi_list (pe_ix ix_tup (pv 7) pe_int (fun _ _ => rfl))) (pg_name (i := 8) scPlm.nd rfl (Or.inl rfl)) (pss_one (ps_dput hu (pe_dget hu (pv 0) pe_str (fun _ _ => rfl)) (pe_tup (pa_cons (pv 6) (pa_cons (pv 8) (pa_cons (pv 4) pa_nil)))) pe_bl rfl)))))))))) (pss_one (ps_if (pt_cmpR op_eq (pe_ix ix_tup (pv 2) pe_int (fun _ _ => rfl)) pe_str (nomark _)) (pss_one (ps_dput hu (pe_dget hu (pv 0) pe_str (fun _ _ => rfl)) (pe_call GGv hr1 rfl DGv.g DGv.F.kp DGv.b .nil pass0 (pa_cons (pv 1) (pa_cons (pv 2) pa_nil))) pe_bl rfl)) (pss_one (ps_expr (pe_dpopT1 hu (pe_dget hu (pv 0) pe_str (fun _ _ => rfl)) (pe_tup (pa_cons (pe_ix ix_tup (pv 2) pe_int (fun _ _ => rfl)) (pa_cons (pe_ix ix_tup (pv 2) pe_int (fun _ _ => rfl)) (pa_cons (pe_ix ix_tup (pv 2) pe_int (fun _ _ => rfl)) pa_nil)))) ⟨rfl, rfl, rfl, rfl⟩))))))), ?_⟩
    cases d with
    | mk n so z =>
      have hd : H t = some (.tup [.str "make", .str n, .str so, .str z]) := hd
      have ht : SqT K H t [.str "make", .str n, .str so, .str z] := SqT.of hd
      have oso : okS so := od.2.1
      obtain ⟨hn, hso, a, mk, ha, hf, _, hz, _⟩ := mkDue_none (ws := ws) (show mkDue ss ms th n so z = none from hdu)
      have has : a ∈ ss := srt_in hss ha
      have k : ∀ H', Fq4 lt ds da dh H H' → HmAt H' h lt ds da dh (th ++ [(z, so, true)]) ((mkT mk n z).foldl addT ts) → Q .non H' := fun H' f' hm' => k H' f' (by
        show HmAt H' h lt ds da dh (th ++ [(z, so, true)]) (match srt th n with | some a => (match fndM ms a so with | some m => (mkT m n z).foldl addT ts | none => ts) | none => ts)
        rw [ha]
        show HmAt H' h lt ds da dh (th ++ [(z, so, true)]) (match fndM ms a so with | some m => (mkT m n z).foldl addT ts | none => ts)
        rw [hf]
        exact hm')
      refine ⟨_, rfl, t, _, 0, _, rfl, rfl, ht, atI_nat (j := 0) rfl, rfl, _, rfl, ?_⟩
      refine ite2 (fun _ => ?_) (fun z => absurd (decide_eq_true rfl) z)
      refine ⟨_, rfl, t, _, rfl, SqT.of hd, rfl, _, _, rfl, _, _, rfl, _, _, rfl, _, _, rfl, rfl, ?_⟩
      dsimp only [gName, List.set_cons_succ, List.set_cons_zero]
      obtain ⟨l1, l2, l3, l4, as, bs, m0, m1, m2, m3, am, _⟩ := mdb
      have m0' := kbm _ m0
      have m3' := kb.lst ns_refs m3
      refine ⟨_, rfl, m, _, rfl, md4_m l1 l2 l3 l4 ▸ DGet.k (k := kM) m0', l3, rfl, ⟨_, SqL.of m3'⟩, fun D hD => ?_⟩
      have ln := ok.mi.ln
      have s4 := ok.s4
      have oa : okS a := ok.sd.ok has
      -- the makings, and that no list of theirs is D or the law's own
      have amD : AllAt (fun q x => MMakN H D q x ∧ ∀ ld lu, H q = some (.tup [.str x.mr, .str x.md, .ref ld, .ref lu]) → ld ≠ lt ∧ lu ≠ lt) as ms := am.imp fun q x ⟨ld, lu, q1, q2, q3⟩ => by
        have w2 := kb.lst ns_strs q2
        have w3 := kb.lst ns_strs q3
        refine ⟨⟨ld, lu, ne_of_none w2 hD, ne_of_none w3 hD, kb.tup q1, w2, w3⟩, fun ld' lu' e => ?_⟩
        rw [kb.tup q1] at e
        cases e
        exact ⟨ne_of_none q2 lt0, ne_of_none q3 lt0⟩
      refine lc_list (K := K) (a := l3) (xs := as.map V.ref) (fun i H' => Same H H' ∧ ∃ fs : List Addr, H' D = some (.lst (fs.map V.ref)) ∧ fs.length ≤ i ∧ AllAt (fun q x => MMakN H D q x ∧ ∀ ld lu, H q = some (.tup [.str x.mr, .str x.md, .ref ld, .ref lu]) → ld ≠ lt ∧ lu ≠ lt) fs ((ms.take i).filter fun x => decide (x.mr = a) && decide (x.md = so))) ⟨Same.upd hD, [], upd_same, Nat.le_refl _, True.intro⟩ (fun i H' _ h => SqL.of (h.1 _ _ m3')) ?_ ?_
      · rintro i y H2 hy ⟨S2, fs, hD2, fl, af⟩
        obtain ⟨qa, x, rfl, hmk, hq⟩ := amD.get hy
        have hil : i < ms.length := (List.getElem?_eq_some_iff.mp hmk).1
        have hq' := hq
        obtain ⟨⟨ld, lu, _, _, q1, q2, q3⟩, _⟩ := hq'
        have t2 := S2 _ _ q1
        have hmem : x ∈ ms := List.mem_of_getElem? hmk
        obtain ⟨ii, jj, _, c1, c2, _⟩ := ok.mi.at_ x hmem
        have et : ms.take (i + 1) = ms.take i ++ [x] := by
          rw [List.take_add_one, hmk]
          rfl
        refine ⟨rfl, _, rfl, qa, _, 0, _, rfl, rfl, SqT.of t2, atI_nat (j := 0) rfl, _, rfl, qa, _, 1, _, rfl, rfl, SqT.of t2, atI_nat (j := 1) rfl, by show 2 ≤ sizeLine; decide, fun t3 ht3 => ?_⟩
        have S3 : Same H2 (upd H2 t3 (.tup [.str x.mr, .str x.md])) := Same.upd ht3
        have e3 : (upd H2 t3 (.tup [.str x.mr, .str x.md])) t3 = some (.tup (prV (x.mr, x.md))) := upd_same
        generalize upd H2 t3 (.tup [.str x.mr, .str x.md]) = H3 at S3 e3
        have hm3 := hm.kp (Same.kp (S2.trans S3))
        have gs : DGet H3 ds (.str n) (some (.str a)) := by
          have e := DGet.k (k := Sum.inr n) hm3.hs
          rw [val1s, ha] at e
          exact e
        refine ⟨_, rfl, h, _, rfl, hm3.gs, _, rfl, ds, _, rfl, gs, _, rfl, by show 2 ≤ sizeLine; decide, fun t4 ht4 => ?_⟩
        have S4 : Same H3 (upd H3 t4 (.tup [.str a, .str so])) := Same.upd ht4
        have e4 : (upd H3 t4 (.tup [.str a, .str so])) t4 = some (.tup (prV (a, so))) := upd_same
        generalize upd H3 t4 (.tup [.str a, .str so]) = H4 at S4 e4
        have sh : ∀ {u v : Str}, okS u → okS v → SeqAt.shaped (prD (u, v)) = true := fun {u v} hu hv => shaped_tstrs (zs := [u, v]) (fun z hz => by
          simp at hz
          rcases hz with rfl | rfl
          · exact hu
          · exact hv)
        have S24 := S3.trans S4
        have hD4 := S24 _ _ hD2
        refine ⟨prD (x.mr, x.md), prD (a, so), .tup (SqT.of (S4 _ _ e3)) (.cons (.str _) (.cons (.str _) .nil)), .tup (SqT.of e4) (.cons (.str _) (.cons (.str _) .nil)), sh (ok.sd.ok (List.mem_of_getElem? c1)) (ok.sd.ok (List.mem_of_getElem? c2)), sh oa oso, _, rfl, ?_⟩
        rw [prD_eqv]
        by_cases hc : (x.mr, x.md) = (a, so)
        · rw [decide_eq_true hc]
          have hc1 : x.mr = a := congrArg Prod.fst hc
          have hc2 : x.md = so := congrArg Prod.snd hc
          refine iteT ⟨_, rfl, _, hD4, ?_, fun b o e => ?_, fs ++ [qa], ?_, ?_, ?_⟩
          · rw [List.length_map]
            exact Nat.lt_of_le_of_lt (show _ ≤ 1000 by omega) (by decide)
          · rw [upd_ne (ne_of_none e hD)]
            exact S24 _ _ (S2 _ _ e)
          · rw [upd_same, List.map_append]
            rfl
          · rw [List.length_append, List.length_singleton]
            omega
          · rw [et, List.filter_append, List.filter_cons, if_pos (by rw [decide_eq_true hc1, decide_eq_true hc2]; rfl), List.filter_nil]
            exact AllAt.append af ⟨hq, True.intro⟩
        · rw [decide_eq_false hc]
          refine iteF ⟨S2.trans S24, fs, hD4, by omega, ?_⟩
          rw [et, List.filter_append, List.filter_cons, if_neg (fun q => ?_), List.filter_nil, List.append_nil]
          · exact af
          · rw [Bool.and_eq_true, decide_eq_true_eq, decide_eq_true_eq] at q
            exact hc (by rw [q.1, q.2])
      rintro H2 ⟨S2, fs, hD2, fl, af⟩
      rw [List.length_map, am.len, List.take_length] at af
      have hh : (ms.filter fun x => decide (x.mr = a) && decide (x.md = so)).head? = some mk := by
        rw [List.head?_filter]
        exact hf
      cases hfl : (ms.filter fun x => decide (x.mr = a) && decide (x.md = so)) with
      | nil =>
        rw [hfl] at hh
        cases hh
      | cons mk' rest =>
        rw [hfl] at hh af
        cases hh
        cases fs with
        | nil => exact af.elim
        | cons qa fr =>
          obtain ⟨⟨⟨ld, lu, _, _, q1, q2, q3⟩, qn⟩, _⟩ := af
          obtain ⟨nld, nlu⟩ := qn ld lu q1
          refine ⟨D, _, 0, _, rfl, rfl, SqL.of hD2, atI_nat (j := 0) rfl, ?_⟩
          dsimp only [gName, List.set_cons_succ, List.set_cons_zero]
          have hm2 := hm.kp (Same.kp S2)
          have F2 : Fq4 lt ds da dh H H2 := Fq4.refl.same S2
          -- the new thing
          refine ⟨_, rfl, h, _, rfl, hm2.gt, .inl ⟨rfl, _, SqL.of hm2.ht⟩, _, rfl, lt, _, _, rfl, rfl, hm2.ht, ?_, ?_⟩
          · unfold nmL
            rw [List.length_map, List.length_map]
            exact Nat.lt_of_le_of_lt (show _ ≤ 1000 by omega) (by decide)
          have eT : (nmL th).map V.str ++ [.str z] = (nmL (th ++ [(z, so, true)])).map V.str := by
            unfold nmL
            rw [List.map_append, List.map_append]
            rfl
          rw [eT]
          have n1 : ds ≠ lt := ne_of hm2.hs hm2.ht (by intro z; cases z)
          have n2 : da ≠ lt := ne_of hm2.ha hm2.ht (by intro z; cases z)
          have n3 : h ≠ lt := ne_of hm2.hh hm2.ht (by intro z; cases z)
          have kl : (k1 th).length < sizeLine := by
            unfold k1
            rw [List.length_map]
            exact Nat.lt_of_le_of_lt (show _ ≤ 1000 by omega) (by decide)
          have kl2 : (k2 th).length < sizeLine := by
            unfold k2
            rw [List.length_map]
            exact Nat.lt_of_le_of_lt (show _ ≤ 1000 by omega) (by decide)
          refine ⟨_, rfl, _, rfl, h, _, rfl, hmF_s lt ds da dh ▸ DGet.k (k := kS) ((upd_ne n3).trans hm2.hh), _, rfl, ds, _, rfl, DPut.k (k := Sum.inr z) ((upd_ne n1).trans hm2.hs) kl, ?_⟩
          rw [new1 (b := true) hz]
          refine ⟨_, rfl, h, _, rfl, hmF_a lt ds da dh ▸ DGet.k (k := kA) ((upd_ne hm2.nhs).trans ((upd_ne n3).trans hm2.hh)), _, rfl, da, _, rfl, DPut.k (k := Sum.inr z) ((upd_ne hm2.ne.symm).trans ((upd_ne n2).trans hm2.ha)) kl2, ?_⟩
          rw [new2 (s := so) hz]
          have M3 := hm2.more (n := z) (so := so) (b := true)
          have F3 : Fq4 lt ds da dh H (upd (upd (upd H2 lt (.lst ((nmL (th ++ [(z, so, true)])).map V.str))) ds (.dK (k1 (th ++ [(z, so, true)])))) da (.dK (k2 (th ++ [(z, so, true)])))) := F2.u1.u2.u3
          generalize upd (upd (upd H2 lt (.lst ((nmL (th ++ [(z, so, true)])).map V.str))) ds (.dK (k1 (th ++ [(z, so, true)])))) da (.dK (k2 (th ++ [(z, so, true)]))) = H3 at M3 F3
          have KP : ∀ {H' : Hp} {b : Addr} {u : HO}, Fq4 lt ds da dh H H' → b ≠ lt → (∀ k, u ≠ .dK k) → (∀ k, u ≠ .dT k) → H b = some u → H' b = some u := fun f nb nk nt e => f _ _ nb (ne_of e hm.hs (nk _)) (ne_of e hm.ha (nk _)) (ne_of e hm.he (nt _)) e
          have nqa : qa ≠ lt := ne_of q1 hm.ht (by intro z; cases z)
          have qA : ∀ {H' : Hp}, Fq4 lt ds da dh H H' → H' qa = some (.tup [.str mk.mr, .str mk.md, .ref ld, .ref lu]) := fun f => KP f nqa (fun _ z => by cases z) (fun _ z => by cases z) q1
          have lA : ∀ {H' : Hp}, Fq4 lt ds da dh H H' → H' ld = some (.lst (mk.dn.map V.str)) := fun f => KP f nld (fun _ z => by cases z) (fun _ z => by cases z) q2
          have uA : ∀ {H' : Hp}, Fq4 lt ds da dh H H' → H' lu = some (.lst (mk.up.map V.str)) := fun f => KP f nlu (fun _ z => by cases z) (fun _ z => by cases z) q3
          obtain ⟨sd, su⟩ := ok.mi.sb mk (fnd_mem hf).1
          have w3 := ok.w3
          have dl := sd.length_le
          have ul := su.length_le
          refine ⟨_, rfl, qa, _, 2, _, rfl, rfl, SqT.of (qA F3), atI_nat (j := 2) rfl, ld, rfl, ⟨_, SqL.of (lA F3)⟩, for_list (K := K) (a := ld) (xs := mk.dn.map V.str) (fun i σ H' => (∃ u8, σ = [some (.ref h), some (.ref m), some (.ref t), some (.str "make"), some (.str n), some (.str so), some (.str z), some (.ref qa), u8, none]) ∧ HmAt H' h lt ds da dh (th ++ [(z, so, true)]) (((mk.dn.take i).map fun w => (n, w, z)).foldl addT ts) ∧ Fq4 lt ds da dh H H') ⟨⟨none, rfl⟩, M3, F3⟩ (fun i σ H' _ p => SqL.of (lA p.2.2)) ?_ ?_⟩
          · rintro i y σ H4 hy ⟨⟨u8, rfl⟩, M4, F4⟩
            obtain ⟨wd, hwd, rfl⟩ := map_str_get hy
            have hil : i < mk.dn.length := (List.getElem?_eq_some_iff.mp hwd).1
            dsimp only [gName, List.set_cons_succ, List.set_cons_zero]
            refine ⟨_, rfl, h, _, rfl, M4.gh, _, rfl, _, rfl, _, rfl, by show 3 ≤ sizeLine; decide, fun tt htt => ?_⟩
            have S5 : Same H4 (upd H4 tt (.tup [.str n, .str wd, .str z])) := Same.upd htt
            have fl := fold_len ((mk.dn.take i).map fun w => (n, w, z)) ts
            rw [List.length_map, List.length_take] at fl
            refine ⟨dh, _, rfl, DPut.t (k := triK (n, wd, z)) (S5 _ _ M4.he) upd_same ?_, ?_⟩
            · unfold k3
              rw [List.length_map]
              exact Nat.lt_of_le_of_lt (show _ ≤ 1000 by omega) (by decide)
            rw [put3]
            refine ⟨⟨_, rfl⟩, ?_, (F4.same S5).u4⟩
            rw [List.take_add_one, hwd, List.map_append, List.foldl_append]
            exact (M4.kp (Same.kp S5)).puth
          rintro σ H4 ⟨⟨u8, rfl⟩, M4, F4⟩
          rw [List.length_map, List.take_length] at M4
          refine ⟨_, rfl, qa, _, 3, _, rfl, rfl, SqT.of (qA F4), atI_nat (j := 3) rfl, lu, rfl, ⟨_, SqL.of (uA F4)⟩, for_list (K := K) (a := lu) (xs := mk.up.map V.str) (fun i σ H' => (∃ u8, σ = [some (.ref h), some (.ref m), some (.ref t), some (.str "make"), some (.str n), some (.str so), some (.str z), some (.ref qa), u8, none]) ∧ HmAt H' h lt ds da dh (th ++ [(z, so, true)]) (((mk.up.take i).map fun w => (z, w, n)).foldl addT ((mk.dn.map fun w => (n, w, z)).foldl addT ts)) ∧ Fq4 lt ds da dh H H') ⟨⟨_, rfl⟩, M4, F4⟩ (fun i σ H' _ p => SqL.of (uA p.2.2)) ?_ ?_⟩
          · rintro i y σ H5 hy ⟨⟨u8, rfl⟩, M5, F5⟩
            obtain ⟨wd, hwd, rfl⟩ := map_str_get hy
            have hil : i < mk.up.length := (List.getElem?_eq_some_iff.mp hwd).1
            dsimp only [gName, List.set_cons_succ, List.set_cons_zero]
            refine ⟨_, rfl, h, _, rfl, M5.gh, _, rfl, _, rfl, _, rfl, by show 3 ≤ sizeLine; decide, fun tt htt => ?_⟩
            have S5 : Same H5 (upd H5 tt (.tup [.str z, .str wd, .str n])) := Same.upd htt
            have fl := fold_len ((mk.up.take i).map fun w => (z, w, n)) ((mk.dn.map fun w => (n, w, z)).foldl addT ts)
            have fl2 := fold_len (mk.dn.map fun w => (n, w, z)) ts
            rw [List.length_map, List.length_take] at fl
            rw [List.length_map] at fl2
            refine ⟨dh, _, rfl, DPut.t (k := triK (z, wd, n)) (S5 _ _ M5.he) upd_same ?_, ?_⟩
            · unfold k3
              rw [List.length_map]
              exact Nat.lt_of_le_of_lt (show _ ≤ 1000 by omega) (by decide)
            rw [put3]
            refine ⟨⟨_, rfl⟩, ?_, (F5.same S5).u4⟩
            rw [List.take_add_one, hwd, List.map_append, List.foldl_append]
            exact (M5.kp (Same.kp S5)).puth
          rintro σ H5 ⟨⟨u8, rfl⟩, M5, F5⟩
          rw [List.length_map, List.take_length] at M5
          refine k H5 F5 ?_
          unfold mkT
          rw [List.foldl_append]
          exact M5
    | act z ths =>
      obtain ⟨u, hd, hu'⟩ := hd
      have ht : SqT K H t [.str "do", .str z, .ref u] := SqT.of hd
      obtain ⟨r, hf, hlen, hin⟩ := doDue_fit (show doDue rs th ts z ths = none from hdu)
      have rw' : RlW r ths := (ok.rls (fnd_in hf).1).w hlen
      refine ⟨_, rfl, t, _, 0, _, rfl, rfl, ht, atI_nat (j := 0) rfl, rfl, _, rfl, ?_⟩
      refine ite2 (fun z => absurd (V.str.inj (of_decide_eq_true z)) (by decide +kernel)) (fun _ => ?_)
      refine ⟨_, rfl, t, _, 0, _, rfl, rfl, ht, atI_nat (j := 0) rfl, rfl, _, rfl, ?_⟩
      refine ite2 (fun _ => ?_) (fun z => absurd (decide_eq_true rfl) z)
      refine ⟨_, rfl, h, _, rfl, hm.gh, _, rfl, _, rfl, m, t, u, z, ths, ss, ws, ms, rs, r, rfl, mdb.kq kb kbm, ok, hd, SqT.of hu', hf, rw', fun pp H1 p0 S1 ep => ?_⟩
      have hm1 := hm.kp (Same.kp S1)
      refine ⟨dh, _, rfl, DPut.t (k := triK (inst r.p.vars ths r.g)) hm1.he ep ?_, ?_⟩
      · unfold k3
        rw [List.length_map]
        exact Nat.lt_of_le_of_lt (show _ ≤ 1000 by omega) (by decide)
      rw [put3]
      refine k _ (Fq4.refl.same S1).u4 ?_
      show HmAt _ h lt ds da dh th (match fndR rs z with | some r => addT ts (inst r.p.vars ths r.g) | none => ts)
      rw [hf]
      exact hm1.puth
    | dr n wd y =>
      have hd : H t = some (.tup [.str "drop", .str n, .str wd, .str y]) := hd
      have ht : ∀ {H' : Hp}, Same H H' → SqT K H' t [.str "drop", .str n, .str wd, .str y] := fun S => SqT.of (S _ _ hd)
      have ht0 := ht (Same.refl H)
      obtain ⟨_, _, _, hmem, _⟩ := dueR_none (show dueR ws th ts n wd y = none from hdu)
      refine ⟨_, rfl, t, _, 0, _, rfl, rfl, ht0, atI_nat (j := 0) rfl, rfl, _, rfl, ?_⟩
      refine ite2 (fun z => absurd (V.str.inj (of_decide_eq_true z)) (by decide +kernel)) (fun _ => ?_)
      refine ⟨_, rfl, t, _, 0, _, rfl, rfl, ht0, atI_nat (j := 0) rfl, rfl, _, rfl, ?_⟩
      refine ite2 (fun z => absurd (V.str.inj (of_decide_eq_true z)) (by decide +kernel)) (fun _ => ?_)
      refine ⟨_, rfl, h, _, rfl, hm.gh, dh, rfl, .inr ⟨_, .inl hm.he⟩, _, rfl, t, _, 1, _, rfl, rfl, ht0, atI_nat (j := 1) rfl, _, rfl, t, _, 2, _, rfl, rfl, ht0, atI_nat (j := 2) rfl, _, rfl, t, _, 3, _, rfl, rfl, ht0, atI_nat (j := 3) rfl, by show 3 ≤ sizeLine; decide, fun t2 ht2 => ?_⟩
      have S1 : Same H (upd H t2 (.tup [.str n, .str wd, .str y])) := Same.upd ht2
      have hm1 := hm.kp (Same.kp S1)
      refine ⟨_, triK (n, wd, y), t2, .bl true, rfl, hm1.he, upd_same, val3 hmem, ?_⟩
      rw [drop3]
      exact k _ (Fq4.refl.same S1).u4 hm1.puth
    | no k' => cases hdu
end
end Wm
namespace Wm
open PySem L2 StX
theorem SchG.kq {H H' : Hp} (k : Kq H H') {S x : Addr} {ss ws : List Str} {as bs cs : List Addr} (h : SchG S H x ss ws as bs cs) : SchG S H' x ss ws as bs cs := by
  obtain ⟨dx, l1, l2, l3, l4, l5, h0, h1, h2, h3, h4, h5⟩ := h
  exact ⟨dx, l1, l2, l3, l4, l5, k.ins h0, k.lst ns_strs h1, k.lst ns_strs h2, k.lst ns_refs h3, k.lst ns_refs h4, k.lst ns_refs h5⟩
theorem MkAt.kq {K : PySem.W.Frag} {H H' : Hp} (k : Kq H H') {B a : Addr} {m : MkD} (h : MkAt K B H a m) : MkAt K B H' a m := by
  obtain ⟨d, t1, t2, h0, h1, h2⟩ := h
  exact ⟨d, t1, t2, k.ins h0, k.sqT h1, k.sqT h2⟩
theorem RlAt.kq {K : PySem.W.Frag} {H H' : Hp} (k : Kq H H') {B a : Addr} {r : RlD} (h : RlAt K B H a r) : RlAt K B H' a r := by
  obtain ⟨d, t1, t2, t3, ps, qs, x, y, z, u, v, w⟩ := h
  exact ⟨d, t1, t2, t3, ps, qs, k.ins x, k.sqT y, rows_imp (fun q => k.sqT q) z, k.sqT u, rows_imp (fun q => k.sqT q) v, k.sqT w⟩
theorem Kq.kp {H H' H2 : Hp} (a : Kq H H') (b : Kp H' H2) : Kq H H2 := fun q o n n1 n2 e => b q o n (a q o n n1 n2 e)
theorem Kq.new {H H' : Hp} {l : Addr} {o : HO} (a : Kq H H') (h : H l = none) : Kq H (upd H' l o) := fun q u n n1 n2 e => by
  rw [upd_ne (ne_of_none e h)]
  exact a q u n n1 n2 e
/-- what the law's loop leans on -/
structure WM (Hb H : Hp) (h lt ds da dh d1 d2 d3 m : Addr) (th : List Thing) (ts : List T3) : Prop where
  hm : HmAt H h lt ds da dh th ts
  e1 : H d1 = some (.dK (k1 th))
  e2 : H d2 = some (.dK (k2 th))
  e3 : H d3 = some (.dT (k3 ts))
  kq : Kq Hb H
  mm : ∀ o, Hb m = some o → H m = some o
/-- what stood when the house was made -/
structure Bs (K : PySem.W.Frag) (HC S MB RB : Addr) (Hb : Hp) (x dx sc d1 d2 d3 h lt ds da dh m : Addr) (as bs : List Addr) (ss ws : List Str) (ms : List MkD) (rs : List RlD) : Prop where
  hx : Hb x = some (.ins HC dx (hsF sc d1 d2 d3))
  hs : SchAt S Hb sc ss ws
  ne : d1 ≠ d2
  hg : SchG S Hb sc ss ws as bs []
  am : AllAt (MkAt K MB Hb) as ms
  ar : AllAt (RlAt K RB Hb) bs rs
  md : MdAt K Hb m ss ws ms rs
  ok : MdlOk ss ws ms rs
  lt0 : Hb lt = none
  ds0 : Hb ds = none
  da0 : Hb da = none
  dh0 : Hb dh = none
  h1 : h ≠ d1
  h2 : h ≠ d2
  ds1 : ds ≠ d1
  ds2 : ds ≠ d2
  da1 : da ≠ d1
  da2 : da ≠ d2
  dh3 : dh ≠ d3
  m1 : m ≠ d1
  m2 : m ≠ d2
  m3 : m ≠ d3
def Fo (p d1 d2 d3 lt ds da dh : Addr) (H H' : Hp) : Prop := ∀ q o, q ≠ p → q ≠ d1 → q ≠ d2 → q ≠ d3 → q ≠ lt → q ≠ ds → q ≠ da → q ≠ dh → H q = some o → H' q = some o
section
variable {K : PySem.W.Frag} {HC S MB RB : Addr} {Hb H H' H1 H2 : Hp} {p x dx sc d1 d2 d3 h lt ds da dh m : Addr} {as bs : List Addr} {ss ws : List Str} {ms : List MkD} {rs : List RlD} {th th' : List Thing} {ts us : List T3}
theorem Fo.refl : Fo p d1 d2 d3 lt ds da dh H H := fun _ _ _ _ _ _ _ _ _ _ e => e
theorem Fo.trans (f : Fo p d1 d2 d3 lt ds da dh H H1) (g : Fo p d1 d2 d3 lt ds da dh H1 H2) : Fo p d1 d2 d3 lt ds da dh H H2 := fun q o a b c d e f' g' i j => g q o a b c d e f' g' i (f q o a b c d e f' g' i j)
theorem Fo.but (b : But p H H') : Fo p d1 d2 d3 lt ds da dh H H' := fun q o n _ _ _ _ _ _ _ e => b q o n e
theorem Fo.same (s : Same H H') : Fo p d1 d2 d3 lt ds da dh H H' := fun q o _ _ _ _ _ _ _ _ e => s q o e
theorem Bs.mx (B : Bs K HC S MB RB Hb x dx sc d1 d2 d3 h lt ds da dh m as bs ss ws ms rs) : ∃ k, Hb m = some (.dK k) := by
  obtain ⟨l1, l2, l3, l4, as', bs', m0, _⟩ := B.md
  exact ⟨_, m0⟩
theorem Bs.nst (B : Bs K HC S MB RB Hb x dx sc d1 d2 d3 h lt ds da dh m as bs ss ws ms rs) : ∀ o, Hb m = some o → NotSt o := fun o e => by
  obtain ⟨k, m0⟩ := B.mx
  rw [m0] at e
  cases e
  exact ns_dK
theorem Bs.hsO (B : Bs K HC S MB RB Hb x dx sc d1 d2 d3 h lt ds da dh m as bs ss ws ms rs) (W : WM Hb H h lt ds da dh d1 d2 d3 m th ts) : HsAt HC S H x dx sc d1 d2 d3 ss ws th ts := ⟨W.kq.ins B.hx, B.hs.kq W.kq, W.e1, W.e2, W.e3, B.ne⟩
theorem Bs.mdO (B : Bs K HC S MB RB Hb x dx sc d1 d2 d3 h lt ds da dh m as bs ss ws ms rs) (W : WM Hb H h lt ds da dh d1 d2 d3 m th ts) : MdAt K H m ss ws ms rs := B.md.kq W.kq W.mm
theorem WM.kp (B : Bs K HC S MB RB Hb x dx sc d1 d2 d3 h lt ds da dh m as bs ss ws ms rs) (k : Kp H H') (w : WM Hb H h lt ds da dh d1 d2 d3 m th ts) : WM Hb H' h lt ds da dh d1 d2 d3 m th ts :=
  ⟨w.hm.kp k, k _ _ ns_dK w.e1, k _ _ ns_dK w.e2, k _ _ ns_dT w.e3, w.kq.kp k, fun o e => k _ _ (B.nst o e) (w.mm o e)⟩
/-- what stands in the house changes, then what the law keeps of it -/
theorem WM.held (B : Bs K HC S MB RB Hb x dx sc d1 d2 d3 h lt ds da dh m as bs ss ws ms rs) (s : But d3 H H1) (hh : HsAt HC S H1 x dx sc d1 d2 d3 ss ws th us) (w : WM Hb H h lt ds da dh d1 d2 d3 m th ts) :
    HmAt H1 h lt ds da dh th ts ∧ ∀ H2, Same H1 H2 → WM Hb (upd H2 dh (.dT (k3 us))) h lt ds da dh d1 d2 d3 m th us := by
  have U : ∀ {a : Addr} {u : HO}, (∀ k, u ≠ .dT k) → H a = some u → H1 a = some u := fun n e => s _ _ (ne_of e w.e3 (n _)) e
  have hm' : HmAt H1 h lt ds da dh th ts := ⟨U (fun _ z => by cases z) w.hm.hh, U (fun _ z => by cases z) w.hm.ht, U (fun _ z => by cases z) w.hm.hs, U (fun _ z => by cases z) w.hm.ha, s _ _ B.dh3 w.hm.he, w.hm.ne, w.hm.nhs, w.hm.nha⟩
  refine ⟨hm', fun H2 s2 => ?_⟩
  have hm2 := hm'.kp (Same.kp s2)
  have kq1 : Kq Hb H2 := fun q o n nk nt e => s2 _ _ (U nt (w.kq q o n nk nt e))
  have Vv : ∀ {a : Addr} {u : HO}, a ≠ dh → H2 a = some u → (upd H2 dh (.dT (k3 us))) a = some u := fun n e => (upd_ne n).trans e
  have nd : ∀ {a : Addr} {k : List (L2.Key × V)}, H2 a = some (.dK k) → a ≠ dh := fun e => ne_of e hm2.he (by intro z; cases z)
  obtain ⟨mk, m0⟩ := B.mx
  exact ⟨hm2.puth, Vv (nd (s2 _ _ hh.h1)) (s2 _ _ hh.h1), Vv (nd (s2 _ _ hh.h2)) (s2 _ _ hh.h2), Vv B.dh3.symm (s2 _ _ hh.h3), kq1.new B.dh0, fun o e => Vv (ne_of_none e B.dh0) (s2 _ _ (s _ _ B.m3 (w.mm o e)))⟩
/-- a thing wakes or sleeps -/
theorem WM.awake (B : Bs K HC S MB RB Hb x dx sc d1 d2 d3 h lt ds da dh m as bs ss ws ms rs) (s : But d2 H H1) (e1' : k1 th' = k1 th) (en : nmL th' = nmL th) (hh : HsAt HC S H1 x dx sc d1 d2 d3 ss ws th' ts) (w : WM Hb H h lt ds da dh d1 d2 d3 m th ts) :
    HmAt H1 h lt ds da dh th ts ∧ WM Hb (upd H1 da (.dK (k2 th'))) h lt ds da dh d1 d2 d3 m th' ts := by
  have U : ∀ {a : Addr} {u : HO}, (∀ k, u ≠ .dK k) → H a = some u → H1 a = some u := fun n e => s _ _ (ne_of e w.e2 (n _)) e
  have hm' : HmAt H1 h lt ds da dh th ts := ⟨s _ _ B.h2 w.hm.hh, U (fun _ z => by cases z) w.hm.ht, s _ _ B.ds2 w.hm.hs, s _ _ B.da2 w.hm.ha, U (fun _ z => by cases z) w.hm.he, w.hm.ne, w.hm.nhs, w.hm.nha⟩
  refine ⟨hm', ?_⟩
  have kq1 : Kq Hb H1 := fun q o n nk nt e => U nk (w.kq q o n nk nt e)
  have Vv : ∀ {a : Addr} {u : HO}, a ≠ da → H1 a = some u → (upd H1 da (.dK (k2 th'))) a = some u := fun n e => (upd_ne n).trans e
  refine ⟨⟨Vv hm'.nha hm'.hh, ?_, ?_, upd_same, Vv (ne_of hm'.he hm'.ha (by intro z; cases z)) hm'.he, hm'.ne, hm'.nhs, hm'.nha⟩, Vv B.da1.symm hh.h1, Vv B.da2.symm hh.h2, Vv (ne_of hh.h3 hm'.ha (by intro z; cases z)) hh.h3, kq1.new B.da0, fun o e => Vv (ne_of_none e B.da0) (s _ _ B.m2 (w.mm o e))⟩
  · rw [en]
    exact Vv (ne_of hm'.ht hm'.ha (by intro z; cases z)) hm'.ht
  · rw [e1']
    exact Vv hm'.ne hm'.hs
/-- a thing more -/
theorem WM.enter {n so : Str} (B : Bs K HC S MB RB Hb x dx sc d1 d2 d3 h lt ds da dh m as bs ss ws ms rs) (s : ∀ q o, q ≠ d1 → q ≠ d2 → H q = some o → H1 q = some o) (hh : HsAt HC S H1 x dx sc d1 d2 d3 ss ws (th ++ [(n, so, true)]) ts) (w : WM Hb H h lt ds da dh d1 d2 d3 m th ts) :
    HmAt H1 h lt ds da dh th ts ∧ WM Hb (upd (upd (upd H1 lt (.lst ((nmL (th ++ [(n, so, true)])).map V.str))) ds (.dK (k1 (th ++ [(n, so, true)])))) da (.dK (k2 (th ++ [(n, so, true)])))) h lt ds da dh d1 d2 d3 m (th ++ [(n, so, true)]) ts := by
  have U : ∀ {b : Addr} {u : HO}, (∀ k, u ≠ .dK k) → H b = some u → H1 b = some u := fun nn e => s _ _ (ne_of e w.e1 (nn _)) (ne_of e w.e2 (nn _)) e
  have hm1 : HmAt H1 h lt ds da dh th ts := ⟨s _ _ B.h1 B.h2 w.hm.hh, U (fun _ z => by cases z) w.hm.ht, s _ _ B.ds1 B.ds2 w.hm.hs, s _ _ B.da1 B.da2 w.hm.ha, U (fun _ z => by cases z) w.hm.he, w.hm.ne, w.hm.nhs, w.hm.nha⟩
  refine ⟨hm1, ?_⟩
  have M := hm1.more (n := n) (so := so) (b := true)
  have T : ∀ {b : Addr} {u : HO}, b ≠ lt → b ≠ ds → b ≠ da → H1 b = some u → (upd (upd (upd H1 lt (.lst ((nmL (th ++ [(n, so, true)])).map V.str))) ds (.dK (k1 (th ++ [(n, so, true)])))) da (.dK (k2 (th ++ [(n, so, true)])))) b = some u := fun n1 n2 n3 e => (upd_ne n3).trans ((upd_ne n2).trans ((upd_ne n1).trans e))
  have K1 : Kq Hb H1 := fun q o n nk nt e => U nk (w.kq q o n nk nt e)
  exact ⟨M, T (ne_of hh.h1 hm1.ht (by intro z; cases z)) B.ds1.symm B.da1.symm hh.h1, T (ne_of hh.h2 hm1.ht (by intro z; cases z)) B.ds2.symm B.da2.symm hh.h2, T (ne_of hh.h3 hm1.ht (by intro z; cases z)) (ne_of hh.h3 hm1.hs (by intro z; cases z)) (ne_of hh.h3 hm1.ha (by intro z; cases z)) hh.h3, ((K1.new B.lt0).new B.ds0).new B.da0, fun o e => T (ne_of_none e B.lt0) (ne_of_none e B.ds0) (ne_of_none e B.da0) (s _ _ B.m1 B.m2 (w.mm o e))⟩
end
def spHwk (HC S : Addr) (b : Bool) : Sp := fun vs H Q _ => ∃ (x dx sc d1 d2 d3 : Addr) (n : Str) (ss ws : List Str) (th : List Thing) (ts : List T3), vs = [.ref x, .str n] ∧ HsAt HC S H x dx sc d1 d2 d3 ss ws th ts ∧ n ∈ nmL th ∧ th.length ≤ 1000 ∧ ∀ H', But d2 H H' → HsAt HC S H' x dx sc d1 d2 d3 ss ws (setA th n b) ts → Q .non H'
structure ThOk (ss : List Str) (th : List Thing) (ts : List T3) : Prop where
  no : NmsOk th
  so : ∀ t ∈ th, t.2.1 ∈ ss
  ot : ∀ t ∈ ts, okT t
  pos : 1 ≤ th.length
def spOut (K : PySem.W.Frag) (HC S MB RB : Addr) : Sp := fun vs H Q _ => ∃ (Hb : Hp) (p x dx sc d1 d2 d3 h lt ds da dh m : Addr) (as bs : List Addr) (ss ws : List Str) (ms : List MkD) (rs : List RlD) (th : List Thing) (ts : List T3), vs = [.ref p, .ref m, .ref x, .ref h] ∧ Bs K HC S MB RB Hb x dx sc d1 d2 d3 h lt ds da dh m as bs ss ws ms rs ∧ StOk H p ∧ WM Hb H h lt ds da dh d1 d2 d3 m th ts ∧ ThOk ss th ts ∧ ts.length ≤ 600 ∧
  ∀ th' ts' H', WM Hb H' h lt ds da dh d1 d2 d3 m th' ts' → ThOk ss th' ts' → ts'.length ≤ ts.length + 1 → Fo p d1 d2 d3 lt ds da dh H H' → Q .non H'
section
variable {P : Program} {w : World} {K : PySem.W.Frag} {mg : Str → Option Value} {base : Heap}
theorem scHwa : FnScope ["self", "x"] ["self", "x"] (defScope sHwa) := ⟨rfl, rfl, rfl, by decide +kernel, rfl, by decide +kernel, by decide +kernel⟩
theorem scHsl : FnScope ["self", "x"] ["self", "x"] (defScope sHsl) := ⟨rfl, rfl, rfl, by decide +kernel, rfl, by decide +kernel, by decide +kernel⟩
theorem ok_hwake {f HC S fH fR : Addr} {fd dR : FuncData} (F : Fun K "wake" "House.wake" sHwa f fd) (TH : TxH K mg HC fH) (mR : Meth K HC "refuse_no_thing" fR) (bR : Binds K dR ["self", "name"] []) (GR : FnOk P w K mg base CX0 1 fR dR ["self", "name"] (spHrt HC S)) : FnOk P w K mg base CX0 2 f fd ["self", "x"] (spHwk HC S true) := by
  refine F.ok scHwa (fun vs H Q E h => ?_) (fun cdv A outer s H vs Q E hr h => ?_)
  · obtain ⟨x, dx, sc, d1, d2, d3, n, ss, ws, th, ts, rfl, _⟩ := h
    rfl
  · obtain ⟨x, dx, sc, d1, d2, d3, n, ss, ws, th, ts, rfl, hh, hn, hl, q⟩ := h
    refine ⟨_, (pss_cons (ps_expr (pe_meth (pv 0) TH.cl mR GR hr bR .nil pass0 (pa_cons (pv 1) pa_nil))) (pss_one (ps_dput (hu_of hr) (pe_fld (pv 0) rfl) (pv 1) pe_bl rfl))), ?_⟩
    refine ⟨_, rfl, x, dx, _, rfl, hh.hx, hsF_no (by decide +kernel) (by decide +kernel) (by decide +kernel) (by decide +kernel) _ _ _ _, _, rfl, x, dx, sc, d1, d2, d3, n, ss, ws, th, ts, rfl, hh, hn, ?_⟩
    refine ⟨_, rfl, x, HC, dx, _, _, rfl, hh.hx, TH.cl, TH.n2, hsF_2 _ _ _ _, _, rfl, d2, _, rfl, DPut.k (k := Sum.inr n) hh.h2 ?_, ?_⟩
    · unfold k2
      rw [List.length_map]
      exact Nat.lt_of_le_of_lt hl (by decide)
    · rw [setA_put true hn]
      refine q _ But.upd ⟨?_, hh.hs.but But.upd hh.h2 (fun _ _ _ z => by cases z) (fun _ z => by cases z), ?_, upd_same, ?_, hh.ne⟩
      · rw [upd_ne (ne_of hh.hx hh.h2 (by intro z; cases z))]
        exact hh.hx
      · rw [upd_ne hh.ne, setA_k1]
        exact hh.h1
      · rw [upd_ne (ne_of hh.h3 hh.h2 (by intro z; cases z))]
        exact hh.h3
theorem ok_hsleep {f HC S fH fR : Addr} {fd dR : FuncData} (F : Fun K "sleep" "House.sleep" sHsl f fd) (TH : TxH K mg HC fH) (mR : Meth K HC "refuse_no_thing" fR) (bR : Binds K dR ["self", "name"] []) (GR : FnOk P w K mg base CX0 1 fR dR ["self", "name"] (spHrt HC S)) : FnOk P w K mg base CX0 2 f fd ["self", "x"] (spHwk HC S false) := by
  refine F.ok scHsl (fun vs H Q E h => ?_) (fun cdv A outer s H vs Q E hr h => ?_)
  · obtain ⟨x, dx, sc, d1, d2, d3, n, ss, ws, th, ts, rfl, _⟩ := h
    rfl
  · obtain ⟨x, dx, sc, d1, d2, d3, n, ss, ws, th, ts, rfl, hh, hn, hl, q⟩ := h
    refine ⟨_, (pss_cons (ps_expr (pe_meth (pv 0) TH.cl mR GR hr bR .nil pass0 (pa_cons (pv 1) pa_nil))) (pss_one (ps_dput (hu_of hr) (pe_fld (pv 0) rfl) (pv 1) pe_bl rfl))), ?_⟩
    refine ⟨_, rfl, x, dx, _, rfl, hh.hx, hsF_no (by decide +kernel) (by decide +kernel) (by decide +kernel) (by decide +kernel) _ _ _ _, _, rfl, x, dx, sc, d1, d2, d3, n, ss, ws, th, ts, rfl, hh, hn, ?_⟩
    refine ⟨_, rfl, x, HC, dx, _, _, rfl, hh.hx, TH.cl, TH.n2, hsF_2 _ _ _ _, _, rfl, d2, _, rfl, DPut.k (k := Sum.inr n) hh.h2 ?_, ?_⟩
    · unfold k2
      rw [List.length_map]
      exact Nat.lt_of_le_of_lt hl (by decide)
    · rw [setA_put false hn]
      refine q _ But.upd ⟨?_, hh.hs.but But.upd hh.h2 (fun _ _ _ z => by cases z) (fun _ z => by cases z), ?_, upd_same, ?_, hh.ne⟩
      · rw [upd_ne (ne_of hh.hx hh.h2 (by intro z; cases z))]
        exact hh.hx
      · rw [upd_ne hh.ne, setA_k1]
        exact hh.h1
      · rw [upd_ne (ne_of hh.h3 hh.h2 (by intro z; cases z))]
        exact hh.h3
theorem scOut : FnScope ["_law_s", "_law_m", "_law_house_here", "_law_h", "_law_way", "_law_x", "_law_y", "_law_word", "_law_fresh", "_law_sort"] ["_law_s", "_law_m", "_law_house_here", "_law_h"] (defScope sOut) := ⟨rfl, rfl, rfl, by decide +kernel, rfl, by decide +kernel, by decide +kernel⟩
end
end Wm
namespace Wm
open PySem L2 StX
theorem ThOk.setA {ss : List Str} {th : List Thing} {ts : List T3} {n : Str} {b : Bool} (h : ThOk ss th ts) : ThOk ss (Wm.setA th n b) ts := by
  have l : (Wm.setA th n b).length = th.length := by unfold Wm.setA; rw [List.length_map]
  refine ⟨⟨fun z hz => ?_, by rw [l]; exact h.no.le⟩, fun t ht => ?_, h.ot, by rw [l]; exact h.pos⟩
  · rw [setA_nm] at hz
    exact h.no.ok z hz
  · unfold Wm.setA at ht
    obtain ⟨u, hu, rfl⟩ := List.mem_map.mp ht
    have q := h.so u hu
    split
    · exact q
    · exact q
section
variable {P : Program} {w : World} {K : PySem.W.Frag} {mg : Str → Option Value} {base : Heap}
theorem ok_out {f HC S MB RB c3 c4 c9 fH fG fN fEn fGi fTk fWa fSl : Addr} {fd dG dN dEn dGi dTk dWa dSl : FuncData} (F : Fun K "_law_outside" "_law_outside" sOut f fd) (T : TxB mg) (TH : TxH K mg HC fH) (DG : Dn K mg "_law_digit" sDigit ["_law_state_here", "_law_base"] fG dG) (DNa : Dn K mg "_law_name" sNam ["_law_s", "_law_taken"] fN dN) (GNa : FnOk P w K mg base CX0 2 fN dN ["_law_s", "_law_taken"] spNam)
    (mEn : Meth K HC "enter" fEn) (bEn : Binds K dEn ["self", "name", "sort", "awake"] [.bool true]) (GEn : FnOk P w K mg base CX0 3 fEn dEn ["self", "name", "sort", "awake"] (spHen HC S))
    (mGi : Meth K HC "give" fGi) (bGi : Binds K dGi ps4 []) (GGi : FnOk P w K mg base (L2N.CX P w) 6 fGi dGi ps4 (spGiv HC S c3 c4))
    (mTk : Meth K HC "take" fTk) (bTk : Binds K dTk ps4 []) (GTk : FnOk P w K mg base (L2N.CX P w) 6 fTk dTk ps4 (spTak HC S c3 c4 c9))
    (mWa : Meth K HC "wake" fWa) (bWa : Binds K dWa ["self", "x"] []) (GWa : FnOk P w K mg base CX0 2 fWa dWa ["self", "x"] (spHwk HC S true))
    (mSl : Meth K HC "sleep" fSl) (bSl : Binds K dSl ["self", "x"] []) (GSl : FnOk P w K mg base CX0 2 fSl dSl ["self", "x"] (spHwk HC S false)) :
    FnOk P w K mg base CX0 7 f fd ["_law_s", "_law_m", "_law_house_here", "_law_h"] (spOut K HC S MB RB) := by
  have GG : FnOk P w K mg base CX0 1 fG dG _ spDigit := ok_digit DG.F
  refine F.ok scOut (fun vs H Q E h => ?_) (fun cdv A outer s H vs Q E hr h => ?_)
  · obtain ⟨Hb, p, x, dx, sc, d1, d2, d3, h, lt, ds, da, dh, m, as, bs, ss, ws, ms, rs, th, ts, rfl, _⟩ := h
    rfl
  · obtain ⟨Hb, p, x, dx, sc, d1, d2, d3, h, lt, ds, da, dh, m, as, bs, ss, ws, ms, rs, th, ts, rfl, B, st, W, tk, t6, k⟩ := h
    have hu := hu_of hr
    have hr1 : Room 1 _ := hr.mono (by decide)
    have hr2 : Room 2 _ := hr.mono (by decide)
    have hr3 : Room 3 _ := hr.mono (by decide)
    have hr6 : Room 6 _ := hr
    have noM : ∀ {f : Str}, ¬ f = "standing" → ¬ f = "awake_by_name" → ¬ f = "sort_by_name" → ¬ f = "own_scheme" → (hsF sc d1 d2 d3).lookup f = none := fun a b c d => hsF_no a b c d _ _ _ _
    have w1 := B.ok.w1
    have w3 := B.ok.w3
    have s1 := B.ok.s1
    have s4 := B.ok.s4
    have pos := tk.pos
    have le60 := tk.no.le
    have nml : (nmL th).length = th.length := by unfold nmL; rw [List.length_map]
    have lenN : ((((nmL th).map V.str).length : Nat) : Int) = th.length := by rw [List.length_map, nml]
    refine ⟨_, (pss_cons (ps_set (i := 4) scOut.nd rfl (Or.inl rfl) (pe_call GG hr1 rfl DG.g DG.F.kp DG.b .nil pass0 (pa_cons (pv 0) (pa_cons pe_int pa_nil))))
      (pss_cons (ps_set (i := 5) scOut.nd rfl (Or.inl rfl) (pe_ix ix_list (pe_dget hu (pv 3) pe_str (fun _ _ => rfl)) (pe_call GG hr1 rfl DG.g DG.F.kp DG.b .nil pass0 (pa_cons (pv 0) (pa_cons (pe_callB call_len_seq (by rfl) T.len (by decide +kernel) (pa_cons (pe_dget hu (pv 3) pe_str (fun _ _ => rfl)) pa_nil)) pa_nil))) (fun _ _ => rfl)))
      (pss_cons (ps_set (i := 6) scOut.nd rfl (Or.inl rfl) (pe_ix ix_list (pe_dget hu (pv 3) pe_str (fun _ _ => rfl)) (pe_call GG hr1 rfl DG.g DG.F.kp DG.b .nil pass0 (pa_cons (pv 0) (pa_cons (pe_callB call_len_seq (by rfl) T.len (by decide +kernel) (pa_cons (pe_dget hu (pv 3) pe_str (fun _ _ => rfl)) pa_nil)) pa_nil))) (fun _ _ => rfl)))
      (pss_cons (ps_set (i := 7) scOut.nd rfl (Or.inl rfl) (pe_ix ix_list (pe_dget hu (pv 1) pe_str (fun _ _ => rfl)) (pe_call GG hr1 rfl DG.g DG.F.kp DG.b .nil pass0 (pa_cons (pv 0) (pa_cons (pe_callB call_len_seq (by rfl) T.len (by decide +kernel) (pa_cons (pe_dget hu (pv 1) pe_str (fun _ _ => rfl)) pa_nil)) pa_nil))) (fun _ _ => rfl)))
      (pss_cons (ps_set (i := 8) scOut.nd rfl (Or.inl rfl) (pe_call GNa hr2 rfl DNa.g DNa.F.kp DNa.b .nil pass0 (pa_cons (pv 0) (pa_cons (pe_dget hu (pv 3) pe_str (fun _ _ => rfl)) pa_nil))))
      (pss_cons (ps_if (PW.pt (pw_and (pt_cmpR op_eq (pv 4) pe_int (nomark _)) (pw_and1 (pt_cmpR op_lt (pe_callB call_len_seq (by rfl) T.len (by decide +kernel) (pa_cons (pe_dget hu (pv 3) pe_str (fun _ _ => rfl)) pa_nil)) pe_int (nomark _))))) (pss_cons (ps_set (i := 9) scOut.nd rfl (Or.inl rfl) (pe_ix ix_list (pe_dget hu (pv 1) pe_str (fun _ _ => rfl)) (pe_call GG hr1 rfl DG.g DG.F.kp DG.b .nil pass0 (pa_cons (pv 0) (pa_cons (pe_callB call_len_seq (by rfl) T.len (by decide +kernel) (pa_cons (pe_dget hu (pv 1) pe_str (fun _ _ => rfl)) pa_nil)) pa_nil))) (fun _ _ => rfl)))
      (pss_cons (ps_expr (pe_meth (dvs := [.bl true]) (pv 2) TH.cl mEn GEn hr3 bEn (.cons rfl .nil) pass0 (pa_cons (pv 8) (pa_cons (pv 9) pa_nil))))
      (pss_cons (ps_expr (pe_bm PySem.F.plainAttrs_list PySem.F.slot_list_append PySem.F.type_list_append mt_append (pe_dget hu (pv 3) pe_str (fun _ _ => rfl)) (pa_cons (pv 8) pa_nil)))
      (pss_cons (ps_dput hu (pe_dget hu (pv 3) pe_str (fun _ _ => rfl)) (pv 8) (pv 9) rfl)
      (pss_one (ps_dput hu (pe_dget hu (pv 3) pe_str (fun _ _ => rfl)) (pv 8) pe_bl rfl)))))) pss_nil)
      (pss_cons (ps_if (pt_cmpR op_eq (pv 4) pe_int (nomark _)) (pss_cons (ps_expr (pe_meth (E := E0) (pv 2) TH.cl mGi GGi hr6 bGi .nil (L2N.passes_call takesN0 (fun _ _ _ _ h => h)) (pa_cons (pv 5) (pa_cons (pv 7) (pa_cons (pv 6) pa_nil)))))
      (pss_one (ps_dput hu (pe_dget hu (pv 3) pe_str (fun _ _ => rfl)) (pe_tup (pa_cons (pv 5) (pa_cons (pv 7) (pa_cons (pv 6) pa_nil)))) pe_bl rfl))) pss_nil)
      (pss_cons (ps_if (PW.pt (pw_and (pt_cmpR op_eq (pv 4) pe_int (nomark _)) (pw_and1 (pt_cmp (pc_din hu (pe_tup (pa_cons (pv 5) (pa_cons (pv 7) (pa_cons (pv 6) pa_nil)))) (pe_dget hu (pv 3) pe_str (fun _ _ => rfl))))))) (pss_cons (ps_expr (pe_meth (E := E0) (pv 2) TH.cl mTk GTk hr6 bTk .nil (L2N.passes_call takesN0 (fun _ _ _ _ h => h)) (pa_cons (pv 5) (pa_cons (pv 7) (pa_cons (pv 6) pa_nil)))))
      (pss_one (ps_expr (pe_dpopT1 hu (pe_dget hu (pv 3) pe_str (fun _ _ => rfl)) (pe_tup (pa_cons (pv 5) (pa_cons (pv 7) (pa_cons (pv 6) pa_nil)))) ⟨rfl, rfl, rfl, rfl⟩)))) pss_nil)
      (pss_cons (ps_if (pt_cmpR op_eq (pv 4) pe_int (nomark _)) (pss_cons (ps_expr (pe_meth (pv 2) TH.cl mWa GWa hr2 bWa .nil pass0 (pa_cons (pv 5) pa_nil)))
      (pss_one (ps_dput hu (pe_dget hu (pv 3) pe_str (fun _ _ => rfl)) (pv 5) pe_bl rfl))) pss_nil)
      (pss_one (ps_if (pt_cmpR op_eq (pv 4) pe_int (nomark _)) (pss_cons (ps_expr (pe_meth (pv 2) TH.cl mSl GSl hr2 bSl .nil pass0 (pa_cons (pv 5) pa_nil)))
      (pss_one (ps_dput hu (pe_dget hu (pv 3) pe_str (fun _ _ => rfl)) (pv 5) pe_bl rfl))) pss_nil))))))))))), ?_⟩
    refine ⟨_, rfl, p, 5, rfl, st, by decide, by decide, fun wy H1 w0 w1' B1 st1 => ?_⟩
    dsimp only [gName, List.set_cons_succ, List.set_cons_zero]
    have W1 := W.kp B (B1.kp st)
    refine ⟨_, rfl, h, _, rfl, W1.hm.gt, _, rfl, _, rfl, h, _, rfl, W1.hm.gt, lt, _, rfl, .inl (SqL.of W1.hm.ht), p, _, rfl, st1, by rw [lenN]; omega, by rw [lenN]; omega, fun i2 H2 a2 b2 B2 st2 => ?_⟩
    obtain ⟨xx, hxx, ex⟩ := str_get a2 b2
    have W2 := W1.kp B (B2.kp st1)
    refine rdList W2.hm.ht (j := i2.toNat) (by omega) ex ?_
    dsimp only [gName, List.set_cons_succ, List.set_cons_zero]
    refine ⟨_, rfl, h, _, rfl, W2.hm.gt, _, rfl, _, rfl, h, _, rfl, W2.hm.gt, lt, _, rfl, .inl (SqL.of W2.hm.ht), p, _, rfl, st2, by rw [lenN]; omega, by rw [lenN]; omega, fun i3 H3 a3 b3 B3 st3 => ?_⟩
    obtain ⟨yy, hyy, ey⟩ := str_get a3 b3
    have W3 := W2.kp B (B3.kp st2)
    refine rdList W3.hm.ht (j := i3.toNat) (by omega) ey ?_
    dsimp only [gName, List.set_cons_succ, List.set_cons_zero]
    obtain ⟨l1, l2, l3, l4, as', bs', m0, m1, m2, _⟩ := B.mdO W3
    have gW : ∀ {H' : Hp}, H' m = some (.dK (md4 l1 l2 l3 l4)) → DGet H' m (.str "words") (some (.ref l2)) := fun e => md4_w l1 l2 l3 l4 ▸ DGet.k (k := kW) e
    have gS : ∀ {H' : Hp}, H' m = some (.dK (md4 l1 l2 l3 l4)) → DGet H' m (.str "sorts") (some (.ref l1)) := fun e => md4_s l1 l2 l3 l4 ▸ DGet.k (k := kS) e
    have wl : (((ws.map V.str).length : Nat) : Int) = ws.length := by rw [List.length_map]
    have sl : (((ss.map V.str).length : Nat) : Int) = ss.length := by rw [List.length_map]
    refine ⟨_, rfl, m, _, rfl, gW m0, _, rfl, _, rfl, m, _, rfl, gW m0, l2, _, rfl, .inl (SqL.of m2), p, _, rfl, st3, by rw [wl]; omega, by rw [wl]; omega, fun i4 H4 a4 b4 B4 st4 => ?_⟩
    obtain ⟨wd, hwd, ew⟩ := str_get a4 b4
    have k4 := B4.kp st3
    have W4 := W3.kp B k4
    refine rdList (k4 _ _ ns_strs m2) (j := i4.toNat) (by omega) ew ?_
    dsimp only [gName, List.set_cons_succ, List.set_cons_zero]
    have nlp : lt ≠ p := But.ne st4 W4.hm.ht ns_strs
    refine ⟨_, rfl, _, rfl, h, _, rfl, W4.hm.gt, p, lt, nmL th, rfl, st4, nlp, W4.hm.ht, by omega, fun fr H5 fnm f6 fnot B5 st5 => ?_⟩
    dsimp only [gName, List.set_cons_succ, List.set_cons_zero]
    have k5 := B5.kp st4
    have W5 := W4.kp B k5
    have m05 := (k4.trans k5) _ _ ns_dK m0
    have m15 := (k4.trans k5) _ _ ns_strs m1
    have B05 : But p H H5 := (((B1.trans B2).trans B3).trans B4).trans B5
    let Good : Nat → L2.St → Hp → Prop := fun c σ' H' => ∃ (u9 : Option V) (th' : List Thing) (ts' : List T3), σ' = [some (.ref p), some (.ref m), some (.ref x), some (.ref h), some (.int wy), some (.str xx), some (.str yy), some (.str wd), some (.str fr), u9] ∧ WM Hb H' h lt ds da dh d1 d2 d3 m th' ts' ∧ ThOk ss th' ts' ∧ (∀ n ∈ nmL th, n ∈ nmL th') ∧ Fo p d1 d2 d3 lt ds da dh H H' ∧ ts'.length ≤ ts.length + c
    refine cut1 (Good 0) ?_ (fun R' fin => ?_)
    · rintro σ' H6 ⟨u9, th', ts', rfl, W6, tk6, sub, F6, tl6⟩
      have xin := sub xx hxx
      have yin := sub yy hyy
      have hs6 := B.hsO W6
      refine cut1 (Good 1) ?_ (fun R' fin => ?_)
      · rintro σ' H6 ⟨u9, th', ts', rfl, W6, tk6, sub, F6, tl6⟩
        have xin := sub xx hxx
        have yin := sub yy hyy
        have hs6 := B.hsO W6
        refine cut1 (Good 1) ?_ (fun R' fin => ?_)
        · rintro σ' H6 ⟨u9, th', ts', rfl, W6, tk6, sub, F6, tl6⟩
          have xin := sub xx hxx
          have hs6 := B.hsO W6
          have wk : ∀ (b : Bool) {H7 : Hp}, But d2 H6 H7 → HsAt HC S H7 x dx sc d1 d2 d3 ss ws (setA th' xx b) ts' → HmAt H7 h lt ds da dh th' ts' ∧ WM Hb (upd H7 da (.dK (k2 (setA th' xx b)))) h lt ds da dh d1 d2 d3 m (setA th' xx b) ts' ∧ Fo p d1 d2 d3 lt ds da dh H (upd H7 da (.dK (k2 (setA th' xx b)))) := fun b {H7} b7 hh7 => by
            obtain ⟨hm7, W7⟩ := W6.awake B b7 (setA_k1 _ _ _) (setA_nm _ _ _) hh7
            exact ⟨hm7, W7, fun q o n1 n2 n3 n4 n5 n6 n7 n8 e => (upd_ne n7).trans (b7 _ _ n3 (F6 q o n1 n2 n3 n4 n5 n6 n7 n8 e))⟩
          have tl60 := tk6.no.le
          have kl2 : (k2 th').length < sizeLine := by
            unfold k2
            rw [List.length_map]
            exact Nat.lt_of_le_of_lt (show _ ≤ 1000 by omega) (by decide)
          refine cut1 (Good 1) ?_ (fun R' fin => ?_)
          · rintro σ' H6 ⟨u9, th', ts', rfl, W6, tk6, sub, F6, tl6⟩
            have xin := sub xx hxx
            have hs6 := B.hsO W6
            have tl60 := tk6.no.le
            have kl2 : (k2 th').length < sizeLine := by
              unfold k2
              rw [List.length_map]
              exact Nat.lt_of_le_of_lt (show _ ≤ 1000 by omega) (by decide)
            refine ⟨_, rfl, rfl, _, rfl, ite2 (fun _ => ?_) (fun _ => k th' ts' H6 W6 tk6 tl6 F6)⟩
            refine ⟨_, rfl, x, dx, _, rfl, hs6.hx, noM (by decide +kernel) (by decide +kernel) (by decide +kernel) (by decide +kernel), _, rfl, x, dx, sc, d1, d2, d3, xx, ss, ws, th', ts', rfl, hs6, xin, by omega, fun H7 b7 hh7 => ?_⟩
            obtain ⟨hm7, W7⟩ := W6.awake B b7 (setA_k1 _ _ _) (setA_nm _ _ _) hh7
            refine ⟨_, rfl, h, _, rfl, hm7.ga, _, rfl, da, _, rfl, DPut.k (k := Sum.inr xx) hm7.ha kl2, ?_⟩
            rw [setA_put false xin]
            exact k _ ts' _ W7 tk6.setA tl6 fun q o n1 n2 n3 n4 n5 n6 n7 n8 e => (upd_ne n7).trans (b7 _ _ n3 (F6 q o n1 n2 n3 n4 n5 n6 n7 n8 e))
          · refine ⟨_, rfl, rfl, _, rfl, ite2 (fun _ => ?_) (fun _ => fin _ _ ⟨u9, th', ts', rfl, W6, tk6, sub, F6, tl6⟩)⟩
            refine ⟨_, rfl, x, dx, _, rfl, hs6.hx, noM (by decide +kernel) (by decide +kernel) (by decide +kernel) (by decide +kernel), _, rfl, x, dx, sc, d1, d2, d3, xx, ss, ws, th', ts', rfl, hs6, xin, by omega, fun H7 b7 hh7 => ?_⟩
            obtain ⟨hm7, W7, F7⟩ := wk true b7 hh7
            refine ⟨_, rfl, h, _, rfl, hm7.ga, _, rfl, da, _, rfl, DPut.k (k := Sum.inr xx) hm7.ha kl2, ?_⟩
            rw [setA_put true xin]
            exact fin _ _ ⟨u9, _, ts', rfl, W7, tk6.setA, fun n hn => by rw [setA_nm]; exact sub n hn, F7, tl6⟩
        · have els : R' _ [some (.ref p), some (.ref m), some (.ref x), some (.ref h), some (.int wy), some (.str xx), some (.str yy), some (.str wd), some (.str fr), u9] H6 := fin _ _ ⟨u9, th', ts', rfl, W6, tk6, sub, F6, tl6⟩
          refine ⟨_, rfl, rfl, _, rfl, ite2 (fun _ => ?_) (fun _ => iteF els)⟩
          refine ⟨_, rfl, _, rfl, _, rfl, by show 3 ≤ sizeLine; decide, fun t1 ht1 => ?_⟩
          have S1 : Same H6 (upd H6 t1 (.tup [.str xx, .str wd, .str yy])) := Same.upd ht1
          have e1 : (upd H6 t1 (.tup [.str xx, .str wd, .str yy])) t1 = some (.tup ((triK (xx, wd, yy)).map kV)) := upd_same
          generalize upd H6 t1 (.tup [.str xx, .str wd, .str yy]) = H7 at S1 e1
          have W7 := W6.kp B (Same.kp S1)
          have F7 := F6.trans (Fo.same S1)
          refine ⟨_, rfl, h, _, rfl, W7.hm.gh, dh, _, rfl, DGet.t (k := triK (xx, wd, yy)) W7.hm.he e1, _, rfl, ?_⟩
          rw [is3]
          by_cases hmem : (xx, wd, yy) ∈ ts'
          case neg =>
            rw [decide_eq_false hmem]
            exact iteF (fin _ _ ⟨u9, th', ts', rfl, W7, tk6, sub, F7, tl6⟩)
          rw [decide_eq_true hmem]
          refine iteT ?_
          have hs7 := B.hsO W7
          refine ⟨_, rfl, x, dx, _, rfl, hs7.hx, noM (by decide +kernel) (by decide +kernel) (by decide +kernel) (by decide +kernel), _, rfl, _, rfl, _, rfl, x, dx, sc, d1, d2, d3, xx, wd, yy, ss, ws, th', ts', rfl, hs7, ?_⟩
          rw [unk_mem xin yin hwd]
          show if (xx, wd, yy) ∈ ts' then _ else _
          rw [if_pos hmem]
          intro H8 b8 hh8
          obtain ⟨hm8, P8⟩ := W7.held B b8 hh8
          refine ⟨_, rfl, h, _, rfl, hm8.gh, dh, rfl, .inr ⟨_, .inl hm8.he⟩, _, rfl, _, rfl, _, rfl, by show 3 ≤ sizeLine; decide, fun t2 ht2 => ?_⟩
          have S2 : Same H8 (upd H8 t2 (.tup [.str xx, .str wd, .str yy])) := Same.upd ht2
          refine ⟨_, triK (xx, wd, yy), t2, .bl true, rfl, S2 _ _ hm8.he, upd_same, val3 hmem, ?_⟩
          rw [drop3]
          have q := rem_len ts' (xx, wd, yy)
          exact fin _ _ ⟨u9, th', _, rfl, P8 _ S2, ⟨tk6.no, tk6.so, rem_ok tk6.ot, tk6.pos⟩, sub, fun q o n1 n2 n3 n4 n5 n6 n7 n8 e => (upd_ne n8).trans (S2 _ _ (b8 _ _ n4 (F7 q o n1 n2 n3 n4 n5 n6 n7 n8 e))), by omega⟩
      · refine ⟨_, rfl, rfl, _, rfl, ite2 (fun _ => ?_) (fun _ => fin _ _ ⟨u9, th', ts', rfl, W6, tk6, sub, F6, by omega⟩)⟩
        refine ⟨_, rfl, x, dx, _, rfl, hs6.hx, noM (by decide +kernel) (by decide +kernel) (by decide +kernel) (by decide +kernel), _, rfl, _, rfl, _, rfl, x, dx, sc, d1, d2, d3, xx, wd, yy, ss, ws, th', ts', rfl, hs6, by omega, ?_⟩
        rw [unk_mem xin yin hwd]
        intro H8 b8 hh8
        obtain ⟨hm8, P8⟩ := W6.held B b8 hh8
        refine ⟨_, rfl, h, _, rfl, hm8.gh, _, rfl, _, rfl, _, rfl, by show 3 ≤ sizeLine; decide, fun t2 ht2 => ?_⟩
        have S2 : Same H8 (upd H8 t2 (.tup [.str xx, .str wd, .str yy])) := Same.upd ht2
        refine ⟨dh, _, rfl, DPut.t (k := triK (xx, wd, yy)) (S2 _ _ hm8.he) upd_same ?_, ?_⟩
        · unfold k3
          rw [List.length_map]
          exact Nat.lt_of_le_of_lt (show _ ≤ 1000 by omega) (by decide)
        rw [put3]
        have q := add_len ts' (xx, wd, yy)
        exact fin _ _ ⟨u9, th', _, rfl, P8 _ S2, ⟨tk6.no, tk6.so, add_ok tk6.ot ⟨(tk.no.ok xx hxx).1, B.ok.wd.ok hwd, (tk.no.ok yy hyy).1⟩, tk6.pos⟩, sub, fun q o n1 n2 n3 n4 n5 n6 n7 n8 e => (upd_ne n8).trans (S2 _ _ (b8 _ _ n4 (F6 q o n1 n2 n3 n4 n5 n6 n7 n8 e))), by omega⟩
    · have els : R' _ [some (.ref p), some (.ref m), some (.ref x), some (.ref h), some (.int wy), some (.str xx), some (.str yy), some (.str wd), some (.str fr), none] H5 := fin _ _ ⟨none, th, ts, rfl, W5, tk, fun _ h => h, Fo.but B05, by omega⟩
      refine ⟨_, rfl, rfl, _, rfl, ite2 (fun _ => ?_) (fun _ => iteF els)⟩
      refine ⟨_, rfl, h, _, rfl, W5.hm.gt, lt, _, rfl, .inl (SqL.of W5.hm.ht), _, _, rfl, rfl, _, rfl, ?_⟩
      rw [lenN]
      refine ite2 (fun hc => ?_) (fun _ => els)
      have h60 : th.length < 60 := by
        have q := of_decide_eq_true hc
        omega
      refine ⟨_, rfl, m, _, rfl, gS m05, _, rfl, _, rfl, m, _, rfl, gS m05, l1, _, rfl, .inl (SqL.of m15), p, _, rfl, st5, by rw [sl]; omega, by rw [sl]; omega, fun i6 H6 a6 b6 B6 st6 => ?_⟩
      obtain ⟨so, hso, eso⟩ := str_get a6 b6
      have k6 := B6.kp st5
      have W6 := W5.kp B k6
      refine rdList (k6 _ _ ns_strs m15) (j := i6.toNat) (by omega) eso ?_
      dsimp only [gName, List.set_cons_succ, List.set_cons_zero]
      have hs6 := B.hsO W6
      have fis : isNm fr = true := nm_is fnm (by omega)
      refine ⟨_, rfl, x, dx, _, rfl, hs6.hx, noM (by decide +kernel) (by decide +kernel) (by decide +kernel) (by decide +kernel), _, rfl, _, rfl, x, dx, sc, d1, d2, d3, fr, so, true, ss, ws, th, ts, rfl, hs6, fis, by omega, fnot, hso, h60, fun H7 b7 hh7 => ?_⟩
      obtain ⟨hm7, W8⟩ := W6.enter B b7 hh7
      refine ⟨_, rfl, h, _, rfl, hm7.gt, .inl ⟨rfl, _, SqL.of hm7.ht⟩, _, rfl, lt, _, _, rfl, rfl, hm7.ht, ?_, ?_⟩
      · rw [List.length_map, nml]
        exact Nat.lt_of_le_of_lt (show _ ≤ 1000 by omega) (by decide)
      have eT : (nmL th).map V.str ++ [.str fr] = (nmL (th ++ [(fr, so, true)])).map V.str := by
        unfold nmL
        rw [List.map_append, List.map_append]
        rfl
      rw [eT]
      have n1 : ds ≠ lt := ne_of hm7.hs hm7.ht (by intro z; cases z)
      have n2 : da ≠ lt := ne_of hm7.ha hm7.ht (by intro z; cases z)
      have n3 : h ≠ lt := ne_of hm7.hh hm7.ht (by intro z; cases z)
      have kl : (k1 th).length < sizeLine := by
        unfold k1
        rw [List.length_map]
        exact Nat.lt_of_le_of_lt (show _ ≤ 1000 by omega) (by decide)
      have kl2 : (k2 th).length < sizeLine := by
        unfold k2
        rw [List.length_map]
        exact Nat.lt_of_le_of_lt (show _ ≤ 1000 by omega) (by decide)
      refine ⟨_, rfl, _, rfl, h, _, rfl, hmF_s lt ds da dh ▸ DGet.k (k := kS) ((upd_ne n3).trans hm7.hh), _, rfl, ds, _, rfl, DPut.k (k := Sum.inr fr) ((upd_ne n1).trans hm7.hs) kl, ?_⟩
      rw [new1 (b := true) fnot]
      refine ⟨_, rfl, h, _, rfl, hmF_a lt ds da dh ▸ DGet.k (k := kA) ((upd_ne hm7.nhs).trans ((upd_ne n3).trans hm7.hh)), _, rfl, da, _, rfl, DPut.k (k := Sum.inr fr) ((upd_ne hm7.ne.symm).trans ((upd_ne n2).trans hm7.ha)) kl2, ?_⟩
      rw [new2 (s := so) fnot]
      refine fin _ _ ⟨_, th ++ [(fr, so, true)], ts, rfl, W8, ⟨tk.no.more fis fnm.ok h60, fun t ht => ?_, tk.ot, ?_⟩, fun n hn => ?_, fun q o n1 n2 n3 n4 n5 n6 n7 n8 e => (upd_ne n7).trans ((upd_ne n6).trans ((upd_ne n5).trans (b7 _ _ n2 n3 (B6 _ _ n1 (B05 _ _ n1 e))))), by omega⟩
      · rcases List.mem_append.mp ht with q | q
        · exact tk.so t q
        · rw [List.mem_singleton.mp q]
          exact hso
      · rw [List.length_append]
        omega
      · unfold nmL
        rw [List.map_append]
        exact List.mem_append_left _ hn
end
end Wm
namespace Wm
open PySem L2 StX
def spCel (K : PySem.W.Frag) : Sp := fun vs H Q _ => ∃ (a : Addr) (ns : List Int) (j : Nat), vs = [.ref a, .int j] ∧ SqL K H a (ns.map V.int) ∧ ∀ i : Int, Q (.int i) H
theorem cut4 {a b c d R : TS} {D : Ends} {σ : L2.St} {H : Hp} (Good : L2.St → Hp → Prop) (fin : ∀ σ' H', Good σ' H' → R D σ' H') (h : ∀ R' : TS, (∀ σ' H', Good σ' H' → R' D σ' H') → tSeq a (tSeq b (tSeq c (tSeq d R'))) D σ H) : tSeq a (tSeq b (tSeq c (tSeq d R))) D σ H := h R fin
def tLB (K : PySem.W.Frag) (HC S MB RB : Addr) (cl : List Addr) (W : WX) : TS := tDrop (tCallS (spPly K HC S MB RB cl) (WE W) (tCons (tVar 4) (tCons (tVar 7) tNil)))
def tLS (e : List Addr) : Addr → Value → Option Addr → TS := fun a cls d => tAsg (tCallE (spTld e a cls d) (tCons (tVar 10) tNil)) (gName 9)
def spLaw (K : PySem.W.Frag) : Sp := fun vs H Q _ => ∃ (a : Addr) (ns : List Int), vs = [.ref a] ∧ SqL K H a (ns.map V.int) ∧ ns.length ≤ 63 ∧ ∀ H', Q (.bl true) H'
theorem mkDue_strs {ss ws : List Str} {ms : List MkD} {rs : List RlD} {th : List Thing} {n so z : Str} {r : Rf} (ok : MdlOk ss ws ms rs) (hss : ∀ t ∈ th, t.2.1 ∈ ss) (on : okS n) (os : okS so) (oz : okS z) (h : mkDue ss ms th n so z = some r) : r.ok ∧ ∀ z ∈ strsOf r, okS z := by
  have kk : ∀ i, i < 8 → okS (kdOf i) := by
    intro i hi
    have q : i = 0 ∨ i = 1 ∨ i = 2 ∨ i = 3 ∨ i = 4 ∨ i = 5 ∨ i = 6 ∨ i = 7 := by omega
    rcases q with rfl | rfl | rfl | rfl | rfl | rfl | rfl | rfl <;> (unfold okS; decide +kernel)
  have one : ∀ {i : Nat} {z : Str}, i < 8 → okS z → (Rf.one i z).ok ∧ ∀ y ∈ strsOf (Rf.one i z), okS y := fun {i z} hi oz => ⟨hi, fun y hy => by
    simp only [strsOf, List.mem_cons, List.not_mem_nil, or_false] at hy
    rcases hy with rfl | rfl
    · exact kk i hi
    · exact oz⟩
  have km : okS "nomaking" := by unfold okS; decide +kernel
  have kf : okS "full" := by unfold okS; decide +kernel
  unfold mkDue at h
  split at h
  · split at h
    · split at h
      · split at h
        · rename_i a ha
          split at h
          · unfold entD at h
            split at h
            · split at h
              · cases h
                exact one (by decide) oz
              · split at h
                · cases h
                · cases h
                  refine ⟨True.intro, fun y hy => ?_⟩
                  simp only [strsOf, List.mem_cons, List.not_mem_nil, or_false] at hy
                  rw [hy]
                  exact kf
            · cases h
              exact one (by decide) oz
          · cases h
            refine ⟨True.intro, fun y hy => ?_⟩
            simp only [strsOf, List.mem_cons, List.not_mem_nil, or_false] at hy
            rcases hy with rfl | rfl | rfl
            · exact km
            · exact ok.sd.ok (srt_in hss ha)
            · exact os
        · cases h
      · cases h
        exact one (by decide) on
    · cases h
      exact one (by decide) os
  · cases h
    exact one (by decide) on
theorem inst_ok {ws : List Str} {r : RlD} {ths : List Str} {c : Tri} (rw' : RlW r ths) (oy : ∀ y ∈ ths, okS y) (hc : c.1 ∈ r.p.vars.map (·.1) ∧ c.2.2 ∈ r.p.vars.map (·.1)) (hw : okS c.2.1) : okT (inst r.p.vars ths c) := ⟨oy _ (thg_at rw'.ln hc.1).2, hw, oy _ (thg_at rw'.ln hc.2).2⟩
theorem doDue_strs {ss ws : List Str} {ms : List MkD} {rs : List RlD} {th : List Thing} {ts : List T3} {z : Str} {ths : List Str} {rf : Rf} (ok : MdlOk ss ws ms rs) (oz : okS z) (oy : ∀ y ∈ ths, okS y) (h : doDue rs th ts z ths = some rf) : rf.ok ∧ ∀ z ∈ strsOf rf, okS z := by
  have kk : ∀ i, i < 8 → okS (kdOf i) := by
    intro i hi
    have q : i = 0 ∨ i = 1 ∨ i = 2 ∨ i = 3 ∨ i = 4 ∨ i = 5 ∨ i = 6 ∨ i = 7 := by omega
    rcases q with rfl | rfl | rfl | rfl | rfl | rfl | rfl | rfl <;> (unfold okS; decide +kernel)
  have one : ∀ {i : Nat} {z : Str}, i < 8 → okS z → (Rf.one i z).ok ∧ ∀ y ∈ strsOf (Rf.one i z), okS y := fun {i z} hi oz => ⟨hi, fun y hy => by
    simp only [strsOf, List.mem_cons, List.not_mem_nil, or_false] at hy
    rcases hy with rfl | rfl
    · exact kk i hi
    · exact oz⟩
  have kh : okS "notheld" := by unfold okS; decide +kernel
  unfold doDue at h
  cases hf : fndR rs z with
  | none =>
    rw [hf] at h
    cases h
    exact one (by decide) oz
  | some r =>
    rw [hf] at h
    obtain ⟨rin, _⟩ := fnd_in hf
    have rk := ok.rls rin
    cases hn : ths.find? (fun x => decide (x ∉ nmL th)) with
    | some x =>
      have h : (match ths.find? (fun x => decide (x ∉ nmL th)) with | some x => some (Rf.one 3 x) | none => _) = some rf := h
      rw [hn] at h
      cases h
      exact one (by decide) (oy x (List.mem_of_find?_eq_some hn))
    | none =>
      have h : (match ths.find? (fun x => decide (x ∉ nmL th)) with | some x => some (Rf.one 3 x) | none => _) = some rf := h
      rw [hn] at h
      have h : (if fitB th r.p.vars ths = true then _ else some (Rf.one 7 z)) = some rf := h
      by_cases hfit : fitB th r.p.vars ths = true
      case neg =>
        rw [if_neg hfit] at h
        cases h
        exact one (by decide) oz
      rw [if_pos hfit] at h
      have hlen : ths.length = r.p.vars.length := by
        unfold fitB at hfit
        simp at hfit
        exact hfit.1
      have rw' : RlW r ths := rk.w hlen
      by_cases ha : awk th (thg r.p.vars ths r.bh) = some true
      case neg =>
        rw [if_neg ha] at h
        cases h
        exact one (by decide) (oy _ (thg_at rw'.ln rw'.bn).2)
      rw [if_pos ha] at h
      cases ht : (r.p.cs.map (inst r.p.vars ths)).find? (fun t => decide (t ∉ ts)) with
      | none =>
        rw [ht] at h
        cases h
      | some t =>
        rw [ht] at h
        cases h
        obtain ⟨c, hc, rfl⟩ := List.mem_map.mp (List.mem_of_find?_eq_some ht)
        have o := inst_ok (ws := ws) rw' oy (rk.en c hc) (ok.wd.ok (rk.cw c hc))
        refine ⟨True.intro, fun y hy => ?_⟩
        simp only [strsOf, List.mem_cons, List.not_mem_nil, or_false] at hy
        rcases hy with rfl | rfl | rfl | rfl
        · exact kh
        · exact o.1
        · exact o.2.1
        · exact o.2.2
theorem dd_strs {ss ws : List Str} {ms : List MkD} {rs : List RlD} {th : List Thing} {ts : List T3} {d : Dd} {rf : Rf} (ok : MdlOk ss ws ms rs) (hss : ∀ t ∈ th, t.2.1 ∈ ss) (od : DdOk d) (h : ddDue ss ws ms rs th ts d = some rf) : rf.ok ∧ ∀ z ∈ strsOf rf, okS z := by
  cases d with
  | mk n so z => exact mkDue_strs ok hss od.1 od.2.1 od.2.2.1 h
  | act z ths => exact doDue_strs ok od.1 od.2 h
  | dr n wd y => exact dueR_strs od.1 od.2.1 od.2.2 h
  | no k =>
    cases h
    refine ⟨True.intro, fun y hy => ?_⟩
    simp only [strsOf, List.mem_cons, List.not_mem_nil, or_false] at hy
    rcases hy with rfl | rfl
    · unfold okS
      decide +kernel
    · exact od
theorem share {C E : Hp → Prop} {G : Prop} (h : (∀ H, C H → E H) → G) (e : ∀ H, C H → E H) : G := h e
theorem fold_ok : ∀ (us vs : List T3), (∀ t ∈ vs, okT t) → (∀ t ∈ us, okT t) → ∀ t ∈ us.foldl addT vs, okT t
  | [], _, h, _ => h
  | u :: r, vs, h, h2 => fold_ok r (addT vs u) (add_ok h (h2 u List.mem_cons_self)) fun t ht => h2 t (List.mem_cons_of_mem _ ht)
theorem dd_ok {ss ws : List Str} {ms : List MkD} {rs : List RlD} {th : List Thing} {ts : List T3} {d : Dd} (ok : MdlOk ss ws ms rs) (tk : ThOk ss th ts) (od : DdOk d) (h : ddDue ss ws ms rs th ts d = none) : ThOk ss (ddTh th d) (ddTs ms rs th ts d) ∧ (ddTs ms rs th ts d).length ≤ ts.length + 6 := by
  cases d with
  | mk n so z =>
    obtain ⟨hn, hs, a, mk, ha, hf, hz1, hz2, hz3⟩ := mkDue_none (ws := ws) (show mkDue ss ms th n so z = none from h)
    have e : ddTs ms rs th ts (.mk n so z) = (mkT mk n z).foldl addT ts := by
      show (match srt th n with | some a => (match fndM ms a so with | some m => (mkT m n z).foldl addT ts | none => ts) | none => ts) = _
      rw [ha]
      show (match fndM ms a so with | some m => (mkT m n z).foldl addT ts | none => ts) = _
      rw [hf]
    rw [e]
    obtain ⟨sd, su⟩ := ok.mi.sb mk (fnd_mem hf).1
    have w3 := ok.w3
    have dl := sd.length_le
    have ul := su.length_le
    have fl := fold_len (mkT mk n z) ts
    have ml : (mkT mk n z).length ≤ 6 := by
      unfold mkT
      rw [List.length_append, List.length_map, List.length_map]
      omega
    have okm : ∀ t ∈ mkT mk n z, okT t := fun t ht => by
      unfold mkT at ht
      rcases List.mem_append.mp ht with q | q
      · obtain ⟨wd, hw, rfl⟩ := List.mem_map.mp q
        exact ⟨od.1, ok.wd.ok (sd.subset hw), od.2.2.1⟩
      · obtain ⟨wd, hw, rfl⟩ := List.mem_map.mp q
        exact ⟨od.2.2.1, ok.wd.ok (su.subset hw), od.1⟩
    refine ⟨⟨tk.no.more hz1 od.2.2.1 hz3, fun t ht => ?_, fold_ok _ _ tk.ot okm, ?_⟩, by omega⟩
    · rcases List.mem_append.mp (show t ∈ th ++ [(z, so, true)] from ht) with q | q
      · exact tk.so t q
      · rw [List.mem_singleton.mp q]
        exact hs
    · show 1 ≤ (th ++ [(z, so, true)]).length
      rw [List.length_append, List.length_singleton]
      omega
  | act z ths =>
    obtain ⟨r, hf, hlen, hin⟩ := doDue_fit (show doDue rs th ts z ths = none from h)
    have rk := ok.rls (fnd_in hf).1
    have rw' : RlW r ths := rk.w hlen
    have e : ddTs ms rs th ts (.act z ths) = addT ts (inst r.p.vars ths r.g) := by
      show (match fndR rs z with | some r => addT ts (inst r.p.vars ths r.g) | none => ts) = _
      rw [hf]
    rw [e]
    have q := add_len ts (inst r.p.vars ths r.g)
    exact ⟨⟨tk.no, tk.so, add_ok tk.ot (inst_ok (ws := ws) rw' od.2 rk.gn (ok.wd.ok rk.gw)), tk.pos⟩, by omega⟩
  | dr n wd y =>
    have q := rem_len ts (n, wd, y)
    exact ⟨⟨tk.no, tk.so, rem_ok tk.ot, tk.pos⟩, by show (remT ts (n, wd, y)).length ≤ _; omega⟩
  | no k => cases h
section
variable {K : PySem.W.Frag} {HC S MB RB : Addr} {Hb H H1 : Hp} {x dx sc d1 d2 d3 h lt ds da dh m : Addr} {as bs : List Addr} {ss ws : List Str} {ms : List MkD} {rs : List RlD} {th th' : List Thing} {ts ts' : List T3}
theorem WM.play (B : Bs K HC S MB RB Hb x dx sc d1 d2 d3 h lt ds da dh m as bs ss ws ms rs) (w : WM Hb H h lt ds da dh d1 d2 d3 m th ts) (f : Fr3 d1 d2 d3 H H1) (hh : HsAt HC S H1 x dx sc d1 d2 d3 ss ws th' ts') :
    HmAt H1 h lt ds da dh th ts ∧ Kq Hb H1 ∧ (∀ o, Hb m = some o → H1 m = some o) ∧ ∀ H2, Fq4 lt ds da dh H1 H2 → HmAt H2 h lt ds da dh th' ts' → WM Hb H2 h lt ds da dh d1 d2 d3 m th' ts' := by
  have U : ∀ {b : Addr} {u : HO}, (∀ k, u ≠ .dK k) → (∀ k, u ≠ .dT k) → H b = some u → H1 b = some u := fun nk nt e => f _ _ (ne_of e w.e1 (nk _)) (ne_of e w.e2 (nk _)) (ne_of e w.e3 (nt _)) e
  have hm1 : HmAt H1 h lt ds da dh th ts := ⟨f _ _ B.h1 B.h2 (ne_of w.hm.hh w.e3 (by intro z; cases z)) w.hm.hh, U (fun _ z => by cases z) (fun _ z => by cases z) w.hm.ht, f _ _ B.ds1 B.ds2 (ne_of w.hm.hs w.e3 (by intro z; cases z)) w.hm.hs, f _ _ B.da1 B.da2 (ne_of w.hm.ha w.e3 (by intro z; cases z)) w.hm.ha, f _ _ (ne_of w.hm.he w.e1 (by intro z; cases z)) (ne_of w.hm.he w.e2 (by intro z; cases z)) B.dh3 w.hm.he, w.hm.ne, w.hm.nhs, w.hm.nha⟩
  have kq1 : Kq Hb H1 := fun q o n nk nt e => U nk nt (w.kq q o n nk nt e)
  have mm1 : ∀ o, Hb m = some o → H1 m = some o := fun o e => f _ _ B.m1 B.m2 B.m3 (w.mm o e)
  refine ⟨hm1, kq1, mm1, fun H2 F hm2 => ?_⟩
  have kq2 : Kq Hb H2 := fun q o n nk nt e => F _ _ (ne_of_none e B.lt0) (ne_of_none e B.ds0) (ne_of_none e B.da0) (ne_of_none e B.dh0) (kq1 q o n nk nt e)
  exact ⟨hm2, F _ _ (ne_of hh.h1 hm1.ht (by intro z; cases z)) B.ds1.symm B.da1.symm (ne_of hh.h1 hm1.he (by intro z; cases z)) hh.h1, F _ _ (ne_of hh.h2 hm1.ht (by intro z; cases z)) B.ds2.symm B.da2.symm (ne_of hh.h2 hm1.he (by intro z; cases z)) hh.h2, F _ _ (ne_of hh.h3 hm1.ht (by intro z; cases z)) (ne_of hh.h3 hm1.hs (by intro z; cases z)) (ne_of hh.h3 hm1.ha (by intro z; cases z)) B.dh3.symm hh.h3, kq2, fun o e => F _ _ (ne_of_none e B.lt0) (ne_of_none e B.ds0) (ne_of_none e B.da0) (ne_of_none e B.dh0) (mm1 o e)⟩
end
section
variable {P : Program} {w : World} {K : PySem.W.Frag} {mg : Str → Option Value} {base : Heap}
theorem scCel : FnScope ["_law_script", "_law_k"] ["_law_script", "_law_k"] (defScope sCel) := ⟨rfl, rfl, rfl, by decide +kernel, rfl, by decide +kernel, by decide +kernel⟩
theorem ok_cel {f : Addr} {fd : FuncData} (F : Fun K "_law_cell_at" "_law_cell_at" sCel f fd) (T : TxB mg) : FnOk P w K mg base CX0 1 f fd ["_law_script", "_law_k"] (spCel K) := by
  refine F.ok scCel (fun vs H Q E h => ?_) (fun cdv A outer s H vs Q E hr h => ?_)
  · obtain ⟨a, ns, j, rfl, _⟩ := h
    rfl
  · obtain ⟨a, ns, j, rfl, hS, k⟩ := h
    refine ⟨_, (pss_cons (ps_if (pt_cmpR op_lt (pv 1) (pe_callB call_len_seq (by rfl) T.len (by decide +kernel) (pa_cons (pv 0) pa_nil)) (nomark _)) (pss_one (ps_ret (pe_ix ix_list (pv 0) (pv 1) (fun _ _ => rfl)))) pss_nil)
      (pss_one (ps_ret pe_int))), ?_⟩
    refine ⟨_, rfl, _, rfl, a, _, rfl, .inl hS, _, _, rfl, rfl, _, rfl, ite2 (fun h => ?_) (fun h => ?_)⟩
    · have h1 := of_decide_eq_true h
      rw [List.length_map] at h1
      have hj : j < ns.length := by omega
      refine ⟨_, rfl, _, rfl, a, _, _, .int ns[j], rfl, rfl, hS, atI_nat (j := j) ?_, k _⟩
      rw [List.getElem?_map, List.getElem?_eq_getElem hj]
      rfl
    · exact k 0
theorem scLaw : FnScope ["_law_script", "_law_s", "_law_outside_here", "_law_m", "_law_house_here", "_law_h", "_law_k", "_law_deed_here", "_law_due_here", "_law_found", "_law_e"] ["_law_script"] (defScope sLaw) := ⟨rfl, rfl, rfl, by decide +kernel, rfl, by decide +kernel, by decide +kernel⟩
theorem ok_law {f fC fS fG fMd fSc fBg fDe fDu fTl fRg fPl fPm fOu HC S MB RB BB C0 C1 C2 C3 C4 C5 C6 C7 C8 C9 C10 C11 W fHi : Addr} {fd dC dS dG dMd dSc dBg dDe dDu dTl dRg dPl dPm dOu dHi : FuncData} (F : Fun K "law" "law" sLaw f fd) (T : TxB mg) (TE : TxE K mg C0 C1 C2 C3 C4 C5 C6 C7 C8 C9 C10 C11 W) (TH : TxH K mg HC fHi)
    (DC : Dn K mg "_law_cell_at" sCel ["_law_script", "_law_k"] fC dC) (DS : Dn K mg "_law_state" sState ["_law_cell"] fS dS) (DG : Dn K mg "_law_digit" sDigit ["_law_state_here", "_law_base"] fG dG)
    (DMd : Dn K mg "_law_model" sMdl ["_law_s", "_law_rules", "_law_most"] fMd dMd) (GMd : FnOk P w K mg base CX0 4 fMd dMd ["_law_s", "_law_rules", "_law_most"] (spMdl K))
    (DSc : Dn K mg "_law_scheme" sSce ["_law_m"] fSc dSc) (GSc : FnOk P w K mg base CX0 8 fSc dSc ["_law_m"] (spSce K S MB RB BB))
    (DBg : Dn K mg "_law_begun" sBeg ["_law_s", "_law_m", "_law_house_here", "_law_many"] fBg dBg) (GBg : FnOk P w K mg base CX0 7 fBg dBg ["_law_s", "_law_m", "_law_house_here", "_law_many"] (spBeg K HC S))
    (DOu : Dn K mg "_law_outside" sOut ["_law_s", "_law_m", "_law_house_here", "_law_h"] fOu dOu) (GOu : FnOk P w K mg base CX0 7 fOu dOu ["_law_s", "_law_m", "_law_house_here", "_law_h"] (spOut K HC S MB RB))
    (DDe : Dn K mg "_law_deed" sDed ["_law_s", "_law_h", "_law_m"] fDe dDe) (GDe : FnOk P w K mg base CX0 4 fDe dDe ["_law_s", "_law_h", "_law_m"] (spDed K))
    (DDu : Dn K mg "_law_due" sAll ["_law_h", "_law_m", "_law_deed_here"] fDu dDu) (GDu : FnOk P w K mg base CX0 3 fDu dDu ["_law_h", "_law_m", "_law_deed_here"] (spAll K))
    (DTl : Dn K mg "_law_told" sTld ["_law_e"] fTl dTl) (GTl : FnEN P w K mg base 1 fTl dTl ["_law_e"] (spTld [C0, C1, C2, C3, C4, C5, C6, C7, C8, C9, C10, C11]))
    (DRg : Dn K mg "_law_right" sRgt ["_law_house_here", "_law_h"] fRg dRg) (GRg : FnOk P w K mg base CX0 3 fRg dRg ["_law_house_here", "_law_h"] (spRgt HC S))
    (DPm : Dn K mg "_law_play" sPlm ["_law_h", "_law_m", "_law_deed_here"] fPm dPm) (GPm : FnOk P w K mg base CX0 2 fPm dPm ["_law_h", "_law_m", "_law_deed_here"] (spLPl K))
    (DPl : Dn K mg "play" sPly ["house", "deed"] fPl dPl) (GPl : FnOk P w K mg base (L2N.CX P w) 9 fPl dPl ["house", "deed"] (spPly K HC S MB RB [C0, C1, C2, C3, C4, C5, C6, C7, C8, C9, C10, C11]))
    (bHi : Binds K dHi ["self", "scheme"] []) (GHi : FnOk P w K mg base CX0 1 fHi dHi ["self", "scheme"] (spHin HC)) :
    FnOk P w K mg base CX0 10 f fd ["_law_script"] (spLaw K) := by
  have GC : FnOk P w K mg base CX0 1 fC dC _ (spCel K) := ok_cel DC.F T
  have GS : FnOk P w K mg base CX0 1 fS dS _ spState := ok_state DS.F T
  have GG : FnOk P w K mg base CX0 1 fG dG _ spDigit := ok_digit DG.F
  refine F.ok scLaw (fun vs H Q E h => ?_) (fun cdv A outer s H vs Q E hr h => ?_)
  · obtain ⟨a, ns, rfl, _⟩ := h
    rfl
  · obtain ⟨a, ns, rfl, hA, hlen, kk⟩ := h
    have hr1 : Room 1 _ := hr.mono (by decide)
    have hr2 : Room 2 _ := hr.mono (by decide)
    have hr3 : Room 3 _ := hr.mono (by decide)
    have hr4 : Room 4 _ := hr.mono (by decide)
    have hr7 : Room 7 _ := hr.mono (by decide)
    have hr8 : Room 8 _ := hr.mono (by decide)
    have hr9 : Room 9 _ := hr
    have hu := hu_of hr
    refine ⟨_, (pss_cons (ps_set (i := 1) scLaw.nd rfl (Or.inl rfl) (pe_call GS hr1 rfl DS.g DS.F.kp DS.b .nil pass0 (pa_cons (pe_call GC hr1 rfl DC.g DC.F.kp DC.b .nil pass0 (pa_cons (pv 0) (pa_cons pe_int pa_nil))) pa_nil)))
      (pss_cons (ps_set (i := 2) scLaw.nd rfl (Or.inl rfl) (pe_cmpR op_eq (pe_call GG hr1 rfl DG.g DG.F.kp DG.b .nil pass0 (pa_cons (pv 1) (pa_cons pe_int pa_nil))) pe_int (nomark _)))
      (pss_cons (ps_set (i := 3) scLaw.nd rfl (Or.inl rfl) (pe_call GMd hr4 rfl DMd.g DMd.F.kp DMd.b .nil pass0 (pa_cons (pv 1) (pa_cons pe_int (pa_cons pe_int pa_nil)))))
      (pss_cons (ps_set (i := 4) scLaw.nd rfl (Or.inl rfl) (pe_make TH.m GHi hr2 rfl TH.g bHi .nil pass0 (pa_cons (pe_call GSc hr8 rfl DSc.g DSc.F.kp DSc.b .nil pass0 (pa_cons (pv 3) pa_nil)) pa_nil)))
      (pss_cons (ps_set (i := 5) scLaw.nd rfl (Or.inl rfl) (pe_call GBg hr7 rfl DBg.g DBg.F.kp DBg.b .nil pass0 (pa_cons (pv 1) (pa_cons (pv 3) (pa_cons (pv 4) (pa_cons (pe_op op_add pe_int (pe_call GG hr1 rfl DG.g DG.F.kp DG.b .nil pass0 (pa_cons (pv 1) (pa_cons pe_int pa_nil)))) pa_nil))))))
      (pss_cons (ps_for PassesOwn.never rfl (pi_range2 rfl T.range (pa_cons pe_int (pa_cons (pe_callB call_len_seq (by rfl) T.len (by decide +kernel) (pa_cons (pv 0) pa_nil)) pa_nil))) (pg_name (i := 6) scLaw.nd rfl (Or.inl rfl)) (pss_cons (ps_set (i := 1) scLaw.nd rfl (Or.inl rfl) (pe_call GS hr1 rfl DS.g DS.F.kp DS.b .nil pass0 (pa_cons (pe_ix ix_list (pv 0) (pv 6) (fun _ _ => rfl)) pa_nil)))
      (pss_cons (ps_if (PW.pt (pw_and (pt_val (pv 2)) (pw_and1 (pt_cmpR op_eq (pe_call GG hr1 rfl DG.g DG.F.kp DG.b .nil pass0 (pa_cons (pv 1) (pa_cons pe_int pa_nil))) pe_int (nomark _))))) (pss_one (ps_expr (pe_call GOu hr7 rfl DOu.g DOu.F.kp DOu.b .nil pass0 (pa_cons (pv 1) (pa_cons (pv 3) (pa_cons (pv 4) (pa_cons (pv 5) pa_nil))))))) (pss_cons (ps_set (i := 7) scLaw.nd rfl (Or.inl rfl) (pe_call GDe hr4 rfl DDe.g DDe.F.kp DDe.b .nil pass0 (pa_cons (pv 1) (pa_cons (pv 5) (pa_cons (pv 3) pa_nil)))))
      (pss_cons (ps_set (i := 8) scLaw.nd rfl (Or.inl rfl) (pe_call GDu hr3 rfl DDu.g DDu.F.kp DDu.b .nil pass0 (pa_cons (pv 5) (pa_cons (pv 3) (pa_cons (pv 7) pa_nil)))))
      (pss_cons (ps_set (i := 9) scLaw.nd rfl (Or.inl rfl) pe_non)
      (pss_cons (L2N.ps_try_as (i := 10) (tb := tLB K HC S MB RB [C0, C1, C2, C3, C4, C5, C6, C7, C8, C9, C10, C11]) (ts := tLS [C0, C1, C2, C3, C4, C5, C6, C7, C8, C9, C10, C11]) (Wout := fun _ _ _ _ => False) rfl rfl scLaw.nd rfl rfl ⟨rfl, by decide, Or.inl TE.gW⟩ takesN0 (fun W_ pn xe tk _ => (pss_one (ps_expr (pe_callS GPl hr9 rfl DPl.g DPl.F.kp DPl.b (fun σ => L2N.passAt tk σ) (pa_cons (pv 4) (pa_cons (pv 7) pa_nil)))))) (fun a oe cls d pn hz hf => (pss_one (ps_set (i := 9) scLaw.nd rfl (Or.inl rfl) (by exact (pe_callEN GTl (L2H.roomH_of hr1) hz hf rfl DTl.g DTl.F.kp DTl.b (pa_cons (pv 10) pa_nil)))))))
      (pss_cons (ps_if (pt_cmp (pc_isN (pv 8))) (pss_one (ps_expr (pe_call GPm hr2 rfl DPm.g DPm.F.kp DPm.b .nil pass0 (pa_cons (pv 5) (pa_cons (pv 3) (pa_cons (pv 7) pa_nil)))))) pss_nil)
      (pss_one (ps_if (pt_cmpR (op_neD hr.units) (pv 9) (pv 8) (nomark _)) (pss_one (ps_ret pe_bl)) pss_nil))))))))
      (pss_one (ps_if (pt_not (pt_val (pe_call GRg hr3 rfl DRg.g DRg.F.kp DRg.b .nil pass0 (pa_cons (pv 4) (pa_cons (pv 5) pa_nil))))) (pss_one (ps_ret pe_bl)) pss_nil)))))
      (pss_one (ps_ret (pe_call GRg hr3 rfl DRg.g DRg.F.kp DRg.b .nil pass0 (pa_cons (pv 4) (pa_cons (pv 5) pa_nil))))))))))), ?_⟩
    refine ⟨_, rfl, a, ns, 0, rfl, hA, fun ci => ⟨ci, rfl, fun p H1 hp S1 st1 => ?_⟩⟩
    dsimp only [List.set_cons_succ, List.set_cons_zero]
    refine ⟨_, rfl, p, 2, rfl, st1, by decide, by decide, fun d0 H1' _ _ B1' st1' => ⟨rfl, ?_⟩⟩
    dsimp only [List.set_cons_succ, List.set_cons_zero]
    generalize hob : decide (V.int d0 = V.int 1) = ob
    refine ⟨_, rfl, p, 4, 4, rfl, st1', by decide, by decide, by decide, by decide, fun m H2 ss ws ms rs ok m0 B2' st2 md2 => ?_⟩
    dsimp only [List.set_cons_succ, List.set_cons_zero]
    have B2 := B1'.trans B2'
    have SA : Same H H2 := But.same hp S1 B2
    refine ⟨_, rfl, m, ss, ws, ms, rs, rfl, md2, ok, fun sc H3 as bs sc0 S3 hsc pt3 => ?_⟩
    have md3 := md2.kp (Same.kp S3)
    have st3 := st2.same S3
    intro x dx nx ndx nex
    have S4 : Same H3 (upd (upd H3 dx (.own x)) x (.ins HC dx [])) := same_make nx ndx
    refine ⟨H3, x, dx, sc, rfl, S4, nx, upd_same, fun d1 d2 d3 H5 z1 z2 z3 n12 S5 hx5 e1 e2 e3 => ⟨rfl, ?_⟩⟩
    dsimp only [List.set_cons_succ, List.set_cons_zero]
    have S35 : Same H H5 := (SA.trans S3).trans S5
    have md5 := md3.kp (Same.kp S5)
    have st5 := st3.same S5
    have hs5 : HsAt HC S H5 x dx sc d1 d2 d3 ss ws [] [] := ⟨hx5, (hsc.weak).same S5, e1, e2, e3, n12⟩
    have hg5 := hsc.same S5
    have pt5 := pt3.same S5
    obtain ⟨mm0, hmm0⟩ : ∃ o, H3 m = some o := by
      obtain ⟨l1, l2, l3, l4, as, bs, q, _⟩ := md3
      exact ⟨_, q⟩
    have nm1 : m ≠ d1 := ne_of_none hmm0 z1
    have nm2 : m ≠ d2 := ne_of_none hmm0 z2
    have d10 : H d1 = none := (SA.trans S3).free z1
    have d20 : H d2 = none := (SA.trans S3).free z2
    have d30 : H d3 = none := (SA.trans S3).free z3
    refine ⟨_, rfl, _, rfl, _, rfl, _, rfl, p, 5, rfl, st5, by decide, by decide, fun dg H6 g0 g1 B6 st6 => ⟨_, _, rfl, rfl, ?_⟩⟩
    obtain ⟨mn, hmn⟩ : ∃ mn : Nat, 1 + dg = mn := ⟨(1 + dg).toNat, by omega⟩
    have k6 := B6.kp st5
    have md6 := md5.kp k6
    have hs6 := hs5.kp k6
    have hg6 : SchG S H6 sc ss ws as bs [] := hg5.kq (fun q o n _ _ e => k6 q o n e)
    have am6 : AllAt (MkAt K MB H6) as ms := pt5.am.imp fun _ _ q => q.kq (fun q o n _ _ e => k6 q o n e)
    have ar6 : AllAt (RlAt K RB H6) bs rs := pt5.ar.imp fun _ _ q => q.kq (fun q o n _ _ e => k6 q o n e)
    refine ⟨p, m, x, dx, sc, d1, d2, d3, mn, ss, ws, ms, rs, congrArg (fun z => [V.ref p, V.ref m, V.ref x, V.int z]) hmn, st6, md6, ok, hs6, nm1, nm2, by omega, by omega, fun h lt ds da dh th0 ts0 H7 h0 lt0 ds0 da0 dh0 f7 st7 hs7 hm7 md7 drn thl tso tsl tsm => ?_⟩
    dsimp only [List.set_cons_succ, List.set_cons_zero]
    have S6 : Same H H6 := fun q o e => B6 _ _ (ne_of_none e hp) (S35 q o e)
    have S7 : Same H H7 := fun q o e => f7 q o (ne_of_none e hp) (ne_of_none e d10) (ne_of_none e d20) (ne_of_none e d30) (S6 q o e)
    have kq7 : Kq H6 H7 := f7.kq st6 hs6.h1 hs6.h2 hs6.h3
    obtain ⟨mq, mq0⟩ : ∃ k, H6 m = some (.dK k) := by
      obtain ⟨l1, l2, l3, l4, as, bs, q, _⟩ := md6
      exact ⟨_, q⟩
    have nmp : m ≠ p := But.ne st6 mq0 ns_dK
    have nm3 : m ≠ d3 := ne_of mq0 hs6.h3 (by intro z; cases z)
    have B : Bs K HC S MB RB H6 x dx sc d1 d2 d3 h lt ds da dh m as bs ss ws ms rs := ⟨hs6.hx, hs6.hs, hs6.ne, hg6, am6, ar6, md6, ok, lt0, ds0, da0, dh0, (ne_of_none hs6.h1 h0).symm, (ne_of_none hs6.h2 h0).symm, (ne_of_none hs6.h1 ds0).symm, (ne_of_none hs6.h2 ds0).symm, (ne_of_none hs6.h1 da0).symm, (ne_of_none hs6.h2 da0).symm, (ne_of_none hs6.h3 dh0).symm, nm1, nm2, nm3⟩
    have W7 : WM H6 H7 h lt ds da dh d1 d2 d3 m th0 ts0 := ⟨hm7, hs7.h1, hs7.h2, hs7.h3, kq7, fun o e => f7 _ _ nmp nm1 nm2 nm3 e⟩
    have lt00 : H lt = none := S6.free lt0
    have ds00 : H ds = none := S6.free ds0
    have da00 : H da = none := S6.free da0
    have dh00 : H dh = none := S6.free dh0
    have tk0 : ThOk ss th0 ts0 := ⟨⟨fun z hz => ⟨drn.ok hz, by have := (drn.nm z hz).2; omega⟩, by omega⟩, tso, fun t ht => ⟨drn.ok (tsm t ht).1, ok.wd.ok (tsm t ht).2.1, drn.ok (tsm t ht).2.2⟩, by omega⟩
    have mok : MksOk ws ms := by
      have q := ok.sch
      exact ⟨q.m9, q.ml, q.mw⟩
    have nsl : (((ns.map V.int).length : Nat) : Int) = ns.length := by rw [List.length_map]
    refine ⟨_, rfl, a, _, rfl, .inl (S7.seq hA), _, _, rfl, ⟨by decide, by decide, by rw [nsl]; omega, by rw [nsl]; omega⟩, ?_⟩
    refine for_range (lo := 1) (n := ((((ns.map V.int).length : Nat) : Int) - 1).toNat) (fun i σ H' => ∃ (u1 u6 u7 u8 u9 : Option V) (th : List Thing) (ts : List T3), σ = [some (.ref a), u1, some (.bl ob), some (.ref m), some (.ref x), some (.ref h), u6, u7, u8, u9, none] ∧ WM H6 H' h lt ds da dh d1 d2 d3 m th ts ∧ ThOk ss th ts ∧ ts.length ≤ 100 + 6 * i ∧ Same H H') ⟨_, _, _, _, _, th0, ts0, rfl, W7, tk0, by omega, S7⟩ ?_ ?_
    · rintro i σ H9 hi ⟨u1, u6, u7, u8, u9, th, ts, rfl, W9, tk, tl9, S9⟩
      rw [nsl] at hi
      dsimp only [gName, List.set_cons_succ, List.set_cons_zero]
      obtain ⟨c, hc⟩ : ∃ c, ns[i + 1]? = some c := ⟨_, List.getElem?_eq_getElem (by omega)⟩
      have hcv : (ns.map V.int)[i + 1]? = some (V.int c) := by rw [List.getElem?_map, hc]; rfl
      refine ⟨_, rfl, _, rfl, a, _, 1 + (i : Int), _, rfl, rfl, S9.seq hA, (by rw [show (1 + (i : Int)) = ((i + 1 : Nat) : Int) by omega]; exact atI_nat hcv), c, rfl, fun p H10 hp10 S10 st10 => ?_⟩
      dsimp only [gName, List.set_cons_succ, List.set_cons_zero]
      have W10 := W9.kp B (Same.kp S10)
      have S010 := S9.trans S10
      have p0 : H p = none := S9.free hp10
      refine cut1 (fun σ' H' => ∃ (u6 u7 u8 u9 : Option V) (th : List Thing) (ts : List T3), σ' = [some (.ref a), some (.ref p), some (.bl ob), some (.ref m), some (.ref x), some (.ref h), u6, u7, u8, u9, none] ∧ WM H6 H' h lt ds da dh d1 d2 d3 m th ts ∧ ThOk ss th ts ∧ ts.length ≤ 100 + 6 * (i + 1) ∧ Same H H') ?_ (fun R' fin => ?_)
      · rintro σ' H' ⟨u6, u7, u8, u9, th', ts', rfl, W', tk', tl', S'⟩
        refine ⟨_, rfl, _, rfl, x, dx, sc, d1, d2, d3, h, lt, ds, da, dh, ss, ws, th', ts', rfl, B.hsO W', W'.hm, fun z hz => (tk'.no.ok z hz).1, tk'.ot, by have := tk'.no.le; omega, fun Hq Sq => ⟨_, rfl, ?_⟩⟩
        refine iteF ?_
        exact ⟨_, _, _, _, _, th', ts', rfl, W'.kp B (Same.kp Sq), tk', tl', S'.trans Sq⟩
      apply share (C := fun H11 => But p H10 H11 ∧ StOk H11 p)
      · intro els
        refine ⟨_, rfl, _, rfl, ?_⟩
        refine ite2 (fun _ => ?_) (fun _ => iteF (els H10 ⟨But.refl p H10, st10⟩))
        refine ⟨_, rfl, p, 4, rfl, st10, by decide, by decide, fun dd H11 _ _ B11 st11 => ⟨rfl, _, rfl, ite2 (fun _ => ?_) (fun _ => els H11 ⟨B11, st11⟩)⟩⟩
        have W11 := W10.kp B (B11.kp st10)
        exact ⟨_, rfl, _, rfl, _, rfl, _, rfl, H6, p, x, dx, sc, d1, d2, d3, h, lt, ds, da, dh, m, as, bs, ss, ws, ms, rs, th, ts, rfl, B, st11, W11, tk, by omega, fun th' ts' H12 W12 tk12 tl12 F12 => fin _ _ ⟨_, _, _, _, th', ts', rfl, W12, tk12, by omega, fun q o e => F12 q o (ne_of_none e p0) (ne_of_none e d10) (ne_of_none e d20) (ne_of_none e d30) (ne_of_none e lt00) (ne_of_none e ds00) (ne_of_none e da00) (ne_of_none e dh00) (B11 _ _ (ne_of_none e p0) (S010 q o e))⟩⟩
      rintro H11 ⟨B11, st11⟩
      have W11 := W10.kp B (B11.kp st10)
      have S011 : Same H H11 := fun q o e => B11 _ _ (ne_of_none e p0) (S010 q o e)
      refine ⟨_, rfl, _, rfl, _, rfl, p, h, m, lt, ds, da, dh, ss, ws, ms, rs, th, ts, rfl, st11, W11.hm, B.mdO W11, ok, tk.no, by omega, tk.ot, fun t d H12 od t0 B12 st12 hd => ?_⟩
      dsimp only [gName, List.set_cons_succ, List.set_cons_zero]
      have W12 := W11.kp B (B12.kp st11)
      have S012 : Same H H12 := fun q o e => B12 _ _ (ne_of_none e p0) (S011 q o e)
      refine cut4 (fun σ' H' => ∃ (vd vf : V) (dd : PyData) (th' : List Thing) (ts' : List T3), σ' = [some (.ref a), some (.ref p), some (.bl ob), some (.ref m), some (.ref x), some (.ref h), some (.int (1 + (i : Int))), some (.ref t), some vd, some vf, none] ∧ WM H6 H' h lt ds da dh d1 d2 d3 m th' ts' ∧ Dp K H' vf dd ∧ Dp K H' vd dd ∧ SeqAt.shaped dd = true ∧ ThOk ss th' ts' ∧ ts'.length ≤ 100 + 6 * (i + 1) ∧ Same H H') ?_ (fun R2 fin2 => ?_)
      · rintro σ' H' ⟨vd, vf, dd, th', ts', rfl, W', p1, p2, sh, tk', tl', S'⟩
        refine ⟨_, rfl, _, rfl, _, _, p1, p2, sh, sh, _, rfl, ?_⟩
        rw [eqv_self sh]
        refine iteF ?_
        exact fin _ _ ⟨_, _, _, _, th', ts', rfl, W', tk', tl', S'⟩
      refine ⟨_, rfl, _, rfl, _, rfl, h, m, lt, ds, da, dh, t, d, ss, ws, ms, rs, th, ts, rfl, W12.hm, B.mdO W12, ok, hd, od, tk.so, ?_⟩
      have zl : ∀ n so z, d = .mk n so z → z.length ≤ 1000 := fun n so z e => by
        rw [e] at od
        have := od.2.2.2
        omega
      cases hdu : ddDue ss ws ms rs th ts d with
      | none =>
        obtain ⟨tk', tl'⟩ := dd_ok ok tk od hdu
        intro H14 S14
        dsimp only [gName, List.set_cons_succ, List.set_cons_zero]
        have W14 := W12.kp B (Same.kp S14)
        refine ⟨_, rfl, _, rfl, x, t, dx, sc, d1, d2, d3, d, ss, ws, as, bs, [], ms, rs, th, ts, rfl, hd.same S14, B.hsO W14, B.hg.kq W14.kq, B.am.imp fun _ _ q => q.kq W14.kq, B.ar.imp fun _ _ q => q.kq W14.kq, mok, fun r hr => ok.rls hr, zl, tk.no.le, by omega, ?_⟩
        rw [hdu]
        intro H15 F15 hs15
        obtain ⟨hm15, kq15, mm15, P15⟩ := W14.play B F15 hs15
        have hd15 : DdAt H15 t d := (hd.same S14).imp fun e => F15 _ _ (ne_of e W14.e1 (by intro z; cases z)) (ne_of e W14.e2 (by intro z; cases z)) (ne_of e W14.e3 (by intro z; cases z)) e
        refine ⟨_, rfl, _, rfl, ?_⟩
        refine iteT ?_
        obtain ⟨mk6, mk60⟩ := B.mx
        refine ⟨_, rfl, _, rfl, _, rfl, H6, h, m, lt, ds, da, dh, t, d, ss, ws, ms, rs, th, ts, rfl, hm15, md6, kq15, mm15, lt0, ok, ne_of_none mk60 ds0, ne_of_none mk60 da0, hd15, od, hdu, tk.so, tk.no.le, by omega, fun H16 F16 hm16 => ?_⟩
        exact fin2 _ _ ⟨.non, .non, .none, _, _, rfl, P15 H16 F16 hm16, .non, .non, by decide +kernel, tk', by omega, fun q o e => F16 _ _ (ne_of_none e lt00) (ne_of_none e ds00) (ne_of_none e da00) (ne_of_none e dh00) (F15 _ _ (ne_of_none e d10) (ne_of_none e d20) (ne_of_none e d30) (S14 _ _ (S012 q o e)))⟩
      | some r =>
        obtain ⟨rok, rstr⟩ := dd_strs ok tk.so od hdu
        intro t7 H14 S14 t70 e14
        dsimp only [gName, List.set_cons_succ, List.set_cons_zero]
        have W14 := W12.kp B (Same.kp S14)
        refine ⟨_, rfl, _, rfl, x, t, dx, sc, d1, d2, d3, d, ss, ws, as, bs, [], ms, rs, th, ts, rfl, hd.same S14, B.hsO W14, B.hg.kq W14.kq, B.am.imp fun _ _ q => q.kq W14.kq, B.ar.imp fun _ _ q => q.kq W14.kq, mok, fun r hr => ok.rls hr, zl, tk.no.le, by omega, ?_⟩
        rw [hdu]
        intro Z dZ H15 hZ dZ0 S15 hx15
        refine ⟨true, (TE.er hZ).te, fun _ a0 _ => ?_, fun q => Bool.noConfusion q⟩
        refine ⟨_, rfl, rfl, dZ, r, rfl, ⟨Z, rfl, hZ⟩, rok, hx15, fun t9 H16 S16 t90 e16 => ?_⟩
        dsimp only [gName, List.set_cons_succ, List.set_cons_zero]
        have S46 := S15.trans S16
        have sh := shaped_tstrs rstr
        have dp : ∀ {H' : Hp} {b : Addr}, H' b = some (.tup (tupOf r)) → Dp K H' (.ref b) (.tuple ((strsOf r).map PyData.str)) := fun {H' b} e => by
          rw [tup_strs] at e
          exact .tup (SqT.of e) (dp_strs _)
        refine ⟨_, rfl, _, rfl, ?_⟩
        refine iteF ?_
        exact fin2 _ _ ⟨.ref t7, .ref t9, _, th, ts, rfl, W14.kp B (Same.kp S46), dp e16, dp (S46 _ _ e14), sh, tk, by omega, S012.trans (S14.trans S46)⟩
    rintro σ H9 ⟨u1, u6, u7, u8, u9, th, ts, rfl, W9, tk, tl9, S9⟩
    rw [nsl] at tl9
    exact ⟨_, rfl, _, rfl, x, dx, sc, d1, d2, d3, h, lt, ds, da, dh, ss, ws, th, ts, rfl, B.hsO W9, W9.hm, fun z hz => (tk.no.ok z hz).1, tk.ot, by have := tk.no.le; omega, fun H' _ => kk H'⟩
end
end Wm
namespace Wm
open PySem L2 He ClX StX
theorem errB_ok {K : PySem.W.Frag} {mg : Str → Option Value} {x f : Str} {C fI : Addr} (h : errB K C fI f = true) (g : mg x = some (.ref C)) : ErrT K mg x f C fI ∧ XfC K C ∧ ExcC K C ∧ PySem.W.exmOne K (.ref C) (.ref C) = some true := by
  unfold errB at h
  obtain ⟨h1, h⟩ := ba h
  obtain ⟨h2, h⟩ := ba h
  obtain ⟨h3, h⟩ := ba h
  obtain ⟨h4, h⟩ := ba h
  obtain ⟨h5, h⟩ := ba h
  obtain ⟨h6, h⟩ := ba h
  obtain ⟨h7, h⟩ := ba h
  obtain ⟨h8, h⟩ := ba h
  obtain ⟨h9, h⟩ := ba h
  obtain ⟨h10, h⟩ := ba h
  obtain ⟨h11, h⟩ := ba h
  obtain ⟨h12, h⟩ := ba h
  obtain ⟨h13, h⟩ := ba h
  obtain ⟨h14, h⟩ := ba h
  obtain ⟨h15, h⟩ := ba h
  obtain ⟨h16, h17⟩ := ba h
  exact ⟨⟨⟨excB_ok h14, eqO_ok h1, of_decide_eq_true h2, of_decide_eq_true h3, h4⟩, g, eqO_ok h13, of_decide_eq_true h5, eqO_ok h6, eqO_ok h7⟩, ⟨eqO_ok h8, eqO_ok h9, of_decide_eq_true h2, h10⟩,
    ⟨eqO_ok h8, eqO_ok h9, of_decide_eq_true h2, h10, eqO_ok h11, eqO_ok h16, of_decide_eq_true h17, of_decide_eq_true h12⟩, of_decide_eq_true h15⟩
theorem kitB_ok {K : PySem.W.Frag} {Z C0 C1 C2 C3 C4 C5 C6 C7 C8 C9 C10 C11 W : Addr} {i : Nat} (h : kitB K Z C0 C1 C2 C3 C4 C5 C6 C7 C8 C9 C10 C11 W i = true) (xf : XfC K Z) (xc : ExcC K Z) : ErK K Z C0 C1 C2 C3 C4 C5 C6 C7 C8 C9 C10 C11 W i := by
  unfold kitB at h
  obtain ⟨h0, h⟩ := ba h
  obtain ⟨h1, h⟩ := ba h
  obtain ⟨h2, h⟩ := ba h
  obtain ⟨h3, h⟩ := ba h
  obtain ⟨h4, h⟩ := ba h
  obtain ⟨h5, h⟩ := ba h
  obtain ⟨h6, h⟩ := ba h
  obtain ⟨h7, h⟩ := ba h
  obtain ⟨h8, h⟩ := ba h
  obtain ⟨h9, h⟩ := ba h
  obtain ⟨h10, h⟩ := ba h
  obtain ⟨h11, h⟩ := ba h
  obtain ⟨h12, h⟩ := ba h
  exact ⟨of_decide_eq_true h0, xf, xc, of_decide_eq_true h1, of_decide_eq_true h2, of_decide_eq_true h3, of_decide_eq_true h4, of_decide_eq_true h5, of_decide_eq_true h6, of_decide_eq_true h7, of_decide_eq_true h8, of_decide_eq_true h9, of_decide_eq_true h10, of_decide_eq_true h11, of_decide_eq_true h12, of_decide_eq_true h⟩
theorem facts {P : Program} {w : World} {K : PySem.W.Frag} {h : Heap} {mg : Str → Option Value} {fa : Addr} (X : K.In h) (G : h.Ns mainGlobals mg) (hfa : mg "law" = some (.ref fa)) (c : SaysM ck fnL K) :
    ∃ fd : FuncData, (∀ (s : Shared) (v : Value), BindsTo s fd ⟨[v], []⟩ [("_law_script", v)]) ∧ ∀ base : Heap, K.In base → base.Ns mainGlobals mg → FnOk P w K mg base CX0 10 fa fd ["_law_script"] (spLaw K) := by
  have q := c.says
  unfold ck at q
  obtain ⟨qf, q⟩ := ba q
  obtain ⟨qw, q⟩ := ba q
  obtain ⟨qe0, q⟩ := ba q
  obtain ⟨qe1, q⟩ := ba q
  obtain ⟨qe2, q⟩ := ba q
  obtain ⟨qe3, q⟩ := ba q
  obtain ⟨qe4, q⟩ := ba q
  obtain ⟨qe5, q⟩ := ba q
  obtain ⟨qe6, q⟩ := ba q
  obtain ⟨qe7, q⟩ := ba q
  obtain ⟨qe8, q⟩ := ba q
  obtain ⟨qe9, q⟩ := ba q
  obtain ⟨qe10, q⟩ := ba q
  obtain ⟨qe11, q⟩ := ba q
  obtain ⟨qn0, q⟩ := ba q
  obtain ⟨qn1, q⟩ := ba q
  obtain ⟨qn2, q⟩ := ba q
  obtain ⟨k0, q⟩ := ba q
  obtain ⟨k1, q⟩ := ba q
  obtain ⟨k2, q⟩ := ba q
  obtain ⟨k3, q⟩ := ba q
  obtain ⟨k4, q⟩ := ba q
  obtain ⟨k5, q⟩ := ba q
  obtain ⟨k6, q⟩ := ba q
  obtain ⟨k7, q⟩ := ba q
  obtain ⟨k8, q⟩ := ba q
  obtain ⟨k9, q⟩ := ba q
  obtain ⟨k10, q⟩ := ba q
  have ft : ∀ (i : Nat) {f : Fa}, factL[i]? = some f → f.ok K = true := fun i {f} e => List.all_eq_true.mp qf f (List.mem_of_getElem? e)
  have g_WhoError := glo_ok X G (ft 0 (f := .glo "WhoError") rfl)
  have g_NoName := glo_ok X G (ft 1 (f := .glo "NoName") rfl)
  have g_Taken := glo_ok X G (ft 2 (f := .glo "Taken") rfl)
  have g_NoSort := glo_ok X G (ft 3 (f := .glo "NoSort") rfl)
  have g_NoThing := glo_ok X G (ft 4 (f := .glo "NoThing") rfl)
  have g_NoWord := glo_ok X G (ft 5 (f := .glo "NoWord") rfl)
  have g_Asleep := glo_ok X G (ft 6 (f := .glo "Asleep") rfl)
  have g_NoRule := glo_ok X G (ft 7 (f := .glo "NoRule") rfl)
  have g_Misfit := glo_ok X G (ft 8 (f := .glo "Misfit") rfl)
  have g_Full := glo_ok X G (ft 9 (f := .glo "Full") rfl)
  have g_NotHeld := glo_ok X G (ft 10 (f := .glo "NotHeld") rfl)
  have g_NoMaking := glo_ok X G (ft 11 (f := .glo "NoMaking") rfl)
  have g_NoDeed := glo_ok X G (ft 12 (f := .glo "NoDeed") rfl)
  have g_is_name := glo_ok X G (ft 13 (f := .glo "is_name") rfl)
  obtain ⟨fd_is_name, Fk_is_name⟩ := c.def_ 0 (d := d_is_name) rfl
  have Fk_is_name : FunD K "is_name" "is_name" (defArgs sName) (defBody sName) (defScope sName) [] [] (ga K "is_name") fd_is_name := Fk_is_name
  have F_is_name : Fun K "is_name" "is_name" sName (ga K "is_name") fd_is_name := fun_of Fk_is_name
  have D_is_name : Dn K mg "is_name" sName ["text"] (ga K "is_name") fd_is_name := ⟨F_is_name, g_is_name, F_is_name.binds (ps := ["text"]) fun _ _ _ _ _ _ us hl => match us, hl with | [_], _ => rfl⟩
  have g_refuse_no_name := glo_ok X G (ft 14 (f := .glo "refuse_no_name") rfl)
  obtain ⟨fd_refuse_no_name, Fk_refuse_no_name⟩ := c.def_ 1 (d := d_refuse_no_name) rfl
  have Fk_refuse_no_name : FunD K "refuse_no_name" "refuse_no_name" (defArgs sRN) (defBody sRN) (defScope sRN) [] [] (ga K "refuse_no_name") fd_refuse_no_name := Fk_refuse_no_name
  have F_refuse_no_name : Fun K "refuse_no_name" "refuse_no_name" sRN (ga K "refuse_no_name") fd_refuse_no_name := fun_of Fk_refuse_no_name
  have D_refuse_no_name : Dn K mg "refuse_no_name" sRN ["texts"] (ga K "refuse_no_name") fd_refuse_no_name := ⟨F_refuse_no_name, g_refuse_no_name, F_refuse_no_name.binds (ps := ["texts"]) fun _ _ _ _ _ _ us hl => match us, hl with | [_], _ => rfl⟩
  have g_first_twice := glo_ok X G (ft 15 (f := .glo "first_twice") rfl)
  obtain ⟨fd_first_twice, Fk_first_twice⟩ := c.def_ 2 (d := d_first_twice) rfl
  have Fk_first_twice : FunD K "first_twice" "first_twice" (defArgs sFT) (defBody sFT) (defScope sFT) [] [] (ga K "first_twice") fd_first_twice := Fk_first_twice
  have F_first_twice : Fun K "first_twice" "first_twice" sFT (ga K "first_twice") fd_first_twice := fun_of Fk_first_twice
  have D_first_twice : Dn K mg "first_twice" sFT ["row"] (ga K "first_twice") fd_first_twice := ⟨F_first_twice, g_first_twice, F_first_twice.binds (ps := ["row"]) fun _ _ _ _ _ _ us hl => match us, hl with | [_], _ => rfl⟩
  have g_refuse_twice := glo_ok X G (ft 16 (f := .glo "refuse_twice") rfl)
  obtain ⟨fd_refuse_twice, Fk_refuse_twice⟩ := c.def_ 3 (d := d_refuse_twice) rfl
  have Fk_refuse_twice : FunD K "refuse_twice" "refuse_twice" (defArgs sRT) (defBody sRT) (defScope sRT) [] [] (ga K "refuse_twice") fd_refuse_twice := Fk_refuse_twice
  have F_refuse_twice : Fun K "refuse_twice" "refuse_twice" sRT (ga K "refuse_twice") fd_refuse_twice := fun_of Fk_refuse_twice
  have D_refuse_twice : Dn K mg "refuse_twice" sRT ["names"] (ga K "refuse_twice") fd_refuse_twice := ⟨F_refuse_twice, g_refuse_twice, F_refuse_twice.binds (ps := ["names"]) fun _ _ _ _ _ _ us hl => match us, hl with | [_], _ => rfl⟩
  have g_refuse_count := glo_ok X G (ft 17 (f := .glo "refuse_count") rfl)
  obtain ⟨fd_refuse_count, Fk_refuse_count⟩ := c.def_ 4 (d := d_refuse_count) rfl
  have Fk_refuse_count : FunD K "refuse_count" "refuse_count" (defArgs sRC) (defBody sRC) (defScope sRC) [] [] (ga K "refuse_count") fd_refuse_count := Fk_refuse_count
  have F_refuse_count : Fun K "refuse_count" "refuse_count" sRC (ga K "refuse_count") fd_refuse_count := fun_of Fk_refuse_count
  have D_refuse_count : Dn K mg "refuse_count" sRC ["what", "count", "least", "most"] (ga K "refuse_count") fd_refuse_count := ⟨F_refuse_count, g_refuse_count, F_refuse_count.binds (ps := ["what", "count", "least", "most"]) fun _ _ _ _ _ _ us hl => match us, hl with | [_, _, _, _], _ => rfl⟩
  have g_own_list := glo_ok X G (ft 18 (f := .glo "own_list") rfl)
  obtain ⟨fd_own_list, Fk_own_list⟩ := c.def_ 5 (d := d_own_list) rfl
  have Fk_own_list : FunD K "own_list" "own_list" (defArgs sOL) (defBody sOL) (defScope sOL) [] [] (ga K "own_list") fd_own_list := Fk_own_list
  have F_own_list : Fun K "own_list" "own_list" sOL (ga K "own_list") fd_own_list := fun_of Fk_own_list
  have D_own_list : Dn K mg "own_list" sOL ["rows"] (ga K "own_list") fd_own_list := ⟨F_own_list, g_own_list, F_own_list.binds (ps := ["rows"]) fun _ _ _ _ _ _ us hl => match us, hl with | [_], _ => rfl⟩
  have g_refuse_makings_twice := glo_ok X G (ft 19 (f := .glo "refuse_makings_twice") rfl)
  obtain ⟨fd_refuse_makings_twice, Fk_refuse_makings_twice⟩ := c.def_ 6 (d := d_refuse_makings_twice) rfl
  have Fk_refuse_makings_twice : FunD K "refuse_makings_twice" "refuse_makings_twice" (defArgs sRMT) (defBody sRMT) (defScope sRMT) [] [] (ga K "refuse_makings_twice") fd_refuse_makings_twice := Fk_refuse_makings_twice
  have F_refuse_makings_twice : Fun K "refuse_makings_twice" "refuse_makings_twice" sRMT (ga K "refuse_makings_twice") fd_refuse_makings_twice := fun_of Fk_refuse_makings_twice
  have D_refuse_makings_twice : Dn K mg "refuse_makings_twice" sRMT ["makings"] (ga K "refuse_makings_twice") fd_refuse_makings_twice := ⟨F_refuse_makings_twice, g_refuse_makings_twice, F_refuse_makings_twice.binds (ps := ["makings"]) fun _ _ _ _ _ _ us hl => match us, hl with | [_], _ => rfl⟩
  have g_refuse_no_sort := glo_ok X G (ft 20 (f := .glo "refuse_no_sort") rfl)
  obtain ⟨fd_refuse_no_sort, Fk_refuse_no_sort⟩ := c.def_ 7 (d := d_refuse_no_sort) rfl
  have Fk_refuse_no_sort : FunD K "refuse_no_sort" "refuse_no_sort" (defArgs sRNS) (defBody sRNS) (defScope sRNS) [] [] (ga K "refuse_no_sort") fd_refuse_no_sort := Fk_refuse_no_sort
  have F_refuse_no_sort : Fun K "refuse_no_sort" "refuse_no_sort" sRNS (ga K "refuse_no_sort") fd_refuse_no_sort := fun_of Fk_refuse_no_sort
  have D_refuse_no_sort : Dn K mg "refuse_no_sort" sRNS ["sorts", "makings", "patterns"] (ga K "refuse_no_sort") fd_refuse_no_sort := ⟨F_refuse_no_sort, g_refuse_no_sort, F_refuse_no_sort.binds (ps := ["sorts", "makings", "patterns"]) fun _ _ _ _ _ _ us hl => match us, hl with | [_, _, _], _ => rfl⟩
  have g_refuse_upward := glo_ok X G (ft 21 (f := .glo "refuse_upward") rfl)
  obtain ⟨fd_refuse_upward, Fk_refuse_upward⟩ := c.def_ 8 (d := d_refuse_upward) rfl
  have Fk_refuse_upward : FunD K "refuse_upward" "refuse_upward" (defArgs sRU) (defBody sRU) (defScope sRU) [] [] (ga K "refuse_upward") fd_refuse_upward := Fk_refuse_upward
  have F_refuse_upward : Fun K "refuse_upward" "refuse_upward" sRU (ga K "refuse_upward") fd_refuse_upward := fun_of Fk_refuse_upward
  have D_refuse_upward : Dn K mg "refuse_upward" sRU ["sorts", "makings"] (ga K "refuse_upward") fd_refuse_upward := ⟨F_refuse_upward, g_refuse_upward, F_refuse_upward.binds (ps := ["sorts", "makings"]) fun _ _ _ _ _ _ us hl => match us, hl with | [_, _], _ => rfl⟩
  have g_refuse_no_word := glo_ok X G (ft 22 (f := .glo "refuse_no_word") rfl)
  obtain ⟨fd_refuse_no_word, Fk_refuse_no_word⟩ := c.def_ 9 (d := d_refuse_no_word) rfl
  have Fk_refuse_no_word : FunD K "refuse_no_word" "refuse_no_word" (defArgs sRNW) (defBody sRNW) (defScope sRNW) [] [] (ga K "refuse_no_word") fd_refuse_no_word := Fk_refuse_no_word
  have F_refuse_no_word : Fun K "refuse_no_word" "refuse_no_word" sRNW (ga K "refuse_no_word") fd_refuse_no_word := fun_of Fk_refuse_no_word
  have D_refuse_no_word : Dn K mg "refuse_no_word" sRNW ["words", "makings", "rules", "bars"] (ga K "refuse_no_word") fd_refuse_no_word := ⟨F_refuse_no_word, g_refuse_no_word, F_refuse_no_word.binds (ps := ["words", "makings", "rules", "bars"]) fun _ _ _ _ _ _ us hl => match us, hl with | [_, _, _, _], _ => rfl⟩
  have g_check_scheme := glo_ok X G (ft 23 (f := .glo "check_scheme") rfl)
  obtain ⟨fd_check_scheme, Fk_check_scheme⟩ := c.def_ 10 (d := d_check_scheme) rfl
  have Fk_check_scheme : FunD K "check_scheme" "check_scheme" (defArgs sCS) (defBody sCS) (defScope sCS) [] [] (ga K "check_scheme") fd_check_scheme := Fk_check_scheme
  have F_check_scheme : Fun K "check_scheme" "check_scheme" sCS (ga K "check_scheme") fd_check_scheme := fun_of Fk_check_scheme
  have D_check_scheme : Dn K mg "check_scheme" sCS ["sorts", "words", "makings", "rules", "bars"] (ga K "check_scheme") fd_check_scheme := ⟨F_check_scheme, g_check_scheme, F_check_scheme.binds (ps := ["sorts", "words", "makings", "rules", "bars"]) fun _ _ _ _ _ _ us hl => match us, hl with | [_, _, _, _, _], _ => rfl⟩
  have g_tuple_of_tuples := glo_ok X G (ft 24 (f := .glo "tuple_of_tuples") rfl)
  obtain ⟨fd_tuple_of_tuples, Fk_tuple_of_tuples⟩ := c.def_ 11 (d := d_tuple_of_tuples) rfl
  have Fk_tuple_of_tuples : FunD K "tuple_of_tuples" "tuple_of_tuples" (defArgs sTT) (defBody sTT) (defScope sTT) [] [] (ga K "tuple_of_tuples") fd_tuple_of_tuples := Fk_tuple_of_tuples
  have F_tuple_of_tuples : Fun K "tuple_of_tuples" "tuple_of_tuples" sTT (ga K "tuple_of_tuples") fd_tuple_of_tuples := fun_of Fk_tuple_of_tuples
  have D_tuple_of_tuples : Dn K mg "tuple_of_tuples" sTT ["rows"] (ga K "tuple_of_tuples") fd_tuple_of_tuples := ⟨F_tuple_of_tuples, g_tuple_of_tuples, F_tuple_of_tuples.binds (ps := ["rows"]) fun _ _ _ _ _ _ us hl => match us, hl with | [_], _ => rfl⟩
  have g_ends_of := glo_ok X G (ft 25 (f := .glo "ends_of") rfl)
  obtain ⟨fd_ends_of, Fk_ends_of⟩ := c.def_ 12 (d := d_ends_of) rfl
  have Fk_ends_of : FunD K "ends_of" "ends_of" (defArgs sEO) (defBody sEO) (defScope sEO) [] [] (ga K "ends_of") fd_ends_of := Fk_ends_of
  have F_ends_of : Fun K "ends_of" "ends_of" sEO (ga K "ends_of") fd_ends_of := fun_of Fk_ends_of
  have D_ends_of : Dn K mg "ends_of" sEO ["triples"] (ga K "ends_of") fd_ends_of := ⟨F_ends_of, g_ends_of, F_ends_of.binds (ps := ["triples"]) fun _ _ _ _ _ _ us hl => match us, hl with | [_], _ => rfl⟩
  have g_texts_of_pattern := glo_ok X G (ft 26 (f := .glo "texts_of_pattern") rfl)
  obtain ⟨fd_texts_of_pattern, Fk_texts_of_pattern⟩ := c.def_ 13 (d := d_texts_of_pattern) rfl
  have Fk_texts_of_pattern : FunD K "texts_of_pattern" "texts_of_pattern" (defArgs sTP) (defBody sTP) (defScope sTP) [] [] (ga K "texts_of_pattern") fd_texts_of_pattern := Fk_texts_of_pattern
  have F_texts_of_pattern : Fun K "texts_of_pattern" "texts_of_pattern" sTP (ga K "texts_of_pattern") fd_texts_of_pattern := fun_of Fk_texts_of_pattern
  have D_texts_of_pattern : Dn K mg "texts_of_pattern" sTP ["name", "variables", "triples"] (ga K "texts_of_pattern") fd_texts_of_pattern := ⟨F_texts_of_pattern, g_texts_of_pattern, F_texts_of_pattern.binds (ps := ["name", "variables", "triples"]) fun _ _ _ _ _ _ us hl => match us, hl with | [_, _, _], _ => rfl⟩
  have g_refuse_no_variable := glo_ok X G (ft 27 (f := .glo "refuse_no_variable") rfl)
  obtain ⟨fd_refuse_no_variable, Fk_refuse_no_variable⟩ := c.def_ 14 (d := d_refuse_no_variable) rfl
  have Fk_refuse_no_variable : FunD K "refuse_no_variable" "refuse_no_variable" (defArgs sRV) (defBody sRV) (defScope sRV) [] [] (ga K "refuse_no_variable") fd_refuse_no_variable := Fk_refuse_no_variable
  have F_refuse_no_variable : Fun K "refuse_no_variable" "refuse_no_variable" sRV (ga K "refuse_no_variable") fd_refuse_no_variable := fun_of Fk_refuse_no_variable
  have D_refuse_no_variable : Dn K mg "refuse_no_variable" sRV ["names", "texts"] (ga K "refuse_no_variable") fd_refuse_no_variable := ⟨F_refuse_no_variable, g_refuse_no_variable, F_refuse_no_variable.binds (ps := ["names", "texts"]) fun _ _ _ _ _ _ us hl => match us, hl with | [_, _], _ => rfl⟩
  have g_refuse_loose := glo_ok X G (ft 28 (f := .glo "refuse_loose") rfl)
  obtain ⟨fd_refuse_loose, Fk_refuse_loose⟩ := c.def_ 15 (d := d_refuse_loose) rfl
  have Fk_refuse_loose : FunD K "refuse_loose" "refuse_loose" (defArgs sRL) (defBody sRL) (defScope sRL) [] [] (ga K "refuse_loose") fd_refuse_loose := Fk_refuse_loose
  have F_refuse_loose : Fun K "refuse_loose" "refuse_loose" sRL (ga K "refuse_loose") fd_refuse_loose := fun_of Fk_refuse_loose
  have D_refuse_loose : Dn K mg "refuse_loose" sRL ["names", "conditions"] (ga K "refuse_loose") fd_refuse_loose := ⟨F_refuse_loose, g_refuse_loose, F_refuse_loose.binds (ps := ["names", "conditions"]) fun _ _ _ _ _ _ us hl => match us, hl with | [_, _], _ => rfl⟩
  have g_refuse_apart := glo_ok X G (ft 29 (f := .glo "refuse_apart") rfl)
  obtain ⟨fd_refuse_apart, Fk_refuse_apart⟩ := c.def_ 16 (d := d_refuse_apart) rfl
  have Fk_refuse_apart : FunD K "refuse_apart" "refuse_apart" (defArgs sRA) (defBody sRA) (defScope sRA) [] [] (ga K "refuse_apart") fd_refuse_apart := Fk_refuse_apart
  have F_refuse_apart : Fun K "refuse_apart" "refuse_apart" sRA (ga K "refuse_apart") fd_refuse_apart := fun_of Fk_refuse_apart
  have D_refuse_apart : Dn K mg "refuse_apart" sRA ["conditions"] (ga K "refuse_apart") fd_refuse_apart := ⟨F_refuse_apart, g_refuse_apart, F_refuse_apart.binds (ps := ["conditions"]) fun _ _ _ _ _ _ us hl => match us, hl with | [_], _ => rfl⟩
  have g_check_pattern := glo_ok X G (ft 30 (f := .glo "check_pattern") rfl)
  obtain ⟨fd_check_pattern, Fk_check_pattern⟩ := c.def_ 17 (d := d_check_pattern) rfl
  have Fk_check_pattern : FunD K "check_pattern" "check_pattern" (defArgs sCP) (defBody sCP) (defScope sCP) [] [] (ga K "check_pattern") fd_check_pattern := Fk_check_pattern
  have F_check_pattern : Fun K "check_pattern" "check_pattern" sCP (ga K "check_pattern") fd_check_pattern := fun_of Fk_check_pattern
  have D_check_pattern : Dn K mg "check_pattern" sCP ["name", "variables", "conditions", "given", "hands"] (ga K "check_pattern") fd_check_pattern := ⟨F_check_pattern, g_check_pattern, F_check_pattern.binds (ps := ["name", "variables", "conditions", "given", "hands"]) fun _ _ _ _ _ _ us hl => match us, hl with | [_, _, _, _, _], _ => rfl⟩
  have g__law_cell_at := glo_ok X G (ft 31 (f := .glo "_law_cell_at") rfl)
  obtain ⟨fd__law_cell_at, Fk__law_cell_at⟩ := c.def_ 18 (d := d__law_cell_at) rfl
  have Fk__law_cell_at : FunD K "_law_cell_at" "_law_cell_at" (defArgs sCel) (defBody sCel) (defScope sCel) [] [] (ga K "_law_cell_at") fd__law_cell_at := Fk__law_cell_at
  have F__law_cell_at : Fun K "_law_cell_at" "_law_cell_at" sCel (ga K "_law_cell_at") fd__law_cell_at := fun_of Fk__law_cell_at
  have D__law_cell_at : Dn K mg "_law_cell_at" sCel ["_law_script", "_law_k"] (ga K "_law_cell_at") fd__law_cell_at := ⟨F__law_cell_at, g__law_cell_at, F__law_cell_at.binds (ps := ["_law_script", "_law_k"]) fun _ _ _ _ _ _ us hl => match us, hl with | [_, _], _ => rfl⟩
  have g__law_state := glo_ok X G (ft 32 (f := .glo "_law_state") rfl)
  obtain ⟨fd__law_state, Fk__law_state⟩ := c.def_ 19 (d := d__law_state) rfl
  have Fk__law_state : FunD K "_law_state" "_law_state" (defArgs sState) (defBody sState) (defScope sState) [] [] (ga K "_law_state") fd__law_state := Fk__law_state
  have F__law_state : Fun K "_law_state" "_law_state" sState (ga K "_law_state") fd__law_state := fun_of Fk__law_state
  have D__law_state : Dn K mg "_law_state" sState ["_law_cell"] (ga K "_law_state") fd__law_state := ⟨F__law_state, g__law_state, F__law_state.binds (ps := ["_law_cell"]) fun _ _ _ _ _ _ us hl => match us, hl with | [_], _ => rfl⟩
  have g__law_digit := glo_ok X G (ft 33 (f := .glo "_law_digit") rfl)
  obtain ⟨fd__law_digit, Fk__law_digit⟩ := c.def_ 20 (d := d__law_digit) rfl
  have Fk__law_digit : FunD K "_law_digit" "_law_digit" (defArgs sDigit) (defBody sDigit) (defScope sDigit) [] [] (ga K "_law_digit") fd__law_digit := Fk__law_digit
  have F__law_digit : Fun K "_law_digit" "_law_digit" sDigit (ga K "_law_digit") fd__law_digit := fun_of Fk__law_digit
  have D__law_digit : Dn K mg "_law_digit" sDigit ["_law_state_here", "_law_base"] (ga K "_law_digit") fd__law_digit := ⟨F__law_digit, g__law_digit, F__law_digit.binds (ps := ["_law_state_here", "_law_base"]) fun _ _ _ _ _ _ us hl => match us, hl with | [_, _], _ => rfl⟩
  have g__law_name := glo_ok X G (ft 34 (f := .glo "_law_name") rfl)
  obtain ⟨fd__law_name, Fk__law_name⟩ := c.def_ 21 (d := d__law_name) rfl
  have Fk__law_name : FunD K "_law_name" "_law_name" (defArgs sNam) (defBody sNam) (defScope sNam) [] [] (ga K "_law_name") fd__law_name := Fk__law_name
  have F__law_name : Fun K "_law_name" "_law_name" sNam (ga K "_law_name") fd__law_name := fun_of Fk__law_name
  have D__law_name : Dn K mg "_law_name" sNam ["_law_s", "_law_taken"] (ga K "_law_name") fd__law_name := ⟨F__law_name, g__law_name, F__law_name.binds (ps := ["_law_s", "_law_taken"]) fun _ _ _ _ _ _ us hl => match us, hl with | [_, _], _ => rfl⟩
  have g__law_names := glo_ok X G (ft 35 (f := .glo "_law_names") rfl)
  obtain ⟨fd__law_names, Fk__law_names⟩ := c.def_ 22 (d := d__law_names) rfl
  have Fk__law_names : FunD K "_law_names" "_law_names" (defArgs sNms) (defBody sNms) (defScope sNms) [] [] (ga K "_law_names") fd__law_names := Fk__law_names
  have F__law_names : Fun K "_law_names" "_law_names" sNms (ga K "_law_names") fd__law_names := fun_of Fk__law_names
  have D__law_names : Dn K mg "_law_names" sNms ["_law_s", "_law_many"] (ga K "_law_names") fd__law_names := ⟨F__law_names, g__law_names, F__law_names.binds (ps := ["_law_s", "_law_many"]) fun _ _ _ _ _ _ us hl => match us, hl with | [_, _], _ => rfl⟩
  have g__law_rule := glo_ok X G (ft 36 (f := .glo "_law_rule") rfl)
  obtain ⟨fd__law_rule, Fk__law_rule⟩ := c.def_ 23 (d := d__law_rule) rfl
  have Fk__law_rule : FunD K "_law_rule" "_law_rule" (defArgs sRle) (defBody sRle) (defScope sRle) [] [] (ga K "_law_rule") fd__law_rule := Fk__law_rule
  have F__law_rule : Fun K "_law_rule" "_law_rule" sRle (ga K "_law_rule") fd__law_rule := fun_of Fk__law_rule
  have D__law_rule : Dn K mg "_law_rule" sRle ["_law_s", "_law_m", "_law_name_here"] (ga K "_law_rule") fd__law_rule := ⟨F__law_rule, g__law_rule, F__law_rule.binds (ps := ["_law_s", "_law_m", "_law_name_here"]) fun _ _ _ _ _ _ us hl => match us, hl with | [_, _, _], _ => rfl⟩
  have g__law_making := glo_ok X G (ft 37 (f := .glo "_law_making") rfl)
  obtain ⟨fd__law_making, Fk__law_making⟩ := c.def_ 24 (d := d__law_making) rfl
  have Fk__law_making : FunD K "_law_making" "_law_making" (defArgs sMkg) (defBody sMkg) (defScope sMkg) [] [] (ga K "_law_making") fd__law_making := Fk__law_making
  have F__law_making : Fun K "_law_making" "_law_making" sMkg (ga K "_law_making") fd__law_making := fun_of Fk__law_making
  have D__law_making : Dn K mg "_law_making" sMkg ["_law_s", "_law_m", "_law_maker", "_law_made"] (ga K "_law_making") fd__law_making := ⟨F__law_making, g__law_making, F__law_making.binds (ps := ["_law_s", "_law_m", "_law_maker", "_law_made"]) fun _ _ _ _ _ _ us hl => match us, hl with | [_, _, _, _], _ => rfl⟩
  have g__law_model := glo_ok X G (ft 38 (f := .glo "_law_model") rfl)
  obtain ⟨fd__law_model, Fk__law_model⟩ := c.def_ 25 (d := d__law_model) rfl
  have Fk__law_model : FunD K "_law_model" "_law_model" (defArgs sMdl) (defBody sMdl) (defScope sMdl) [] [] (ga K "_law_model") fd__law_model := Fk__law_model
  have F__law_model : Fun K "_law_model" "_law_model" sMdl (ga K "_law_model") fd__law_model := fun_of Fk__law_model
  have D__law_model : Dn K mg "_law_model" sMdl ["_law_s", "_law_rules", "_law_most"] (ga K "_law_model") fd__law_model := ⟨F__law_model, g__law_model, F__law_model.binds (ps := ["_law_s", "_law_rules", "_law_most"]) fun _ _ _ _ _ _ us hl => match us, hl with | [_, _, _], _ => rfl⟩
  have g__law_scheme := glo_ok X G (ft 39 (f := .glo "_law_scheme") rfl)
  obtain ⟨fd__law_scheme, Fk__law_scheme⟩ := c.def_ 26 (d := d__law_scheme) rfl
  have Fk__law_scheme : FunD K "_law_scheme" "_law_scheme" (defArgs sSce) (defBody sSce) (defScope sSce) [] [] (ga K "_law_scheme") fd__law_scheme := Fk__law_scheme
  have F__law_scheme : Fun K "_law_scheme" "_law_scheme" sSce (ga K "_law_scheme") fd__law_scheme := fun_of Fk__law_scheme
  have D__law_scheme : Dn K mg "_law_scheme" sSce ["_law_m"] (ga K "_law_scheme") fd__law_scheme := ⟨F__law_scheme, g__law_scheme, F__law_scheme.binds (ps := ["_law_m"]) fun _ _ _ _ _ _ us hl => match us, hl with | [_], _ => rfl⟩
  have g__law_told := glo_ok X G (ft 40 (f := .glo "_law_told") rfl)
  obtain ⟨fd__law_told, Fk__law_told⟩ := c.def_ 27 (d := d__law_told) rfl
  have Fk__law_told : FunD K "_law_told" "_law_told" (defArgs sTld) (defBody sTld) (defScope sTld) [] [] (ga K "_law_told") fd__law_told := Fk__law_told
  have F__law_told : Fun K "_law_told" "_law_told" sTld (ga K "_law_told") fd__law_told := fun_of Fk__law_told
  have D__law_told : Dn K mg "_law_told" sTld ["_law_e"] (ga K "_law_told") fd__law_told := ⟨F__law_told, g__law_told, F__law_told.binds (ps := ["_law_e"]) fun _ _ _ _ _ _ us hl => match us, hl with | [_], _ => rfl⟩
  have g__law_house := glo_ok X G (ft 41 (f := .glo "_law_house") rfl)
  obtain ⟨fd__law_house, Fk__law_house⟩ := c.def_ 28 (d := d__law_house) rfl
  have Fk__law_house : FunD K "_law_house" "_law_house" (defArgs sHou) (defBody sHou) (defScope sHou) [] [] (ga K "_law_house") fd__law_house := Fk__law_house
  have F__law_house : Fun K "_law_house" "_law_house" sHou (ga K "_law_house") fd__law_house := fun_of Fk__law_house
  have D__law_house : Dn K mg "_law_house" sHou [] (ga K "_law_house") fd__law_house := ⟨F__law_house, g__law_house, F__law_house.binds (ps := []) fun _ _ _ _ _ _ us hl => match us, hl with | [], _ => rfl⟩
  have g__law_right := glo_ok X G (ft 42 (f := .glo "_law_right") rfl)
  obtain ⟨fd__law_right, Fk__law_right⟩ := c.def_ 29 (d := d__law_right) rfl
  have Fk__law_right : FunD K "_law_right" "_law_right" (defArgs sRgt) (defBody sRgt) (defScope sRgt) [] [] (ga K "_law_right") fd__law_right := Fk__law_right
  have F__law_right : Fun K "_law_right" "_law_right" sRgt (ga K "_law_right") fd__law_right := fun_of Fk__law_right
  have D__law_right : Dn K mg "_law_right" sRgt ["_law_house_here", "_law_h"] (ga K "_law_right") fd__law_right := ⟨F__law_right, g__law_right, F__law_right.binds (ps := ["_law_house_here", "_law_h"]) fun _ _ _ _ _ _ us hl => match us, hl with | [_, _], _ => rfl⟩
  have g__law_begun := glo_ok X G (ft 43 (f := .glo "_law_begun") rfl)
  obtain ⟨fd__law_begun, Fk__law_begun⟩ := c.def_ 30 (d := d__law_begun) rfl
  have Fk__law_begun : FunD K "_law_begun" "_law_begun" (defArgs sBeg) (defBody sBeg) (defScope sBeg) [] [] (ga K "_law_begun") fd__law_begun := Fk__law_begun
  have F__law_begun : Fun K "_law_begun" "_law_begun" sBeg (ga K "_law_begun") fd__law_begun := fun_of Fk__law_begun
  have D__law_begun : Dn K mg "_law_begun" sBeg ["_law_s", "_law_m", "_law_house_here", "_law_many"] (ga K "_law_begun") fd__law_begun := ⟨F__law_begun, g__law_begun, F__law_begun.binds (ps := ["_law_s", "_law_m", "_law_house_here", "_law_many"]) fun _ _ _ _ _ _ us hl => match us, hl with | [_, _, _, _], _ => rfl⟩
  have g_thing_by_variable := glo_ok X G (ft 44 (f := .glo "thing_by_variable") rfl)
  obtain ⟨fd_thing_by_variable, Fk_thing_by_variable⟩ := c.def_ 31 (d := d_thing_by_variable) rfl
  have Fk_thing_by_variable : FunD K "thing_by_variable" "thing_by_variable" (defArgs sTbv) (defBody sTbv) (defScope sTbv) [] [] (ga K "thing_by_variable") fd_thing_by_variable := Fk_thing_by_variable
  have F_thing_by_variable : Fun K "thing_by_variable" "thing_by_variable" sTbv (ga K "thing_by_variable") fd_thing_by_variable := fun_of Fk_thing_by_variable
  have D_thing_by_variable : Dn K mg "thing_by_variable" sTbv ["pattern", "things"] (ga K "thing_by_variable") fd_thing_by_variable := ⟨F_thing_by_variable, g_thing_by_variable, F_thing_by_variable.binds (ps := ["pattern", "things"]) fun _ _ _ _ _ _ us hl => match us, hl with | [_, _], _ => rfl⟩
  have g_put_in := glo_ok X G (ft 45 (f := .glo "put_in") rfl)
  obtain ⟨fd_put_in, Fk_put_in⟩ := c.def_ 32 (d := d_put_in) rfl
  have Fk_put_in : FunD K "put_in" "put_in" (defArgs sPin) (defBody sPin) (defScope sPin) [] [] (ga K "put_in") fd_put_in := Fk_put_in
  have F_put_in : Fun K "put_in" "put_in" sPin (ga K "put_in") fd_put_in := fun_of Fk_put_in
  have D_put_in : Dn K mg "put_in" sPin ["triple", "thing_of"] (ga K "put_in") fd_put_in := ⟨F_put_in, g_put_in, F_put_in.binds (ps := ["triple", "thing_of"]) fun _ _ _ _ _ _ us hl => match us, hl with | [_, _], _ => rfl⟩
  have g_conditions_at := glo_ok X G (ft 46 (f := .glo "conditions_at") rfl)
  obtain ⟨fd_conditions_at, Fk_conditions_at⟩ := c.def_ 33 (d := d_conditions_at) rfl
  have Fk_conditions_at : FunD K "conditions_at" "conditions_at" (defArgs sCat) (defBody sCat) (defScope sCat) [] [] (ga K "conditions_at") fd_conditions_at := Fk_conditions_at
  have F_conditions_at : Fun K "conditions_at" "conditions_at" sCat (ga K "conditions_at") fd_conditions_at := fun_of Fk_conditions_at
  have D_conditions_at : Dn K mg "conditions_at" sCat ["pattern", "things"] (ga K "conditions_at") fd_conditions_at := ⟨F_conditions_at, g_conditions_at, F_conditions_at.binds (ps := ["pattern", "things"]) fun _ _ _ _ _ _ us hl => match us, hl with | [_, _], _ => rfl⟩
  have g_given_at := glo_ok X G (ft 47 (f := .glo "given_at") rfl)
  obtain ⟨fd_given_at, Fk_given_at⟩ := c.def_ 34 (d := d_given_at) rfl
  have Fk_given_at : FunD K "given_at" "given_at" (defArgs sGat) (defBody sGat) (defScope sGat) [] [] (ga K "given_at") fd_given_at := Fk_given_at
  have F_given_at : Fun K "given_at" "given_at" sGat (ga K "given_at") fd_given_at := fun_of Fk_given_at
  have D_given_at : Dn K mg "given_at" sGat ["rule", "things"] (ga K "given_at") fd_given_at := ⟨F_given_at, g_given_at, F_given_at.binds (ps := ["rule", "things"]) fun _ _ _ _ _ _ us hl => match us, hl with | [_, _], _ => rfl⟩
  have g_hand_at := glo_ok X G (ft 48 (f := .glo "hand_at") rfl)
  obtain ⟨fd_hand_at, Fk_hand_at⟩ := c.def_ 35 (d := d_hand_at) rfl
  have Fk_hand_at : FunD K "hand_at" "hand_at" (defArgs sHat) (defBody sHat) (defScope sHat) [] [] (ga K "hand_at") fd_hand_at := Fk_hand_at
  have F_hand_at : Fun K "hand_at" "hand_at" sHat (ga K "hand_at") fd_hand_at := fun_of Fk_hand_at
  have D_hand_at : Dn K mg "hand_at" sHat ["rule", "things"] (ga K "hand_at") fd_hand_at := ⟨F_hand_at, g_hand_at, F_hand_at.binds (ps := ["rule", "things"]) fun _ _ _ _ _ _ us hl => match us, hl with | [_, _], _ => rfl⟩
  have g_makings_from := glo_ok X G (ft 49 (f := .glo "makings_from") rfl)
  obtain ⟨fd_makings_from, Fk_makings_from⟩ := c.def_ 36 (d := d_makings_from) rfl
  have Fk_makings_from : FunD K "makings_from" "makings_from" (defArgs sMF) (defBody sMF) (defScope sMF) [] [] (ga K "makings_from") fd_makings_from := Fk_makings_from
  have F_makings_from : Fun K "makings_from" "makings_from" sMF (ga K "makings_from") fd_makings_from := fun_of Fk_makings_from
  have D_makings_from : Dn K mg "makings_from" sMF ["scheme", "sort"] (ga K "makings_from") fd_makings_from := ⟨F_makings_from, g_makings_from, F_makings_from.binds (ps := ["scheme", "sort"]) fun _ _ _ _ _ _ us hl => match us, hl with | [_, _], _ => rfl⟩
  have g_making_between := glo_ok X G (ft 50 (f := .glo "making_between") rfl)
  obtain ⟨fd_making_between, Fk_making_between⟩ := c.def_ 37 (d := d_making_between) rfl
  have Fk_making_between : FunD K "making_between" "making_between" (defArgs sMB) (defBody sMB) (defScope sMB) [] [] (ga K "making_between") fd_making_between := Fk_making_between
  have F_making_between : Fun K "making_between" "making_between" sMB (ga K "making_between") fd_making_between := fun_of Fk_making_between
  have D_making_between : Dn K mg "making_between" sMB ["scheme", "maker", "made"] (ga K "making_between") fd_making_between := ⟨F_making_between, g_making_between, F_making_between.binds (ps := ["scheme", "maker", "made"]) fun _ _ _ _ _ _ us hl => match us, hl with | [_, _, _], _ => rfl⟩
  have g_made_holdings := glo_ok X G (ft 51 (f := .glo "made_holdings") rfl)
  obtain ⟨fd_made_holdings, Fk_made_holdings⟩ := c.def_ 38 (d := d_made_holdings) rfl
  have Fk_made_holdings : FunD K "made_holdings" "made_holdings" (defArgs sMH) (defBody sMH) (defScope sMH) [] [] (ga K "made_holdings") fd_made_holdings := Fk_made_holdings
  have F_made_holdings : Fun K "made_holdings" "made_holdings" sMH (ga K "made_holdings") fd_made_holdings := fun_of Fk_made_holdings
  have D_made_holdings : Dn K mg "made_holdings" sMH ["making", "maker", "name"] (ga K "made_holdings") fd_made_holdings := ⟨F_made_holdings, g_made_holdings, F_made_holdings.binds (ps := ["making", "maker", "name"]) fun _ _ _ _ _ _ us hl => match us, hl with | [_, _, _], _ => rfl⟩
  have g_refuse_asleep := glo_ok X G (ft 52 (f := .glo "refuse_asleep") rfl)
  obtain ⟨fd_refuse_asleep, Fk_refuse_asleep⟩ := c.def_ 39 (d := d_refuse_asleep) rfl
  have Fk_refuse_asleep : FunD K "refuse_asleep" "refuse_asleep" (defArgs sRAs) (defBody sRAs) (defScope sRAs) [] [] (ga K "refuse_asleep") fd_refuse_asleep := Fk_refuse_asleep
  have F_refuse_asleep : Fun K "refuse_asleep" "refuse_asleep" sRAs (ga K "refuse_asleep") fd_refuse_asleep := fun_of Fk_refuse_asleep
  have D_refuse_asleep : Dn K mg "refuse_asleep" sRAs ["house", "name"] (ga K "refuse_asleep") fd_refuse_asleep := ⟨F_refuse_asleep, g_refuse_asleep, F_refuse_asleep.binds (ps := ["house", "name"]) fun _ _ _ _ _ _ us hl => match us, hl with | [_, _], _ => rfl⟩
  have g_refuse_not_held := glo_ok X G (ft 53 (f := .glo "refuse_not_held") rfl)
  obtain ⟨fd_refuse_not_held, Fk_refuse_not_held⟩ := c.def_ 40 (d := d_refuse_not_held) rfl
  have Fk_refuse_not_held : FunD K "refuse_not_held" "refuse_not_held" (defArgs sRNH) (defBody sRNH) (defScope sRNH) [] [] (ga K "refuse_not_held") fd_refuse_not_held := Fk_refuse_not_held
  have F_refuse_not_held : Fun K "refuse_not_held" "refuse_not_held" sRNH (ga K "refuse_not_held") fd_refuse_not_held := fun_of Fk_refuse_not_held
  have D_refuse_not_held : Dn K mg "refuse_not_held" sRNH ["house", "x", "word", "y"] (ga K "refuse_not_held") fd_refuse_not_held := ⟨F_refuse_not_held, g_refuse_not_held, F_refuse_not_held.binds (ps := ["house", "x", "word", "y"]) fun _ _ _ _ _ _ us hl => match us, hl with | [_, _, _, _], _ => rfl⟩
  have g_refuse_misfit := glo_ok X G (ft 54 (f := .glo "refuse_misfit") rfl)
  obtain ⟨fd_refuse_misfit, Fk_refuse_misfit⟩ := c.def_ 41 (d := d_refuse_misfit) rfl
  have Fk_refuse_misfit : FunD K "refuse_misfit" "refuse_misfit" (defArgs sRMi) (defBody sRMi) (defScope sRMi) [] [] (ga K "refuse_misfit") fd_refuse_misfit := Fk_refuse_misfit
  have F_refuse_misfit : Fun K "refuse_misfit" "refuse_misfit" sRMi (ga K "refuse_misfit") fd_refuse_misfit := fun_of Fk_refuse_misfit
  have D_refuse_misfit : Dn K mg "refuse_misfit" sRMi ["house", "rule", "things"] (ga K "refuse_misfit") fd_refuse_misfit := ⟨F_refuse_misfit, g_refuse_misfit, F_refuse_misfit.binds (ps := ["house", "rule", "things"]) fun _ _ _ _ _ _ us hl => match us, hl with | [_, _, _], _ => rfl⟩
  have g_play_make := glo_ok X G (ft 55 (f := .glo "play_make") rfl)
  obtain ⟨fd_play_make, Fk_play_make⟩ := c.def_ 42 (d := d_play_make) rfl
  have Fk_play_make : FunD K "play_make" "play_make" (defArgs sPMk) (defBody sPMk) (defScope sPMk) [] [] (ga K "play_make") fd_play_make := Fk_play_make
  have F_play_make : Fun K "play_make" "play_make" sPMk (ga K "play_make") fd_play_make := fun_of Fk_play_make
  have D_play_make : Dn K mg "play_make" sPMk ["house", "maker", "sort", "name"] (ga K "play_make") fd_play_make := ⟨F_play_make, g_play_make, F_play_make.binds (ps := ["house", "maker", "sort", "name"]) fun _ _ _ _ _ _ us hl => match us, hl with | [_, _, _, _], _ => rfl⟩
  have g_play_do := glo_ok X G (ft 56 (f := .glo "play_do") rfl)
  obtain ⟨fd_play_do, Fk_play_do⟩ := c.def_ 43 (d := d_play_do) rfl
  have Fk_play_do : FunD K "play_do" "play_do" (defArgs sPDo) (defBody sPDo) (defScope sPDo) [] [] (ga K "play_do") fd_play_do := Fk_play_do
  have F_play_do : Fun K "play_do" "play_do" sPDo (ga K "play_do") fd_play_do := fun_of Fk_play_do
  have D_play_do : Dn K mg "play_do" sPDo ["house", "name", "things"] (ga K "play_do") fd_play_do := ⟨F_play_do, g_play_do, F_play_do.binds (ps := ["house", "name", "things"]) fun _ _ _ _ _ _ us hl => match us, hl with | [_, _, _], _ => rfl⟩
  have g_play_drop := glo_ok X G (ft 57 (f := .glo "play_drop") rfl)
  obtain ⟨fd_play_drop, Fk_play_drop⟩ := c.def_ 44 (d := d_play_drop) rfl
  have Fk_play_drop : FunD K "play_drop" "play_drop" (defArgs sPDr) (defBody sPDr) (defScope sPDr) [] [] (ga K "play_drop") fd_play_drop := Fk_play_drop
  have F_play_drop : Fun K "play_drop" "play_drop" sPDr (ga K "play_drop") fd_play_drop := fun_of Fk_play_drop
  have D_play_drop : Dn K mg "play_drop" sPDr ["house", "x", "word", "y"] (ga K "play_drop") fd_play_drop := ⟨F_play_drop, g_play_drop, F_play_drop.binds (ps := ["house", "x", "word", "y"]) fun _ _ _ _ _ _ us hl => match us, hl with | [_, _, _, _], _ => rfl⟩
  have g_play := glo_ok X G (ft 58 (f := .glo "play") rfl)
  obtain ⟨fd_play, Fk_play⟩ := c.def_ 45 (d := d_play) rfl
  have Fk_play : FunD K "play" "play" (defArgs sPly) (defBody sPly) (defScope sPly) [] [] (ga K "play") fd_play := Fk_play
  have F_play : Fun K "play" "play" sPly (ga K "play") fd_play := fun_of Fk_play
  have D_play : Dn K mg "play" sPly ["house", "deed"] (ga K "play") fd_play := ⟨F_play, g_play, F_play.binds (ps := ["house", "deed"]) fun _ _ _ _ _ _ us hl => match us, hl with | [_, _], _ => rfl⟩
  have g__law_is_name := glo_ok X G (ft 59 (f := .glo "_law_is_name") rfl)
  obtain ⟨fd__law_is_name, Fk__law_is_name⟩ := c.def_ 46 (d := d__law_is_name) rfl
  have Fk__law_is_name : FunD K "_law_is_name" "_law_is_name" (defArgs sLNm) (defBody sLNm) (defScope sLNm) [] [] (ga K "_law_is_name") fd__law_is_name := Fk__law_is_name
  have F__law_is_name : Fun K "_law_is_name" "_law_is_name" sLNm (ga K "_law_is_name") fd__law_is_name := fun_of Fk__law_is_name
  have D__law_is_name : Dn K mg "_law_is_name" sLNm ["_law_text"] (ga K "_law_is_name") fd__law_is_name := ⟨F__law_is_name, g__law_is_name, F__law_is_name.binds (ps := ["_law_text"]) fun _ _ _ _ _ _ us hl => match us, hl with | [_], _ => rfl⟩
  have g__law_unasked := glo_ok X G (ft 60 (f := .glo "_law_unasked") rfl)
  obtain ⟨fd__law_unasked, Fk__law_unasked⟩ := c.def_ 47 (d := d__law_unasked) rfl
  have Fk__law_unasked : FunD K "_law_unasked" "_law_unasked" (defArgs sUna) (defBody sUna) (defScope sUna) [] [] (ga K "_law_unasked") fd__law_unasked := Fk__law_unasked
  have F__law_unasked : Fun K "_law_unasked" "_law_unasked" sUna (ga K "_law_unasked") fd__law_unasked := fun_of Fk__law_unasked
  have D__law_unasked : Dn K mg "_law_unasked" sUna ["_law_h", "_law_m", "_law_x", "_law_word", "_law_y"] (ga K "_law_unasked") fd__law_unasked := ⟨F__law_unasked, g__law_unasked, F__law_unasked.binds (ps := ["_law_h", "_law_m", "_law_x", "_law_word", "_law_y"]) fun _ _ _ _ _ _ us hl => match us, hl with | [_, _, _, _, _], _ => rfl⟩
  have g__law_make_due := glo_ok X G (ft 61 (f := .glo "_law_make_due") rfl)
  obtain ⟨fd__law_make_due, Fk__law_make_due⟩ := c.def_ 48 (d := d__law_make_due) rfl
  have Fk__law_make_due : FunD K "_law_make_due" "_law_make_due" (defArgs sMkD) (defBody sMkD) (defScope sMkD) [] [] (ga K "_law_make_due") fd__law_make_due := Fk__law_make_due
  have F__law_make_due : Fun K "_law_make_due" "_law_make_due" sMkD (ga K "_law_make_due") fd__law_make_due := fun_of Fk__law_make_due
  have D__law_make_due : Dn K mg "_law_make_due" sMkD ["_law_h", "_law_m", "_law_deed_here"] (ga K "_law_make_due") fd__law_make_due := ⟨F__law_make_due, g__law_make_due, F__law_make_due.binds (ps := ["_law_h", "_law_m", "_law_deed_here"]) fun _ _ _ _ _ _ us hl => match us, hl with | [_, _, _], _ => rfl⟩
  have g__law_do_due := glo_ok X G (ft 62 (f := .glo "_law_do_due") rfl)
  obtain ⟨fd__law_do_due, Fk__law_do_due⟩ := c.def_ 49 (d := d__law_do_due) rfl
  have Fk__law_do_due : FunD K "_law_do_due" "_law_do_due" (defArgs sDoD) (defBody sDoD) (defScope sDoD) [] [] (ga K "_law_do_due") fd__law_do_due := Fk__law_do_due
  have F__law_do_due : Fun K "_law_do_due" "_law_do_due" sDoD (ga K "_law_do_due") fd__law_do_due := fun_of Fk__law_do_due
  have D__law_do_due : Dn K mg "_law_do_due" sDoD ["_law_h", "_law_m", "_law_deed_here"] (ga K "_law_do_due") fd__law_do_due := ⟨F__law_do_due, g__law_do_due, F__law_do_due.binds (ps := ["_law_h", "_law_m", "_law_deed_here"]) fun _ _ _ _ _ _ us hl => match us, hl with | [_, _, _], _ => rfl⟩
  have g__law_drop_due := glo_ok X G (ft 63 (f := .glo "_law_drop_due") rfl)
  obtain ⟨fd__law_drop_due, Fk__law_drop_due⟩ := c.def_ 50 (d := d__law_drop_due) rfl
  have Fk__law_drop_due : FunD K "_law_drop_due" "_law_drop_due" (defArgs sDrD) (defBody sDrD) (defScope sDrD) [] [] (ga K "_law_drop_due") fd__law_drop_due := Fk__law_drop_due
  have F__law_drop_due : Fun K "_law_drop_due" "_law_drop_due" sDrD (ga K "_law_drop_due") fd__law_drop_due := fun_of Fk__law_drop_due
  have D__law_drop_due : Dn K mg "_law_drop_due" sDrD ["_law_h", "_law_m", "_law_deed_here"] (ga K "_law_drop_due") fd__law_drop_due := ⟨F__law_drop_due, g__law_drop_due, F__law_drop_due.binds (ps := ["_law_h", "_law_m", "_law_deed_here"]) fun _ _ _ _ _ _ us hl => match us, hl with | [_, _, _], _ => rfl⟩
  have g__law_due := glo_ok X G (ft 64 (f := .glo "_law_due") rfl)
  obtain ⟨fd__law_due, Fk__law_due⟩ := c.def_ 51 (d := d__law_due) rfl
  have Fk__law_due : FunD K "_law_due" "_law_due" (defArgs sAll) (defBody sAll) (defScope sAll) [] [] (ga K "_law_due") fd__law_due := Fk__law_due
  have F__law_due : Fun K "_law_due" "_law_due" sAll (ga K "_law_due") fd__law_due := fun_of Fk__law_due
  have D__law_due : Dn K mg "_law_due" sAll ["_law_h", "_law_m", "_law_deed_here"] (ga K "_law_due") fd__law_due := ⟨F__law_due, g__law_due, F__law_due.binds (ps := ["_law_h", "_law_m", "_law_deed_here"]) fun _ _ _ _ _ _ us hl => match us, hl with | [_, _, _], _ => rfl⟩
  have g__law_given := glo_ok X G (ft 65 (f := .glo "_law_given") rfl)
  obtain ⟨fd__law_given, Fk__law_given⟩ := c.def_ 52 (d := d__law_given) rfl
  have Fk__law_given : FunD K "_law_given" "_law_given" (defArgs sGvn) (defBody sGvn) (defScope sGvn) [] [] (ga K "_law_given") fd__law_given := Fk__law_given
  have F__law_given : Fun K "_law_given" "_law_given" sGvn (ga K "_law_given") fd__law_given := fun_of Fk__law_given
  have D__law_given : Dn K mg "_law_given" sGvn ["_law_m", "_law_deed_here"] (ga K "_law_given") fd__law_given := ⟨F__law_given, g__law_given, F__law_given.binds (ps := ["_law_m", "_law_deed_here"]) fun _ _ _ _ _ _ us hl => match us, hl with | [_, _], _ => rfl⟩
  have g__law_play := glo_ok X G (ft 66 (f := .glo "_law_play") rfl)
  obtain ⟨fd__law_play, Fk__law_play⟩ := c.def_ 53 (d := d__law_play) rfl
  have Fk__law_play : FunD K "_law_play" "_law_play" (defArgs sPlm) (defBody sPlm) (defScope sPlm) [] [] (ga K "_law_play") fd__law_play := Fk__law_play
  have F__law_play : Fun K "_law_play" "_law_play" sPlm (ga K "_law_play") fd__law_play := fun_of Fk__law_play
  have D__law_play : Dn K mg "_law_play" sPlm ["_law_h", "_law_m", "_law_deed_here"] (ga K "_law_play") fd__law_play := ⟨F__law_play, g__law_play, F__law_play.binds (ps := ["_law_h", "_law_m", "_law_deed_here"]) fun _ _ _ _ _ _ us hl => match us, hl with | [_, _, _], _ => rfl⟩
  have g__law_thing := glo_ok X G (ft 67 (f := .glo "_law_thing") rfl)
  obtain ⟨fd__law_thing, Fk__law_thing⟩ := c.def_ 54 (d := d__law_thing) rfl
  have Fk__law_thing : FunD K "_law_thing" "_law_thing" (defArgs sThg) (defBody sThg) (defScope sThg) [] [] (ga K "_law_thing") fd__law_thing := Fk__law_thing
  have F__law_thing : Fun K "_law_thing" "_law_thing" sThg (ga K "_law_thing") fd__law_thing := fun_of Fk__law_thing
  have D__law_thing : Dn K mg "_law_thing" sThg ["_law_s", "_law_h"] (ga K "_law_thing") fd__law_thing := ⟨F__law_thing, g__law_thing, F__law_thing.binds (ps := ["_law_s", "_law_h"]) fun _ _ _ _ _ _ us hl => match us, hl with | [_, _], _ => rfl⟩
  have g__law_make := glo_ok X G (ft 68 (f := .glo "_law_make") rfl)
  obtain ⟨fd__law_make, Fk__law_make⟩ := c.def_ 55 (d := d__law_make) rfl
  have Fk__law_make : FunD K "_law_make" "_law_make" (defArgs sMke) (defBody sMke) (defScope sMke) [] [] (ga K "_law_make") fd__law_make := Fk__law_make
  have F__law_make : Fun K "_law_make" "_law_make" sMke (ga K "_law_make") fd__law_make := fun_of Fk__law_make
  have D__law_make : Dn K mg "_law_make" sMke ["_law_s", "_law_h", "_law_m"] (ga K "_law_make") fd__law_make := ⟨F__law_make, g__law_make, F__law_make.binds (ps := ["_law_s", "_law_h", "_law_m"]) fun _ _ _ _ _ _ us hl => match us, hl with | [_, _, _], _ => rfl⟩
  have g__law_fits := glo_ok X G (ft 69 (f := .glo "_law_fits") rfl)
  obtain ⟨fd__law_fits, Fk__law_fits⟩ := c.def_ 56 (d := d__law_fits) rfl
  have Fk__law_fits : FunD K "_law_fits" "_law_fits" (defArgs sFit) (defBody sFit) (defScope sFit) [] [] (ga K "_law_fits") fd__law_fits := Fk__law_fits
  have F__law_fits : Fun K "_law_fits" "_law_fits" sFit (ga K "_law_fits") fd__law_fits := fun_of Fk__law_fits
  have D__law_fits : Dn K mg "_law_fits" sFit ["_law_h", "_law_put", "_law_condition"] (ga K "_law_fits") fd__law_fits := ⟨F__law_fits, g__law_fits, F__law_fits.binds (ps := ["_law_h", "_law_put", "_law_condition"]) fun _ _ _ _ _ _ us hl => match us, hl with | [_, _, _], _ => rfl⟩
  have g__law_do := glo_ok X G (ft 70 (f := .glo "_law_do") rfl)
  obtain ⟨fd__law_do, Fk__law_do⟩ := c.def_ 57 (d := d__law_do) rfl
  have Fk__law_do : FunD K "_law_do" "_law_do" (defArgs sDo) (defBody sDo) (defScope sDo) [] [] (ga K "_law_do") fd__law_do := Fk__law_do
  have F__law_do : Fun K "_law_do" "_law_do" sDo (ga K "_law_do") fd__law_do := fun_of Fk__law_do
  have D__law_do : Dn K mg "_law_do" sDo ["_law_s", "_law_h", "_law_m"] (ga K "_law_do") fd__law_do := ⟨F__law_do, g__law_do, F__law_do.binds (ps := ["_law_s", "_law_h", "_law_m"]) fun _ _ _ _ _ _ us hl => match us, hl with | [_, _, _], _ => rfl⟩
  have g__law_drop := glo_ok X G (ft 71 (f := .glo "_law_drop") rfl)
  obtain ⟨fd__law_drop, Fk__law_drop⟩ := c.def_ 58 (d := d__law_drop) rfl
  have Fk__law_drop : FunD K "_law_drop" "_law_drop" (defArgs sDrp) (defBody sDrp) (defScope sDrp) [] [] (ga K "_law_drop") fd__law_drop := Fk__law_drop
  have F__law_drop : Fun K "_law_drop" "_law_drop" sDrp (ga K "_law_drop") fd__law_drop := fun_of Fk__law_drop
  have D__law_drop : Dn K mg "_law_drop" sDrp ["_law_s", "_law_h", "_law_m"] (ga K "_law_drop") fd__law_drop := ⟨F__law_drop, g__law_drop, F__law_drop.binds (ps := ["_law_s", "_law_h", "_law_m"]) fun _ _ _ _ _ _ us hl => match us, hl with | [_, _, _], _ => rfl⟩
  have g__law_deed := glo_ok X G (ft 72 (f := .glo "_law_deed") rfl)
  obtain ⟨fd__law_deed, Fk__law_deed⟩ := c.def_ 59 (d := d__law_deed) rfl
  have Fk__law_deed : FunD K "_law_deed" "_law_deed" (defArgs sDed) (defBody sDed) (defScope sDed) [] [] (ga K "_law_deed") fd__law_deed := Fk__law_deed
  have F__law_deed : Fun K "_law_deed" "_law_deed" sDed (ga K "_law_deed") fd__law_deed := fun_of Fk__law_deed
  have D__law_deed : Dn K mg "_law_deed" sDed ["_law_s", "_law_h", "_law_m"] (ga K "_law_deed") fd__law_deed := ⟨F__law_deed, g__law_deed, F__law_deed.binds (ps := ["_law_s", "_law_h", "_law_m"]) fun _ _ _ _ _ _ us hl => match us, hl with | [_, _, _], _ => rfl⟩
  have g__law_outside := glo_ok X G (ft 73 (f := .glo "_law_outside") rfl)
  obtain ⟨fd__law_outside, Fk__law_outside⟩ := c.def_ 60 (d := d__law_outside) rfl
  have Fk__law_outside : FunD K "_law_outside" "_law_outside" (defArgs sOut) (defBody sOut) (defScope sOut) [] [] (ga K "_law_outside") fd__law_outside := Fk__law_outside
  have F__law_outside : Fun K "_law_outside" "_law_outside" sOut (ga K "_law_outside") fd__law_outside := fun_of Fk__law_outside
  have D__law_outside : Dn K mg "_law_outside" sOut ["_law_s", "_law_m", "_law_house_here", "_law_h"] (ga K "_law_outside") fd__law_outside := ⟨F__law_outside, g__law_outside, F__law_outside.binds (ps := ["_law_s", "_law_m", "_law_house_here", "_law_h"]) fun _ _ _ _ _ _ us hl => match us, hl with | [_, _, _, _], _ => rfl⟩
  have g_law := glo_ok X G (ft 74 (f := .glo "law") rfl)
  obtain ⟨fd_law, Fk_law⟩ := c.def_ 61 (d := d_law) rfl
  have Fk_law : FunD K "law" "law" (defArgs sLaw) (defBody sLaw) (defScope sLaw) [] [] (ga K "law") fd_law := Fk_law
  have F_law : Fun K "law" "law" sLaw (ga K "law") fd_law := fun_of Fk_law
  have FLb := FunD.bindsA (ps := ["_law_script"]) Fk_law fun _ _ _ _ _ _ us hl => match us, hl with | [_], _ => rfl
  have g_Scheme := glo_ok X G (ft 75 (f := .glo "Scheme") rfl)
  have cls_Scheme := cls_ok (ft 76 (f := .cls "Scheme") rfl)
  have na_Scheme_own_sorts := noat_ok (ft 77 (f := .noat "Scheme" "own_sorts") rfl)
  have na_Scheme_own_words := noat_ok (ft 78 (f := .noat "Scheme" "own_words") rfl)
  have na_Scheme_own_makings := noat_ok (ft 79 (f := .noat "Scheme" "own_makings") rfl)
  have na_Scheme_own_rules := noat_ok (ft 80 (f := .noat "Scheme" "own_rules") rfl)
  have na_Scheme_own_bars := noat_ok (ft 81 (f := .noat "Scheme" "own_bars") rfl)
  have mk_Scheme := mkr_ok (ft 82 (f := .mkr "Scheme") rfl)
  have g_Rule := glo_ok X G (ft 83 (f := .glo "Rule") rfl)
  have cls_Rule := cls_ok (ft 84 (f := .cls "Rule") rfl)
  have na_Rule_name := noat_ok (ft 85 (f := .noat "Rule" "name") rfl)
  have na_Rule_variables := noat_ok (ft 86 (f := .noat "Rule" "variables") rfl)
  have na_Rule_conditions := noat_ok (ft 87 (f := .noat "Rule" "conditions") rfl)
  have na_Rule_gives := noat_ok (ft 88 (f := .noat "Rule" "gives") rfl)
  have na_Rule_by := noat_ok (ft 89 (f := .noat "Rule" "by") rfl)
  have mk_Rule := mkr_ok (ft 90 (f := .mkr "Rule") rfl)
  have g_Making := glo_ok X G (ft 91 (f := .glo "Making") rfl)
  have cls_Making := cls_ok (ft 92 (f := .cls "Making") rfl)
  have na_Making_maker := noat_ok (ft 93 (f := .noat "Making" "maker") rfl)
  have na_Making_made := noat_ok (ft 94 (f := .noat "Making" "made") rfl)
  have na_Making_down := noat_ok (ft 95 (f := .noat "Making" "down") rfl)
  have na_Making_up := noat_ok (ft 96 (f := .noat "Making" "up") rfl)
  have mk_Making := mkr_ok (ft 97 (f := .mkr "Making") rfl)
  have g_House := glo_ok X G (ft 98 (f := .glo "House") rfl)
  have cls_House := cls_ok (ft 99 (f := .cls "House") rfl)
  have na_House_own_scheme := noat_ok (ft 100 (f := .noat "House" "own_scheme") rfl)
  have na_House_sort_by_name := noat_ok (ft 101 (f := .noat "House" "sort_by_name") rfl)
  have na_House_awake_by_name := noat_ok (ft 102 (f := .noat "House" "awake_by_name") rfl)
  have na_House_standing := noat_ok (ft 103 (f := .noat "House" "standing") rfl)
  have mk_House := mkr_ok (ft 104 (f := .mkr "House") rfl)
  obtain ⟨fd_NoName___init__, Fk_NoName___init__⟩ := c.def_ 62 (d := d_NoName___init__) rfl
  have Fk_NoName___init__ : FunD K "__init__" "NoName.__init__" (defArgs sN0) (defBody sN0) (defScope sN0) [] [] (ma K (ga K "NoName") "__init__") fd_NoName___init__ := Fk_NoName___init__
  have F_NoName___init__ : Fun K "__init__" "NoName.__init__" sN0 (ma K (ga K "NoName") "__init__") fd_NoName___init__ := fun_of Fk_NoName___init__
  have b_NoName___init__ := F_NoName___init__.binds (ps := ["self", "name"]) fun _ _ _ _ _ _ us hl => match us, hl with | [_, _], _ => rfl
  obtain ⟨fd_NoThing___init__, Fk_NoThing___init__⟩ := c.def_ 63 (d := d_NoThing___init__) rfl
  have Fk_NoThing___init__ : FunD K "__init__" "NoThing.__init__" (defArgs sNT) (defBody sNT) (defScope sNT) [] [] (ma K (ga K "NoThing") "__init__") fd_NoThing___init__ := Fk_NoThing___init__
  have F_NoThing___init__ : Fun K "__init__" "NoThing.__init__" sNT (ma K (ga K "NoThing") "__init__") fd_NoThing___init__ := fun_of Fk_NoThing___init__
  have b_NoThing___init__ := F_NoThing___init__.binds (ps := ["self", "name"]) fun _ _ _ _ _ _ us hl => match us, hl with | [_, _], _ => rfl
  obtain ⟨fd_NoWord___init__, Fk_NoWord___init__⟩ := c.def_ 64 (d := d_NoWord___init__) rfl
  have Fk_NoWord___init__ : FunD K "__init__" "NoWord.__init__" (defArgs sNW) (defBody sNW) (defScope sNW) [] [] (ma K (ga K "NoWord") "__init__") fd_NoWord___init__ := Fk_NoWord___init__
  have F_NoWord___init__ : Fun K "__init__" "NoWord.__init__" sNW (ma K (ga K "NoWord") "__init__") fd_NoWord___init__ := fun_of Fk_NoWord___init__
  have b_NoWord___init__ := F_NoWord___init__.binds (ps := ["self", "name"]) fun _ _ _ _ _ _ us hl => match us, hl with | [_, _], _ => rfl
  obtain ⟨fd_Asleep___init__, Fk_Asleep___init__⟩ := c.def_ 65 (d := d_Asleep___init__) rfl
  have Fk_Asleep___init__ : FunD K "__init__" "Asleep.__init__" (defArgs sAs) (defBody sAs) (defScope sAs) [] [] (ma K (ga K "Asleep") "__init__") fd_Asleep___init__ := Fk_Asleep___init__
  have F_Asleep___init__ : Fun K "__init__" "Asleep.__init__" sAs (ma K (ga K "Asleep") "__init__") fd_Asleep___init__ := fun_of Fk_Asleep___init__
  have b_Asleep___init__ := F_Asleep___init__.binds (ps := ["self", "name"]) fun _ _ _ _ _ _ us hl => match us, hl with | [_, _], _ => rfl
  obtain ⟨fd_NotHeld___init__, Fk_NotHeld___init__⟩ := c.def_ 66 (d := d_NotHeld___init__) rfl
  have Fk_NotHeld___init__ : FunD K "__init__" "NotHeld.__init__" (defArgs sNH) (defBody sNH) (defScope sNH) [] [] (ma K (ga K "NotHeld") "__init__") fd_NotHeld___init__ := Fk_NotHeld___init__
  have F_NotHeld___init__ : Fun K "__init__" "NotHeld.__init__" sNH (ma K (ga K "NotHeld") "__init__") fd_NotHeld___init__ := fun_of Fk_NotHeld___init__
  have b_NotHeld___init__ := F_NotHeld___init__.binds (ps := ["self", "x", "word", "y"]) fun _ _ _ _ _ _ us hl => match us, hl with | [_, _, _, _], _ => rfl
  obtain ⟨fd_Taken___init__, Fk_Taken___init__⟩ := c.def_ 67 (d := d_Taken___init__) rfl
  have Fk_Taken___init__ : FunD K "__init__" "Taken.__init__" (defArgs sTk) (defBody sTk) (defScope sTk) [] [] (ma K (ga K "Taken") "__init__") fd_Taken___init__ := Fk_Taken___init__
  have F_Taken___init__ : Fun K "__init__" "Taken.__init__" sTk (ma K (ga K "Taken") "__init__") fd_Taken___init__ := fun_of Fk_Taken___init__
  have b_Taken___init__ := F_Taken___init__.binds (ps := ["self", "name"]) fun _ _ _ _ _ _ us hl => match us, hl with | [_, _], _ => rfl
  obtain ⟨fd_NoSort___init__, Fk_NoSort___init__⟩ := c.def_ 68 (d := d_NoSort___init__) rfl
  have Fk_NoSort___init__ : FunD K "__init__" "NoSort.__init__" (defArgs sNS) (defBody sNS) (defScope sNS) [] [] (ma K (ga K "NoSort") "__init__") fd_NoSort___init__ := Fk_NoSort___init__
  have F_NoSort___init__ : Fun K "__init__" "NoSort.__init__" sNS (ma K (ga K "NoSort") "__init__") fd_NoSort___init__ := fun_of Fk_NoSort___init__
  have b_NoSort___init__ := F_NoSort___init__.binds (ps := ["self", "name"]) fun _ _ _ _ _ _ us hl => match us, hl with | [_, _], _ => rfl
  obtain ⟨fd_NoRule___init__, Fk_NoRule___init__⟩ := c.def_ 69 (d := d_NoRule___init__) rfl
  have Fk_NoRule___init__ : FunD K "__init__" "NoRule.__init__" (defArgs sNR) (defBody sNR) (defScope sNR) [] [] (ma K (ga K "NoRule") "__init__") fd_NoRule___init__ := Fk_NoRule___init__
  have F_NoRule___init__ : Fun K "__init__" "NoRule.__init__" sNR (ma K (ga K "NoRule") "__init__") fd_NoRule___init__ := fun_of Fk_NoRule___init__
  have b_NoRule___init__ := F_NoRule___init__.binds (ps := ["self", "name"]) fun _ _ _ _ _ _ us hl => match us, hl with | [_, _], _ => rfl
  obtain ⟨fd_Misfit___init__, Fk_Misfit___init__⟩ := c.def_ 70 (d := d_Misfit___init__) rfl
  have Fk_Misfit___init__ : FunD K "__init__" "Misfit.__init__" (defArgs sMi) (defBody sMi) (defScope sMi) [] [] (ma K (ga K "Misfit") "__init__") fd_Misfit___init__ := Fk_Misfit___init__
  have F_Misfit___init__ : Fun K "__init__" "Misfit.__init__" sMi (ma K (ga K "Misfit") "__init__") fd_Misfit___init__ := fun_of Fk_Misfit___init__
  have b_Misfit___init__ := F_Misfit___init__.binds (ps := ["self", "name"]) fun _ _ _ _ _ _ us hl => match us, hl with | [_, _], _ => rfl
  obtain ⟨fd_Full___init__, Fk_Full___init__⟩ := c.def_ 71 (d := d_Full___init__) rfl
  have Fk_Full___init__ : FunD K "__init__" "Full.__init__" (defArgs sFu) (defBody sFu) (defScope sFu) [] [] (ma K (ga K "Full") "__init__") fd_Full___init__ := Fk_Full___init__
  have F_Full___init__ : Fun K "__init__" "Full.__init__" sFu (ma K (ga K "Full") "__init__") fd_Full___init__ := fun_of Fk_Full___init__
  have b_Full___init__ := F_Full___init__.binds (ps := ["self"]) fun _ _ _ _ _ _ us hl => match us, hl with | [_], _ => rfl
  obtain ⟨fd_NoMaking___init__, Fk_NoMaking___init__⟩ := c.def_ 72 (d := d_NoMaking___init__) rfl
  have Fk_NoMaking___init__ : FunD K "__init__" "NoMaking.__init__" (defArgs sNMk) (defBody sNMk) (defScope sNMk) [] [] (ma K (ga K "NoMaking") "__init__") fd_NoMaking___init__ := Fk_NoMaking___init__
  have F_NoMaking___init__ : Fun K "__init__" "NoMaking.__init__" sNMk (ma K (ga K "NoMaking") "__init__") fd_NoMaking___init__ := fun_of Fk_NoMaking___init__
  have b_NoMaking___init__ := F_NoMaking___init__.binds (ps := ["self", "maker", "made"]) fun _ _ _ _ _ _ us hl => match us, hl with | [_, _, _], _ => rfl
  obtain ⟨fd_NoDeed___init__, Fk_NoDeed___init__⟩ := c.def_ 73 (d := d_NoDeed___init__) rfl
  have Fk_NoDeed___init__ : FunD K "__init__" "NoDeed.__init__" (defArgs sNDd) (defBody sNDd) (defScope sNDd) [] [] (ma K (ga K "NoDeed") "__init__") fd_NoDeed___init__ := Fk_NoDeed___init__
  have F_NoDeed___init__ : Fun K "__init__" "NoDeed.__init__" sNDd (ma K (ga K "NoDeed") "__init__") fd_NoDeed___init__ := fun_of Fk_NoDeed___init__
  have b_NoDeed___init__ := F_NoDeed___init__.binds (ps := ["self", "word"]) fun _ _ _ _ _ _ us hl => match us, hl with | [_, _], _ => rfl
  obtain ⟨fd_Rule___init__, Fk_Rule___init__⟩ := c.def_ 74 (d := d_Rule___init__) rfl
  have Fk_Rule___init__ : FunD K "__init__" "Rule.__init__" (defArgs sRul) (defBody sRul) (defScope sRul) [] [] (ma K (ga K "Rule") "__init__") fd_Rule___init__ := Fk_Rule___init__
  have F_Rule___init__ : Fun K "__init__" "Rule.__init__" sRul (ma K (ga K "Rule") "__init__") fd_Rule___init__ := fun_of Fk_Rule___init__
  have b_Rule___init__ := F_Rule___init__.binds (ps := ["self", "name", "variables", "conditions", "gives", "by"]) fun _ _ _ _ _ _ us hl => match us, hl with | [_, _, _, _, _, _], _ => rfl
  obtain ⟨fd_Making___init__, Fk_Making___init__⟩ := c.def_ 75 (d := d_Making___init__) rfl
  have Fk_Making___init__ : FunD K "__init__" "Making.__init__" (defArgs sMak) (defBody sMak) (defScope sMak) [] [] (ma K (ga K "Making") "__init__") fd_Making___init__ := Fk_Making___init__
  have F_Making___init__ : Fun K "__init__" "Making.__init__" sMak (ma K (ga K "Making") "__init__") fd_Making___init__ := fun_of Fk_Making___init__
  have b_Making___init__ := F_Making___init__.binds (ps := ["self", "maker", "made", "down", "up"]) fun _ _ _ _ _ _ us hl => match us, hl with | [_, _, _, _, _], _ => rfl
  have m_Scheme_sorts := meth_ok (ft 105 (f := .meth "Scheme" "sorts") rfl)
  obtain ⟨fd_Scheme_sorts, Fk_Scheme_sorts⟩ := c.def_ 76 (d := d_Scheme_sorts) rfl
  have Fk_Scheme_sorts : FunD K "sorts" "Scheme.sorts" (defArgs sSor) (defBody sSor) (defScope sSor) [] [] (ma K (ga K "Scheme") "sorts") fd_Scheme_sorts := Fk_Scheme_sorts
  have F_Scheme_sorts : Fun K "sorts" "Scheme.sorts" sSor (ma K (ga K "Scheme") "sorts") fd_Scheme_sorts := fun_of Fk_Scheme_sorts
  have b_Scheme_sorts := F_Scheme_sorts.binds (ps := ["self"]) fun _ _ _ _ _ _ us hl => match us, hl with | [_], _ => rfl
  have m_Scheme_words := meth_ok (ft 106 (f := .meth "Scheme" "words") rfl)
  obtain ⟨fd_Scheme_words, Fk_Scheme_words⟩ := c.def_ 77 (d := d_Scheme_words) rfl
  have Fk_Scheme_words : FunD K "words" "Scheme.words" (defArgs sWor) (defBody sWor) (defScope sWor) [] [] (ma K (ga K "Scheme") "words") fd_Scheme_words := Fk_Scheme_words
  have F_Scheme_words : Fun K "words" "Scheme.words" sWor (ma K (ga K "Scheme") "words") fd_Scheme_words := fun_of Fk_Scheme_words
  have b_Scheme_words := F_Scheme_words.binds (ps := ["self"]) fun _ _ _ _ _ _ us hl => match us, hl with | [_], _ => rfl
  have m_Scheme_makings := meth_ok (ft 107 (f := .meth "Scheme" "makings") rfl)
  obtain ⟨fd_Scheme_makings, Fk_Scheme_makings⟩ := c.def_ 78 (d := d_Scheme_makings) rfl
  have Fk_Scheme_makings : FunD K "makings" "Scheme.makings" (defArgs sSMk) (defBody sSMk) (defScope sSMk) [] [] (ma K (ga K "Scheme") "makings") fd_Scheme_makings := Fk_Scheme_makings
  have F_Scheme_makings : Fun K "makings" "Scheme.makings" sSMk (ma K (ga K "Scheme") "makings") fd_Scheme_makings := fun_of Fk_Scheme_makings
  have b_Scheme_makings := F_Scheme_makings.binds (ps := ["self"]) fun _ _ _ _ _ _ us hl => match us, hl with | [_], _ => rfl
  have m_Scheme_rule := meth_ok (ft 108 (f := .meth "Scheme" "rule") rfl)
  obtain ⟨fd_Scheme_rule, Fk_Scheme_rule⟩ := c.def_ 79 (d := d_Scheme_rule) rfl
  have Fk_Scheme_rule : FunD K "rule" "Scheme.rule" (defArgs sSR1) (defBody sSR1) (defScope sSR1) [] [] (ma K (ga K "Scheme") "rule") fd_Scheme_rule := Fk_Scheme_rule
  have F_Scheme_rule : Fun K "rule" "Scheme.rule" sSR1 (ma K (ga K "Scheme") "rule") fd_Scheme_rule := fun_of Fk_Scheme_rule
  have b_Scheme_rule := F_Scheme_rule.binds (ps := ["self", "name"]) fun _ _ _ _ _ _ us hl => match us, hl with | [_, _], _ => rfl
  obtain ⟨fd_House___init__, Fk_House___init__⟩ := c.def_ 80 (d := d_House___init__) rfl
  have Fk_House___init__ : FunD K "__init__" "House.__init__" (defArgs sHin) (defBody sHin) (defScope sHin) [] [] (ma K (ga K "House") "__init__") fd_House___init__ := Fk_House___init__
  have F_House___init__ : Fun K "__init__" "House.__init__" sHin (ma K (ga K "House") "__init__") fd_House___init__ := fun_of Fk_House___init__
  have b_House___init__ := F_House___init__.binds (ps := ["self", "scheme"]) fun _ _ _ _ _ _ us hl => match us, hl with | [_, _], _ => rfl
  have m_House___len__ := meth_ok (ft 109 (f := .meth "House" "__len__") rfl)
  obtain ⟨fd_House___len__, Fk_House___len__⟩ := c.def_ 81 (d := d_House___len__) rfl
  have Fk_House___len__ : FunD K "__len__" "House.__len__" (defArgs sHln) (defBody sHln) (defScope sHln) [] [] (ma K (ga K "House") "__len__") fd_House___len__ := Fk_House___len__
  have F_House___len__ : Fun K "__len__" "House.__len__" sHln (ma K (ga K "House") "__len__") fd_House___len__ := fun_of Fk_House___len__
  have b_House___len__ := F_House___len__.binds (ps := ["self"]) fun _ _ _ _ _ _ us hl => match us, hl with | [_], _ => rfl
  have m_House_things := meth_ok (ft 110 (f := .meth "House" "things") rfl)
  obtain ⟨fd_House_things, Fk_House_things⟩ := c.def_ 82 (d := d_House_things) rfl
  have Fk_House_things : FunD K "things" "House.things" (defArgs sHth) (defBody sHth) (defScope sHth) [] [] (ma K (ga K "House") "things") fd_House_things := Fk_House_things
  have F_House_things : Fun K "things" "House.things" sHth (ma K (ga K "House") "things") fd_House_things := fun_of Fk_House_things
  have b_House_things := F_House_things.binds (ps := ["self"]) fun _ _ _ _ _ _ us hl => match us, hl with | [_], _ => rfl
  have m_House_sort_of := meth_ok (ft 111 (f := .meth "House" "sort_of") rfl)
  obtain ⟨fd_House_sort_of, Fk_House_sort_of⟩ := c.def_ 83 (d := d_House_sort_of) rfl
  have Fk_House_sort_of : FunD K "sort_of" "House.sort_of" (defArgs sHso) (defBody sHso) (defScope sHso) [] [] (ma K (ga K "House") "sort_of") fd_House_sort_of := Fk_House_sort_of
  have F_House_sort_of : Fun K "sort_of" "House.sort_of" sHso (ma K (ga K "House") "sort_of") fd_House_sort_of := fun_of Fk_House_sort_of
  have b_House_sort_of := F_House_sort_of.binds (ps := ["self", "x"]) fun _ _ _ _ _ _ us hl => match us, hl with | [_, _], _ => rfl
  have m_House_is_awake := meth_ok (ft 112 (f := .meth "House" "is_awake") rfl)
  obtain ⟨fd_House_is_awake, Fk_House_is_awake⟩ := c.def_ 84 (d := d_House_is_awake) rfl
  have Fk_House_is_awake : FunD K "is_awake" "House.is_awake" (defArgs sHia) (defBody sHia) (defScope sHia) [] [] (ma K (ga K "House") "is_awake") fd_House_is_awake := Fk_House_is_awake
  have F_House_is_awake : Fun K "is_awake" "House.is_awake" sHia (ma K (ga K "House") "is_awake") fd_House_is_awake := fun_of Fk_House_is_awake
  have b_House_is_awake := F_House_is_awake.binds (ps := ["self", "x"]) fun _ _ _ _ _ _ us hl => match us, hl with | [_, _], _ => rfl
  have m_House_held := meth_ok (ft 113 (f := .meth "House" "held") rfl)
  obtain ⟨fd_House_held, Fk_House_held⟩ := c.def_ 85 (d := d_House_held) rfl
  have Fk_House_held : FunD K "held" "House.held" (defArgs sHhe) (defBody sHhe) (defScope sHhe) [] [] (ma K (ga K "House") "held") fd_House_held := Fk_House_held
  have F_House_held : Fun K "held" "House.held" sHhe (ma K (ga K "House") "held") fd_House_held := fun_of Fk_House_held
  have b_House_held := F_House_held.binds (ps := ["self"]) fun _ _ _ _ _ _ us hl => match us, hl with | [_], _ => rfl
  have m_House_refuse_no_thing := meth_ok (ft 114 (f := .meth "House" "refuse_no_thing") rfl)
  obtain ⟨fd_House_refuse_no_thing, Fk_House_refuse_no_thing⟩ := c.def_ 86 (d := d_House_refuse_no_thing) rfl
  have Fk_House_refuse_no_thing : FunD K "refuse_no_thing" "House.refuse_no_thing" (defArgs sHrt) (defBody sHrt) (defScope sHrt) [] [] (ma K (ga K "House") "refuse_no_thing") fd_House_refuse_no_thing := Fk_House_refuse_no_thing
  have F_House_refuse_no_thing : Fun K "refuse_no_thing" "House.refuse_no_thing" sHrt (ma K (ga K "House") "refuse_no_thing") fd_House_refuse_no_thing := fun_of Fk_House_refuse_no_thing
  have b_House_refuse_no_thing := F_House_refuse_no_thing.binds (ps := ["self", "name"]) fun _ _ _ _ _ _ us hl => match us, hl with | [_, _], _ => rfl
  have m_House_refuse_strange := meth_ok (ft 115 (f := .meth "House" "refuse_strange") rfl)
  obtain ⟨fd_House_refuse_strange, Fk_House_refuse_strange⟩ := c.def_ 87 (d := d_House_refuse_strange) rfl
  have Fk_House_refuse_strange : FunD K "refuse_strange" "House.refuse_strange" (defArgs sHrs) (defBody sHrs) (defScope sHrs) [] [] (ma K (ga K "House") "refuse_strange") fd_House_refuse_strange := Fk_House_refuse_strange
  have F_House_refuse_strange : Fun K "refuse_strange" "House.refuse_strange" sHrs (ma K (ga K "House") "refuse_strange") fd_House_refuse_strange := fun_of Fk_House_refuse_strange
  have b_House_refuse_strange := F_House_refuse_strange.binds (ps := ["self", "x", "word", "y"]) fun _ _ _ _ _ _ us hl => match us, hl with | [_, _, _, _], _ => rfl
  have m_House_give := meth_ok (ft 116 (f := .meth "House" "give") rfl)
  obtain ⟨fd_House_give, Fk_House_give⟩ := c.def_ 88 (d := d_House_give) rfl
  have Fk_House_give : FunD K "give" "House.give" (defArgs sHgi) (defBody sHgi) (defScope sHgi) [] [] (ma K (ga K "House") "give") fd_House_give := Fk_House_give
  have F_House_give : Fun K "give" "House.give" sHgi (ma K (ga K "House") "give") fd_House_give := fun_of Fk_House_give
  have b_House_give := F_House_give.binds (ps := ["self", "x", "word", "y"]) fun _ _ _ _ _ _ us hl => match us, hl with | [_, _, _, _], _ => rfl
  have m_House_take := meth_ok (ft 117 (f := .meth "House" "take") rfl)
  obtain ⟨fd_House_take, Fk_House_take⟩ := c.def_ 89 (d := d_House_take) rfl
  have Fk_House_take : FunD K "take" "House.take" (defArgs sHta) (defBody sHta) (defScope sHta) [] [] (ma K (ga K "House") "take") fd_House_take := Fk_House_take
  have F_House_take : Fun K "take" "House.take" sHta (ma K (ga K "House") "take") fd_House_take := fun_of Fk_House_take
  have b_House_take := F_House_take.binds (ps := ["self", "x", "word", "y"]) fun _ _ _ _ _ _ us hl => match us, hl with | [_, _, _, _], _ => rfl
  have m_House_scheme := meth_ok (ft 118 (f := .meth "House" "scheme") rfl)
  obtain ⟨fd_House_scheme, Fk_House_scheme⟩ := c.def_ 90 (d := d_House_scheme) rfl
  have Fk_House_scheme : FunD K "scheme" "House.scheme" (defArgs sHsc) (defBody sHsc) (defScope sHsc) [] [] (ma K (ga K "House") "scheme") fd_House_scheme := Fk_House_scheme
  have F_House_scheme : Fun K "scheme" "House.scheme" sHsc (ma K (ga K "House") "scheme") fd_House_scheme := fun_of Fk_House_scheme
  have b_House_scheme := F_House_scheme.binds (ps := ["self"]) fun _ _ _ _ _ _ us hl => match us, hl with | [_], _ => rfl
  have m_House_holds := meth_ok (ft 119 (f := .meth "House" "holds") rfl)
  obtain ⟨fd_House_holds, Fk_House_holds⟩ := c.def_ 91 (d := d_House_holds) rfl
  have Fk_House_holds : FunD K "holds" "House.holds" (defArgs sHho) (defBody sHho) (defScope sHho) [] [] (ma K (ga K "House") "holds") fd_House_holds := Fk_House_holds
  have F_House_holds : Fun K "holds" "House.holds" sHho (ma K (ga K "House") "holds") fd_House_holds := fun_of Fk_House_holds
  have b_House_holds := F_House_holds.binds (ps := ["self", "x", "word", "y"]) fun _ _ _ _ _ _ us hl => match us, hl with | [_, _, _, _], _ => rfl
  have m_House_wake := meth_ok (ft 120 (f := .meth "House" "wake") rfl)
  obtain ⟨fd_House_wake, Fk_House_wake⟩ := c.def_ 92 (d := d_House_wake) rfl
  have Fk_House_wake : FunD K "wake" "House.wake" (defArgs sHwa) (defBody sHwa) (defScope sHwa) [] [] (ma K (ga K "House") "wake") fd_House_wake := Fk_House_wake
  have F_House_wake : Fun K "wake" "House.wake" sHwa (ma K (ga K "House") "wake") fd_House_wake := fun_of Fk_House_wake
  have b_House_wake := F_House_wake.binds (ps := ["self", "x"]) fun _ _ _ _ _ _ us hl => match us, hl with | [_, _], _ => rfl
  have m_House_sleep := meth_ok (ft 121 (f := .meth "House" "sleep") rfl)
  obtain ⟨fd_House_sleep, Fk_House_sleep⟩ := c.def_ 93 (d := d_House_sleep) rfl
  have Fk_House_sleep : FunD K "sleep" "House.sleep" (defArgs sHsl) (defBody sHsl) (defScope sHsl) [] [] (ma K (ga K "House") "sleep") fd_House_sleep := Fk_House_sleep
  have F_House_sleep : Fun K "sleep" "House.sleep" sHsl (ma K (ga K "House") "sleep") fd_House_sleep := fun_of Fk_House_sleep
  have b_House_sleep := F_House_sleep.binds (ps := ["self", "x"]) fun _ _ _ _ _ _ us hl => match us, hl with | [_, _], _ => rfl
  have m_House_enter := meth_ok (ft 122 (f := .meth "House" "enter") rfl)
  have t_abs := free_ok X G (ft 123 (f := .free "abs") rfl)
  have t_int := free_ok X G (ft 124 (f := .free "int") rfl)
  have t_len := free_ok X G (ft 125 (f := .free "len") rfl)
  have t_range := free_ok X G (ft 126 (f := .free "range") rfl)
  have t_all := free_ok X G (ft 127 (f := .free "all") rfl)
  have t_tuple := free_ok X G (ft 128 (f := .free "tuple") rfl)
  have t_enumerate := free_ok X G (ft 129 (f := .free "enumerate") rfl)
  have t_isinstance := free_ok X G (ft 130 (f := .free "isinstance") rfl)
  have t_ValueError := free_ok X G (ft 131 (f := .free "ValueError") rfl)
  have t_list := free_ok X G (ft 132 (f := .free "list") rfl)
  have t_str := free_ok X G (ft 133 (f := .free "str") rfl)
  have t_sorted := free_ok X G (ft 134 (f := .free "sorted") rfl)
  have t_sum := free_ok X G (ft 135 (f := .free "sum") rfl)
  have t_min := free_ok X G (ft 136 (f := .free "min") rfl)
  have t_zip := free_ok X G (ft 137 (f := .free "zip") rfl)
  have e := hfa.symm.trans g_law
  cases e
  have T : TxB mg := ⟨t_abs, t_int, t_len, t_range, t_all, t_tuple, t_enumerate, t_isinstance, t_ValueError⟩
  have TN : TxN mg := ⟨str_ok X G (ft 138 rfl), str_ok X G (ft 139 rfl), int_ok X G (ft 140 rfl)⟩
  have TS : TxS mg := ⟨int_ok X G (ft 141 rfl), int_ok X G (ft 142 rfl), int_ok X G (ft 143 rfl), int_ok X G (ft 144 rfl)⟩
  have TP : TxP mg := ⟨int_ok X G (ft 145 rfl), int_ok X G (ft 146 rfl)⟩
  have MT := int_ok X G (ft 147 rfl)
  obtain ⟨dW0, FW⟩ := c.def_ 94 (d := dWho) rfl
  have FW : FunD K "__init__" "WhoError.__init__" (defArgs sW0) (defBody sW0) (defScope sW0) [.str (PySem.Str.ofString "whoerror")] [] (ma K (ga K "WhoError") "__init__") dW0 := FW
  obtain ⟨ds, hds, bW⟩ := FW.binds1 (ps := ["self", "kind"]) 2 1 (by simp) (by rfl) (fun T kV doc pm an cdv ct us its hu hi => match us, hu, its, hi with | [_, _], _, [_], _ => ⟨_, rfl, rfl⟩)
  cases hds
  have ww := whoB_ok qw
  have TW : WhoT K mg (ga K "WhoError") (ma K (ga K "WhoError") "__init__") dW0 := ⟨g_WhoError, ww.1, ww.2, FW.kp, bW⟩
  have E0 := errB_ok (x := "NoName") qe0 g_NoName
  have E1 := errB_ok (x := "Taken") qe1 g_Taken
  have E2 := errB_ok (x := "NoSort") qe2 g_NoSort
  have E3 := errB_ok (x := "NoThing") qe3 g_NoThing
  have E4 := errB_ok (x := "NoWord") qe4 g_NoWord
  have E5 := errB_ok (x := "Asleep") qe5 g_Asleep
  have E6 := errB_ok (x := "NoRule") qe6 g_NoRule
  have E7 := errB_ok (x := "Misfit") qe7 g_Misfit
  have E8 := errB_ok (x := "Full") qe8 g_Full
  have E9 := errB_ok (x := "NotHeld") qe9 g_NotHeld
  have E10 := errB_ok (x := "NoMaking") qe10 g_NoMaking
  have E11 := errB_ok (x := "NoDeed") qe11 g_NoDeed
  have er : ∀ {i : Nat} {Z : Addr}, ([ga K "NoName", ga K "Taken", ga K "NoSort", ga K "NoThing", ga K "NoWord", ga K "Asleep", ga K "NoRule", ga K "Misfit", ga K "Full", ga K "NotHeld", ga K "NoMaking", ga K "NoDeed"] : List Addr)[i]? = some Z → ErK K Z (ga K "NoName") (ga K "Taken") (ga K "NoSort") (ga K "NoThing") (ga K "NoWord") (ga K "Asleep") (ga K "NoRule") (ga K "Misfit") (ga K "Full") (ga K "NotHeld") (ga K "NoMaking") (ga K "NoDeed") (ga K "WhoError") i := fun {i Z} h => by
    match i, h with
    | 0, h =>
      cases h
      exact kitB_ok k0 E0.2.1 E0.2.2.1
    | 1, h =>
      cases h
      exact kitB_ok k1 E1.2.1 E1.2.2.1
    | 2, h =>
      cases h
      exact kitB_ok k2 E2.2.1 E2.2.2.1
    | 3, h =>
      cases h
      exact kitB_ok k3 E3.2.1 E3.2.2.1
    | 4, h =>
      cases h
      exact kitB_ok k4 E4.2.1 E4.2.2.1
    | 5, h =>
      cases h
      exact kitB_ok k5 E5.2.1 E5.2.2.1
    | 6, h =>
      cases h
      exact kitB_ok k6 E6.2.1 E6.2.2.1
    | 7, h =>
      cases h
      exact kitB_ok k7 E7.2.1 E7.2.2.1
    | 8, h =>
      cases h
      exact kitB_ok k8 E8.2.1 E8.2.2.1
    | 9, h =>
      cases h
      exact kitB_ok k9 E9.2.1 E9.2.2.1
    | 10, h =>
      cases h
      exact kitB_ok k10 E10.2.1 E10.2.2.1
    | 11, h =>
      cases h
      exact kitB_ok q E11.2.1 E11.2.2.1
    | n + 12, h => simp at h
  have nn : ∀ {i : Nat} {Z : Addr}, i < 8 → ([ga K "NoName", ga K "Taken", ga K "NoSort", ga K "NoThing", ga K "NoWord", ga K "Asleep", ga K "NoRule", ga K "Misfit", ga K "Full", ga K "NotHeld", ga K "NoMaking", ga K "NoDeed"] : List Addr)[i]? = some Z → PySem.W.findIn K (.ref Z) "name" = some none := fun {i Z} hi h => by
    match i, hi, h with
    | 0, _, h =>
      cases h
      exact E0.1.nf
    | 1, _, h =>
      cases h
      exact E1.1.nf
    | 2, _, h =>
      cases h
      exact E2.1.nf
    | 3, _, h =>
      cases h
      exact E3.1.nf
    | 4, _, h =>
      cases h
      exact E4.1.nf
    | 5, _, h =>
      cases h
      exact E5.1.nf
    | 6, _, h =>
      cases h
      exact E6.1.nf
    | 7, _, h =>
      cases h
      exact E7.1.nf
    | n + 8, hi, h => omega
  have TE : TxE K mg (ga K "NoName") (ga K "Taken") (ga K "NoSort") (ga K "NoThing") (ga K "NoWord") (ga K "Asleep") (ga K "NoRule") (ga K "Misfit") (ga K "Full") (ga K "NotHeld") (ga K "NoMaking") (ga K "NoDeed") (ga K "WhoError") := ⟨g_NoName, g_Taken, g_NoSort, g_NoThing, g_NoWord, g_Asleep, g_NoRule, g_Misfit, g_Full, g_NotHeld, g_NoMaking, g_NoDeed, g_WhoError, er, nn, E9.2.1, E9.1.nf, eqO_ok qn0, eqO_ok qn1, E10.2.1, E10.1.nf, eqO_ok qn2, E11.2.1, E11.1.nf⟩
  have TC : TxSch K mg (ga K "Scheme") (ma K (ga K "Scheme") "__init__") := ⟨cls_Scheme, na_Scheme_own_sorts, na_Scheme_own_words, na_Scheme_own_makings, na_Scheme_own_rules, na_Scheme_own_bars, g_Scheme, mk_Scheme⟩
  have TH : TxH K mg (ga K "House") (ma K (ga K "House") "__init__") := ⟨cls_House, na_House_own_scheme, na_House_sort_by_name, na_House_awake_by_name, na_House_standing, g_House, mk_House⟩
  have TB : TxBar K mg (ga K "Rule") (ga K "Rule") := ⟨cls_Rule, na_Rule_name, na_Rule_variables, na_Rule_conditions⟩
  have TR : TxRul K mg (ga K "Rule") (ma K (ga K "Rule") "__init__") := ⟨cls_Rule, na_Rule_name, na_Rule_variables, na_Rule_conditions, na_Rule_gives, na_Rule_by, g_Rule, mk_Rule⟩
  have TM : TxMak K mg (ga K "Making") (ma K (ga K "Making") "__init__") := ⟨cls_Making, na_Making_maker, na_Making_made, na_Making_down, na_Making_up, g_Making, mk_Making⟩
  obtain ⟨dSi, FSi⟩ := c.def_ 95 (d := dSch) rfl
  have FSi : FunD K "__init__" "Scheme.__init__" (defArgs sSch) (defBody sSch) (defScope sSch) [.non, .non, .non] [] (ma K (ga K "Scheme") "__init__") dSi := FSi
  obtain ⟨dss, hdss, bSi⟩ := FSi.binds1 (ps := ["self", "sorts", "words", "makings", "rules", "bars"]) 5 2 (by simp) (by rfl) (fun T kV doc pm an cdv ct us its hu hi => match us, hu, its, hi with | [_, _, _, _, _], _, [_, _, _], _ => ⟨_, rfl, rfl⟩)
  have edss : dss = [.none] := by
    cases hdss with
    | cons r1 t1 =>
      cases t1
      cases r1
      rfl
  rw [edss] at bSi
  obtain ⟨dEn, FEn⟩ := c.def_ 96 (d := dEnt) rfl
  have FEn : FunD K "enter" "House.enter" (defArgs sHen) (defBody sHen) (defScope sHen) [.bl true] [] (ma K (ga K "House") "enter") dEn := FEn
  obtain ⟨des, hdes, bEn⟩ := FEn.binds1 (ps := ["self", "name", "sort", "awake"]) 4 1 (by simp) (by rfl) (fun T kV doc pm an cdv ct us its hu hi => match us, hu, its, hi with | [_, _, _, _], _, [_], _ => ⟨_, rfl, rfl⟩)
  cases hdes
  obtain ⟨dfs, hdfs, bEnD⟩ := FEn.binds1 (ps := ["self", "name", "sort", "awake"]) 3 0 (by simp) (by rfl) (fun T kV doc pm an cdv ct us its hu hi => match us, hu, its, hi with | [_, _, _], _, [_], _ => ⟨_, rfl, rfl⟩)
  have edfs : dfs = [.bool true] := by
    cases hdfs with
    | cons r1 t1 =>
      cases t1
      cases r1
      rfl
  rw [edfs] at bEnD
  refine ⟨_, fun s v => FLb s [v] rfl, fun base _ _ => ?_⟩
  have GW : FnOk P w K mg base CX0 1 _ dW0 ["self", "kind"] (spWI K) := ok_who FW
  have GI0 : FnOk P w K mg base CX0 2 _ _ ["self", "name"] (spE1 (ga K "NoName") "name" "noname") := ok_noname F_NoName___init__ E0.1 TW GW
  have GIs : FnOk P w K mg base CX0 1 _ _ ["text"] spName := ok_name F_is_name T TN
  have GRN : FnOk P w K mg base (L2.CX P w) 4 _ _ ["texts"] (spRN K (ga K "NoName")) := ok_rn F_refuse_no_name D_is_name GIs E0.1 b_NoName___init__ GI0
  have GRV : FnOk P w K mg base CX0 2 _ _ ["texts"] (spRNv K) := ok_rnv F_refuse_no_name D_is_name GIs
  have GRT : FnOk P w K mg base CX0 2 _ _ ["names"] (spFT K) := ok_rt F_refuse_twice T D_first_twice
  have GCP : FnOk P w K mg base (L2.CX P w) 5 _ _ ["name", "variables", "conditions", "given", "hands"] (spCP K (ga K "NoName")) := ok_cp F_check_pattern T TP D_refuse_count D_refuse_no_name D_texts_of_pattern D_refuse_twice D_refuse_no_variable D_ends_of D_refuse_loose D_refuse_apart GRN GRT
  have GR : FnOk P w K mg base (L2.CX P w) 6 _ _ ["self", "name", "variables", "conditions", "gives", "by"] (spRul K (ga K "NoName") (ga K "Rule")) := ok_rul F_Rule___init__ T TR D_tuple_of_tuples D_check_pattern GCP
  have GM : FnOk P w K mg base (L2.CX P w) 5 _ _ ["self", "maker", "made", "down", "up"] (spMak K (ga K "NoName") (ga K "Making")) := ok_mak F_Making___init__ T TM D_refuse_no_name D_refuse_twice GRN GRT
  have GCS : FnOk P w K mg base CX0 3 _ _ ["sorts", "words", "makings", "rules", "bars"] (spCS K (ga K "Making") (ga K "Rule") (ga K "Rule")) := ok_cs F_check_scheme T TS TM TR TB D_refuse_count D_refuse_no_name D_refuse_twice D_refuse_makings_twice D_refuse_no_sort D_refuse_upward D_refuse_no_word D_first_twice GRV GRT
  have GS : FnOk P w K mg base CX0 4 _ dSi ["self", "sorts", "words", "makings", "rules", "bars"] (spSch K (ga K "Scheme") (ga K "Making") (ga K "Rule") (ga K "Rule")) := ok_sch FSi t_list TC D_own_list D_check_scheme GCS
  have GSor : FnOk P w K mg base CX0 1 _ _ ["self"] (spSor (ga K "Scheme")) := ok_sor F_Scheme_sorts t_list TC
  have GWor : FnOk P w K mg base CX0 1 _ _ ["self"] (spWor (ga K "Scheme")) := ok_wor F_Scheme_words t_list TC
  have GNm : FnOk P w K mg base CX0 2 _ _ ["_law_s", "_law_taken"] spNam := ok_nam F__law_name T t_str D__law_digit
  have GN : FnOk P w K mg base CX0 3 _ _ ["_law_s", "_law_many"] spNms := ok_nms F__law_names T D__law_name GNm
  have GRl : FnOk P w K mg base CX0 2 _ _ ["_law_s", "_law_m", "_law_name_here"] (spRle K) := ok_rle F__law_rule T t_min D__law_digit
  have GMk : FnOk P w K mg base CX0 2 _ _ ["_law_s", "_law_m", "_law_maker", "_law_made"] spMkg := ok_mkg F__law_making D__law_digit
  have GMd : FnOk P w K mg base CX0 4 _ _ ["_law_s", "_law_rules", "_law_most"] (spMdl K) := ok_mdl F__law_model T D__law_digit D__law_names GN D__law_rule GRl D__law_making GMk
  have GSc : FnOk P w K mg base CX0 8 _ _ ["_law_m"] (spSce K (ga K "Scheme") (ga K "Making") (ga K "Rule") (ga K "Rule")) := ok_sce F__law_scheme t_list TM TR TC b_Making___init__ GM b_Rule___init__ GR bSi GS
  have GHi : FnOk P w K mg base CX0 1 _ _ ["self", "scheme"] (spHin (ga K "House")) := ok_hin F_House___init__ TH
  have GI3 : FnOk P w K mg base CX0 2 _ _ ["self", "name"] (spE1 (ga K "NoThing") "name" "nothing") := ok_noth F_NoThing___init__ E3.1 TW GW
  have GI4 : FnOk P w K mg base CX0 2 _ _ ["self", "name"] (spE1 (ga K "NoWord") "name" "noword") := ok_noword F_NoWord___init__ E4.1 TW GW
  have GI5 : FnOk P w K mg base CX0 2 _ _ ["self", "name"] (spE1 (ga K "Asleep") "name" "asleep") := ok_asleep F_Asleep___init__ E5.1 TW GW
  have GI9 : FnOk P w K mg base CX0 2 _ _ ps4 (spE3 (ga K "NotHeld")) := ok_nheld F_NotHeld___init__ E9.1 (eqO_ok qn0) (eqO_ok qn1) TW GW
  have GRt : FnOk P w K mg base CX0 1 _ _ ["self", "name"] (spHrt (ga K "House") (ga K "Scheme")) := ok_hrt F_House_refuse_no_thing TH
  have GSo : FnOk P w K mg base CX0 2 _ _ ["self", "x"] (spHso (ga K "House") (ga K "Scheme")) := ok_hso F_House_sort_of TH m_House_refuse_no_thing b_House_refuse_no_thing GRt
  have GIa : FnOk P w K mg base CX0 2 _ _ ["self", "x"] (spHia (ga K "House") (ga K "Scheme")) := ok_hia F_House_is_awake TH m_House_refuse_no_thing b_House_refuse_no_thing GRt
  have GTh : FnOk P w K mg base CX0 1 _ _ ["self"] (spHth (ga K "House") (ga K "Scheme")) := ok_hth F_House_things t_list TH
  have GLn : FnOk P w K mg base CX0 1 _ _ ["self"] (spHln (ga K "House") (ga K "Scheme")) := ok_hln F_House___len__ T TH
  have GHe : FnOk P w K mg base CX0 1 _ _ ["self"] (spHhe K (ga K "House") (ga K "Scheme")) := ok_hhe F_House_held t_sorted TH
  have GEn : FnOk P w K mg base CX0 3 _ dEn ["self", "name", "sort", "awake"] (spHen (ga K "House") (ga K "Scheme")) := ok_hen FEn T MT TH D_refuse_no_name GRV TC m_Scheme_sorts b_Scheme_sorts GSor
  have GRx : FnOk P w K mg base (L2N.CX P w) 4 _ _ ["self", "name"] (spHrtX (ga K "House") (ga K "Scheme") (ga K "NoThing")) := ok_hrtX F_House_refuse_no_thing TH E3.1 b_NoThing___init__ GI3
  have GRs : FnOk P w K mg base (L2N.CX P w) 5 _ _ ps4 (spHrsX (ga K "House") (ga K "Scheme") (ga K "NoThing") (ga K "NoWord")) := ok_hrsX F_House_refuse_strange TH m_House_refuse_no_thing b_House_refuse_no_thing GRx TC m_Scheme_words b_Scheme_words GWor E4.1 b_NoWord___init__ GI4
  have GGi : FnOk P w K mg base (L2N.CX P w) 6 _ _ ps4 (spGiv (ga K "House") (ga K "Scheme") (ga K "NoThing") (ga K "NoWord")) := ok_giv F_House_give TH m_House_refuse_strange b_House_refuse_strange GRs
  have GRgt : FnOk P w K mg base CX0 3 _ _ ["_law_house_here", "_law_h"] (spRgt (ga K "House") (ga K "Scheme")) := ok_rgt F__law_right T t_list t_sorted TH m_House_things b_House_things GTh m_House_held b_House_held GHe m_House_sort_of b_House_sort_of GSo m_House_is_awake b_House_is_awake GIa m_House___len__.at_ m_House___len__.fn b_House___len__ GLn
  have GBeg : FnOk P w K mg base CX0 7 _ _ ["_law_s", "_law_m", "_law_house_here", "_law_many"] (spBeg K (ga K "House") (ga K "Scheme")) := ok_beg F__law_begun T TH D__law_digit D__law_names GN D__law_house m_House_enter bEn GEn m_House_give b_House_give GGi
  have GTld : FnEN P w K mg base 1 _ _ ["_law_e"] (spTld [ga K "NoName", ga K "Taken", ga K "NoSort", ga K "NoThing", ga K "NoWord", ga K "Asleep", ga K "NoRule", ga K "Misfit", ga K "Full", ga K "NotHeld", ga K "NoMaking", ga K "NoDeed"]) := ok_tld F__law_told T t_sum TE
  have GI1 : FnOk P w K mg base CX0 2 _ _ ["self", "name"] (spE1 (ga K "Taken") "name" "taken") := ok_taken F_Taken___init__ E1.1 TW GW
  have GI2 : FnOk P w K mg base CX0 2 _ _ ["self", "name"] (spE1 (ga K "NoSort") "name" "nosort") := ok_nosort F_NoSort___init__ E2.1 TW GW
  have GI6 : FnOk P w K mg base CX0 2 _ _ ["self", "name"] (spE1 (ga K "NoRule") "name" "norule") := ok_norule F_NoRule___init__ E6.1 TW GW
  have GI7 : FnOk P w K mg base CX0 2 _ _ ["self", "name"] (spE1 (ga K "Misfit") "name" "misfit") := ok_misfit F_Misfit___init__ E7.1 TW GW
  have GI8 : FnOk P w K mg base CX0 2 _ _ ["self"] (spE0 (ga K "Full")) := ok_full F_Full___init__ E8.1 TW GW
  have GI10 : FnOk P w K mg base CX0 2 _ _ ["self", "maker", "made"] (spE2 (ga K "NoMaking")) := ok_nmk F_NoMaking___init__ E10.1 (eqO_ok qn2) TW GW
  have GI11 : FnOk P w K mg base CX0 2 _ _ ["self", "word"] (spE1 (ga K "NoDeed") "word" "nodeed") := ok_nodeed F_NoDeed___init__ E11.1 TW GW
  have GRnX : FnOk P w K mg base (L2N.CX P w) 4 _ _ ["texts"] (spRNx K (ga K "NoName")) := ok_rnX F_refuse_no_name D_is_name GIs E0.1 b_NoName___init__ GI0
  have GEnX : FnOk P w K mg base (L2N.CX P w) 5 _ dEn ["self", "name", "sort", "awake"] (spHenX (ga K "House") (ga K "Scheme") ⟨ga K "NoName", ga K "Taken", ga K "NoSort", ga K "Full"⟩) := ok_henX FEn T MT TH D_refuse_no_name GRnX E1.1 b_Taken___init__ GI1 E2.1 b_NoSort___init__ GI2 E8.1 b_Full___init__ GI8 TC m_Scheme_sorts b_Scheme_sorts GSor
  have GRa : FnOk P w K mg base (L2N.CX P w) 4 _ _ ["house", "name"] (spRAs (ga K "House") (ga K "Scheme") (ga K "Asleep")) := ok_ras F_refuse_asleep TH m_House_is_awake b_House_is_awake GIa E5.1 b_Asleep___init__ GI5
  have GTk : FnOk P w K mg base (L2N.CX P w) 6 _ _ ps4 (spTak (ga K "House") (ga K "Scheme") (ga K "NoThing") (ga K "NoWord") (ga K "NotHeld")) := ok_tak F_House_take TH m_House_refuse_strange b_House_refuse_strange GRs E9.1 b_NotHeld___init__ GI9
  have GHsc : FnOk P w K mg base CX0 1 _ _ ["self"] (spHsc (ga K "House") (ga K "Scheme")) := ok_hsc F_House_scheme TH
  have GHol : FnOk P w K mg base (L2N.CX P w) 6 _ _ ps4 (spHol (ga K "House") (ga K "Scheme") (ga K "NoThing") (ga K "NoWord")) := ok_hol F_House_holds TH m_House_refuse_strange b_House_refuse_strange GRs
  have GWk : FnOk P w K mg base CX0 2 _ _ ["self", "x"] (spHwk (ga K "House") (ga K "Scheme") true) := ok_hwake F_House_wake TH m_House_refuse_no_thing b_House_refuse_no_thing GRt
  have GSl : FnOk P w K mg base CX0 2 _ _ ["self", "x"] (spHwk (ga K "House") (ga K "Scheme") false) := ok_hsleep F_House_sleep TH m_House_refuse_no_thing b_House_refuse_no_thing GRt
  have GSmk : FnOk P w K mg base CX0 1 _ _ ["self"] (spSMk (ga K "Scheme")) := ok_smk F_Scheme_makings t_list TC
  have GMF : FnOk P w K mg base CX0 2 _ _ ["scheme", "sort"] (spMF K (ga K "Scheme") (ga K "Making")) := ok_mf F_makings_from TC TM m_Scheme_makings b_Scheme_makings GSmk
  have GMB : FnOk P w K mg base (L2N.CX P w) 4 _ _ ["scheme", "maker", "made"] (spMB K (ga K "Scheme") (ga K "Making") (ga K "NoMaking")) := ok_mb F_making_between TM D_makings_from GMF E10.1 b_NoMaking___init__ GI10
  have GMH : FnOk P w K mg base CX0 1 _ _ ["making", "maker", "name"] (spMH K (ga K "Making")) := ok_mh F_made_holdings TM
  have GPm : FnOk P w K mg base (L2N.CX P w) 7 _ _ ["house", "maker", "sort", "name"] (spPMk K (ga K "House") (ga K "Scheme") (ga K "Making") [ga K "NoName", ga K "Taken", ga K "NoSort", ga K "NoThing", ga K "NoWord", ga K "Asleep", ga K "NoRule", ga K "Misfit", ga K "Full", ga K "NotHeld", ga K "NoMaking", ga K "NoDeed"]) := ok_pmk (fM := ga K "Making") rfl rfl rfl rfl rfl rfl rfl F_play_make TH TC m_House_refuse_no_thing b_House_refuse_no_thing GRx m_House_scheme b_House_scheme GHsc m_Scheme_sorts b_Scheme_sorts GSor E2.1 b_NoSort___init__ GI2 D_refuse_asleep GRa m_House_sort_of b_House_sort_of GSo D_making_between GMB m_House_enter bEnD GEnX D_made_holdings GMH m_House_give b_House_give GGi
  have GSr : FnOk P w K mg base (L2N.CX P w) 4 _ _ ["self", "name"] (spSR1 K (ga K "Scheme") (ga K "Rule") (ga K "NoRule")) := ok_sr1 F_Scheme_rule TC TR E6.1 b_NoRule___init__ GI6
  have GTb : FnOk P w K mg base CX0 1 _ _ ["pattern", "things"] (spTbv K (ga K "Rule")) := ok_tbv F_thing_by_variable TR t_zip
  have GPi : FnOk P w K mg base CX0 1 _ _ ["triple", "thing_of"] (spPin K) := ok_pin F_put_in
  have GCa : FnOk P w K mg base CX0 2 _ _ ["pattern", "things"] (spCat K (ga K "Rule")) := ok_cat F_conditions_at TR D_thing_by_variable GTb D_put_in GPi
  have GGa : FnOk P w K mg base CX0 2 _ _ ["rule", "things"] (spGat K (ga K "Rule")) := ok_gat F_given_at TR D_thing_by_variable GTb D_put_in GPi
  have GHa : FnOk P w K mg base CX0 2 _ _ ["rule", "things"] (spHat K (ga K "Rule")) := ok_hat F_hand_at TR D_thing_by_variable GTb
  have GNh : FnOk P w K mg base (L2N.CX P w) 7 _ _ ["house", "x", "word", "y"] (spRNH (ga K "House") (ga K "Scheme") (ga K "NotHeld")) := ok_rnh F_refuse_not_held TH m_House_holds b_House_holds GHol E9.1 b_NotHeld___init__ GI9
  have GMi : FnOk P w K mg base (L2N.CX P w) 4 _ _ ["house", "rule", "things"] (spRMi K (ga K "House") (ga K "Scheme") (ga K "Rule") (ga K "Misfit")) := ok_rmi F_refuse_misfit T t_zip TH TR m_House_sort_of b_House_sort_of GSo E7.1 b_Misfit___init__ GI7
  have GPo : FnOk P w K mg base (L2N.CX P w) 8 _ _ ["house", "name", "things"] (spPDo K (ga K "House") (ga K "Scheme") (ga K "Rule") [ga K "NoName", ga K "Taken", ga K "NoSort", ga K "NoThing", ga K "NoWord", ga K "Asleep", ga K "NoRule", ga K "Misfit", ga K "Full", ga K "NotHeld", ga K "NoMaking", ga K "NoDeed"]) := ok_pdo rfl rfl rfl rfl rfl F_play_do TH TC m_House_refuse_no_thing b_House_refuse_no_thing GRx m_House_scheme b_House_scheme GHsc m_Scheme_rule b_Scheme_rule GSr D_refuse_misfit GMi D_refuse_asleep GRa D_hand_at GHa D_conditions_at GCa D_given_at GGa D_refuse_not_held GNh m_House_give b_House_give GGi
  have GPd : FnOk P w K mg base (L2N.CX P w) 7 _ _ ["house", "x", "word", "y"] (spDrop (ga K "House") (ga K "Scheme") (ga K "NoThing") (ga K "NoWord") (ga K "Asleep") (ga K "NotHeld")) := ok_pdr F_play_drop TH m_House_refuse_strange b_House_refuse_strange GRs D_refuse_asleep GRa m_House_take b_House_take GTk
  have GPl : FnOk P w K mg base (L2N.CX P w) 9 _ _ ["house", "deed"] (spPly K (ga K "House") (ga K "Scheme") (ga K "Making") (ga K "Rule") [ga K "NoName", ga K "Taken", ga K "NoSort", ga K "NoThing", ga K "NoWord", ga K "Asleep", ga K "NoRule", ga K "Misfit", ga K "Full", ga K "NotHeld", ga K "NoMaking", ga K "NoDeed"]) := ok_ply rfl rfl rfl rfl rfl F_play D_play_make GPm D_play_do GPo D_play_drop GPd E11.1 b_NoDeed___init__ GI11
  have GMD : FnOk P w K mg base CX0 2 _ _ ["_law_h", "_law_m", "_law_deed_here"] (spMkD K) := ok_mkd F__law_make_due T D__law_is_name
  have GDD : FnOk P w K mg base CX0 1 _ _ ["_law_h", "_law_m", "_law_deed_here"] (spDoD K) := ok_dod F__law_do_due T t_zip
  have GRD : FnOk P w K mg base CX0 2 _ _ ["_law_h", "_law_m", "_law_deed_here"] (spDrD K) := ok_drd F__law_drop_due D__law_unasked
  have GAl : FnOk P w K mg base CX0 3 _ _ ["_law_h", "_law_m", "_law_deed_here"] (spAll K) := ok_all F__law_due D__law_make_due GMD D__law_do_due GDD D__law_drop_due GRD
  have GGv : FnOk P w K mg base CX0 1 _ _ ["_law_m", "_law_deed_here"] (spGvn K) := ok_gvn F__law_given T t_zip
  have GFi : FnOk P w K mg base CX0 1 _ _ ["_law_h", "_law_put", "_law_condition"] (spFit K) := ok_fit F__law_fits t_list t_sorted
  have GTg : FnOk P w K mg base CX0 2 _ _ ["_law_s", "_law_h"] spThg := ok_thg F__law_thing T D__law_digit
  have GDo : FnOk P w K mg base CX0 3 _ _ ["_law_s", "_law_h", "_law_m"] (spDo K) := ok_do F__law_do T D__law_digit D__law_thing GTg D__law_fits GFi D__law_name GNm
  have GMe : FnOk P w K mg base CX0 3 _ _ ["_law_s", "_law_h", "_law_m"] (spMke K) := ok_mke F__law_make T D__law_digit D__law_thing GTg D__law_name GNm
  have GDr : FnOk P w K mg base CX0 3 _ _ ["_law_s", "_law_h", "_law_m"] (spDrp K) := ok_drp F__law_drop T t_list t_sorted D__law_digit D__law_thing GTg
  have GDe : FnOk P w K mg base CX0 4 _ _ ["_law_s", "_law_h", "_law_m"] (spDed K) := ok_ded F__law_deed D__law_digit D__law_make GMe D__law_do GDo D__law_drop GDr
  have GPlm : FnOk P w K mg base CX0 2 _ _ ["_law_h", "_law_m", "_law_deed_here"] (spLPl K) := ok_plm F__law_play D__law_given GGv
  have GOu : FnOk P w K mg base CX0 7 _ _ ["_law_s", "_law_m", "_law_house_here", "_law_h"] (spOut K (ga K "House") (ga K "Scheme") (ga K "Making") (ga K "Rule")) := ok_out F__law_outside T TH D__law_digit D__law_name GNm m_House_enter bEnD GEn m_House_give b_House_give GGi m_House_take b_House_take GTk m_House_wake b_House_wake GWk m_House_sleep b_House_sleep GSl
  exact ok_law F_law T TE TH D__law_cell_at D__law_state D__law_digit D__law_model GMd D__law_scheme GSc D__law_begun GBeg D__law_outside GOu D__law_deed GDe D__law_due GAl D__law_told GTld D__law_right GRgt D__law_play GPlm D_play GPl b_House___init__ GHi
end Wm

open PySem PySem.W PySem.Calls PyProof.Rows
set_option maxRecDepth 100000 in
set_option maxHeartbeats 0 in
theorem PySem.Challenge.cw_whomay_k19_whole_histories_holds : PySem.Challenge.rw_whomay_k19_whole_histories.Holds := by
  w_on; o_law
  refine HandSHeadRun.head_any (r := OpenLaw.row PySem.Challenge.rw_whomay_k19_whole_histories) (q := view (OpenLaw.row PySem.Challenge.rw_whomay_k19_whole_histories).prog [109]) (H := Wm.hkW) (ob := Wm.obW) (M := 20000) (loose := Wm.loW) (d := HandSHeadRun.topDef (OpenLaw.row PySem.Challenge.rw_whomay_k19_whole_histories).prog 109) (kwd := []) Wm.obW_eq
    (by kernel_rfl) (fun s => by kernel_rfl) Wm.runW (by kernel_rfl) (by kernel_rfl) (by kernel_rfl) (by rfl) (by first | assumption | decide +kernel) (by decide +kernel) ⟨rfl, rfl, rfl, rfl, rfl, by decide +kernel⟩ ?hw ?hc
  case hw => w_witness2
  case hc =>
    refine L2.walk_ofE (l := PySem.Challenge.rw_whomay_k19_whole_histories) (n := 63) (k := 10) (x := "_law_script") (CX := L2.CX0) rfl (by decide) (by kernel_rfl) ⟨rfl, by decide, by decide⟩ ?F (fun _ _ _ _ z => z)
    intro w mg fa h Y G hmg0
    obtain ⟨K, KX, c⟩ := Y
    have hmg : mg ("law" : PySem.Str) = some (.ref fa) := by
      have e : (HandSHeadRun.topDef (OpenLaw.row PySem.Challenge.rw_whomay_k19_whole_histories).prog 109).name = ("law" : PySem.Str) := by kernel_rfl
      rw [← e]
      exact hmg0
    obtain ⟨fd, hb, hF⟩ := Wm.facts (P := (PySem.Challenge.rw_whomay_k19_whole_histories).prog) (w := w) KX G hmg c
    exact ⟨K, fd, Wm.spLaw K, KX, hb, fun H a ns hl _ hS => ⟨a, ns, rfl, hS, hl, fun _ => rfl⟩, hF⟩
