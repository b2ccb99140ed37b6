import PyProof.Rows.All
import Wide.All
import OpenK.AllK
import Wide.FinOn
import HandS.ForMost
import HandS.ForExc
import HandS.Walk
import HandS.Star
import HandS.Style
import HandS.TupAny
import HandS.ExcInit
import HandS.ExcIs
import HandS.ExcField
import HandS.Defaults
import HandS.Wide
import HandS.ClsMeth
import KE.KExcIs
import KE.GoesEnum
import HandS.FStr
import KE.KCallOwn
import HandS.OwnEq
import HandS.IsInst
import HandS.Deep
import PyProof.ListNew
import PyProof.CollectWalk
import HandS.Zip
import KE.KDictZip
import HandS.HotCalls
import PyProof.SumWalkG
import PyProof.Rows.SumAny
import HandS.ExcInitHot
import HandS.WordsExc
import HandS.ExcOwn
import OpenK.KOps
import HandS.Text
import PyProof.StrLawsChain
import PyProof.StrLawsTight
import KE.KDictLaws
import PyProof.EqAt
import PyProof.NeKinds
import PyProof.MeetsIn
import KE.DataCmp
import HandS.Words
import KE.KStateDown
import HandS.Head0
import HandS.Head1
import HandS.Head2
import HandS.HeadEnd
import HandS.HeadHook1
import HandS.HeadHook2
import PySem.Challenge.RW_whomay_k07_schemes_changed
set_option Elab.async false
set_option linter.all false
set_option maxRecDepth 100000
set_option maxHeartbeats 4000000
namespace Wm
open PySem L2
def top (i : Nat) : Stmt := PySem.Challenge.pw_whomay_k07_schemes_changed.main.body.getD i (.Pass ⟨0, 0, 0, 0⟩)
abbrev sState : Stmt := top 55
abbrev sDigit : Stmt := top 56
abbrev sW0 : Stmt := inClass (top 2) 0
abbrev sN0 : Stmt := inClass (top 3) 0
abbrev sName : Stmt := top 19
abbrev sRN : Stmt := top 20
abbrev sFT : Stmt := top 21
abbrev sRT : Stmt := top 22
abbrev sRC : Stmt := top 23
abbrev sTT : Stmt := top 39
abbrev sEO : Stmt := top 40
abbrev sTP : Stmt := top 41
abbrev sRV : Stmt := top 42
abbrev sRL : Stmt := top 43
abbrev sRA : Stmt := top 44
abbrev sCP : Stmt := top 45
abbrev sBar : Stmt := inClass (top 50) 0
abbrev sRul : Stmt := inClass (top 51) 0
abbrev sRE : Stmt := inClass (top 51) 1
abbrev sBE : Stmt := inClass (top 50) 1
abbrev sNam : Stmt := top 57
abbrev sNms : Stmt := top 58
abbrev sMak : Stmt := inClass (top 52) 0
abbrev sOL : Stmt := top 29
abbrev sRMT : Stmt := top 30
abbrev sRNS : Stmt := top 31
abbrev sRU : Stmt := top 32
abbrev sRNW : Stmt := top 33
abbrev sCS : Stmt := top 34
abbrev sT0 : Stmt := inClass (top 5) 0
abbrev sNS : Stmt := inClass (top 9) 0
abbrev sNW : Stmt := inClass (top 11) 0

abbrev sBC : Stmt := inClass (top 4) 0
abbrev sUp : Stmt := inClass (top 10) 0
abbrev sNR : Stmt := inClass (top 12) 0
abbrev sNB : Stmt := inClass (top 13) 0
abbrev sNM : Stmt := inClass (top 14) 0
abbrev sSch : Stmt := inClass (top 35) 0
abbrev sSMk : Stmt := inClass (top 35) 3
abbrev sSRu : Stmt := inClass (top 35) 4
abbrev sSBa : Stmt := inClass (top 35) 5
abbrev sSor : Stmt := inClass (top 35) 1
abbrev sWor : Stmt := inClass (top 35) 2
abbrev sSwr : Stmt := inClass (top 35) 8
abbrev sSwb : Stmt := inClass (top 35) 9
abbrev sSwm : Stmt := inClass (top 35) 10
abbrev sSxr : Stmt := inClass (top 35) 11
abbrev sSxb : Stmt := inClass (top 35) 12
abbrev sSxm : Stmt := inClass (top 35) 13
abbrev sTld : Stmt := top 59
abbrev sLso : Stmt := top 60
abbrev sLwo : Stmt := top 61
abbrev sLpt : Stmt := top 62
abbrev sLpd : Stmt := top 63
abbrev sLmd : Stmt := top 64
abbrev sLrl : Stmt := top 65
abbrev sLbr : Stmt := top 66
abbrev sLmk : Stmt := top 67
abbrev sLch : Stmt := top 68
abbrev sLbh : Stmt := top 69
abbrev sLdn : Stmt := top 70
abbrev sME : Stmt := inClass (top 52) 1
abbrev sLrt : Stmt := top 71
abbrev sLaw : Stmt := top 72
abbrev sCel : Stmt := top 54
end Wm
/-! a head by one run: what is asked of the written part is one Bool of one's own -/
namespace Wm
open PySem PySem.Spec PyProof.Rows L2 He ClX
def obsM (ck : PySem.W.Frag → Bool) (fn : List DefD) (K : PySem.W.Frag) : AlD := (ck K && fn.all fun d => d.ok K, fn.map fun d => fnW K d.at_)
def SaysM (ck : PySem.W.Frag → Bool) (fn : List DefD) (K : PySem.W.Frag) : Prop := obsM ck fn K = valD fn
/-- what the module's names, and what the C code keeps, reach in n steps -/
def asM (g : Addr → Option Obj) : Nat → List Addr
  | 0 => [mainGlobals, cStatics]
  | n + 1 => growD g (asM g n)
def obsMG (n : Nat) (ck : PySem.W.Frag → Bool) (fn : List DefD) (g : Addr → Option Obj) : AlD := obsM ck fn (frG g (asM g n))
def hookM (n : Nat) (ck : PySem.W.Frag → Bool) (fn : List DefD) : PySem.W.Hook where
  α := AlD
  obs := fun s => obsMG n ck fn s.heap.get?
  val := fun _ => valD fn
  says := fun _ h => ∃ K : PySem.W.Frag, K.In h ∧ SaysM ck fn K
  of := fun _ _ e => ⟨_, frG_in, e⟩
  keeps := fun _ _ _ ⟨K, hK, c⟩ k => ⟨K, PySem.W.Frag.In.keeps hK k, c⟩
theorem obsMG_eq {n : Nat} {ck : PySem.W.Frag → Bool} {fn : List DefD} {g : Addr → Option Obj} {s : Shared} (h : ∀ a, g a = s.heap.get? a) : obsMG n ck fn g = (hookM n ck fn).obs s := by
  have e : g = s.heap.get? := funext h
  rw [e] <;> rfl
section
variable {ck : PySem.W.Frag → Bool} {fn : List DefD} {K : PySem.W.Frag}
theorem SaysM.says (c : SaysM ck fn K) : ck K = true := (ba (show (ck K && fn.all fun d => d.ok K) = true from congrArg (fun z : AlD => z.1) c)).1
theorem SaysM.def_ (c : SaysM ck fn K) (i : Nat) {d : DefD} (h : fn[i]? = some d := by rfl) : ∃ fd, FunD K d.name d.qual d.params d.body d.scope (d.dvs K) (d.kws K) (fAd K d.at_) fd := by
  have c2 := (ba (show (ck K && fn.all fun d => d.ok K) = true from congrArg (fun z : AlD => z.1) c)).2
  have e : fn.map (fun d => fnW K d.at_) = fn.map DefD.val := congrArg (fun z : AlD => z.2) c
  have e2 : (fn.map fun d => fnW K d.at_)[i]? = (fn.map DefD.val)[i]? := by rw [e]
  rw [List.getElem?_map, List.getElem?_map, h] at e2
  exact DefD.funD (Option.some.inj e2) (List.all_eq_true.mp c2 d (List.mem_of_getElem? h))
end
/-- a def without defaults -/
theorem fun_of {K : PySem.W.Frag} {x q : Str} {st : Stmt} {f : Addr} {fd : FuncData} (F : FunD K x q (defArgs st) (defBody st) (defScope st) [] [] f fd) : Fun K x q st f fd := by
  obtain ⟨oc, od, dV, kV, doc, pm, an, cdv, ct, osl, rfl, l, c, d, _⟩ := F.ex
  have e : dV = .none := by
    rcases d with ⟨_, e⟩ | ⟨n, _⟩
    · exact e
    · exact absurd rfl n
  subst e
  exact ⟨⟨oc, od, kV, doc, pm, an, cdv, ct, osl, rfl, l, c⟩, F.kp⟩
/-- an error class whose objects are made by an __init__ of its own -/
def excB (K : PySem.W.Frag) (C : Addr) : Bool := match K.lookup C with
  | some ⟨.type "type", _, .cls cd, sl⟩ => (match cd.mro, sl.toList with
    | .ref C' :: bm, [_, _, _, _, some (.builtin n), _] => C' == C && (n == "ValueError.__new__" && (!cd.hasDel && (cd.hasDict && PySem.HandSPX.refsVE bm)))
    | _, _ => false)
  | _ => false
theorem excB_ok {K : PySem.W.Frag} {C : Addr} (q : excB K C = true) : ∃ nm q N bs bm sn sub ab col dd k0 k1 k2 k3 k5, K.lookup C = some (excClassObj nm q C N bs bm true sn sub ab col dd k0 k1 k2 k3 k5 "ValueError.__new__") ∧ PySem.HandSPX.refsVE bm = true := by
  unfold excB at q
  split at q
  · rename_i dd cd sl ho
    split at q
    · rename_i C' bm k0 k1 k2 k3 n k5 hm hs
      simp only [Bool.and_eq_true, beq_iff_eq, Bool.not_eq_true'] at q
      obtain ⟨rfl, rfl, hdel, hdi, ht⟩ := q
      obtain ⟨nm, bs, mro, ns, qn, hd, sn, sub, ab, col, del⟩ := cd
      dsimp only at hm hdel hdi
      subst hm hdel hdi
      have hsl : sl = #[k0, k1, k2, k3, some (.builtin "ValueError.__new__"), k5] := by
        obtain ⟨l⟩ := sl
        simp only at hs
        rw [hs]
      subst hsl
      exact ⟨nm, qn, ns, bs, bm, sn, sub, ab, col, dd, k0, k1, k2, k3, k5, ho, ht⟩
    · cases q
  · cases q
/-- WhoError, whose __init__ the others call -/
def whoB (K : PySem.W.Frag) (W : Addr) : Bool := PySem.W.readsIn K W (.type "type") && (eqO (PySem.W.specialIn K (.ref W) "__getattribute__") (some (some (.builtin "type.__getattribute__"))) && (match PySem.W.findCls K (.ref W) (.type "type") "__init__" with
  | some (.val (.ref a)) => decide (a = ma K W "__init__")
  | _ => false))
theorem whoB_ok {K : PySem.W.Frag} {W : Addr} (h : whoB K W = true) : CRead K W (.type "type") ∧ PySem.W.findCls K (.ref W) (.type "type") "__init__" = some (.val (.ref (ma K W "__init__"))) := by
  unfold whoB at h
  obtain ⟨h1, h⟩ := ba h
  obtain ⟨h2, h3⟩ := ba h
  refine ⟨⟨h1, eqO_ok h2⟩, ?_⟩
  split at h3
  · rename_i a e
    rw [e, of_decide_eq_true h3]
  · cases h3
end Wm
/-! the reached fragment, gone through once: what was seen is kept as bits of a number -/
namespace Wm
open PySem PySem.Spec PyProof.Rows L2 He ClX
noncomputable def pushB (as : List Addr) : Nat → List Addr → Nat × List Addr := List.rec (motive := fun _ => Nat → List Addr → Nat × List Addr) (fun v acc => (v, acc)) (fun a _ ih v acc => Bool.rec (motive := fun _ => Nat × List Addr) (ih (Nat.lor v (Nat.shiftLeft 1 a)) (a :: acc)) (ih v acc) (Nat.beq (Nat.mod (Nat.shiftRight v a) 2) 1)) as
noncomputable def lvB (g : Addr → Option Obj) (n : Nat) : List Addr → Nat → List Addr := Nat.rec (motive := fun _ => List Addr → Nat → List Addr) (fun fr _ => fr) (fun _ ih fr v => fr ++ (match pushB (fr.flatMap fun a => match g a with
  | some o => refsD o
  | none => []) v [] with
  | (v', nf) => ih nf v')) n
noncomputable def asB (g : Addr → Option Obj) (n : Nat) : List Addr := lvB g n [mainGlobals, cStatics] (Nat.lor (Nat.shiftLeft 1 mainGlobals) (Nat.shiftLeft 1 cStatics))
noncomputable def obsBG (n : Nat) (ck : PySem.W.Frag → Bool) (fn : List DefD) (g : Addr → Option Obj) : AlD := obsM ck fn (frG g (asB g n))
noncomputable def hookB (n : Nat) (ck : PySem.W.Frag → Bool) (fn : List DefD) : PySem.W.Hook where
  α := AlD
  obs := fun s => obsBG n ck fn s.heap.get?
  val := fun _ => valD fn
  says := fun _ h => ∃ K : PySem.W.Frag, K.In h ∧ SaysM ck fn K
  of := fun _ _ e => ⟨_, frG_in, e⟩
  keeps := fun _ _ _ ⟨K, hK, c⟩ k => ⟨K, PySem.W.Frag.In.keeps hK k, c⟩
theorem obsBG_eq {n : Nat} {ck : PySem.W.Frag → Bool} {fn : List DefD} {g : Addr → Option Obj} {s : Shared} (h : ∀ a, g a = s.heap.get? a) : obsBG n ck fn g = (hookB n ck fn).obs s := by
  have e : g = s.heap.get? := funext h
  rw [e] <;> rfl
end Wm
/-! the run's equation in two: what is looked at behind the top, and the facts, each by a run of its own -/
namespace Wm
open PySem PySem.W PySem.Calls PyProof.Rows HandSHeadRun
noncomputable def RunA (r : OpenRow) (q : Program) (M : Nat) (loose : List PySem.Str) (w : World) : Prop :=
  ∀ os : OsState, (endF (stepQ (denQ tabQ) r.prog w) M r.prog w os).map (fun s => (looksF r.prog (boot_heap w.params) s.abs, seenQ q loose (importedModules r.prog.main.body) (fun s => xlAt q [] s && recOk r.toRowW.records s) s.abs)) = some (true, openGood q loose)
noncomputable def RunB (r : OpenRow) (H : Hook) (ob : SharedT → H.α) (M : Nat) (w : World) : Prop :=
  ∀ os : OsState, (endF (stepQ (denQ tabQ) r.prog w) M r.prog w os).map ob = some (H.val w)
theorem runEq_of {r : OpenRow} {q : Program} {H : Hook} {ob : SharedT → H.α} {M : Nat} {loose : List PySem.Str} {w : World} (a : RunA r q M loose w) (b : RunB r H ob M w) : RunEq r q H ob M loose w := fun os => by
  have a := a os
  have b := b os
  revert a b
  generalize endF (stepQ (denQ tabQ) r.prog w) M r.prog w os = z
  cases z with
  | none =>
    intro a
    cases a
  | some s =>
    intro a b
    have e1 := Option.some.inj a
    have e2 : ob s = H.val w := Option.some.inj b
    obtain ⟨e3, e4⟩ := Prod.mk.inj e1
    show some (_, _, _) = _
    rw [e2]
    exact congrArg some (Prod.ext e3 (Prod.ext e4 rfl))
end Wm
namespace Wm
open PySem L2 He ClX StX
/-- what is asked of an error class of one field -/
def errB (K : PySem.W.Frag) (C fI : Addr) (f : Str) : Bool :=
  eqO (PySem.W.findIn K (.ref C) "__setattr__") (some (some (.builtin "object.__setattr__"))) && (decide (PySem.W.subIn K (.ref C) (.type "BaseException") = some true) && (decide (PySem.W.typeIn K (.ref C) = some (.type "type")) && (PySem.W.keepIn K (.ref C) &&
  (decide (PySem.W.typeIn K (.ref fI) = some (.type "function")) && (eqO (PySem.W.findIn K (.ref C) "kind") (some none) && (eqO (PySem.W.findIn K (.ref C) f) (some none) && (eqO (PySem.W.findIn K (.ref C) "__getattribute__") (some (some (.builtin "BaseException.__getattribute__"))) &&
  (eqO (PySem.W.findIn K (.ref C) "__getattr__") (some none) && (PySem.W.hasDictIn K C && (eqO (PySem.W.findIn K (.ref C) "__class__") (some (some (.builtin "object.__class__"))) && (decide (PySem.W.mroIn K C (.type "object") = some true) &&
  (eqO (PySem.W.findIn K (.ref C) "__init__") (some (some (.ref fI))) && (excB K C && (decide (PySem.W.exmOne K (.ref C) (.ref C) = some true) && (eqO (PySem.W.specialIn K (.builtin "object.__class__") "__get__") (some (some (.builtin "getset_descriptor.__get__"))) && decide (PySem.W.takesIn K (.builtin "object.__class__") = some true))))))))))))))))
def insB (K : PySem.W.Frag) (C : Addr) : Bool := eqO (PySem.W.findIn K (.ref C) "__class__") (some (some (.builtin "object.__class__"))) && (decide (PySem.W.mroIn K C (.type "object") = some true) && (eqO (PySem.W.specialIn K (.builtin "object.__class__") "__get__") (some (some (.builtin "getset_descriptor.__get__"))) && (decide (PySem.W.takesIn K (.builtin "object.__class__") = some true) && decide (PySem.W.kitOne K (.ref C) (.ref C) = some true))))
def eqB (K : PySem.W.Frag) (C f : Addr) : Bool := eqO (PySem.W.findIn K (.ref C) "__eq__") (some (some (.ref f))) && PySem.W.isFn K (.ref f)
def kitB (K : PySem.W.Frag) (Z C0 C2 C3 C4 C5 C6 C7 C8 W : Addr) (i : Nat) : Bool := decide (PySem.W.exmOne K (.ref Z) (.ref W) = some true) && (decide (PySem.W.kitOne K (.ref Z) (.ref C0) = some (decide (i = 0))) && (decide (PySem.W.kitOne K (.ref Z) (.ref C2) = some (decide (i = 2))) && (decide (PySem.W.kitOne K (.ref Z) (.ref C3) = some (decide (i = 3))) && (decide (PySem.W.kitOne K (.ref Z) (.ref C4) = some (decide (i = 4))) && (decide (PySem.W.kitOne K (.ref Z) (.ref C5) = some (decide (i = 5))) && (decide (PySem.W.kitOne K (.ref Z) (.ref C6) = some (decide (i = 6))) && (decide (PySem.W.kitOne K (.ref Z) (.ref C7) = some (decide (i = 7))) && (decide (PySem.W.kitOne K (.ref Z) (.ref C8) = some (decide (i = 8))) && (decide (PySem.W.kitOne K (.ref Z) (.type "ValueError") = some true))))))))))
def factL : List Fa := [.glo "WhoError", .glo "BadCount", .glo "NoName", .glo "Twice", .glo "NoSort", .glo "Upward", .glo "NoWord", .glo "NoRule", .glo "NoBar", .glo "NoMaking", .glo "is_name", .glo "refuse_no_name", .glo "first_twice", .glo "refuse_twice", .glo "refuse_count", .glo "own_list", .glo "refuse_makings_twice", .glo "refuse_no_sort", .glo "refuse_upward", .glo "refuse_no_word", .glo "check_scheme", .glo "tuple_of_tuples", .glo "ends_of", .glo "texts_of_pattern", .glo "refuse_no_variable", .glo "refuse_loose", .glo "refuse_apart", .glo "check_pattern", .glo "_law_cell_at", .glo "_law_state", .glo "_law_digit", .glo "_law_name", .glo "_law_names", .glo "_law_told", .glo "_law_sort", .glo "_law_word", .glo "_law_pattern", .glo "_law_pattern_due", .glo "_law_making_due", .glo "_law_rule", .glo "_law_bar", .glo "_law_making", .glo "_law_change", .glo "_law_behind", .glo "_law_done", .glo "_law_right", .glo "law", .glo "Scheme", .cls "Scheme", .noat "Scheme" "own_sorts", .noat "Scheme" "own_words", .noat "Scheme" "own_makings", .noat "Scheme" "own_rules", .noat "Scheme" "own_bars", .mkr "Scheme", .glo "Bar", .cls "Bar", .noat "Bar" "name", .noat "Bar" "variables", .noat "Bar" "conditions", .mkr "Bar", .glo "Rule", .cls "Rule", .noat "Rule" "name", .noat "Rule" "variables", .noat "Rule" "conditions", .noat "Rule" "gives", .noat "Rule" "by", .mkr "Rule", .glo "Making", .cls "Making", .noat "Making" "maker", .noat "Making" "made", .noat "Making" "down", .noat "Making" "up", .mkr "Making", .meth "Making" "__eq__", .meth "Rule" "__eq__", .meth "Bar" "__eq__", .meth "Scheme" "with_rule", .meth "Scheme" "with_bar", .meth "Scheme" "with_making", .meth "Scheme" "without_rule", .meth "Scheme" "without_bar", .meth "Scheme" "without_making", .meth "Scheme" "sorts", .meth "Scheme" "words", .meth "Scheme" "makings", .meth "Scheme" "rules", .meth "Scheme" "bars", .free "abs", .free "int", .free "len", .free "range", .free "all", .free "tuple", .free "enumerate", .free "isinstance", .free "ValueError", .free "list", .free "str", .free "sum", .str "LETTERS" "abcdefghijklmnopqrstuvwxyz", .str "FIGURES" "0123456789", .int "LONGEST_NAME" 12, .int "MOST_SORTS" 4, .int "MOST_WORDS" 5, .int "MOST_RULES" 8, .int "MOST_BARS" 4, .int "MOST_VARIABLES" 4, .int "MOST_CONDITIONS" 3]
def ck (K : PySem.W.Frag) : Bool := factL.all (fun f => f.ok K) && (whoB K (ga K "WhoError") && (errB K (ga K "BadCount") (ma K (ga K "BadCount") "__init__") "what" && (errB K (ga K "NoName") (ma K (ga K "NoName") "__init__") "name" && (errB K (ga K "Twice") (ma K (ga K "Twice") "__init__") "name" && (errB K (ga K "NoSort") (ma K (ga K "NoSort") "__init__") "name" && (errB K (ga K "Upward") (ma K (ga K "Upward") "__init__") "maker" && (errB K (ga K "NoWord") (ma K (ga K "NoWord") "__init__") "name" && (errB K (ga K "NoRule") (ma K (ga K "NoRule") "__init__") "name" && (errB K (ga K "NoBar") (ma K (ga K "NoBar") "__init__") "name" && (errB K (ga K "NoMaking") (ma K (ga K "NoMaking") "__init__") "maker" && (kitB K (ga K "BadCount") (ga K "BadCount") (ga K "Twice") (ga K "NoSort") (ga K "Upward") (ga K "NoWord") (ga K "NoRule") (ga K "NoBar") (ga K "NoMaking") (ga K "WhoError") 0 && (kitB K (ga K "Twice") (ga K "BadCount") (ga K "Twice") (ga K "NoSort") (ga K "Upward") (ga K "NoWord") (ga K "NoRule") (ga K "NoBar") (ga K "NoMaking") (ga K "WhoError") 2 && (kitB K (ga K "NoSort") (ga K "BadCount") (ga K "Twice") (ga K "NoSort") (ga K "Upward") (ga K "NoWord") (ga K "NoRule") (ga K "NoBar") (ga K "NoMaking") (ga K "WhoError") 3 && (kitB K (ga K "Upward") (ga K "BadCount") (ga K "Twice") (ga K "NoSort") (ga K "Upward") (ga K "NoWord") (ga K "NoRule") (ga K "NoBar") (ga K "NoMaking") (ga K "WhoError") 4 && (kitB K (ga K "NoWord") (ga K "BadCount") (ga K "Twice") (ga K "NoSort") (ga K "Upward") (ga K "NoWord") (ga K "NoRule") (ga K "NoBar") (ga K "NoMaking") (ga K "WhoError") 5 && (kitB K (ga K "NoRule") (ga K "BadCount") (ga K "Twice") (ga K "NoSort") (ga K "Upward") (ga K "NoWord") (ga K "NoRule") (ga K "NoBar") (ga K "NoMaking") (ga K "WhoError") 6 && (kitB K (ga K "NoBar") (ga K "BadCount") (ga K "Twice") (ga K "NoSort") (ga K "Upward") (ga K "NoWord") (ga K "NoRule") (ga K "NoBar") (ga K "NoMaking") (ga K "WhoError") 7 && (kitB K (ga K "NoMaking") (ga K "BadCount") (ga K "Twice") (ga K "NoSort") (ga K "Upward") (ga K "NoWord") (ga K "NoRule") (ga K "NoBar") (ga K "NoMaking") (ga K "WhoError") 8 && (eqO (PySem.W.findIn K (.ref (ga K "BadCount")) "count") (some none) && (eqO (PySem.W.findIn K (.ref (ga K "Upward")) "made") (some none) && (eqO (PySem.W.findIn K (.ref (ga K "NoMaking")) "made") (some none) && (insB K (ga K "Making") && (insB K (ga K "Rule") && (insB K (ga K "Bar") && (eqB K (ga K "Making") (ma K (ga K "Making") "__eq__") && (eqB K (ga K "Rule") (ma K (ga K "Rule") "__eq__") && (eqB K (ga K "Bar") (ma K (ga K "Bar") "__eq__") && (PySem.W.notFirst K (ga K "Making") (.ref (ga K "Making")) && (PySem.W.notFirst K (ga K "Rule") (.ref (ga K "Rule")) && (PySem.W.notFirst K (ga K "Bar") (.ref (ga K "Bar"))))))))))))))))))))))))))))))))
def d_is_name : DefD := ⟨("is_name", none), "is_name", "is_name", defArgs sName, defBody sName, defScope sName, [], []⟩
def d_refuse_no_name : DefD := ⟨("refuse_no_name", none), "refuse_no_name", "refuse_no_name", defArgs sRN, defBody sRN, defScope sRN, [], []⟩
def d_first_twice : DefD := ⟨("first_twice", none), "first_twice", "first_twice", defArgs sFT, defBody sFT, defScope sFT, [], []⟩
def d_refuse_twice : DefD := ⟨("refuse_twice", none), "refuse_twice", "refuse_twice", defArgs sRT, defBody sRT, defScope sRT, [], []⟩
def d_refuse_count : DefD := ⟨("refuse_count", none), "refuse_count", "refuse_count", defArgs sRC, defBody sRC, defScope sRC, [], []⟩
def d_own_list : DefD := ⟨("own_list", none), "own_list", "own_list", defArgs sOL, defBody sOL, defScope sOL, [], []⟩
def d_refuse_makings_twice : DefD := ⟨("refuse_makings_twice", none), "refuse_makings_twice", "refuse_makings_twice", defArgs sRMT, defBody sRMT, defScope sRMT, [], []⟩
def d_refuse_no_sort : DefD := ⟨("refuse_no_sort", none), "refuse_no_sort", "refuse_no_sort", defArgs sRNS, defBody sRNS, defScope sRNS, [], []⟩
def d_refuse_upward : DefD := ⟨("refuse_upward", none), "refuse_upward", "refuse_upward", defArgs sRU, defBody sRU, defScope sRU, [], []⟩
def d_refuse_no_word : DefD := ⟨("refuse_no_word", none), "refuse_no_word", "refuse_no_word", defArgs sRNW, defBody sRNW, defScope sRNW, [], []⟩
def d_check_scheme : DefD := ⟨("check_scheme", none), "check_scheme", "check_scheme", defArgs sCS, defBody sCS, defScope sCS, [], []⟩
def d_tuple_of_tuples : DefD := ⟨("tuple_of_tuples", none), "tuple_of_tuples", "tuple_of_tuples", defArgs sTT, defBody sTT, defScope sTT, [], []⟩
def d_ends_of : DefD := ⟨("ends_of", none), "ends_of", "ends_of", defArgs sEO, defBody sEO, defScope sEO, [], []⟩
def d_texts_of_pattern : DefD := ⟨("texts_of_pattern", none), "texts_of_pattern", "texts_of_pattern", defArgs sTP, defBody sTP, defScope sTP, [], []⟩
def d_refuse_no_variable : DefD := ⟨("refuse_no_variable", none), "refuse_no_variable", "refuse_no_variable", defArgs sRV, defBody sRV, defScope sRV, [], []⟩
def d_refuse_loose : DefD := ⟨("refuse_loose", none), "refuse_loose", "refuse_loose", defArgs sRL, defBody sRL, defScope sRL, [], []⟩
def d_refuse_apart : DefD := ⟨("refuse_apart", none), "refuse_apart", "refuse_apart", defArgs sRA, defBody sRA, defScope sRA, [], []⟩
def d_check_pattern : DefD := ⟨("check_pattern", none), "check_pattern", "check_pattern", defArgs sCP, defBody sCP, defScope sCP, [], []⟩
def d__law_cell_at : DefD := ⟨("_law_cell_at", none), "_law_cell_at", "_law_cell_at", defArgs sCel, defBody sCel, defScope sCel, [], []⟩
def d__law_state : DefD := ⟨("_law_state", none), "_law_state", "_law_state", defArgs sState, defBody sState, defScope sState, [], []⟩
def d__law_digit : DefD := ⟨("_law_digit", none), "_law_digit", "_law_digit", defArgs sDigit, defBody sDigit, defScope sDigit, [], []⟩
def d__law_name : DefD := ⟨("_law_name", none), "_law_name", "_law_name", defArgs sNam, defBody sNam, defScope sNam, [], []⟩
def d__law_names : DefD := ⟨("_law_names", none), "_law_names", "_law_names", defArgs sNms, defBody sNms, defScope sNms, [], []⟩
def d__law_told : DefD := ⟨("_law_told", none), "_law_told", "_law_told", defArgs sTld, defBody sTld, defScope sTld, [], []⟩
def d__law_sort : DefD := ⟨("_law_sort", none), "_law_sort", "_law_sort", defArgs sLso, defBody sLso, defScope sLso, [], []⟩
def d__law_word : DefD := ⟨("_law_word", none), "_law_word", "_law_word", defArgs sLwo, defBody sLwo, defScope sLwo, [], []⟩
def d__law_pattern : DefD := ⟨("_law_pattern", none), "_law_pattern", "_law_pattern", defArgs sLpt, defBody sLpt, defScope sLpt, [], []⟩
def d__law_pattern_due : DefD := ⟨("_law_pattern_due", none), "_law_pattern_due", "_law_pattern_due", defArgs sLpd, defBody sLpd, defScope sLpd, [], []⟩
def d__law_making_due : DefD := ⟨("_law_making_due", none), "_law_making_due", "_law_making_due", defArgs sLmd, defBody sLmd, defScope sLmd, [], []⟩
def d__law_rule : DefD := ⟨("_law_rule", none), "_law_rule", "_law_rule", defArgs sLrl, defBody sLrl, defScope sLrl, [], []⟩
def d__law_bar : DefD := ⟨("_law_bar", none), "_law_bar", "_law_bar", defArgs sLbr, defBody sLbr, defScope sLbr, [], []⟩
def d__law_making : DefD := ⟨("_law_making", none), "_law_making", "_law_making", defArgs sLmk, defBody sLmk, defScope sLmk, [], []⟩
def d__law_change : DefD := ⟨("_law_change", none), "_law_change", "_law_change", defArgs sLch, defBody sLch, defScope sLch, [], []⟩
def d__law_behind : DefD := ⟨("_law_behind", none), "_law_behind", "_law_behind", defArgs sLbh, defBody sLbh, defScope sLbh, [], []⟩
def d__law_done : DefD := ⟨("_law_done", none), "_law_done", "_law_done", defArgs sLdn, defBody sLdn, defScope sLdn, [], []⟩
def d__law_right : DefD := ⟨("_law_right", none), "_law_right", "_law_right", defArgs sLrt, defBody sLrt, defScope sLrt, [], []⟩
def d_law : DefD := ⟨("law", none), "law", "law", defArgs sLaw, defBody sLaw, defScope sLaw, [], []⟩
def d_BadCount___init__ : DefD := ⟨("BadCount", some "__init__"), "__init__", "BadCount.__init__", defArgs sBC, defBody sBC, defScope sBC, [], []⟩
def d_NoName___init__ : DefD := ⟨("NoName", some "__init__"), "__init__", "NoName.__init__", defArgs sN0, defBody sN0, defScope sN0, [], []⟩
def d_Twice___init__ : DefD := ⟨("Twice", some "__init__"), "__init__", "Twice.__init__", defArgs sT0, defBody sT0, defScope sT0, [], []⟩
def d_NoSort___init__ : DefD := ⟨("NoSort", some "__init__"), "__init__", "NoSort.__init__", defArgs sNS, defBody sNS, defScope sNS, [], []⟩
def d_Upward___init__ : DefD := ⟨("Upward", some "__init__"), "__init__", "Upward.__init__", defArgs sUp, defBody sUp, defScope sUp, [], []⟩
def d_NoWord___init__ : DefD := ⟨("NoWord", some "__init__"), "__init__", "NoWord.__init__", defArgs sNW, defBody sNW, defScope sNW, [], []⟩
def d_NoRule___init__ : DefD := ⟨("NoRule", some "__init__"), "__init__", "NoRule.__init__", defArgs sNR, defBody sNR, defScope sNR, [], []⟩
def d_NoBar___init__ : DefD := ⟨("NoBar", some "__init__"), "__init__", "NoBar.__init__", defArgs sNB, defBody sNB, defScope sNB, [], []⟩
def d_NoMaking___init__ : DefD := ⟨("NoMaking", some "__init__"), "__init__", "NoMaking.__init__", defArgs sNM, defBody sNM, defScope sNM, [], []⟩
def d_Bar___init__ : DefD := ⟨("Bar", some "__init__"), "__init__", "Bar.__init__", defArgs sBar, defBody sBar, defScope sBar, [], []⟩
def d_Rule___init__ : DefD := ⟨("Rule", some "__init__"), "__init__", "Rule.__init__", defArgs sRul, defBody sRul, defScope sRul, [], []⟩
def d_Making___init__ : DefD := ⟨("Making", some "__init__"), "__init__", "Making.__init__", defArgs sMak, defBody sMak, defScope sMak, [], []⟩
def d_Making___eq__ : DefD := ⟨("Making", some "__eq__"), "__eq__", "Making.__eq__", defArgs sME, defBody sME, defScope sME, [], []⟩
def d_Rule___eq__ : DefD := ⟨("Rule", some "__eq__"), "__eq__", "Rule.__eq__", defArgs sRE, defBody sRE, defScope sRE, [], []⟩
def d_Bar___eq__ : DefD := ⟨("Bar", some "__eq__"), "__eq__", "Bar.__eq__", defArgs sBE, defBody sBE, defScope sBE, [], []⟩
def d_Scheme_with_rule : DefD := ⟨("Scheme", some "with_rule"), "with_rule", "Scheme.with_rule", defArgs sSwr, defBody sSwr, defScope sSwr, [], []⟩
def d_Scheme_with_bar : DefD := ⟨("Scheme", some "with_bar"), "with_bar", "Scheme.with_bar", defArgs sSwb, defBody sSwb, defScope sSwb, [], []⟩
def d_Scheme_with_making : DefD := ⟨("Scheme", some "with_making"), "with_making", "Scheme.with_making", defArgs sSwm, defBody sSwm, defScope sSwm, [], []⟩
def d_Scheme_without_rule : DefD := ⟨("Scheme", some "without_rule"), "without_rule", "Scheme.without_rule", defArgs sSxr, defBody sSxr, defScope sSxr, [], []⟩
def d_Scheme_without_bar : DefD := ⟨("Scheme", some "without_bar"), "without_bar", "Scheme.without_bar", defArgs sSxb, defBody sSxb, defScope sSxb, [], []⟩
def d_Scheme_without_making : DefD := ⟨("Scheme", some "without_making"), "without_making", "Scheme.without_making", defArgs sSxm, defBody sSxm, defScope sSxm, [], []⟩
def d_Scheme_sorts : DefD := ⟨("Scheme", some "sorts"), "sorts", "Scheme.sorts", defArgs sSor, defBody sSor, defScope sSor, [], []⟩
def d_Scheme_words : DefD := ⟨("Scheme", some "words"), "words", "Scheme.words", defArgs sWor, defBody sWor, defScope sWor, [], []⟩
def d_Scheme_makings : DefD := ⟨("Scheme", some "makings"), "makings", "Scheme.makings", defArgs sSMk, defBody sSMk, defScope sSMk, [], []⟩
def d_Scheme_rules : DefD := ⟨("Scheme", some "rules"), "rules", "Scheme.rules", defArgs sSRu, defBody sSRu, defScope sSRu, [], []⟩
def d_Scheme_bars : DefD := ⟨("Scheme", some "bars"), "bars", "Scheme.bars", defArgs sSBa, defBody sSBa, defScope sSBa, [], []⟩
def dWho : DefD := ⟨("WhoError", some "__init__"), "__init__", "WhoError.__init__", defArgs sW0, defBody sW0, defScope sW0, [.str "whoerror"], []⟩
def dSch : DefD := ⟨("Scheme", some "__init__"), "__init__", "Scheme.__init__", defArgs sSch, defBody sSch, defScope sSch, [.non, .non, .non], []⟩
def fnL : List DefD := [d_is_name, d_refuse_no_name, d_first_twice, d_refuse_twice, d_refuse_count, d_own_list, d_refuse_makings_twice, d_refuse_no_sort, d_refuse_upward, d_refuse_no_word, d_check_scheme, d_tuple_of_tuples, d_ends_of, d_texts_of_pattern, d_refuse_no_variable, d_refuse_loose, d_refuse_apart, d_check_pattern, d__law_cell_at, d__law_state, d__law_digit, d__law_name, d__law_names, d__law_told, d__law_sort, d__law_word, d__law_pattern, d__law_pattern_due, d__law_making_due, d__law_rule, d__law_bar, d__law_making, d__law_change, d__law_behind, d__law_done, d__law_right, d_law, d_BadCount___init__, d_NoName___init__, d_Twice___init__, d_NoSort___init__, d_Upward___init__, d_NoWord___init__, d_NoRule___init__, d_NoBar___init__, d_NoMaking___init__, d_Bar___init__, d_Rule___init__, d_Making___init__, d_Making___eq__, d_Rule___eq__, d_Bar___eq__, d_Scheme_with_rule, d_Scheme_with_bar, d_Scheme_with_making, d_Scheme_without_rule, d_Scheme_without_bar, d_Scheme_without_making, d_Scheme_sorts, d_Scheme_words, d_Scheme_makings, d_Scheme_rules, d_Scheme_bars, dWho, dSch]
end Wm
set_option maxHeartbeats 0
namespace Wm
open PySem PySem.W PySem.Calls PyProof.Rows
abbrev RW : OpenRow := OpenLaw.row PySem.Challenge.rw_whomay_k07_schemes_changed
noncomputable abbrev hkW : Hook := hookB 4 ck fnL
noncomputable def obW (s : SharedT) : He.AlD := obsBG 4 ck fnL (HandSHeadRun.getT s)
theorem obW_eq (s : SharedT) : obW s = hkW.obs s.abs := obsBG_eq (HandSHeadRun.getT_eq s)
def lo0 : List PySem.Str := ["_wall", "WhoError", "NoName", "BadCount", "Twice", "NoVariable", "Loose", "Apart", "NoSort", "Upward", "NoWord", "NoRule", "NoBar", "NoMaking", "LETTERS", "FIGURES", "LONGEST_NAME", "is_name", "refuse_no_name", "first_twice", "refuse_twice", "refuse_count", "MOST_SORTS", "MOST_WORDS", "MOST_RULES", "MOST_BARS", "own_list", "refuse_makings_twice", "refuse_no_sort", "refuse_upward"]
def lo1 : List PySem.Str := ["refuse_no_word", "check_scheme", "Scheme", "MOST_VARIABLES", "MOST_CONDITIONS", "tuple_of_tuples", "ends_of", "texts_of_pattern", "refuse_no_variable", "refuse_loose", "refuse_apart", "check_pattern", "variable_part", "pattern_parts", "rule_parts", "making_parts", "Bar", "Rule", "Making", "_law_cell_at", "_law_state", "_law_digit", "_law_name", "_law_names", "_law_told", "_law_sort", "_law_word", "_law_pattern", "_law_pattern_due", "_law_making_due"]
def lo2 : List PySem.Str := ["_law_rule", "_law_bar", "_law_making", "_law_change", "_law_behind", "_law_done", "_law_right"]
def loW : List PySem.Str := lo0 ++ lo1 ++ lo2
theorem runWA (w : World) : RunA RW (view RW.prog [72]) 20000 loW w := by
  intro os
  kernel_rfl
theorem runWB (w : World) : RunB RW hkW obW 20000 w := by
  intro os
  kernel_rfl
theorem runW (w : World) : HandSHeadRun.RunEq RW (view RW.prog [72]) hkW obW 20000 loW w := runEq_of (runWA w) (runWB w)
end Wm
namespace Wm
open PySem L2
/-- the digits' state at p -/
def StOk (H : Hp) (p : Addr) : Prop := ∃ a b c : Int, H p = some (.lst [.int a, .int b, .int c]) ∧ 0 ≤ a ∧ 0 ≤ b ∧ b ≤ 2147483636 ∧ 0 ≤ c ∧ c < 2147483648
/-- all that was tracked is as it was, but at p -/
def But (p : Addr) (H H' : Hp) : Prop := ∀ q o, q ≠ p → H q = some o → H' q = some o
theorem But.refl (p : Addr) (H : Hp) : But p H H := fun _ _ _ h => h
theorem But.trans {p : Addr} {H H1 H2 : Hp} (a : But p H H1) (b : But p H1 H2) : But p H H2 := fun q o n h => b q o n (a q o n h)
theorem But.upd {p : Addr} {H : Hp} {o : HO} : But p H (upd H p o) := fun q o n h => by rw [upd_ne n]; exact h
theorem Same.but {p : Addr} {H H1 : Hp} (a : Same H H1) : But p H H1 := fun q o _ h => a q o h
theorem Same.upd {p : Addr} {H : Hp} {o : HO} (n : H p = none) : Same H (upd H p o) := fun q o h => by rw [upd_ne (ne_of_none h n)]; exact h
theorem But.same {p : Addr} {H0 H H1 : Hp} (n : H0 p = none) (a : Same H0 H) (b : But p H H1) : Same H0 H1 := fun q o h => b q o (ne_of_none h n) (a q o h)
def spState : Sp := fun vs H Q _ => ∃ i : Int, vs = [.int i] ∧ ∀ p H', H p = none → Same H H' → StOk H' p → Q (.ref p) H'
def spDigit : Sp := fun vs H Q _ => ∃ (p : Addr) (n : Int), vs = [.ref p, .int n] ∧ StOk H p ∧ 0 < n ∧ n < 1073741824 ∧ ∀ (d : Int) H', 0 ≤ d → d < n → But p H H' → StOk H' p → Q (.int d) H'
structure TxB (mg : Str → Option Value) : Prop where
  abs : mg "abs" = none
  int : mg "int" = none
  len : mg "len" = none
  range : mg "range" = none
  all : mg "all" = none
  tuple : mg "tuple" = none
  enumerate : mg "enumerate" = none
  isinstance : mg "isinstance" = none
  ve : mg "ValueError" = none
section
variable {P : Program} {w : World} {K : PySem.W.Frag} {mg : Str → Option Value} {base : Heap}
theorem scState : FnScope ["_law_cell"] ["_law_cell"] (defScope sState) := ⟨rfl, rfl, rfl, by decide +kernel, rfl, by decide +kernel, by decide +kernel⟩
theorem ok_state {f : Addr} {fd : FuncData} (F : Fun K "_law_state" "_law_state" sState f fd) (T : TxB mg) : FnOk P w K mg base CX0 1 f fd ["_law_cell"] spState := by
  refine F.ok scState (fun vs H Q E h => ?_) (fun cdv A outer s H vs Q E hr h => ?_)
  · obtain ⟨i, rfl, _⟩ := h
    rfl
  · obtain ⟨i, rfl, k⟩ := h
    refine ⟨_, pss_cons (ps_set (i := 0) scState.nd rfl (Or.inl rfl) (pe_callB call_abs (by rfl) T.abs (by decide +kernel) (pa_cons (pv 0) pa_nil)))
      (pss_one (ps_ret (pe_lst (pa_cons (pe_op op_mul (pv 0) (pe_callTy call_int1 (by rfl) T.int (by decide +kernel) (pa_cons (pe_cmpR op_ge (pv 0) (pe_op op_pow pe_int pe_int) (nomark _)) pa_nil)))
        (pa_cons (pe_op op_add (pe_op op_mod (pv 0) pe_int) pe_int) (pa_cons (pe_op op_mod (pv 0) pe_int) pa_nil)))))), ?_⟩
    refine ⟨_, rfl, _, rfl, ?_⟩
    generalize hj : (if i < 0 then -i else i) = j
    have hj0 : 0 ≤ j := by rw [← hj]; split <;> omega
    refine ⟨_, rfl, _, rfl, _, _, rfl, rfl, ⟨by decide, by decide, by decide⟩, _, _, rfl, rfl, .inr ⟨_, rfl, ?_⟩⟩
    refine ⟨_, _, rfl, rfl, .inr ⟨?_, ?_⟩, _, rfl, _, _, rfl, rfl, (by show (0 : Int) < 2147483629; decide), _, _, rfl, rfl, _, rfl, _, _, rfl, rfl, (by show (0 : Int) < 2147483587; decide), (by show 3 ≤ sizeLine; decide), fun p hp => ?_⟩
    · split <;> decide
    · split <;> decide
    · refine k p _ hp (Same.upd hp) ⟨_, _, _, upd_same, ?_, ?_, ?_, ?_, ?_⟩
      · split
        · omega
        · omega
      · have := Int.emod_nonneg j (show (2147483629 : Int) ≠ 0 by decide); omega
      · have := Int.emod_lt_of_pos j (show (0 : Int) < 2147483629 by decide); omega
      · exact Int.emod_nonneg j (by decide)
      · have := Int.emod_lt_of_pos j (show (0 : Int) < 2147483587 by decide); omega
theorem scDigit : FnScope ["_law_state_here", "_law_base", "_law_found", "_law_more"] ["_law_state_here", "_law_base"] (defScope sDigit) := ⟨rfl, rfl, rfl, by decide +kernel, rfl, by decide +kernel, by decide +kernel⟩
theorem ok_digit {f : Addr} {fd : FuncData} (F : Fun K "_law_digit" "_law_digit" sDigit f fd) : FnOk P w K mg base CX0 1 f fd ["_law_state_here", "_law_base"] spDigit := by
  refine F.ok scDigit (fun vs H Q E h => ?_) (fun cdv A outer s H vs Q E hr h => ?_)
  · obtain ⟨p, n, rfl, _⟩ := h
    rfl
  · obtain ⟨p, n, rfl, ⟨a, b, c, hp, ha, hb, hb2, hc, hc2⟩, hn, hn2, k⟩ := h
    refine ⟨_, pss_cons (ps_if (pt_cmpR op_gt (pe_ix ix_list (pv 0) pe_int (fun _ _ => rfl)) pe_int (nomark _))
        (pss_cons (ps_set (i := 2) scDigit.nd rfl (Or.inl rfl) (pe_op op_mod (pe_ix ix_list (pv 0) pe_int (fun _ _ => rfl)) (pv 1)))
          (pss_cons (ps_asg (pe_op op_fdiv (pe_ix ix_list (pv 0) pe_int (fun _ _ => rfl)) (pv 1)) (pg_sub (pv 0) pe_int set_list)) (pss_one (ps_ret (pv 2))))) pss_nil)
      (pss_cons (ps_set (i := 3) scDigit.nd rfl (Or.inl rfl) (pe_op op_mul (pe_ix ix_list (pv 0) pe_int (fun _ _ => rfl)) (pe_op op_add (pe_op op_fdiv (pe_ix ix_list (pv 0) pe_int (fun _ _ => rfl)) pe_int) pe_int)))
      (pss_cons (ps_asg (pe_op op_add (pe_op op_mod (pe_op op_add (pv 3) (pe_ix ix_list (pv 0) pe_int (fun _ _ => rfl))) pe_int) pe_int) (pg_sub (pv 0) pe_int set_list))
      (pss_one (ps_ret (pe_op op_mod (pe_op op_fdiv (pe_ix ix_list (pv 0) pe_int (fun _ _ => rfl)) pe_int) (pv 1)))))), ?_⟩
    refine ⟨_, rfl, p, _, _, _, rfl, rfl, SqL.of hp, atI_nat (j := 0) rfl, _, _, rfl, rfl, _, rfl, ?_⟩
    refine ite2 (fun h0 => ?_) (fun h0 => ?_)
    · refine ⟨_, rfl, p, _, _, _, rfl, rfl, SqL.of hp, atI_nat (j := 0) rfl, _, rfl, _, _, rfl, rfl, hn, ?_⟩
      refine ⟨_, rfl, p, _, _, _, rfl, rfl, SqL.of hp, atI_nat (j := 0) rfl, _, rfl, _, _, rfl, rfl, ⟨hn, hn2⟩, _, rfl, p, _, _, 0, rfl, rfl, hp, rfl, _, rfl, ?_⟩
      refine k _ _ (Int.emod_nonneg a (by omega)) (Int.emod_lt_of_pos a hn) But.upd ⟨_, _, _, upd_same, ?_, hb, hb2, hc, hc2⟩
      exact Int.ediv_nonneg ha (by omega)
    · refine ⟨_, rfl, p, _, _, _, rfl, rfl, SqL.of hp, atI_nat (j := 1) rfl, _, rfl, p, _, _, _, rfl, rfl, SqL.of hp, atI_nat (j := 1) rfl, _, _, rfl, rfl, ⟨by decide, by decide⟩, _, _, rfl, rfl, _, _, rfl, rfl, .inl ⟨?_, ?_⟩, ?_⟩
      · omega
      · omega
      refine ⟨_, rfl, _, rfl, p, _, _, _, rfl, rfl, SqL.of hp, atI_nat (j := 2) rfl, _, _, rfl, rfl, _, _, rfl, rfl, (by show (0 : Int) < 2147483629; decide), _, _, rfl, rfl, _, rfl, p, _, _, 1, rfl, rfl, hp, rfl, ?_⟩
      generalize hm : (b * (b / 1009 + 69621) + c) % 2147483629 = m
      have hm0 : 0 ≤ m := by rw [← hm]; exact Int.emod_nonneg _ (by decide)
      have hm1 : m < 2147483629 := by rw [← hm]; exact Int.emod_lt_of_pos _ (by decide)
      refine ⟨_, rfl, p, _, _, _, rfl, rfl, SqL.of upd_same, atI_nat (j := 1) rfl, _, _, rfl, rfl, ⟨by decide, by decide⟩, _, rfl, _, _, rfl, rfl, hn, ?_⟩
      exact k _ _ (Int.emod_nonneg _ (by omega)) (Int.emod_lt_of_pos _ hn) But.upd ⟨_, _, _, upd_same, ha, by omega, by omega, hc, hc2⟩
end
end Wm
namespace Wm
open PySem L2
/-- a def of the module's top -/
structure Dn (K : PySem.W.Frag) (mg : Str → Option Value) (x : Str) (st : Stmt) (ps : List Str) (f : Addr) (fd : FuncData) : Prop where
  F : Fun K x x st f fd
  g : mg x = some (.ref f)
  b : Binds K fd ps []
theorem str_at (z : Str) {i : Int} (h0 : 0 ≤ i) (h1 : i < z.length) : ∃ c, z.cps[i.toNat]? = some c := by
  have h : i.toNat < z.cps.size := by
    have e : z.length = z.cps.size := rfl
    omega
  exact ⟨z.cps[i.toNat], Array.getElem?_eq_getElem h⟩
/-- every sign is one of unicode's -/
def okS (z : Str) : Prop := ∀ c ∈ z.cps.toList, c < 1114112
theorem okS_one {c : Nat} (h : c < 1114112) : okS ⟨#[c]⟩ := fun d hd => by
  have e : d = c := by simpa using hd
  rw [e]
  exact h
theorem okS_app {a b : Str} (ha : okS a) (hb : okS b) : okS (a ++ b) := fun c hc => by
  have e : (a ++ b).cps.toList = a.cps.toList ++ b.cps.toList := by
    show (a.cps ++ b.cps).toList = _
    simp
  rw [e] at hc
  rcases List.mem_append.mp hc with h | h
  · exact ha c h
  · exact hb c h
theorem rdItem {z : Str} {i : Int} {n : Nat} {H : Hp} {Q : VK} (hz : z.length = n) (h0 : 0 ≤ i) (h1 : i < n) (hn : n < 1000000) (h : ∀ c, z.cps.toList[i.toNat]? = some c → Q (.str ⟨#[c]⟩) H) : rIxS (.str z) (.int i) H Q := by
  have h2 : i < z.length := by rw [hz]; exact h1
  obtain ⟨c, hc⟩ := str_at z h0 h2
  have hl : z.cps.toList[i.toNat]? = some c := by simpa using hc
  have e : i = ((i.toNat : Nat) : Int) := by omega
  refine ⟨z, i, c, rfl, rfl, by rw [hz]; exact Nat.le_trans (Nat.le_of_lt hn) (by decide), ?_, h c hl⟩
  rw [e]
  exact atI_nat hl
theorem abcOk : ∀ c ∈ (PySem.Str.ofString "abcdefghijklmnopqrstuvwxyz0123456789").cps.toList, c < 1114112 := by decide +kernel
theorem abc36 : (PySem.Str.ofString "abcdefghijklmnopqrstuvwxyz0123456789").length = 36 := by decide +kernel
theorem len_app (a b : Str) : (a ++ b).length = a.length + b.length := by
  show (a.cps ++ b.cps).size = a.cps.size + b.cps.size
  exact Array.size_append
theorem len_one (c : Nat) : (⟨#[c]⟩ : Str).length = 1 := rfl
def spSign : Sp := fun vs H Q _ => ∃ i : Int, vs = [.int i] ∧ ∀ c, c < 1114112 → Q (.str ⟨#[c]⟩) H
def spPlain : Sp := fun vs H Q _ => ∃ (p : Addr) (n : Int), vs = [.ref p, .int n] ∧ StOk H p ∧ 1 ≤ n ∧ n ≤ 15 ∧ ∀ (z : Str) H', z.length ≤ 15 → okS z → But p H H' → StOk H' p → Q (.str z) H'
def spText : Sp := fun vs H Q _ => ∃ (p : Addr), vs = [.ref p] ∧ StOk H p ∧ ∀ (z : Str) H', z.length ≤ 40 → okS z → But p H H' → StOk H' p → Q (.str z) H'
section
variable {P : Program} {w : World} {K : PySem.W.Frag} {mg : Str → Option Value} {base : Heap}
end
end Wm
namespace Wm
open PySem L2
theorem strs_at {zs : List Str} {n : Nat} (h : ∀ z ∈ zs, z.length ≤ n) (ho : ∀ z ∈ zs, ∀ c ∈ z.cps.toList, c < 1114112) {j : Nat} (hj : j < zs.length) : ∃ z, (zs.map V.str)[j]? = some (.str z) ∧ z.length ≤ n ∧ okS z :=
  ⟨zs[j], by simp [hj], h _ (List.getElem_mem hj), ho _ (List.getElem_mem hj)⟩
theorem okS_cut {z : Str} (h : okS z) (lo hi : Option Int) : okS (cutS z lo hi) := fun c hc => by
  have hc' : c ∈ (z.cps.toList.drop (HT.sIx z.length 0 lo)).take (HT.sIx z.length z.length hi - HT.sIx z.length 0 lo) := hc
  exact h c (List.mem_of_mem_drop (List.mem_of_mem_take hc'))
theorem okS_join {a : Str} {ys : List Str} (ha : okS a) (h : ∀ y ∈ ys, okS y) : okS (Txt.join a ys) := by
  have e : Txt.join a ys = Str.join a ys := StrLaws.glued_eq_join a ys
  rw [e]
  clear e
  induction ys with
  | nil => exact fun c hc => (List.not_mem_nil (show c ∈ ([] : List Nat) from hc)).elim
  | cons y r ih =>
    cases r with
    | nil => exact h y List.mem_cons_self
    | cons z r =>
      show okS (y ++ a ++ Str.join a (z :: r))
      exact okS_app (okS_app (h y List.mem_cons_self) ha) (ih fun x hx => h x (List.mem_cons_of_mem _ hx))
theorem rdList {K : PySem.W.Frag} {p : Addr} {xs : List V} {i : Int} {j : Nat} {v : V} {H : Hp} {Q : VK} (hp : H p = some (.lst xs)) (e : i = (j : Int)) (hv : xs[j]? = some v) (h : Q v H) : rIxL K (.ref p) (.int i) H Q :=
  ⟨p, xs, i, v, rfl, rfl, SqL.of hp, at_of e hv, h⟩
theorem But.free {p D : Addr} {H H' : Hp} (b : But p H H') (n : D ≠ p) (h : H' D = none) : H D = none := by
  cases e : H D with
  | none => rfl
  | some o =>
    rw [b D o n e] at h
    cases h
theorem sum_ones : ∀ {ys : List Str}, (∀ y ∈ ys, y.length = 1) → (ys.map (·.length)).sum = ys.length
  | [], _ => rfl
  | y :: ys, h => by
    rw [List.map_cons, List.sum_cons, List.length_cons, h y List.mem_cons_self, sum_ones fun z hz => h z (List.mem_cons_of_mem _ hz)]
    omega
theorem join_len (a : Str) (ys : List Str) : (Txt.join a ys).length ≤ (ys.map (·.length)).sum + ys.length * a.length := by
  show (Builtin.Str.glued a ys).length ≤ _
  rw [StrLaws.glued_eq_join]
  exact StrLaws.join_length_le a ys
section
variable {P : Program} {w : World} {K : PySem.W.Frag} {mg : Str → Option Value} {base : Heap}
end
end Wm
namespace Wm
open PySem PySem.Spec PyProof.Rows L2 ClX
section
variable {X : Cx} {CX : CXT} {k : Nat} {C f : Addr} {fd : FuncData} {ps : List Str} {sp : Sp} {E : XK} {e : Expr} {es : List Expr} {t : TA} {x m : Str} {p1 p2 pos : Pos} {ds : List Value} {dvs : List V}
/-- C.f(e, ..), f a def of the class C -/
theorem pe_clsFn {pl : Sem Bool} {mc : Value} (hg : Gl X x) (hm : X.mg x = some (.ref C)) (r : CRead X.K C mc) (ht : PySem.W.findCls X.K (.ref C) mc m = some (.val (.ref f))) (hk : PySem.W.keepIn X.K (.ref f) = true) (F : FnOk X.prog X.w X.K X.mg X.base CX k f fd ps sp)
    (hr : Room k X.A) (hb : Binds X.K fd ps ds) (hd : Vals dvs ds) (hx : Passes CX X E) (ha : PA X (e :: es) t)
    (hc : eval (.Call (.Attribute (.Name x p1) m p2) (e :: es) [] pos) X.env = (do
      let ov ← eval (.Name x p1) X.env
      standAt p2.atName
      let (f, first) ← holding [ov] (getMethod ov m pl)
      callWith pos f first (backTo pos (starEach (e :: es) X.env)) (backToKw pos (keywordEach [] X.env))) := by rfl)
    (hdb : (x == ("__debug__" : Str)) = false := by decide) (he : starEach (e :: es) X.env = (false, eval e X.env) :: starEach es X.env := by rfl) (hpl : (backTo pos (starEach es X.env)).any (·.1) = false := by rfl) :
    PE X (.Call (.Attribute (.Name x p1) m p2) (e :: es) [] pos) (tCall sp dvs E t) := by
  refine ⟨fun pins s σ H Q I h => ?_⟩
  refine PySem.W.methodCall_KW (ld_glob I hg hm ?_ hdb) hc
  refine PySem.W.method_cls I.kIn r.ga (PySem.W.cls_value I.kIn r.rd ht rfl ?_)
  show wpAny _ _ (callWith pos (Value.ref f) [] (backTo pos (starEach (e :: es) X.env)) []) _ _ _
  refine PySem.W.callWith_K (h₀ := X.base) I.ok.mod.kin hk (thn (ha.run pos pins _ σ H _ (I.tok _) h) fun us s1 ⟨vs, H1, I1, r1, q⟩ => ⟨I1.kIn, ?_⟩) he hpl
  exact run_fn F hr hb hd hx I1 r1 q
/-- xs + ys, both to be read -/
def rCatR (K : PySem.W.Frag) : R2 := fun x y H Q => ∃ l b xs zs, x = .ref l ∧ y = .ref b ∧ SqL K H l xs ∧ SqL K H b zs ∧ xs.length + zs.length ≤ sizeLine ∧ ∀ p, H p = none → Q (.ref p) (upd H p (.lst (xs ++ zs)))
theorem op_catR : OpR X (binaryOp .Add) (rCatR X.K) := by
  intro pins s σ H x y v u Q I rx ry h
  obtain ⟨l, b, xs, zs, rfl, rfl, hH, hB, hz, q⟩ := h
  cases rx
  cases ry
  obtain ⟨its, r, e, hl⟩ := I.list hH
  obtain ⟨its2, r2, e2, hl2⟩ := I.list hB
  have l1 := r.length
  have l2 := r2.length
  obtain ⟨⟨cls, dd, data, sl⟩, ho, hc, n, hd⟩ := e.isList
  obtain ⟨⟨cls2, dd2, data2, sl2⟩, ho2, hc2, n2, hd2⟩ := e2.isList
  simp only at hc hd hc2 hd2
  subst hc hd hc2 hd2
  refine concat_meets ⟨_, ho, rfl⟩ ⟨_, ho2, rfl⟩ noFill_list_add seq_list_add PySem.F.slot_list_add PySem.F.entry_list_add (PySem.F.args_list_add_2 _ _) (list_addW l b its.toArray its2.toArray n n2 dd dd2 sl sl2 (by rw [List.size_toArray, List.size_toArray]; omega)) ⟨ho, ho2, ?_⟩
  have ea : its.toArray ++ its2.toArray = (its ++ its2).toArray := by simp
  rw [ea]
  exact ⟨.ref _, _, I.lnew (t' := s.toks) (r.append r2) (by rw [List.length_append]; omega), rfl, q _ I.fresh⟩
end
end Wm
namespace Wm
open PySem PySem.Spec PyProof.Rows L2 ClX
/-- isinstance(e, c) in an except suite, e the exception that it holds (its class D, its dict at dd) -/
def rIsX (K : PySem.W.Frag) (D a dd : Addr) : List V → Hp → VK → Prop := fun xs H Q => ∃ (c : V) (cv : Value) (b : Bool) (fs : List (Str × V)), xs = [.ref a, c] ∧ H dd = some (.xd fs) ∧ (∀ u, RelV c u → u = cv) ∧ PySem.W.kitOne K (.ref D) cv = some b ∧ Q (.bl b) H
theorem call_isX {X : Cx} {a D dd : Addr} {oe : Obj} {pn : List (Addr × Obj)} (C : ExcC X.K D) (hz : Zc (.ref D) (some dd) oe) (hf : ∃ vs, oe.data = .fields vs) : CallR (X.suite a ((a, oe) :: pn)) (.builtin "isinstance") (rIsX X.K D a dd) := by
  intro pins s σ H xs us Q I r h
  obtain ⟨c, cv, b, fs, rfl, hdd, hcv, e, q⟩ := h
  cases r with
  | cons rx rr =>
    cases rr with
    | cons rt rr =>
      cases rr
      cases rx
      have ec := hcv _ rt
      subst ec
      obtain ⟨hget, _⟩ := I.pin (a, oe) (List.mem_append.mpr (.inl List.mem_cons_self))
      obtain ⟨vs, hv⟩ := hf
      have hx : ObjOk X.prog X.w H s.heap dd (.xd fs) := I.hok dd _ hdd
      obtain ⟨mA, hns, hr⟩ := hx
      obtain ⟨od, ho, hl⟩ := lookIn_ns hns
      have J : PySem.W.InstAt s.heap a oe D (some od) := ⟨hget, hz.1, by unfold PySem.W.notCls; rw [hv] <;> rfl, by rw [hz.2]; exact ho⟩
      have hcl : (PySem.W.clsIn X.K D).isSome = true := by
        obtain ⟨cd, hc, _⟩ := PySem.W.any_some C.hd
        rw [hc]
        rfl
      exact PySem.W.kia_one (PySem.W.kitx_exc hcl C.hg C.hk C.hs C.ha C.hn C.ht C.hm) I.kIn J e (fun z => nomatch z) fun tk => ⟨.bl b, H, I.kept (t' := tk) fun _ _ z => z, rfl, q⟩
/-! ### errors of one field -/
def spWI (K : PySem.W.Frag) : Sp := fun vs H Q _ => ∃ (a C : Addr) (v : V), vs = [.ref a, v] ∧ OexC K C ∧ PySem.W.findIn K (.ref C) "kind" = some none ∧ H a = some (exo a C none) ∧ ∀ dx, H dx = none → dx ≠ a → Q .non (upd (upd H dx (exd dx [("kind", v)])) a (exo a C (some dx)))
/-- the dict of an error of one field -/
def ef1 (f kd : Str) (v : V) : List (Str × V) := [(f, v), ("kind", .str kd)]
def spE1 (C : Addr) (f kd : Str) : Sp := fun vs H Q _ => ∃ (a : Addr) (v : V), vs = [.ref a, v] ∧ H a = some (exo a C none) ∧ ∀ dx H', H dx = none → dx ≠ a → (∀ b o, b ≠ a → H b = some o → H' b = some o) → H' a = some (exo a C (some dx)) → H' dx = some (exd dx (ef1 f kd v)) → Q .non H'
/-- what is known of WhoError -/
structure WhoT (K : PySem.W.Frag) (mg : Str → Option Value) (W f0 : Addr) (fd0 : FuncData) : Prop where
  g : mg "WhoError" = some (.ref W)
  r : CRead K W (.type "type")
  m : PySem.W.findCls K (.ref W) (.type "type") "__init__" = some (.val (.ref f0))
  k : PySem.W.keepIn K (.ref f0) = true
  b : Binds K fd0 ["self", "kind"] []
/-- what is known of an error class of one field -/
structure ErrT (K : PySem.W.Frag) (mg : Str → Option Value) (x f : Str) (C fI : Addr) : Prop where
  o : OexC K C
  g : mg x = some (.ref C)
  iC : PySem.W.findIn K (.ref C) "__init__" = some (some (.ref fI))
  tI : PySem.W.typeIn K (.ref fI) = some (.type "function")
  nk : PySem.W.findIn K (.ref C) "kind" = some none
  nf : PySem.W.findIn K (.ref C) f = some none
end Wm
namespace Wm
open PySem L2
section
variable {P : Program} {w : World} {K : PySem.W.Frag} {mg : Str → Option Value} {base : Heap}
theorem scW0 : FnScope ["self", "kind"] ["self", "kind"] (defScope sW0) := ⟨rfl, rfl, rfl, by decide +kernel, rfl, by decide +kernel, by decide +kernel⟩
theorem ok_who {f : Addr} {fd : FuncData} {dvs : List V} (F : FunD K "__init__" "WhoError.__init__" (defArgs sW0) (defBody sW0) (defScope sW0) dvs [] f fd) : FnOk P w K mg base CX0 1 f fd ["self", "kind"] (spWI K) := by
  refine F.ok scW0 (fun vs H Q E h => ?_) (fun cdv A outer s H vs Q E hr h => ?_)
  · obtain ⟨a, C, v, rfl, _⟩ := h
    rfl
  · obtain ⟨a, C, v, rfl, o, nk, ha, k⟩ := h
    refine ⟨_, pss_one (ps_ost (pv 0) (pv 1)), ?_⟩
    exact ⟨_, rfl, _, rfl, a, C, rfl, o, nk, .inl ⟨ha, fun dx n ne => k dx n ne⟩⟩
theorem scN0 : FnScope ["self", "name"] ["self", "name"] (defScope sN0) := ⟨rfl, rfl, rfl, by decide +kernel, rfl, by decide +kernel, by decide +kernel⟩
theorem ok_noname {f C f0 W : Addr} {fd fd0 : FuncData} (F : Fun K "__init__" "NoName.__init__" sN0 f fd) (T : ErrT K mg "NoName" "name" C f) (TW : WhoT K mg W f0 fd0) (G0 : FnOk P w K mg base CX0 1 f0 fd0 ["self", "kind"] (spWI K)) :
    FnOk P w K mg base CX0 2 f fd ["self", "name"] (spE1 C "name" "noname") := by
  refine F.ok scN0 (fun vs H Q E h => ?_) (fun cdv A outer s H vs Q E hr h => ?_)
  · obtain ⟨a, v, rfl, _⟩ := h
    rfl
  · obtain ⟨a, v, rfl, ha, k⟩ := h
    refine ⟨_, pss_cons (ps_expr (pe_clsFn rfl TW.g TW.r TW.m TW.k G0 hr TW.b .nil pass0 (pa_cons (pv 0) (pa_cons pe_str pa_nil)))) (pss_one (ps_ost (pv 0) (pv 1))), ?_⟩
    refine ⟨_, rfl, a, C, _, rfl, T.o, T.nk, ha, fun dx n ne => ?_⟩
    refine ⟨_, rfl, _, rfl, a, C, rfl, T.o, T.nf, .inr ⟨dx, _, upd_same, Eq.trans (upd_ne ne) upd_same, by decide, ?_⟩⟩
    refine k dx _ n ne (fun b o nb e => ?_) ?_ upd_same
    · have nd : b ≠ dx := ne_of_none e n
      rw [upd_ne nd, upd_ne nb, upd_ne nd]
      exact e
    · rw [upd_ne ne.symm, upd_same]
end
end Wm
namespace Wm
open PySem L2
/-! ### names -/
def LET : List Nat := (PySem.Str.ofString "abcdefghijklmnopqrstuvwxyz").cps.toList
def FIG : List Nat := (PySem.Str.ofString "0123456789").cps.toList
def okc (c : Nat) : Bool := decide (c ∈ LET) || decide (c ∈ FIG)
def first (l : List Nat) : Bool := match l with
  | [] => false
  | c :: _ => decide (c ∈ LET)
def isNm (z : Str) : Bool := decide (1 ≤ z.length) && (decide (z.length ≤ 12) && (first z.cps.toList && z.cps.toList.all okc))
theorem alnum : (PySem.Str.ofString "abcdefghijklmnopqrstuvwxyz0123456789").cps.toList = LET ++ FIG := by decide +kernel
theorem let_fig : ∀ c ∈ LET, ¬ c ∈ FIG := by decide +kernel
theorem okc_alnum (c : Nat) : decide (c ∈ (PySem.Str.ofString "abcdefghijklmnopqrstuvwxyz0123456789").cps.toList) = okc c := by
  rw [alnum]
  unfold okc
  by_cases h : c ∈ LET <;> by_cases h2 : c ∈ FIG <;> simp [h, h2]
theorem len_eq (z : Str) : z.length = z.cps.toList.length := by
  show z.cps.size = _
  simp
theorem isNm_small {z : Str} (h : z.length < 1 ∨ 12 < z.length) : isNm z = false := by
  unfold isNm
  rcases h with h | h
  · rw [decide_eq_false (by omega)]
    rfl
  · rw [decide_eq_false (p := z.length ≤ 12) (by omega)]
    simp
theorem isNm_first {z : Str} {c : Nat} (h1 : z.cps.toList[0]? = some c) (hc : ¬ c ∈ LET) : isNm z = false := by
  unfold isNm
  have e : first z.cps.toList = false := by
    cases q : z.cps.toList with
    | nil => rfl
    | cons d r =>
      rw [q] at h1
      have e : d = c := Option.some.inj h1
      rw [e]
      exact decide_eq_false hc
  rw [e]
  simp
theorem isNm_all {z : Str} {c : Nat} (h0 : ¬ z.length < 1) (h12 : ¬ 12 < z.length) (h1 : z.cps.toList[0]? = some c) (hc : c ∈ LET) : isNm z = z.cps.toList.all okc := by
  unfold isNm
  have e : first z.cps.toList = true := by
    cases q : z.cps.toList with
    | nil =>
      rw [q] at h1
      cases h1
    | cons d r =>
      rw [q] at h1
      have e : d = c := Option.some.inj h1
      rw [e]
      exact decide_eq_true hc
  rw [e, decide_eq_true (by omega), decide_eq_true (by omega)]
  rfl
theorem isNm_fig {z : Str} {c : Nat} (h1 : z.cps.toList[0]? = some c) (hc : c ∈ FIG) : isNm z = false := isNm_first h1 fun h => let_fig c h hc
theorem isNm_all2 {z : Str} {c : Nat} (h0 : ¬ z.length < 1) (h12 : ¬ 12 < z.length) (h1 : z.cps.toList[0]? = some c) (hc : ¬ c ∈ FIG) : isNm z = z.cps.toList.all okc := by
  by_cases h : c ∈ LET
  · exact isNm_all h0 h12 h1 h
  · rw [isNm_first h1 h]
    have hm : c ∈ z.cps.toList := List.mem_of_getElem? h1
    have e : okc c = false := by
      unfold okc
      rw [decide_eq_false h, decide_eq_false hc]
      rfl
    symm
    rw [List.all_eq_false]
    exact ⟨c, hm, by rw [e]; decide⟩
theorem all_map {l : List Nat} {f : Nat → Bool} : (l.map f).all id = l.all f := by
  induction l with
  | nil => rfl
  | cons a r ih => rw [List.map_cons, List.all_cons, List.all_cons, ih]; rfl
def spName : Sp := fun vs H Q _ => ∃ z : Str, vs = [.str z] ∧ z.length ≤ 1000 ∧ ∀ H', Same H H' → Q (.bl (isNm z)) H'
/-- the constants of names.py -/
structure TxN (mg : Str → Option Value) : Prop where
  lets : ∃ t, mg "LETTERS" = some (.str (PySem.Str.ofString "abcdefghijklmnopqrstuvwxyz") t)
  figs : ∃ t, mg "FIGURES" = some (.str (PySem.Str.ofString "0123456789") t)
  long : ∃ t, mg "LONGEST_NAME" = some (.int 12 t)
/-- the reading of [f(sign) for sign in text] -/
theorem lc_signs {z : Str} {f : Nat → Bool} {g : TG} {te : TE} {vs : List Nat} {σ : St} {H1 : Hp} {D : Addr} {Qd : Hp → Prop} (hz : z.length ≤ 1000) (hD : H1 D = none)
    (he : ∀ (c : Nat) (H : Hp) (Q : St → Hp → Prop), (∀ σ2, wipe σ2 vs = wipe σ vs → (∀ Q2 : VK, Q2 (.bl (f c)) H → te σ2 H Q2) → Q σ2 H) → g (.str ⟨#[c]⟩) (wipe σ vs) H Q)
    (hd : ∀ H, Same H1 H → H D = some (.lst ((z.cps.toList.map f).map V.bl)) → Qd H) :
    ∃ W : Nat → Nat → Hp → Prop, (∃ m, W 0 m (upd H1 D (.lst []))) ∧ ∀ i m H, W i m H →
      ((Its z).stop i H ∧ Qd H) ∨ ((Its z).go i H ∧ ∃ Nx : Hp → Prop, (∀ H', Nx H' → ∃ m', m' < m ∧ W (i + 1) m' H') ∧ ∀ x H', (Its z).yld i H x H' → g x (wipe σ vs) H' fun σ2 H2 => wipe σ2 vs = wipe σ vs ∧ tYes σ2 H2 fun b H3 =>
        if b = true then te σ2 H3 fun y H4 => ∃ acc, H4 D = some (.lst acc) ∧ acc.length < sizeLine ∧ Nx (upd H4 D (.lst (acc ++ [y]))) else Nx H3) := by
  refine lc_it (walk_str (z := z)) (fun i H' => Same H1 H' ∧ H' D = some (.lst (((z.cps.toList.take i).map f).map V.bl))) ⟨Same.upd hD, upd_same⟩ (fun _ _ _ _ => True.intro) ?_ ?_
  · rintro i x H H' hi ⟨hS, hl⟩ ⟨rfl, c, hc, rfl⟩
    refine he c H' _ fun σ2 hw hq => ⟨hw, hq _ ?_⟩
    refine ⟨_, hl, ?_, ?_, ?_⟩
    · rw [List.length_map, List.length_map, List.length_take]
      have e := len_eq z
      exact Nat.lt_of_le_of_lt (show _ ≤ 1000 by omega) (by decide)
    · intro b o h
      have nb : b ≠ D := ne_of_none h hD
      rw [upd_ne nb]
      exact hS b o h
    · rw [upd_same]
      have e : z.cps.toList[i]? = some c := by simpa using hc
      have hlt : i < z.cps.toList.length := (List.getElem?_eq_some_iff.mp e).1
      rw [List.take_add_one, e, List.map_append, List.map_append]
      rfl
  · rintro H ⟨hS, hl⟩
    refine hd H hS ?_
    rw [hl, List.take_of_length_le (by simp)]
section
variable {P : Program} {w : World} {K : PySem.W.Frag} {mg : Str → Option Value} {base : Heap}
theorem scName : FnScope ["text", "sign"] ["text"] (defScope sName) := ⟨rfl, rfl, rfl, by decide +kernel, rfl, by decide +kernel, by decide +kernel⟩
theorem ok_name {f : Addr} {fd : FuncData} (F : Fun K "is_name" "is_name" sName f fd) (T : TxB mg) (TN : TxN mg) : FnOk P w K mg base CX0 1 f fd ["text"] spName := by
  obtain ⟨t1, hlet⟩ := TN.lets
  obtain ⟨t2, hfig⟩ := TN.figs
  obtain ⟨t3, hlong⟩ := TN.long
  refine F.ok scName (fun vs H Q E h => ?_) (fun cdv A outer s H vs Q E hr h => ?_)
  · obtain ⟨z, rfl, _⟩ := h
    rfl
  · obtain ⟨z, rfl, hz, k⟩ := h
    have hzl : z.length ≤ sizeLine := Nat.le_trans hz (by decide)
    refine ⟨_, (pss_cons (ps_if (PW.pt (pw_or (pt_cmpR op_lt (pe_callB call_len_str (by rfl) T.len (by decide +kernel) (pa_cons (pv 0) pa_nil)) pe_int (nomark _)) (pw_or1 (pt_cmpR op_gt (pe_callB call_len_str (by rfl) T.len (by decide +kernel) (pa_cons (pv 0) pa_nil)) (pe_glob (v := .int 12) (by rfl) hlong ⟨_, rfl⟩) (nomark _))))) (pss_one (ps_ret pe_bl)) pss_nil)
      (pss_cons (ps_if (pt_cmpR op_notIn_sign (pe_ix ix_str (pv 0) pe_int (fun _ _ => rfl)) (pe_glob (v := .str (PySem.Str.ofString "abcdefghijklmnopqrstuvwxyz")) (by rfl) hlet ⟨_, rfl⟩) (by rfl)) (pss_one (ps_ret pe_bl)) pss_nil)
      (pss_one (ps_ret (pe_callB (cr_all rfl) (by rfl) T.all (by decide +kernel) (pa_cons (pe_lc (own := [("sign", 1)]) (g := gName 1) rfl scName.nd (pi_str (pv 0)) (blkOk_by (N := ["text", "sign"]) (sc := defScope sName) (by decide +kernel)) (fun _ _ _ _ _ => (pg_name (i := 1) scName.nd rfl (Or.inl rfl))) (fun _ _ _ _ _ => pts_nil) (fun _ _ _ _ _ => (pe_or (pe_cmpR op_in_sign (pv 1) (pe_glob (v := .str (PySem.Str.ofString "abcdefghijklmnopqrstuvwxyz")) (by rfl) hlet ⟨_, rfl⟩) (by rfl)) (pe_one (pe_cmpR op_in_sign (pv 1) (pe_glob (v := .str (PySem.Str.ofString "0123456789")) (by rfl) hfig ⟨_, rfl⟩) (by rfl)))))) pa_nil)))))), ?_⟩
    refine ⟨_, rfl, z, rfl, hzl, _, _, rfl, rfl, _, rfl, ?_⟩
    refine ite2 (fun h1 => ?_) (fun h1 => ?_)
    · have h1' : (z.length : Int) < 1 := of_decide_eq_true h1
      refine iteT ?_
      have e : isNm z = false := isNm_small (.inl (by omega))
      have q := k H (Same.refl H)
      rw [e] at q
      exact q
    refine ⟨_, rfl, z, rfl, hzl, _, _, rfl, rfl, _, rfl, ?_⟩
    refine ite2 (fun h2 => ?_) (fun h2 => ?_)
    · have h2' : (12 : Int) < z.length := of_decide_eq_true h2
      have e : isNm z = false := isNm_small (.inr (by omega))
      have q := k H (Same.refl H)
      rw [e] at q
      exact q
    have h1' : ¬ z.length < 1 := fun x => h1 (decide_eq_true (by omega))
    have h2' : ¬ 12 < z.length := fun x => h2 (decide_eq_true (by omega))
    refine ⟨_, rfl, ?_⟩
    dsimp only [tC]
    refine rdItem (n := z.length) rfl (by decide) (by omega) (by omega) fun c hc => ?_
    refine ⟨c, _, rfl, rfl, _, rfl, ?_⟩
    refine ite2 (fun h3 => ?_) (fun h3 => ?_)
    · have h3' : ¬ c ∈ LET := fun x => by
        rw [show decide (c ∈ (PySem.Str.ofString "abcdefghijklmnopqrstuvwxyz").cps.toList) = true from decide_eq_true x] at h3
        cases h3
      have q := k H (Same.refl H)
      rw [isNm_first hc h3'] at q
      exact q
    have h3' : c ∈ LET := by
      by_cases x : c ∈ LET
      · exact x
      · rw [show decide (c ∈ (PySem.Str.ofString "abcdefghijklmnopqrstuvwxyz").cps.toList) = false from decide_eq_false x] at h3
        exact absurd rfl h3
    refine ⟨_, rfl, z, rfl, fun D hD => ?_⟩
    refine lc_signs (z := z) (f := okc) hz hD (fun c H Q q => ?_) fun H' hS hl => ?_
    · refine q _ rfl fun Q2 q2 => ?_
      refine ⟨_, rfl, c, _, rfl, rfl, _, rfl, ?_⟩
      unfold okc at q2
      refine ite2 (fun h => ?_) (fun h => ?_)
      · have h' : decide (c ∈ LET) = true := h
        rw [h'] at q2
        exact q2
      · have h' : decide (c ∈ LET) = false := Bool.eq_false_iff.mpr h
        rw [h'] at q2
        exact ⟨_, rfl, c, _, rfl, rfl, q2⟩
    · refine ⟨D, _, rfl, SqL.of hl, ?_⟩
      have q := k H' hS
      rw [isNm_all h1' h2' hc h3', ← all_map] at q
      exact q
end
end Wm
namespace Wm
open PySem L2
theorem mk1 {C : Addr} {f kd : Str} {v : V} {H : Hp} {Q : XK} (k : ∀ d H', H d = none → Same H H' → H' d = some (.xd (ef1 f kd v)) → Q (.ref C) (some d) H') :
    [v].length ≤ 1000 ∧ ∀ a, H a = none → spE1 C f kd (.ref a :: ([v] ++ [])) (upd H a (exo a C none)) (fun u H2 => u = .non ∧ ∃ (d : Addr) (fs : List (Str × V)), H2 a = some (exo a C (some d)) ∧ H2 d = some (exd d fs) ∧ H d = none ∧ Q (.ref C) (some d) (upd (del H2 a) d (.xd fs))) (fun _ _ _ => False) := by
  refine ⟨by show 1 ≤ 1000; decide, fun a na => ⟨a, v, rfl, upd_same, fun dx H' n ne kp ha hd => ⟨rfl, dx, _, ha, hd, ?_, ?_⟩⟩⟩
  · rw [upd_ne ne] at n
    exact n
  · rw [upd_ne ne] at n
    refine k dx _ n (fun b o e => ?_) upd_same
    have nb : b ≠ a := ne_of_none e na
    rw [upd_ne (ne_of_none e n), del_ne nb]
    exact kp b o nb (by rw [upd_ne nb]; exact e)
/-- what is due of the first text that is no name -/
def DueN (C : Addr) (zs : List Str) (H : Hp) (Q : VK) (E : XK) : Prop := match zs.find? (fun z => !isNm z) with
  | none => ∀ H', Same H H' → Q .non H'
  | some z => ∀ d H', H d = none → Same H H' → H' d = some (.xd (ef1 "name" "noname" (.str z))) → E (.ref C) (some d) H'
def spRN (K : PySem.W.Frag) (C : Addr) : Sp := fun vs H Q E => ∃ (l : Addr) (zs : List Str), vs = [.ref l] ∧ SqL K H l (zs.map V.str) ∧ zs.length ≤ 1000 ∧ (∀ z ∈ zs, z.length ≤ 1000) ∧ DueN C zs H Q E
theorem find_none_take {zs : List Str} {i : Nat} {z : Str} {p : Str → Bool} (h : ∀ y ∈ zs.take i, p y = false) (e : zs[i]? = some z) (hz : p z = true) : zs.find? p = some z := by
  have hlt : i < zs.length := (List.getElem?_eq_some_iff.mp e).1
  have e2 : zs = zs.take i ++ z :: zs.drop (i + 1) := by
    have q := List.take_append_drop i zs
    have q2 := List.drop_eq_getElem_cons hlt
    have q3 : zs[i] = z := (List.getElem?_eq_some_iff.mp e).2
    rw [q2, q3] at q
    exact q.symm
  rw [e2, List.find?_append]
  have n : (zs.take i).find? p = none := by
    rw [List.find?_eq_none]
    intro y hy
    rw [h y hy]
    decide
  rw [n]
  simp [hz]
section
variable {P : Program} {w : World} {K : PySem.W.Frag} {mg : Str → Option Value} {base : Heap}
theorem scRN : FnScope ["texts", "text"] ["texts"] (defScope sRN) := ⟨rfl, rfl, rfl, by decide +kernel, rfl, by decide +kernel, by decide +kernel⟩
theorem ok_rn {f fN C fI : Addr} {fd fdN fdI : FuncData} (F : Fun K "refuse_no_name" "refuse_no_name" sRN f fd) (D : Dn K mg "is_name" sName ["text"] fN fdN) (GN : FnOk P w K mg base CX0 1 fN fdN ["text"] spName) (TE : ErrT K mg "NoName" "name" C fI) (bI : Binds K fdI ["self", "name"] [])
    (GI : FnOk P w K mg base CX0 2 fI fdI ["self", "name"] (spE1 C "name" "noname")) : FnOk P w K mg base (L2.CX P w) 4 f fd ["texts"] (spRN K C) := by
  refine F.okX scRN (fun vs H Q E h => ?_) (fun cdv A outer s H vs Q E hr h => ?_)
  · obtain ⟨l, zs, rfl, _⟩ := h
    rfl
  · obtain ⟨l, zs, rfl, hl, hn, hz, k⟩ := h
    have hr1 : Room 1 _ := hr.mono (by decide)
    refine ⟨_, (pss_one (ps_for (passes_of rfl) rfl (pi_list (pv 0)) (pg_name (i := 1) scRN.nd rfl (Or.inl rfl)) (pss_one (ps_if (pt_not (pt_val (pe_call GN hr1 rfl D.g D.F.kp D.b .nil pass0 (pa_cons (pv 1) pa_nil)))) (pss_one (ps_raise rfl (takes_of rfl rfl rfl rfl) (pmk_oex TE.o TE.iC TE.tI GI hr bI .nil pass0 rfl TE.g (pa_cons (pv 1) pa_nil)))) pss_nil)))), ?_⟩
    refine ⟨_, rfl, l, rfl, ⟨_, hl⟩, for_list (K := K) (a := l) (xs := zs.map V.str) (fun i σ H' => ∃ v, σ = [some (.ref l), v] ∧ Same H H' ∧ ∀ y ∈ zs.take i, (!isNm y) = false) ⟨none, rfl, Same.refl H, fun y hy => (List.not_mem_nil hy).elim⟩
      (fun i σ H' _ ⟨_, _, hS, _⟩ => hS.seq hl) ?_ ?_⟩
    · rintro i y σ H' hi ⟨v, rfl, hS, hno⟩
      obtain ⟨z, hzi, rfl⟩ : ∃ z, zs[i]? = some z ∧ y = V.str z := by
        rw [List.getElem?_map] at hi
        cases e : zs[i]? with
        | none =>
          rw [e] at hi
          cases hi
        | some z =>
          rw [e] at hi
          exact ⟨z, rfl, (Option.some.inj hi).symm⟩
      refine ⟨_, rfl, z, rfl, hz z (List.mem_of_getElem? hzi), fun H2 hS2 => ⟨_, rfl, ?_⟩⟩
      refine ite2 (fun h => ?_) (fun h => ?_)
      · refine ⟨_, rfl, ?_⟩
        have e := find_none_take hno hzi h
        unfold DueN at k
        rw [e] at k
        refine mk1 fun d H3 hd hS3 hx => k d H3 (hS.free (hS2.free hd)) (hS.trans (hS2.trans hS3)) hx
      · refine ⟨_, rfl, hS.trans hS2, fun y hy => ?_⟩
        rw [List.take_add_one, hzi] at hy
        rcases List.mem_append.mp hy with hy | hy
        · exact hno y hy
        · have e : y = z := by simpa using hy
          rw [e]
          exact Bool.eq_false_iff.mpr h
    · rintro σ H' ⟨v, rfl, hS, hno⟩
      have e : zs.find? (fun z => !isNm z) = none := by
        rw [List.find?_eq_none]
        intro y hy
        rw [List.length_map, List.take_length] at hno
        rw [hno y hy]
        decide
      unfold DueN at k
      rw [e] at k
      exact k H' hS
end
end Wm
namespace Wm
open PySem PySem.Spec PyProof.Rows L2
/-- enumerate(v): its two new cells -/
theorem meets_enum1 {v : Value} {o : Obj} {H : Heap → Prop} (B : Begins v o H) :
    Meets (Builtin.«enumerate.__new__» ⟨[.type "enumerate", v], []⟩) (fun _ R s => H s.heap ∧
      R (.ok (.ret (.ref (s.heap.push o).objs.size))) { s with heap := (s.heap.push o).push { cls := .type "enumerate", data := .fields #[.none, .bool false, .ref s.heap.objs.size, rawInt 0, .none, .none] } }) :=
  .of_wp fun prog w A R s hh => by
    obtain ⟨hp, g, d, tk, os⟩ := s
    obtain ⟨h1, h⟩ := hh
    have hsub := sub_enumerate
    have q1 : ∀ {A' : Around} {E : Value → Shared → Prop} {Q : Value → Shared → Prop}, Q (.ref hp.objs.size) ⟨hp.push o, g, d, tk, os⟩ → wpAny (model prog w) A' (pyIter v) Q E ⟨hp, g, d, tk, os⟩ := fun q => B.iter prog w _ _ ⟨hp, g, d, tk, os⟩ _ h1 q
    wp_walk using q1
    refine wpAny_stack_any fun stk => wpAny_pure ?_
    split
    · rename_i c _ _ _ _ _
      cases (c == Value.type "enumerate") <;> (wp_walk using q1; exact ⟨_, rfl, h⟩)
    · wp_walk using q1
      exact ⟨_, rfl, h⟩
theorem call_enum_tup {prog : Program} {w : World} {A : Around} {E : Value → Shared → Prop} {s : Shared} {t : Addr} {items : Array Value} {Q : Value → Shared → Prop} (hL : s.heap.IsTuple t items)
    (h : ∀ h', IsEnum h' (s.heap.objs.size + 1) s.heap.objs.size 0 .none → h'.IsTupleIter s.heap.objs.size t 0 → (∀ b o, s.heap.get? b = some o → h'.get? b = some o) → Q (.ref (s.heap.objs.size + 1)) { s with heap := h' }) :
    wpAny (model prog w) A (call (.type "enumerate") [.ref t]) Q E s := by
  refine callType_new F.called_enumerate (by decide) (F.typeCall_enumerate_1 _) (F.newCall_enumerate_1 _) (fun obj => F.args_object_init_2 obj _) F.entry_enumerate_new (meets_enum1 (begins_tuple t items)) ⟨hL, ?_⟩
  generalize ho : ({ cls := .type "tuple_iterator", data := .fields #[.ref t, .int 0 0] } : Obj) = o
  have hz : (s.heap.push o).objs.size = s.heap.objs.size + 1 := Heap.size_push ..
  show _ ∧ _
  rw [hz]
  generalize he : ({ cls := .type "enumerate", data := .fields #[.none, .bool false, .ref s.heap.objs.size, rawInt 0, .none, .none] } : Obj) = eo
  have h2 : ((s.heap.push o).push eo).get? (s.heap.objs.size + 1) = some eo := by
    have q := Heap.get?_push_size (s.heap.push o) (o := eo) (by rw [← he]; rfl)
    rw [hz] at q
    exact q
  have h3 : ((s.heap.push o).push eo).get? s.heap.objs.size = some o := Heap.get?_push_of_some _ (Heap.get?_push_size _ (by rw [← ho]; rfl))
  refine ⟨⟨_, h2, by rw [← he]⟩, h _ ?_ ⟨o, h3, by rw [← ho], by rw [← ho]; rfl⟩ fun b o x => Heap.get?_push_of_some _ (Heap.get?_push_of_some _ x)⟩
  show ((s.heap.push o).push eo).get? (s.heap.objs.size + 1) = some _
  rw [h2, ← he]
/-- the tuple at a, each item in a new pair -/
def IteT (K : PySem.W.Frag) (a : Addr) (xs : List V) : It :=
  ⟨fun i H => SqT K H a xs ∧ i < xs.length, fun i H v H' => ∃ T x, v = .ref T ∧ H T = none ∧ H' = upd H T (.tup [.int (i : Nat), x]) ∧ xs[i]? = some x, fun i H => SqT K H a xs ∧ i = xs.length⟩
theorem turn_enumT {P : Program} {w : World} {K : PySem.W.Frag} {elts : List Expr} {kk : Nat} {tpos : Pos} {xs : List V} (a e it : Addr) (his : List Value) :
    Turn P w K (.Tuple elts kk tpos) (IteT K a xs) [e, it] e (fun i h => (∃ old, IsEnum h e it ((i : Nat) : Int) old) ∧ h.IsTupleIter it a i ∧ e ≠ it ∧ a ≠ it ∧ a ≠ e) where
  mem := by simp
  obj := fun i h st b hb => by
    obtain ⟨⟨old, he⟩, ⟨o, ho, hc, hd⟩, _⟩ := st
    rcases (show b = e ∨ b = it by simpa using hb) with z | z
    · rw [z]
      exact ⟨_, he, fun v q => nomatch q⟩
    · rw [z]
      exact ⟨o, ho, fun v q => by rw [hd] at q; cases q⟩
  keep := fun i h h' st k => let ⟨⟨old, he⟩, hi, hne⟩ := st; ⟨⟨old, k e (by simp) _ he⟩, hi.at fun o q => k it (by simp) o q, hne⟩
  item := by
    intro X hP hw hK hc i pins s σ H E I hf st hg
    subst hP hw hK
    obtain ⟨⟨old, he⟩, hit, hne, nai, nae⟩ := st
    obtain ⟨hq, hlt⟩ := hg
    obtain ⟨its, rv, p, hz⟩ := I.tuple hq
    have hlen := rv.length
    have hel : e < s.heap.objs.size := Heap.lt_size he
    have hil : it < s.heap.objs.size := by obtain ⟨_, q, _⟩ := hit; exact Heap.lt_size q
    have D : Draws X.prog X.w X.A.in1 it [it, a] its.toArray.size (fun i v => its.toArray[i]? = some v) (fun i h => h.IsTupleIter it a i ∧ h.IsTuple a its.toArray) := Draws.tuple (A := X.A.in1) (show X.A.in1.handled = none from I.ok.hd hc) it a nai its.toArray
    refine wpAny_pyNext_enum_itemC D he ⟨hit, p⟩ (by rw [List.size_toArray]; omega) hne (by simp [hne, Ne.symm nae]) fun u h' tk hu ho hst' hT hsz hk => ?_
    have hu' : its[i]? = some u := by simpa using hu
    obtain ⟨x, hx, ru⟩ : ∃ x, xs[i]? = some x ∧ RelV x u := by
      obtain ⟨u2, h2, r2⟩ := rv.get (List.getElem?_eq_getElem hlt)
      rw [hu'] at h2
      cases h2
      exact ⟨_, List.getElem?_eq_getElem hlt, r2⟩
    refine ⟨_, rfl, wpAny_letOwnedTupleGo_enum (s := { s with heap := h', toks := tk + 1 }) ho fun h'' he' sb => ?_⟩
    have hT2 : h''.get? s.heap.objs.size = some { cls := .type "tuple", data := .seq #[.int i tk, u] } := (sb.2 _ (Nat.ne_of_gt hel)).trans hT
    have new : ObjOk X.prog X.w (upd H s.heap.objs.size (.tup [.int (i : Nat), x])) h'' s.heap.objs.size (.tup [.int (i : Nat), x]) := ⟨by show 2 ≤ sizeLine; decide, [.int i tk, u], .cons ⟨_, rfl⟩ (.cons ru .nil), ⟨_, hT2, rfl, _, rfl⟩⟩
    have I1 : Inv X pins σ (upd H s.heap.objs.size (.tup [.int (i : Nat), x])) { s with heap := h'', toks := tk + 1 } :=
      I.turnedNew (ch := [e, it]) (fun b ob hb q => (sb.2 b (fun z => hb (by simp [z]))).trans (hk b ob (fun z => hb (by simp [z])) (fun z => hb (by simp [z])) q)) hf (Nat.le_refl _) new
    refine ⟨.ref s.heap.objs.size, _, I1, rfl, ⟨_, x, rfl, I.hok.fresh (Nat.le_refl _), rfl, hx⟩, ⟨⟨u, ?_⟩, hst'.1.at fun o q => (sb.2 it (Ne.symm hne)).trans q, hne, nai, nae⟩, fun b hb => ?_⟩
    · have e1 : ((i + 1 : Nat) : Int) = (i : Int) + 1 := by omega
      rw [e1]
      exact he'
    · have hb' : b < s.heap.objs.size := by
        rcases (show b = e ∨ b = it by simpa using hb) with z | z
        · rw [z]; exact hel
        · rw [z]; exact hil
      rw [upd_ne (Nat.ne_of_lt hb')]
      exact (hf b hb).1
  done := by
    intro X hP hw hK hc i pins s σ H E I hf st hg
    subst hP hw hK
    obtain ⟨⟨old, he⟩, hit, hne, nai, nae⟩ := st
    obtain ⟨hq, hi⟩ := hg
    obtain ⟨its, rv, p, hz⟩ := I.tuple hq
    have hlen := rv.length
    obtain ⟨f0, f1, f2, f3, f4, f5⟩ := hf it (by simp)
    have D : Draws X.prog X.w X.A.in1 it [it, a] its.toArray.size (fun i v => its.toArray[i]? = some v) (fun i h => h.IsTupleIter it a i ∧ h.IsTuple a its.toArray) := Draws.tuple (A := X.A.in1) (show X.A.in1.handled = none from I.ok.hd hc) it a nai its.toArray
    have en : i = its.toArray.size := by rw [List.size_toArray]; omega
    rw [en] at he hit
    exact wpAny_pyNext_enum_endD D he ⟨hit, p⟩ fun h' eb => ⟨rfl, I.turned (t' := s.toks) (fun b o hb q => eb b o hb q) f0 f1 f3 f4 f5⟩
  self := fun A i s Q E st h => let ⟨⟨_, he⟩, _⟩ := st; wpAny_pyIter_enum he h
def iEnumT (K : PySem.W.Frag) (ta : TA) : TI := fun σ H R => ta σ H fun vs H1 => ∃ a xs, vs = [.ref a] ∧ SqT K H1 a xs ∧ R (IteT K a xs) H1
theorem pi_enumT {X : Cx} {e : Expr} {ta : TA} {p pos tpos : Pos} {elts : List Expr} {kk : Nat} (hg : Gl X "enumerate") (hm : X.mg "enumerate" = none) (ha : PA X [e] ta) (hs : starEach [e] X.env = [(false, eval e X.env)] := by rfl) :
    PI X (.Tuple elts kk tpos) (.Call (.Name "enumerate" p) [e] [] pos) (iEnumT X.K ta) := by
  refine ⟨fun pins s σ H R I h => ?_⟩
  refine Call_ (ld_blt I hg hm boot_enumerate (PyProof.Rows.callWith_type1 (thn (ha.run pos pins s σ H _ I h) fun us s1 ⟨vs, H1, I1, r1, a, xs, ex, hq, q⟩ => ?_) hs rfl))
  subst ex
  cases r1 with
  | cons r rr =>
    cases rr
    cases r
    obtain ⟨its, rv, p', hz⟩ := I1.tuple hq
    have hal : a < s1.heap.objs.size := by obtain ⟨_, z, _⟩ := p'; exact Heap.lt_size z
    refine call_enum_tup (items := its.toArray) p' fun h' he hit hk => wpAny_pyIter_enum he ?_
    have I2 : Inv X pins σ H1 { s1 with heap := h' } := I1.kept (t' := s1.toks) hk
    refine ⟨s1.heap.objs.size + 1, [s1.heap.objs.size + 1, s1.heap.objs.size], _, _, H1, rfl, I2, turn_enumT a (s1.heap.objs.size + 1) s1.heap.objs.size its, ⟨⟨.none, he⟩, hit, Nat.succ_ne_self _, Nat.ne_of_lt hal, Nat.ne_of_lt (Nat.lt_succ_of_lt hal)⟩, fun b hb => ?_, q⟩
    have hle : s1.heap.objs.size ≤ b := by
      rcases (show b = s1.heap.objs.size + 1 ∨ b = s1.heap.objs.size by simpa using hb) with z | z
      · rw [z]; exact Nat.le_add_right _ _
      · rw [z]; exact Nat.le_refl _
    exact I1.fpOk hle (I1.hok.fresh hle)
theorem walk_enumT {K : PySem.W.Frag} {a : Addr} {xs : List V} : Walk (IteT K a xs) xs.length (fun H => SqT K H a xs) (YPair (fun i => some (.int (i : Nat))) (fun i => xs[i]?)) := by
  refine ⟨fun i _ hi q => ⟨q, hi⟩, fun _ q => ⟨q, rfl⟩, fun i H v H' _ q y => ?_⟩
  obtain ⟨T, x, h1, h2, h3, h4⟩ := y
  exact ⟨T, .int (i : Nat), x, h1, h2, h3, rfl, h4⟩
end Wm
namespace Wm
open PySem L2
/-- the outer walk of a comprehension of two clauses -/
theorem lc2_it {J : It} {n : Nat} {G : Hp → Prop} {Y : Nat → Hp → V → Hp → Prop} (w : Walk J n G Y) {g : TG} {vs : List Nat} {σ : St} {H1 : Hp} {D : Addr} {Qd : Hp → Prop} {inner : St → Hp → (Hp → Prop) → Prop} (Pv : Nat → Hp → Prop) (h0 : Pv 0 (upd H1 D (.lst []))) (hG : ∀ i H, i ≤ n → Pv i H → G H)
    (hs : ∀ i x H H', i < n → Pv i H → Y i H x H' → g x (wipe σ vs) H' fun σ2 H2 => wipe σ2 vs = wipe σ vs ∧ inner σ2 H2 (Pv (i + 1))) (hd : ∀ H, Pv n H → Qd H) :
    ∃ W : Nat → Nat → Hp → Prop, (∃ m, W 0 m (upd H1 D (.lst []))) ∧ ∀ i m H, W i m H →
      (J.stop i H ∧ Qd H) ∨ (J.go i H ∧ ∃ Nx : Hp → Prop, (∀ H', Nx H' → ∃ m', m' < m ∧ W (i + 1) m' H') ∧ ∀ x H', J.yld i H x H' → g x (wipe σ vs) H' fun σ2 H2 => wipe σ2 vs = wipe σ vs ∧ inner σ2 H2 Nx) := by
  refine ⟨fun i m H => m = n - i ∧ i ≤ n ∧ Pv i H, ⟨n, by simp, Nat.zero_le _, h0⟩, ?_⟩
  rintro i m H ⟨rfl, hi, p⟩
  have q := hG i H hi p
  by_cases hlt : i < n
  · exact .inr ⟨w.goes i H hlt q, Pv (i + 1), fun H' p' => ⟨n - (i + 1), by omega, rfl, hlt, p'⟩, fun x H' y => hs i x H H' hlt p (w.yields i H x H' hlt q y)⟩
  · have e : i = n := by omega
    subst e
    exact .inl ⟨w.stops H q, hd H p⟩
/-- the inner one -/
theorem lc1_it {J : It} {n : Nat} {G : Hp → Prop} {Y : Nat → Hp → V → Hp → Prop} (w : Walk J n G Y) {g : TG} {te : TE} {vs : List Nat} {σ : St} {H4 : Hp} {D : Addr} {Nx : Hp → Prop} (Pv : Nat → Hp → Prop) (h0 : Pv 0 H4) (hG : ∀ i H, i ≤ n → Pv i H → G H)
    (hs : ∀ i x H H', i < n → Pv i H → Y i H x H' → g x (wipe σ vs) H' fun σ3 H5 => wipe σ3 vs = wipe σ vs ∧ te σ3 H5 fun y H7 => ∃ acc, H7 D = some (.lst acc) ∧ acc.length < sizeLine ∧ Pv (i + 1) (upd H7 D (.lst (acc ++ [y])))) (hd : ∀ H, Pv n H → Nx H) :
    ∃ W1 : Nat → Nat → Hp → Prop, (∃ m, W1 0 m H4) ∧ ∀ j k H, W1 j k H →
      (J.stop j H ∧ Nx H) ∨ (J.go j H ∧ ∃ Nx1 : Hp → Prop, (∀ H', Nx1 H' → ∃ k', k' < k ∧ W1 (j + 1) k' H') ∧ ∀ x H', J.yld j H x H' → g x (wipe σ vs) H' fun σ3 H5 => wipe σ3 vs = wipe σ vs ∧ tYes σ3 H5 fun b H6 =>
        if b = true then te σ3 H6 fun y H7 => ∃ acc, H7 D = some (.lst acc) ∧ acc.length < sizeLine ∧ Nx1 (upd H7 D (.lst (acc ++ [y]))) else Nx1 H6) := by
  refine ⟨fun i m H => m = n - i ∧ i ≤ n ∧ Pv i H, ⟨n, by simp, Nat.zero_le _, h0⟩, ?_⟩
  rintro i m H ⟨rfl, hi, p⟩
  have q := hG i H hi p
  by_cases hlt : i < n
  · exact .inr ⟨w.goes i H hlt q, Pv (i + 1), fun H' p' => ⟨n - (i + 1), by omega, rfl, hlt, p'⟩, fun x H' y => hs i x H H' hlt p (w.yields i H x H' hlt q y)⟩
  · have e : i = n := by omega
    subst e
    exact .inl ⟨w.stops H q, hd H p⟩
/-- tuple(x) of a list or a tuple -/
def rTupOf (K : PySem.W.Frag) : List V → Hp → VK → Prop := fun xs H Q => ∃ p ys, xs = [.ref p] ∧ ((SqL K H p ys ∧ ∀ l, H l = none → Q (.ref l) (upd H l (.tup ys))) ∨ (SqT K H p ys ∧ Q (.ref p) H))
theorem call_tupN {X : Cx} : CallR X (.type "tuple") (rTupOf X.K) := call_tuple_of
theorem same_seqT {K : PySem.W.Frag} {H H' : Hp} {a : Addr} {xs : List V} (e : Same H H') (h : SqT K H a xs) : SqT K H' a xs := by
  rcases h with (h | ⟨o, h⟩) | h
  · exact .inl (.inl (e _ _ h))
  · exact .inl (.inr ⟨o, e _ _ h⟩)
  · exact .inr h
/-- to be read as a list or a tuple -/
def Sq (K : PySem.W.Frag) (H : Hp) (a : Addr) (xs : List V) : Prop := SqL K H a xs ∨ SqT K H a xs
theorem same_sq {K : PySem.W.Frag} {H H' : Hp} {a : Addr} {xs : List V} (e : Same H H') (h : Sq K H a xs) : Sq K H' a xs := h.imp (fun h => e.seq h) (fun h => same_seqT e h)
theorem cut_take (xs : List V) (i : Nat) : cutV xs none (some (i : Int)) = xs.take i := by
  unfold cutV
  rw [HT.sIx_none, HT.sIx_nat, List.drop_zero, Nat.sub_zero]
  by_cases h : i ≤ xs.length
  · rw [Nat.min_eq_left h]
  · rw [Nat.min_eq_right (by omega), List.take_length, List.take_of_length_le (by omega)]
theorem all_take {xs : List V} (h : xs.all flatV = true) (i : Nat) : (xs.take i).all flatV = true := by
  rw [List.all_eq_true] at h ⊢
  exact fun x hx => h x (List.mem_of_mem_take hx)
end Wm
namespace Wm
open PySem L2
/-- no item stands ahead of itself -/
def NoTw (xs : List V) : Prop := ∀ (i : Nat) (x : V), xs[i]? = some x → inV x (xs.take i) = false
def spFT (K : PySem.W.Frag) : Sp := fun vs H Q _ => ∃ (l : Addr) (xs : List V), vs = [.ref l] ∧ Sq K H l xs ∧ xs.all flatV = true ∧ NoTw xs ∧ ∀ H', Same H H' → Q .non H'
def spRC : Sp := fun vs H Q _ => ∃ (z : V) (c lo hi : Int), vs = [z, .int c, .int lo, .int hi] ∧ lo ≤ c ∧ c ≤ hi ∧ Q .non H
section
variable {P : Program} {w : World} {K : PySem.W.Frag} {mg : Str → Option Value} {base : Heap}
theorem scRC : FnScope ["what", "count", "least", "most"] ["what", "count", "least", "most"] (defScope sRC) := ⟨rfl, rfl, rfl, by decide +kernel, rfl, by decide +kernel, by decide +kernel⟩
theorem ok_rc {f : Addr} {fd : FuncData} (F : Fun K "refuse_count" "refuse_count" sRC f fd) : FnOk P w K mg base CX0 1 f fd ["what", "count", "least", "most"] spRC := by
  refine F.ok scRC (fun vs H Q E h => ?_) (fun cdv A outer s H vs Q E hr h => ?_)
  · obtain ⟨z, c, lo, hi, rfl, _⟩ := h
    rfl
  · obtain ⟨z, c, lo, hi, rfl, h1, h2, k⟩ := h
    refine ⟨_, (pss_one (ps_if (PW.pt (pw_or (pt_cmpR op_lt (pv 1) (pv 2) (nomark _)) (pw_or1 (pt_cmpR op_gt (pv 1) (pv 3) (nomark _))))) (pss_one ps_never) pss_nil)), ?_⟩
    refine ⟨_, rfl, _, rfl, _, _, rfl, rfl, _, rfl, ?_⟩
    refine ite2 (fun h => absurd (of_decide_eq_true h) (by omega)) (fun _ => ?_)
    refine ⟨_, rfl, _, rfl, _, _, rfl, rfl, _, rfl, ?_⟩
    exact ite2 (fun h => absurd (of_decide_eq_true h) (by omega)) (fun _ => k)
theorem scFT : FnScope ["row", "place", "part"] ["row"] (defScope sFT) := ⟨rfl, rfl, rfl, by decide +kernel, rfl, by decide +kernel, by decide +kernel⟩
theorem ok_ft {f : Addr} {fd : FuncData} (F : Fun K "first_twice" "first_twice" sFT f fd) (T : TxB mg) : FnOk P w K mg base CX0 1 f fd ["row"] (spFT K) := by
  refine F.ok scFT (fun vs H Q E h => ?_) (fun cdv A outer s H vs Q E hr h => ?_)
  · obtain ⟨l, xs, rfl, _⟩ := h
    rfl
  · obtain ⟨l, xs, rfl, hl, hf, hno, k⟩ := h
    rcases hl with hl | hl
    · refine ⟨_, (pss_cons (ps_for PassesOwn.never rfl (pi_enum rfl T.enumerate (pa_cons (pv 0) pa_nil)) (pg_tup rfl (pgs_cons (pg_name (i := 1) scFT.nd rfl (Or.inl rfl)) (pgs_cons (pg_name (i := 2) scFT.nd rfl (Or.inl rfl)) pgs_nil))) (pss_one (ps_if (pt_cmpR op_in_seq (pv 2) (pe_slice sl_list (pv 0) po_none (po_some (pv 1))) (by rfl)) (pss_one (ps_ret (pv 1))) pss_nil)))
      (pss_one (ps_ret pe_non))), ?_⟩
      refine ⟨_, rfl, l, xs, rfl, hl, for_it walk_enum (fun i σ H' => (∃ u v, σ = [some (.ref l), u, v]) ∧ Same H H') ⟨⟨none, none, rfl⟩, Same.refl H⟩ (fun i σ H' _ p => p.2.seq hl) ?_ ?_⟩
      · rintro i x σ H1 H2 hi ⟨⟨u, v, rfl⟩, hS⟩ ⟨t, y, z, rfl, ht, rfl, e1, e2⟩
        cases e1
        refine ⟨t, _, rfl, SqT.of upd_same, rfl, _, _, rfl, _, _, rfl, rfl, ?_⟩
        have S2 := hS.trans (Same.upd (o := .tup [.int (i : Nat), z]) ht)
        refine ⟨_, rfl, _, rfl, _, rfl, _, rfl, l, xs, rfl, S2.seq hl, fun p hp => ?_⟩
        refine ⟨p, _, rfl, .inl (SqL.of upd_same), ?_, ?_, _, rfl, ?_⟩
        · exact List.all_eq_true.mp hf _ (List.mem_of_getElem? e2)
        · show (cutV xs none (some (i : Int))).all flatV = true
          rw [cut_take]
          exact all_take hf i
        · have e : inV z (cutV xs none (some (i : Int))) = false := by
            rw [cut_take]
            exact hno i z e2
          show if inV z (cutV xs none (some (i : Int))) = true then _ else _
          rw [e]
          exact iteF ⟨⟨_, _, rfl⟩, S2.trans (Same.upd hp)⟩
      · rintro σ H' ⟨_, hS⟩
        exact k H' hS
    · refine ⟨_, (pss_cons (ps_for PassesOwn.never rfl (pi_enumT rfl T.enumerate (pa_cons (pv 0) pa_nil)) (pg_tup rfl (pgs_cons (pg_name (i := 1) scFT.nd rfl (Or.inl rfl)) (pgs_cons (pg_name (i := 2) scFT.nd rfl (Or.inl rfl)) pgs_nil))) (pss_one (ps_if (pt_cmpR op_in_seq (pv 2) (pe_slice sl_tupA (pv 0) po_none (po_some (pv 1))) (by rfl)) (pss_one (ps_ret (pv 1))) pss_nil)))
      (pss_one (ps_ret pe_non))), ?_⟩
      refine ⟨_, rfl, l, xs, rfl, hl, for_it walk_enumT (fun i σ H' => (∃ u v, σ = [some (.ref l), u, v]) ∧ Same H H') ⟨⟨none, none, rfl⟩, Same.refl H⟩ (fun i σ H' _ p => same_seqT p.2 hl) ?_ ?_⟩
      · rintro i x σ H1 H2 hi ⟨⟨u, v, rfl⟩, hS⟩ ⟨t, y, z, rfl, ht, rfl, e1, e2⟩
        cases e1
        refine ⟨t, _, rfl, SqT.of upd_same, rfl, _, _, rfl, _, _, rfl, rfl, ?_⟩
        have S2 := hS.trans (Same.upd (o := .tup [.int (i : Nat), z]) ht)
        refine ⟨_, rfl, _, rfl, _, rfl, _, rfl, l, xs, rfl, same_seqT S2 hl, fun h => ?_, fun h p hp => ?_⟩
        · have en : xs.take i = xs := by
            rw [HT.sIx_nat] at h
            exact List.take_of_length_le (by omega)
          have e : inV z xs = false := by
            have q := hno i z e2
            rw [en] at q
            exact q
          refine ⟨l, xs, rfl, .inr (same_seqT S2 hl), List.all_eq_true.mp hf _ (List.mem_of_getElem? e2), hf, _, rfl, ?_⟩
          show if inV z xs = true then _ else _
          rw [e]
          exact iteF ⟨⟨_, _, rfl⟩, S2⟩
        · refine ⟨p, _, rfl, .inr (SqT.of upd_same), List.all_eq_true.mp hf _ (List.mem_of_getElem? e2), ?_, _, rfl, ?_⟩
          · show (cutV xs none (some (i : Int))).all flatV = true
            rw [cut_take]
            exact all_take hf i
          · have e : inV z (cutV xs none (some (i : Int))) = false := by
              rw [cut_take]
              exact hno i z e2
            show if inV z (cutV xs none (some (i : Int))) = true then _ else _
            rw [e]
            exact iteF ⟨⟨_, _, rfl⟩, S2.trans (Same.upd hp)⟩
      · rintro σ H' ⟨_, hS⟩
        exact k H' hS
theorem scRT : FnScope ["names", "place"] ["names"] (defScope sRT) := ⟨rfl, rfl, rfl, by decide +kernel, rfl, by decide +kernel, by decide +kernel⟩
theorem ok_rt {f fF : Addr} {fd fdF : FuncData} (F : Fun K "refuse_twice" "refuse_twice" sRT f fd) (T : TxB mg) (D : Dn K mg "first_twice" sFT ["row"] fF fdF) : FnOk P w K mg base CX0 2 f fd ["names"] (spFT K) := by
  have G : FnOk P w K mg base CX0 1 fF fdF ["row"] (spFT K) := ok_ft D.F T
  refine F.ok scRT (fun vs H Q E h => ?_) (fun cdv A outer s H vs Q E hr h => ?_)
  · obtain ⟨l, xs, rfl, _⟩ := h
    rfl
  · obtain ⟨l, xs, rfl, hl, hf, hno, k⟩ := h
    refine ⟨_, (pss_cons (ps_set (i := 1) scRT.nd rfl (Or.inl rfl) (pe_call G hr rfl D.g D.F.kp D.b .nil pass0 (pa_cons (pv 0) pa_nil)))
      (pss_one (ps_if (pt_cmp (pc_notN (pv 1))) (pss_one ps_never) pss_nil))), ?_⟩
    refine ⟨_, rfl, l, xs, rfl, hl, hf, hno, fun H' hS => ?_⟩
    refine ⟨_, rfl, _, rfl, ?_⟩
    exact iteF (k H' hS)
end
end Wm
namespace Wm
open PySem L2
/-- the tuples at the addresses -/
def RowsAt (K : PySem.W.Frag) (H : Hp) : List Addr → List (List V) → Prop
  | [], [] => True
  | p :: ps, r :: rs => SqT K H p r ∧ RowsAt K H ps rs
  | _, _ => False
theorem RowsAt.same {K : PySem.W.Frag} {H H' : Hp} (e : Same H H') : ∀ {ps : List Addr} {rs : List (List V)}, RowsAt K H ps rs → RowsAt K H' ps rs
  | [], [], _ => True.intro
  | _ :: _, _ :: _, h => ⟨same_seqT e h.1, RowsAt.same e h.2⟩
  | [], _ :: _, h => h.elim
  | _ :: _, [], h => h.elim
theorem RowsAt.len {K : PySem.W.Frag} {H : Hp} : ∀ {ps : List Addr} {rs : List (List V)}, RowsAt K H ps rs → ps.length = rs.length
  | [], [], _ => rfl
  | _ :: _, _ :: _, h => congrArg Nat.succ (RowsAt.len h.2)
  | [], _ :: _, h => h.elim
  | _ :: _, [], h => h.elim
theorem RowsAt.get {K : PySem.W.Frag} {H : Hp} : ∀ {ps : List Addr} {rs : List (List V)} {i : Nat} {p : Addr}, RowsAt K H ps rs → ps[i]? = some p → ∃ r, rs[i]? = some r ∧ SqT K H p r
  | [], [], i, p, _, e => by simp at e
  | _ :: _, r :: _, 0, p, h, e => by
    have e' := Option.some.inj e
    subst e'
    exact ⟨r, rfl, h.1⟩
  | _ :: ps, _ :: rs, i + 1, p, h, e => by
    obtain ⟨r, h1, h2⟩ := RowsAt.get (i := i) h.2 (by simpa using e)
    exact ⟨r, by simpa using h1, h2⟩
  | [], _ :: _, _, _, h, _ => h.elim
  | _ :: _, [], _, _, h, _ => h.elim
theorem RowsAt.append {K : PySem.W.Frag} {H : Hp} : ∀ {ps qs : List Addr} {rs us : List (List V)}, RowsAt K H ps rs → RowsAt K H qs us → RowsAt K H (ps ++ qs) (rs ++ us)
  | [], _, [], _, _, h => h
  | _ :: _, _, _ :: _, _, h, g => ⟨h.1, RowsAt.append h.2 g⟩
  | [], _, _ :: _, _, h, _ => h.elim
  | _ :: _, _, [], _, h, _ => h.elim
theorem RowsAt.take {K : PySem.W.Frag} {H : Hp} : ∀ {ps : List Addr} {rs : List (List V)} (n : Nat), RowsAt K H ps rs → RowsAt K H (ps.take n) (rs.take n)
  | _, _, 0, _ => True.intro
  | [], [], _ + 1, _ => True.intro
  | _ :: _, _ :: _, n + 1, h => ⟨h.1, RowsAt.take n h.2⟩
  | [], _ :: _, _ + 1, h => h.elim
  | _ :: _, [], _ + 1, h => h.elim
theorem map_ref_get {ps : List Addr} {i : Nat} {x : V} (h : (ps.map V.ref)[i]? = some x) : ∃ p, ps[i]? = some p ∧ x = .ref p := by
  rw [List.getElem?_map] at h
  cases e : ps[i]? with
  | none =>
    rw [e] at h
    cases h
  | some p =>
    rw [e] at h
    exact ⟨p, rfl, (Option.some.inj h).symm⟩
theorem map_str_get {ps : List Str} {i : Nat} {x : V} (h : (ps.map V.str)[i]? = some x) : ∃ p, ps[i]? = some p ∧ x = .str p := by
  rw [List.getElem?_map] at h
  cases e : ps[i]? with
  | none =>
    rw [e] at h
    cases h
  | some p =>
    rw [e] at h
    exact ⟨p, rfl, (Option.some.inj h).symm⟩
abbrev Tri := Str × Str × Str
def triV (t : Tri) : List V := [.str t.1, .str t.2.1, .str t.2.2]
def endsL (ts : List Tri) : List Str := ts.flatMap fun t => [t.1, t.2.2]
theorem endsL_take {ts : List Tri} {i : Nat} {t : Tri} (h : ts[i]? = some t) : endsL (ts.take (i + 1)) = endsL (ts.take i) ++ [t.1, t.2.2] := by
  unfold endsL
  rw [List.take_add_one, h, List.flatMap_append]
  rfl
theorem endsL_len (ts : List Tri) : (endsL ts).length = 2 * ts.length := by
  induction ts with
  | nil => rfl
  | cons t r ih =>
    have e : (endsL (t :: r)).length = 2 + (endsL r).length := by
      show ([t.1, t.2.2] ++ endsL r).length = _
      rw [List.length_append]
      rfl
    have e2 : (t :: r).length = r.length + 1 := rfl
    omega
theorem tri_get {ts : List Tri} {i : Nat} {r : List V} (h : (ts.map triV)[i]? = some r) : ∃ t, ts[i]? = some t ∧ r = triV t := by
  rw [List.getElem?_map] at h
  cases e : ts[i]? with
  | none =>
    rw [e] at h
    cases h
  | some p =>
    rw [e] at h
    exact ⟨p, rfl, (Option.some.inj h).symm⟩
def spTT (K : PySem.W.Frag) : Sp := fun vs H Q _ => ∃ (l : Addr) (ps : List Addr) (rs : List (List V)), vs = [.ref l] ∧ SqL K H l (ps.map V.ref) ∧ RowsAt K H ps rs ∧ ps.length ≤ 1000 ∧ ∀ t H', H t = none → Same H H' → H' t = some (.tup (ps.map V.ref)) → Q (.ref t) H'
def spEO (K : PySem.W.Frag) : Sp := fun vs H Q _ => ∃ (l : Addr) (ps : List Addr) (ts : List Tri), vs = [.ref l] ∧ Sq K H l (ps.map V.ref) ∧ RowsAt K H ps (ts.map triV) ∧ ps.length ≤ 1000 ∧ ∀ d H', H d = none → Same H H' → H' d = some (.lst ((endsL ts).map V.str)) → Q (.ref d) H'
section
variable {P : Program} {w : World} {K : PySem.W.Frag} {mg : Str → Option Value} {base : Heap}
theorem scTT : FnScope ["rows", "row"] ["rows"] (defScope sTT) := ⟨rfl, rfl, rfl, by decide +kernel, rfl, by decide +kernel, by decide +kernel⟩
theorem ok_tt {f : Addr} {fd : FuncData} (F : Fun K "tuple_of_tuples" "tuple_of_tuples" sTT f fd) (T : TxB mg) : FnOk P w K mg base CX0 1 f fd ["rows"] (spTT K) := by
  refine F.ok scTT (fun vs H Q E h => ?_) (fun cdv A outer s H vs Q E hr h => ?_)
  · obtain ⟨l, ps, rs, rfl, _⟩ := h
    rfl
  · obtain ⟨l, ps, rs, rfl, hl, hrs, hn, k⟩ := h
    refine ⟨_, (pss_one (ps_ret (pe_callTy call_tupN (by rfl) T.tuple (by decide +kernel) (pa_cons (pe_lc (own := [("row", 1)]) (g := gName 1) (te := tCB (rTupOf K) (tCons (tVar 1) tNil)) rfl scTT.nd (pi_list (pv 0)) (blkOk_by (N := ["rows", "row"]) (sc := defScope sTT) (by decide +kernel)) (fun _ _ _ _ _ => (pg_name (i := 1) scTT.nd rfl (Or.inl rfl))) (fun _ _ _ _ _ => pts_nil) (fun _ _ _ _ _ => (pe_callTy call_tupN (by rfl) T.tuple (by decide +kernel) (pa_cons (pv 1) pa_nil)))) pa_nil)))), ?_⟩
    refine ⟨_, rfl, l, rfl, ⟨_, hl⟩, fun D hD => ?_⟩
    refine lc_it walk_list (fun i H' => Same H H' ∧ H' D = some (.lst ((ps.take i).map V.ref))) ⟨Same.upd hD, upd_same⟩ (fun i H' _ p => p.1.seq hl) ?_ ?_
    · rintro i x H1 H2 hi ⟨hS, hd⟩ ⟨rfl, hx⟩
      obtain ⟨p, hp, rfl⟩ := map_ref_get hx
      obtain ⟨r, _, hr'⟩ := hrs.get hp
      refine ⟨rfl, ?_⟩
      refine ⟨_, rfl, p, r, rfl, .inr ⟨same_seqT hS hr', _, hd, ?_, ?_, ?_⟩⟩
      · rw [List.length_map, List.length_take]
        exact Nat.lt_of_le_of_lt (show _ ≤ 1000 by omega) (by decide)
      · intro b o h
        rw [upd_ne (ne_of_none h hD)]
        exact hS b o h
      · rw [upd_same, List.take_add_one, hp, List.map_append]
        rfl
    · rintro H' ⟨hS, hd⟩
      rw [List.length_map, List.take_length] at hd
      exact ⟨D, _, rfl, .inl ⟨SqL.of hd, fun t ht => k t _ (hS.free ht) (hS.trans (Same.upd ht)) upd_same⟩⟩
theorem scEO : FnScope ["triples", "x", "word", "y", "end"] ["triples"] (defScope sEO) := ⟨rfl, rfl, rfl, by decide +kernel, rfl, by decide +kernel, by decide +kernel⟩
theorem ok_eo {f : Addr} {fd : FuncData} (F : Fun K "ends_of" "ends_of" sEO f fd) : FnOk P w K mg base CX0 1 f fd ["triples"] (spEO K) := by
  refine F.ok scEO (fun vs H Q E h => ?_) (fun cdv A outer s H vs Q E hr h => ?_)
  · obtain ⟨l, ps, ts, rfl, _⟩ := h
    rfl
  · obtain ⟨l, ps, ts, rfl, hl, hrs, hn, k⟩ := h
    have hlen := hrs.len
    rw [List.length_map] at hlen
    rcases hl with hl | hl
    · refine ⟨_, (pss_one (ps_ret (pe_lc2 (own := [("x", 1), ("word", 2), ("y", 3), ("end", 4)]) (vs1 := [4]) (g := gTup K 3 (gCons (gName 1) (gCons (gName 2) (gCons (gName 3) gNil)))) (g1 := gName 4) (wi1 := iTup K (tTup (tCons (tVar 1) (tCons (tVar 3) tNil)))) rfl scEO.nd (pi_list (pv 0)) (blkOk_by (N := ["triples", "x", "word", "y", "end"]) (sc := defScope sEO) (by decide +kernel)) (by decide) (fun _ _ _ _ _ => (pg_tup rfl (pgs_cons (pg_name (i := 1) scEO.nd rfl (Or.inl rfl)) (pgs_cons (pg_name (i := 2) scEO.nd rfl (Or.inl rfl)) (pgs_cons (pg_name (i := 3) scEO.nd rfl (Or.inl rfl)) pgs_nil))))) (fun _ _ _ _ _ => pts_nil) (fun _ _ _ _ _ => (pi_tup (pe_tup (pa_cons (pv 1) (pa_cons (pv 3) pa_nil))))) (fun _ _ _ _ _ => (pg_name (i := 4) scEO.nd rfl (Or.inl rfl))) (fun _ _ _ _ _ => pts_nil) (fun _ _ _ _ _ => (pv 4))))), ?_⟩
      refine ⟨_, rfl, l, rfl, ⟨_, hl⟩, fun D hD => ?_⟩
      refine lc2_it walk_list (fun i H' => Same H H' ∧ H' D = some (.lst ((endsL (ts.take i)).map V.str))) ⟨Same.upd hD, upd_same⟩ (fun i H' _ p => p.1.seq hl) ?_ ?_
      · rintro i x H1 H2 hi ⟨hS, hd⟩ ⟨rfl, hx⟩
        obtain ⟨p, hp, rfl⟩ := map_ref_get hx
        obtain ⟨r, hr1, hr'⟩ := hrs.get hp
        obtain ⟨t, ht, rfl⟩ := tri_get hr1
        refine ⟨p, _, rfl, same_seqT hS hr', rfl, _, _, rfl, _, _, rfl, _, _, rfl, rfl, rfl, ?_⟩
        refine ⟨_, rfl, _, rfl, by show 2 ≤ sizeLine; decide, fun q hq => ⟨q, rfl, ⟨_, SqT.of upd_same⟩, ?_⟩⟩
        have nDq : D ≠ q := ne_of_none hd hq
        refine lc1_it walk_tup (fun j H' => Same H H' ∧ SqT K H' q [.str t.1, .str t.2.2] ∧ H' D = some (.lst ((endsL (ts.take i) ++ [t.1, t.2.2].take j).map V.str))) ⟨hS.trans (Same.upd hq), SqT.of upd_same, ?_⟩ (fun _ _ _ p => p.2.1) ?_ ?_
        · rw [upd_ne nDq, hd, List.take_zero, List.append_nil]
        · rintro j y H3 H4 hj ⟨hS3, hq3, hd3⟩ ⟨rfl, hy⟩
          refine ⟨rfl, _, rfl, _, hd3, ?_, ?_, ?_, ?_⟩
          · rw [List.length_map, List.length_append, endsL_len, List.length_take, List.length_take]
            have l2 : [t.1, t.2.2].length = 2 := rfl
            exact Nat.lt_of_le_of_lt (show _ ≤ 4000 by omega) (by decide)
          · intro b o h
            rw [upd_ne (ne_of_none h hD)]
            exact hS3 b o h
          · rcases hq3 with (h | ⟨o, h⟩) | h
            · exact .inl (.inl (by rw [upd_ne (ne_of h hd3 (by intro z; cases z))]; exact h))
            · exact .inl (.inr ⟨o, by rw [upd_ne (ne_of h hd3 (by intro z; cases z))]; exact h⟩)
            · exact .inr h
          · have hy' : ([t.1, t.2.2].map V.str)[j]? = some y := hy
            obtain ⟨z, hz, rfl⟩ := map_str_get hy'
            have e : ∀ l : List Str, (l ++ (some z).toList).map V.str = l.map V.str ++ [V.str z] := fun l => by
              rw [List.map_append]
              rfl
            rw [upd_same, List.take_add_one, hz, ← List.append_assoc, e]
        · rintro H3 ⟨hS3, hq3, hd3⟩
          refine ⟨hS3, ?_⟩
          rw [hd3, endsL_take ht]
          rfl
      · rintro H' ⟨hS, hd⟩
        refine k D H' hD hS ?_
        rw [hd, List.length_map, List.take_of_length_le (by omega)]
    · refine ⟨_, (pss_one (ps_ret (pe_lc2 (own := [("x", 1), ("word", 2), ("y", 3), ("end", 4)]) (vs1 := [4]) (g := gTup K 3 (gCons (gName 1) (gCons (gName 2) (gCons (gName 3) gNil)))) (g1 := gName 4) (wi1 := iTup K (tTup (tCons (tVar 1) (tCons (tVar 3) tNil)))) rfl scEO.nd (pi_tup (pv 0)) (blkOk_by (N := ["triples", "x", "word", "y", "end"]) (sc := defScope sEO) (by decide +kernel)) (by decide) (fun _ _ _ _ _ => (pg_tup rfl (pgs_cons (pg_name (i := 1) scEO.nd rfl (Or.inl rfl)) (pgs_cons (pg_name (i := 2) scEO.nd rfl (Or.inl rfl)) (pgs_cons (pg_name (i := 3) scEO.nd rfl (Or.inl rfl)) pgs_nil))))) (fun _ _ _ _ _ => pts_nil) (fun _ _ _ _ _ => (pi_tup (pe_tup (pa_cons (pv 1) (pa_cons (pv 3) pa_nil))))) (fun _ _ _ _ _ => (pg_name (i := 4) scEO.nd rfl (Or.inl rfl))) (fun _ _ _ _ _ => pts_nil) (fun _ _ _ _ _ => (pv 4))))), ?_⟩
      refine ⟨_, rfl, l, rfl, ⟨_, hl⟩, fun D hD => ?_⟩
      refine lc2_it walk_tup (fun i H' => Same H H' ∧ H' D = some (.lst ((endsL (ts.take i)).map V.str))) ⟨Same.upd hD, upd_same⟩ (fun i H' _ p => same_seqT p.1 hl) ?_ ?_
      · rintro i x H1 H2 hi ⟨hS, hd⟩ ⟨rfl, hx⟩
        obtain ⟨p, hp, rfl⟩ := map_ref_get hx
        obtain ⟨r, hr1, hr'⟩ := hrs.get hp
        obtain ⟨t, ht, rfl⟩ := tri_get hr1
        refine ⟨p, _, rfl, same_seqT hS hr', rfl, _, _, rfl, _, _, rfl, _, _, rfl, rfl, rfl, ?_⟩
        refine ⟨_, rfl, _, rfl, by show 2 ≤ sizeLine; decide, fun q hq => ⟨q, rfl, ⟨_, SqT.of upd_same⟩, ?_⟩⟩
        have nDq : D ≠ q := ne_of_none hd hq
        refine lc1_it walk_tup (fun j H' => Same H H' ∧ SqT K H' q [.str t.1, .str t.2.2] ∧ H' D = some (.lst ((endsL (ts.take i) ++ [t.1, t.2.2].take j).map V.str))) ⟨hS.trans (Same.upd hq), SqT.of upd_same, ?_⟩ (fun _ _ _ p => p.2.1) ?_ ?_
        · rw [upd_ne nDq, hd, List.take_zero, List.append_nil]
        · rintro j y H3 H4 hj ⟨hS3, hq3, hd3⟩ ⟨rfl, hy⟩
          refine ⟨rfl, _, rfl, _, hd3, ?_, ?_, ?_, ?_⟩
          · rw [List.length_map, List.length_append, endsL_len, List.length_take, List.length_take]
            have l2 : [t.1, t.2.2].length = 2 := rfl
            exact Nat.lt_of_le_of_lt (show _ ≤ 4000 by omega) (by decide)
          · intro b o h
            rw [upd_ne (ne_of_none h hD)]
            exact hS3 b o h
          · rcases hq3 with (h | ⟨o, h⟩) | h
            · exact .inl (.inl (by rw [upd_ne (ne_of h hd3 (by intro z; cases z))]; exact h))
            · exact .inl (.inr ⟨o, by rw [upd_ne (ne_of h hd3 (by intro z; cases z))]; exact h⟩)
            · exact .inr h
          · have hy' : ([t.1, t.2.2].map V.str)[j]? = some y := hy
            obtain ⟨z, hz, rfl⟩ := map_str_get hy'
            have e : ∀ l : List Str, (l ++ (some z).toList).map V.str = l.map V.str ++ [V.str z] := fun l => by
              rw [List.map_append]
              rfl
            rw [upd_same, List.take_add_one, hz, ← List.append_assoc, e]
        · rintro H3 ⟨hS3, hq3, hd3⟩
          refine ⟨hS3, ?_⟩
          rw [hd3, endsL_take ht]
          rfl
      · rintro H' ⟨hS, hd⟩
        refine k D H' hD hS ?_
        rw [hd, List.length_map, List.take_of_length_le (by omega)]
end
end Wm
namespace Wm
open PySem L2
abbrev Var := Str × Option Str
def sortV : Option Str → V
  | none => .non
  | some s => .str s
def varV (v : Var) : List V := [.str v.1, sortV v.2]
def varT (v : Var) : List Str := v.1 :: v.2.toList
def textsL (nm : Str) (vars : List Var) (ts : List Tri) : List Str := (nm :: vars.flatMap varT) ++ ts.map (·.2.1)
theorem flat_take {vars : List Var} {i : Nat} {v : Var} (h : vars[i]? = some v) : (vars.take (i + 1)).flatMap varT = (vars.take i).flatMap varT ++ varT v := by
  rw [List.take_add_one, h, List.flatMap_append]
  simp
theorem var_get {vars : List Var} {i : Nat} {r : List V} (h : (vars.map varV)[i]? = some r) : ∃ t, vars[i]? = some t ∧ r = varV t := by
  rw [List.getElem?_map] at h
  cases e : vars[i]? with
  | none =>
    rw [e] at h
    cases h
  | some p =>
    rw [e] at h
    exact ⟨p, rfl, (Option.some.inj h).symm⟩
theorem inV_str {z : Str} {ns : List Str} : inV (.str z) (ns.map V.str) = decide (z ∈ ns) := by
  unfold inV
  induction ns with
  | nil => rfl
  | cons a r ih =>
    rw [List.map_cons, List.any_cons, ih]
    show (a == z || _) = _
    by_cases h : a = z
    · subst h
      simp
    · have h2 : ¬ z = a := fun q => h q.symm
      by_cases h3 : z ∈ r <;> simp [h, h2, h3]
theorem flat_strs (ns : List Str) : (ns.map V.str).all flatV = true := by
  rw [List.all_eq_true]
  intro x hx
  obtain ⟨z, _, rfl⟩ := List.mem_map.mp hx
  rfl
def spTP (K : PySem.W.Frag) : Sp := fun vs H Q _ => ∃ (nm : Str) (a b : Addr) (ps qs : List Addr) (vars : List Var) (ts : List Tri), vs = [.str nm, .ref a, .ref b] ∧ SqT K H a (ps.map V.ref) ∧ RowsAt K H ps (vars.map varV) ∧ SqL K H b (qs.map V.ref) ∧ RowsAt K H qs (ts.map triV) ∧
  ps.length ≤ 1000 ∧ qs.length ≤ 1000 ∧ ∀ d H', H d = none → Same H H' → H' d = some (.lst ((textsL nm vars ts).map V.str)) → Q (.ref d) H'
def spRV (K : PySem.W.Frag) : Sp := fun vs H Q _ => ∃ (a b : Addr) (ns zs : List Str), vs = [.ref a, .ref b] ∧ SqL K H a (ns.map V.str) ∧ SqL K H b (zs.map V.str) ∧ (∀ z ∈ zs, z ∈ ns) ∧ ∀ H', Same H H' → Q .non H'
def spRL (K : PySem.W.Frag) : Sp := fun vs H Q _ => ∃ (a b : Addr) (ns : List Str) (ps : List Addr) (ts : List Tri), vs = [.ref a, .ref b] ∧ SqL K H a (ns.map V.str) ∧ SqT K H b (ps.map V.ref) ∧ RowsAt K H ps (ts.map triV) ∧ ps.length ≤ 1000 ∧ (∀ z ∈ ns, z ∈ endsL ts) ∧ ∀ H', Same H H' → Q .non H'
def Hangs (ts : List Tri) : Prop := ∀ (i : Nat) (t : Tri), 0 < i → ts[i]? = some t → t.1 ∈ endsL (ts.take i) ∨ t.2.2 ∈ endsL (ts.take i)
def spRA (K : PySem.W.Frag) : Sp := fun vs H Q _ => ∃ (b : Addr) (ps : List Addr) (ts : List Tri), vs = [.ref b] ∧ SqT K H b (ps.map V.ref) ∧ RowsAt K H ps (ts.map triV) ∧ ps.length ≤ 1000 ∧ Hangs ts ∧ ∀ H', Same H H' → Q .non H'
section
variable {P : Program} {w : World} {K : PySem.W.Frag} {mg : Str → Option Value} {base : Heap}
theorem scTP : FnScope ["name", "variables", "triples", "texts", "variable", "sort", "x", "word", "y"] ["name", "variables", "triples"] (defScope sTP) := ⟨rfl, rfl, rfl, by decide +kernel, rfl, by decide +kernel, by decide +kernel⟩
theorem ok_tp {f : Addr} {fd : FuncData} (F : Fun K "texts_of_pattern" "texts_of_pattern" sTP f fd) : FnOk P w K mg base CX0 1 f fd ["name", "variables", "triples"] (spTP K) := by
  refine F.ok scTP (fun vs H Q E h => ?_) (fun cdv A outer s H vs Q E hr h => ?_)
  · obtain ⟨nm, a, b, ps, qs, vars, ts, rfl, _⟩ := h
    rfl
  · obtain ⟨nm, a, b, ps, qs, vars, ts, rfl, ha, hva, hb, htr, hn, hn2, k⟩ := h
    have hlen := hva.len
    rw [List.length_map] at hlen
    have hlen2 := htr.len
    rw [List.length_map] at hlen2
    have fl : ∀ i, ((vars.take i).flatMap varT).length ≤ 2 * vars.length := fun i => by
      have e : ∀ l : List Var, (l.flatMap varT).length ≤ 2 * l.length := fun l => by
        induction l with
        | nil => exact Nat.le_refl _
        | cons v r ih =>
          have e : ((v :: r).flatMap varT).length = (varT v).length + (r.flatMap varT).length := by
            rw [List.flatMap_cons, List.length_append]
          have e2 : (varT v).length ≤ 2 := by
            unfold varT
            cases v.2 <;> simp
          have e3 : (v :: r).length = r.length + 1 := rfl
          omega
      have q := e (vars.take i)
      rw [List.length_take] at q
      omega
    refine ⟨_, (pss_cons (ps_set (i := 3) scTP.nd rfl (Or.inl rfl) (pe_lst (pa_cons (pv 0) pa_nil)))
      (pss_cons (ps_for PassesOwn.never rfl (pi_tup (pv 1)) (pg_tup rfl (pgs_cons (pg_name (i := 4) scTP.nd rfl (Or.inl rfl)) (pgs_cons (pg_name (i := 5) scTP.nd rfl (Or.inl rfl)) pgs_nil))) (pss_cons (ps_expr (pe_bm PySem.F.plainAttrs_list PySem.F.slot_list_append PySem.F.type_list_append mt_append (pv 3) (pa_cons (pv 4) pa_nil)))
      (pss_one (ps_if (pt_cmp (pc_notN (pv 5))) (pss_one (ps_expr (pe_bm PySem.F.plainAttrs_list PySem.F.slot_list_append PySem.F.type_list_append mt_append (pv 3) (pa_cons (pv 5) pa_nil)))) pss_nil))))
      (pss_cons (ps_expr (pe_bm PySem.F.plainAttrs_list PySem.F.slot_list_extend PySem.F.type_list_extend mt_extend (pv 3) (pa_cons (pe_lc (own := [("x", 6), ("word", 7), ("y", 8)]) (g := gTup K 3 (gCons (gName 6) (gCons (gName 7) (gCons (gName 8) gNil)))) rfl scTP.nd (pi_list (pv 2)) (blkOk_by (N := ["name", "variables", "triples", "texts", "variable", "sort", "x", "word", "y"]) (sc := defScope sTP) (by decide +kernel)) (fun _ _ _ _ _ => (pg_tup rfl (pgs_cons (pg_name (i := 6) scTP.nd rfl (Or.inl rfl)) (pgs_cons (pg_name (i := 7) scTP.nd rfl (Or.inl rfl)) (pgs_cons (pg_name (i := 8) scTP.nd rfl (Or.inl rfl)) pgs_nil))))) (fun _ _ _ _ _ => pts_nil) (fun _ _ _ _ _ => (pv 7))) pa_nil)))
      (pss_one (ps_ret (pv 3)))))), ?_⟩
    refine ⟨_, rfl, by show 1 ≤ sizeLine; decide, fun d hd => ?_⟩
    have S0 : Same H (upd H d (.lst [.str nm])) := Same.upd hd
    refine ⟨_, rfl, a, rfl, ⟨_, same_seqT S0 ha⟩, for_it walk_tup (fun i σ H' => (∃ u v, σ = [some (.str nm), some (.ref a), some (.ref b), some (.ref d), u, v, none, none, none]) ∧ Same H H' ∧ H' d = some (.lst ((nm :: (vars.take i).flatMap varT).map V.str)))
      ⟨⟨none, none, rfl⟩, S0, upd_same⟩ (fun i σ H' _ p => same_seqT p.2.1 ha) ?_ ?_⟩
    · rintro i x σ H1 H2 hi ⟨⟨u, v, rfl⟩, hS, hl⟩ ⟨rfl, hx⟩
      obtain ⟨p, hp, rfl⟩ := map_ref_get hx
      obtain ⟨r, hr1, hr'⟩ := hva.get hp
      obtain ⟨⟨n, so⟩, ht, rfl⟩ := var_get hr1
      have fi := fl i
      refine ⟨p, _, rfl, same_seqT hS hr', rfl, _, _, rfl, _, _, rfl, rfl, ?_⟩
      refine ⟨_, rfl, .inl ⟨rfl, _, SqL.of hl⟩, _, rfl, d, _, _, rfl, rfl, hl, ?_, ?_⟩
      · rw [List.length_map, List.length_cons]
        exact Nat.lt_of_le_of_lt (show _ ≤ 4000 by omega) (by decide)
      have S1 : Same H (upd H2 d (.lst ((nm :: (vars.take i).flatMap varT).map V.str ++ [.str n]))) := fun b' o h => by
        rw [upd_ne (ne_of_none h hd)]
        exact hS b' o h
      refine ⟨_, rfl, _, rfl, ?_⟩
      cases so with
      | none =>
        refine iteF ⟨⟨_, _, rfl⟩, S1, ?_⟩
        rw [upd_same, flat_take ht]
        have e : (nm :: ((vars.take i).flatMap varT ++ varT (n, none))) = (nm :: (vars.take i).flatMap varT) ++ [n] := rfl
        rw [e, List.map_append]
        rfl
      | some so =>
        refine iteT ?_
        refine ⟨_, rfl, .inl ⟨rfl, _, SqL.of upd_same⟩, _, rfl, d, _, _, rfl, rfl, upd_same, ?_, ?_⟩
        · rw [List.length_append, List.length_map, List.length_cons, List.length_singleton]
          exact Nat.lt_of_le_of_lt (show _ ≤ 4000 by omega) (by decide)
        · refine ⟨⟨_, _, rfl⟩, fun b' o h => ?_, ?_⟩
          · rw [upd_ne (ne_of_none h hd)]
            exact S1 b' o h
          · rw [upd_same, flat_take ht]
            have e : (nm :: ((vars.take i).flatMap varT ++ varT (n, some so))) = (nm :: (vars.take i).flatMap varT) ++ [n, so] := rfl
            rw [e, List.map_append, List.append_assoc]
            rfl
    · rintro σ H1 ⟨⟨u, v, rfl⟩, hS, hl⟩
      rw [List.length_map, List.take_of_length_le (by omega)] at hl
      have fi := fl vars.length
      rw [List.take_length] at fi
      refine ⟨_, rfl, .inl ⟨rfl, _, SqL.of hl⟩, _, rfl, b, rfl, ⟨_, hS.seq hb⟩, fun D hD => ?_⟩
      have nDd : D ≠ d := (ne_of_none hl hD).symm
      refine lc_it walk_list (fun i H' => Same H H' ∧ H' d = some (.lst ((nm :: vars.flatMap varT).map V.str)) ∧ H' D = some (.lst (((ts.take i).map (·.2.1)).map V.str))) ⟨hS.trans (Same.upd hD), by rw [upd_ne nDd.symm]; exact hl, upd_same⟩ (fun i H' _ p => p.1.seq hb) ?_ ?_
      · rintro i x H2 H3 hi ⟨hS2, hl2, hD2⟩ ⟨rfl, hx⟩
        obtain ⟨p, hp, rfl⟩ := map_ref_get hx
        obtain ⟨r, hr1, hr'⟩ := htr.get hp
        obtain ⟨t, ht, rfl⟩ := tri_get hr1
        refine ⟨p, _, rfl, same_seqT hS2 hr', rfl, _, _, rfl, _, _, rfl, _, _, rfl, rfl, rfl, ?_⟩
        refine ⟨_, rfl, _, hD2, ?_, ?_, ?_, ?_⟩
        · rw [List.length_map, List.length_map, List.length_take]
          exact Nat.lt_of_le_of_lt (show _ ≤ 1000 by omega) (by decide)
        · intro b' o h
          rw [upd_ne (ne_of_none h (hS.free hD))]
          exact hS2 b' o h
        · rw [upd_ne nDd.symm]
          exact hl2
        · rw [upd_same, List.take_add_one, ht, List.map_append, List.map_append]
          rfl
      · rintro H2 ⟨hS2, hl2, hD2⟩
        rw [List.length_map, List.take_of_length_le (by omega)] at hD2
        refine ⟨d, D, _, _, rfl, rfl, hl2, hD2, ?_, ?_⟩
        · rw [List.length_map, List.length_map, List.length_map, List.length_cons]
          exact Nat.le_trans (show _ ≤ 4000 by omega) (by decide)
        · refine ⟨_, rfl, ?_⟩
          refine k d _ hd (fun b' o h => ?_) ?_
          · rw [upd_ne (ne_of_none h hd)]
            exact hS2 b' o h
          · rw [upd_same]
            unfold textsL
            rw [List.map_append]
theorem scRV : FnScope ["names", "texts", "text"] ["names", "texts"] (defScope sRV) := ⟨rfl, rfl, rfl, by decide +kernel, rfl, by decide +kernel, by decide +kernel⟩
theorem ok_rv {f : Addr} {fd : FuncData} (F : Fun K "refuse_no_variable" "refuse_no_variable" sRV f fd) : FnOk P w K mg base CX0 1 f fd ["names", "texts"] (spRV K) := by
  refine F.ok scRV (fun vs H Q E h => ?_) (fun cdv A outer s H vs Q E hr h => ?_)
  · obtain ⟨a, b, ns, zs, rfl, _⟩ := h
    rfl
  · obtain ⟨a, b, ns, zs, rfl, ha, hb, hin, k⟩ := h
    refine ⟨_, (pss_one (ps_for PassesOwn.never rfl (pi_list (pv 1)) (pg_name (i := 2) scRV.nd rfl (Or.inl rfl)) (pss_one (ps_if (pt_cmpR op_notIn_seq (pv 2) (pv 0) (by rfl)) (pss_one ps_never) pss_nil)))), ?_⟩
    refine ⟨_, rfl, b, rfl, ⟨_, hb⟩, for_list (K := K) (a := b) (xs := zs.map V.str) (fun i σ H' => (∃ v, σ = [some (.ref a), some (.ref b), v]) ∧ H' = H) ⟨⟨none, rfl⟩, rfl⟩ (fun i σ H' _ p => by rw [p.2]; exact hb) ?_ ?_⟩
    · rintro i y σ H' hi ⟨⟨v, rfl⟩, rfl⟩
      obtain ⟨z, hz, rfl⟩ := map_str_get hi
      refine ⟨_, rfl, _, rfl, a, _, rfl, .inl ha, rfl, flat_strs ns, _, rfl, ?_⟩
      show if (!inV (.str z) (ns.map V.str)) = true then _ else _
      rw [inV_str, decide_eq_true (hin z (List.mem_of_getElem? hz))]
      exact iteF ⟨⟨_, rfl⟩, rfl⟩
    · rintro σ H' ⟨_, rfl⟩
      exact k H' (Same.refl H')
theorem scRL : FnScope ["names", "conditions", "tied", "name"] ["names", "conditions"] (defScope sRL) := ⟨rfl, rfl, rfl, by decide +kernel, rfl, by decide +kernel, by decide +kernel⟩
theorem ok_rl {f fE : Addr} {fd fdE : FuncData} (F : Fun K "refuse_loose" "refuse_loose" sRL f fd) (D : Dn K mg "ends_of" sEO ["triples"] fE fdE) : FnOk P w K mg base CX0 2 f fd ["names", "conditions"] (spRL K) := by
  have G : FnOk P w K mg base CX0 1 fE fdE ["triples"] (spEO K) := ok_eo D.F
  refine F.ok scRL (fun vs H Q E h => ?_) (fun cdv A outer s H vs Q E hr h => ?_)
  · obtain ⟨a, b, ns, ps, ts, rfl, _⟩ := h
    rfl
  · obtain ⟨a, b, ns, ps, ts, rfl, ha, hb, htr, hn, hin, k⟩ := h
    refine ⟨_, (pss_cons (ps_set (i := 2) scRL.nd rfl (Or.inl rfl) (pe_call G hr rfl D.g D.F.kp D.b .nil pass0 (pa_cons (pv 1) pa_nil)))
      (pss_one (ps_for PassesOwn.never rfl (pi_list (pv 0)) (pg_name (i := 3) scRL.nd rfl (Or.inl rfl)) (pss_one (ps_if (pt_cmpR op_notIn_seq (pv 3) (pv 2) (by rfl)) (pss_one ps_never) pss_nil))))), ?_⟩
    refine ⟨_, rfl, b, ps, ts, rfl, .inr hb, htr, hn, fun d H1 hd hS hl => ?_⟩
    refine ⟨_, rfl, a, rfl, ⟨_, hS.seq ha⟩, for_list (K := K) (a := a) (xs := ns.map V.str) (fun i σ H' => (∃ v, σ = [some (.ref a), some (.ref b), some (.ref d), v]) ∧ H' = H1) ⟨⟨none, rfl⟩, rfl⟩ (fun i σ H' _ p => by rw [p.2]; exact hS.seq ha) ?_ ?_⟩
    · rintro i y σ H' hi ⟨⟨v, rfl⟩, rfl⟩
      obtain ⟨z, hz, rfl⟩ := map_str_get hi
      refine ⟨_, rfl, _, rfl, d, _, rfl, .inl (SqL.of hl), rfl, flat_strs _, _, rfl, ?_⟩
      show if (!inV (.str z) ((endsL ts).map V.str)) = true then _ else _
      rw [inV_str, decide_eq_true (hin z (List.mem_of_getElem? hz))]
      exact iteF ⟨⟨_, rfl⟩, rfl⟩
    · rintro σ H' ⟨_, rfl⟩
      exact k H' hS
theorem scRA : FnScope ["conditions", "place", "x", "word", "y", "ahead"] ["conditions"] (defScope sRA) := ⟨rfl, rfl, rfl, by decide +kernel, rfl, by decide +kernel, by decide +kernel⟩
theorem ok_ra {f fE : Addr} {fd fdE : FuncData} (F : Fun K "refuse_apart" "refuse_apart" sRA f fd) (T : TxB mg) (D : Dn K mg "ends_of" sEO ["triples"] fE fdE) : FnOk P w K mg base CX0 2 f fd ["conditions"] (spRA K) := by
  have G : FnOk P w K mg base CX0 1 fE fdE ["triples"] (spEO K) := ok_eo D.F
  refine F.ok scRA (fun vs H Q E h => ?_) (fun cdv A outer s H vs Q E hr h => ?_)
  · obtain ⟨b, ps, ts, rfl, _⟩ := h
    rfl
  · obtain ⟨b, ps, ts, rfl, hb, htr, hn, hh, k⟩ := h
    have hlen := htr.len
    rw [List.length_map] at hlen
    refine ⟨_, (pss_one (ps_for PassesOwn.never rfl (pi_enumT rfl T.enumerate (pa_cons (pv 0) pa_nil)) (pg_tup rfl (pgs_cons (pg_name (i := 1) scRA.nd rfl (Or.inl rfl)) (pgs_cons (pg_tup rfl (pgs_cons (pg_name (i := 2) scRA.nd rfl (Or.inl rfl)) (pgs_cons (pg_name (i := 3) scRA.nd rfl (Or.inl rfl)) (pgs_cons (pg_name (i := 4) scRA.nd rfl (Or.inl rfl)) pgs_nil)))) pgs_nil))) (pss_cons (ps_set (i := 5) scRA.nd rfl (Or.inl rfl) (pe_call G hr rfl D.g D.F.kp D.b .nil pass0 (pa_cons (pe_slice sl_tupA (pv 0) po_none (po_some (pv 1))) pa_nil)))
      (pss_one (ps_if (PW.pt (pw_and (pt_cmpR op_gt (pv 1) pe_int (nomark _)) (pw_and (pt_cmpR op_notIn_seq (pv 2) (pv 5) (by rfl)) (pw_and1 (pt_cmpR op_notIn_seq (pv 4) (pv 5) (by rfl)))))) (pss_one ps_never) pss_nil))))), ?_⟩
    refine ⟨_, rfl, b, _, rfl, hb, for_it walk_enumT (fun i σ H' => (∃ u v x y z, σ = [some (.ref b), u, v, x, y, z]) ∧ Same H H') ⟨⟨none, none, none, none, none, rfl⟩, Same.refl H⟩ (fun i σ H' _ p => same_seqT p.2 hb) ?_ ?_⟩
    · rintro i x σ H1 H2 hi ⟨⟨u, v, x1, x2, x3, rfl⟩, hS⟩ ⟨q, y, z, rfl, hq, rfl, e1, e2⟩
      cases e1
      obtain ⟨p, hp, rfl⟩ := map_ref_get e2
      obtain ⟨r, hr1, hr'⟩ := htr.get hp
      obtain ⟨t, ht, rfl⟩ := tri_get hr1
      have S2 := hS.trans (Same.upd (o := .tup [.int (i : Nat), .ref p]) hq)
      have hi' : i < ps.length := by rw [List.length_map] at hi; exact hi
      refine ⟨q, _, rfl, SqT.of upd_same, rfl, _, _, rfl, _, _, rfl, ⟨p, _, rfl, same_seqT S2 hr', rfl, _, _, rfl, _, _, rfl, _, _, rfl, rfl, rfl, ?_⟩⟩
      refine ⟨_, rfl, _, rfl, _, rfl, b, _, rfl, same_seqT S2 hb, fun h => ?_, fun _ c hc => ?_⟩
      · exfalso
        rw [HT.sIx_nat, List.length_map] at h
        omega
      have S3 := S2.trans (Same.upd (o := .tup (cutV (ps.map V.ref) none (some (i : Int)))) hc)
      have hcut : cutV (ps.map V.ref) none (some (i : Int)) = (ps.take i).map V.ref := by rw [cut_take, List.map_take]
      refine ⟨c, ps.take i, ts.take i, rfl, .inr (SqT.of (by rw [upd_same, hcut])), ?_, by rw [List.length_take]; omega, fun d H3 hd hS3 hl => ?_⟩
      · rw [List.map_take]
        exact (htr.take i).same S3
      refine ⟨_, rfl, _, _, rfl, rfl, _, rfl, ?_⟩
      refine ite2 (fun h0 => ?_) (fun _ => ?_)
      · have h0' : (0 : Int) < (i : Int) := of_decide_eq_true h0
        refine ⟨_, rfl, _, rfl, d, _, rfl, .inl (SqL.of hl), rfl, flat_strs _, _, rfl, ?_⟩
        show if (!inV (.str t.1) ((endsL (ts.take i)).map V.str)) = true then _ else _
        rw [inV_str]
        by_cases m1 : t.1 ∈ endsL (ts.take i)
        · rw [decide_eq_true m1]
          exact iteF (iteF ⟨⟨_, _, _, _, _, rfl⟩, S3.trans hS3⟩)
        · rw [decide_eq_false m1]
          refine iteT ?_
          refine ⟨_, rfl, _, rfl, d, _, rfl, .inl (SqL.of hl), rfl, flat_strs _, _, rfl, ?_⟩
          show if (!inV (.str t.2.2) ((endsL (ts.take i)).map V.str)) = true then _ else _
          have m2 : t.2.2 ∈ endsL (ts.take i) := (hh i t (by omega) ht).resolve_left m1
          rw [inV_str, decide_eq_true m2]
          exact iteF ⟨⟨_, _, _, _, _, rfl⟩, S3.trans hS3⟩
      · exact iteF ⟨⟨_, _, _, _, _, rfl⟩, S3.trans hS3⟩
    · rintro σ H' ⟨_, hS⟩
      exact k H' hS
end
end Wm
namespace Wm
open PySem L2 StX
structure TxP (mg : Str → Option Value) : Prop where
  mv : ∃ t, mg "MOST_VARIABLES" = some (.int 4 t)
  mc : ∃ t, mg "MOST_CONDITIONS" = some (.int 3 t)
theorem DueN.mono {C : Addr} {zs : List Str} {H H1 : Hp} {Q : VK} {E : XK} (hS : Same H H1) (h : DueN C zs H Q E) : DueN C zs H1 Q E := by
  unfold DueN at h ⊢
  split
  · rename_i e
    rw [e] at h
    exact fun H' h1 => h H' (hS.trans h1)
  · rename_i z e
    rw [e] at h
    exact fun d H' h0 h1 h2 => h d H' (hS.free h0) (hS.trans h1) h2
theorem DueN.next {C : Addr} {zs : List Str} {H H1 : Hp} {Q Q' : VK} {E : XK} (h : DueN C zs H Q E) (hS : Same H H1) (r : zs.find? (fun z => !isNm z) = none → ∀ H', Same H1 H' → Q' .non H') : DueN C zs H1 Q' E := by
  have h' := DueN.mono hS h
  unfold DueN at h' ⊢
  cases e : zs.find? (fun z => !isNm z) with
  | none => exact r e
  | some z =>
    rw [e] at h'
    exact h'
theorem flat_len (l : List Var) : (l.flatMap varT).length ≤ 2 * l.length := by
  induction l with
  | nil => exact Nat.le_refl _
  | cons v r ih =>
    have e : ((v :: r).flatMap varT).length = (varT v).length + (r.flatMap varT).length := by
      rw [List.flatMap_cons, List.length_append]
    have e2 : (varT v).length ≤ 2 := by
      unfold varT
      cases v.2 <;> simp
    have e3 : (v :: r).length = r.length + 1 := rfl
    omega
/-- a pattern of which nothing but a text that is no name is to be refused -/
structure PatOk (vars : List Var) (cs gs : List Tri) (hs : List Str) : Prop where
  v1 : 1 ≤ vars.length
  v4 : vars.length ≤ 4
  c1 : 1 ≤ cs.length
  c3 : cs.length ≤ 3
  g3 : gs.length ≤ 1
  h3 : hs.length ≤ 1
  tw : NoTw ((vars.map (·.1)).map V.str)
  en : ∀ z ∈ endsL (cs ++ gs) ++ hs, z ∈ vars.map (·.1)
  lo : ∀ z ∈ vars.map (·.1), z ∈ endsL cs
  ap : Hangs cs
def spCP (K : PySem.W.Frag) (C : Addr) : Sp := fun vs H Q E => ∃ (nm : Str) (a b g h : Addr) (ps qs us : List Addr) (vars : List Var) (cs gs : List Tri) (hs : List Str), vs = [.str nm, .ref a, .ref b, .ref g, .ref h] ∧ SqT K H a (ps.map V.ref) ∧ RowsAt K H ps (vars.map varV) ∧
  SqT K H b (qs.map V.ref) ∧ RowsAt K H qs (cs.map triV) ∧ SqL K H g (us.map V.ref) ∧ RowsAt K H us (gs.map triV) ∧ SqL K H h (hs.map V.str) ∧ PatOk vars cs gs hs ∧ (∀ z ∈ textsL nm vars (cs ++ gs), z.length ≤ 1000) ∧ DueN C (textsL nm vars (cs ++ gs)) H Q E
section
variable {P : Program} {w : World} {K : PySem.W.Frag} {mg : Str → Option Value} {base : Heap}
theorem scCP : FnScope ["name", "variables", "conditions", "given", "hands", "triples", "names", "variable", "sort"] ["name", "variables", "conditions", "given", "hands"] (defScope sCP) := ⟨rfl, rfl, rfl, by decide +kernel, rfl, by decide +kernel, by decide +kernel⟩
theorem ok_cp {f fRC fRN fTP fRT fRV fEO fRL fRA C : Addr} {fd dRC dRN dTP dRT dRV dEO dRL dRA : FuncData} (F : Fun K "check_pattern" "check_pattern" sCP f fd) (T : TxB mg) (TP : TxP mg)
    (RC : Dn K mg "refuse_count" sRC ["what", "count", "least", "most"] fRC dRC) (RN : Dn K mg "refuse_no_name" sRN ["texts"] fRN dRN) (TX : Dn K mg "texts_of_pattern" sTP ["name", "variables", "triples"] fTP dTP) (RT : Dn K mg "refuse_twice" sRT ["names"] fRT dRT)
    (RV : Dn K mg "refuse_no_variable" sRV ["names", "texts"] fRV dRV) (EO : Dn K mg "ends_of" sEO ["triples"] fEO dEO) (RL : Dn K mg "refuse_loose" sRL ["names", "conditions"] fRL dRL) (RA : Dn K mg "refuse_apart" sRA ["conditions"] fRA dRA)
    (GRN : FnOk P w K mg base (L2.CX P w) 4 fRN dRN ["texts"] (spRN K C)) (GRT : FnOk P w K mg base CX0 2 fRT dRT ["names"] (spFT K)) :
    FnOk P w K mg base (L2.CX P w) 5 f fd ["name", "variables", "conditions", "given", "hands"] (spCP K C) := by
  have GRC : FnOk P w K mg base CX0 1 fRC dRC _ spRC := ok_rc RC.F
  have GTX : FnOk P w K mg base CX0 1 fTP dTP _ (spTP K) := ok_tp TX.F
  have GRV : FnOk P w K mg base CX0 1 fRV dRV _ (spRV K) := ok_rv RV.F
  have GEO : FnOk P w K mg base CX0 1 fEO dEO _ (spEO K) := ok_eo EO.F
  have GRL : FnOk P w K mg base CX0 2 fRL dRL _ (spRL K) := ok_rl RL.F EO
  have GRA : FnOk P w K mg base CX0 2 fRA dRA _ (spRA K) := ok_ra RA.F T EO
  obtain ⟨t1, hmv⟩ := TP.mv
  obtain ⟨t2, hmc⟩ := TP.mc
  refine F.okX scCP (fun vs H Q E h => ?_) (fun cdv A outer s H vs Q E hr h => ?_)
  · obtain ⟨nm, a, b, g, h, ps, qs, us, vars, cs, gs, hs, rfl, _⟩ := h
    rfl
  · obtain ⟨nm, a, b, g, h, ps, qs, us, vars, cs, gs, hs, rfl, ha, hva, hb, hcs, hg, hgs, hh, ok, hz, k⟩ := h
    have hr1 : Room 1 _ := hr.mono (by decide)
    have hr2 : Room 2 _ := hr.mono (by decide)
    have l1 := hva.len
    have l2 := hcs.len
    have l3 := hgs.len
    rw [List.length_map] at l1 l2 l3
    have o1 := ok.v4
    have o2 := ok.c3
    have o3 := ok.g3
    have o4 := ok.v1
    have o5 := ok.c1
    have o6 := ok.h3
    refine ⟨_, (pss_cons (ps_expr (pe_call GRC hr1 rfl RC.g RC.F.kp RC.b .nil pass0 (pa_cons pe_str (pa_cons (pe_callB call_len_seq (by rfl) T.len (by decide +kernel) (pa_cons (pv 1) pa_nil)) (pa_cons pe_int (pa_cons (pe_glob (v := .int 4) (by rfl) hmv ⟨_, rfl⟩) pa_nil))))))
      (pss_cons (ps_expr (pe_call GRC hr1 rfl RC.g RC.F.kp RC.b .nil pass0 (pa_cons pe_str (pa_cons (pe_callB call_len_seq (by rfl) T.len (by decide +kernel) (pa_cons (pv 2) pa_nil)) (pa_cons pe_int (pa_cons (pe_glob (v := .int 3) (by rfl) hmc ⟨_, rfl⟩) pa_nil))))))
      (pss_cons (ps_set (i := 5) scCP.nd rfl (Or.inl rfl) (pe_lst (pa_star (pv 2) (pa_star (pv 3) pa_nil))))
      (pss_cons (ps_expr (pe_call GRN hr rfl RN.g RN.F.kp RN.b .nil (passes_call (takes_of rfl rfl rfl rfl) (fun _ _ _ _ h => h)) (pa_cons (pe_call GTX hr1 rfl TX.g TX.F.kp TX.b .nil pass0 (pa_cons (pv 0) (pa_cons (pv 1) (pa_cons (pv 5) pa_nil)))) pa_nil)))
      (pss_cons (ps_setLc (i := 6) (own := [("variable", 7), ("sort", 8)]) (g := gTup K 2 (gCons (gName 7) (gCons (gName 8) gNil))) rfl scCP.nd rfl rfl (sw_true rfl rfl rfl (by decide +kernel)) (pi_tup (pv 1)) (blkOk_by (N := ["name", "variables", "conditions", "given", "hands", "triples", "names", "variable", "sort"]) (sc := defScope sCP) (by decide +kernel)) (fun _ _ _ _ _ => (pg_tup rfl (pgs_cons (pg_name (i := 7) scCP.nd rfl (Or.inl rfl)) (pgs_cons (pg_name (i := 8) scCP.nd rfl (Or.inl rfl)) pgs_nil)))) (fun _ _ _ _ _ => pts_nil) (fun _ _ _ _ _ => (pv 7)))
      (pss_cons (ps_expr (pe_call GRT hr2 rfl RT.g RT.F.kp RT.b .nil pass0 (pa_cons (pv 6) pa_nil)))
      (pss_cons (ps_expr (pe_call GRV hr1 rfl RV.g RV.F.kp RV.b .nil pass0 (pa_cons (pv 6) (pa_cons (pe_lst (pa_star (pe_call GEO hr1 rfl EO.g EO.F.kp EO.b .nil pass0 (pa_cons (pv 5) pa_nil)) (pa_star (pv 4) pa_nil))) pa_nil))))
      (pss_cons (ps_expr (pe_call GRL hr2 rfl RL.g RL.F.kp RL.b .nil pass0 (pa_cons (pv 6) (pa_cons (pv 2) pa_nil))))
      (pss_one (ps_expr (pe_call GRA hr2 rfl RA.g RA.F.kp RA.b .nil pass0 (pa_cons (pv 2) pa_nil)))))))))))), ?_⟩
    refine ⟨_, rfl, a, _, rfl, .inr ha, _, _, _, _, rfl, ?_, ?_, ?_⟩
    · rw [List.length_map]; omega
    · rw [List.length_map]; omega
    refine ⟨_, rfl, b, _, rfl, .inr hb, _, _, _, _, rfl, ?_, ?_, ?_⟩
    · rw [List.length_map]; omega
    · rw [List.length_map]; omega
    -- triples = [*conditions, *given]
    refine ⟨_, rfl, b, _, rfl, .inl hb, _, rfl, g, _, rfl, .inr hg, ?_, fun tr htr => ?_⟩
    · show (qs.map V.ref ++ (us.map V.ref ++ [])).length ≤ sizeLine
      rw [List.append_nil, List.length_append, List.length_map, List.length_map]
      exact Nat.le_trans (show _ ≤ 1000 by omega) (by decide)
    have etr : qs.map V.ref ++ (us.map V.ref ++ []) = (qs ++ us).map V.ref := by rw [List.append_nil, List.map_append]
    have S1 : Same H (upd H tr (.lst (qs.map V.ref ++ (us.map V.ref ++ [])))) := Same.upd htr
    refine ⟨_, rfl, _, rfl, _, rfl, nm, a, tr, ps, qs ++ us, vars, cs ++ gs, rfl, same_seqT S1 ha, hva.same S1, SqL.of (by rw [upd_same, etr]), ?_, by omega, by rw [List.length_append]; omega, fun d H2 hd hS2 hl => ?_⟩
    · rw [List.map_append]
      exact (hcs.append hgs).same S1
    have S2 := S1.trans hS2
    refine ⟨d, _, rfl, SqL.of hl, ?_, hz, ?_⟩
    · unfold textsL
      have e : ∀ l : List Var, (l.flatMap varT).length ≤ 2 * l.length := flat_len
      have e2 := e vars
      rw [List.length_append, List.length_cons, List.length_map, List.length_append]
      omega
    refine DueN.next k S2 fun hn H3 hS3 => ?_
    have S3 := S2.trans hS3
    -- names = [variable for variable, sort in variables]
    refine ⟨_, rfl, a, rfl, ⟨_, same_seqT S3 ha⟩, fun D hD => ?_⟩
    refine lc_it walk_tup (fun i H' => Same H3 H' ∧ H' D = some (.lst (((vars.take i).map (·.1)).map V.str))) ⟨Same.upd hD, upd_same⟩ (fun i H' _ p => same_seqT (S3.trans p.1) ha) ?_ ?_
    · rintro i x H4 H5 hi ⟨hS4, hD4⟩ ⟨rfl, hx⟩
      obtain ⟨p, hp, rfl⟩ := map_ref_get hx
      obtain ⟨r, hr1', hr'⟩ := hva.get hp
      obtain ⟨⟨n, so⟩, ht, rfl⟩ := var_get hr1'
      refine ⟨p, _, rfl, same_seqT (S3.trans hS4) hr', rfl, _, _, rfl, _, _, rfl, rfl, rfl, ?_⟩
      refine ⟨_, rfl, _, hD4, ?_, ?_, ?_⟩
      · rw [List.length_map, List.length_map, List.length_take]
        exact Nat.lt_of_le_of_lt (show _ ≤ 1000 by omega) (by decide)
      · intro b' o h
        rw [upd_ne (ne_of_none h hD)]
        exact hS4 b' o h
      · rw [upd_same, List.take_add_one, ht, List.map_append, List.map_append]
        rfl
    rintro H4 ⟨hS4, hD4⟩
    rw [List.length_map, List.take_of_length_le (by omega)] at hD4
    have S4 := S3.trans hS4
    have tr4 : H4 tr = some (.lst ((qs ++ us).map V.ref)) := by
      have q : (upd H tr (.lst (qs.map V.ref ++ (us.map V.ref ++ [])))) tr = some (.lst ((qs ++ us).map V.ref)) := by rw [upd_same, etr]
      exact hS4 _ _ (hS3 _ _ (hS2 _ _ q))
    -- refuse_twice(names)
    refine ⟨_, rfl, D, _, rfl, .inl (SqL.of hD4), flat_strs _, ok.tw, fun H5 hS5 => ?_⟩
    have S5 := S4.trans hS5
    -- refuse_no_variable(names, [*ends_of(triples), *hands])
    refine ⟨_, rfl, _, rfl, tr, qs ++ us, cs ++ gs, rfl, .inl (SqL.of (hS5 _ _ tr4)), ?_, by rw [List.length_append]; omega, fun e H6 he hS6 hl6 => ?_⟩
    · rw [List.map_append]
      exact (hcs.append hgs).same S5
    have S6 := S5.trans hS6
    refine ⟨e, _, rfl, .inr (SqL.of hl6), _, rfl, h, _, rfl, .inr (S6.seq hh), ?_, fun l hl => ?_⟩
    · rw [List.length_append, List.length_map, endsL_len, List.length_append, List.append_nil, List.length_map]
      exact Nat.le_trans (show _ ≤ 1000 by omega) (by decide)
    refine ⟨D, l, _, endsL (cs ++ gs) ++ hs, rfl, SqL.of (Same.upd hl _ _ (hS6 _ _ (hS5 _ _ hD4))), SqL.of ?_, ok.en, fun H7 hS7 => ?_⟩
    · rw [upd_same, List.append_nil, List.map_append]
    have S7 := S6.trans ((Same.upd hl).trans hS7)
    have D7 := hS7 _ _ (Same.upd hl _ _ (hS6 _ _ (hS5 _ _ hD4)))
    -- refuse_loose(names, conditions)
    refine ⟨_, rfl, _, rfl, D, b, _, qs, cs, rfl, SqL.of D7, same_seqT S7 hb, hcs.same S7, by omega, ok.lo, fun H8 hS8 => ?_⟩
    have S8 := S7.trans hS8
    -- refuse_apart(conditions)
    refine ⟨_, rfl, b, qs, cs, rfl, same_seqT S8 hb, hcs.same S8, by omega, ok.ap, fun H9 hS9 => ?_⟩
    unfold DueN at k
    rw [hn] at k
    exact k H9 (S8.trans hS9)
end
end Wm
namespace Wm
open PySem L2 StX
def barF (nm : Str) (t1 t2 : Addr) : List (Str × V) := putF "conditions" (.ref t2) (putF "variables" (.ref t1) (putF "name" (.str nm) []))
theorem ne1 : ¬ (("variables" : Str) = "conditions") := by decide +kernel
theorem ne2 : ¬ (("name" : Str) = "conditions") := by decide +kernel
theorem ne3 : ¬ (("name" : Str) = "variables") := by decide +kernel
theorem barF_name (nm : Str) (t1 t2 : Addr) : (barF nm t1 t2).lookup ("name" : Str) = some (.str nm) := by
  unfold barF
  rw [lookup_putF, if_neg ne2, lookup_putF, if_neg ne3, lookup_putF, if_pos rfl]
theorem barF_vars (nm : Str) (t1 t2 : Addr) : (barF nm t1 t2).lookup ("variables" : Str) = some (.ref t1) := by
  unfold barF
  rw [lookup_putF, if_neg ne1, lookup_putF, if_pos rfl]
theorem barF_cond (nm : Str) (t1 t2 : Addr) : (barF nm t1 t2).lookup ("conditions" : Str) = some (.ref t2) := by
  unfold barF
  rw [lookup_putF, if_pos rfl]
theorem putF_len (f : Str) (v : V) : ∀ fs : List (Str × V), (putF f v fs).length ≤ fs.length + 1
  | [] => Nat.le_refl _
  | (g, x) :: r => by
    unfold putF
    split
    · exact Nat.le_succ _
    · have := putF_len f v r
      simp only [List.length_cons]
      omega
/-- what the making of an object that may be refused by a text is to bring; H0: what stood ahead of it -/
def DueM (C : Addr) (zs : List Str) (H0 : Hp) (ok : Hp → Prop) (E : XK) : Prop := match zs.find? (fun z => !isNm z) with
  | none => ∀ H', Same H0 H' → ok H'
  | some z => ∀ d H', H0 d = none → Same H0 H' → H' d = some (.xd (ef1 "name" "noname" (.str z))) → E (.ref C) (some d) H'
theorem DueM.toN {C : Addr} {zs : List Str} {H0 H1 : Hp} {ok : Hp → Prop} {Q : VK} {E : XK} (h : DueM C zs H0 ok E) (hS : Same H0 H1) (r : zs.find? (fun z => !isNm z) = none → ∀ H', Same H1 H' → Q .non H') : DueN C zs H1 Q E := by
  unfold DueM at h
  unfold DueN
  cases e : zs.find? (fun z => !isNm z) with
  | none => exact r e
  | some z =>
    rw [e] at h
    exact fun d H' h0 h1 h2 => h d H' (hS.free h0) (hS.trans h1) h2
structure TxBar (K : PySem.W.Frag) (mg : Str → Option Value) (B fB : Addr) : Prop where
  cl : Cls K B
  nn : NoAttr K B "name"
  nv : NoAttr K B "variables"
  nc : NoAttr K B "conditions"
  g : mg "Bar" = some (.ref B)
  m : Mk K B fB
def spBar (K : PySem.W.Frag) (C B : Addr) : Sp := fun vs H Q E => ∃ (H0 : Hp) (x dx l1 l2 : Addr) (nm : Str) (ps qs : List Addr) (vars : List Var) (cs : List Tri), vs = [.ref x, .str nm, .ref l1, .ref l2] ∧ Same H0 H ∧ H0 x = none ∧ H x = some (.ins B dx []) ∧
  SqL K H0 l1 (ps.map V.ref) ∧ RowsAt K H0 ps (vars.map varV) ∧ SqL K H0 l2 (qs.map V.ref) ∧ RowsAt K H0 qs (cs.map triV) ∧ PatOk vars cs [] [] ∧ (∀ z ∈ textsL nm vars cs, z.length ≤ 1000) ∧
  DueM C (textsL nm vars cs) H0 (fun H' => ∀ t1 t2, H' x = some (.ins B dx (barF nm t1 t2)) → H' t1 = some (.tup (ps.map V.ref)) → H' t2 = some (.tup (qs.map V.ref)) → Q .non H') E
section
variable {P : Program} {w : World} {K : PySem.W.Frag} {mg : Str → Option Value} {base : Heap}
theorem scBar : FnScope ["self", "name", "variables", "conditions"] ["self", "name", "variables", "conditions"] (defScope sBar) := ⟨rfl, rfl, rfl, by decide +kernel, rfl, by decide +kernel, by decide +kernel⟩
theorem ok_bar {f fTT fCP C B : Addr} {fd dTT dCP : FuncData} (F : Fun K "__init__" "Bar.__init__" sBar f fd) (T : TxB mg) (TB : TxBar K mg B f) (TT : Dn K mg "tuple_of_tuples" sTT ["rows"] fTT dTT)
    (CP : Dn K mg "check_pattern" sCP ["name", "variables", "conditions", "given", "hands"] fCP dCP) (GCP : FnOk P w K mg base (L2.CX P w) 5 fCP dCP ["name", "variables", "conditions", "given", "hands"] (spCP K C)) :
    FnOk P w K mg base (L2.CX P w) 6 f fd ["self", "name", "variables", "conditions"] (spBar K C B) := by
  have GTT : FnOk P w K mg base CX0 1 fTT dTT _ (spTT K) := ok_tt TT.F T
  refine F.okX scBar (fun vs H Q E h => ?_) (fun cdv A outer s H vs Q E hr h => ?_)
  · obtain ⟨H0, x, dx, l1, l2, nm, ps, qs, vars, cs, rfl, _⟩ := h
    rfl
  · obtain ⟨H0, x, dx, l1, l2, nm, ps, qs, vars, cs, rfl, S0, x0, hx, h1, hv, h2, hc, ok, hz, k⟩ := h
    have hr1 : Room 1 _ := hr.mono (by decide)
    have b1 := hv.len
    have b2 := hc.len
    rw [List.length_map] at b1 b2
    have o1 := ok.v4
    have o2 := ok.c3
    refine ⟨_, (pss_cons (ps_fld (pv 0) (pv 1) rfl)
      (pss_cons (ps_fld (pv 0) (pe_call GTT hr1 rfl TT.g TT.F.kp TT.b .nil pass0 (pa_cons (pv 2) pa_nil)) rfl)
      (pss_cons (ps_fld (pv 0) (pe_call GTT hr1 rfl TT.g TT.F.kp TT.b .nil pass0 (pa_cons (pv 3) pa_nil)) rfl)
      (pss_one (ps_expr (pe_call GCP hr rfl CP.g CP.F.kp CP.b .nil (passes_call (takes_of rfl rfl rfl rfl) (fun _ _ _ _ h => h)) (pa_cons (pv 1) (pa_cons (pe_fld (pv 0) rfl) (pa_cons (pe_fld (pv 0) rfl) (pa_cons (pe_lst pa_nil) (pa_cons (pe_lst pa_nil) pa_nil))))))))))), ?_⟩
    -- self.name = name
    refine ⟨_, rfl, _, rfl, x, B, dx, [], rfl, hx, TB.cl, TB.nn, (by show 0 < 1000; decide), ?_⟩
    have Sx : ∀ {H1 : Hp} {o : HO}, Same H0 H1 → Same H0 (upd H1 x o) := fun hs b o e => by
      rw [upd_ne (ne_of_none e x0)]
      exact hs b o e
    have S1 := Sx (o := .ins B dx (putF "name" (.str nm) [])) S0
    -- self.variables = tuple_of_tuples(variables)
    refine ⟨_, rfl, l1, ps, _, rfl, S1.seq h1, hv.same S1, by omega, fun t1 H2 ht1 hS2 hl1 => ?_⟩
    have S2 := S1.trans hS2
    have hx2 := hS2 _ _ (upd_same (H := H) (a := x) (o := .ins B dx (putF "name" (.str nm) [])))
    have n1x : t1 ≠ x := fun z => by
      rw [z, upd_same] at ht1
      cases ht1
    refine ⟨_, rfl, x, B, dx, _, rfl, hx2, TB.cl, TB.nv, Nat.lt_of_le_of_lt (putF_len _ _ _) (by decide), ?_⟩
    have S3 := Sx (o := .ins B dx (putF "variables" (.ref t1) (putF "name" (.str nm) []))) S2
    -- self.conditions = tuple_of_tuples(conditions)
    refine ⟨_, rfl, l2, qs, _, rfl, S3.seq h2, hc.same S3, by omega, fun t2 H4 ht2 hS4 hl2 => ?_⟩
    have S4 := S3.trans hS4
    have hx4 := hS4 _ _ (upd_same (H := H2) (a := x) (o := .ins B dx (putF "variables" (.ref t1) (putF "name" (.str nm) []))))
    have hl1' := hS4 t1 _ (by rw [upd_ne n1x]; exact hl1)
    have n2x : t2 ≠ x := fun z => by
      rw [z, upd_same] at ht2
      cases ht2
    refine ⟨_, rfl, x, B, dx, _, rfl, hx4, TB.cl, TB.nc, Nat.lt_of_le_of_lt (putF_len _ _ _) (Nat.lt_of_le_of_lt (Nat.succ_le_succ (putF_len _ _ _)) (by decide)), ?_⟩
    have S5 := Sx (o := .ins B dx (barF nm t1 t2)) S4
    have hx5 : (upd H4 x (.ins B dx (barF nm t1 t2))) x = some (.ins B dx (barF nm t1 t2)) := upd_same
    have h15 : (upd H4 x (.ins B dx (barF nm t1 t2))) t1 = some (.tup (ps.map V.ref)) := by rw [upd_ne n1x]; exact hl1'
    have h25 : (upd H4 x (.ins B dx (barF nm t1 t2))) t2 = some (.tup (qs.map V.ref)) := by rw [upd_ne n2x]; exact hl2
    -- check_pattern(name, self.variables, self.conditions, [], [])
    refine ⟨_, rfl, _, rfl, x, B, dx, _, _, rfl, hx5, TB.cl, TB.nv, barF_vars _ _ _, _, rfl, x, B, dx, _, _, rfl, hx5, TB.cl, TB.nc, barF_cond _ _ _, Nat.zero_le _, fun g hg => ⟨Nat.zero_le _, fun h hh => ?_⟩⟩
    have S7 : Same (upd H4 x (.ins B dx (barF nm t1 t2))) (upd (upd (upd H4 x (.ins B dx (barF nm t1 t2))) g (.lst [])) h (.lst [])) := (Same.upd hg).trans (Same.upd hh)
    have S57 := S5.trans S7
    have e0 : cs ++ ([] : List Tri) = cs := List.append_nil cs
    refine ⟨nm, t1, t2, g, h, ps, qs, [], vars, cs, [], [], rfl, SqT.of (S7 _ _ h15), hv.same S57, SqT.of (S7 _ _ h25), hc.same S57, SqL.of (Same.upd hh _ _ upd_same), True.intro, SqL.of upd_same, ok, by rw [e0]; exact hz, ?_⟩
    rw [e0]
    refine k.toN S57 fun hn H8 hS8 => ?_
    unfold DueM at k
    rw [hn] at k
    exact k H8 (S57.trans hS8) t1 t2 (hS8 _ _ (S7 _ _ hx5)) (hS8 _ _ (S7 _ _ h15)) (hS8 _ _ (S7 _ _ h25))
end
end Wm
namespace Wm
open PySem L2
/-- str(o), o an instance of the class at C, whose __str__ is the def at f -/
def rStrO (C : Addr) (sp : Sp) : List V → Hp → VK → Prop := fun xs H Q => ∃ (a dx : Addr) (fs : List (Str × V)), xs = [.ref a] ∧ H a = some (.ins C dx fs) ∧ sp [.ref a] H (fun v H' => ∃ z : Str, v = .str z ∧ Q (.str z) H') E0
theorem call_strO {X : Cx} {C f : Addr} {fd : FuncData} {k : Nat} {sp : Sp} (hs : PySem.W.findIn X.K (.ref C) "__str__" = some (some (.ref f))) (hf : PySem.W.isFn X.K (.ref f) = true) (F : FnOk X.prog X.w X.K X.mg X.base CX0 k f fd ["self"] sp) (hr : Room (k + 2) X.A) (hb : Binds X.K fd ["self"] []) :
    CallR X (.type "str") (rStrO C sp) := by
  intro pins s σ H xs us Q I r h
  obtain ⟨a, dx, fs, rfl, ha, h⟩ := h
  cases r with
  | cons rx rr =>
    cases rr
    cases rx
    obtain ⟨mA, ob, _⟩ := ins_get I.hok ha
    obtain ⟨od, J, _⟩ := ob.look
    have hr1 : Room (k + 1) X.A.in1 := hr.in1
    have hr2 : Room k X.A.in1.in1 := hr1.in1
    refine PySem.W.kso_call hr2.units0 I.kIn J hs hf ?_
    have hl : ([Value.ref a] ++ []).length = (["self"] : List Str).length := rfl
    have rv : Vals [V.ref a] [Value.ref a] := .cons rfl .nil
    refine wpAny_call (codeAny_mono (F.run X.A.in1.in1 X.stack s H ⟨[Value.ref a], []⟩ [Value.ref a] [V.ref a] _ E0 hr2 I.env0.in1.in1 (hb s [Value.ref a] I.kIn hl) rv h) fun r s' hq => ?_)
    cases r with
    | error e => exact hq.elim
    | ok fl =>
      cases fl with
      | ret u =>
        obtain ⟨v, H', J', ru, z, rfl, q⟩ := I.after (Q := fun v H' => ∃ z : Str, v = .str z ∧ Q (.str z) H') hq
        obtain ⟨t, rfl⟩ := ru
        exact ⟨.str z, H', J', ⟨t, rfl⟩, q⟩
      | next => exact False.elim hq
      | brk => exact False.elim hq
      | cont => exact False.elim hq
end Wm
namespace Wm
open PySem L2 PySem.W
/-- a == b, a an instance of the class at C, whose __eq__ is the def at f -/
def rEqO (K : Frag) (C : Addr) (sp : Sp) : V → V → Hp → VK → Prop := fun x y H Q => ∃ (a b D dx dy : Addr) (fs gs : List (Str × V)), x = .ref a ∧ y = .ref b ∧ H a = some (.ins C dx fs) ∧ H b = some (.ins D dy gs) ∧ notFirst K C (.ref D) = true ∧
  sp [.ref a, .ref b] H (fun v H' => ∃ t : Bool, v = .bl t ∧ Q (.bl t) H') E0
theorem op_eqO {X : Cx} {C f : Addr} {fd : FuncData} {k : Nat} {sp : Sp} {ps : List Str} (hs : findIn X.K (.ref C) "__eq__" = some (some (.ref f))) (hf : isFn X.K (.ref f) = true) (F : FnOk X.prog X.w X.K X.mg X.base CX0 k f fd ps sp) (hr : Room k X.A) (hb : L2.Binds X.K fd ps []) :
    OpR X (compareOp .Eq) (rEqO X.K C sp) := by
  intro pins s σ H x y v u Q I rx ry h
  obtain ⟨a, b, D, dx, dy, fs, gs, rfl, rfl, ha, hb', nf, h⟩ := h
  cases rx
  cases ry
  obtain ⟨mA, oa, _⟩ := ins_get I.hok ha
  obtain ⟨mB, ob, _⟩ := ins_get I.hok hb'
  obtain ⟨od, J, _⟩ := oa.look
  obtain ⟨od', J', _⟩ := ob.look
  obtain ⟨m, hF⟩ := I.fr
  show wpAny _ _ (richCompare .Eq (.ref a) (.ref b)) _ _ _
  refine cmp_K hr.units0 hF I.ok.mod.kin J (InstAt.type J') nf hs hf ?_
  have rv : Vals [V.ref a, V.ref b] [Value.ref a, Value.ref b] := .cons rfl (.cons rfl .nil)
  have hl : ([Value.ref a, Value.ref b] ++ []).length = ps.length := F.len _ _ _ _ h
  have bd := hb s [Value.ref a, Value.ref b] I.kIn hl
  rw [List.append_nil] at bd
  refine wpAny_call (codeAny_mono (F.run X.A X.stack s H ⟨[Value.ref a, Value.ref b], []⟩ [Value.ref a, Value.ref b] [V.ref a, V.ref b] _ E0 hr I.env0 bd rv h) fun r s' hq => ?_)
  cases r with
  | error e => exact hq.elim
  | ok fl =>
    cases fl with
    | next => exact hq.elim
    | brk => exact hq.elim
    | cont => exact hq.elim
    | ret u =>
      obtain ⟨v, H', I2, rv, t, rfl, q⟩ := I.after hq
      cases rv
      exact ⟨.bl t, H', I2, rfl, q⟩
/-- the class at C has its own __eq__, at f, and no __ne__ -/
structure EqNe (K : Frag) (C f : Addr) : Prop where
  ex : ∃ nm q N bs hdct sn sub ab col dd k0 k1 k2 k3 k5 newId oc od es ep osl of, K.lookup C = some (excClassObj nm q C N bs [.type "object"] hdct sn sub ab col dd k0 k1 k2 k3 k5 newId) ∧
    K.lookup N = some ⟨oc, od, .dict es ep, osl⟩ ∧ StrKeys es ∧ nsFind es "__eq__" = some (.ref f) ∧ nsFind es "__ne__" = none ∧ K.lookup f = some of ∧ of.cls = .type "function"
theorem EqNe.at {K : Frag} {C f x dx : Addr} (e : EqNe K C f) {h : Heap} (X : K.In h) (hx : h.get? x = some (instObj C dx)) : h.OwnEqNoNe x C f "object" [.type "object"] := by
  obtain ⟨nm, q, N, bs, hdct, sn, sub, ab, col, dd, k0, k1, k2, k3, k5, newId, oc, od, es, ep, osl, of, h1, h2, h3, h4, h5, h6, h7⟩ := e.ex
  exact ⟨_, of, nm, q, N, bs, hdct, sn, sub, ab, col, dd, k0, k1, k2, k3, k5, newId, nsFind es, _, hx, rfl, X C _ h1, ⟨_, es, ep, X N _ h2, rfl, h3, fun _ => rfl⟩, h4, X f _ h6, h7, PySem.F.cmp_object.mro, PySem.F.cmp_object.eq.lookup, h5⟩
def rNeO (C : Addr) (sp : Sp) : V → V → Hp → VK → Prop := fun x y H Q => ∃ (a b dx dy : Addr) (fs gs : List (Str × V)), x = .ref a ∧ y = .ref b ∧ H a = some (.ins C dx fs) ∧ H b = some (.ins C dy gs) ∧
  sp [.ref a, .ref b] H (fun v H' => ∃ t : Bool, v = .bl t ∧ Q (.bl !t) H') E0
theorem op_neO {X : Cx} {C f : Addr} {fd : FuncData} {k : Nat} {sp : Sp} {ps : List Str} (hs : EqNe X.K C f) (F : FnOk X.prog X.w X.K X.mg X.base CX0 k f fd ps sp) (hr : Room (k + 1) X.A) (hb : L2.Binds X.K fd ps []) :
    OpR X (compareOp .NotEq) (rNeO C sp) := by
  intro pins s σ H x y v u Q I rx ry h
  obtain ⟨a, b, dx, dy, fs, gs, rfl, rfl, ha, hb', h⟩ := h
  cases rx
  cases ry
  have oa := (I.hok a _ ha).2.2.2.1
  have ob := (I.hok b _ hb').2.2.2.1
  have hr1 : Room k X.A.in1 := hr.in1
  refine compareOp_ne_ownEq PySem.F.cmp_object (hs.at I.kIn oa) ob rfl ?_ ?_
  · exact hr1.units0
  have rv : Vals [V.ref a, V.ref b] [Value.ref a, Value.ref b] := .cons rfl (.cons rfl .nil)
  have hl : ([Value.ref a, Value.ref b] ++ []).length = ps.length := F.len _ _ _ _ h
  have bd := hb s [Value.ref a, Value.ref b] I.kIn hl
  rw [List.append_nil] at bd
  refine wpAny_call (codeAny_mono (F.run X.A.in1 X.stack s H ⟨[Value.ref a, Value.ref b], []⟩ [Value.ref a, Value.ref b] [V.ref a, V.ref b] _ E0 hr1 I.env0.in1 bd rv h) fun r s' hq => ?_)
  cases r with
  | error e => exact hq.elim
  | ok fl =>
    cases fl with
    | next => exact hq.elim
    | brk => exact hq.elim
    | cont => exact hq.elim
    | ret u =>
      obtain ⟨v, H', I2, rv, t, rfl, q⟩ := I.after (Q := fun v H' => ∃ t : Bool, v = .bl t ∧ Q (.bl !t) H') hq
      cases rv
      exact ⟨t, rfl, .bl !t, H', I2, rfl, q⟩
end Wm
namespace Wm
open PySem L2 StX
def rulF (nm : Str) (t1 t2 t3 : Addr) (by_ : Str) : List (Str × V) := putF "by" (.str by_) (putF "gives" (.ref t3) (barF nm t1 t2))
theorem nr1 : ¬ (("gives" : Str) = "by") := by decide +kernel
theorem nr2 : ¬ (("name" : Str) = "by") := by decide +kernel
theorem nr3 : ¬ (("name" : Str) = "gives") := by decide +kernel
theorem nr4 : ¬ (("variables" : Str) = "by") := by decide +kernel
theorem nr5 : ¬ (("variables" : Str) = "gives") := by decide +kernel
theorem nr6 : ¬ (("conditions" : Str) = "by") := by decide +kernel
theorem nr7 : ¬ (("conditions" : Str) = "gives") := by decide +kernel
theorem rulF_name (nm : Str) (t1 t2 t3 : Addr) (b : Str) : (rulF nm t1 t2 t3 b).lookup ("name" : Str) = some (.str nm) := by
  unfold rulF
  rw [lookup_putF, if_neg nr2, lookup_putF, if_neg nr3]
  exact barF_name _ _ _
theorem rulF_vars (nm : Str) (t1 t2 t3 : Addr) (b : Str) : (rulF nm t1 t2 t3 b).lookup ("variables" : Str) = some (.ref t1) := by
  unfold rulF
  rw [lookup_putF, if_neg nr4, lookup_putF, if_neg nr5]
  exact barF_vars _ _ _
theorem rulF_cond (nm : Str) (t1 t2 t3 : Addr) (b : Str) : (rulF nm t1 t2 t3 b).lookup ("conditions" : Str) = some (.ref t2) := by
  unfold rulF
  rw [lookup_putF, if_neg nr6, lookup_putF, if_neg nr7]
  exact barF_cond _ _ _
theorem rulF_gives (nm : Str) (t1 t2 t3 : Addr) (b : Str) : (rulF nm t1 t2 t3 b).lookup ("gives" : Str) = some (.ref t3) := by
  unfold rulF
  rw [lookup_putF, if_neg nr1, lookup_putF, if_pos rfl]
theorem rulF_by (nm : Str) (t1 t2 t3 : Addr) (b : Str) : (rulF nm t1 t2 t3 b).lookup ("by" : Str) = some (.str b) := by
  unfold rulF
  rw [lookup_putF, if_pos rfl]
theorem barF_len (nm : Str) (t1 t2 : Addr) : (barF nm t1 t2).length ≤ 3 := Nat.le_trans (putF_len _ _ _) (Nat.succ_le_succ (Nat.le_trans (putF_len _ _ _) (Nat.succ_le_succ (putF_len _ _ _))))
structure TxRul (K : PySem.W.Frag) (mg : Str → Option Value) (B fB : Addr) : Prop where
  cl : Cls K B
  nn : NoAttr K B "name"
  nv : NoAttr K B "variables"
  nc : NoAttr K B "conditions"
  ng : NoAttr K B "gives"
  nb : NoAttr K B "by"
  g : mg "Rule" = some (.ref B)
  m : Mk K B fB
def spRul (K : PySem.W.Frag) (C B : Addr) : Sp := fun vs H Q E => ∃ (H0 : Hp) (x dx l1 l2 g : Addr) (nm b : Str) (ps qs : List Addr) (vars : List Var) (cs : List Tri) (gt : Tri), vs = [.ref x, .str nm, .ref l1, .ref l2, .ref g, .str b] ∧ Same H0 H ∧ H0 x = none ∧ H x = some (.ins B dx []) ∧
  SqL K H0 l1 (ps.map V.ref) ∧ RowsAt K H0 ps (vars.map varV) ∧ SqL K H0 l2 (qs.map V.ref) ∧ RowsAt K H0 qs (cs.map triV) ∧ H0 g = some (.tup (triV gt)) ∧ PatOk vars cs [gt] [b] ∧ (∀ z ∈ textsL nm vars (cs ++ [gt]), z.length ≤ 1000) ∧
  DueM C (textsL nm vars (cs ++ [gt])) H0 (fun H' => ∀ t1 t2, H' x = some (.ins B dx (rulF nm t1 t2 g b)) → H' t1 = some (.tup (ps.map V.ref)) → H' t2 = some (.tup (qs.map V.ref)) → Q .non H') E
section
variable {P : Program} {w : World} {K : PySem.W.Frag} {mg : Str → Option Value} {base : Heap}
theorem scRul : FnScope ["self", "name", "variables", "conditions", "gives", "by"] ["self", "name", "variables", "conditions", "gives", "by"] (defScope sRul) := ⟨rfl, rfl, rfl, by decide +kernel, rfl, by decide +kernel, by decide +kernel⟩
theorem ok_rul {f fTT fCP C B : Addr} {fd dTT dCP : FuncData} (F : Fun K "__init__" "Rule.__init__" sRul f fd) (T : TxB mg) (TB : TxRul K mg B f) (TT : Dn K mg "tuple_of_tuples" sTT ["rows"] fTT dTT)
    (CP : Dn K mg "check_pattern" sCP ["name", "variables", "conditions", "given", "hands"] fCP dCP) (GCP : FnOk P w K mg base (L2.CX P w) 5 fCP dCP ["name", "variables", "conditions", "given", "hands"] (spCP K C)) :
    FnOk P w K mg base (L2.CX P w) 6 f fd ["self", "name", "variables", "conditions", "gives", "by"] (spRul K C B) := by
  have GTT : FnOk P w K mg base CX0 1 fTT dTT _ (spTT K) := ok_tt TT.F T
  refine F.okX scRul (fun vs H Q E h => ?_) (fun cdv A outer s H vs Q E hr h => ?_)
  · obtain ⟨H0, x, dx, l1, l2, g, nm, b, ps, qs, vars, cs, gt, rfl, _⟩ := h
    rfl
  · obtain ⟨H0, x, dx, l1, l2, g, nm, b, ps, qs, vars, cs, gt, rfl, S0, x0, hx, h1, hv, h2, hc, hg, ok, hz, k⟩ := h
    have hr1 : Room 1 _ := hr.mono (by decide)
    have b1 := hv.len
    have b2 := hc.len
    rw [List.length_map] at b1 b2
    have o1 := ok.v4
    have o2 := ok.c3
    have ngx : g ≠ x := ne_of_none hg x0
    refine ⟨_, (pss_cons (ps_fld (pv 0) (pv 1) rfl)
      (pss_cons (ps_fld (pv 0) (pe_call GTT hr1 rfl TT.g TT.F.kp TT.b .nil pass0 (pa_cons (pv 2) pa_nil)) rfl)
      (pss_cons (ps_fld (pv 0) (pe_call GTT hr1 rfl TT.g TT.F.kp TT.b .nil pass0 (pa_cons (pv 3) pa_nil)) rfl)
      (pss_cons (ps_fld (pv 0) (pe_callTy call_tupN (by rfl) T.tuple (by decide +kernel) (pa_cons (pv 4) pa_nil)) rfl)
      (pss_cons (ps_fld (pv 0) (pv 5) rfl)
      (pss_one (ps_expr (pe_call GCP hr rfl CP.g CP.F.kp CP.b .nil (passes_call (takes_of rfl rfl rfl rfl) (fun _ _ _ _ h => h)) (pa_cons (pv 1) (pa_cons (pe_fld (pv 0) rfl) (pa_cons (pe_fld (pv 0) rfl) (pa_cons (pe_lst (pa_cons (pe_fld (pv 0) rfl) pa_nil)) (pa_cons (pe_lst (pa_cons (pv 5) pa_nil)) pa_nil))))))))))))), ?_⟩
    have Sx : ∀ {H1 : Hp} {o : HO}, Same H0 H1 → Same H0 (upd H1 x o) := fun hs b o e => by
      rw [upd_ne (ne_of_none e x0)]
      exact hs b o e
    refine ⟨_, rfl, _, rfl, x, B, dx, [], rfl, hx, TB.cl, TB.nn, (by show 0 < 1000; decide), ?_⟩
    have S1 := Sx (o := .ins B dx (putF "name" (.str nm) [])) S0
    refine ⟨_, rfl, l1, ps, _, rfl, S1.seq h1, hv.same S1, by omega, fun t1 H2 ht1 hS2 hl1 => ?_⟩
    have S2 := S1.trans hS2
    have hx2 := hS2 _ _ (upd_same (H := H) (a := x) (o := .ins B dx (putF "name" (.str nm) [])))
    have n1x : t1 ≠ x := fun z => by
      rw [z, upd_same] at ht1
      cases ht1
    refine ⟨_, rfl, x, B, dx, _, rfl, hx2, TB.cl, TB.nv, Nat.lt_of_le_of_lt (putF_len _ _ _) (by decide), ?_⟩
    have S3 := Sx (o := .ins B dx (putF "variables" (.ref t1) (putF "name" (.str nm) []))) S2
    refine ⟨_, rfl, l2, qs, _, rfl, S3.seq h2, hc.same S3, by omega, fun t2 H4 ht2 hS4 hl2 => ?_⟩
    have S4 := S3.trans hS4
    have hx4 := hS4 _ _ (upd_same (H := H2) (a := x) (o := .ins B dx (putF "variables" (.ref t1) (putF "name" (.str nm) []))))
    have hl1' := hS4 t1 _ (by rw [upd_ne n1x]; exact hl1)
    have n2x : t2 ≠ x := fun z => by
      rw [z, upd_same] at ht2
      cases ht2
    refine ⟨_, rfl, x, B, dx, _, rfl, hx4, TB.cl, TB.nc, Nat.lt_of_le_of_lt (putF_len _ _ _) (Nat.lt_of_le_of_lt (Nat.succ_le_succ (putF_len _ _ _)) (by decide)), ?_⟩
    have S5 := Sx (o := .ins B dx (barF nm t1 t2)) S4
    -- self.gives = tuple(gives); self.by = by
    refine ⟨_, rfl, g, _, rfl, .inr ⟨SqT.of (S5 _ _ hg), ?_⟩⟩
    refine ⟨_, rfl, x, B, dx, _, rfl, upd_same, TB.cl, TB.ng, Nat.lt_of_le_of_lt (barF_len nm t1 t2) (by decide), ?_⟩
    refine ⟨_, rfl, _, rfl, x, B, dx, _, rfl, upd_same, TB.cl, TB.nb, Nat.lt_of_le_of_lt (Nat.le_trans (putF_len _ _ _) (Nat.succ_le_succ (barF_len nm t1 t2))) (by decide), ?_⟩
    rw [upd_upd, upd_upd]
    show _
    generalize hH6 : upd H4 x (.ins B dx (putF "by" (.str b) (putF "gives" (.ref g) (putF "conditions" (.ref t2) (putF "variables" (.ref t1) (putF "name" (.str nm) [])))))) = H6
    have S6 : Same H0 H6 := by
      rw [← hH6]
      exact Sx S4
    have hx6 : H6 x = some (.ins B dx (rulF nm t1 t2 g b)) := by rw [← hH6, upd_same]; rfl
    have h16 : H6 t1 = some (.tup (ps.map V.ref)) := by rw [← hH6, upd_ne n1x]; exact hl1'
    have h26 : H6 t2 = some (.tup (qs.map V.ref)) := by rw [← hH6, upd_ne n2x]; exact hl2
    -- check_pattern(name, self.variables, self.conditions, [self.gives], [by])
    refine ⟨_, rfl, _, rfl, x, B, dx, _, _, rfl, hx6, TB.cl, TB.nv, rulF_vars _ _ _ _ _, _, rfl, x, B, dx, _, _, rfl, hx6, TB.cl, TB.nc, rulF_cond _ _ _ _ _, _, rfl, x, B, dx, _, _, rfl, hx6, TB.cl, TB.ng, rulF_gives _ _ _ _ _, by show 1 ≤ sizeLine; decide, fun gl hgl => ⟨_, rfl, by show 1 ≤ sizeLine; decide, fun h hh => ?_⟩⟩
    have S7 : Same H6 (upd (upd H6 gl (.lst [.ref g])) h (.lst [.str b])) := (Same.upd hgl).trans (Same.upd hh)
    have S67 := S6.trans S7
    refine ⟨nm, t1, t2, gl, h, ps, qs, [g], vars, cs, [gt], [b], rfl, SqT.of (S7 _ _ h16), hv.same S67, SqT.of (S7 _ _ h26), hc.same S67, SqL.of (Same.upd hh _ _ upd_same), ⟨SqT.of (S67 _ _ hg), True.intro⟩, SqL.of upd_same, ok, hz, ?_⟩
    refine k.toN S67 fun hn H8 hS8 => ?_
    unfold DueM at k
    rw [hn] at k
    exact k H8 (S67.trans hS8) t1 t2 (hS8 _ _ (S7 _ _ hx6)) (hS8 _ _ (S7 _ _ h16)) (hS8 _ _ (S7 _ _ h26))
end
end Wm
namespace Wm
open PySem L2 StX
def sortD : Option Str → PyData
  | none => .none
  | some s => .str s
def varD (v : Var) : List PyData := [.str v.1, sortD v.2]
def triD (t : Tri) : List PyData := [.str t.1, .str t.2.1, .str t.2.2]
def rowsD (rs : List (List PyData)) : PyData := .tuple (rs.map PyData.tuple)
theorem dp_var {K : PySem.W.Frag} {H : Hp} (v : Var) : DpAll K H (varV v) (varD v) := by
  obtain ⟨n, s⟩ := v
  cases s with
  | none => exact .cons (.str _) (.cons .non .nil)
  | some s => exact .cons (.str _) (.cons (.str _) .nil)
theorem dp_tri {K : PySem.W.Frag} {H : Hp} (t : Tri) : DpAll K H (triV t) (triD t) := .cons (.str _) (.cons (.str _) (.cons (.str _) .nil))
theorem dp_rows {K : PySem.W.Frag} {H : Hp} {α : Type} {f : α → List V} {g : α → List PyData} (h : ∀ a, DpAll K H (f a) (g a)) : ∀ {ps : List Addr} {xs : List α}, RowsAt K H ps (xs.map f) → DpAll K H (ps.map V.ref) ((xs.map g).map PyData.tuple)
  | [], [], _ => .nil
  | _ :: _, x :: _, r => .cons (.tup r.1 (h x)) (dp_rows h r.2)
  | [], _ :: _, r => r.elim
  | _ :: _, [], r => r.elim
/-- the parts that rules and bars have alike, as they stand at t1 and t2 -/
structure RowsD (K : PySem.W.Frag) (H : Hp) (t1 t2 : Addr) (vars : List Var) (cs : List Tri) : Prop where
  ex : ∃ ps qs : List Addr, SqT K H t1 (ps.map V.ref) ∧ RowsAt K H ps (vars.map varV) ∧ SqT K H t2 (qs.map V.ref) ∧ RowsAt K H qs (cs.map triV)
  s1 : SeqAt.shaped (rowsD (vars.map varD)) = true
  s2 : SeqAt.shaped (rowsD (cs.map triD)) = true
theorem RowsD.d1 {K : PySem.W.Frag} {H : Hp} {t1 t2 : Addr} {vars : List Var} {cs : List Tri} (h : RowsD K H t1 t2 vars cs) : Dp K H (.ref t1) (rowsD (vars.map varD)) := by
  obtain ⟨ps, qs, a, b, _⟩ := h.ex
  exact .tup a (dp_rows dp_var b)
theorem RowsD.d2 {K : PySem.W.Frag} {H : Hp} {t1 t2 : Addr} {vars : List Var} {cs : List Tri} (h : RowsD K H t1 t2 vars cs) : Dp K H (.ref t2) (rowsD (cs.map triD)) := by
  obtain ⟨ps, qs, _, _, a, b⟩ := h.ex
  exact .tup a (dp_rows dp_tri b)
def sameB (nm : Str) (vars : List Var) (cs : List Tri) (nm' : Str) (vars' : List Var) (cs' : List Tri) : Bool := decide (nm = nm') && (PyData.eqv (rowsD (vars.map varD)) (rowsD (vars'.map varD)) && PyData.eqv (rowsD (cs.map triD)) (rowsD (cs'.map triD)))
def spBE (K : PySem.W.Frag) (B : Addr) : Sp := fun vs H Q _ => ∃ (x y : Addr), vs = [.ref x, .ref y] ∧
  ((∃ (dx dy t1 t2 s1 s2 : Addr) (nm nm' : Str) (vars vars' : List Var) (cs cs' : List Tri), H x = some (.ins B dx (barF nm t1 t2)) ∧ H y = some (.ins B dy (barF nm' s1 s2)) ∧ TyX K H (.ref y) (.ref B) ∧ RowsD K H t1 t2 vars cs ∧ RowsD K H s1 s2 vars' cs' ∧ Q (.bl (sameB nm vars cs nm' vars' cs')) H) ∨
   (∃ D, TyX K H (.ref y) (.ref D) ∧ PySem.W.kitOne K (.ref D) (.ref B) = some false ∧ Q (.bl false) H))
def sameR (nm : Str) (vars : List Var) (cs : List Tri) (g : Tri) (b : Str) (nm' : Str) (vars' : List Var) (cs' : List Tri) (g' : Tri) (b' : Str) : Bool := decide (nm = nm') && (PyData.eqv (rowsD (vars.map varD)) (rowsD (vars'.map varD)) && (PyData.eqv (rowsD (cs.map triD)) (rowsD (cs'.map triD)) && (PyData.eqv (.tuple (triD g)) (.tuple (triD g')) && decide (b = b'))))
def spRE (K : PySem.W.Frag) (B : Addr) : Sp := fun vs H Q _ => ∃ (x y : Addr), vs = [.ref x, .ref y] ∧
  ((∃ (dx dy t1 t2 t3 s1 s2 s3 : Addr) (nm nm' b b' : Str) (vars vars' : List Var) (cs cs' : List Tri) (g g' : Tri), H x = some (.ins B dx (rulF nm t1 t2 t3 b)) ∧ H y = some (.ins B dy (rulF nm' s1 s2 s3 b')) ∧ TyX K H (.ref y) (.ref B) ∧ RowsD K H t1 t2 vars cs ∧ RowsD K H s1 s2 vars' cs' ∧ SqT K H t3 (triV g) ∧ SqT K H s3 (triV g') ∧
      SeqAt.shaped (.tuple (triD g)) = true ∧ SeqAt.shaped (.tuple (triD g')) = true ∧ Q (.bl (sameR nm vars cs g b nm' vars' cs' g' b')) H) ∨
   (∃ D, TyX K H (.ref y) (.ref D) ∧ PySem.W.kitOne K (.ref D) (.ref B) = some false ∧ Q (.bl false) H))
section
variable {P : Program} {w : World} {K : PySem.W.Frag} {mg : Str → Option Value} {base : Heap}
theorem scBE : FnScope ["self", "other"] ["self", "other"] (defScope sBE) := ⟨rfl, rfl, rfl, by decide +kernel, rfl, by decide +kernel, by decide +kernel⟩
theorem ok_be {f fB B : Addr} {fd : FuncData} (F : Fun K "__eq__" "Bar.__eq__" sBE f fd) (T : TxB mg) (TB : TxBar K mg B fB) (kk : PySem.W.kitOne K (.ref B) (.ref B) = some true) : FnOk P w K mg base CX0 1 f fd ["self", "other"] (spBE K B) := by
  refine F.ok scBE (fun vs H Q E h => ?_) (fun cdv A outer s H vs Q E hr h => ?_)
  · obtain ⟨x, y, rfl, _⟩ := h
    rfl
  · obtain ⟨x, y, rfl, h⟩ := h
    refine ⟨_, (pss_one (ps_ret (pe_and (pe_callB call_isi (by rfl) T.isinstance (by decide +kernel) (pa_cons (pv 1) (pa_cons (pe_glob (v := .ref B) (by rfl) TB.g rfl) pa_nil)))
      (pe_and (pe_cmpR op_eq (pe_fld (pv 0) rfl) (pe_fld (pv 1) rfl) (nomark _))
      (pe_and (pe_cmpR (op_eqD hr.units) (pe_fld (pv 0) rfl) (pe_fld (pv 1) rfl) (nomark _))
      (pe_one (pe_cmpR (op_eqD hr.units) (pe_fld (pv 0) rfl) (pe_fld (pv 1) rfl) (nomark _)))))))), ?_⟩
    refine ⟨_, rfl, ?_⟩
    rcases h with ⟨dx, dy, t1, t2, s1, s2, nm, nm', vars, vars', cs, cs', hx, hy, ty, r, r', q⟩ | ⟨D, ty, kf, q⟩
    · refine ⟨_, _, _, _, _, rfl, .own B, ty, kk, true, rfl, ?_⟩
      refine iteT ?_
      refine ⟨_, rfl, x, B, dx, _, _, rfl, hx, TB.cl, TB.nn, barF_name _ _ _, _, rfl, y, B, dy, _, _, rfl, hy, TB.cl, TB.nn, barF_name _ _ _, rfl, _, rfl, ?_⟩
      unfold sameB at q
      refine ite2 (fun c => ?_) (fun c => ?_)
      rotate_left
      · have e : ¬ nm = nm' := fun e => c (by rw [e]; exact decide_eq_true rfl)
        rw [decide_eq_false e, Bool.false_and] at q
        exact q
      have e1 : nm = nm' := V.str.inj (of_decide_eq_true c)
      rw [decide_eq_true e1, Bool.true_and] at q
      refine ⟨_, rfl, x, B, dx, _, _, rfl, hx, TB.cl, TB.nv, barF_vars _ _ _, _, rfl, y, B, dy, _, _, rfl, hy, TB.cl, TB.nv, barF_vars _ _ _, _, _, r.d1, r'.d1, r.s1, r'.s1, _, rfl, ?_⟩
      refine ite2 (fun c => ?_) (fun c => ?_)
      rotate_left
      · rw [Bool.eq_false_iff.mpr c, Bool.false_and] at q
        exact q
      rw [c, Bool.true_and] at q
      exact ⟨_, rfl, x, B, dx, _, _, rfl, hx, TB.cl, TB.nc, barF_cond _ _ _, _, rfl, y, B, dy, _, _, rfl, hy, TB.cl, TB.nc, barF_cond _ _ _, _, _, r.d2, r'.d2, r.s2, r'.s2, q⟩
    · refine ⟨_, _, _, _, _, rfl, .own B, ty, kf, false, rfl, ?_⟩
      exact iteF q
theorem scRE : FnScope ["self", "other"] ["self", "other"] (defScope sRE) := ⟨rfl, rfl, rfl, by decide +kernel, rfl, by decide +kernel, by decide +kernel⟩
theorem ok_re {f fB B : Addr} {fd : FuncData} (F : Fun K "__eq__" "Rule.__eq__" sRE f fd) (T : TxB mg) (TB : TxRul K mg B fB) (kk : PySem.W.kitOne K (.ref B) (.ref B) = some true) : FnOk P w K mg base CX0 1 f fd ["self", "other"] (spRE K B) := by
  refine F.ok scRE (fun vs H Q E h => ?_) (fun cdv A outer s H vs Q E hr h => ?_)
  · obtain ⟨x, y, rfl, _⟩ := h
    rfl
  · obtain ⟨x, y, rfl, h⟩ := h
    refine ⟨_, (pss_one (ps_ret (pe_and (pe_callB call_isi (by rfl) T.isinstance (by decide +kernel) (pa_cons (pv 1) (pa_cons (pe_glob (v := .ref B) (by rfl) TB.g rfl) pa_nil)))
      (pe_and (pe_cmpR op_eq (pe_fld (pv 0) rfl) (pe_fld (pv 1) rfl) (nomark _))
      (pe_and (pe_cmpR (op_eqD hr.units) (pe_fld (pv 0) rfl) (pe_fld (pv 1) rfl) (nomark _))
      (pe_and (pe_cmpR (op_eqD hr.units) (pe_fld (pv 0) rfl) (pe_fld (pv 1) rfl) (nomark _))
      (pe_and (pe_cmpR (op_eqD hr.units) (pe_fld (pv 0) rfl) (pe_fld (pv 1) rfl) (nomark _))
      (pe_one (pe_cmpR op_eq (pe_fld (pv 0) rfl) (pe_fld (pv 1) rfl) (nomark _)))))))))), ?_⟩
    refine ⟨_, rfl, ?_⟩
    rcases h with ⟨dx, dy, t1, t2, t3, s1, s2, s3, nm, nm', b, b', vars, vars', cs, cs', g, g', hx, hy, ty, r, r', h3, h3', sg, sg', q⟩ | ⟨D, ty, kf, q⟩
    · refine ⟨_, _, _, _, _, rfl, .own B, ty, kk, true, rfl, ?_⟩
      refine iteT ?_
      refine ⟨_, rfl, x, B, dx, _, _, rfl, hx, TB.cl, TB.nn, rulF_name _ _ _ _ _, _, rfl, y, B, dy, _, _, rfl, hy, TB.cl, TB.nn, rulF_name _ _ _ _ _, rfl, _, rfl, ?_⟩
      unfold sameR at q
      refine ite2 (fun c => ?_) (fun c => ?_)
      rotate_left
      · have e : ¬ nm = nm' := fun e => c (by rw [e]; exact decide_eq_true rfl)
        rw [decide_eq_false e, Bool.false_and] at q
        exact q
      have e1 : nm = nm' := V.str.inj (of_decide_eq_true c)
      rw [decide_eq_true e1, Bool.true_and] at q
      refine ⟨_, rfl, x, B, dx, _, _, rfl, hx, TB.cl, TB.nv, rulF_vars _ _ _ _ _, _, rfl, y, B, dy, _, _, rfl, hy, TB.cl, TB.nv, rulF_vars _ _ _ _ _, _, _, r.d1, r'.d1, r.s1, r'.s1, _, rfl, ?_⟩
      refine ite2 (fun c => ?_) (fun c => ?_)
      rotate_left
      · rw [Bool.eq_false_iff.mpr c, Bool.false_and] at q
        exact q
      rw [c, Bool.true_and] at q
      refine ⟨_, rfl, x, B, dx, _, _, rfl, hx, TB.cl, TB.nc, rulF_cond _ _ _ _ _, _, rfl, y, B, dy, _, _, rfl, hy, TB.cl, TB.nc, rulF_cond _ _ _ _ _, _, _, r.d2, r'.d2, r.s2, r'.s2, _, rfl, ?_⟩
      refine ite2 (fun c => ?_) (fun c => ?_)
      rotate_left
      · rw [Bool.eq_false_iff.mpr c, Bool.false_and] at q
        exact q
      rw [c, Bool.true_and] at q
      refine ⟨_, rfl, x, B, dx, _, _, rfl, hx, TB.cl, TB.ng, rulF_gives _ _ _ _ _, _, rfl, y, B, dy, _, _, rfl, hy, TB.cl, TB.ng, rulF_gives _ _ _ _ _, _, _, .tup h3 (dp_tri g), .tup h3' (dp_tri g'), sg, sg', _, rfl, ?_⟩
      refine ite2 (fun c => ?_) (fun c => ?_)
      rotate_left
      · rw [Bool.eq_false_iff.mpr c, Bool.false_and] at q
        exact q
      rw [c, Bool.true_and] at q
      refine ⟨_, rfl, x, B, dx, _, _, rfl, hx, TB.cl, TB.nb, rulF_by _ _ _ _ _, _, rfl, y, B, dy, _, _, rfl, hy, TB.cl, TB.nb, rulF_by _ _ _ _ _, rfl, ?_⟩
      have eb : decide (V.str b = V.str b') = decide (b = b') := decide_eq_decide.mpr ⟨V.str.inj, fun e => by rw [e]⟩
      rw [eb]
      exact q
    · refine ⟨_, _, _, _, _, rfl, .own B, ty, kf, false, rfl, ?_⟩
      exact iteF q
end
end Wm
/-! names as the laws draw them: texts of at most six signs -/
namespace Wm
open PySem L2
def lowC (c : Nat) : Prop := 97 ≤ c ∧ c ≤ 122
def figC (c : Nat) : Prop := 48 ≤ c ∧ c ≤ 57
/-- a text of small letters and figures, the first a letter -/
def NmP (z : Str) : Prop := ∃ c cs, z.cps.toList = c :: cs ∧ lowC c ∧ ∀ d ∈ cs, lowC d ∨ figC d
theorem toList_app (a b : Str) : (a ++ b).cps.toList = a.cps.toList ++ b.cps.toList := by
  show (a.cps ++ b.cps).toList = _
  simp
theorem NmP.app {a b : Str} (h : NmP a) (hb : ∀ d ∈ b.cps.toList, lowC d ∨ figC d) : NmP (a ++ b) := by
  obtain ⟨c, cs, e, l, r⟩ := h
  refine ⟨c, cs ++ b.cps.toList, by rw [toList_app, e]; rfl, l, fun d hd => ?_⟩
  rcases List.mem_append.mp hd with h | h
  · exact r d h
  · exact hb d h
theorem NmP.one {c : Nat} (h : lowC c) : NmP ⟨#[c]⟩ := ⟨c, [], rfl, h, fun _ z => nomatch z⟩
theorem NmP.ok {z : Str} (h : NmP z) : ∀ c ∈ z.cps.toList, c < 1114112 := by
  obtain ⟨c, cs, e, l, r⟩ := h
  intro d hd
  rw [e] at hd
  rcases List.mem_cons.mp hd with h | h
  · rw [h]
    exact Nat.lt_of_le_of_lt l.2 (by decide)
  · rcases r d h with q | q
    · exact Nat.lt_of_le_of_lt q.2 (by decide)
    · exact Nat.lt_of_le_of_lt q.2 (by decide)
def ABC36 : Str := PySem.Str.ofString "abcdefghijklmnopqrstuvwxyz0123456789"
theorem abc36_len : ABC36.length = 36 := by decide +kernel
theorem abc_low {i : Nat} {c : Nat} (hi : i < 26) (h : ABC36.cps.toList[i]? = some c) : lowC c := by
  have q : ∀ j : Fin 26, ∀ d ∈ ABC36.cps.toList[j.1]?, 97 ≤ d ∧ d ≤ 122 := by decide +kernel
  exact q ⟨i, hi⟩ c (by rw [h]; exact rfl)
theorem abc_any {i : Nat} {c : Nat} (h : ABC36.cps.toList[i]? = some c) : lowC c ∨ figC c := by
  have q : ∀ d ∈ ABC36.cps.toList, (97 ≤ d ∧ d ≤ 122) ∨ (48 ≤ d ∧ d ≤ 57) := by decide +kernel
  exact q c (List.mem_of_getElem? h)
/-- the text of a number -/
def numS (n : Nat) : Str := PySem.Str.ofString (toString (n : Int))
def numB (n : Nat) : Bool := (numS n).cps.toList.all (fun d => decide (48 ≤ d ∧ d ≤ 57)) && (decide ((numS n).length ≤ 2) && decide (1 ≤ (numS n).length))
theorem num_all : ∀ n : Fin 70, numB n.1 = true := by decide +kernel
theorem num_inj0 : ∀ n m : Fin 70, (numS n.1).cps.toList = (numS m.1).cps.toList → n = m := by decide +kernel
theorem num_sign {n : Nat} (h : n < 70) : (∀ d ∈ (numS n).cps.toList, lowC d ∨ figC d) ∧ (numS n).length ≤ 2 ∧ 1 ≤ (numS n).length := by
  obtain ⟨a, b⟩ := Bool.and_eq_true_iff.mp (num_all ⟨n, h⟩)
  obtain ⟨b, c⟩ := Bool.and_eq_true_iff.mp b
  refine ⟨fun d hd => .inr ?_, of_decide_eq_true b, of_decide_eq_true c⟩
  have q := List.all_eq_true.mp a d hd
  exact of_decide_eq_true (p := 48 ≤ d ∧ d ≤ 57) q
theorem num_inj {n m : Nat} (hn : n < 70) (hm : m < 70) (h : numS n = numS m) : n = m := congrArg Fin.val (num_inj0 ⟨n, hn⟩ ⟨m, hm⟩ (by rw [h]))
/-- the tries for a name: the word, then the word with 1, 2 .. -/
def tryS (z : Str) : Nat → Str
  | 0 => z
  | n + 1 => z ++ numS (n + 1)
theorem app_inj {a b c : Str} (h : a ++ b = a ++ c) : b = c := by
  have e := congrArg (fun z : Str => z.cps.toList) h
  simp only [toList_app] at e
  have q := List.append_cancel_left e
  cases b; cases c
  simp only at q
  congr
  exact Array.toList_inj.mp q
theorem try_inj {z : Str} {n m : Nat} (hn : n < 70) (hm : m < 70) (h : tryS z n = tryS z m) : n = m := by
  have key : ∀ k, k + 1 < 70 → z ≠ z ++ numS (k + 1) := fun k hk e => by
    have l := congrArg (fun z : Str => z.cps.toList.length) e
    simp only [toList_app, List.length_append] at l
    have q := (num_sign hk).2.2
    have q' : 1 ≤ (numS (k + 1)).cps.toList.length := by simpa [PySem.Str.length] using q
    omega
  cases n with
  | zero =>
    cases m with
    | zero => rfl
    | succ m => exact (key m hm h).elim
  | succ n =>
    cases m with
    | zero => exact (key n hn h.symm).elim
    | succ m => exact num_inj hn hm (app_inj h)
theorem holes {α : Type} [BEq α] [LawfulBEq α] {f : Nat → α} : ∀ {n : Nat} {l : List α}, (∀ i j, i < n → j < n → f i = f j → i = j) → (∀ i, i < n → f i ∈ l) → n ≤ l.length
  | 0, _, _, _ => Nat.zero_le _
  | n + 1, l, inj, h => by
    have hm := h n (Nat.lt_succ_self n)
    have q := holes (n := n) (l := l.erase (f n)) (fun i j hi hj => inj i j (by omega) (by omega)) (fun i hi => by
      refine (List.mem_erase_of_ne fun e => ?_).mpr (h i (by omega))
      have := inj i n (by omega) (by omega) e
      omega)
    rw [List.length_erase_of_mem hm] at q
    have := List.length_pos_of_mem hm
    omega
theorem try_end {z : Str} {taken : List Str} {n : Nat} (ht : taken.length ≤ 60) (h : ∀ i, i < n → tryS z i ∈ taken) (hn : n ≤ 61) : n ≤ taken.length :=
  holes (f := tryS z) (fun i j hi hj e => try_inj (by omega) (by omega) e) h
theorem inV_strs {z : Str} {ns : List Str} : inV (.str z) (ns.map V.str) = decide (z ∈ ns) := by
  unfold inV
  rw [List.any_map]
  induction ns with
  | nil => simp
  | cons a r ih =>
    rw [List.any_cons, ih]
    have e : eqV (.str a) (.str z) = decide (a = z) := by
      unfold eqV
      by_cases h : a = z
      · simp [h]
      · simp [h]
    show (eqV (.str a) (.str z) || _) = _
    rw [e]
    by_cases h : a = z
    · simp [h]
    · have h' : ¬ z = a := fun x => h x.symm
      simp [h, h']
end Wm
namespace Wm
open PySem L2
theorem StOk.upd {p d : Addr} {H : Hp} {o : HO} (n : d ≠ p) (h : StOk H p) : StOk (L2.upd H d o) p := by
  obtain ⟨a, b, c, e, r⟩ := h
  exact ⟨a, b, c, by rw [upd_ne n.symm]; exact e, r⟩
theorem StOk.same {p : Addr} {H H' : Hp} (e : Same H H') (h : StOk H p) : StOk H' p := by
  obtain ⟨a, b, c, q, r⟩ := h
  exact ⟨a, b, c, e _ _ q, r⟩
theorem st_free {p d : Addr} {H : Hp} (h : StOk H p) (n : H d = none) : d ≠ p := by
  obtain ⟨a, b, c, e, _⟩ := h
  exact fun z => by
    rw [z, e] at n
    cases n
theorem but_new {p d : Addr} {H H1 : Hp} {o : HO} (b : But p H H1) (n : d ≠ p) (h0 : H d = none) : But p H (L2.upd H1 d o) := fun q u nq e => by
  rw [upd_ne (ne_of_none e h0)]
  exact b q u nq e
theorem flats (ns : List Str) : (ns.map V.str).all flatV = true := by
  induction ns with
  | nil => rfl
  | cons a r ih => rw [List.map_cons, List.all_cons, ih]; rfl
def spNam : Sp := fun vs H Q _ => ∃ (p ln : Addr) (taken : List Str), vs = [.ref p, .ref ln] ∧ StOk H p ∧ ln ≠ p ∧ H ln = some (.lst (taken.map V.str)) ∧ taken.length ≤ 60 ∧
  ∀ (z : Str) H', NmP z → z.length ≤ 6 → z ∉ taken → But p H H' → StOk H' p → Q (.str z) H'
def spNms : Sp := fun vs H Q _ => ∃ (p : Addr) (n : Int), vs = [.ref p, .int n] ∧ StOk H p ∧ 0 ≤ n ∧ n ≤ 60 ∧
  ∀ (zs : List Str) d H', H d = none → d ≠ p → But p H H' → StOk H' p → H' d = some (.lst (zs.map V.str)) → zs.length = n.toNat → zs.Nodup → (∀ z ∈ zs, NmP z ∧ z.length ≤ 6) → Q (.ref d) H'
/-- how many tries are left -/
def mu7 (σ : L2.St) : Nat := match (σ[7]? : Option (Option V)) with
  | some (some (V.int n)) => 100 - n.toNat
  | _ => 0
theorem log_small {n : Nat} (h : n ≤ 100) : ((n : Int) + 1).natAbs.log2 < 1920 := by
  have e : ((n : Int) + 1).natAbs = n + 1 := by omega
  rw [e]
  have q : (n + 1).log2 ≤ n + 1 := Nat.log2_le_self _
  omega
theorem try_nm {z : Str} (h : NmP z) (hl : z.length ≤ 4) {n : Nat} (hn : n ≤ 60) : NmP (tryS z n) ∧ (tryS z n).length ≤ 6 := by
  cases n with
  | zero => exact ⟨h, by show z.length ≤ 6; omega⟩
  | succ n =>
    have q := num_sign (n := n + 1) (by omega)
    refine ⟨h.app q.1, ?_⟩
    show (z ++ numS (n + 1)).length ≤ 6
    rw [len_app]
    omega
section
variable {P : Program} {w : World} {K : PySem.W.Frag} {mg : Str → Option Value} {base : Heap}
theorem scNam : FnScope ["_law_s", "_law_taken", "_law_some", "_law_kind", "_law_word_here", "_law_k", "_law_found", "_law_n"] ["_law_s", "_law_taken"] (defScope sNam) := ⟨rfl, rfl, rfl, by decide +kernel, rfl, by decide +kernel, by decide +kernel⟩
theorem ok_nam {f fg : Addr} {fd fdg : FuncData} (F : Fun K "_law_name" "_law_name" sNam f fd) (T : TxB mg) (tstr : mg "str" = none) (D : Dn K mg "_law_digit" sDigit ["_law_state_here", "_law_base"] fg fdg) : FnOk P w K mg base CX0 2 f fd ["_law_s", "_law_taken"] spNam := by
  have G : FnOk P w K mg base CX0 1 fg fdg ["_law_state_here", "_law_base"] spDigit := ok_digit D.F
  refine F.ok scNam (fun vs H Q E h => ?_) (fun cdv A outer s H vs Q E hr h => ?_)
  · obtain ⟨p, ln, tk, rfl, _⟩ := h
    rfl
  · obtain ⟨p, ln, taken, rfl, hS, nlp, hT, hl, k⟩ := h
    refine ⟨_, (pss_cons (ps_set (i := 2) scNam.nd rfl (Or.inl rfl) pe_str)
      (pss_cons (ps_set (i := 3) scNam.nd rfl (Or.inl rfl) (pe_call G hr rfl D.g D.F.kp D.b .nil pass0 (pa_cons (pv 0) (pa_cons pe_int pa_nil))))
      (pss_cons (ps_set (i := 4) scNam.nd rfl (Or.inl rfl) (pe_ix ix_str (pv 2) (pe_call G hr rfl D.g D.F.kp D.b .nil pass0 (pa_cons (pv 0) (pa_cons pe_int pa_nil))) (fun _ _ => rfl)))
      (pss_cons (ps_for PassesOwn.never rfl (pi_range1 rfl T.range (pa_cons (pe_call G hr rfl D.g D.F.kp D.b .nil pass0 (pa_cons (pv 0) (pa_cons pe_int pa_nil))) pa_nil)) (pg_name (i := 5) scNam.nd rfl (Or.inl rfl)) (pss_one (ps_set (i := 4) scNam.nd rfl (Or.inl rfl) (pe_op op_add_str (pv 4) (pe_ix ix_str (pv 2) (pe_call G hr rfl D.g D.F.kp D.b .nil pass0 (pa_cons (pv 0) (pa_cons pe_int pa_nil))) (fun _ _ => rfl))))))
      (pss_cons (ps_if (pt_cmpR op_eq (pv 3) pe_int (nomark _)) (pss_one (ps_set (i := 4) scNam.nd rfl (Or.inl rfl) (pe_ix ix_list (pe_lst (pa_cons pe_str (pa_cons pe_str (pa_cons pe_str (pa_cons pe_str pa_nil))))) (pe_call G hr rfl D.g D.F.kp D.b .nil pass0 (pa_cons (pv 0) (pa_cons pe_int pa_nil))) (fun _ _ => rfl)))) pss_nil)
      (pss_cons (ps_set (i := 6) scNam.nd rfl (Or.inl rfl) (pv 4))
      (pss_cons (ps_set (i := 7) scNam.nd rfl (Or.inl rfl) pe_int)
      (pss_cons (ps_while PassesOwn.never (pt_cmpR op_in_seq (pv 6) (pv 1) (by rfl)) (pss_cons (ps_set (i := 7) scNam.nd rfl (Or.inl rfl) (pe_op op_add (pv 7) pe_int))
      (pss_one (ps_set (i := 6) scNam.nd rfl (Or.inl rfl) (pe_op op_add_str (pv 4) (pe_callTy call_str_int (by rfl) tstr (by decide +kernel) (pa_cons (pv 7) pa_nil)))))))
      (pss_one (ps_ret (pv 6))))))))))), ?_⟩
    refine ⟨_, rfl, p, _, rfl, hS, by decide, by decide, fun d1 H1 a1 b1 B1 S1 => ?_⟩
    refine ⟨_, rfl, _, rfl, p, _, rfl, S1, by decide, by decide, fun d2 H2 a2 b2 B2 S2 => ?_⟩
    refine rdItem abc36_len a2 (by omega) (by decide) fun c hc => ?_
    have hc' : lowC c := abc_low (by omega) hc
    refine ⟨_, rfl, p, _, rfl, S2, by decide, by decide, fun d3 H3 a3 b3 B3 S3 => ?_⟩
    refine ⟨d3, rfl, by omega, by omega, ?_⟩
    refine for_range (n := d3.toNat) (fun i σ H' => ∃ (z : Str) (v : Option V), σ = [some (.ref p), some (.ref ln), some (.str ABC36), some (.int d1), some (.str z), v, none, none] ∧ z.length ≤ i + 1 ∧ NmP z ∧ But p H H' ∧ StOk H' p)
      ⟨⟨#[c]⟩, none, rfl, Nat.le_refl _, NmP.one hc', (B1.trans B2).trans B3, S3⟩ ?_ ?_
    · rintro i σ H' hi ⟨z, v, rfl, hz, hp, B, S⟩
      refine ⟨_, rfl, _, rfl, _, rfl, p, _, rfl, S, by decide, by decide, fun d5 H5 a5 b5 B5 S5 => ?_⟩
      refine rdItem abc36_len a5 (by omega) (by decide) fun c hc => ?_
      refine ⟨_, _, rfl, rfl, ?_, ?_⟩
      · rw [len_one]
        exact Nat.le_trans (show z.length + 1 ≤ 100 by omega) (by decide)
      · refine ⟨_, _, rfl, ?_, hp.app (fun d hd => ?_), B.trans B5, S5⟩
        · rw [len_app, len_one]
          omega
        · have e : d = c := by simpa using hd
          rw [e]
          exact abc_any hc
    · rintro σ H4 ⟨z, v, rfl, hz, hp, B, S⟩
      refine ⟨_, rfl, rfl, _, rfl, ?_⟩
      refine ite2 (fun _ => ?_) (fun _ => ?_)
      · refine ⟨by show 4 ≤ sizeLine; decide, fun l nl => ?_⟩
        have nlq := st_free S nl
        refine ⟨_, rfl, p, _, rfl, S.upd nlq, by decide, by decide, fun d6 H6 a6 b6 B6 S6 => ?_⟩
        have hq : ∀ z ∈ (["m1", "m2", "m3", "m10"] : List Str), (∃ c cs, z.cps.toList = c :: cs ∧ (97 ≤ c ∧ c ≤ 122) ∧ ∀ d ∈ cs, (97 ≤ d ∧ d ≤ 122) ∨ (48 ≤ d ∧ d ≤ 57)) ∧ z.length ≤ 4 := by
          intro z hz
          rcases List.mem_cons.mp hz with e | hz
          · rw [e]; exact ⟨⟨109, [49], by decide +kernel, by decide, by decide⟩, by decide +kernel⟩
          rcases List.mem_cons.mp hz with e | hz
          · rw [e]; exact ⟨⟨109, [50], by decide +kernel, by decide, by decide⟩, by decide +kernel⟩
          rcases List.mem_cons.mp hz with e | hz
          · rw [e]; exact ⟨⟨109, [51], by decide +kernel, by decide, by decide⟩, by decide +kernel⟩
          rcases List.mem_cons.mp hz with e | hz
          · rw [e]; exact ⟨⟨109, [49, 48], by decide +kernel, by decide, by decide⟩, by decide +kernel⟩
          cases hz
        have hj : d6.toNat < (["m1", "m2", "m3", "m10"] : List Str).length := by show _ < 4; omega
        refine rdList (B6 l _ nlq upd_same) (j := d6.toNat) (v := .str ((["m1", "m2", "m3", "m10"] : List Str)[d6.toNat])) (by omega) ?_ ?_
        · have e : ((["m1", "m2", "m3", "m10"] : List Str).map V.str)[d6.toNat]? = some (.str ((["m1", "m2", "m3", "m10"] : List Str)[d6.toNat])) := by
            rw [List.getElem?_map, List.getElem?_eq_getElem hj]
            rfl
          exact e
        · have hh := hq _ (List.getElem_mem hj)
          generalize (["m1", "m2", "m3", "m10"] : List Str)[d6.toNat] = zz at hh
          have hzz : NmP zz := hh.1
          have hzl : zz.length ≤ 4 := hh.2
          have BB : But p H H6 := (but_new B nlq ((B.free nlq nl))).trans B6
          have SS : StOk H6 p := S6
          clear hh hq hj B6 S6 B S hz hp nl
          revert zz
          intro zz hzz hzl
          refine ⟨_, rfl, ?_⟩
          have hTT : H6 ln = some (.lst (taken.map V.str)) := BB ln _ nlp hT
          refine while_by (fun σ H' => H' = H6 ∧ ∃ n : Nat, σ = [some (.ref p), some (.ref ln), some (.str ABC36), some (.int d1), some (.str zz), v, some (.str (tryS zz n)), some (.int (n : Int))] ∧ n ≤ 60 ∧ ∀ i, i < n → tryS zz i ∈ taken) (fun σ _ => mu7 σ)
            ⟨rfl, 0, rfl, Nat.zero_le _, fun i hi => absurd hi (Nat.not_lt_zero i)⟩ ?_ ?_
          · rintro σ H' ⟨rfl, n, rfl, hn, hall⟩
            refine ⟨_, rfl, _, rfl, ln, _, rfl, .inl (SqL.of hTT), rfl, flats taken, _, rfl, ?_⟩
            show if inV (.str (tryS zz n)) (taken.map V.str) = true then _ else _
            rw [inV_strs]
            by_cases hm : tryS zz n ∈ taken
            · rw [decide_eq_true hm]
              refine iteT ?_
              have hall' : ∀ i, i < n + 1 → tryS zz i ∈ taken := fun i hi => by
                by_cases e : i = n
                · rw [e]
                  exact hm
                · exact hall i (by omega)
              have hle := try_end hl hall' (by omega)
              refine ⟨_, rfl, _, _, rfl, rfl, ?_⟩
              refine ⟨_, rfl, _, rfl, _, rfl, log_small (by omega), _, _, rfl, rfl, ?_, ?_⟩
              · have q := num_sign (n := n + 1) (by omega)
                exact Nat.le_trans (show zz.length + (numS (n + 1)).length ≤ 100 by omega) (by decide)
              · refine ⟨⟨rfl, n + 1, rfl, by omega, hall'⟩, ?_⟩
                show 100 - ((n : Int) + 1).toNat < 100 - (n : Int).toNat
                omega
            · rw [decide_eq_false hm]
              refine iteF ?_
              exact ⟨_, rfl, k _ _ (try_nm hzz hzl hn).1 (try_nm hzz hzl hn).2 hm BB SS⟩
          · intro σ H' Q1 Q2 f h
            obtain ⟨x, e1, y, e2, p', xs, e3, a, b, c, bb, e4, q⟩ := h
            exact ⟨x, e1, y, e2, p', xs, e3, a, b, c, bb, e4, f _ _ q⟩
      · have hzz : NmP z := hp
        have hzl : z.length ≤ 4 := by omega
        have BB : But p H H4 := B
        have SS : StOk H4 p := S
        refine ⟨_, rfl, ?_⟩
        have hTT : H4 ln = some (.lst (taken.map V.str)) := BB ln _ nlp hT
        refine while_by (fun σ H' => H' = H4 ∧ ∃ n : Nat, σ = [some (.ref p), some (.ref ln), some (.str ABC36), some (.int d1), some (.str z), v, some (.str (tryS z n)), some (.int (n : Int))] ∧ n ≤ 60 ∧ ∀ i, i < n → tryS z i ∈ taken) (fun σ _ => mu7 σ)
          ⟨rfl, 0, rfl, Nat.zero_le _, fun i hi => absurd hi (Nat.not_lt_zero i)⟩ ?_ ?_
        · rintro σ H' ⟨rfl, n, rfl, hn, hall⟩
          refine ⟨_, rfl, _, rfl, ln, _, rfl, .inl (SqL.of hTT), rfl, flats taken, _, rfl, ?_⟩
          show if inV (.str (tryS z n)) (taken.map V.str) = true then _ else _
          rw [inV_strs]
          by_cases hm : tryS z n ∈ taken
          · rw [decide_eq_true hm]
            refine iteT ?_
            have hall' : ∀ i, i < n + 1 → tryS z i ∈ taken := fun i hi => by
              by_cases e : i = n
              · rw [e]
                exact hm
              · exact hall i (by omega)
            have hle := try_end hl hall' (by omega)
            refine ⟨_, rfl, _, _, rfl, rfl, ?_⟩
            refine ⟨_, rfl, _, rfl, _, rfl, log_small (by omega), _, _, rfl, rfl, ?_, ?_⟩
            · have q := num_sign (n := n + 1) (by omega)
              exact Nat.le_trans (show z.length + (numS (n + 1)).length ≤ 100 by omega) (by decide)
            · refine ⟨⟨rfl, n + 1, rfl, by omega, hall'⟩, ?_⟩
              show 100 - ((n : Int) + 1).toNat < 100 - (n : Int).toNat
              omega
          · rw [decide_eq_false hm]
            refine iteF ?_
            exact ⟨_, rfl, k _ _ (try_nm hzz hzl hn).1 (try_nm hzz hzl hn).2 hm BB SS⟩
        · intro σ H' Q1 Q2 f h
          obtain ⟨x, e1, y, e2, p', xs, e3, a, b, c, bb, e4, q⟩ := h
          exact ⟨x, e1, y, e2, p', xs, e3, a, b, c, bb, e4, f _ _ q⟩
theorem scNms : FnScope ["_law_s", "_law_many", "_law_found", "_law_k"] ["_law_s", "_law_many"] (defScope sNms) := ⟨rfl, rfl, rfl, by decide +kernel, rfl, by decide +kernel, by decide +kernel⟩
theorem ok_nms {f fL : Addr} {fd dL : FuncData} (F : Fun K "_law_names" "_law_names" sNms f fd) (T : TxB mg) (D : Dn K mg "_law_name" sNam ["_law_s", "_law_taken"] fL dL) (G : FnOk P w K mg base CX0 2 fL dL ["_law_s", "_law_taken"] spNam) : FnOk P w K mg base CX0 3 f fd ["_law_s", "_law_many"] spNms := by
  refine F.ok scNms (fun vs H Q E h => ?_) (fun cdv A outer s H vs Q E hr h => ?_)
  · obtain ⟨p, n, rfl, _⟩ := h
    rfl
  · obtain ⟨p, n, rfl, hS, n0, n6, k⟩ := h
    refine ⟨_, (pss_cons (ps_set (i := 2) scNms.nd rfl (Or.inl rfl) (pe_lst pa_nil))
      (pss_cons (ps_for PassesOwn.never rfl (pi_range1 rfl T.range (pa_cons (pv 1) pa_nil)) (pg_name (i := 3) scNms.nd rfl (Or.inl rfl)) (pss_one (ps_expr (pe_bm PySem.F.plainAttrs_list PySem.F.slot_list_append PySem.F.type_list_append mt_append (pv 2) (pa_cons (pe_call G hr rfl D.g D.F.kp D.b .nil pass0 (pa_cons (pv 0) (pa_cons (pv 2) pa_nil))) pa_nil)))))
      (pss_one (ps_ret (pv 2))))), ?_⟩
    refine ⟨Nat.zero_le _, fun d hd => ?_⟩
    have ndp := st_free hS hd
    refine ⟨_, rfl, n, rfl, by omega, by omega, ?_⟩
    refine for_range (n := n.toNat) (fun i σ H' => (∃ u, σ = [some (.ref p), some (.int n), some (.ref d), u]) ∧ ∃ zs : List Str, H' d = some (.lst (zs.map V.str)) ∧ zs.Nodup ∧ (∀ z ∈ zs, NmP z ∧ z.length ≤ 6) ∧ zs.length = i ∧ But p H H' ∧ StOk H' p)
      ⟨⟨none, rfl⟩, [], upd_same, List.nodup_nil, fun z hz => (List.not_mem_nil hz).elim, rfl, but_new (But.refl p H) ndp hd, hS.upd ndp⟩ ?_ ?_
    · rintro i σ H1 hi ⟨⟨u, rfl⟩, zs, hl, nd, nm, len, B, S⟩
      refine ⟨_, rfl, .inl ⟨rfl, _, SqL.of hl⟩, _, rfl, _, rfl, p, d, zs, rfl, S, ndp, hl, by omega, fun z H2 hz hz6 hm B2 S2 => ?_⟩
      have hl2 := B2 d _ ndp hl
      refine ⟨d, _, _, rfl, rfl, hl2, ?_, ?_⟩
      · rw [List.length_map]
        exact Nat.lt_of_le_of_lt (show _ ≤ 1000 by omega) (by decide)
      · refine ⟨⟨_, rfl⟩, zs ++ [z], ?_, ?_, ?_, ?_, but_new (B.trans B2) ndp hd, S2.upd ndp⟩
        · rw [upd_same, List.map_append]
          rfl
        · rw [List.nodup_append]
          exact ⟨nd, (by simp : [z].Nodup), fun a ha b hb e => by
            have eb : b = z := by simpa using hb
            rw [e, eb] at ha
            exact hm ha⟩
        · intro y hy
          rcases List.mem_append.mp hy with hy | hy
          · exact nm y hy
          · rw [List.mem_singleton.mp hy]
            exact ⟨hz, hz6⟩
        · rw [List.length_append, List.length_singleton]
          omega
    · rintro σ H1 ⟨⟨u, rfl⟩, zs, hl, nd, nm, len, B, S⟩
      exact ⟨_, rfl, k zs d H1 hd ndp B S hl len nd nm⟩
end
end Wm
namespace Wm
open PySem L2 StX
def makF (mk md : Str) (t1 t2 : Addr) : List (Str × V) := putF "up" (.ref t2) (putF "down" (.ref t1) (putF "made" (.str md) (putF "maker" (.str mk) [])))
theorem nm1 : ¬ (("maker" : Str) = "up") := by decide +kernel
theorem nm2 : ¬ (("maker" : Str) = "down") := by decide +kernel
theorem nm3 : ¬ (("maker" : Str) = "made") := by decide +kernel
theorem nm4 : ¬ (("made" : Str) = "up") := by decide +kernel
theorem nm5 : ¬ (("made" : Str) = "down") := by decide +kernel
theorem nm6 : ¬ (("down" : Str) = "up") := by decide +kernel
theorem makF_maker (mk md : Str) (t1 t2 : Addr) : (makF mk md t1 t2).lookup ("maker" : Str) = some (.str mk) := by
  unfold makF
  rw [lookup_putF, if_neg nm1, lookup_putF, if_neg nm2, lookup_putF, if_neg nm3, lookup_putF, if_pos rfl]
theorem makF_made (mk md : Str) (t1 t2 : Addr) : (makF mk md t1 t2).lookup ("made" : Str) = some (.str md) := by
  unfold makF
  rw [lookup_putF, if_neg nm4, lookup_putF, if_neg nm5, lookup_putF, if_pos rfl]
theorem makF_down (mk md : Str) (t1 t2 : Addr) : (makF mk md t1 t2).lookup ("down" : Str) = some (.ref t1) := by
  unfold makF
  rw [lookup_putF, if_neg nm6, lookup_putF, if_pos rfl]
theorem makF_up (mk md : Str) (t1 t2 : Addr) : (makF mk md t1 t2).lookup ("up" : Str) = some (.ref t2) := by
  unfold makF
  rw [lookup_putF, if_pos rfl]
structure TxMak (K : PySem.W.Frag) (mg : Str → Option Value) (B fB : Addr) : Prop where
  cl : Cls K B
  nk : NoAttr K B "maker"
  nd : NoAttr K B "made"
  nw : NoAttr K B "down"
  nu : NoAttr K B "up"
  g : mg "Making" = some (.ref B)
  m : Mk K B fB
def spMak (K : PySem.W.Frag) (C B : Addr) : Sp := fun vs H Q E => ∃ (H0 : Hp) (x dx l1 l2 : Addr) (mk md : Str) (ds us : List Str), vs = [.ref x, .str mk, .str md, .ref l1, .ref l2] ∧ Same H0 H ∧ H0 x = none ∧ H x = some (.ins B dx []) ∧
  SqL K H0 l1 (ds.map V.str) ∧ SqL K H0 l2 (us.map V.str) ∧ ds.length ≤ 100 ∧ us.length ≤ 100 ∧ NoTw (ds.map V.str) ∧ NoTw (us.map V.str) ∧ (∀ z ∈ mk :: md :: (ds ++ us), z.length ≤ 1000) ∧
  DueM C (mk :: md :: (ds ++ us)) H0 (fun H' => ∀ t1 t2, H' x = some (.ins B dx (makF mk md t1 t2)) → H' t1 = some (.tup (ds.map V.str)) → H' t2 = some (.tup (us.map V.str)) → Q .non H') E
section
variable {P : Program} {w : World} {K : PySem.W.Frag} {mg : Str → Option Value} {base : Heap}
theorem scMak : FnScope ["self", "maker", "made", "down", "up"] ["self", "maker", "made", "down", "up"] (defScope sMak) := ⟨rfl, rfl, rfl, by decide +kernel, rfl, by decide +kernel, by decide +kernel⟩
theorem ok_mak {f fRN fRT C B : Addr} {fd dRN dRT : FuncData} (F : Fun K "__init__" "Making.__init__" sMak f fd) (T : TxB mg) (TM : TxMak K mg B f) (RN : Dn K mg "refuse_no_name" sRN ["texts"] fRN dRN) (RT : Dn K mg "refuse_twice" sRT ["names"] fRT dRT)
    (GRN : FnOk P w K mg base (L2.CX P w) 4 fRN dRN ["texts"] (spRN K C)) (GRT : FnOk P w K mg base CX0 2 fRT dRT ["names"] (spFT K)) : FnOk P w K mg base (L2.CX P w) 5 f fd ["self", "maker", "made", "down", "up"] (spMak K C B) := by
  refine F.okX scMak (fun vs H Q E h => ?_) (fun cdv A outer s H vs Q E hr h => ?_)
  · obtain ⟨H0, x, dx, l1, l2, mk, md, ds, us, rfl, _⟩ := h
    rfl
  · obtain ⟨H0, x, dx, l1, l2, mk, md, ds, us, rfl, S0, x0, hx, h1, h2, n1, n2, w1, w2, hz, k⟩ := h
    have hr2 : Room 2 _ := hr.mono (by decide)
    have Sx : ∀ {H1 : Hp} {o : HO}, Same H0 H1 → Same H0 (upd H1 x o) := fun hs b o e => by
      rw [upd_ne (ne_of_none e x0)]
      exact hs b o e
    refine ⟨_, (pss_cons (ps_fld (pv 0) (pv 1) rfl)
      (pss_cons (ps_fld (pv 0) (pv 2) rfl)
      (pss_cons (ps_fld (pv 0) (pe_callTy call_tupN (by rfl) T.tuple (by decide +kernel) (pa_cons (pv 3) pa_nil)) rfl)
      (pss_cons (ps_fld (pv 0) (pe_callTy call_tupN (by rfl) T.tuple (by decide +kernel) (pa_cons (pv 4) pa_nil)) rfl)
      (pss_cons (ps_expr (pe_call GRN hr rfl RN.g RN.F.kp RN.b .nil (passes_call (takes_of rfl rfl rfl rfl) (fun _ _ _ _ h => h)) (pa_cons (pe_lst (pa_cons (pv 1) (pa_cons (pv 2) (pa_star (pe_fld (pv 0) rfl) (pa_star (pe_fld (pv 0) rfl) pa_nil))))) pa_nil)))
      (pss_cons (ps_expr (pe_call GRT hr2 rfl RT.g RT.F.kp RT.b .nil pass0 (pa_cons (pe_fld (pv 0) rfl) pa_nil)))
      (pss_one (ps_expr (pe_call GRT hr2 rfl RT.g RT.F.kp RT.b .nil pass0 (pa_cons (pe_fld (pv 0) rfl) pa_nil)))))))))), ?_⟩
    refine ⟨_, rfl, _, rfl, x, B, dx, [], rfl, hx, TM.cl, TM.nk, (by show 0 < 1000; decide), ?_⟩
    have S1 := Sx (o := .ins B dx (putF "maker" (.str mk) [])) S0
    refine ⟨_, rfl, _, rfl, x, B, dx, _, rfl, upd_same, TM.cl, TM.nd, Nat.lt_of_le_of_lt (putF_len _ _ _) (by decide), ?_⟩
    rw [upd_upd]
    have S2 := Sx (o := .ins B dx (putF "made" (.str md) (putF "maker" (.str mk) []))) S0
    have few2 : (putF "made" (.str md) (putF "maker" (.str mk) [])).length ≤ 10 := Nat.le_trans (putF_len _ _ _) (Nat.le_trans (Nat.succ_le_succ (putF_len _ _ _)) (by decide))
    -- self.down = tuple(down)
    refine ⟨_, rfl, l1, _, rfl, .inl ⟨S2.seq h1, fun t1 ht1 => ?_⟩⟩
    have n1x : t1 ≠ x := fun z => by
      rw [z, upd_same] at ht1
      cases ht1
    refine ⟨_, rfl, x, B, dx, _, rfl, Eq.trans (upd_ne n1x.symm) upd_same, TM.cl, TM.nw, Nat.lt_of_le_of_lt few2 (by decide), ?_⟩
    generalize hH3 : upd (upd (upd H x (.ins B dx (putF "made" (.str md) (putF "maker" (.str mk) [])))) t1 (.tup (ds.map V.str))) x (.ins B dx (putF "down" (.ref t1) (putF "made" (.str md) (putF "maker" (.str mk) [])))) = H3
    have S3 : Same H0 H3 := by
      rw [← hH3]
      exact Sx (S2.trans (Same.upd ht1))
    have hx3 : H3 x = some (.ins B dx (putF "down" (.ref t1) (putF "made" (.str md) (putF "maker" (.str mk) [])))) := by rw [← hH3, upd_same]
    have h13 : H3 t1 = some (.tup (ds.map V.str)) := by rw [← hH3, upd_ne n1x, upd_same]
    -- self.up = tuple(up)
    refine ⟨_, rfl, l2, _, rfl, .inl ⟨S3.seq h2, fun t2 ht2 => ?_⟩⟩
    have n2x : t2 ≠ x := (ne_of_none hx3 ht2).symm
    have n21 : t2 ≠ t1 := (ne_of_none h13 ht2).symm
    refine ⟨_, rfl, x, B, dx, _, rfl, Eq.trans (upd_ne n2x.symm) hx3, TM.cl, TM.nu, Nat.lt_of_le_of_lt (Nat.le_trans (putF_len _ _ _) (Nat.succ_le_succ few2)) (by decide), ?_⟩
    show _
    generalize hH4 : upd (upd H3 t2 (.tup (us.map V.str))) x (.ins B dx (putF "up" (.ref t2) (putF "down" (.ref t1) (putF "made" (.str md) (putF "maker" (.str mk) []))))) = H4
    have S4 : Same H0 H4 := by
      rw [← hH4]
      exact Sx (S3.trans (Same.upd ht2))
    have hx4 : H4 x = some (.ins B dx (makF mk md t1 t2)) := by rw [← hH4, upd_same]; rfl
    have h14 : H4 t1 = some (.tup (ds.map V.str)) := by rw [← hH4, upd_ne n1x, upd_ne n21.symm]; exact h13
    have h24 : H4 t2 = some (.tup (us.map V.str)) := by rw [← hH4, upd_ne n2x, upd_same]
    -- refuse_no_name([maker, made, *self.down, *self.up])
    refine ⟨_, rfl, _, rfl, _, rfl, x, B, dx, _, _, rfl, hx4, TM.cl, TM.nw, makF_down _ _ _ _, t1, _, rfl, .inl (SqT.of h14), _, rfl, x, B, dx, _, _, rfl, hx4, TM.cl, TM.nu, makF_up _ _ _ _, t2, _, rfl, .inl (SqT.of h24), ?_, fun l hl => ?_⟩
    · show (V.str mk :: V.str md :: (ds.map V.str ++ (us.map V.str ++ []))).length ≤ sizeLine
      rw [List.append_nil, List.length_cons, List.length_cons, List.length_append, List.length_map, List.length_map]
      exact Nat.le_trans (show _ ≤ 1000 by omega) (by decide)
    have el : V.str mk :: V.str md :: (ds.map V.str ++ (us.map V.str ++ [])) = (mk :: md :: (ds ++ us)).map V.str := by
      rw [List.append_nil, List.map_cons, List.map_cons, List.map_append]
    have S5 := S4.trans (Same.upd (o := .lst (V.str mk :: V.str md :: (ds.map V.str ++ (us.map V.str ++ [])))) hl)
    refine ⟨l, mk :: md :: (ds ++ us), rfl, SqL.of (by rw [upd_same, ← el]), ?_, hz, ?_⟩
    · rw [List.length_cons, List.length_cons, List.length_append]
      omega
    refine k.toN S5 fun hn H6 hS6 => ?_
    have hx6 := hS6 _ _ (Same.upd (o := .lst (V.str mk :: V.str md :: (ds.map V.str ++ (us.map V.str ++ [])))) hl _ _ hx4)
    have h16 := hS6 _ _ (Same.upd (o := .lst (V.str mk :: V.str md :: (ds.map V.str ++ (us.map V.str ++ [])))) hl _ _ h14)
    have h26 := hS6 _ _ (Same.upd (o := .lst (V.str mk :: V.str md :: (ds.map V.str ++ (us.map V.str ++ [])))) hl _ _ h24)
    refine ⟨_, rfl, x, B, dx, _, _, rfl, hx6, TM.cl, TM.nw, makF_down _ _ _ _, t1, _, rfl, .inr (SqT.of h16), flat_strs _, w1, fun H7 hS7 => ?_⟩
    refine ⟨_, rfl, x, B, dx, _, _, rfl, hS7 _ _ hx6, TM.cl, TM.nu, makF_up _ _ _ _, t2, _, rfl, .inr (SqT.of (hS7 _ _ h26)), flat_strs _, w2, fun H8 hS8 => ?_⟩
    unfold DueM at k
    rw [hn] at k
    exact k H8 (S5.trans (hS6.trans (hS7.trans hS8))) t1 t2 (hS8 _ _ (hS7 _ _ hx6)) (hS8 _ _ (hS7 _ _ h16)) (hS8 _ _ (hS7 _ _ h26))
end
end Wm
namespace Wm
open PySem L2 StX
theorem strOk_of {z : Str} (h : okS z) : PyData.strOk z = true := by
  unfold PyData.strOk
  rw [Array.all_eq_true_iff_forall_mem]
  intro c hc
  exact decide_eq_true (h c (by simpa using hc))
/-! ### rows of objects -/
def AllAt {α : Type} (R : Addr → α → Prop) : List Addr → List α → Prop
  | [], [] => True
  | a :: as, x :: xs => R a x ∧ AllAt R as xs
  | _, _ => False
theorem AllAt.imp {α : Type} {R R' : Addr → α → Prop} (h : ∀ a x, R a x → R' a x) : ∀ {as : List Addr} {xs : List α}, AllAt R as xs → AllAt R' as xs
  | [], [], _ => True.intro
  | _ :: _, _ :: _, q => ⟨h _ _ q.1, AllAt.imp h q.2⟩
  | [], _ :: _, q => q.elim
  | _ :: _, [], q => q.elim
theorem AllAt.len {α : Type} {R : Addr → α → Prop} : ∀ {as : List Addr} {xs : List α}, AllAt R as xs → as.length = xs.length
  | [], [], _ => rfl
  | _ :: _, _ :: _, q => congrArg (· + 1) (AllAt.len q.2)
  | [], _ :: _, q => q.elim
  | _ :: _, [], q => q.elim
theorem AllAt.get {α : Type} {R : Addr → α → Prop} : ∀ {as : List Addr} {xs : List α} {j : Nat} {y : V}, AllAt R as xs → (as.map V.ref)[j]? = some y → ∃ a x, y = .ref a ∧ xs[j]? = some x ∧ R a x
  | a :: as, x :: xs, 0, y, h, e => ⟨a, x, (Option.some.inj e).symm, rfl, h.1⟩
  | a :: as, x :: xs, j + 1, y, h, e => by
    obtain ⟨a', x', p, q, r⟩ := AllAt.get (j := j) h.2 (by simpa using e)
    exact ⟨a', x', p, by simpa using q, r⟩
  | [], _, _, _, _, e => by simp at e
  | _ :: _, [], _, _, h, _ => h.elim
theorem AllAt.append {α : Type} {R : Addr → α → Prop} : ∀ {as bs : List Addr} {xs ys : List α}, AllAt R as xs → AllAt R bs ys → AllAt R (as ++ bs) (xs ++ ys)
  | [], _, [], _, _, q => q
  | _ :: _, _, _ :: _, _, h, q => ⟨h.1, AllAt.append h.2 q⟩
  | [], _, _ :: _, _, h, _ => h.elim
  | _ :: _, _, [], _, h, _ => h.elim
structure MkD where
  mr : Str
  md : Str
  dn : List Str
  up : List Str
structure PtD where
  nm : Str
  vars : List Var
  cs : List Tri
structure RlD where
  p : PtD
  g : Tri
  bh : Str
def MkAt (K : PySem.W.Frag) (B : Addr) (H : Hp) (a : Addr) (m : MkD) : Prop := ∃ d t1 t2, H a = some (.ins B d (makF m.mr m.md t1 t2)) ∧ SqT K H t1 (m.dn.map V.str) ∧ SqT K H t2 (m.up.map V.str)
def BrAt (K : PySem.W.Frag) (B : Addr) (H : Hp) (a : Addr) (b : PtD) : Prop := ∃ d t1 t2 ps qs, H a = some (.ins B d (barF b.nm t1 t2)) ∧ SqT K H t1 (ps.map V.ref) ∧ RowsAt K H ps (b.vars.map varV) ∧ SqT K H t2 (qs.map V.ref) ∧ RowsAt K H qs (b.cs.map triV)
def RlAt (K : PySem.W.Frag) (B : Addr) (H : Hp) (a : Addr) (r : RlD) : Prop := ∃ d t1 t2 t3 ps qs, H a = some (.ins B d (rulF r.p.nm t1 t2 t3 r.bh)) ∧ SqT K H t1 (ps.map V.ref) ∧ RowsAt K H ps (r.p.vars.map varV) ∧ SqT K H t2 (qs.map V.ref) ∧ RowsAt K H qs (r.p.cs.map triV) ∧ SqT K H t3 (triV r.g)
theorem MkAt.same {K : PySem.W.Frag} {B : Addr} {H H' : Hp} {a : Addr} {m : MkD} (s : Same H H') (h : MkAt K B H a m) : MkAt K B H' a m := by
  obtain ⟨d, t1, t2, x, y, z⟩ := h
  exact ⟨d, t1, t2, s _ _ x, same_seqT s y, same_seqT s z⟩
theorem BrAt.same {K : PySem.W.Frag} {B : Addr} {H H' : Hp} {a : Addr} {b : PtD} (s : Same H H') (h : BrAt K B H a b) : BrAt K B H' a b := by
  obtain ⟨d, t1, t2, ps, qs, x, y, z, u, v⟩ := h
  exact ⟨d, t1, t2, ps, qs, s _ _ x, same_seqT s y, z.same s, same_seqT s u, v.same s⟩
theorem RlAt.same {K : PySem.W.Frag} {B : Addr} {H H' : Hp} {a : Addr} {r : RlD} (s : Same H H') (h : RlAt K B H a r) : RlAt K B H' a r := by
  obtain ⟨d, t1, t2, t3, ps, qs, x, y, z, u, v, w⟩ := h
  exact ⟨d, t1, t2, t3, ps, qs, s _ _ x, same_seqT s y, z.same s, same_seqT s u, v.same s, same_seqT s w⟩
/-! ### pairs that do not stand twice -/
def prV (p : Str × Str) : List V := [.str p.1, .str p.2]
def prD (p : Str × Str) : PyData := .tuple [.str p.1, .str p.2]
theorem prD_eqv (a b : Str × Str) : PyData.eqv (prD a) (prD b) = decide (a = b) := by
  obtain ⟨a1, a2⟩ := a
  obtain ⟨b1, b2⟩ := b
  simp only [prD, PyData.eqv, PyData.eqvAll, Prod.mk.injEq]
  by_cases h1 : a1 = b1 <;> by_cases h2 : a2 = b2 <;> simp [h1, h2]
theorem u65 {k : Nat} {A : Around} (r : Room k A) : A.units + 65 < cLine := by
  have := r.un
  omega
theorem prs_dp {K : PySem.W.Frag} {H : Hp} : ∀ {qs : List Addr} {ps : List (Str × Str)}, RowsAt K H qs (ps.map prV) → DpAll K H (qs.map V.ref) (ps.map prD)
  | [], [], _ => .nil
  | _ :: _, _ :: _, h => .cons (.tup h.1 (.cons (.str _) (.cons (.str _) .nil))) (prs_dp h.2)
  | [], _ :: _, h => h.elim
  | _ :: _, [], h => h.elim
theorem prs_sh : ∀ {ps : List (Str × Str)}, (∀ p ∈ ps, okS p.1 ∧ okS p.2) → PyData.canLayAll0 (ps.map prD) = true ∧ PyData.depthAll (ps.map prD) ≤ 2
  | [], _ => by simp [PyData.canLayAll0, PyData.depthAll]
  | p :: r, h => by
    obtain ⟨a, b⟩ := h p List.mem_cons_self
    obtain ⟨h2, h3⟩ := prs_sh (ps := r) fun y hy => h y (List.mem_cons_of_mem _ hy)
    have sa := strOk_of a
    have sb := strOk_of b
    have e : (prD p).canLay0 = true := by simp [prD, PyData.canLay0, PyData.canLayAll0, sa, sb]
    have d : (prD p).depth ≤ 2 := by simp [prD, PyData.depth, PyData.depthAll]
    refine ⟨by simp only [List.map_cons, PyData.canLayAll0, e, h2, Bool.and_self], ?_⟩
    simp only [List.map_cons, PyData.depthAll]
    omega
theorem rows_imp {K : PySem.W.Frag} {H H' : Hp} (s : ∀ {q : Addr} {xs : List V}, SqT K H q xs → SqT K H' q xs) : ∀ {ps : List Addr} {rs : List (List V)}, RowsAt K H ps rs → RowsAt K H' ps rs
  | [], [], _ => True.intro
  | _ :: _, _ :: _, h => ⟨s h.1, rows_imp s h.2⟩
  | [], _ :: _, h => h.elim
  | _ :: _, [], h => h.elim
def spFT2 (K : PySem.W.Frag) : Sp := fun vs H Q _ => ∃ (l : Addr) (qs : List Addr) (ps : List (Str × Str)), vs = [.ref l] ∧ SqL K H l (qs.map V.ref) ∧ RowsAt K H qs (ps.map prV) ∧ ps.Nodup ∧ (∀ p ∈ ps, okS p.1 ∧ okS p.2) ∧ ∀ H', Same H H' → Q .non H'
def spRMT (K : PySem.W.Frag) (B : Addr) : Sp := fun vs H Q _ => ∃ (m : Addr) (as : List Addr) (ms : List MkD), vs = [.ref m] ∧ SqL K H m (as.map V.ref) ∧ AllAt (MkAt K B H) as ms ∧ ms.length ≤ 1000 ∧ (ms.map fun x => (x.mr, x.md)).Nodup ∧ (∀ x ∈ ms, okS x.mr ∧ okS x.md) ∧ ∀ H', Same H H' → Q .non H'
section
variable {P : Program} {w : World} {K : PySem.W.Frag} {mg : Str → Option Value} {base : Heap}
theorem ok_ft2 {f : Addr} {fd : FuncData} (F : Fun K "first_twice" "first_twice" sFT f fd) (T : TxB mg) : FnOk P w K mg base CX0 1 f fd ["row"] (spFT2 K) := by
  refine F.ok scFT (fun vs H Q E h => ?_) (fun cdv A outer s H vs Q E hr h => ?_)
  · obtain ⟨l, qs, ps, rfl, _⟩ := h
    rfl
  · obtain ⟨l, qs, ps, rfl, hl, hq, hnd, hok, k⟩ := h
    refine ⟨_, (pss_cons (ps_for PassesOwn.never rfl (pi_enum rfl T.enumerate (pa_cons (pv 0) pa_nil)) (pg_tup rfl (pgs_cons (pg_name (i := 1) scFT.nd rfl (Or.inl rfl)) (pgs_cons (pg_name (i := 2) scFT.nd rfl (Or.inl rfl)) pgs_nil))) (pss_one (ps_if (pt_cmpR (op_inD (u65 hr)) (pv 2) (pe_slice sl_list (pv 0) po_none (po_some (pv 1))) (by rfl)) (pss_one (ps_ret (pv 1))) pss_nil)))
      (pss_one (ps_ret pe_non))), ?_⟩
    refine ⟨_, rfl, l, _, rfl, hl, for_it walk_enum (fun i σ H' => (∃ u v, σ = [some (.ref l), u, v]) ∧ Same H H') ⟨⟨none, none, rfl⟩, Same.refl H⟩ (fun i σ H' _ p => p.2.seq hl) ?_ ?_⟩
    · rintro i x σ H1 H2 hi ⟨⟨u, v, rfl⟩, hS⟩ ⟨t, y, z, rfl, ht, rfl, e1, e2⟩
      cases e1
      refine ⟨t, _, rfl, SqT.of upd_same, rfl, _, _, rfl, _, _, rfl, rfl, ?_⟩
      have S2 := hS.trans (Same.upd (o := .tup [.int (i : Nat), z]) ht)
      have e2 : (qs.map V.ref)[i]? = some z := e2
      rw [List.getElem?_map] at e2
      obtain ⟨q, hqi, rfl⟩ := Option.map_eq_some_iff.mp e2
      obtain ⟨r, hri, hqt⟩ := hq.get hqi
      rw [List.getElem?_map] at hri
      obtain ⟨p, hpi, rfl⟩ := Option.map_eq_some_iff.mp hri
      refine ⟨_, rfl, _, rfl, _, rfl, _, rfl, l, _, rfl, S2.seq hl, fun c hc => ?_⟩
      rw [show cutV (qs.map V.ref) none (some (i : Int)) = (qs.take i).map V.ref by rw [cut_take, List.map_take]]
      have S3 := S2.trans (Same.upd (o := .lst ((qs.take i).map V.ref)) hc)
      have hrow : RowsAt K (upd (upd H1 t (.tup [.int (i : Nat), .ref q])) c (.lst ((qs.take i).map V.ref))) (qs.take i) ((ps.take i).map prV) := by
        have e := (hq.same S3).take i
        rw [← List.map_take] at e
        exact e
      obtain ⟨l1, l2⟩ := prs_sh (ps := ps.take i) fun p hp => hok p (List.mem_of_mem_take hp)
      have shl : SeqAt.shaped (.list ((ps.take i).map prD)) = true := by
        generalize (ps.take i).map prD = X at l1 l2
        simp [SeqAt.shaped, PyData.canLay0, PyData.depth, l1]
        omega
      have shp : SeqAt.shaped (prD p) = true := by
        obtain ⟨a, b⟩ := hok p (List.mem_of_getElem? hpi)
        have sa := strOk_of a
        have sb := strOk_of b
        simp [prD, SeqAt.shaped, PyData.canLay0, PyData.canLayAll0, PyData.depth, PyData.depthAll, sa, sb]
      refine ⟨prD p, _, .tup (same_seqT S3 hqt) (.cons (.str _) (.cons (.str _) .nil)), .lst (SqL.of upd_same) (prs_dp hrow), shp, shl, _, rfl, ?_⟩
      have no : ((ps.take i).map prD).any (fun z => PyData.eqv z (prD p)) = false := by
        rw [List.any_map, List.any_eq_false]
        intro y hy
        show ¬ PyData.eqv (prD y) (prD p) = true
        rw [prD_eqv]
        intro e
        have e := of_decide_eq_true e
        subst e
        obtain ⟨j, hj⟩ := List.mem_iff_getElem?.mp hy
        have hlt : j < i := by
          have q := (List.getElem?_eq_some_iff.mp hj).1
          rw [List.length_take] at q
          omega
        rw [List.getElem?_take_of_lt hlt] at hj
        have hjl := (List.getElem?_eq_some_iff.mp hj).1
        have hil := (List.getElem?_eq_some_iff.mp hpi).1
        exact (List.pairwise_iff_getElem.mp hnd) j i hjl hil hlt ((List.getElem?_eq_some_iff.mp hj).2.trans (List.getElem?_eq_some_iff.mp hpi).2.symm)
      rw [no]
      exact iteF ⟨⟨_, _, rfl⟩, S3⟩
    · rintro σ H' ⟨_, hS⟩
      exact k H' hS
theorem scRMT : FnScope ["makings", "pairs", "place", "making"] ["makings"] (defScope sRMT) := ⟨rfl, rfl, rfl, by decide +kernel, rfl, by decide +kernel, by decide +kernel⟩
theorem ok_rmt {f fF B fB : Addr} {fd fdF : FuncData} (F : Fun K "refuse_makings_twice" "refuse_makings_twice" sRMT f fd) (T : TxB mg) (TM : TxMak K mg B fB) (D : Dn K mg "first_twice" sFT ["row"] fF fdF) : FnOk P w K mg base CX0 2 f fd ["makings"] (spRMT K B) := by
  have G : FnOk P w K mg base CX0 1 fF fdF ["row"] (spFT2 K) := ok_ft2 D.F T
  refine F.ok scRMT (fun vs H Q E h => ?_) (fun cdv A outer s H vs Q E hr h => ?_)
  · obtain ⟨m, as, ms, rfl, _⟩ := h
    rfl
  · obtain ⟨m, as, ms, rfl, hm, hms, hl, hnd, hok, k⟩ := h
    refine ⟨_, (pss_cons (ps_setLc (i := 1) (own := [("making", 3)]) (g := gName 3) (te := tTup (tCons (tFld K (tVar 3) "maker") (tCons (tFld K (tVar 3) "made") tNil))) rfl scRMT.nd rfl rfl (sw_true rfl rfl rfl (by decide +kernel)) (pi_list (pv 0)) (blkOk_by (N := ["makings", "pairs", "place", "making"]) (sc := defScope sRMT) (by decide +kernel)) (fun _ _ _ _ _ => (pg_name (i := 3) scRMT.nd rfl (Or.inl rfl))) (fun _ _ _ _ _ => pts_nil) (fun _ _ _ _ _ => (pe_tup (pa_cons (pe_fld (pv 3) rfl) (pa_cons (pe_fld (pv 3) rfl) pa_nil)))))
      (pss_cons (ps_set (i := 2) scRMT.nd rfl (Or.inl rfl) (pe_call G hr rfl D.g D.F.kp D.b .nil pass0 (pa_cons (pv 1) pa_nil)))
      (pss_one (ps_if (pt_cmp (pc_notN (pv 2))) (pss_one ps_never) pss_nil)))), ?_⟩
    refine ⟨_, rfl, m, rfl, ⟨_, hm⟩, fun D' hD => ?_⟩
    refine lc_list (K := K) (a := m) (xs := as.map V.ref) (fun i H' => Same H H' ∧ ∃ qs : List Addr, H' D' = some (.lst (qs.map V.ref)) ∧ qs.length = i ∧ RowsAt K H' qs (((ms.map fun x => (x.mr, x.md)).take i).map prV)) ⟨Same.upd hD, [], upd_same, rfl, True.intro⟩ (fun i H' _ p => p.1.seq hm) ?_ ?_
    · rintro i x H' hi ⟨hS, qs, hq, hql, hrow⟩
      obtain ⟨a, y, rfl, hy, hat⟩ := hms.get hi
      obtain ⟨d, t1, t2, ha, _, _⟩ := MkAt.same hS hat
      refine ⟨rfl, ?_⟩
      refine ⟨_, rfl, a, B, d, _, _, rfl, ha, TM.cl, TM.nk, makF_maker _ _ _ _, ?_⟩
      refine ⟨_, rfl, a, B, d, _, _, rfl, ha, TM.cl, TM.nd, makF_made _ _ _ _, ?_⟩
      refine ⟨by show 2 ≤ sizeLine; decide, fun t ht => ?_⟩
      have nt : t ≠ D' := (ne_of_none hq ht).symm
      have il : i < ms.length := (List.getElem?_eq_some_iff.mp hy).1
      refine ⟨_, Same.upd ht _ _ hq, ?_, ?_, qs ++ [t], ?_, ?_, ?_⟩
      · rw [List.length_map]
        exact Nat.lt_of_le_of_lt (show qs.length ≤ 1000 by omega) (by decide)
      · intro b o h
        rw [upd_ne (ne_of_none h hD)]
        exact Same.upd ht _ _ (hS b o h)
      · rw [upd_same, List.map_append]
        rfl
      · rw [List.length_append, List.length_singleton]
        omega
      · rw [List.take_add_one, List.getElem?_map, hy, List.map_append]
        have B' : But D' (upd H' t (.tup [.str y.mr, .str y.md])) (upd (upd H' t (.tup [.str y.mr, .str y.md])) D' (.lst (qs.map V.ref ++ [.ref t]))) := But.upd
        have keep : ∀ {q : Addr} {xs : List V}, SqT K (upd H' t (.tup [.str y.mr, .str y.md])) q xs → SqT K (upd (upd H' t (.tup [.str y.mr, .str y.md])) D' (.lst (qs.map V.ref ++ [.ref t]))) q xs := fun {q xs} h => by
          have hp : (upd H' t (.tup [.str y.mr, .str y.md])) D' = some (.lst (qs.map V.ref)) := Same.upd ht _ _ hq
          rcases h with (h | ⟨u, h⟩) | h
          · exact .inl (.inl (B' _ _ (ne_of h hp (by intro z; cases z)) h))
          · exact .inl (.inr ⟨u, B' _ _ (ne_of h hp (by intro z; cases z)) h⟩)
          · exact .inr h
        have r1 : RowsAt K (upd H' t (.tup [.str y.mr, .str y.md])) (qs ++ [t]) (((ms.map fun x => (x.mr, x.md)).take i).map prV ++ [prV (y.mr, y.md)]) := (hrow.same (Same.upd ht)).append ⟨SqT.of upd_same, True.intro⟩
        exact rows_imp keep r1
    · rintro H' ⟨hS, qs, hq, hql, hrow⟩
      rw [List.length_map, hms.len] at hql
      rw [List.length_map, hms.len, List.take_of_length_le (by rw [List.length_map]; exact Nat.le_refl _)] at hrow
      dsimp only [List.set_cons_succ, List.set_cons_zero]
      refine ⟨_, rfl, D', qs, _, rfl, SqL.of hq, hrow, hnd, fun p hp => ?_, fun H2 S2 => ?_⟩
      · obtain ⟨x, hx, rfl⟩ := List.mem_map.mp hp
        exact hok x hx
      · refine ⟨_, rfl, _, rfl, ?_⟩
        exact iteF (k _ (hS.trans S2))
end
end Wm
namespace Wm
open PySem L2 StX
/-- what a pattern's variables are, be it a rule or a bar -/
def PvAt (K : PySem.W.Frag) (H : Hp) (a : Addr) (vars : List Var) : Prop := ∃ C d fs t1 ps, H a = some (.ins C d fs) ∧ Cls K C ∧ NoAttr K C "variables" ∧ fs.lookup ("variables" : Str) = some (.ref t1) ∧ SqT K H t1 (ps.map V.ref) ∧ RowsAt K H ps (vars.map varV)
theorem PvAt.same {K : PySem.W.Frag} {H H' : Hp} {a : Addr} {v : List Var} (s : Same H H') (h : PvAt K H a v) : PvAt K H' a v := by
  obtain ⟨C, d, fs, t1, ps, a1, a2, a3, a4, a5, a6⟩ := h
  exact ⟨C, d, fs, t1, ps, s _ _ a1, a2, a3, a4, same_seqT s a5, a6.same s⟩
def spRNS (K : PySem.W.Frag) (B : Addr) : Sp := fun vs H Q _ => ∃ (s m p : Addr) (ss : List Str) (as bs : List Addr) (ms : List MkD) (vv : List (List Var)), vs = [.ref s, .ref m, .ref p] ∧ SqL K H s (ss.map V.str) ∧ SqL K H m (as.map V.ref) ∧ AllAt (MkAt K B H) as ms ∧ SqL K H p (bs.map V.ref) ∧ AllAt (PvAt K H) bs vv ∧ ms.length ≤ 1000 ∧ vv.length ≤ 1000 ∧ (∀ v ∈ vv, v.length ≤ 4) ∧ (∀ x ∈ ms, x.mr ∈ ss ∧ x.md ∈ ss) ∧ (∀ v ∈ vv, ∀ y ∈ v, ∀ z, y.2 = some z → z ∈ ss) ∧ ∀ H', Same H H' → Q .non H'
def spRU (K : PySem.W.Frag) (B : Addr) : Sp := fun vs H Q _ => ∃ (s m : Addr) (ss : List Str) (as : List Addr) (ms : List MkD), vs = [.ref s, .ref m] ∧ SqL K H s (ss.map V.str) ∧ SqL K H m (as.map V.ref) ∧ AllAt (MkAt K B H) as ms ∧ ss.Nodup ∧ (∀ x ∈ ms, ∃ i j : Nat, i < j ∧ ss[i]? = some x.mr ∧ ss[j]? = some x.md) ∧ Q .non H
theorem flat_of (zs : List Str) : (zs.map V.str).all flatV = true := by
  rw [List.all_map]
  exact List.all_eq_true.mpr fun _ _ => rfl
theorem idx_first {ss : List Str} {i m : Nat} {x z : Str} (nd : ss.Nodup) (hi : ss[i]? = some x) (hm : m < i) (hz : ss[m]? = some z) : eqV (.str z) (.str x) = false := by
  have hne : z ≠ x := fun e => by
    subst e
    have a := List.getElem?_eq_some_iff.mp hi
    have b := List.getElem?_eq_some_iff.mp hz
    exact (List.pairwise_iff_getElem.mp nd) m i b.1 a.1 hm (b.2.trans a.2.symm)
  unfold eqV
  simp [hne]
section
variable {P : Program} {w : World} {K : PySem.W.Frag} {mg : Str → Option Value} {base : Heap}
theorem scRU : FnScope ["sorts", "makings", "making"] ["sorts", "makings"] (defScope sRU) := ⟨rfl, rfl, rfl, by decide +kernel, rfl, by decide +kernel, by decide +kernel⟩
theorem ok_ru {f B fB : Addr} {fd : FuncData} (F : Fun K "refuse_upward" "refuse_upward" sRU f fd) (TM : TxMak K mg B fB) : FnOk P w K mg base CX0 1 f fd ["sorts", "makings"] (spRU K B) := by
  refine F.ok scRU (fun vs H Q E h => ?_) (fun cdv A outer s H vs Q E hr h => ?_)
  · obtain ⟨s, m, ss, as, ms, rfl, _⟩ := h
    rfl
  · obtain ⟨s, m, ss, as, ms, rfl, hs, hm, hms, nd, hx, k⟩ := h
    refine ⟨_, (pss_one (ps_for PassesOwn.never rfl (pi_list (pv 1)) (pg_name (i := 2) scRU.nd rfl (Or.inl rfl)) (pss_one (ps_if (pt_cmpR op_le (pe_bm PySem.F.plainAttrs_list PySem.F.slot_list_index PySem.F.type_list_index mt_index (pv 0) (pa_cons (pe_fld (pv 2) rfl) pa_nil)) (pe_bm PySem.F.plainAttrs_list PySem.F.slot_list_index PySem.F.type_list_index mt_index (pv 0) (pa_cons (pe_fld (pv 2) rfl) pa_nil)) (nomark _)) (pss_one ps_never) pss_nil)))), ?_⟩
    refine ⟨_, rfl, m, rfl, ⟨_, hm⟩, for_list (K := K) (a := m) (xs := as.map V.ref) (fun i σ H' => (∃ v, σ = [some (.ref s), some (.ref m), v]) ∧ H' = H) ⟨⟨none, rfl⟩, rfl⟩ (fun i σ H' _ p => by rw [p.2]; exact hm) ?_ (fun σ H' p => by rw [p.2]; exact k)⟩
    rintro i y σ H' hi ⟨⟨v, rfl⟩, rfl⟩
    obtain ⟨a, x, rfl, hxi, hat⟩ := hms.get hi
    obtain ⟨d, t1, t2, ha, _, _⟩ := hat
    obtain ⟨p, q, hpq, hp, hq⟩ := hx x (List.mem_of_getElem? hxi)
    have gp : (ss.map V.str)[p]? = some (.str x.mr) := by rw [List.getElem?_map, hp]; rfl
    have gq : (ss.map V.str)[q]? = some (.str x.md) := by rw [List.getElem?_map, hq]; rfl
    have first : ∀ {n : Nat} {z0 : Str}, ss[n]? = some z0 → ∀ (m : Nat) (z' : V), m < n → (ss.map V.str)[m]? = some z' → eqV z' (.str z0) = false := fun {n z0} hn m z' hm hz => by
      rw [List.getElem?_map] at hz
      obtain ⟨z, hz2, rfl⟩ := Option.map_eq_some_iff.mp hz
      exact idx_first nd hn hm hz2
    dsimp only [gName, List.set_cons_succ, List.set_cons_zero]
    refine ⟨_, rfl, .inl ⟨rfl, _, hs⟩, _, rfl, a, B, d, _, _, rfl, ha, TM.cl, TM.nd, makF_made _ _ _ _, ?_⟩
    refine ⟨s, _, .str x.md, q, .str x.md, rfl, rfl, hs, rfl, flat_of ss, gq, by unfold eqV; simp, first hq, ?_⟩
    refine ⟨_, rfl, .inl ⟨rfl, _, hs⟩, _, rfl, a, B, d, _, _, rfl, ha, TM.cl, TM.nk, makF_maker _ _ _ _, ?_⟩
    refine ⟨s, _, .str x.mr, p, .str x.mr, rfl, rfl, hs, rfl, flat_of ss, gp, by unfold eqV; simp, first hp, ?_⟩
    refine ⟨_, _, rfl, rfl, _, rfl, ?_⟩
    exact ite2 (fun z => absurd (of_decide_eq_true z) (by omega)) (fun _ => ⟨⟨_, rfl⟩, rfl⟩)
theorem scRNS : FnScope ["sorts", "makings", "patterns", "asked", "making", "pattern", "name", "variable", "sort"] ["sorts", "makings", "patterns"] (defScope sRNS) := ⟨rfl, rfl, rfl, by decide +kernel, rfl, by decide +kernel, by decide +kernel⟩
theorem ok_rns {f B fB : Addr} {fd : FuncData} (F : Fun K "refuse_no_sort" "refuse_no_sort" sRNS f fd) (TM : TxMak K mg B fB) : FnOk P w K mg base CX0 1 f fd ["sorts", "makings", "patterns"] (spRNS K B) := by
  refine F.ok scRNS (fun vs H Q E h => ?_) (fun cdv A outer s H vs Q E hr h => ?_)
  · obtain ⟨s, m, p, ss, as, bs, ms, vv, rfl, _⟩ := h
    rfl
  · obtain ⟨s, m, p, ss, as, bs, ms, vv, rfl, hs, hm, hms, hp, hvv, ml, vl, v4, hx, hy, k⟩ := h
    refine ⟨_, (pss_cons (ps_set (i := 3) scRNS.nd rfl (Or.inl rfl) (pe_lst pa_nil))
      (pss_cons (ps_for PassesOwn.never rfl (pi_list (pv 1)) (pg_name (i := 4) scRNS.nd rfl (Or.inl rfl)) (pss_one (ps_expr (pe_bm PySem.F.plainAttrs_list PySem.F.slot_list_extend PySem.F.type_list_extend mt_extend (pv 3) (pa_cons (pe_lst (pa_cons (pe_fld (pv 4) rfl) (pa_cons (pe_fld (pv 4) rfl) pa_nil))) pa_nil)))))
      (pss_cons (ps_for PassesOwn.never rfl (pi_list (pv 2)) (pg_name (i := 5) scRNS.nd rfl (Or.inl rfl)) (pss_one (ps_expr (pe_bm PySem.F.plainAttrs_list PySem.F.slot_list_extend PySem.F.type_list_extend mt_extend (pv 3) (pa_cons (pe_lc (own := [("variable", 7), ("sort", 8)]) (g := gTup K 2 (gCons (gName 7) (gCons (gName 8) gNil))) rfl scRNS.nd (pi_tup (pe_fld (pv 5) rfl)) (blkOk_by (N := ["sorts", "makings", "patterns", "asked", "making", "pattern", "name", "variable", "sort"]) (sc := defScope sRNS) (by decide +kernel)) (fun _ _ _ _ _ => (pg_tup rfl (pgs_cons (pg_name (i := 7) scRNS.nd rfl (Or.inl rfl)) (pgs_cons (pg_name (i := 8) scRNS.nd rfl (Or.inl rfl)) pgs_nil)))) (fun _ _ _ _ _ => (pts_one (pt_cmp (pc_notN (pv 8))))) (fun _ _ _ _ _ => (pv 8))) pa_nil)))))
      (pss_one (ps_for PassesOwn.never rfl (pi_list (pv 3)) (pg_name (i := 6) scRNS.nd rfl (Or.inl rfl)) (pss_one (ps_if (pt_cmpR op_notIn_seq (pv 6) (pv 0) (by rfl)) (pss_one ps_never) pss_nil))))))), ?_⟩
    refine ⟨Nat.zero_le _, fun d hd => ?_⟩
    dsimp only [List.set_cons_succ, List.set_cons_zero]
    have Sd : ∀ {H1 : Hp} {o : HO}, Same H H1 → Same H (upd H1 d o) := fun hs b o e => by
      rw [upd_ne (ne_of_none e hd)]
      exact hs b o e
    have S0 : Same H (upd H d (.lst [])) := Same.upd hd
    refine ⟨_, rfl, m, rfl, ⟨_, S0.seq hm⟩, for_list (K := K) (a := m) (xs := as.map V.ref) (fun i σ H' => (∃ v, σ = [some (.ref s), some (.ref m), some (.ref p), some (.ref d), v, none, none, none, none]) ∧ Same H H' ∧ ∃ zs : List Str, H' d = some (.lst (zs.map V.str)) ∧ zs.length ≤ 2 * i ∧ ∀ z ∈ zs, z ∈ ss) ⟨⟨none, rfl⟩, S0, [], upd_same, Nat.le_refl _, fun z hz => (List.not_mem_nil hz).elim⟩ (fun i σ H' _ p => p.2.1.seq hm) ?_ ?_⟩
    · rintro i y σ H' hi ⟨⟨v, rfl⟩, hS, zs, hz, zl, zo⟩
      obtain ⟨a, x, rfl, hxi, hat⟩ := hms.get hi
      obtain ⟨d', t1, t2, ha, _, _⟩ := MkAt.same hS hat
      have il : i < ms.length := (List.getElem?_eq_some_iff.mp hxi).1
      have ox := hx x (List.mem_of_getElem? hxi)
      dsimp only [gName, List.set_cons_succ, List.set_cons_zero]
      refine ⟨_, rfl, .inl ⟨rfl, _, SqL.of hz⟩, _, rfl, a, B, d', _, _, rfl, ha, TM.cl, TM.nk, makF_maker _ _ _ _, _, rfl, a, B, d', _, _, rfl, ha, TM.cl, TM.nd, makF_made _ _ _ _, by show 2 ≤ sizeLine; decide, fun l2 nl2 => ?_⟩
      refine ⟨d, l2, _, _, rfl, rfl, Same.upd nl2 _ _ hz, upd_same, ?_, ⟨_, rfl⟩, Sd (hS.trans (Same.upd nl2)), zs ++ [x.mr, x.md], ?_, ?_, ?_⟩
      · rw [List.length_map]
        exact Nat.le_trans (show zs.length + 2 ≤ 10000 by omega) (by decide)
      · rw [upd_same, List.map_append]
        rfl
      · rw [List.length_append]
        show zs.length + 2 ≤ _
        omega
      · intro z hzm
        rcases List.mem_append.mp hzm with q | q
        · exact zo z q
        · rcases List.mem_cons.mp q with e | q
          · rw [e]; exact ox.1
          · rw [List.mem_singleton.mp q]; exact ox.2
    rintro σ H1 ⟨⟨v, rfl⟩, hS1, zs, hz, zl, zo⟩
    rw [List.length_map, hms.len] at zl
    refine ⟨_, rfl, p, rfl, ⟨_, hS1.seq hp⟩, for_list (K := K) (a := p) (xs := bs.map V.ref) (fun i σ H' => (∃ v u, σ = [some (.ref s), some (.ref m), some (.ref p), some (.ref d), v, u, none, none, none]) ∧ Same H H' ∧ ∃ zs : List Str, H' d = some (.lst (zs.map V.str)) ∧ zs.length ≤ 2 * ms.length + 4 * i ∧ ∀ z ∈ zs, z ∈ ss) ⟨⟨_, none, rfl⟩, hS1, zs, hz, by omega, zo⟩ (fun i σ H' _ p => p.2.1.seq hp) ?_ ?_⟩
    · rintro i y σ H' hi ⟨⟨v, u, rfl⟩, hS, zs, hz, zl, zo⟩
      obtain ⟨a, x, rfl, hxi, hat⟩ := hvv.get hi
      obtain ⟨C, d', fs, t1, ps, ha, hc, hn, hlk, ht, hrow⟩ := PvAt.same hS hat
      have il : i < vv.length := (List.getElem?_eq_some_iff.mp hxi).1
      have xm := List.mem_of_getElem? hxi
      have x4 := v4 x xm
      dsimp only [gName, List.set_cons_succ, List.set_cons_zero]
      refine ⟨_, rfl, .inl ⟨rfl, _, SqL.of hz⟩, _, rfl, a, C, d', _, _, rfl, ha, hc, hn, hlk, t1, rfl, ⟨_, ht⟩, fun D hD => ?_⟩
      have ndD : d ≠ D := ne_of_none hz hD
      refine lc_it walk_tup (fun j G => Same H' G ∧ ∃ us : List Str, G D = some (.lst (us.map V.str)) ∧ us.length ≤ j ∧ ∀ z ∈ us, z ∈ ss) ⟨Same.upd hD, [], upd_same, Nat.le_refl _, fun z hz => (List.not_mem_nil hz).elim⟩ (fun j G _ p => same_seqT p.1 ht) ?_ ?_
      · rintro j x' G G' hj ⟨hSG, us, hu, ul, uo⟩ ⟨rfl, hxj⟩
        obtain ⟨q, hqj, rfl⟩ := map_ref_get hxj
        obtain ⟨r, hrj, hqr⟩ := hrow.get hqj
        obtain ⟨⟨n, so⟩, hvj, rfl⟩ := var_get hrj
        have jl : j < x.length := (List.getElem?_eq_some_iff.mp hvj).1
        refine ⟨q, _, rfl, same_seqT hSG hqr, rfl, _, _, rfl, _, _, rfl, rfl, rfl, ?_⟩
        cases so with
        | none =>
          refine ⟨_, rfl, _, rfl, ?_⟩
          refine iteF ?_
          exact ⟨hSG, us, hu, by omega, uo⟩
        | some z =>
          refine ⟨_, rfl, _, rfl, ?_⟩
          refine iteT ?_
          refine ⟨_, rfl, _, hu, ?_, ?_, us ++ [z], ?_, ?_, ?_⟩
          · rw [List.length_map]
            exact Nat.lt_of_le_of_lt (show us.length ≤ 100 by omega) (by decide)
          · intro b o h
            rw [upd_ne (ne_of_none h hD)]
            exact hSG b o h
          · rw [upd_same, List.map_append]
            rfl
          · rw [List.length_append, List.length_singleton]
            omega
          · intro y hyy
            rcases List.mem_append.mp hyy with q | q
            · exact uo y q
            · rw [List.mem_singleton.mp q]
              exact hy x xm (n, some z) (List.mem_of_getElem? hvj) z rfl
      · rintro G ⟨hSG, us, hu, ul, uo⟩
        have ul4 : us.length ≤ 4 := by
          rw [List.length_map, hrow.len, List.length_map] at ul
          omega
        refine ⟨d, D, _, _, rfl, rfl, hSG _ _ hz, hu, ?_, ⟨_, _, rfl⟩, Sd (hS.trans hSG), zs ++ us, ?_, ?_, ?_⟩
        · rw [List.length_map, List.length_map]
          exact Nat.le_trans (show zs.length + us.length ≤ 10000 by omega) (by decide)
        · rw [upd_same, List.map_append]
        · rw [List.length_append]
          omega
        · intro z hzm
          rcases List.mem_append.mp hzm with q | q
          · exact zo z q
          · exact uo z q
    rintro σ H2 ⟨⟨v, u, rfl⟩, hS2, zs, hz, zl, zo⟩
    refine ⟨_, rfl, d, rfl, ⟨_, SqL.of hz⟩, for_list (K := K) (a := d) (xs := zs.map V.str) (fun i σ H' => (∃ v u t, σ = [some (.ref s), some (.ref m), some (.ref p), some (.ref d), v, u, t, none, none]) ∧ H' = H2) ⟨⟨_, _, none, rfl⟩, rfl⟩ (fun i σ H' _ p => by rw [p.2]; exact SqL.of hz) ?_ (fun σ H' p => by rw [p.2]; exact k _ hS2)⟩
    rintro i y σ H' hi ⟨⟨v, u, t, rfl⟩, rfl⟩
    rw [List.getElem?_map] at hi
    obtain ⟨z, hzi, rfl⟩ := Option.map_eq_some_iff.mp hi
    dsimp only [gName, List.set_cons_succ, List.set_cons_zero]
    refine ⟨_, rfl, _, rfl, s, _, rfl, .inl (hS2.seq hs), rfl, flat_of ss, _, rfl, ?_⟩
    show if (!inV (.str z) (ss.map V.str)) = true then _ else _
    rw [inV_strs, decide_eq_true (zo z (List.mem_of_getElem? hzi))]
    exact iteF ⟨⟨_, _, _, rfl⟩, rfl⟩
end
end Wm
namespace Wm
open PySem L2 StX
def spRNW (K : PySem.W.Frag) (MB RB BB : Addr) : Sp := fun vs H Q _ => ∃ (w m r b : Addr) (ws : List Str) (as bs cs : List Addr) (ms : List MkD) (rs : List RlD) (ps : List PtD), vs = [.ref w, .ref m, .ref r, .ref b] ∧ SqL K H w (ws.map V.str) ∧ SqL K H m (as.map V.ref) ∧ AllAt (MkAt K MB H) as ms ∧ SqL K H r (bs.map V.ref) ∧ AllAt (RlAt K RB H) bs rs ∧ SqL K H b (cs.map V.ref) ∧ AllAt (BrAt K BB H) cs ps ∧
  ms.length ≤ 1000 ∧ rs.length ≤ 1000 ∧ ps.length ≤ 1000 ∧ (∀ x ∈ ms, x.dn.length ≤ 100 ∧ x.up.length ≤ 100) ∧ (∀ x ∈ rs, x.p.cs.length ≤ 3) ∧ (∀ x ∈ ps, x.cs.length ≤ 3) ∧ (∀ x ∈ ms, (∀ z ∈ x.dn, z ∈ ws) ∧ ∀ z ∈ x.up, z ∈ ws) ∧ (∀ x ∈ rs, (∀ t ∈ x.p.cs, t.2.1 ∈ ws) ∧ x.g.2.1 ∈ ws) ∧ (∀ x ∈ ps, ∀ t ∈ x.cs, t.2.1 ∈ ws) ∧ ∀ H', Same H H' → Q .non H'
section
variable {P : Program} {w : World} {K : PySem.W.Frag} {mg : Str → Option Value} {base : Heap}
theorem scRNW : FnScope ["words", "makings", "rules", "bars", "asked", "making", "rule", "bar", "name", "x", "word", "y"] ["words", "makings", "rules", "bars"] (defScope sRNW) := ⟨rfl, rfl, rfl, by decide +kernel, rfl, by decide +kernel, by decide +kernel⟩
theorem ok_rnw {f MB fM RB fR BB fB : Addr} {fd : FuncData} (F : Fun K "refuse_no_word" "refuse_no_word" sRNW f fd) (TM : TxMak K mg MB fM) (TR : TxRul K mg RB fR) (TB : TxBar K mg BB fB) : FnOk P w K mg base CX0 1 f fd ["words", "makings", "rules", "bars"] (spRNW K MB RB BB) := by
  refine F.ok scRNW (fun vs H Q E h => ?_) (fun cdv A outer s H vs Q E hr h => ?_)
  · obtain ⟨w, m, r, b, ws, as, bs, cs, ms, rs, ps, rfl, _⟩ := h
    rfl
  · obtain ⟨w, m, r, b, ws, as, bs, cs, ms, rs, ps, rfl, hw, hm, hms, hr', hrs, hb, hps, ml, rl, pl, m1, r1, p1, mo, ro, po, k⟩ := h
    refine ⟨_, (pss_cons (ps_set (i := 4) scRNW.nd rfl (Or.inl rfl) (pe_lst pa_nil))
      (pss_cons (ps_for PassesOwn.never rfl (pi_list (pv 1)) (pg_name (i := 5) scRNW.nd rfl (Or.inl rfl)) (pss_one (ps_expr (pe_bm PySem.F.plainAttrs_list PySem.F.slot_list_extend PySem.F.type_list_extend mt_extend (pv 4) (pa_cons (pe_lst (pa_star (pe_fld (pv 5) rfl) (pa_star (pe_fld (pv 5) rfl) pa_nil))) pa_nil)))))
      (pss_cons (ps_for PassesOwn.never rfl (pi_list (pv 2)) (pg_name (i := 6) scRNW.nd rfl (Or.inl rfl)) (pss_one (ps_expr (pe_bm PySem.F.plainAttrs_list PySem.F.slot_list_extend PySem.F.type_list_extend mt_extend (pv 4) (pa_cons (pe_lc (own := [("x", 9), ("word", 10), ("y", 11)]) (g := gTup K 3 (gCons (gName 9) (gCons (gName 10) (gCons (gName 11) gNil)))) rfl scRNW.nd (pi_list (pe_lst (pa_star (pe_fld (pv 6) rfl) (pa_cons (pe_fld (pv 6) rfl) pa_nil)))) (blkOk_by (N := ["words", "makings", "rules", "bars", "asked", "making", "rule", "bar", "name", "x", "word", "y"]) (sc := defScope sRNW) (by decide +kernel)) (fun _ _ _ _ _ => (pg_tup rfl (pgs_cons (pg_name (i := 9) scRNW.nd rfl (Or.inl rfl)) (pgs_cons (pg_name (i := 10) scRNW.nd rfl (Or.inl rfl)) (pgs_cons (pg_name (i := 11) scRNW.nd rfl (Or.inl rfl)) pgs_nil))))) (fun _ _ _ _ _ => pts_nil) (fun _ _ _ _ _ => (pv 10))) pa_nil)))))
      (pss_cons (ps_for PassesOwn.never rfl (pi_list (pv 3)) (pg_name (i := 7) scRNW.nd rfl (Or.inl rfl)) (pss_one (ps_expr (pe_bm PySem.F.plainAttrs_list PySem.F.slot_list_extend PySem.F.type_list_extend mt_extend (pv 4) (pa_cons (pe_lc (own := [("x", 9), ("word", 10), ("y", 11)]) (g := gTup K 3 (gCons (gName 9) (gCons (gName 10) (gCons (gName 11) gNil)))) rfl scRNW.nd (pi_tup (pe_fld (pv 7) rfl)) (blkOk_by (N := ["words", "makings", "rules", "bars", "asked", "making", "rule", "bar", "name", "x", "word", "y"]) (sc := defScope sRNW) (by decide +kernel)) (fun _ _ _ _ _ => (pg_tup rfl (pgs_cons (pg_name (i := 9) scRNW.nd rfl (Or.inl rfl)) (pgs_cons (pg_name (i := 10) scRNW.nd rfl (Or.inl rfl)) (pgs_cons (pg_name (i := 11) scRNW.nd rfl (Or.inl rfl)) pgs_nil))))) (fun _ _ _ _ _ => pts_nil) (fun _ _ _ _ _ => (pv 10))) pa_nil)))))
      (pss_one (ps_for PassesOwn.never rfl (pi_list (pv 4)) (pg_name (i := 8) scRNW.nd rfl (Or.inl rfl)) (pss_one (ps_if (pt_cmpR op_notIn_seq (pv 8) (pv 0) (by rfl)) (pss_one ps_never) pss_nil)))))))), ?_⟩
    refine ⟨Nat.zero_le _, fun d hd => ?_⟩
    dsimp only [List.set_cons_succ, List.set_cons_zero]
    have Sd : ∀ {H1 : Hp} {o : HO}, Same H H1 → Same H (upd H1 d o) := fun hs b o e => by
      rw [upd_ne (ne_of_none e hd)]
      exact hs b o e
    have S0 : Same H (upd H d (.lst [])) := Same.upd hd
    -- the words of the makings
    refine ⟨_, rfl, m, rfl, ⟨_, S0.seq hm⟩, for_list (K := K) (a := m) (xs := as.map V.ref) (fun i σ H' => (∃ v, σ = [some (.ref w), some (.ref m), some (.ref r), some (.ref b), some (.ref d), v, none, none, none, none, none, none]) ∧ Same H H' ∧ ∃ zs : List Str, H' d = some (.lst (zs.map V.str)) ∧ zs.length ≤ 200 * i ∧ ∀ z ∈ zs, z ∈ ws) ⟨⟨none, rfl⟩, S0, [], upd_same, Nat.le_refl _, fun z hz => (List.not_mem_nil hz).elim⟩ (fun i σ H' _ p => p.2.1.seq hm) ?_ ?_⟩
    · rintro i y σ H' hi ⟨⟨v, rfl⟩, hS, zs, hz, zl, zo⟩
      obtain ⟨a, x, rfl, hxi, hat⟩ := hms.get hi
      obtain ⟨d', t1, t2, ha, ht1, ht2⟩ := MkAt.same hS hat
      have il : i < ms.length := (List.getElem?_eq_some_iff.mp hxi).1
      have xm := List.mem_of_getElem? hxi
      have x1 := m1 x xm
      have xo := mo x xm
      dsimp only [gName, List.set_cons_succ, List.set_cons_zero]
      refine ⟨_, rfl, .inl ⟨rfl, _, SqL.of hz⟩, _, rfl, a, MB, d', _, _, rfl, ha, TM.cl, TM.nw, makF_down _ _ _ _, t1, _, rfl, .inl ht1, _, rfl, a, MB, d', _, _, rfl, ha, TM.cl, TM.nu, makF_up _ _ _ _, t2, _, rfl, .inl ht2, ?_⟩
      show (x.dn.map V.str ++ (x.up.map V.str ++ [])).length ≤ sizeLine ∧ _
      rw [show (x.dn.map V.str ++ (x.up.map V.str ++ [])) = (x.dn ++ x.up).map V.str by rw [List.append_nil, List.map_append]]
      refine ⟨Nat.le_trans (show _ ≤ 1000 by rw [List.length_map, List.length_append]; omega) (by decide), fun l2 nl2 => ?_⟩
      refine ⟨d, l2, _, _, rfl, rfl, Same.upd nl2 _ _ hz, upd_same, ?_, ⟨_, rfl⟩, Sd (hS.trans (Same.upd nl2)), zs ++ (x.dn ++ x.up), ?_, ?_, ?_⟩
      · rw [List.length_map, List.length_map, List.length_append]
        exact Nat.le_trans (show _ ≤ 1000000 by omega) (by decide)
      · rw [upd_same]
        simp
      · rw [List.length_append, List.length_append]
        omega
      · intro z hzm
        rcases List.mem_append.mp hzm with q | q
        · exact zo z q
        · rcases List.mem_append.mp q with q | q
          · exact xo.1 z q
          · exact xo.2 z q
    rintro σ H1 ⟨⟨v, rfl⟩, hS1, zs, hz, zl, zo⟩
    rw [List.length_map, hms.len] at zl
    -- those of the rules
    refine ⟨_, rfl, r, rfl, ⟨_, hS1.seq hr'⟩, for_list (K := K) (a := r) (xs := bs.map V.ref) (fun i σ H' => (∃ v u, σ = [some (.ref w), some (.ref m), some (.ref r), some (.ref b), some (.ref d), v, u, none, none, none, none, none]) ∧ Same H H' ∧ ∃ zs : List Str, H' d = some (.lst (zs.map V.str)) ∧ zs.length ≤ 200 * ms.length + 4 * i ∧ ∀ z ∈ zs, z ∈ ws) ⟨⟨_, none, rfl⟩, hS1, zs, hz, by omega, zo⟩ (fun i σ H' _ p => p.2.1.seq hr') ?_ ?_⟩
    · rintro i y σ H' hi ⟨⟨v, u, rfl⟩, hS, zs, hz, zl, zo⟩
      obtain ⟨a, x, rfl, hxi, hat⟩ := hrs.get hi
      obtain ⟨d', t1, t2, t3, us, qs, ha, ht1, hu, ht2, hq, ht3⟩ := RlAt.same hS hat
      have il : i < rs.length := (List.getElem?_eq_some_iff.mp hxi).1
      have xm := List.mem_of_getElem? hxi
      have x1 := r1 x xm
      have xo := ro x xm
      have ql : qs.length = x.p.cs.length := by rw [hq.len, List.length_map]
      dsimp only [gName, List.set_cons_succ, List.set_cons_zero]
      refine ⟨_, rfl, .inl ⟨rfl, _, SqL.of hz⟩, _, rfl, a, RB, d', _, _, rfl, ha, TR.cl, TR.nc, rulF_cond _ _ _ _ _, t2, _, rfl, .inl ht2, _, rfl, a, RB, d', _, _, rfl, ha, TR.cl, TR.ng, rulF_gives _ _ _ _ _, ?_⟩
      show (qs.map V.ref ++ [V.ref t3]).length ≤ sizeLine ∧ _
      rw [show (qs.map V.ref ++ [V.ref t3]) = (qs ++ [t3]).map V.ref by rw [List.map_append]; rfl]
      refine ⟨Nat.le_trans (show _ ≤ 1000 by rw [List.length_map, List.length_append, List.length_singleton]; omega) (by decide), fun l2 nl2 => ?_⟩
      have S2 : Same H' (upd H' l2 (.lst ((qs ++ [t3]).map V.ref))) := Same.upd nl2
      have e2 : (upd H' l2 (.lst ((qs ++ [t3]).map V.ref))) l2 = some (.lst ((qs ++ [t3]).map V.ref)) := upd_same
      have rows : RowsAt K (upd H' l2 (.lst ((qs ++ [t3]).map V.ref))) (qs ++ [t3]) ((x.p.cs ++ [x.g]).map triV) := by
        have e : (x.p.cs ++ [x.g]).map triV = x.p.cs.map triV ++ [triV x.g] := by rw [List.map_append]; rfl
        rw [e]
        exact (hq.same S2).append (show RowsAt K _ [t3] [triV x.g] from ⟨same_seqT S2 ht3, True.intro⟩)
      generalize upd H' l2 (.lst ((qs ++ [t3]).map V.ref)) = G2 at S2 e2 rows
      refine ⟨l2, rfl, ⟨_, SqL.of e2⟩, fun D hD => ?_⟩
      refine lc_it walk_list (fun j G => Same G2 G ∧ G D = some (.lst ((((x.p.cs ++ [x.g]).take j).map (·.2.1)).map V.str))) ⟨Same.upd hD, upd_same⟩ (fun j G _ p => p.1.seq (SqL.of e2)) ?_ ?_
      · rintro j x' G G' hj ⟨hSG, hu'⟩ ⟨rfl, hxj⟩
        obtain ⟨q, hqj, rfl⟩ := map_ref_get hxj
        obtain ⟨rr, hrj, hqr⟩ := rows.get hqj
        obtain ⟨t, htj, rfl⟩ := tri_get hrj
        have jl : j < (x.p.cs ++ [x.g]).length := (List.getElem?_eq_some_iff.mp htj).1
        refine ⟨q, _, rfl, same_seqT hSG hqr, rfl, _, _, rfl, _, _, rfl, _, _, rfl, rfl, rfl, ?_⟩
        refine ⟨_, rfl, _, hu', ?_, ?_, ?_⟩
        · rw [List.length_map, List.length_map, List.length_take]
          rw [List.length_append, List.length_singleton] at jl ⊢
          exact Nat.lt_of_le_of_lt (show _ ≤ 100 by omega) (by decide)
        · intro b o h
          rw [upd_ne (ne_of_none h hD)]
          exact hSG b o h
        · rw [upd_same, List.take_add_one, htj, List.map_append, List.map_append]
          rfl
      · rintro G ⟨hSG, hu'⟩
        rw [List.length_map, rows.len, List.length_map, List.take_length] at hu'
        have hzG := hSG _ _ (S2 _ _ hz)
        refine ⟨d, D, _, _, rfl, rfl, hzG, hu', ?_, ⟨_, _, rfl⟩, Sd ((hS.trans S2).trans hSG), zs ++ (x.p.cs ++ [x.g]).map (·.2.1), ?_, ?_, ?_⟩
        · rw [List.length_map, List.length_map, List.length_map, List.length_append, List.length_singleton]
          exact Nat.le_trans (show _ ≤ 1000000 by omega) (by decide)
        · rw [upd_same]
          simp
        · rw [List.length_append, List.length_map, List.length_append, List.length_singleton]
          omega
        · intro z hzm
          rcases List.mem_append.mp hzm with q | q
          · exact zo z q
          · obtain ⟨t, ht, rfl⟩ := List.mem_map.mp q
            rcases List.mem_append.mp ht with q | q
            · exact xo.1 t q
            · rw [List.mem_singleton.mp q]
              exact xo.2
    rintro σ H2 ⟨⟨v, u, rfl⟩, hS2, zs, hz, zl, zo⟩
    rw [List.length_map, hrs.len] at zl
    -- those of the bars
    refine ⟨_, rfl, b, rfl, ⟨_, hS2.seq hb⟩, for_list (K := K) (a := b) (xs := cs.map V.ref) (fun i σ H' => (∃ v u t, σ = [some (.ref w), some (.ref m), some (.ref r), some (.ref b), some (.ref d), v, u, t, none, none, none, none]) ∧ Same H H' ∧ ∃ zs : List Str, H' d = some (.lst (zs.map V.str)) ∧ zs.length ≤ 200 * ms.length + 4 * rs.length + 4 * i ∧ ∀ z ∈ zs, z ∈ ws) ⟨⟨_, _, none, rfl⟩, hS2, zs, hz, by omega, zo⟩ (fun i σ H' _ p => p.2.1.seq hb) ?_ ?_⟩
    · rintro i y σ H' hi ⟨⟨v, u, t, rfl⟩, hS, zs, hz, zl, zo⟩
      obtain ⟨a, x, rfl, hxi, hat⟩ := hps.get hi
      obtain ⟨d', t1, t2, us, qs, ha, ht1, hu, ht2, hq⟩ := BrAt.same hS hat
      have il : i < ps.length := (List.getElem?_eq_some_iff.mp hxi).1
      have xm := List.mem_of_getElem? hxi
      have x1 := p1 x xm
      have xo := po x xm
      dsimp only [gName, List.set_cons_succ, List.set_cons_zero]
      refine ⟨_, rfl, .inl ⟨rfl, _, SqL.of hz⟩, _, rfl, a, BB, d', _, _, rfl, ha, TB.cl, TB.nc, barF_cond _ _ _, t2, rfl, ⟨_, ht2⟩, fun D hD => ?_⟩
      refine lc_it walk_tup (fun j G => Same H' G ∧ G D = some (.lst (((x.cs.take j).map (·.2.1)).map V.str))) ⟨Same.upd hD, upd_same⟩ (fun j G _ p => same_seqT p.1 ht2) ?_ ?_
      · rintro j x' G G' hj ⟨hSG, hu'⟩ ⟨rfl, hxj⟩
        obtain ⟨q, hqj, rfl⟩ := map_ref_get hxj
        obtain ⟨rr, hrj, hqr⟩ := hq.get hqj
        obtain ⟨t, htj, rfl⟩ := tri_get hrj
        have jl : j < x.cs.length := (List.getElem?_eq_some_iff.mp htj).1
        refine ⟨q, _, rfl, same_seqT hSG hqr, rfl, _, _, rfl, _, _, rfl, _, _, rfl, rfl, rfl, ?_⟩
        refine ⟨_, rfl, _, hu', ?_, ?_, ?_⟩
        · rw [List.length_map, List.length_map, List.length_take]
          exact Nat.lt_of_le_of_lt (show _ ≤ 100 by omega) (by decide)
        · intro b o h
          rw [upd_ne (ne_of_none h hD)]
          exact hSG b o h
        · rw [upd_same, List.take_add_one, htj, List.map_append, List.map_append]
          rfl
      · rintro G ⟨hSG, hu'⟩
        rw [List.length_map, hq.len, List.length_map, List.take_length] at hu'
        refine ⟨d, D, _, _, rfl, rfl, hSG _ _ hz, hu', ?_, ⟨_, _, _, rfl⟩, Sd (hS.trans hSG), zs ++ x.cs.map (·.2.1), ?_, ?_, ?_⟩
        · rw [List.length_map, List.length_map, List.length_map]
          exact Nat.le_trans (show _ ≤ 1000000 by omega) (by decide)
        · rw [upd_same, List.map_append]
        · rw [List.length_append, List.length_map]
          omega
        · intro z hzm
          rcases List.mem_append.mp hzm with q | q
          · exact zo z q
          · obtain ⟨t, ht, rfl⟩ := List.mem_map.mp q
            exact xo t ht
    rintro σ H3 ⟨⟨v, u, t, rfl⟩, hS3, zs, hz, zl, zo⟩
    refine ⟨_, rfl, d, rfl, ⟨_, SqL.of hz⟩, for_list (K := K) (a := d) (xs := zs.map V.str) (fun i σ H' => (∃ v u t n, σ = [some (.ref w), some (.ref m), some (.ref r), some (.ref b), some (.ref d), v, u, t, n, none, none, none]) ∧ H' = H3) ⟨⟨_, _, _, none, rfl⟩, rfl⟩ (fun i σ H' _ p => by rw [p.2]; exact SqL.of hz) ?_ (fun σ H' p => by rw [p.2]; exact k _ hS3)⟩
    rintro i y σ H' hi ⟨⟨v, u, t, n, rfl⟩, rfl⟩
    rw [List.getElem?_map] at hi
    obtain ⟨z, hzi, rfl⟩ := Option.map_eq_some_iff.mp hi
    dsimp only [gName, List.set_cons_succ, List.set_cons_zero]
    refine ⟨_, rfl, _, rfl, w, _, rfl, .inl (hS3.seq hw), rfl, flat_of ws, _, rfl, ?_⟩
    show if (!inV (.str z) (ws.map V.str)) = true then _ else _
    rw [inV_strs, decide_eq_true (zo z (List.mem_of_getElem? hzi))]
    exact iteF ⟨⟨_, _, _, _, rfl⟩, rfl⟩
end
end Wm
namespace Wm
open PySem L2 StX
/-- names in a row, of which the program refuses none -/
structure Row (zs : List Str) : Prop where
  nm : ∀ z ∈ zs, isNm z = true ∧ z.length ≤ 12
  nd : zs.Nodup
theorem Row.noTw {zs : List Str} (h : Row zs) : NoTw (zs.map V.str) := fun i x e => by
  rw [List.getElem?_map] at e
  obtain ⟨z, ez, rfl⟩ := Option.map_eq_some_iff.mp e
  rw [← List.map_take, inV_strs]
  refine decide_eq_false fun hm => ?_
  obtain ⟨j, hj⟩ := List.mem_iff_getElem?.mp hm
  have hlt : j < i := by
    have q := (List.getElem?_eq_some_iff.mp hj).1
    rw [List.length_take] at q
    omega
  rw [List.getElem?_take_of_lt hlt] at hj
  have hil := (List.getElem?_eq_some_iff.mp ez).1
  have e1 := (List.getElem?_eq_some_iff.mp ez).2
  have hjl := (List.getElem?_eq_some_iff.mp hj).1
  have e2 := (List.getElem?_eq_some_iff.mp hj).2
  exact (List.pairwise_iff_getElem.mp h.nd) j i hjl hil hlt (e2.trans e1.symm)
structure TxS (mg : Str → Option Value) : Prop where
  so : ∃ t, mg "MOST_SORTS" = some (.int 4 t)
  wo : ∃ t, mg "MOST_WORDS" = some (.int 5 t)
  ru : ∃ t, mg "MOST_RULES" = some (.int 8 t)
  ba : ∃ t, mg "MOST_BARS" = some (.int 4 t)
def spRNv (K : PySem.W.Frag) : Sp := fun vs H Q _ => ∃ (l : Addr) (zs : List Str), vs = [.ref l] ∧ SqL K H l (zs.map V.str) ∧ (∀ z ∈ zs, isNm z = true ∧ z.length ≤ 12) ∧ ∀ H', Same H H' → Q .non H'
/-- a scheme that is refused by nothing -/
structure SchOk (ss ws : List Str) (ms : List MkD) (rs : List RlD) (ps : List PtD) : Prop where
  sr : Row ss
  wr : Row ws
  s1 : 1 ≤ ss.length
  s4 : ss.length ≤ 4
  w1 : 1 ≤ ws.length
  w5 : ws.length ≤ 5
  m9 : ms.length ≤ 1000
  r8 : rs.length ≤ 8
  b4 : ps.length ≤ 4
  mt : (ms.map fun x => (x.mr, x.md)).Nodup
  rn : (rs.map (·.p.nm)).Nodup
  bn : (ps.map (·.nm)).Nodup
  so : ∀ z ∈ ss, okS z
  mo : ∀ x ∈ ms, x.mr ∈ ss ∧ x.md ∈ ss
  mu : ∀ x ∈ ms, ∃ i j : Nat, i < j ∧ ss[i]? = some x.mr ∧ ss[j]? = some x.md
  ml : ∀ x ∈ ms, x.dn.length ≤ 100 ∧ x.up.length ≤ 100
  mw : ∀ x ∈ ms, (∀ z ∈ x.dn, z ∈ ws) ∧ ∀ z ∈ x.up, z ∈ ws
  rv : ∀ x ∈ rs, x.p.vars.length ≤ 4 ∧ x.p.cs.length ≤ 3 ∧ (∀ y ∈ x.p.vars, ∀ z, y.2 = some z → z ∈ ss) ∧ (∀ t ∈ x.p.cs, t.2.1 ∈ ws) ∧ x.g.2.1 ∈ ws
  bv : ∀ x ∈ ps, x.vars.length ≤ 4 ∧ x.cs.length ≤ 3 ∧ (∀ y ∈ x.vars, ∀ z, y.2 = some z → z ∈ ss) ∧ ∀ t ∈ x.cs, t.2.1 ∈ ws
def spOL (K : PySem.W.Frag) : Sp := fun vs H Q _ => ∃ x : V, vs = [x] ∧ ((x = .non ∧ ∀ d, H d = none → Q (.ref d) (upd H d (.lst []))) ∨ ∃ (l : Addr) (xs : List V), x = .ref l ∧ SqL K H l xs ∧ ∀ d, H d = none → Q (.ref d) (upd H d (.lst xs)))
def spCS (K : PySem.W.Frag) (MB RB BB : Addr) : Sp := fun vs H Q _ => ∃ (s w m r b : Addr) (ss ws : List Str) (as bs cs : List Addr) (ms : List MkD) (rs : List RlD) (ps : List PtD), vs = [.ref s, .ref w, .ref m, .ref r, .ref b] ∧ SqL K H s (ss.map V.str) ∧ SqL K H w (ws.map V.str) ∧ SqL K H m (as.map V.ref) ∧ AllAt (MkAt K MB H) as ms ∧ SqL K H r (bs.map V.ref) ∧ AllAt (RlAt K RB H) bs rs ∧ SqL K H b (cs.map V.ref) ∧ AllAt (BrAt K BB H) cs ps ∧ SchOk ss ws ms rs ps ∧ ∀ H', Same H H' → Q .non H'
theorem noTw_of {zs : List Str} (h : zs.Nodup) : NoTw (zs.map V.str) := fun i x e => by
  rw [List.getElem?_map] at e
  obtain ⟨z, ez, rfl⟩ := Option.map_eq_some_iff.mp e
  rw [← List.map_take, inV_strs]
  refine decide_eq_false fun hm => ?_
  obtain ⟨j, hj⟩ := List.mem_iff_getElem?.mp hm
  have hlt : j < i := by
    have q := (List.getElem?_eq_some_iff.mp hj).1
    rw [List.length_take] at q
    omega
  rw [List.getElem?_take_of_lt hlt] at hj
  have hil := (List.getElem?_eq_some_iff.mp ez).1
  have hjl := (List.getElem?_eq_some_iff.mp hj).1
  exact (List.pairwise_iff_getElem.mp h) j i hjl hil hlt ((List.getElem?_eq_some_iff.mp hj).2.trans (List.getElem?_eq_some_iff.mp ez).2.symm)
theorem RlAt.pv {K : PySem.W.Frag} {mg : Str → Option Value} {RB fR : Addr} {H : Hp} {a : Addr} {x : RlD} (T : TxRul K mg RB fR) (h : RlAt K RB H a x) : PvAt K H a x.p.vars := by
  obtain ⟨d, t1, t2, t3, ps, qs, a1, a2, a3, _⟩ := h
  exact ⟨RB, d, _, t1, ps, a1, T.cl, T.nv, rulF_vars _ _ _ _ _, a2, a3⟩
theorem BrAt.pv {K : PySem.W.Frag} {mg : Str → Option Value} {BB fB : Addr} {H : Hp} {a : Addr} {x : PtD} (T : TxBar K mg BB fB) (h : BrAt K BB H a x) : PvAt K H a x.vars := by
  obtain ⟨d, t1, t2, ps, qs, a1, a2, a3, _⟩ := h
  exact ⟨BB, d, _, t1, ps, a1, T.cl, T.nv, barF_vars _ _ _, a2, a3⟩
theorem AllAt.map {α β : Type} {R : Addr → β → Prop} {f : α → β} : ∀ {as : List Addr} {xs : List α}, AllAt (fun a x => R a (f x)) as xs → AllAt R as (xs.map f)
  | [], [], _ => True.intro
  | _ :: _, _ :: _, q => ⟨q.1, AllAt.map q.2⟩
  | [], _ :: _, q => q.elim
  | _ :: _, [], q => q.elim
section
variable {P : Program} {w : World} {K : PySem.W.Frag} {mg : Str → Option Value} {base : Heap}
theorem ok_rnv {f fN : Addr} {fd fdN : FuncData} (F : Fun K "refuse_no_name" "refuse_no_name" sRN f fd) (D : Dn K mg "is_name" sName ["text"] fN fdN) (GN : FnOk P w K mg base CX0 1 fN fdN ["text"] spName) : FnOk P w K mg base CX0 2 f fd ["texts"] (spRNv K) := by
  refine F.ok scRN (fun vs H Q E h => ?_) (fun cdv A outer s H vs Q E hr h => ?_)
  · obtain ⟨l, zs, rfl, _⟩ := h
    rfl
  · obtain ⟨l, zs, rfl, hl, hn, k⟩ := h
    refine ⟨_, (pss_one (ps_for PassesOwn.never rfl (pi_list (pv 0)) (pg_name (i := 1) scRN.nd rfl (Or.inl rfl)) (pss_one (ps_if (pt_not (pt_val (pe_call GN hr rfl D.g D.F.kp D.b .nil pass0 (pa_cons (pv 1) pa_nil)))) (pss_one ps_never) pss_nil)))), ?_⟩
    refine ⟨_, rfl, l, rfl, ⟨_, hl⟩, for_list (K := K) (a := l) (xs := zs.map V.str) (fun i σ H' => (∃ v, σ = [some (.ref l), v]) ∧ Same H H') ⟨⟨none, rfl⟩, Same.refl H⟩ (fun i σ H' _ p => p.2.seq hl) ?_ (fun σ H' p => k H' p.2)⟩
    rintro i y σ H' hi ⟨⟨v, rfl⟩, hS⟩
    rw [List.getElem?_map] at hi
    obtain ⟨z, hz, rfl⟩ := Option.map_eq_some_iff.mp hi
    have hq := hn z (List.mem_of_getElem? hz)
    refine ⟨_, rfl, z, rfl, Nat.le_trans hq.2 (by decide), fun H2 hS2 => ⟨_, rfl, ?_⟩⟩
    rw [hq.1]
    exact iteF ⟨⟨_, rfl⟩, hS.trans hS2⟩
theorem scOL : FnScope ["rows"] ["rows"] (defScope sOL) := ⟨rfl, rfl, rfl, by decide +kernel, rfl, by decide +kernel, by decide +kernel⟩
theorem ok_ol {f : Addr} {fd : FuncData} (F : Fun K "own_list" "own_list" sOL f fd) (tl : mg "list" = none) : FnOk P w K mg base CX0 1 f fd ["rows"] (spOL K) := by
  refine F.ok scOL (fun vs H Q E h => ?_) (fun cdv A outer s H vs Q E hr h => ?_)
  · obtain ⟨x, rfl, _⟩ := h
    rfl
  · obtain ⟨x, rfl, h⟩ := h
    refine ⟨_, (pss_cons (ps_if (pt_cmp (pc_isN (pv 0))) (pss_one (ps_ret (pe_lst pa_nil))) pss_nil)
      (pss_one (ps_ret (pe_callTy call_list_of (by rfl) tl (by decide +kernel) (pa_cons (pv 0) pa_nil))))), ?_⟩
    refine ⟨_, rfl, _, rfl, ?_⟩
    rcases h with ⟨rfl, k⟩ | ⟨l, xs, rfl, hl, k⟩
    · exact iteT ⟨Nat.zero_le _, fun d hd => k d hd⟩
    · exact iteF ⟨_, rfl, l, _, rfl, .inl hl, fun d hd => k d hd⟩
theorem scCS : FnScope ["sorts", "words", "makings", "rules", "bars", "rule", "bar"] ["sorts", "words", "makings", "rules", "bars"] (defScope sCS) := ⟨rfl, rfl, rfl, by decide +kernel, rfl, by decide +kernel, by decide +kernel⟩
theorem ok_cs {f fRC fRN fRT fRM fNS fRU fNW fF MB fM RB fR BB fB : Addr} {fd dRC dRN dRT dRM dNS dRU dNW dF : FuncData} (F : Fun K "check_scheme" "check_scheme" sCS f fd) (T : TxB mg) (TS : TxS mg) (TM : TxMak K mg MB fM) (TR : TxRul K mg RB fR) (TB : TxBar K mg BB fB)
    (DC : Dn K mg "refuse_count" sRC ["what", "count", "least", "most"] fRC dRC) (DN : Dn K mg "refuse_no_name" sRN ["texts"] fRN dRN) (DT : Dn K mg "refuse_twice" sRT ["names"] fRT dRT) (DM : Dn K mg "refuse_makings_twice" sRMT ["makings"] fRM dRM) (DS : Dn K mg "refuse_no_sort" sRNS ["sorts", "makings", "patterns"] fNS dNS) (DU : Dn K mg "refuse_upward" sRU ["sorts", "makings"] fRU dRU) (DW : Dn K mg "refuse_no_word" sRNW ["words", "makings", "rules", "bars"] fNW dNW) (DF : Dn K mg "first_twice" sFT ["row"] fF dF)
    (GN : FnOk P w K mg base CX0 2 fRN dRN ["texts"] (spRNv K)) (GT : FnOk P w K mg base CX0 2 fRT dRT ["names"] (spFT K)) : FnOk P w K mg base CX0 3 f fd ["sorts", "words", "makings", "rules", "bars"] (spCS K MB RB BB) := by
  have GC : FnOk P w K mg base CX0 1 fRC dRC _ spRC := ok_rc DC.F
  have GM : FnOk P w K mg base CX0 2 fRM dRM _ (spRMT K MB) := ok_rmt DM.F T TM DF
  have GS : FnOk P w K mg base CX0 1 fNS dNS _ (spRNS K MB) := ok_rns DS.F TM
  have GU : FnOk P w K mg base CX0 1 fRU dRU _ (spRU K MB) := ok_ru DU.F TM
  have GW : FnOk P w K mg base CX0 1 fNW dNW _ (spRNW K MB RB BB) := ok_rnw DW.F TM TR TB
  refine F.ok scCS (fun vs H Q E h => ?_) (fun cdv A outer s H vs Q E hr h => ?_)
  · obtain ⟨s, w, m, r, b, ss, ws, as, bs, cs, ms, rs, ps, rfl, _⟩ := h
    rfl
  · obtain ⟨s, w, m, r, b, ss, ws, as, bs, cs, ms, rs, ps, rfl, hs, hw, hm, hms, hr', hrs, hb, hps, ok, k⟩ := h
    have hr1 : Room 1 _ := hr.mono (by decide)
    obtain ⟨t1, g1⟩ := TS.so
    obtain ⟨t2, g2⟩ := TS.wo
    obtain ⟨t3, g3⟩ := TS.ru
    obtain ⟨t4, g4⟩ := TS.ba
    have sl1 := ok.s1
    have sl4 := ok.s4
    have wl1 := ok.w1
    have wl5 := ok.w5
    have rl8 := ok.r8
    have bl4 := ok.b4
    have lr := hrs.len
    have lb := hps.len
    refine ⟨_, (pss_cons (ps_expr (pe_call GC hr1 rfl DC.g DC.F.kp DC.b .nil pass0 (pa_cons pe_str (pa_cons (pe_callB call_len_seq (by rfl) T.len (by decide +kernel) (pa_cons (pv 0) pa_nil)) (pa_cons pe_int (pa_cons (pe_glob (v := .int 4) rfl g1 ⟨t1, rfl⟩) pa_nil))))))
      (pss_cons (ps_expr (pe_call GC hr1 rfl DC.g DC.F.kp DC.b .nil pass0 (pa_cons pe_str (pa_cons (pe_callB call_len_seq (by rfl) T.len (by decide +kernel) (pa_cons (pv 1) pa_nil)) (pa_cons pe_int (pa_cons (pe_glob (v := .int 5) rfl g2 ⟨t2, rfl⟩) pa_nil))))))
      (pss_cons (ps_expr (pe_call GC hr1 rfl DC.g DC.F.kp DC.b .nil pass0 (pa_cons pe_str (pa_cons (pe_callB call_len_seq (by rfl) T.len (by decide +kernel) (pa_cons (pv 3) pa_nil)) (pa_cons pe_int (pa_cons (pe_glob (v := .int 8) rfl g3 ⟨t3, rfl⟩) pa_nil))))))
      (pss_cons (ps_expr (pe_call GC hr1 rfl DC.g DC.F.kp DC.b .nil pass0 (pa_cons pe_str (pa_cons (pe_callB call_len_seq (by rfl) T.len (by decide +kernel) (pa_cons (pv 4) pa_nil)) (pa_cons pe_int (pa_cons (pe_glob (v := .int 4) rfl g4 ⟨t4, rfl⟩) pa_nil))))))
      (pss_cons (ps_expr (pe_call GN hr rfl DN.g DN.F.kp DN.b .nil pass0 (pa_cons (pv 0) pa_nil)))
      (pss_cons (ps_expr (pe_call GN hr rfl DN.g DN.F.kp DN.b .nil pass0 (pa_cons (pv 1) pa_nil)))
      (pss_cons (ps_expr (pe_call GT hr rfl DT.g DT.F.kp DT.b .nil pass0 (pa_cons (pv 0) pa_nil)))
      (pss_cons (ps_expr (pe_call GT hr rfl DT.g DT.F.kp DT.b .nil pass0 (pa_cons (pv 1) pa_nil)))
      (pss_cons (ps_expr (pe_call GM hr rfl DM.g DM.F.kp DM.b .nil pass0 (pa_cons (pv 2) pa_nil)))
      (pss_cons (ps_expr (pe_call GT hr rfl DT.g DT.F.kp DT.b .nil pass0 (pa_cons (pe_lc (own := [("rule", 5)]) (g := gName 5) (te := tFld K (tVar 5) "name") rfl scCS.nd (pi_list (pv 3)) (blkOk_by (N := ["sorts", "words", "makings", "rules", "bars", "rule", "bar"]) (sc := defScope sCS) (by decide +kernel)) (fun _ _ _ _ _ => (pg_name (i := 5) scCS.nd rfl (Or.inl rfl))) (fun _ _ _ _ _ => pts_nil) (fun _ _ _ _ _ => (pe_fld (pv 5) rfl))) pa_nil)))
      (pss_cons (ps_expr (pe_call GT hr rfl DT.g DT.F.kp DT.b .nil pass0 (pa_cons (pe_lc (own := [("bar", 6)]) (g := gName 6) (te := tFld K (tVar 6) "name") rfl scCS.nd (pi_list (pv 4)) (blkOk_by (N := ["sorts", "words", "makings", "rules", "bars", "rule", "bar"]) (sc := defScope sCS) (by decide +kernel)) (fun _ _ _ _ _ => (pg_name (i := 6) scCS.nd rfl (Or.inl rfl))) (fun _ _ _ _ _ => pts_nil) (fun _ _ _ _ _ => (pe_fld (pv 6) rfl))) pa_nil)))
      (pss_cons (ps_expr (pe_call GS hr1 rfl DS.g DS.F.kp DS.b .nil pass0 (pa_cons (pv 0) (pa_cons (pv 2) (pa_cons (pe_lst (pa_star (pv 3) (pa_star (pv 4) pa_nil))) pa_nil)))))
      (pss_cons (ps_expr (pe_call GU hr1 rfl DU.g DU.F.kp DU.b .nil pass0 (pa_cons (pv 0) (pa_cons (pv 2) pa_nil))))
      (pss_one (ps_expr (pe_call GW hr1 rfl DW.g DW.F.kp DW.b .nil pass0 (pa_cons (pv 1) (pa_cons (pv 2) (pa_cons (pv 3) (pa_cons (pv 4) pa_nil)))))))))))))))))))), ?_⟩
    refine ⟨_, rfl, s, _, rfl, .inl hs, _, _, _, _, rfl, by rw [List.length_map]; omega, by rw [List.length_map]; omega, ?_⟩
    refine ⟨_, rfl, w, _, rfl, .inl hw, _, _, _, _, rfl, by rw [List.length_map]; omega, by rw [List.length_map]; omega, ?_⟩
    refine ⟨_, rfl, r, _, rfl, .inl hr', _, _, _, _, rfl, by rw [List.length_map]; omega, by rw [List.length_map]; omega, ?_⟩
    refine ⟨_, rfl, b, _, rfl, .inl hb, _, _, _, _, rfl, by rw [List.length_map]; omega, by rw [List.length_map]; omega, ?_⟩
    refine ⟨_, rfl, s, ss, rfl, hs, ok.sr.nm, fun H1 S1 => ?_⟩
    refine ⟨_, rfl, w, ws, rfl, S1.seq hw, ok.wr.nm, fun H2 S2 => ?_⟩
    have S12 := S1.trans S2
    refine ⟨_, rfl, s, _, rfl, .inl (S12.seq hs), flat_of ss, ok.sr.noTw, fun H3 S3 => ?_⟩
    have S13 := S12.trans S3
    refine ⟨_, rfl, w, _, rfl, .inl (S13.seq hw), flat_of ws, ok.wr.noTw, fun H4 S4 => ?_⟩
    have S14 := S13.trans S4
    refine ⟨_, rfl, m, as, ms, rfl, S14.seq hm, hms.imp fun _ _ q => q.same S14, ok.m9, ok.mt, fun x hx => ⟨ok.so _ (ok.mo x hx).1, ok.so _ (ok.mo x hx).2⟩, fun H5 S5 => ?_⟩
    have S15 := S14.trans S5
    -- names of the rules
    refine ⟨_, rfl, r, rfl, ⟨_, S15.seq hr'⟩, fun D hD => ?_⟩
    refine lc_list (K := K) (a := r) (xs := bs.map V.ref) (fun i H' => Same H5 H' ∧ H' D = some (.lst (((rs.take i).map (·.p.nm)).map V.str))) ⟨Same.upd hD, upd_same⟩ (fun i H' _ p => (S15.trans p.1).seq hr') ?_ ?_
    · rintro i x H' hi ⟨hS, hl⟩
      obtain ⟨a, y, rfl, hy, hat⟩ := hrs.get hi
      obtain ⟨d, t1, t2, t3, us, qs, ha, _⟩ := RlAt.same (S15.trans hS) hat
      have il : i < rs.length := (List.getElem?_eq_some_iff.mp hy).1
      refine ⟨rfl, ?_⟩
      refine ⟨_, rfl, a, RB, d, _, _, rfl, ha, TR.cl, TR.nn, rulF_name _ _ _ _ _, _, hl, ?_, ?_, ?_⟩
      · rw [List.length_map, List.length_map, List.length_take]
        exact Nat.lt_of_le_of_lt (show _ ≤ 100 by omega) (by decide)
      · intro b o h
        rw [upd_ne (ne_of_none h hD)]
        exact hS b o h
      · rw [upd_same, List.take_add_one, hy, List.map_append, List.map_append]
        rfl
    rintro H6 ⟨S6, hl6⟩
    rw [List.length_map, lr, List.take_length] at hl6
    refine ⟨D, _, rfl, .inl (SqL.of hl6), flat_of _, noTw_of ok.rn, fun H7 S7 => ?_⟩
    have S17 := (S15.trans S6).trans S7
    -- names of the bars
    refine ⟨_, rfl, b, rfl, ⟨_, S17.seq hb⟩, fun D2 hD2 => ?_⟩
    refine lc_list (K := K) (a := b) (xs := cs.map V.ref) (fun i H' => Same H7 H' ∧ H' D2 = some (.lst (((ps.take i).map (·.nm)).map V.str))) ⟨Same.upd hD2, upd_same⟩ (fun i H' _ p => (S17.trans p.1).seq hb) ?_ ?_
    · rintro i x H' hi ⟨hS, hl⟩
      obtain ⟨a, y, rfl, hy, hat⟩ := hps.get hi
      obtain ⟨d, t1, t2, us, qs, ha, _⟩ := BrAt.same (S17.trans hS) hat
      have il : i < ps.length := (List.getElem?_eq_some_iff.mp hy).1
      refine ⟨rfl, ?_⟩
      refine ⟨_, rfl, a, BB, d, _, _, rfl, ha, TB.cl, TB.nn, barF_name _ _ _, _, hl, ?_, ?_, ?_⟩
      · rw [List.length_map, List.length_map, List.length_take]
        exact Nat.lt_of_le_of_lt (show _ ≤ 100 by omega) (by decide)
      · intro b o h
        rw [upd_ne (ne_of_none h hD2)]
        exact hS b o h
      · rw [upd_same, List.take_add_one, hy, List.map_append, List.map_append]
        rfl
    rintro H8 ⟨S8, hl8⟩
    rw [List.length_map, lb, List.take_length] at hl8
    refine ⟨D2, _, rfl, .inl (SqL.of hl8), flat_of _, noTw_of ok.bn, fun H9 S9 => ?_⟩
    have S19 := (S17.trans S8).trans S9
    -- sorts
    refine ⟨_, rfl, _, rfl, _, rfl, r, _, rfl, .inr (S19.seq hr'), _, rfl, b, _, rfl, .inr (S19.seq hb), ?_⟩
    show (bs.map V.ref ++ (cs.map V.ref ++ [])).length ≤ sizeLine ∧ _
    rw [show (bs.map V.ref ++ (cs.map V.ref ++ [])) = (bs ++ cs).map V.ref by rw [List.append_nil, List.map_append]]
    refine ⟨Nat.le_trans (show _ ≤ 1000 by rw [List.length_map, List.length_append]; omega) (by decide), fun q hq => ?_⟩
    have Sq : Same H9 (upd H9 q (.lst ((bs ++ cs).map V.ref))) := Same.upd hq
    have eq : (upd H9 q (.lst ((bs ++ cs).map V.ref))) q = some (.lst ((bs ++ cs).map V.ref)) := upd_same
    generalize upd H9 q (.lst ((bs ++ cs).map V.ref)) = Hq at Sq eq
    have S1q := S19.trans Sq
    have pvs : AllAt (PvAt K Hq) (bs ++ cs) (rs.map (·.p.vars) ++ ps.map (·.vars)) := (AllAt.map (f := fun x : RlD => x.p.vars) (hrs.imp fun _ _ z => (z.same S1q).pv TR)).append (AllAt.map (f := fun x : PtD => x.vars) (hps.imp fun _ _ z => (z.same S1q).pv TB))
    refine ⟨s, m, q, ss, as, bs ++ cs, ms, _, rfl, S1q.seq hs, S1q.seq hm, hms.imp fun _ _ z => z.same S1q, SqL.of eq, pvs, ok.m9, ?_, ?_, ok.mo, ?_, fun HA SA => ?_⟩
    · rw [List.length_append, List.length_map, List.length_map]
      omega
    · intro v hv
      rcases List.mem_append.mp hv with z | z
      · obtain ⟨x, hx, rfl⟩ := List.mem_map.mp z
        exact (ok.rv x hx).1
      · obtain ⟨x, hx, rfl⟩ := List.mem_map.mp z
        exact (ok.bv x hx).1
    · intro v hv
      rcases List.mem_append.mp hv with z | z
      · obtain ⟨x, hx, rfl⟩ := List.mem_map.mp z
        exact (ok.rv x hx).2.2.1
      · obtain ⟨x, hx, rfl⟩ := List.mem_map.mp z
        exact (ok.bv x hx).2.2.1
    have S1A := S1q.trans SA
    refine ⟨_, rfl, _, rfl, s, m, ss, as, ms, rfl, S1A.seq hs, S1A.seq hm, hms.imp fun _ _ z => z.same S1A, ok.sr.nd, ok.mu, ?_⟩
    exact ⟨_, rfl, _, rfl, _, rfl, _, rfl, w, m, r, b, ws, as, bs, cs, ms, rs, ps, rfl, S1A.seq hw, S1A.seq hm, hms.imp fun _ _ z => z.same S1A, S1A.seq hr', hrs.imp fun _ _ z => z.same S1A, S1A.seq hb, hps.imp fun _ _ z => z.same S1A, ok.m9, by omega, by omega, ok.ml, fun x hx => (ok.rv x hx).2.1, fun x hx => (ok.bv x hx).2.1, ok.mw, fun x hx => (ok.rv x hx).2.2.2, fun x hx => (ok.bv x hx).2.2.2, fun HB SB => k _ (S1A.trans SB)⟩
end
end Wm
/-! list(zip(xs, ys)) of two lists of one length -/
namespace Wm
open PySem PySem.Spec PyProof.Rows L2
theorem zl_nolen : typeLookup (.type "zip") "__len__" = pure none := by
  rw [typeLookup_type, builtinLookup_eq_fast]
  kernel_rfl
theorem zl_nohint : typeLookup (.type "zip") "__length_hint__" = pure none := by
  rw [typeLookup_type, builtinLookup_eq_fast]
  kernel_rfl
/-- how the zip stands ahead of turn i -/
def ZSt (z TI TO i1 i2 a b : Addr) (i : Nat) (h : Heap) (H : Hp) : Prop :=
  IsPair h TI (.ref i1) (.ref i2) ∧ h.IsListIter i1 a i ∧ h.IsListIter i2 b i ∧
  (∃ x y, IsPair h TO x y) ∧ (IsZip h z TI TO .none ∨ ∃ (T : Addr) (f : Bool) (u : List V), IsZipHeld h z TI TO T f ∧ H T = some (.tup u))
/-- the pairs that stand in the list so far -/
def Prs (H0 H : Hp) (xs ys : List V) (acc : List Addr) : Prop :=
  ∀ (j : Nat) (t : Addr), acc[j]? = some t → H0 t = none ∧ ∃ x y, xs[j]? = some x ∧ ys[j]? = some y ∧ H t = some (.tup [x, y])
theorem fp_upd {X : Cx} {pins : List (Addr × Obj)} {H : Hp} {c d : Addr} {o : HO} (n : c ≠ d) (h : FpOk X pins H c) : FpOk X pins (L2.upd H d o) c := ⟨by rw [upd_ne n]; exact h.1, h.2⟩
section
variable {X : Cx} {pins : List (Addr × Obj)} {σ : L2.St} {A1 : Around} {Rs : Result → Shared → Prop} {S z TI TO i1 i2 a b : Addr} {xs ys : List V} {H0 : Hp}
theorem zl_loop (hh : A1.handled = none) (D : ZipApart z TI TO i1 i2 a b) (hlen : xs.length = ys.length) (hs : xs.length ≤ sizeLine) (nS : H0 S = none) (ha : SqL X.K H0 a xs) (hb : SqL X.K H0 b ys)
    (same : ∀ {H H' : Hp} {c : Addr} {l : List V}, (∀ q o, H q = some o → H' q = some o) → SqL X.K H c l → SqL X.K H' c l)
    (fin : ∀ (H : Hp) (acc : List Addr) (s : Shared), Inv X pins σ H s → (∀ q o, H0 q = some o → H q = some o) → H S = some (.lst (acc.map V.ref)) → acc.length = xs.length → Prs H0 H xs ys acc → Rs (.ok (.ret .none)) s) :
    ∀ (k i : Nat) (acc : List Addr) (H : Hp) (s : Shared), xs.length - i = k → i ≤ xs.length → Inv X pins σ H s → (∀ c ∈ [z, TI, TO, i1, i2], FpOk X pins H c) → ZSt z TI TO i1 i2 a b i s.heap H → (∀ q o, H0 q = some o → H q = some o) →
      H S = some (.lst (acc.map V.ref)) → acc.length = i → Prs H0 H xs ys acc → codeAny (model X.prog X.w) A1 (.builtin "list.extend.loop" ⟨[.ref S, .ref z, .none], []⟩) Rs s := by
  intro k
  induction k with
  | zero =>
    intro i acc H s hk hi I hf st S0 hS hl hp
    have e : i = xs.length := by omega
    refine codeAny_builtin PySem.F.entry_extend_loop ?_
    rw [Around.under_plainId PySem.F.plain_extend_loop _]
    show wpAny _ A1.in1 (pyNext (.ref z) >>= _) _ _ s
    obtain ⟨its, rv, p, _⟩ := I.list (same S0 ha)
    obtain ⟨its2, rv2, p2, _⟩ := I.list (same S0 hb)
    have l1 := rv.length
    have l2 := rv2.length
    have he : its.toArray[i]? = none ∨ its2.toArray[i]? = none := .inl (by simp; omega)
    have done : ∀ h' : Heap, (∀ c o, c ∉ [z, TI, TO, i1, i2] → s.heap.get? c = some o → h'.get? c = some o) → Rs (.ok (.ret .none)) { s with heap := h' } := fun h' hk => fin H acc _ (I.turnedL (t' := s.toks) (ch := [z, TI, TO, i1, i2]) hk hf) S0 hS (by omega) hp
    obtain ⟨hTI, h1, h2, ⟨x0, y0, hTO⟩, hz | ⟨T, f, u, hz, hT⟩⟩ := st
    · exact wpAny_bind (wpAny_pyNext_zip_end (A := A1.in1) hh D hz hTI hTO h1 h2 p.isList p2.isList he fun h' hk => wpAny_pure (done h' fun c o hc => hk c o (fun q => hc (by simp [q])) (fun q => hc (by simp [q])) (fun q => hc (by simp [q])) (fun q => hc (by simp [q]))))
    · obtain ⟨_, _, _, oT, hoT, _⟩ := I.hok T _ hT
      exact wpAny_bind (wpAny_pyNext_zip_end_held (A := A1.in1) hh D hz hoT hTI h1 h2 p.isList p2.isList he fun h' hk => wpAny_pure (done h' fun c o hc => hk c o (fun q => hc (by simp [q])) (fun q => hc (by simp [q])) (fun q => hc (by simp [q]))))
  | succ k ih =>
    intro i acc H s hk hi I hf st S0 hS hl hp
    have hlt : i < xs.length := by omega
    refine codeAny_builtin PySem.F.entry_extend_loop ?_
    rw [Around.under_plainId PySem.F.plain_extend_loop _]
    show wpAny _ A1.in1 (pyNext (.ref z) >>= _) _ _ s
    obtain ⟨its, rv, p, _⟩ := I.list (same S0 ha)
    obtain ⟨its2, rv2, p2, _⟩ := I.list (same S0 hb)
    have hx : xs[i]? = some xs[i] := List.getElem?_eq_getElem hlt
    have hy : ys[i]? = some (ys[i]'(by omega)) := List.getElem?_eq_getElem (by omega)
    generalize xs[i] = x at hx
    generalize (ys[i]'(by omega)) = y at hy
    obtain ⟨u, hu, ru⟩ := rv.get hx
    obtain ⟨u2, hu2, ru2⟩ := rv2.get hy
    have nT : H s.heap.objs.size = none := I.hok.fresh (Nat.le_refl _)
    have n0 : H0 s.heap.objs.size = none := by
      cases e : H0 s.heap.objs.size with
      | none => rfl
      | some o =>
        rw [S0 _ _ e] at nT
        cases nT
    have nST : S ≠ s.heap.objs.size := fun e => by
      rw [← e, hS] at nT
      cases nT
    have zn : ∀ c ∈ [z, TI, TO, i1, i2], c ≠ S := fun c hc e => by
      have q := (hf c hc).1
      rw [e, hS] at q
      cases q
    have old : ∀ c ∈ [z, TI, TO, i1, i2], (∃ o, s.heap.get? c = some o) → c ≠ s.heap.objs.size := fun c _ ⟨o, e⟩ => Nat.ne_of_lt (Heap.lt_size e)
    have more : ∀ h' : Heap, IsZipHeld h' z TI TO s.heap.objs.size false ∨ (∃ (T : Addr) (f : Bool) (w : List V), IsZipHeld h' z TI TO T f ∧ H T = some (.tup w)) → h'.IsListIter i1 a (i + 1) → h'.IsListIter i2 b (i + 1) → IsPair h' TI (.ref i1) (.ref i2) → (∃ x y, IsPair h' TO x y) → IsPair h' s.heap.objs.size u u2 →
        (∀ c ∈ [z, TI, TO, i1, i2], c ≠ s.heap.objs.size) → (∀ c o, c ∉ [z, TI, TO, i1, i2] → s.heap.get? c = some o → h'.get? c = some o) →
        wpAny (model X.prog X.w) A1.in1 (updateSeq S (·.push (.ref s.heap.objs.size)) >>= fun _ => again (.builtin "list.extend.loop" ⟨[.ref S, .ref z, .none], []⟩))
          (fun fin s' => match fin with | .done f => Rs (.ok f) s' | .again c' => c'.quiet = true ∧ codeAny (model X.prog X.w) A1 c' Rs s') (fun e s' => Rs (.error e) s') { s with heap := h' } := by
      intro h' hz' h1' h2' hTI' ⟨a1, a2, hTO'⟩ hT hn hk
      have new : ObjOk X.prog X.w (L2.upd H s.heap.objs.size (.tup [x, y])) h' s.heap.objs.size (.tup [x, y]) := ⟨by show 2 ≤ sizeLine; decide, [u, u2], .cons ru (.cons ru2 .nil), ⟨_, hT, rfl, _, rfl⟩⟩
      have I1 : Inv X pins σ (L2.upd H s.heap.objs.size (.tup [x, y])) { s with heap := h' } := I.turnedNew (t' := s.toks) (ch := [z, TI, TO, i1, i2]) hk hf (Nat.le_refl _) new
      have hS1 : (L2.upd H s.heap.objs.size (.tup [x, y])) S = some (.lst (acc.map V.ref)) := by rw [upd_ne nST]; exact hS
      obtain ⟨zz, itsS, kS, rS, hlS, eS⟩ := I1.lstM hS1
      rw [List.length_map] at hlS zz
      have I2 := I1.lset (f := fun v : Array Value => v.push (.ref s.heap.objs.size)) (its' := itsS ++ [.ref s.heap.objs.size]) (ys := (acc ++ [s.heap.objs.size]).map V.ref) (t' := s.toks) hS1 eS (by simp) (by rw [List.map_append]; exact rS.append (.cons rfl .nil)) (by rw [List.length_map, List.length_append, List.length_singleton]; omega)
      refine wpAny_bind (wpAny_updateSeq eS rfl (wpAny_pure ⟨plainId_quiet PySem.F.plain_extend_loop _, ?_⟩) (by rw [List.size_toArray]; omega) (by show (itsS.toArray.push _).size ≤ sizeLine + 1; rw [Array.size_push, List.size_toArray]; omega))
      have up : ∀ c o, c ≠ S → h'.get? c = some o → (h'.update S (Obj.mapSeq fun v : Array Value => v.push (.ref s.heap.objs.size))).get? c = some o := fun c o n e => (Heap.get?_update_other _ _ n.symm).trans e
      have grow : ∀ q o, q ≠ S → H q = some o → (L2.upd (L2.upd H s.heap.objs.size (.tup [x, y])) S (.lst ((acc ++ [s.heap.objs.size]).map V.ref))) q = some o := fun q o n e => by
        rw [upd_ne n, upd_ne fun e' => by rw [e', nT] at e; cases e]
        exact e
      have eT : (L2.upd (L2.upd H s.heap.objs.size (.tup [x, y])) S (.lst ((acc ++ [s.heap.objs.size]).map V.ref))) s.heap.objs.size = some (.tup [x, y]) := by rw [upd_ne nST.symm, upd_same]
      refine ih (i + 1) (acc ++ [s.heap.objs.size]) _ _ (by omega) hlt I2 (fun c hc => fp_upd (zn c hc) (fp_upd (hn c hc) (hf c hc))) ⟨up _ _ (zn TI (by simp)) hTI', h1'.at fun o q => up _ _ (zn i1 (by simp)) q, h2'.at fun o q => up _ _ (zn i2 (by simp)) q, ⟨a1, a2, up _ _ (zn TO (by simp)) hTO'⟩, .inr ?_⟩ (fun q o e => grow q o (fun z' => by rw [z', nS] at e; cases e) (S0 q o e)) upd_same (by rw [List.length_append, hl]; rfl) ?_
      · rcases hz' with q | ⟨T, f, w, q, hT'⟩
        · exact ⟨_, _, _, up _ _ (zn z (by simp)) q, eT⟩
        · exact ⟨T, f, w, up _ _ (zn z (by simp)) q, grow T _ (fun z' => by rw [z', hS] at hT'; cases hT') hT'⟩
      · intro j t hj
        rcases Nat.lt_trichotomy j acc.length with q | q | q
        · rw [List.getElem?_append_left q] at hj
          obtain ⟨m0, x', y', e1, e2, e3⟩ := hp j t hj
          exact ⟨m0, x', y', e1, e2, grow t _ (fun z' => by rw [z', hS] at e3; cases e3) e3⟩
        · subst q
          have e : s.heap.objs.size = t := by simpa using hj
          subst e
          exact ⟨n0, x, y, by rw [hl]; exact hx, by rw [hl]; exact hy, eT⟩
        · rw [List.getElem?_eq_none (by rw [List.length_append, List.length_singleton]; omega)] at hj
          cases hj
    have hu' : its.toArray[i]? = some u := by simpa using hu
    have hu2' : its2.toArray[i]? = some u2 := by simpa using hu2
    obtain ⟨hTI, h1, h2, ⟨x0, y0, hTO⟩, hzz⟩ := st
    obtain ⟨o1, e1, q1⟩ := id h1
    obtain ⟨o2, e2, q2⟩ := id h2
    have notin : ∀ c, c ∉ [z, TI, TO, i1, i2] → c ≠ z ∧ c ≠ TO ∧ c ≠ i1 ∧ c ≠ i2 := fun c hc => ⟨fun q => hc (by simp [q]), fun q => hc (by simp [q]), fun q => hc (by simp [q]), fun q => hc (by simp [q])⟩
    have hn : (∃ o, s.heap.get? z = some o) → ∀ c ∈ [z, TI, TO, i1, i2], c ≠ s.heap.objs.size := fun hz c hc => old c hc (by
      have e' : c = z ∨ c = TI ∨ c = TO ∨ c = i1 ∨ c = i2 := by simpa using hc
      rcases e' with q | q | q | q | q
      · rw [q]; exact hz
      · rw [q]; exact ⟨_, hTI⟩
      · rw [q]; exact ⟨_, hTO⟩
      · rw [q]; exact ⟨_, e1⟩
      · rw [q]; exact ⟨_, e2⟩)
    rcases hzz with hz | ⟨T, f, w, hz, hT⟩
    · exact wpAny_bind (wpAny_pyNext_zip_item D hz hTI hTO h1 h2 p.isList p2.isList hu' hu2' fun h' z' TO' h1' h2' hT hsz hk => more h' (.inl z') h1' h2' (hk _ _ D.TIz D.TITO D.TIi1 D.TIi2 hTI) ⟨_, _, TO'⟩ hT (hn ⟨_, hz⟩) fun c o hc => hk c o (notin c hc).1 (notin c hc).2.1 (notin c hc).2.2.1 (notin c hc).2.2.2)
    · obtain ⟨_, _, _, oT, hoT, _⟩ := I.hok T _ hT
      exact wpAny_bind (wpAny_pyNext_zip_item_held D hz hoT hTI h1 h2 p.isList p2.isList hu' hu2' fun h' z' h1' h2' hTn hsz hk => more h' (.inr ⟨T, _, w, z', hT⟩) h1' h2' (hk _ _ D.TIz D.TIi1 D.TIi2 hTI) ⟨_, _, hk _ _ D.TOz D.TOi1 D.TOi2 hTO⟩ hTn (hn ⟨_, hz⟩) fun c o hc => hk c o (notin c hc).1 (notin c hc).2.2.1 (notin c hc).2.2.2)
end
def tLZ (K : PySem.W.Frag) (ta : TA) : TE := fun σ H Q => ta σ H fun vs H1 => ∃ (a b : Addr) (xs ys : List V), vs = [.ref a, .ref b] ∧ SqL K H1 a xs ∧ SqL K H1 b ys ∧ xs.length = ys.length ∧ xs.length ≤ 100000 ∧
  ∀ (p : Addr) (ts : List Addr) (H' : Hp), H1 p = none → (∀ q o, H1 q = some o → H' q = some o) → H' p = some (.lst (ts.map V.ref)) → ts.length = xs.length → Prs H1 H' xs ys ts → Q (.ref p) H'
theorem pe_listZip {X : Cx} {e e2 : Expr} {ta : TA} {p p2 pos pos2 : Pos} (hc : X.calm = true) (hgl : Gl X "list") (hml : X.mg "list" = none) (hg : Gl X "zip") (hm : X.mg "zip" = none) (ha : PA X [e, e2] ta)
    (same : ∀ {H H' : Hp} {c : Addr} {l : List V}, (∀ q o, H q = some o → H' q = some o) → SqL X.K H c l → SqL X.K H' c l)
    (hs : starEach [e, e2] X.env = (false, eval e X.env) :: starEach [e2] X.env := by rfl) (hpl : (backTo pos2 (starEach [e2] X.env)).any (·.1) = false := by rfl)
    (hz : starEach [Expr.Call (.Name "zip" p2) [e, e2] [] pos2] X.env = (false, eval (.Call (.Name "zip" p2) [e, e2] [] pos2) X.env) :: starEach [] X.env := by rfl) :
    PE X (.Call (.Name "list" p) [.Call (.Name "zip" p2) [e, e2] [] pos2] [] pos) (tLZ X.K ta) := by
  refine ⟨fun pins s σ H Q I h => ?_⟩
  refine wpAny_Call_Name_kw (ld_blt (u := .type "list") I hgl hml (by decide +kernel) ?_)
  refine PyProof.Rows.callWith_type1 ?_ hz rfl
  rw [hz]
  show wpAny _ _ (spliced ((false, eval (.Call (.Name "zip" p2) [e, e2] [] pos2) X.env) :: backTo pos (starEach [] X.env))) _ _ s
  refine Calls.spliced_cons ?_
  refine Call_ (ld_blt I hg hm PyProof.Rows.boot_zip (PyProof.Rows.callWith_type1 (thn (ha.run pos2 pins s σ H _ I h) fun us s1 ⟨vs, H1, I1, r1, q1⟩ => ?_) hs hpl))
  obtain ⟨a, b, xs, ys, ex, hqx, hqy, hlen, hsz, q⟩ := q1
  subst ex
  cases r1 with
  | cons r rr =>
    cases rr with
    | cons r' rr =>
      cases rr
      cases r
      cases r'
      obtain ⟨its, rv, p1, _⟩ := I1.list hqx
      obtain ⟨its2, rv2, p2', _⟩ := I1.list hqy
      have la : a < s1.heap.objs.size := p1.lt
      have lb : b < s1.heap.objs.size := p2'.lt
      refine call_zip_2 p1.isList p2'.isList fun h' hz' hTI hTO h1 h2 hsz' hk => Calls.spliced_nil ?_
      have I2 : Inv X pins σ H1 { s1 with heap := h' } := I1.kept (t' := s1.toks) hk
      have D := PySem.W.ktu_apart s1.heap.objs.size a b la lb
      have hf : ∀ c ∈ [s1.heap.objs.size + 4, s1.heap.objs.size + 2, s1.heap.objs.size + 3, s1.heap.objs.size, s1.heap.objs.size + 1], FpOk X pins H1 c := fun c hcm => by
        have hle : s1.heap.objs.size ≤ c := by
          have e' : c = s1.heap.objs.size + 4 ∨ c = s1.heap.objs.size + 2 ∨ c = s1.heap.objs.size + 3 ∨ c = s1.heap.objs.size ∨ c = s1.heap.objs.size + 1 := by simpa using hcm
          rcases e' with z | z | z | z | z
          · rw [z]; exact Nat.le_add_right _ _
          · rw [z]; exact Nat.le_add_right _ _
          · rw [z]; exact Nat.le_add_right _ _
          · rw [z]; exact Nat.le_refl _
          · rw [z]; exact Nat.le_add_right _ _
        exact I1.fpOk hle (I1.hok.fresh hle)
      have hzlt : s1.heap.objs.size + 4 < h'.objs.size := by omega
      generalize hz0 : s1.heap.objs.size + 4 = z at hz' hf D hzlt
      generalize hT1 : s1.heap.objs.size + 2 = TI at hTI hz' hf D
      generalize hT2 : s1.heap.objs.size + 3 = TO at hTO hz' hf D
      generalize hT4 : s1.heap.objs.size + 1 = i2 at h2 hTI hf D
      generalize hT3 : s1.heap.objs.size = i1 at h1 hTI hf D
      refine callType_codes (Q₁ := fun obj s₁ => obj = .ref h'.objs.size ∧ s₁ = { s1 with heap := h'.push { cls := .type "list", data := .seq #[] } }) PySem.F.called_list (PySem.F.typeCall_list_1 _) PySem.F.entry_list_init
        (code_list_new _ ⟨rfl, rfl⟩) fun obj s₁ h₁ => ?_
      obtain ⟨rfl, rfl⟩ := h₁
      have hS : (h'.push { cls := .type "list", data := .seq #[] }).get? h'.objs.size = some { cls := .type "list", data := .seq #[] } := Heap.get?_push_size _ rfl
      refine ⟨⟨_, hS, rfl⟩, PySem.F.args_list_init_2 _ _, ?_⟩
      have fr : H1 h'.objs.size = none := I2.hok.fresh (Nat.le_refl _)
      have I3 : Inv X pins σ (L2.upd H1 h'.objs.size (.lst [])) { s1 with heap := h'.push { cls := .type "list", data := .seq #[] } } := I2.lnew (its := []) (t' := s1.toks) .nil (Nat.zero_le _)
      show wpAny _ _ (do let old ← Builtin.List.listItems (.ref h'.objs.size); Builtin.List.listUpdate (.ref h'.objs.size) (fun _ => #[]); letGo old.toList.reverse; Builtin.List.listExtendWith (.ref h'.objs.size) (.ref z) .none) _ _ _
      refine wpAny_bind ?_
      unfold Builtin.List.listItems
      refine wpAny_bind (wpAny_seqItems hS rfl (wpAny_pure ?_))
      show wpAny _ _ (updateSeq h'.objs.size (fun _ => #[]) >>= fun _ => letGo (#[] : Array Value).toList.reverse >>= fun _ => Builtin.List.listExtendWith (.ref h'.objs.size) (.ref z) .none) _ _ _
      refine wpAny_bind (wpAny_updateSeq hS rfl ?_)
      have I4 := I3.lset (f := fun _ => #[]) (its := []) (its' := []) (ys := []) (t' := s1.toks) upd_same hS rfl .nil (Nat.zero_le _)
      rw [upd_upd] at I4
      have hS4 := Heap.get?_update_self (Obj.mapSeq (fun _ => (#[] : Array Value))) hS rfl
      have k4 : ∀ c o, c ≠ h'.objs.size → h'.get? c = some o → ((h'.push { cls := .type "list", data := .seq #[] }).update h'.objs.size (Obj.mapSeq (fun _ => (#[] : Array Value)))).get? c = some o := fun c o n e => (Heap.get?_update_other _ _ n.symm).trans (Heap.get?_push_of_some _ e)
      refine wpAny_bind (wpAny_letGo ?_)
      have nz : ∀ c o, h'.get? c = some o → c ≠ h'.objs.size := fun c o e => Nat.ne_of_lt (Heap.lt_size e)
      have st4 : ∀ (g : Heap), (∀ c o, c ≠ h'.objs.size → h'.get? c = some o → g.get? c = some o) → ∀ H : Hp, ZSt z TI TO i1 i2 a b 0 g H := fun g kg H => ⟨kg _ _ (nz _ _ hTI) hTI, h1.at fun o e => kg _ o (nz _ o e) e, h2.at fun o e => kg _ o (nz _ o e) e, ⟨_, _, kg _ _ (nz _ _ hTO) hTO⟩, .inl (kg _ _ (nz _ _ hz') hz')⟩
      have go : ∀ (g : Heap), (∀ c o, c ≠ h'.objs.size → h'.get? c = some o → g.get? c = some o) → Inv X pins σ (L2.upd H1 h'.objs.size (.lst [])) { s1 with heap := g } →
          codeAny (model X.prog X.w) X.A.in1 (.builtin "list.extend.loop" ⟨[.ref h'.objs.size, .ref z, .none], []⟩) (wants (fun r s₂ => r = .none ∧ EP X pins σ Q (.ref h'.objs.size) s₂) X.xe) { s1 with heap := g } := fun g kg I5 => by
        refine zl_loop (H0 := H1) (S := h'.objs.size) (A1 := X.A.in1) (I1.ok.hd hc) D hlen (Nat.le_trans hsz (by decide)) fr hqx hqy same ?_ _ 0 [] _ _ rfl (Nat.zero_le _) I5 (fun c hcm => fp_upd ?_ (hf c hcm)) (st4 g kg _) ?_ upd_same rfl (fun j t e => by simp at e)
        · intro H' acc s' I' S' hl' len' pr'
          exact ⟨rfl, .ref _, H', I', rfl, q _ acc H' fr S' hl' len' pr'⟩
        · have e' : c = z ∨ c = TI ∨ c = TO ∨ c = i1 ∨ c = i2 := by simpa using hcm
          obtain ⟨o1, e1, q1⟩ := id h1
          obtain ⟨o2, e2, q2⟩ := id h2
          rcases e' with y | y | y | y | y
          · rw [y]; exact nz _ _ hz'
          · rw [y]; exact nz _ _ hTI
          · rw [y]; exact nz _ _ hTO
          · rw [y]; exact nz _ _ e1
          · rw [y]; exact nz _ _ e2
        · intro q' o e
          rw [upd_ne fun y => by rw [y, fr] at e; cases e]
          exact e
      show wpAny _ _ (Builtin.List.listExtendWith (.ref h'.objs.size) (.ref z) .none) _ _ { s1 with heap := (h'.push { cls := .type "list", data := .seq #[] }).update h'.objs.size (Obj.mapSeq (fun _ => (#[] : Array Value))) }
      unfold Builtin.List.listExtendWith
      have hz4 := k4 _ _ (nz _ _ hz') hz'
      have hty : ∀ t, Shared.TypeIs ({ s1 with heap := (h'.push { cls := .type "list", data := .seq #[] }).update h'.objs.size (Obj.mapSeq (fun _ => (#[] : Array Value))), toks := t } : Shared) (.ref z) "zip" := fun t => ⟨_, hz4, rfl⟩
      refine wpAny_bind (wpAny_typeOf (hty _) ?_)
      have c1 : Builtin.List.listSameRef (.ref h'.objs.size) (.ref z) = false := by simp [Builtin.List.listSameRef, (nz _ _ hz').symm]
      have c2 : (Value.type "zip" == Value.type "list") = false := by decide
      have c3 : (Value.type "zip" == Value.type "tuple") = false := by decide
      simp only [c1, c2, c3, Bool.or_false, Bool.false_eq_true, if_false]
      refine wpAny_bind (wpAny_pyIter_zip hz4 ?_)
      refine wpAny_bind (wpAny_holding ?_)
      unfold Builtin.List.listLengthHint
      refine wpAny_bind (wpAny_specialOf (hty _) zl_nolen ?_)
      show wpAny _ _ (specialOf (Value.ref z) (Str.ofString "__length_hint__") >>= _) _ _ _
      refine wpAny_bind (wpAny_specialOf (hty _) zl_nohint ?_)
      refine wpAny_pure ?_
      show wpAny _ _ (rule "list.extend.makes-room" >>= fun _ => Builtin.List.listTouch (.ref h'.objs.size) >>= fun _ => again (.builtin "list.extend.loop" ⟨[.ref h'.objs.size, .ref z, .none], []⟩)) _ _ _
      refine wpAny_bind (wpAny_rule ?_)
      refine wpAny_bind ?_
      show wpAny _ _ (updateSeq h'.objs.size (·.push .none) >>= fun _ => updateSeq h'.objs.size (·.pop)) _ _ _
      refine wpAny_bind (wpAny_updateSeq hS4 rfl ?_)
      have I6 := I4.lset (f := (·.push Value.none)) (its := []) (its' := [Value.none]) (ys := [.non]) (t' := s1.toks) upd_same hS4 (by simp) (.cons rfl .nil) (by decide)
      rw [upd_upd] at I6
      have hS5 := Heap.get?_update_self (Obj.mapSeq (·.push Value.none)) hS4 rfl
      refine wpAny_updateSeq hS5 rfl ?_ (by decide) (by decide)
      have I7 := I6.lset (f := (·.pop)) (its := [Value.none]) (its' := []) (ys := []) (t' := s1.toks) upd_same hS5 (by rfl) .nil (Nat.zero_le _)
      rw [upd_upd] at I7
      exact wpAny_pure ⟨plainId_quiet PySem.F.plain_extend_loop _, go _ (fun c o n e => (Heap.get?_update_other _ _ n.symm).trans ((Heap.get?_update_other _ _ n.symm).trans (k4 c o n e))) I7⟩
end Wm
namespace Wm
open L2 PySem PySem.W
/-- a def to which a caught error is handed within the suite that caught it -/
structure FnE (P : Program) (w : World) (K : Frag) (mg : Str → Option Value) (base : Heap) (k : Nat) (f : Addr) (fd : FuncData) (ps : List Str)
    (sp : Addr → Value → Option Addr → Sp) : Prop where
  len : ∀ a cls d vs H Q E, sp a cls d vs H Q E → vs.length = ps.length
  run : ∀ (A : Around) (outer : List Env) (s : Shared) (H : Hp) (args : Args) (us : List Value) (vs : List V) (Q : VK) (E : XK) (a : Addr) (oe : Obj) (cls : Value) (d : Option Addr),
    L2H.RoomH k A → A.handled = some (.ref a) → Zc cls d oe → (∃ vs, oe.data = .fields vs) → L2H.PinOk outer H s (a, oe) → Env0 P w K mg base A outer s H →
    BindsTo s fd args (ps.zip us) → Vals vs us → sp a cls d vs H Q E → codeAny (model P w) A (.call (.ref f) args) (CR CX0 outer P w H s Q E) s
theorem mark_self {A : Around} {a : Addr} (h : A.handled = some (.ref a)) : A.mark (some (.ref a)) = A := by
  cases A
  simp only at h
  subst h
  rfl
theorem fn_ofE {P : Program} {w : World} {K : Frag} {mg : Str → Option Value} {base : Heap} {k : Nat} {f : Addr} {name qual : Str} {params : Arguments} {body : List Stmt} {scope : Scope}
    {dV kV doc pm cdv ct oc : Value} {an od : Option Addr} {osl : Array (Option Value)} {N ps : List Str} {sp : Addr → Value → Option Addr → Sp}
    (lk : List.lookup f K = some { cls := oc, dict := od, data := .func (fnOf name qual params body scope dV kV doc pm an cdv ct), slots := osl })
    (hcd : codeIn K cdv qual = true) (S : FnScope N ps scope)
    (len : ∀ a cls d vs H Q E, sp a cls d vs H Q E → vs.length = ps.length)
    (hbody : ∀ (A : Around) (outer : List Env) (s : Shared) (H : Hp) (vs : List V) (Q : VK) (E : XK) (a : Addr) (oe : Obj) (cls : Value) (d : Option Addr),
      Zc cls d oe → (∃ vs, oe.data = .fields vs) → L2H.RoomH k (A.deeper (PyProof.Rows.envOfC qual scope s.heap.objs.size f cdv)) → sp a cls d vs H Q E →
      ∃ t, PSs ((cxOf CX0 P w K mg base N qual scope f cdv A outer s H E).suite a [(a, oe)]) body t ∧ t { nx := fun _ H' => Q .non H', rt := Q } (L2.start N vs) H) :
    FnE P w K mg base (k + 1) f (fnOf name qual params body scope dV kV doc pm an cdv ct) ps sp where
  len := len
  run := by
    intro A outer s H args us vs Q E a oe cls d hr hh hz hf hpin e0 hb r hsp
    have KX := Frag.In.keeps e0.mod.kin fun b o e => (e0.bs b o e).1
    have lim := Heap.NoLimit.keeps e0.mod.nolimit fun b o e => (e0.bs b o e).1
    refine codeAny_call_function hr.depth (KX f _ lk) rfl S.co S.gen rfl (codeRec_of KX hcd) (hb _ A.in1 _ _ (wpAny_newFunctionEnv_cells S.kind ?_ ?_))
    · rintro ⟨n, v⟩ hy
      rcases S.par n (List.of_mem_zip hy).1 with q | q
      · exact Or.inl q
      · exact Or.inr ⟨q, cellsFrom_some scope.names (s.heap.objs.size + 1) [] (Or.inl q)⟩
    · intro env he s1 x
      subst he
      refine ⟨Heap.NoLimit.keeps lim x.toInCall.keep, codeAny_func ?_⟩
      obtain ⟨t, ht, hq⟩ := hbody A outer s H vs Q E a oe cls d hz hf (L2H.RoomH.deeper hr _) hsp
      have I := L2H.inv_startH (CX := CX0) (E := E) S hpin e0 (len _ _ _ _ _ _ _ hsp) r x
      have hm : (A.deeper (PyProof.Rows.envOfC qual scope s.heap.objs.size f cdv)).mark (some (.ref a)) = A.deeper (PyProof.Rows.envOfC qual scope s.heap.objs.size f cdv) := mark_self hh
      have o := I.ok
      have I2 : Inv ((cxOf CX0 P w K mg base N qual scope f cdv A outer s H E).suite a [(a, oe)]) [] (L2.start N vs) H s1 :=
        ⟨⟨o.mod, o.kind, o.glob, o.blt, o.above, o.inj, o.has, o.cab, (fun h => by cases h), o.frames, o.stk, o.exf, o.bs, o.bsz, o.noex, o.exfs, o.funs, o.frf⟩,
          I.os, I.bare, I.base, I.loc, I.cell, I.free, I.freeC, I.pin, I.hok, I.len⟩
      have go := ht.run [] s1 (L2.start N vs) H { nx := fun _ H' => Q .non H', rt := Q } I2 hq
      dsimp only [Cx.suite, cxOf] at go
      rw [hm] at go
      refine wpAny_mono go (fun fl s' hs => ?_) fun e s' hs => hs.elim
      cases fl with
      | next =>
        obtain ⟨σ', H', J, q⟩ := hs
        exact ⟨.non, H', J.os, J.bare, J.base, J.hok, rfl, q⟩
      | brk =>
        obtain ⟨_, _, _, q⟩ := hs
        exact q.elim
      | cont =>
        obtain ⟨_, _, _, q⟩ := hs
        exact q.elim
      | ret u =>
        obtain ⟨v, σ', H', J, rv, q⟩ := hs
        exact ⟨v, H', J.os, J.bare, J.base, J.hok, rv, q⟩
theorem FunE_ok {P : Program} {w : World} {K : Frag} {mg : Str → Option Value} {base : Heap} {x qual : Str} {st : Stmt} {f : Addr} {fd : FuncData} {N ps : List Str} {k : Nat} {sp : Addr → Value → Option Addr → Sp}
    (F : Fun K x qual st f fd) (S : FnScope N ps (defScope st))
    (len : ∀ a cls d vs H Q E, sp a cls d vs H Q E → vs.length = ps.length)
    (hbody : ∀ (cdv : Value) (A : Around) (outer : List Env) (s : Shared) (H : Hp) (vs : List V) (Q : VK) (E : XK) (a : Addr) (oe : Obj) (cls : Value) (d : Option Addr),
      Zc cls d oe → (∃ vs, oe.data = .fields vs) → L2H.RoomH k (A.deeper (PyProof.Rows.envOfC qual (defScope st) s.heap.objs.size f cdv)) → sp a cls d vs H Q E →
      ∃ t, PSs ((cxOf CX0 P w K mg base N qual (defScope st) f cdv A outer s H E).suite a [(a, oe)]) (defBody st) t ∧ t { nx := fun _ H' => Q .non H', rt := Q } (L2.start N vs) H) :
    FnE P w K mg base (k + 1) f fd ps sp := by
  obtain ⟨oc, od, kV, doc, pm, an, cdv, ct, osl, rfl, lk, hcd⟩ := F.ex
  exact fn_ofE lk hcd S len fun A outer s H vs Q E a oe cls d hz hf hr hsp => hbody cdv A outer s H vs Q E a oe cls d hz hf hr hsp
/-- the call f(e, ..) of such a def within the suite -/
def tCallE (sp : Sp) (t : TA) : TE := fun σ H Q => t σ H fun vs H1 => sp vs H1 Q (fun _ _ _ => False)
theorem pe_callE {X : Cx} {k : Nat} {f : Addr} {fd : FuncData} {ps : List Str} {sp : Addr → Value → Option Addr → Sp} {a : Addr} {oe : Obj} {cls : Value} {d : Option Addr} {pn : List (Addr × Obj)}
    {x : Str} {q pos : Pos} {e : Expr} {es : List Expr} {t : TA}
    (F : FnE X.prog X.w X.K X.mg X.base k f fd ps sp) (hr : L2H.RoomH k X.A) (hz : Zc cls d oe) (hf : ∃ vs, oe.data = .fields vs) (hg : Gl X x) (hm : X.mg x = some (.ref f))
    (hk : keepIn X.K (.ref f) = true) (hb : L2.Binds X.K fd ps []) (ha : PA (X.suite a ((a, oe) :: pn)) (e :: es) t)
    (hdb : (x == Str.ofString "__debug__") = false := by rfl) (he : starEach (e :: es) X.env = (false, eval e X.env) :: starEach es X.env := by rfl)
    (hpl : ((backTo pos (starEach es X.env)).any fun x => x.1) = false := by rfl) :
    PE (X.suite a ((a, oe) :: pn)) (.Call (.Name x q) (e :: es) [] pos) (tCallE (sp a cls d) t) where
  run := by
    intro pins s σ H Q I h
    refine wpAny_Call_Name_kw (ld_glob I hg hm (callWith_K I.ok.mod.kin hk (thn (ha.run pos pins s σ H _ I h) ?_) he hpl) hdb)
    rintro us s1 ⟨vs, H1, I1, r, h1⟩
    refine ⟨I1.kIn, ?_⟩
    have P1 := I1.pin (a, oe) (List.mem_append_left _ (List.mem_cons_self ..))
    have hp : L2H.PinOk X.stack H1 s1 (a, oe) := ⟨P1.1, P1.2.1, fun hx => (List.mem_cons.mp (I1.stkSub a hx)).elim P1.2.2.1 P1.2.2.2.1, P1.2.2.2.2⟩
    have hl : (us ++ []).length = ps.length := by rw [List.append_nil, ← r.length]; exact F.len _ _ _ _ _ _ _ h1
    have b := hb s1 us I1.kIn hl
    rw [List.append_nil] at b
    have hr2 : L2H.RoomH k (X.suite a ((a, oe) :: pn)).A := ⟨hr.dp, hr.un⟩
    refine wpAny_call (codeAny_mono (F.run (X.suite a ((a, oe) :: pn)).A X.stack s1 H1 ⟨us, []⟩ us vs Q _ a oe cls d hr2 rfl hz hf hp I1.env0 b r h1) fun r s' hq => ?_)
    cases r with
    | error e => exact hq.elim
    | ok fl =>
      cases fl with
      | next => exact hq.elim
      | brk => exact hq.elim
      | cont => exact hq.elim
      | ret u => exact I1.after hq
end Wm
namespace Wm
open PySem L2 PySem.W
/-- an object made where what a refusal is to bring hangs on the slots -/
def tMakeS (C : Addr) (sp : Sp) (E : St → XK) (t : TA) : TE := fun σ H Q => t σ H fun vs H1 => ∀ x dx, H1 x = none → H1 dx = none → dx ≠ x → sp (.ref x :: vs) (upd (upd H1 dx (.own x)) x (.ins C dx [])) (fun v H2 => v = .non ∧ Q (.ref x) H2) (E σ)
theorem pe_makeS {X : Cx} {CX : CXT} {k : Nat} {f C : Addr} {fd : FuncData} {ps : List Str} {sp : Sp} {E : St → XK} {x : Str} {p pos : Pos} {e : Expr} {es : List Expr} {t : TA}
    (M : Mk X.K C f) (F : FnOk X.prog X.w X.K X.mg X.base CX k f fd ps sp) (hr : Room (k + 1) X.A) (hg : Gl X x) (hm : X.mg x = some (.ref C)) (hb : L2.Binds X.K fd ps [])
    (hx : ∀ σ, PassesAt CX X σ (E σ)) (ha : PA X (e :: es) t)
    (hdb : (x == Str.ofString "__debug__") = false := by rfl) (he : starEach (e :: es) X.env = (false, eval e X.env) :: starEach es X.env := by rfl)
    (hpl : ((backTo pos (starEach es X.env)).any fun x => x.1) = false := by rfl) :
    PE X (.Call (.Name x p) (e :: es) [] pos) (tMakeS C sp E t) where
  run := by
    intro pins s0 σ H0 Q I0 h0
    refine wpAny_Call_Name_kw (ld_glob I0 hg hm (callWith_K I0.ok.mod.kin M.kp (thn (ha.run pos pins s0 σ H0 _ I0 h0) ?_) he hpl) hdb)
    rintro us s ⟨vs, H, I, r, h⟩
    refine ⟨I.kIn, ?_⟩
    have hq := h (s.heap.objs.size + 1) s.heap.objs.size (HOk.fresh I.hok (Nat.le_succ _)) (HOk.fresh I.hok (Nat.le_refl _)) (Nat.ne_of_lt (Nat.lt_succ_self _))
    have I2 := Inv.made (C := C) I
    have r2 : Vals (V.ref (s.heap.objs.size + 1) :: vs) (Value.ref (s.heap.objs.size + 1) :: us) := Paired.cons rfl r
    have hl : ((Value.ref (s.heap.objs.size + 1) :: us) ++ []).length = ps.length := by
      rw [List.append_nil, ← r2.length]
      exact F.len _ _ _ _ hq
    have bd := hb ⟨(s.heap.push emptyDict).push (instObj C s.heap.objs.size), s.gens, s.drawn, s.toks, s.os⟩ _ I2.kIn hl
    rw [List.append_nil] at bd
    refine wpAny_call (make_map I.kIn M.makes M.init (beq_iff_eq.mp M.fn) (codeAny_mono (F.run _ X.stack _ _ _ _ _ _ (E σ) (Room.make hr C us []) (Env0.make I2.env0 C us []) bd r2 hq) fun r s' hq' => ?_))
    cases r with
    | error e => exact hx σ pins _ _ e s' I2 hq'
    | ok fl =>
      cases fl with
      | next => exact hq'.elim
      | brk => exact hq'.elim
      | cont => exact hq'.elim
      | ret u =>
        obtain ⟨v, H', I3, rv, rfl, q3⟩ := I2.after (Q := fun v H2 => v = .non ∧ Q (.ref (s.heap.objs.size + 1)) H2) hq'
        exact ⟨rv, .ref (s.heap.objs.size + 1), H', I3, rfl, q3⟩
end Wm
/-! lists walked to their end while an error is handled: sum, comprehensions -/
namespace Wm
open PySem PySem.Spec PyProof.Rows L2 HotX
section
variable {prog : Program} {w : World} {A : Around} {E : Value → Shared → Prop} {s : Shared}
/-- a list iterator at its end: the StopIteration gets the handled error as its context, nothing else is touched -/
theorem next_end_hot {it l x1 : Addr} {i : Nat} {items : Array Value} {Q : Option Value → Shared → Prop} (hot : HotAt A x1 s.heap) (hne : x1 ≠ it) (hit : s.heap.IsListIter it l i) (hl : s.heap.IsList l items) (hx : items[i]? = none)
    (hQ : ∀ h', Heap.ExtBut it s.heap h' → Q none { s with heap := h' }) : wpAny (model prog w) A (pyNext (.ref it)) Q E s := by
  obtain ⟨hh, o1, vs1, g1, f1, c1⟩ := hot
  obtain ⟨oi, gi, ci, di⟩ := id hit
  obtain ⟨ol, gl, _, nl, dl⟩ := hl
  have slot := slot_listiter_next
  unfold pyNext
  refine wpAny_bind (wpAny_attempt (wpAny_callSpecial?_slot (name := Str.ofString "__next__") hit.typeIs slot (wpAny_call_entry slot hit.typeIs entry_listiter_next ?_ (args_listiter_next _))))
  have rd0 : ∀ {Q' : Value → Shared → Prop} {E'} {A'}, Q' (.ref l) s → wpAny (model prog w) A' (field (.ref it) 0) Q' E' s := fun q => wpAny_field gi di (x := .ref l) rfl q
  have rd1 : ∀ {Q' : Value → Shared → Prop} {E'} {A'}, Q' (.int i 0) s → wpAny (model prog w) A' (field (.ref it) 1) Q' E' s := fun q => wpAny_field gi di (x := .int i 0) rfl q
  show wpAny _ _ (field (.ref it) 0 >>= _) _ _ s
  refine wpAny_bind (rd0 ?_)
  show wpAny _ _ (if (Value.ref l == Value.none) = true then _ else _) _ _ s
  rw [if_neg (show ¬ ((Value.ref l == Value.none) = true) from Bool.false_ne_true)]
  show wpAny _ _ (field (.ref it) 1 >>= _) _ _ s
  refine wpAny_bind (rd1 ?_)
  show wpAny _ _ (seqItems? (.ref l) >>= _) _ _ s
  refine wpAny_bind (wpAny_seqItems gl dl ?_)
  simp only [Int.toNat_natCast, hx]
  refine wpAny_bind (wpAny_rule (wpAny_bind (wpAny_setField gi di (by simp) ?_)))
  show wpAny _ _ (newExc (.type "StopIteration") [] >>= _) _ _ _
  refine wpAny_bind ?_
  simp only [newExc, newTuple]
  refine wpAny_bind (wpAny_newObj_type ?_ (by size_fits))
  refine wpAny_bind (m := firstArgMember _ _) (wpAny_of_eq (a := Value.none) (by first | rfl | (simp only [firstArgMember]; rfl)) ?_)
  refine wpAny_newObj_type ?_ (by size_fits)
  refine raiseNew_hot ⟨hh, o1, vs1, (((Heap.SameBut.update ..).extBut.push _).push _) x1 o1 hne g1, f1, c1⟩ (Nat.ne_of_lt (Heap.lt_size (((Heap.SameBut.update ..).extBut.push _) x1 o1 hne g1))) (Heap.get?_push_size _ rfl) rfl (by first | (simp; done) | (simp; omega) | (simp only [Array.size_append]; simp; omega)) ?_
  refine wpAny_bind (wpAny_isInstance (T := "StopIteration") (b := true) ⟨_, Heap.get?_update_self _ (Heap.get?_push_size _ rfl) rfl, rfl⟩ isSubtype_stop ?_)
  refine wpAny_pure (hQ _ fun b o nb e => ?_)
  rw [Heap.get?_update_other _ _ (Nat.ne_of_gt (Heap.lt_size (((Heap.SameBut.update ..).extBut.push _) b o nb e)))]
  exact (((Heap.SameBut.update ..).extBut.push _).push _) b o nb e
/-- the walk over a list, the handled error's object kept in sight -/
theorem walks_hot {x1 : Addr} {o1 : Obj} {v1 : Array Value} (hh : A.handled = some (.ref x1)) (d1 : o1.data = .fields v1) (c1 : v1[2]? = some .none) (I ax : Addr) (hne : ax ≠ I) (hx : x1 ≠ I) (items : Array Value) :
    Walks prog w A I [I, ax, x1] [I] items.size (fun i v => items[i]? = some v) (fun i h => h.IsListIter I ax i ∧ h.IsList ax items ∧ h.get? x1 = some o1) where
  sub := fun b hb => by
    rw [List.mem_singleton.mp hb]
    exact List.mem_cons_self
  frame := fun i h h' ⟨a, b, c⟩ k => ⟨a.at fun o e => k I (by simp) o e, b.at fun o e => k ax (by simp) o e, k x1 (by simp) o1 c⟩
  item := fun i s Q E hi ⟨a, b, c⟩ q => by
    refine wpAny_pyNext_list_item a b (Array.getElem?_eq_getElem hi) fun h' a' sb => ?_
    exact q _ h' s.toks (Array.getElem?_eq_getElem hi) ⟨a', b.at fun o e => (sb.2 ax hne).trans e, (sb.2 x1 hx).trans c⟩ fun y o ny e => (sb.2 y (fun z => ny (by rw [z]; exact List.mem_cons_self))).trans e
  done := fun s Q E ⟨a, b, c⟩ q => next_end_hot ⟨hh, o1, v1, c, d1, c1⟩ hx a b (Array.getElem?_eq_none (Nat.le_refl _)) fun h' eb => q h' s.toks fun y o ny e => eb y o (fun z => ny (by rw [z]; exact List.mem_cons_self)) e
  self := fun i s Q E ⟨a, _, _⟩ q => wpAny_pyIter_listiter a q
theorem sum_hot {l x1 : Addr} {o1 : Obj} {v1 : Array Value} {its : List Value} {ns : List Int} {Q : Value → Shared → Prop} (hh : A.handled = some (.ref x1)) (g1 : s.heap.get? x1 = some o1) (d1 : o1.data = .fields v1) (c1 : v1[2]? = some .none) (hl : s.heap.IsList l its.toArray) (hi : IntsAre its ns)
    (h : ∀ h' tk t', (∀ b o, s.heap.get? b = some o → h'.get? b = some o) → Q (.int ns.sum t') { s with heap := h', toks := tk }) : wpAny (model prog w) A (call (.builtin "sum") [.ref l]) Q E s := by
  obtain ⟨xs, e⟩ := hi.allInts.items
  have hn : numsOf (intItems xs).toList = ns := by rw [← e]; exact hi.numsOf
  rw [nums_intItems] at hn
  rw [e] at hl
  refine call_sum_walkG (iter_intList hl fun s2 e2 st fpl hlI => ?_)
  subst e2
  have hx : x1 ≠ s.heap.objs.size := Nat.ne_of_lt (Heap.lt_size g1)
  refine ⟨_, _, _, _, _, _, numAt xs, rfl, walks_hot (A := A.in1) hh d1 c1 _ l hlI hx (intItems xs), ⟨st.1, st.2, Heap.get?_push_of_some _ g1⟩, fun b hb => ?_, (fun _ _ => intItems_at), fun h' tk t' hk => ?_⟩
  · rcases List.mem_cons.mp hb with z | hb
    · exact fpl b (by rw [z]; simp)
    rcases List.mem_cons.mp hb with z | hb
    · exact fpl b (by rw [z]; simp)
    · rw [List.mem_singleton.mp hb]
      exact Heap.lt_size (Heap.get?_push_of_some _ g1)
  · have q := h h' tk t' (old_kept hk)
    have e3 : preSum (numAt xs) (intItems xs).size = ns.sum := by
      rw [preSum_eq, List.take_of_length_le (by simp [intItems]), hn]
    rw [e3]
    exact q
end
section
variable {X : Cx} {a : Addr} {oe : Obj} {vf : Array Value} {pn : List (Addr × Obj)}
theorem cr_sumH (hf : oe.data = .fields vf) (hn : vf[2]? = some .none) : CallR (X.suite a ((a, oe) :: pn)) (.builtin "sum") (rSum X.K) := by
  intro pins s σ H vs us Q I r h
  obtain ⟨l, ns, rfl, hs, q⟩ := h
  obtain ⟨its, rv, hl, _⟩ := I.list hs
  have P1 := I.pin (a, oe) (List.mem_append_left _ (List.mem_cons_self ..))
  rw [Vals.ref1 r]
  exact sum_hot (x1 := a) rfl P1.1 hf hn hl.isList rv.ints fun h' tk t' hk => ⟨.int _, H, I.kept hk, ⟨_, rfl⟩, q⟩
end
end Wm
/-! [elt for target in a list], no tests, while an error is handled -/
namespace Wm
open PySem PySem.Spec PyProof.Rows L2 HotX
/-- W i: what holds ahead of the turn i -/
def tLcH (K : PySem.W.Frag) (tl : TE) (g : TG) (te : TE) (vs : List Nat) : TE := fun σ H Q => tl σ H fun v H1 => ∃ (l : Addr) (xs : List V), v = .ref l ∧ SqL K H1 l xs ∧ ∀ D, H1 D = none → ∃ W : Nat → Hp → Prop, W 0 (upd H1 D (.lst [])) ∧ (∀ i H', W i H' → SqL K H' l xs) ∧
  (∀ i x H', xs[i]? = some x → W i H' → g x (wipe σ vs) H' fun σ2 H2 => wipe σ2 vs = wipe σ vs ∧ te σ2 H2 fun y H4 => ∃ acc, H4 D = some (.lst acc) ∧ acc.length < sizeLine ∧ W (i + 1) (upd H4 D (.lst (acc ++ [y])))) ∧ ∀ H', W xs.length H' → Q (.ref D) H'
section
variable {X : Cx} {a : Addr} {oe : Obj} {vf : Array Value}
theorem pe_lcH {elt tg l : Expr} {scope : Scope} {own : List (Str × Nat)} {pos : Pos} {tl : TE} {g : TG} {te : TE} (hA : X.A.handled = some (.ref a)) (hpn : (a, oe) ∈ X.pn) (hf : oe.data = .fields vf) (hn : vf[2]? = some .none) (hN : X.N.Nodup) (hl : PE X l tl) (ok : BlkOk X.N X.env.scope scope own)
    (hg : ∀ (s : Shared) (H : Hp) (C : Addr) (cl : List (Str × Addr)) (fp : List Addr), PG (X.blk s H scope (compEnvC scope cl C X.env) fp) tg g)
    (he : ∀ (s : Shared) (H : Hp) (C : Addr) (cl : List (Str × Addr)) (fp : List Addr), PE (X.blk s H scope (compEnvC scope cl C X.env) fp) elt te) (hs : ∀ x, foldedSetIterable l X.env x = pure x := by intro _; rfl) :
    PE X (.ListComp elt [⟨tg, l, [], 0⟩] scope pos) (tLcH X.K tl g te (own.map (·.2))) := by
  refine ⟨fun pins s σ H Q I h => ?_⟩
  rw [eval_ListComp]
  have cells : ∀ y ∈ scope.names, y.2 = .free → ∃ c, X.env.cells.lookup y.1 = some c := fun y hy e => (ok.free y hy e).elim (fun k => I.ok.has _ (.inl k)) (fun k => I.ok.has _ (.inr k))
  refine wpAny_comprehension_free (use := none) rfl hs (closure_ok cells) ok.kind (fun y hy e => by rw [ok.uniq y hy, e]) (thn (hl.run pins s σ H _ I h) fun v s1 ⟨x, H1, I1, r1, q1⟩ => ?_)
  obtain ⟨la, xs, rfl, hq, q⟩ := q1
  cases r1
  obtain ⟨its, rv, p, hz⟩ := I1.list hq
  refine wpAny_pyIter_list p.isList ?_
  -- the iterator, the new list, the block
  generalize hit : s1.heap.objs.size = it
  have itn : H1 it = none := I1.hok.fresh (Nat.le_of_eq hit)
  have I2 : Inv X pins σ H1 { s1 with heap := s1.heap.push { cls := .type "list_iterator", data := .fields #[.ref la, .int 0 0] } } := I1.kept (t' := s1.toks) fun b o e => Heap.get?_push_of_some _ e
  have st2 : ({ s1 with heap := s1.heap.push { cls := .type "list_iterator", data := .fields #[.ref la, .int 0 0] } } : Shared).heap.IsListIter it la 0 := by
    rw [← hit]
    exact ⟨_, Heap.get?_push_size _ rfl, rfl, rfl⟩
  have fp2 : FpOk X pins H1 it := I1.fpOk (Nat.le_of_eq hit) itn
  generalize hs2 : ({ s1 with heap := s1.heap.push { cls := .type "list_iterator", data := .fields #[.ref la, .int 0 0] } } : Shared) = s2 at I2 st2 ⊢
  refine wpAny_newObj_type (newEnv_comp ?_) (by show 0 ≤ sizeLine; decide)
  generalize hD : s2.heap.objs.size = D
  have Dn : H1 D = none := I2.hok.fresh (Nat.le_of_eq hD)
  have itD : it ≠ D := fun z => by
    obtain ⟨o, e, _⟩ := st2
    exact absurd (Heap.lt_size e) (by rw [z, ← hD]; exact Nat.lt_irrefl _)
  obtain ⟨W, w0, wq, step, fin⟩ := q D Dn
  have I3 : Inv X pins σ (upd H1 D (.lst [])) { s2 with heap := s2.heap.push { cls := .type "list", data := .seq ([] : List Value).toArray } } := by
    refine I2.laid (t' := s2.toks) (fun b o e => Heap.get?_push_of_some _ e) (Nat.le_of_eq hD) ⟨Nat.zero_le _, [], 0, .nil, ?_⟩
    rw [← hD]
    exact Heap.get?_push_size _ rfl
  have st3 : ({ s2 with heap := s2.heap.push { cls := .type "list", data := .seq ([] : List Value).toArray } } : Shared).heap.IsListIter it la 0 := st2.at fun o e => Heap.get?_push_of_some _ e
  generalize ({ s2 with heap := s2.heap.push { cls := .type "list", data := .seq ([] : List Value).toArray } } : Shared) = s3 at I3 st3 ⊢
  generalize hH3 : upd H1 D (.lst []) = H3 at I3 w0
  have it3 : H3 it = none := by rw [← hH3, upd_ne itD]; exact itn
  have fp3 : ∀ b ∈ [it], FpOk X pins H3 b ∧ b < s3.heap.objs.size := fun b hb => by
    rw [List.mem_singleton.mp hb]
    obtain ⟨o, e, _⟩ := st3
    exact ⟨⟨it3, fp2.2⟩, Heap.lt_size e⟩
  have I4 := block_start I3 ok hN fp3
  have pg := hg s3 H3 s3.heap.objs.size (cellsFrom (s3.heap.objs.size + 1) scope.names (cloFrom X.env.cells scope.names [])) [it]
  have pe := he s3 H3 s3.heap.objs.size (cellsFrom (s3.heap.objs.size + 1) scope.names (cloFrom X.env.cells scope.names [])) [it]
  have P3 := I3.pin (a, oe) (List.mem_append_left _ hpn)
  have aS : a ∉ frs X.stack := fun z => (List.mem_cons.mp (I3.stkSub a z)).elim P3.2.2.1 P3.2.2.2.1
  have aI : a ≠ it := fun z => fp2.2.2.2.2.2 (a, oe) (List.mem_append_left _ hpn) z
  show codeAny _ _ (.compStart (.ListComp elt [⟨tg, l, [], 0⟩] scope pos) 0 (.ref it) (.ref D) (compEnvC scope (cellsFrom (s3.heap.objs.size + 1) scope.names (cloFrom X.env.cells scope.names [])) s3.heap.objs.size X.env)) _ { s3 with heap := pushCells (s3.heap.push { cls := .type "dict", data := .dict #[] }) scope.names }
  generalize hce : compEnvC scope (cellsFrom (s3.heap.objs.size + 1) scope.names (cloFrom X.env.cells scope.names [])) s3.heap.objs.size X.env = ce at I4 pg pe ⊢
  have cL : ce.locals = s3.heap.objs.size := by subst hce; rfl
  have st4 : ({ s3 with heap := pushCells (s3.heap.push { cls := .type "dict", data := .dict #[] }) scope.names } : Shared).heap.IsListIter it la 0 := st3.at fun o e => pushCells_keeps _ _ _ _ (Heap.get?_push_of_some _ e)
  generalize ({ s3 with heap := pushCells (s3.heap.push { cls := .type "dict", data := .dict #[] }) scope.names } : Shared) = s4 at I4 st4 ⊢
  -- the iterator stands apart in every state of the block
  have apart : ∀ {σ' : L2.St} {H' : Hp} {s' : Shared}, Inv (X.blk s3 H3 scope ce [it]) [] σ' H' s' → H' it = none → FpOk (X.blk s3 H3 scope ce [it]) [] H' it := fun {σ' H' s'} I' z =>
    have m : it ∈ [it] := List.mem_cons_self
    ⟨z, (I'.ok.exf it m).1, I'.ok.exfs it m, .inl m, fun y c e => (I'.ok.exf it m).2 y c e, fun p hp => (List.not_mem_nil (show p ∈ ([] : List (Addr × Obj)) from hp)).elim⟩
  have loop : codeAny (model X.prog X.w) X.A (.compLoop (.ListComp elt [⟨tg, l, [], 0⟩] scope pos) 0 (.ref it) (.ref D) ce) (compPost (model X.prog X.w) X.A X.xe none (EP X pins σ Q) (.ref D) s3.heap.objs.size) s4 := by
    refine compLoop_any (fun n s' => ∃ i H', i + n = xs.length ∧ Inv (X.blk s3 H3 scope ce [it]) [] (wipe σ (own.map (·.2))) H' s' ∧ s'.heap.IsListIter it la i ∧ H' it = none ∧ W i H') ?_ xs.length ⟨0, H3, Nat.zero_add _, I4, st4, it3, w0⟩
    rintro n s5 ⟨i, H5, hi, I5, st5, n5, w5⟩
    obtain ⟨its5, rv5, p5, _⟩ := I5.list (wq i H5 w5)
    have hl5 := rv5.length
    have F5 := apart I5 n5
    obtain ⟨f0, f1, f2, f3, f4, f5⟩ := F5
    cases n with
    | zero =>
      have hot : HotAt X.A a s5.heap := ⟨hA, oe, vf, I5.base.keep a oe P3.1 P3.2.1 aS (fun z => aI (List.mem_singleton.mp z)), hf, hn⟩
      refine next_end_hot hot aI st5 p5.isList (by simp; omega) fun h' eb => ?_
      have I6 : Inv (X.blk s3 H3 scope ce [it]) [] (wipe σ (own.map (·.2))) H5 { s5 with heap := h' } := I5.turned (t' := s5.toks) (fun b o hb e => eb b o hb e) f0 f1 f3 f4 f5
      have I7 : Inv X pins σ H5 { s5 with heap := h' } := I3.call' (ch := [it]) I6.os I6.base I6.hok I6.bare fun b hb => ⟨(fp3 b hb).1.2.2.2.1, (fp3 b hb).1.2.1, (fp3 b hb).1.2.2.2.2.1, (fp3 b hb).1.2.2.2.2.2⟩
      have nC : H5 s3.heap.objs.size = none := by
        rw [← cL]
        exact I6.free
      obtain ⟨m, hm, _⟩ := I6.loc
      have hm : ({ s5 with heap := h' } : Shared).heap.Ns ce.locals m := hm
      rw [cL] at hm
      obtain ⟨k0, k1, k2, k3, k4, k5⟩ := I3.fpOk (Nat.le_refl _) nC
      refine ⟨m, hm, fun h'' sb => ⟨.ref D, H5, I7.turned (t' := s5.toks) (fun b o hb e => (sb.2 b hb).trans e) k0 k1 k3 k4 k5, rfl, fin H5 ?_⟩⟩
      have e : i = xs.length := by omega
      rw [← e]
      exact w5
    | succ n =>
      have hlt : i < xs.length := by omega
      obtain ⟨u, hu, ru⟩ := rv5.get (List.getElem?_eq_getElem hlt)
      refine wpAny_pyNext_list_item st5 p5.isList (x := u) (by simpa using hu) fun h' st6 sb => ?_
      have I6 : Inv (X.blk s3 H3 scope ce [it]) [] (wipe σ (own.map (·.2))) H5 { s5 with heap := h' } := I5.turned (t' := s5.toks) (fun b o hb e => (sb.2 b hb).trans e) f0 f1 f3 f4 f5
      obtain ⟨o6, e6, c6, d6⟩ := id st6
      refine go_of (s := { s5 with heap := h' }) e6 c6 d6 (by decide) ?_
      have I6' := I6.pinned (fp := [it]) (fun b hb => by rw [List.mem_singleton.mp hb]; exact apart I6 n5) (fun b hb => by rw [List.mem_singleton.mp hb]; exact ⟨o6, e6, fun v z => by rw [d6] at z; cases z⟩)
      refine thnF (pg.run _ _ _ H5 _ u _ I6' ru (step i _ H5 (List.getElem?_eq_getElem hlt) w5)) fun _ s8 ⟨σ8, H8, I8, hw8, q8⟩ => ?_
      refine wpAny_tests_nil ?_
      simp only [if_true]
      refine thnF (pe.run _ s8 σ8 H8 _ I8 q8) fun z s10 ⟨yv, H10, I10, r10, acc, hD10, hz10, nx⟩ => ?_
      refine app_ok (X := X.blk s3 H3 scope ce [it]) I10 hD10 hz10 r10 fun s11 I11 => ?_
      have pin := I11.pin (it, o6) (List.mem_append_right _ (List.mem_append_right _ (mem_pinsAt List.mem_cons_self e6)))
      refine ⟨n, Nat.lt_succ_self n, i + 1, _, by omega, (I11.unpinned (pins := [])).weak (by rw [← hw8, wipe_length]) (fun j v e => ?_), st6.at fun o e => ?_, pin.2.1, nx⟩
      · rw [← hw8] at e
        exact (wipe_some e).1
      · rw [e6] at e
        cases e
        exact pin.1
  exact codeAny_compStart_list loop (wpAny_pyIter_listiter st4 loop)
end
end Wm
/-! own errors whose context is known to be None, from raise to the suite that hands them on -/
namespace Wm
open PySem PySem.Spec PyProof.Rows L2
section
variable {X : Cx} {e : Expr} {es : List Expr} {ta : TA} {p pos : Pos}
/-- an own error made: its context is None -/
theorem pmkN_oex {CX : CXT} {x : Str} {C fI : Addr} {k : Nat} {fd : FuncData} {ps : List Str} {sp : Sp} (T : OexC X.K C) (iC : PySem.W.findIn X.K (.ref C) "__init__" = some (some (.ref fI))) (tI : PySem.W.typeIn X.K (.ref fI) = some (.type "function"))
    (G : FnOk X.prog X.w X.K X.mg X.base CX k fI fd ps sp) (hr : Room (k + 1) X.A) (hb : L2.Binds X.K fd ps []) (hx : Passes CX X (fun _ _ _ => False)) (hg : Gl X x) (hm : X.mg x = some (.ref C)) (ha : PA X (e :: es) ta)
    (hdb : (x == ("__debug__" : Str)) = false := by decide) (he : starEach (e :: es) X.env = (false, eval e X.env) :: starEach es X.env := by rfl) (hpl : (backTo pos (starEach es X.env)).any (·.1) = false := by rfl) :
    L2N.PMk X (.Call (.Name x p) (e :: es) [] pos) (tMkO C sp [] ta) := by
  intro pins s σ H Q I h
  obtain ⟨nm, q, N, bs, bm, sn, sub, ab, col, dd, k0, k1, k2, k3, k5, hC, hbm⟩ := T.cls
  refine wpAny_Call_Name_kw (ld_glob I hg hm (PySem.W.callWith_K (h₀ := X.base) I.ok.mod.kin T.kC (thn (ha.run pos pins s σ H _ I h) ?_) he hpl) hdb)
  rintro us ⟨hp, g, dr, tk, os⟩ ⟨vs, H1, I1, r1, hz, q1⟩
  refine ⟨I1.kIn, ?_⟩
  generalize hA : hp.objs.size + 1 = A1 at *
  have le : hp.objs.size ≤ A1 := by omega
  have fr : H1 A1 = none := I1.hok.fresh le
  have hq := q1 A1 fr
  rw [List.append_nil] at hq
  have kp : ∀ b o, hp.get? b = some o → ((hp.push (PySem.W.kdv_tup us)).push (PySem.HandSPX.excO C hp.objs.size)).get? b = some o := fun b o z => Heap.get?_push_of_some _ (Heap.get?_push_of_some _ z)
  have new : ((hp.push (PySem.W.kdv_tup us)).push (PySem.HandSPX.excO C hp.objs.size)).get? A1 = some (PySem.HandSPX.excO C hp.objs.size) := by
    rw [← hA]
    heap_get
  have I2 : Inv X pins σ (upd H1 A1 (exo A1 C none)) ⟨(hp.push (PySem.W.kdv_tup us)).push (PySem.HandSPX.excO C hp.objs.size), g, dr, tk, os⟩ := I1.laid (t' := tk) (a := A1) (o := exo A1 C none) kp le (exo_ok new)
  have r2 : Vals (V.ref A1 :: vs) (Value.ref A1 :: us) := .cons rfl r1
  have ln : (Value.ref A1 :: us ++ []).length = ps.length := by
    rw [List.append_nil, ← r2.length]
    exact G.len _ _ _ _ hq
  have b2 := hb _ (Value.ref A1 :: us) I2.kIn ln
  rw [List.append_nil] at b2
  have big : us.length ≤ sizeLine := by
    rw [← Paired.length r1, sizeLine_eq]
    omega
  subst hA
  refine wpAny_call (PySem.HandSPX.call_own F.excBase_ValueError (fun Y => PySem.HandSPX.refsVE_contains Y bm hbm) (I1.kIn _ _ hC) (PySem.W.looks_findIn I1.kIn iC) (fun self => PySem.W.bind_fn I1.kIn self tI) big
    (codeAny_mono (G.run _ X.stack _ _ _ _ _ _ (fun _ _ _ => False) (hr.make C us []) (I2.env0.make C us []) b2 r2 hq) fun r s' hq' => ?_))
  cases r with
  | error er => exact hx pins σ _ _ er s' I2 hq'
  | ok fl =>
    cases fl with
    | next => exact hq'.elim
    | brk => exact hq'.elim
    | cont => exact hq'.elim
    | ret u =>
      obtain ⟨v, H2, os2, bare2, un2, hok2, rv, rfl, d, fs, ea, ed, hd1, q2⟩ := hq'
      obtain ⟨h2, g2, d2, t2, os'⟩ := s'
      obtain ⟨t0, W, J, kW, ge, hoe, na⟩ := mk_end0 (d2 := d2) (t2 := t2) I1 le kp un2 hok2 os2 bare2 ea ed hd1
      refine ⟨rv, hp.objs.size + 1, _, _, ⟨W, g2, d2, t2, os'⟩, _, .ref C, some d, rfl, J, kW, ge, hoe, ⟨rfl, rfl, fun vs hv => ?_⟩, rfl, rfl, na, rfl, bare2, raises_own T.exC T.tyC, q2⟩
      cases hv
      rfl
end
section
variable {P : Program} {w : World} {K : PySem.W.Frag} {mg : Str → Option Value} {base : Heap}
theorem okN {x qual : Str} {st : Stmt} {f : Addr} {fd : FuncData} {N ps : List Str} {k : Nat} {sp : Sp} (F : Fun K x qual st f fd) (S : FnScope N ps (defScope st)) (len : ∀ vs H Q E, sp vs H Q E → vs.length = ps.length)
    (hbody : ∀ (cdv : Value) (A : Around) (outer : List Env) (s : Shared) (H : Hp) (vs : List V) (Q : VK) (E : XK), Room k (A.deeper (envOfC qual (defScope st) s.heap.objs.size f cdv)) → sp vs H Q E →
      ∃ t, PSs (cxOf (L2N.CX P w) P w K mg base N qual (defScope st) f cdv A outer s H E) (defBody st) t ∧ t { nx := fun _ H' => Q .non H', rt := Q } (L2.start N vs) H) : FnOk P w K mg base (L2N.CX P w) (k + 1) f fd ps sp := by
  obtain ⟨oc, od, kV, doc, pm, an, cdv, ct, osl, rfl, lk, hcd⟩ := F.ex
  exact fn_of lk hcd S len fun A outer s H vs Q E hr hsp => hbody cdv A outer s H vs Q E hr hsp
end
/-- around a body nothing is let out -/
theorem takesN0 {X : Cx} : L2N.Takes X (fun _ _ _ _ => False) := fun _ _ x => by
  obtain ⟨_, _, _, _, _, _, _, _, _, _, _, _, _, _, _, _, z⟩ := x
  exact z.elim
end Wm
namespace Wm
open L2 PySem PySem.W
/-- a def to which a caught error is handed within the suite that caught it -/
structure FnEN (P : Program) (w : World) (K : Frag) (mg : Str → Option Value) (base : Heap) (k : Nat) (f : Addr) (fd : FuncData) (ps : List Str)
    (sp : Addr → Value → Option Addr → Sp) : Prop where
  len : ∀ a cls d vs H Q E, sp a cls d vs H Q E → vs.length = ps.length
  run : ∀ (A : Around) (outer : List Env) (s : Shared) (H : Hp) (args : Args) (us : List Value) (vs : List V) (Q : VK) (E : XK) (a : Addr) (oe : Obj) (cls : Value) (d : Option Addr),
    L2H.RoomH k A → A.handled = some (.ref a) → L2N.Zn cls d oe → (∃ vs, oe.data = .fields vs) → L2H.PinOk outer H s (a, oe) → Env0 P w K mg base A outer s H →
    BindsTo s fd args (ps.zip us) → Vals vs us → sp a cls d vs H Q E → codeAny (model P w) A (.call (.ref f) args) (CR CX0 outer P w H s Q E) s
theorem fn_ofEN {P : Program} {w : World} {K : Frag} {mg : Str → Option Value} {base : Heap} {k : Nat} {f : Addr} {name qual : Str} {params : Arguments} {body : List Stmt} {scope : Scope}
    {dV kV doc pm cdv ct oc : Value} {an od : Option Addr} {osl : Array (Option Value)} {N ps : List Str} {sp : Addr → Value → Option Addr → Sp}
    (lk : List.lookup f K = some { cls := oc, dict := od, data := .func (fnOf name qual params body scope dV kV doc pm an cdv ct), slots := osl })
    (hcd : codeIn K cdv qual = true) (S : FnScope N ps scope)
    (len : ∀ a cls d vs H Q E, sp a cls d vs H Q E → vs.length = ps.length)
    (hbody : ∀ (A : Around) (outer : List Env) (s : Shared) (H : Hp) (vs : List V) (Q : VK) (E : XK) (a : Addr) (oe : Obj) (cls : Value) (d : Option Addr),
      L2N.Zn cls d oe → (∃ vs, oe.data = .fields vs) → L2H.RoomH k (A.deeper (PyProof.Rows.envOfC qual scope s.heap.objs.size f cdv)) → sp a cls d vs H Q E →
      ∃ t, PSs ((cxOf CX0 P w K mg base N qual scope f cdv A outer s H E).suite a [(a, oe)]) body t ∧ t { nx := fun _ H' => Q .non H', rt := Q } (L2.start N vs) H) :
    FnEN P w K mg base (k + 1) f (fnOf name qual params body scope dV kV doc pm an cdv ct) ps sp where
  len := len
  run := by
    intro A outer s H args us vs Q E a oe cls d hr hh hz hf hpin e0 hb r hsp
    have KX := Frag.In.keeps e0.mod.kin fun b o e => (e0.bs b o e).1
    have lim := Heap.NoLimit.keeps e0.mod.nolimit fun b o e => (e0.bs b o e).1
    refine codeAny_call_function hr.depth (KX f _ lk) rfl S.co S.gen rfl (codeRec_of KX hcd) (hb _ A.in1 _ _ (wpAny_newFunctionEnv_cells S.kind ?_ ?_))
    · rintro ⟨n, v⟩ hy
      rcases S.par n (List.of_mem_zip hy).1 with q | q
      · exact Or.inl q
      · exact Or.inr ⟨q, cellsFrom_some scope.names (s.heap.objs.size + 1) [] (Or.inl q)⟩
    · intro env he s1 x
      subst he
      refine ⟨Heap.NoLimit.keeps lim x.toInCall.keep, codeAny_func ?_⟩
      obtain ⟨t, ht, hq⟩ := hbody A outer s H vs Q E a oe cls d hz hf (L2H.RoomH.deeper hr _) hsp
      have I := L2H.inv_startH (CX := CX0) (E := E) S hpin e0 (len _ _ _ _ _ _ _ hsp) r x
      have hm : (A.deeper (PyProof.Rows.envOfC qual scope s.heap.objs.size f cdv)).mark (some (.ref a)) = A.deeper (PyProof.Rows.envOfC qual scope s.heap.objs.size f cdv) := mark_self hh
      have o := I.ok
      have I2 : Inv ((cxOf CX0 P w K mg base N qual scope f cdv A outer s H E).suite a [(a, oe)]) [] (L2.start N vs) H s1 :=
        ⟨⟨o.mod, o.kind, o.glob, o.blt, o.above, o.inj, o.has, o.cab, (fun h => by cases h), o.frames, o.stk, o.exf, o.bs, o.bsz, o.noex, o.exfs, o.funs, o.frf⟩,
          I.os, I.bare, I.base, I.loc, I.cell, I.free, I.freeC, I.pin, I.hok, I.len⟩
      have go := ht.run [] s1 (L2.start N vs) H { nx := fun _ H' => Q .non H', rt := Q } I2 hq
      dsimp only [Cx.suite, cxOf] at go
      rw [hm] at go
      refine wpAny_mono go (fun fl s' hs => ?_) fun e s' hs => hs.elim
      cases fl with
      | next =>
        obtain ⟨σ', H', J, q⟩ := hs
        exact ⟨.non, H', J.os, J.bare, J.base, J.hok, rfl, q⟩
      | brk =>
        obtain ⟨_, _, _, q⟩ := hs
        exact q.elim
      | cont =>
        obtain ⟨_, _, _, q⟩ := hs
        exact q.elim
      | ret u =>
        obtain ⟨v, σ', H', J, rv, q⟩ := hs
        exact ⟨v, H', J.os, J.bare, J.base, J.hok, rv, q⟩
theorem FunEN_ok {P : Program} {w : World} {K : Frag} {mg : Str → Option Value} {base : Heap} {x qual : Str} {st : Stmt} {f : Addr} {fd : FuncData} {N ps : List Str} {k : Nat} {sp : Addr → Value → Option Addr → Sp}
    (F : Fun K x qual st f fd) (S : FnScope N ps (defScope st))
    (len : ∀ a cls d vs H Q E, sp a cls d vs H Q E → vs.length = ps.length)
    (hbody : ∀ (cdv : Value) (A : Around) (outer : List Env) (s : Shared) (H : Hp) (vs : List V) (Q : VK) (E : XK) (a : Addr) (oe : Obj) (cls : Value) (d : Option Addr),
      L2N.Zn cls d oe → (∃ vs, oe.data = .fields vs) → L2H.RoomH k (A.deeper (PyProof.Rows.envOfC qual (defScope st) s.heap.objs.size f cdv)) → sp a cls d vs H Q E →
      ∃ t, PSs ((cxOf CX0 P w K mg base N qual (defScope st) f cdv A outer s H E).suite a [(a, oe)]) (defBody st) t ∧ t { nx := fun _ H' => Q .non H', rt := Q } (L2.start N vs) H) :
    FnEN P w K mg base (k + 1) f fd ps sp := by
  obtain ⟨oc, od, kV, doc, pm, an, cdv, ct, osl, rfl, lk, hcd⟩ := F.ex
  exact fn_ofEN lk hcd S len fun A outer s H vs Q E a oe cls d hz hf hr hsp => hbody cdv A outer s H vs Q E a oe cls d hz hf hr hsp
theorem pe_callEN {X : Cx} {k : Nat} {f : Addr} {fd : FuncData} {ps : List Str} {sp : Addr → Value → Option Addr → Sp} {a : Addr} {oe : Obj} {cls : Value} {d : Option Addr} {pn : List (Addr × Obj)}
    {x : Str} {q pos : Pos} {e : Expr} {es : List Expr} {t : TA}
    (F : FnEN X.prog X.w X.K X.mg X.base k f fd ps sp) (hr : L2H.RoomH k X.A) (hz : L2N.Zn cls d oe) (hf : ∃ vs, oe.data = .fields vs) (hg : Gl X x) (hm : X.mg x = some (.ref f))
    (hk : keepIn X.K (.ref f) = true) (hb : L2.Binds X.K fd ps []) (ha : PA (X.suite a ((a, oe) :: pn)) (e :: es) t)
    (hdb : (x == Str.ofString "__debug__") = false := by rfl) (he : starEach (e :: es) X.env = (false, eval e X.env) :: starEach es X.env := by rfl)
    (hpl : ((backTo pos (starEach es X.env)).any fun x => x.1) = false := by rfl) :
    PE (X.suite a ((a, oe) :: pn)) (.Call (.Name x q) (e :: es) [] pos) (tCallE (sp a cls d) t) where
  run := by
    intro pins s σ H Q I h
    refine wpAny_Call_Name_kw (ld_glob I hg hm (callWith_K I.ok.mod.kin hk (thn (ha.run pos pins s σ H _ I h) ?_) he hpl) hdb)
    rintro us s1 ⟨vs, H1, I1, r, h1⟩
    refine ⟨I1.kIn, ?_⟩
    have P1 := I1.pin (a, oe) (List.mem_append_left _ (List.mem_cons_self ..))
    have hp : L2H.PinOk X.stack H1 s1 (a, oe) := ⟨P1.1, P1.2.1, fun hx => (List.mem_cons.mp (I1.stkSub a hx)).elim P1.2.2.1 P1.2.2.2.1, P1.2.2.2.2⟩
    have hl : (us ++ []).length = ps.length := by rw [List.append_nil, ← r.length]; exact F.len _ _ _ _ _ _ _ h1
    have b := hb s1 us I1.kIn hl
    rw [List.append_nil] at b
    have hr2 : L2H.RoomH k (X.suite a ((a, oe) :: pn)).A := ⟨hr.dp, hr.un⟩
    refine wpAny_call (codeAny_mono (F.run (X.suite a ((a, oe) :: pn)).A X.stack s1 H1 ⟨us, []⟩ us vs Q _ a oe cls d hr2 rfl hz hf hp I1.env0 b r h1) fun r s' hq => ?_)
    cases r with
    | error e => exact hq.elim
    | ok fl =>
      cases fl with
      | next => exact hq.elim
      | brk => exact hq.elim
      | cont => exact hq.elim
      | ret u => exact I1.after hq
end Wm
/-! names for readings that the library leaves unnamed -/
namespace Wm
open PySem L2
abbrev rAddI : R2 := rI0 fun i j => .int (i + j)
abbrev rSubI : R2 := rI0 fun i j => .int (i - j)
abbrev rMulI : R2 := rI CMul fun i j => .int (i * j)
abbrev rModI : R2 := rI (fun _ j => 0 < j) fun i j => .int (i % j)
abbrev rDivI : R2 := rI CDiv fun i j => .int (i / j)
abbrev rAddS : R2 := fun x y H Q => ∃ i j, x = .str i ∧ y = .str j ∧ i.length + j.length ≤ sizeLine ∧ Q (.str (i ++ j)) H
abbrev rLtI : R2 := rI0 fun i j => .bl (decide (i < j))
abbrev rLeI : R2 := rI0 fun i j => .bl (decide (i ≤ j))
abbrev rGtI : R2 := rI0 fun i j => .bl (decide (j < i))
abbrev rGeI : R2 := rI0 fun i j => .bl (decide (j ≤ i))
abbrev rInSg : R2 := fun x y H Q => ∃ (c : Nat) (z : Str), x = .str ⟨#[c]⟩ ∧ y = .str z ∧ Q (.bl (decide (c ∈ z.cps.toList))) H
abbrev rNiSg : R2 := fun x y H Q => ∃ (c : Nat) (z : Str), x = .str ⟨#[c]⟩ ∧ y = .str z ∧ Q (.bl (!decide (c ∈ z.cps.toList))) H
abbrev rInt1 : List V → Hp → VK → Prop := fun xs H Q => (∃ i, xs = [.int i] ∧ Q (.int i) H) ∨ ∃ k, xs = [.bl k] ∧ Q (.int (if k then 1 else 0)) H
abbrev rLenS : List V → Hp → VK → Prop := fun xs H Q => ∃ z, xs = [.str z] ∧ z.length ≤ sizeLine ∧ Q (.int z.length) H
abbrev rLenL (K : PySem.W.Frag) : List V → Hp → VK → Prop := fun xs H Q => ∃ p ys, xs = [.ref p] ∧ (SqL K H p ys ∨ SqT K H p ys) ∧ Q (.int ys.length) H
abbrev rStrI : List V → Hp → VK → Prop := fun xs H Q => ∃ i, xs = [.int i] ∧ i.natAbs.log2 < 1920 ∧ Q (.str (toString i)) H
abbrev rLstOf (K : PySem.W.Frag) : List V → Hp → VK → Prop := fun xs H Q => ∃ p ys, xs = [.ref p] ∧ (SqL K H p ys ∨ SqT K H p ys) ∧ ∀ l, H l = none → Q (.ref l) (upd H l (.lst ys))
end Wm
namespace Wm
open PySem L2 StX
/-! ### what is refused -/
inductive Rf where
  | cnt (w : Str) (n : Int)
  | nm (z : Str)
  | tw (z : Str)
  | ns (z : Str)
  | up (a b : Str)
  | nw (z : Str)
  | nr (z : Str)
  | nb (z : Str)
  | nmk (a b : Str)
def ixOf : Rf → Nat
  | .cnt _ _ => 0
  | .nm _ => 1
  | .tw _ => 2
  | .ns _ => 3
  | .up _ _ => 4
  | .nw _ => 5
  | .nr _ => 6
  | .nb _ => 7
  | .nmk _ _ => 8
def efC (w n : V) : List (Str × V) := [("count", n), ("what", w), ("kind", .str "badcount")]
def efU (a b : V) : List (Str × V) := [("made", b), ("maker", a), ("kind", .str "upward")]
def efM (a b : V) : List (Str × V) := [("made", b), ("maker", a), ("kind", .str "nomaking")]
def fsOf : Rf → List (Str × V)
  | .cnt w n => efC (.str w) (.int n)
  | .nm z => ef1 "name" "noname" (.str z)
  | .tw z => ef1 "name" "twice" (.str z)
  | .ns z => ef1 "name" "nosort" (.str z)
  | .up a b => efU (.str a) (.str b)
  | .nw z => ef1 "name" "noword" (.str z)
  | .nr z => ef1 "name" "norule" (.str z)
  | .nb z => ef1 "name" "nobar" (.str z)
  | .nmk a b => efM (.str a) (.str b)
def Rfs (C : Nat → Addr) (o : Option Rf) (H : Hp) (ok : Hp → Prop) (E : XK) : Prop := match o with
  | none => ∀ H', Same H H' → ok H'
  | some r => ∀ d H', H d = none → Same H H' → H' d = some (.xd (fsOf r)) → E (.ref (C (ixOf r))) (some d) H'
theorem Rfs.same {C : Nat → Addr} {o : Option Rf} {H H1 : Hp} {ok : Hp → Prop} {E : XK} (S : Same H H1) (h : Rfs C o H ok E) : Rfs C o H1 ok E := by
  cases o with
  | none => exact fun H' s => h H' (S.trans s)
  | some r => exact fun d H' n s e => h d H' (S.free n) (S.trans s) e
theorem Rfs.map {C : Nat → Addr} {o : Option Rf} {H : Hp} {ok ok' : Hp → Prop} {E : XK} (h : Rfs C o H ok E) (k : o = none → ∀ H', Same H H' → ok H' → ok' H') : Rfs C o H ok' E := by
  cases o with
  | none => exact fun H' s => k rfl H' s (h H' s)
  | some r => exact h
theorem Rfs.step {C : Nat → Addr} {a b : Option Rf} {H : Hp} {ok : Hp → Prop} {E : XK} (h : Rfs C (a.or b) H ok E) : Rfs C a H (fun H' => Rfs C b H' ok E) E := by
  cases a with
  | none => exact fun H' s => Rfs.same s h
  | some r => exact h
/-- the first place at which something is to be said -/
def goF {α β : Type} (p : List α → α → Option β) : List α → List α → Option β
  | _, [] => none
  | pre, x :: r => match p pre x with
    | some b => some b
    | none => goF p (pre ++ [x]) r
theorem goF_take {α β : Type} {p : List α → α → Option β} {xs : List α} : ∀ (i : Nat), (∀ j x, j < i → xs[j]? = some x → p (xs.take j) x = none) → goF p [] xs = goF p (xs.take i) (xs.drop i)
  | 0, _ => by rw [List.take_zero, List.drop_zero]
  | i + 1, h => by
    rw [goF_take i fun j x hj e => h j x (by omega) e]
    cases e : xs[i]? with
    | none =>
      have l := List.getElem?_eq_none_iff.mp e
      rw [List.drop_eq_nil_of_le l, List.drop_eq_nil_of_le (by omega), List.take_of_length_le l, List.take_of_length_le (by omega)]
    | some x =>
      have l := (List.getElem?_eq_some_iff.mp e).1
      have ex := (List.getElem?_eq_some_iff.mp e).2
      rw [List.drop_eq_getElem_cons l, ex]
      have q := h i x (by omega) e
      rw [goF, q, List.take_add_one, e]
      rfl
theorem goF_hit {α β : Type} {p : List α → α → Option β} {xs : List α} {i : Nat} {x : α} {b : β} (h : ∀ j x, j < i → xs[j]? = some x → p (xs.take j) x = none) (e : xs[i]? = some x) (hb : p (xs.take i) x = some b) : goF p [] xs = some b := by
  have l := (List.getElem?_eq_some_iff.mp e).1
  have ex := (List.getElem?_eq_some_iff.mp e).2
  rw [goF_take i h, List.drop_eq_getElem_cons l, ex, goF, hb]
theorem goF_none {α β : Type} {p : List α → α → Option β} {xs : List α} (h : ∀ j x, j < xs.length → xs[j]? = some x → p (xs.take j) x = none) : goF p [] xs = none := by
  rw [goF_take xs.length h, List.drop_length, goF]
theorem goF_more {α β : Type} {p : List α → α → Option β} {xs : List α} {i : Nat} {x : α} (h : ∀ j x, j < i → xs[j]? = some x → p (xs.take j) x = none) (e : xs[i]? = some x) (hn : p (xs.take i) x = none) : ∀ j x, j < i + 1 → xs[j]? = some x → p (xs.take j) x = none := fun j y hj ey => by
  by_cases q : j = i
  · subst q
    rw [e] at ey
    cases ey
    exact hn
  · exact h j y (by omega) ey
def cntO (w : Str) (c lo hi : Int) : Option Rf := if c < lo ∨ hi < c then some (.cnt w c) else none
def nmP (_ : List Str) (z : Str) : Option Rf := if isNm z = true then none else some (.nm z)
def twP (pre : List Str) (z : Str) : Option Rf := if z ∈ pre then some (.tw z) else none
def twM (pre : List MkD) (x : MkD) : Option Rf := if (x.mr, x.md) ∈ pre.map (fun y => (y.mr, y.md)) then some (.tw x.mr) else none
def nsP (ss : List Str) (_ : List Str) (z : Str) : Option Rf := if z ∈ ss then none else some (.ns z)
def nwP (ws : List Str) (_ : List Str) (z : Str) : Option Rf := if z ∈ ws then none else some (.nw z)
/-- where a text first stands -/
def ixS : List Str → Str → Nat
  | [], _ => 0
  | a :: r, z => if a = z then 0 else ixS r z + 1
theorem ixS_at : ∀ {ss : List Str} {z : Str}, z ∈ ss → ss[ixS ss z]? = some z
  | a :: r, z, h => by
    rw [ixS]
    split
    · rename_i e
      rw [e]
      rfl
    · rename_i e
      rcases List.mem_cons.mp h with q | q
      · exact absurd q.symm e
      · exact ixS_at q
theorem ixS_first : ∀ {ss : List Str} {z y : Str} {m : Nat}, m < ixS ss z → ss[m]? = some y → y ≠ z
  | [], z, y, m, h, _ => by cases h
  | a :: r, z, y, m, h, e => by
    rw [ixS] at h
    split at h
    · cases h
    · rename_i ne
      cases m with
      | zero =>
        cases e
        exact ne
      | succ m => exact ixS_first (Nat.lt_of_succ_lt_succ h) e
def upP (ss : List Str) (_ : List MkD) (x : MkD) : Option Rf := if ixS ss x.md ≤ ixS ss x.mr then some (.up x.mr x.md) else none
def askS (ms : List MkD) (vv : List (List Var)) : List Str := ms.flatMap (fun x => [x.mr, x.md]) ++ vv.flatMap (fun v => v.filterMap (·.2))
def askW (ms : List MkD) (rs : List RlD) (ps : List PtD) : List Str := (ms.flatMap (fun x => x.dn ++ x.up) ++ rs.flatMap (fun x => (x.p.cs ++ [x.g]).map (·.2.1))) ++ ps.flatMap (fun x => x.cs.map (·.2.1))
def schDue (ss ws : List Str) (ms : List MkD) (rs : List RlD) (ps : List PtD) : Option Rf :=
  (cntO "sorts" (ss.length : Int) 1 4).or ((cntO "words" (ws.length : Int) 1 5).or ((cntO "rules" (rs.length : Int) 0 8).or ((cntO "bars" (ps.length : Int) 0 4).or ((goF nmP [] ss).or ((goF nmP [] ws).or ((goF twP [] ss).or ((goF twP [] ws).or ((goF twM [] ms).or ((goF twP [] (rs.map (·.p.nm))).or ((goF twP [] (ps.map (·.nm))).or
    ((goF (nsP ss) [] (askS ms (rs.map (·.p.vars) ++ ps.map (·.vars)))).or ((goF (upP ss) [] ms).or (goF (nwP ws) [] (askW ms rs ps))))))))))))))
/-! ### the errors' own inits -/
def spEC (C : Addr) : Sp := fun vs H Q _ => ∃ (a : Addr) (u v : V), vs = [.ref a, u, v] ∧ H a = some (exo a C none) ∧ ∀ dx H', H dx = none → dx ≠ a → (∀ b o, b ≠ a → H b = some o → H' b = some o) → H' a = some (exo a C (some dx)) → H' dx = some (exd dx (efC u v)) → Q .non H'
theorem mkC {C : Addr} {u v : V} {H : Hp} {E : XK} (k : ∀ d H', H d = none → Same H H' → H' d = some (.xd (efC u v)) → E (.ref C) (some d) H') :
    [u, v].length ≤ 1000 ∧ ∀ a, H a = none → spEC C (.ref a :: ([u, v] ++ [])) (upd H a (exo a C none)) (fun w H2 => w = .non ∧ ∃ (d : Addr) (fs : List (Str × V)), H2 a = some (exo a C (some d)) ∧ H2 d = some (exd d fs) ∧ H d = none ∧ E (.ref C) (some d) (upd (del H2 a) d (.xd fs))) (fun _ _ _ => False) := by
  refine ⟨by show 2 ≤ 1000; decide, fun a na => ⟨a, u, v, rfl, upd_same, fun dx H' n ne kp ha hd => ⟨rfl, dx, _, ha, hd, ?_, ?_⟩⟩⟩
  · rw [upd_ne ne] at n
    exact n
  · rw [upd_ne ne] at n
    refine k dx _ n (fun b o e => ?_) upd_same
    have nb : b ≠ a := ne_of_none e na
    rw [upd_ne (ne_of_none e n), del_ne nb]
    exact kp b o nb (by rw [upd_ne nb]; exact e)
def spRC2 (C : Nat → Addr) : Sp := fun vs H Q E => ∃ (z : Str) (c lo hi : Int), vs = [.str z, .int c, .int lo, .int hi] ∧ Rfs C (cntO z c lo hi) H (fun H' => Q .non H') E
def spRN2 (K : PySem.W.Frag) (C : Nat → Addr) : Sp := fun vs H Q E => ∃ (l : Addr) (zs : List Str), vs = [.ref l] ∧ SqL K H l (zs.map V.str) ∧ (∀ z ∈ zs, z.length ≤ 1000) ∧ Rfs C (goF nmP [] zs) H (fun H' => Q .non H') E
def spRT2 (K : PySem.W.Frag) (C : Nat → Addr) : Sp := fun vs H Q E => ∃ (l : Addr) (zs : List Str), vs = [.ref l] ∧ SqL K H l (zs.map V.str) ∧ zs.length ≤ 1000 ∧ Rfs C (goF twP [] zs) H (fun H' => Q .non H') E
def spEU (C : Addr) : Sp := fun vs H Q _ => ∃ (a : Addr) (u v : V), vs = [.ref a, u, v] ∧ H a = some (exo a C none) ∧ ∀ dx H', H dx = none → dx ≠ a → (∀ b o, b ≠ a → H b = some o → H' b = some o) → H' a = some (exo a C (some dx)) → H' dx = some (exd dx (efU u v)) → Q .non H'
theorem mkU {C : Addr} {u v : V} {H : Hp} {E : XK} (k : ∀ d H', H d = none → Same H H' → H' d = some (.xd (efU u v)) → E (.ref C) (some d) H') :
    [u, v].length ≤ 1000 ∧ ∀ a, H a = none → spEU C (.ref a :: ([u, v] ++ [])) (upd H a (exo a C none)) (fun w H2 => w = .non ∧ ∃ (d : Addr) (fs : List (Str × V)), H2 a = some (exo a C (some d)) ∧ H2 d = some (exd d fs) ∧ H d = none ∧ E (.ref C) (some d) (upd (del H2 a) d (.xd fs))) (fun _ _ _ => False) := by
  refine ⟨by show 2 ≤ 1000; decide, fun a na => ⟨a, u, v, rfl, upd_same, fun dx H' n ne kp ha hd => ⟨rfl, dx, _, ha, hd, ?_, ?_⟩⟩⟩
  · rw [upd_ne ne] at n
    exact n
  · rw [upd_ne ne] at n
    refine k dx _ n (fun b o e => ?_) upd_same
    have nb : b ≠ a := ne_of_none e na
    rw [upd_ne (ne_of_none e n), del_ne nb]
    exact kp b o nb (by rw [upd_ne nb]; exact e)
def spRM2 (K : PySem.W.Frag) (C : Nat → Addr) (B : Addr) : Sp := fun vs H Q E => ∃ (m : Addr) (as : List Addr) (ms : List MkD), vs = [.ref m] ∧ SqL K H m (as.map V.ref) ∧ AllAt (MkAt K B H) as ms ∧ ms.length ≤ 1000 ∧ (∀ x ∈ ms, okS x.mr ∧ okS x.md) ∧ Rfs C (goF twM [] ms) H (fun H' => Q .non H') E
def spNS2 (K : PySem.W.Frag) (C : Nat → Addr) (B : Addr) : Sp := fun vs H Q E => ∃ (s m p : Addr) (ss : List Str) (as bs : List Addr) (ms : List MkD) (vv : List (List Var)), vs = [.ref s, .ref m, .ref p] ∧ SqL K H s (ss.map V.str) ∧ SqL K H m (as.map V.ref) ∧ AllAt (MkAt K B H) as ms ∧ SqL K H p (bs.map V.ref) ∧ AllAt (PvAt K H) bs vv ∧ ms.length ≤ 1000 ∧ vv.length ≤ 1000 ∧ (∀ v ∈ vv, v.length ≤ 4) ∧ Rfs C (goF (nsP ss) [] (askS ms vv)) H (fun H' => Q .non H') E
def spRU2 (K : PySem.W.Frag) (C : Nat → Addr) (B : Addr) : Sp := fun vs H Q E => ∃ (s m : Addr) (ss : List Str) (as : List Addr) (ms : List MkD), vs = [.ref s, .ref m] ∧ SqL K H s (ss.map V.str) ∧ SqL K H m (as.map V.ref) ∧ AllAt (MkAt K B H) as ms ∧ (∀ x ∈ ms, x.mr ∈ ss ∧ x.md ∈ ss) ∧ Rfs C (goF (upP ss) [] ms) H (fun H' => Q .non H') E
def spNW2 (K : PySem.W.Frag) (C : Nat → Addr) (MB RB BB : Addr) : Sp := fun vs H Q E => ∃ (w m r b : Addr) (ws : List Str) (as bs cs : List Addr) (ms : List MkD) (rs : List RlD) (ps : List PtD), vs = [.ref w, .ref m, .ref r, .ref b] ∧ SqL K H w (ws.map V.str) ∧ SqL K H m (as.map V.ref) ∧ AllAt (MkAt K MB H) as ms ∧ SqL K H r (bs.map V.ref) ∧ AllAt (RlAt K RB H) bs rs ∧ SqL K H b (cs.map V.ref) ∧ AllAt (BrAt K BB H) cs ps ∧
  ms.length ≤ 1000 ∧ rs.length ≤ 1000 ∧ ps.length ≤ 1000 ∧ (∀ x ∈ ms, x.dn.length ≤ 100 ∧ x.up.length ≤ 100) ∧ (∀ x ∈ rs, x.p.cs.length ≤ 3) ∧ (∀ x ∈ ps, x.cs.length ≤ 3) ∧ Rfs C (goF (nwP ws) [] (askW ms rs ps)) H (fun H' => Q .non H') E
theorem fm_take {α β : Type} {f : α → List β} {xs : List α} {i : Nat} {x : α} (h : xs[i]? = some x) : (xs.take (i + 1)).flatMap f = (xs.take i).flatMap f ++ f x := by
  rw [List.take_add_one, h, List.flatMap_append]
  simp
section
variable {P : Program} {w : World} {K : PySem.W.Frag} {mg : Str → Option Value} {base : Heap} {C : Nat → Addr}
theorem scT0 : FnScope ["self", "name"] ["self", "name"] (defScope sT0) := ⟨rfl, rfl, rfl, by decide +kernel, rfl, by decide +kernel, by decide +kernel⟩
theorem ok_twice {f C f0 W : Addr} {fd fd0 : FuncData} (F : Fun K "__init__" "Twice.__init__" sT0 f fd) (T : ErrT K mg "Twice" "name" C f) (TW : WhoT K mg W f0 fd0) (G0 : FnOk P w K mg base CX0 1 f0 fd0 ["self", "kind"] (spWI K)) :
    FnOk P w K mg base CX0 2 f fd ["self", "name"] (spE1 C "name" "twice") := by
  refine F.ok scT0 (fun vs H Q E h => ?_) (fun cdv A outer s H vs Q E hr h => ?_)
  · obtain ⟨a, v, rfl, _⟩ := h
    rfl
  · obtain ⟨a, v, rfl, ha, k⟩ := h
    refine ⟨_, pss_cons (ps_expr (pe_clsFn rfl TW.g TW.r TW.m TW.k G0 hr TW.b .nil pass0 (pa_cons (pv 0) (pa_cons pe_str pa_nil)))) (pss_one (ps_ost (pv 0) (pv 1))), ?_⟩
    refine ⟨_, rfl, a, C, _, rfl, T.o, T.nk, ha, fun dx n ne => ?_⟩
    refine ⟨_, rfl, _, rfl, a, C, rfl, T.o, T.nf, .inr ⟨dx, _, upd_same, Eq.trans (upd_ne ne) upd_same, by decide, ?_⟩⟩
    refine k dx _ n ne (fun b o nb e => ?_) ?_ upd_same
    · have nd : b ≠ dx := ne_of_none e n
      rw [upd_ne nd, upd_ne nb, upd_ne nd]
      exact e
    · rw [upd_ne ne.symm, upd_same]
theorem scNS : FnScope ["self", "name"] ["self", "name"] (defScope sNS) := ⟨rfl, rfl, rfl, by decide +kernel, rfl, by decide +kernel, by decide +kernel⟩
theorem ok_nosort {f C f0 W : Addr} {fd fd0 : FuncData} (F : Fun K "__init__" "NoSort.__init__" sNS f fd) (T : ErrT K mg "NoSort" "name" C f) (TW : WhoT K mg W f0 fd0) (G0 : FnOk P w K mg base CX0 1 f0 fd0 ["self", "kind"] (spWI K)) :
    FnOk P w K mg base CX0 2 f fd ["self", "name"] (spE1 C "name" "nosort") := by
  refine F.ok scNS (fun vs H Q E h => ?_) (fun cdv A outer s H vs Q E hr h => ?_)
  · obtain ⟨a, v, rfl, _⟩ := h
    rfl
  · obtain ⟨a, v, rfl, ha, k⟩ := h
    refine ⟨_, pss_cons (ps_expr (pe_clsFn rfl TW.g TW.r TW.m TW.k G0 hr TW.b .nil pass0 (pa_cons (pv 0) (pa_cons pe_str pa_nil)))) (pss_one (ps_ost (pv 0) (pv 1))), ?_⟩
    refine ⟨_, rfl, a, C, _, rfl, T.o, T.nk, ha, fun dx n ne => ?_⟩
    refine ⟨_, rfl, _, rfl, a, C, rfl, T.o, T.nf, .inr ⟨dx, _, upd_same, Eq.trans (upd_ne ne) upd_same, by decide, ?_⟩⟩
    refine k dx _ n ne (fun b o nb e => ?_) ?_ upd_same
    · have nd : b ≠ dx := ne_of_none e n
      rw [upd_ne nd, upd_ne nb, upd_ne nd]
      exact e
    · rw [upd_ne ne.symm, upd_same]
theorem scNW : FnScope ["self", "name"] ["self", "name"] (defScope sNW) := ⟨rfl, rfl, rfl, by decide +kernel, rfl, by decide +kernel, by decide +kernel⟩
theorem ok_noword {f C f0 W : Addr} {fd fd0 : FuncData} (F : Fun K "__init__" "NoWord.__init__" sNW f fd) (T : ErrT K mg "NoWord" "name" C f) (TW : WhoT K mg W f0 fd0) (G0 : FnOk P w K mg base CX0 1 f0 fd0 ["self", "kind"] (spWI K)) :
    FnOk P w K mg base CX0 2 f fd ["self", "name"] (spE1 C "name" "noword") := by
  refine F.ok scNW (fun vs H Q E h => ?_) (fun cdv A outer s H vs Q E hr h => ?_)
  · obtain ⟨a, v, rfl, _⟩ := h
    rfl
  · obtain ⟨a, v, rfl, ha, k⟩ := h
    refine ⟨_, pss_cons (ps_expr (pe_clsFn rfl TW.g TW.r TW.m TW.k G0 hr TW.b .nil pass0 (pa_cons (pv 0) (pa_cons pe_str pa_nil)))) (pss_one (ps_ost (pv 0) (pv 1))), ?_⟩
    refine ⟨_, rfl, a, C, _, rfl, T.o, T.nk, ha, fun dx n ne => ?_⟩
    refine ⟨_, rfl, _, rfl, a, C, rfl, T.o, T.nf, .inr ⟨dx, _, upd_same, Eq.trans (upd_ne ne) upd_same, by decide, ?_⟩⟩
    refine k dx _ n ne (fun b o nb e => ?_) ?_ upd_same
    · have nd : b ≠ dx := ne_of_none e n
      rw [upd_ne nd, upd_ne nb, upd_ne nd]
      exact e
    · rw [upd_ne ne.symm, upd_same]
theorem scBC : FnScope ["self", "what", "count"] ["self", "what", "count"] (defScope sBC) := ⟨rfl, rfl, rfl, by decide +kernel, rfl, by decide +kernel, by decide +kernel⟩
theorem ok_badcount {f C f0 W : Addr} {fd fd0 : FuncData} (F : Fun K "__init__" "BadCount.__init__" sBC f fd) (T : ErrT K mg "BadCount" "what" C f) (n2 : PySem.W.findIn K (.ref C) "count" = some none) (TW : WhoT K mg W f0 fd0) (G0 : FnOk P w K mg base CX0 1 f0 fd0 ["self", "kind"] (spWI K)) :
    FnOk P w K mg base CX0 2 f fd ["self", "what", "count"] (spEC C) := by
  refine F.ok scBC (fun vs H Q E h => ?_) (fun cdv A outer s H vs Q E hr h => ?_)
  · obtain ⟨a, u, v, rfl, _⟩ := h
    rfl
  · obtain ⟨a, u, v, rfl, ha, k⟩ := h
    refine ⟨_, pss_cons (ps_expr (pe_clsFn rfl TW.g TW.r TW.m TW.k G0 hr TW.b .nil pass0 (pa_cons (pv 0) (pa_cons pe_str pa_nil)))) (pss_cons (ps_ost (pv 0) (pv 1)) (pss_one (ps_ost (pv 0) (pv 2)))), ?_⟩
    refine ⟨_, rfl, a, C, _, rfl, T.o, T.nk, ha, fun dx n ne => ?_⟩
    refine ⟨_, rfl, _, rfl, a, C, rfl, T.o, T.nf, .inr ⟨dx, _, upd_same, Eq.trans (upd_ne ne) upd_same, by decide, ?_⟩⟩
    refine ⟨_, rfl, _, rfl, a, C, rfl, T.o, n2, .inr ⟨dx, _, Eq.trans (upd_ne ne.symm) upd_same, upd_same, by show 2 ≤ 900; decide, ?_⟩⟩
    refine k dx _ n ne (fun b o nb e => ?_) ?_ upd_same
    · have nd : b ≠ dx := ne_of_none e n
      rw [upd_ne nd, upd_ne nd, upd_ne nb, upd_ne nd]
      exact e
    · rw [upd_ne ne.symm, upd_ne ne.symm, upd_same]
theorem scUp : FnScope ["self", "maker", "made"] ["self", "maker", "made"] (defScope sUp) := ⟨rfl, rfl, rfl, by decide +kernel, rfl, by decide +kernel, by decide +kernel⟩
theorem ok_upw {f C f0 W : Addr} {fd fd0 : FuncData} (F : Fun K "__init__" "Upward.__init__" sUp f fd) (T : ErrT K mg "Upward" "maker" C f) (n2 : PySem.W.findIn K (.ref C) "made" = some none) (TW : WhoT K mg W f0 fd0) (G0 : FnOk P w K mg base CX0 1 f0 fd0 ["self", "kind"] (spWI K)) :
    FnOk P w K mg base CX0 2 f fd ["self", "maker", "made"] (spEU C) := by
  refine F.ok scUp (fun vs H Q E h => ?_) (fun cdv A outer s H vs Q E hr h => ?_)
  · obtain ⟨a, u, v, rfl, _⟩ := h
    rfl
  · obtain ⟨a, u, v, rfl, ha, k⟩ := h
    refine ⟨_, pss_cons (ps_expr (pe_clsFn rfl TW.g TW.r TW.m TW.k G0 hr TW.b .nil pass0 (pa_cons (pv 0) (pa_cons pe_str pa_nil)))) (pss_cons (ps_ost (pv 0) (pv 1)) (pss_one (ps_ost (pv 0) (pv 2)))), ?_⟩
    refine ⟨_, rfl, a, C, _, rfl, T.o, T.nk, ha, fun dx n ne => ?_⟩
    refine ⟨_, rfl, _, rfl, a, C, rfl, T.o, T.nf, .inr ⟨dx, _, upd_same, Eq.trans (upd_ne ne) upd_same, by decide, ?_⟩⟩
    refine ⟨_, rfl, _, rfl, a, C, rfl, T.o, n2, .inr ⟨dx, _, Eq.trans (upd_ne ne.symm) upd_same, upd_same, by show 2 ≤ 900; decide, ?_⟩⟩
    refine k dx _ n ne (fun b o nb e => ?_) ?_ upd_same
    · have nd : b ≠ dx := ne_of_none e n
      rw [upd_ne nd, upd_ne nd, upd_ne nb, upd_ne nd]
      exact e
    · rw [upd_ne ne.symm, upd_ne ne.symm, upd_same]
theorem ok_rc2 {f fI : Addr} {fd fdI : FuncData} (F : Fun K "refuse_count" "refuse_count" sRC f fd) (TE : ErrT K mg "BadCount" "what" (C 0) fI) (bI : Binds K fdI ["self", "what", "count"] []) (GI : FnOk P w K mg base CX0 2 fI fdI ["self", "what", "count"] (spEC (C 0))) : FnOk P w K mg base (L2N.CX P w) 4 f fd ["what", "count", "least", "most"] (spRC2 C) := by
  refine okN F scRC (fun vs H Q E h => ?_) (fun cdv A outer s H vs Q E hr h => ?_)
  · obtain ⟨z, c, lo, hi, rfl, _⟩ := h
    rfl
  · obtain ⟨z, c, lo, hi, rfl, k⟩ := h
    have hr3 : Room 3 _ := hr
    refine ⟨_, (pss_one (ps_if (PW.pt (pw_or (pt_cmpR op_lt (pv 1) (pv 2) (nomark _)) (pw_or1 (pt_cmpR op_gt (pv 1) (pv 3) (nomark _))))) (pss_one (L2N.ps_raise rfl (L2N.takes_of rfl rfl rfl rfl) (pmkN_oex TE.o TE.iC TE.tI GI hr3 bI pass0 rfl TE.g (pa_cons (pv 0) (pa_cons (pv 1) pa_nil))))) pss_nil)), ?_⟩
    have bad : (c < lo ∨ hi < c) → ∀ d H', H d = none → Same H H' → H' d = some (.xd (efC (.str z) (.int c))) → E (.ref (C 0)) (some d) H' := fun b => by
      unfold cntO at k
      rw [if_pos b] at k
      exact k
    refine ⟨_, rfl, _, rfl, _, _, rfl, rfl, _, rfl, ?_⟩
    refine ite2 (fun h => ?_) (fun h => ?_)
    · exact ⟨_, rfl, _, rfl, mkC fun d H' n s e => bad (.inl (of_decide_eq_true h)) d H' n s e⟩
    refine ⟨_, rfl, _, rfl, _, _, rfl, rfl, _, rfl, ?_⟩
    refine ite2 (fun h2 => ?_) (fun h2 => ?_)
    · exact ⟨_, rfl, _, rfl, mkC fun d H' n s e => bad (.inr (of_decide_eq_true h2)) d H' n s e⟩
    · unfold cntO at k
      rw [if_neg (fun q => q.elim (fun q => h (decide_eq_true q)) (fun q => h2 (decide_eq_true q)))] at k
      exact k H (Same.refl H)
theorem ok_rn2 {f fN fI : Addr} {fd fdN fdI : FuncData} (F : Fun K "refuse_no_name" "refuse_no_name" sRN f fd) (D : Dn K mg "is_name" sName ["text"] fN fdN) (GN : FnOk P w K mg base CX0 1 fN fdN ["text"] spName) (TE : ErrT K mg "NoName" "name" (C 1) fI) (bI : Binds K fdI ["self", "name"] [])
    (GI : FnOk P w K mg base CX0 2 fI fdI ["self", "name"] (spE1 (C 1) "name" "noname")) : FnOk P w K mg base (L2N.CX P w) 4 f fd ["texts"] (spRN2 K C) := by
  refine okN F scRN (fun vs H Q E h => ?_) (fun cdv A outer s H vs Q E hr h => ?_)
  · obtain ⟨l, zs, rfl, _⟩ := h
    rfl
  · obtain ⟨l, zs, rfl, hl, hz, k⟩ := h
    have hr1 : Room 1 _ := hr.mono (by decide)
    have hr3 : Room 3 _ := hr
    refine ⟨_, (pss_one (ps_for (passes_of rfl) rfl (pi_list (pv 0)) (pg_name (i := 1) scRN.nd rfl (Or.inl rfl)) (pss_one (ps_if (pt_not (pt_val (pe_call GN hr1 rfl D.g D.F.kp D.b .nil pass0 (pa_cons (pv 1) pa_nil)))) (pss_one (L2N.ps_raise rfl (L2N.takes_of rfl rfl rfl rfl) (pmkN_oex TE.o TE.iC TE.tI GI hr3 bI pass0 rfl TE.g (pa_cons (pv 1) pa_nil)))) pss_nil)))), ?_⟩
    refine ⟨_, rfl, l, rfl, ⟨_, hl⟩, for_list (K := K) (a := l) (xs := zs.map V.str) (fun i σ H' => (∃ v, σ = [some (.ref l), v]) ∧ Same H H' ∧ ∀ j y, j < i → zs[j]? = some y → nmP (zs.take j) y = none) ⟨⟨none, rfl⟩, Same.refl H, fun j y h => absurd h (Nat.not_lt_zero j)⟩
      (fun i σ H' _ h => h.2.1.seq hl) ?_ ?_⟩
    · rintro i y σ H' hi ⟨⟨v, rfl⟩, hS, hno⟩
      obtain ⟨z, hzi, rfl⟩ := map_str_get hi
      refine ⟨_, rfl, z, rfl, hz z (List.mem_of_getElem? hzi), fun H2 hS2 => ⟨_, rfl, ?_⟩⟩
      cases e : isNm z with
      | true => exact iteF ⟨⟨_, rfl⟩, hS.trans hS2, goF_more hno hzi (by unfold nmP; rw [if_pos e])⟩
      | false =>
        refine iteT ⟨_, rfl, mk1 fun d H3 hd hS3 hx => ?_⟩
        rw [goF_hit hno hzi (by unfold nmP; rw [if_neg (by rw [e]; decide)])] at k
        exact k d H3 (hS.free (hS2.free hd)) (hS.trans (hS2.trans hS3)) hx
    · rintro σ H' ⟨_, hS, hno⟩
      rw [List.length_map] at hno
      rw [goF_none hno] at k
      exact k H' hS
def spFT3 (K : PySem.W.Frag) : Sp := fun vs H Q _ => ∃ (l : Addr) (zs : List Str), vs = [.ref l] ∧ SqL K H l (zs.map V.str) ∧ zs.length ≤ 1000 ∧ ((∀ j y, j < zs.length → zs[j]? = some y → twP (zs.take j) y = none) → ∀ H', Same H H' → Q .non H') ∧ ∀ i z, zs[i]? = some z → z ∈ zs.take i → (∀ j y, j < i → zs[j]? = some y → twP (zs.take j) y = none) → ∀ H', Same H H' → Q (.int (i : Nat)) H'
theorem ok_ft3 {f : Addr} {fd : FuncData} (F : Fun K "first_twice" "first_twice" sFT f fd) (T : TxB mg) : FnOk P w K mg base CX0 1 f fd ["row"] (spFT3 K) := by
  refine F.ok scFT (fun vs H Q E h => ?_) (fun cdv A outer s H vs Q E hr h => ?_)
  · obtain ⟨l, xs, rfl, _⟩ := h
    rfl
  · obtain ⟨l, zs, rfl, hl, hn, kn, kt⟩ := h
    have hf : (zs.map V.str).all flatV = true := flat_strs _
    refine ⟨_, (pss_cons (ps_for PassesOwn.never rfl (pi_enum rfl T.enumerate (pa_cons (pv 0) pa_nil)) (pg_tup rfl (pgs_cons (pg_name (i := 1) scFT.nd rfl (Or.inl rfl)) (pgs_cons (pg_name (i := 2) scFT.nd rfl (Or.inl rfl)) pgs_nil))) (pss_one (ps_if (pt_cmpR op_in_seq (pv 2) (pe_slice sl_list (pv 0) po_none (po_some (pv 1))) (by rfl)) (pss_one (ps_ret (pv 1))) pss_nil)))
      (pss_one (ps_ret pe_non))), ?_⟩
    refine ⟨_, rfl, l, _, rfl, hl, for_it walk_enum (fun i σ H' => (∃ u v, σ = [some (.ref l), u, v]) ∧ Same H H' ∧ ∀ j y, j < i → zs[j]? = some y → twP (zs.take j) y = none) ⟨⟨none, none, rfl⟩, Same.refl H, fun j y h => absurd h (Nat.not_lt_zero j)⟩ (fun i σ H' _ p => p.2.1.seq hl) ?_ ?_⟩
    · rintro i x σ H1 H2 hi ⟨⟨u, v, rfl⟩, hS, hno⟩ ⟨t, y, z, rfl, ht, rfl, e1, e2⟩
      cases e1
      obtain ⟨z, hz, rfl⟩ := map_str_get e2
      refine ⟨t, _, rfl, SqT.of upd_same, rfl, _, _, rfl, _, _, rfl, rfl, ?_⟩
      have S2 := hS.trans (Same.upd (o := .tup [.int (i : Nat), .str z]) ht)
      refine ⟨_, rfl, _, rfl, _, rfl, _, rfl, l, _, rfl, S2.seq hl, fun p hp => ?_⟩
      refine ⟨p, _, rfl, .inl (SqL.of upd_same), rfl, ?_, _, rfl, ?_⟩
      · show (cutV (zs.map V.str) none (some (i : Int))).all flatV = true
        rw [cut_take]
        exact all_take hf i
      · show if inV (.str z) (cutV (zs.map V.str) none (some (i : Int))) = true then _ else _
        rw [cut_take, ← List.map_take, inV_strs]
        by_cases q : z ∈ zs.take i
        · rw [decide_eq_true q]
          exact iteT ⟨_, rfl, kt i z hz q hno _ (S2.trans (Same.upd hp))⟩
        · rw [decide_eq_false q]
          exact iteF ⟨⟨_, _, rfl⟩, S2.trans (Same.upd hp), goF_more hno hz (by unfold twP; rw [if_neg q])⟩
    · rintro σ H' ⟨_, hS, hno⟩
      rw [List.length_map] at hno
      exact kn hno H' hS
theorem ok_rt2 {f fF fI : Addr} {fd fdF fdI : FuncData} (F : Fun K "refuse_twice" "refuse_twice" sRT f fd) (T : TxB mg) (D : Dn K mg "first_twice" sFT ["row"] fF fdF) (TE : ErrT K mg "Twice" "name" (C 2) fI) (bI : Binds K fdI ["self", "name"] [])
    (GI : FnOk P w K mg base CX0 2 fI fdI ["self", "name"] (spE1 (C 2) "name" "twice")) : FnOk P w K mg base (L2N.CX P w) 4 f fd ["names"] (spRT2 K C) := by
  have G : FnOk P w K mg base CX0 1 fF fdF ["row"] (spFT3 K) := ok_ft3 D.F T
  refine okN F scRT (fun vs H Q E h => ?_) (fun cdv A outer s H vs Q E hr h => ?_)
  · obtain ⟨l, xs, rfl, _⟩ := h
    rfl
  · obtain ⟨l, zs, rfl, hl, hn, k⟩ := h
    have hr1 : Room 1 _ := hr.mono (by decide)
    have hr3 : Room 3 _ := hr
    refine ⟨_, (pss_cons (ps_set (i := 1) scRT.nd rfl (Or.inl rfl) (pe_call G hr1 rfl D.g D.F.kp D.b .nil pass0 (pa_cons (pv 0) pa_nil)))
      (pss_one (ps_if (pt_cmp (pc_notN (pv 1))) (pss_one (L2N.ps_raise rfl (L2N.takes_of rfl rfl rfl rfl) (pmkN_oex TE.o TE.iC TE.tI GI hr3 bI pass0 rfl TE.g (pa_cons (pe_ix ix_list (pv 0) (pv 1) (fun _ _ => rfl)) pa_nil)))) pss_nil))), ?_⟩
    refine ⟨_, rfl, l, zs, rfl, hl, hn, fun no H' hS => ?_, fun i z hz hin hno H' hS => ?_⟩
    · rw [goF_none no] at k
      exact ⟨_, rfl, _, rfl, iteF (k H' hS)⟩
    · rw [goF_hit hno hz (by unfold twP; rw [if_pos hin])] at k
      refine ⟨_, rfl, _, rfl, iteT ⟨_, rfl, _, rfl, l, _, (i : Int), .str z, rfl, rfl, hS.seq hl, atI_nat (by rw [List.getElem?_map, hz]; rfl), ?_⟩⟩
      exact mk1 fun d H3 hd hS3 hx => k d H3 (hS.free hd) (hS.trans hS3) hx
theorem ok_ru2 {f fI B fB : Addr} {fd fdI : FuncData} (F : Fun K "refuse_upward" "refuse_upward" sRU f fd) (TM : TxMak K mg B fB) (TE : ErrT K mg "Upward" "maker" (C 4) fI) (bI : Binds K fdI ["self", "maker", "made"] []) (GI : FnOk P w K mg base CX0 2 fI fdI ["self", "maker", "made"] (spEU (C 4))) : FnOk P w K mg base (L2N.CX P w) 4 f fd ["sorts", "makings"] (spRU2 K C B) := by
  refine okN F scRU (fun vs H Q E h => ?_) (fun cdv A outer s H vs Q E hr h => ?_)
  · obtain ⟨s, m, ss, as, ms, rfl, _⟩ := h
    rfl
  · obtain ⟨s, m, ss, as, ms, rfl, hs, hm, hms, hx, k⟩ := h
    have hr3 : Room 3 _ := hr
    refine ⟨_, (pss_one (ps_for (passes_of rfl) rfl (pi_list (pv 1)) (pg_name (i := 2) scRU.nd rfl (Or.inl rfl)) (pss_one (ps_if (pt_cmpR op_le (pe_bm PySem.F.plainAttrs_list PySem.F.slot_list_index PySem.F.type_list_index mt_index (pv 0) (pa_cons (pe_fld (pv 2) rfl) pa_nil)) (pe_bm PySem.F.plainAttrs_list PySem.F.slot_list_index PySem.F.type_list_index mt_index (pv 0) (pa_cons (pe_fld (pv 2) rfl) pa_nil)) (nomark _)) (pss_one (L2N.ps_raise rfl (L2N.takes_of rfl rfl rfl rfl) (pmkN_oex TE.o TE.iC TE.tI GI hr3 bI pass0 rfl TE.g (pa_cons (pe_fld (pv 2) rfl) (pa_cons (pe_fld (pv 2) rfl) pa_nil))))) pss_nil)))), ?_⟩
    refine ⟨_, rfl, m, rfl, ⟨_, hm⟩, for_list (K := K) (a := m) (xs := as.map V.ref) (fun i σ H' => (∃ v, σ = [some (.ref s), some (.ref m), v]) ∧ H' = H ∧ ∀ j y, j < i → ms[j]? = some y → upP ss (ms.take j) y = none) ⟨⟨none, rfl⟩, rfl, fun j y h => absurd h (Nat.not_lt_zero j)⟩ (fun i σ H' _ p => by rw [p.2.1]; exact hm) ?_ ?_⟩
    · rintro i y σ H' hi ⟨⟨v, rfl⟩, rfl, hno⟩
      obtain ⟨a, x, rfl, hxi, hat⟩ := hms.get hi
      obtain ⟨d, t1, t2, ha, _, _⟩ := hat
      obtain ⟨q1, q2⟩ := hx x (List.mem_of_getElem? hxi)
      have at_ : ∀ {z : Str}, z ∈ ss → (ss.map V.str)[ixS ss z]? = some (.str z) := fun {z} h => by rw [List.getElem?_map, ixS_at h]; rfl
      have first : ∀ {z : Str} (m : Nat) (z' : V), m < ixS ss z → (ss.map V.str)[m]? = some z' → eqV z' (.str z) = false := fun {z} m z' hm hz => by
        obtain ⟨y, hy, rfl⟩ := map_str_get hz
        have ne := ixS_first hm hy
        unfold eqV
        simp [ne]
      dsimp only [gName, List.set_cons_succ, List.set_cons_zero]
      refine ⟨_, rfl, .inl ⟨rfl, _, hs⟩, _, rfl, a, B, d, _, _, rfl, ha, TM.cl, TM.nd, makF_made _ _ _ _, ?_⟩
      refine ⟨s, _, .str x.md, ixS ss x.md, .str x.md, rfl, rfl, hs, rfl, flat_of ss, at_ q2, by unfold eqV; simp, first, ?_⟩
      refine ⟨_, rfl, .inl ⟨rfl, _, hs⟩, _, rfl, a, B, d, _, _, rfl, ha, TM.cl, TM.nk, makF_maker _ _ _ _, ?_⟩
      refine ⟨s, _, .str x.mr, ixS ss x.mr, .str x.mr, rfl, rfl, hs, rfl, flat_of ss, at_ q1, by unfold eqV; simp, first, ?_⟩
      refine ⟨_, _, rfl, rfl, _, rfl, ?_⟩
      refine ite2 (fun z => ?_) (fun z => ?_)
      · have z := of_decide_eq_true z
        rw [goF_hit hno hxi (by unfold upP; rw [if_pos (by omega)])] at k
        exact ⟨_, rfl, a, B, d, _, _, rfl, ha, TM.cl, TM.nk, makF_maker _ _ _ _, _, rfl, a, B, d, _, _, rfl, ha, TM.cl, TM.nd, makF_made _ _ _ _, mkU fun d' H3 hd' hS3 hx => k d' H3 hd' hS3 hx⟩
      · exact ⟨⟨_, rfl⟩, rfl, goF_more hno hxi (by unfold upP; rw [if_neg fun q => z (decide_eq_true (by omega))])⟩
    · rintro σ H' ⟨⟨v, rfl⟩, rfl, hno⟩
      rw [List.length_map, hms.len] at hno
      rw [goF_none hno] at k
      exact k H' (Same.refl H')
theorem scNR : FnScope ["self", "name"] ["self", "name"] (defScope sNR) := ⟨rfl, rfl, rfl, by decide +kernel, rfl, by decide +kernel, by decide +kernel⟩
theorem ok_norule {f C f0 W : Addr} {fd fd0 : FuncData} (F : Fun K "__init__" "NoRule.__init__" sNR f fd) (T : ErrT K mg "NoRule" "name" C f) (TW : WhoT K mg W f0 fd0) (G0 : FnOk P w K mg base CX0 1 f0 fd0 ["self", "kind"] (spWI K)) :
    FnOk P w K mg base CX0 2 f fd ["self", "name"] (spE1 C "name" "norule") := by
  refine F.ok scNR (fun vs H Q E h => ?_) (fun cdv A outer s H vs Q E hr h => ?_)
  · obtain ⟨a, v, rfl, _⟩ := h
    rfl
  · obtain ⟨a, v, rfl, ha, k⟩ := h
    refine ⟨_, pss_cons (ps_expr (pe_clsFn rfl TW.g TW.r TW.m TW.k G0 hr TW.b .nil pass0 (pa_cons (pv 0) (pa_cons pe_str pa_nil)))) (pss_one (ps_ost (pv 0) (pv 1))), ?_⟩
    refine ⟨_, rfl, a, C, _, rfl, T.o, T.nk, ha, fun dx n ne => ?_⟩
    refine ⟨_, rfl, _, rfl, a, C, rfl, T.o, T.nf, .inr ⟨dx, _, upd_same, Eq.trans (upd_ne ne) upd_same, by decide, ?_⟩⟩
    refine k dx _ n ne (fun b o nb e => ?_) ?_ upd_same
    · have nd : b ≠ dx := ne_of_none e n
      rw [upd_ne nd, upd_ne nb, upd_ne nd]
      exact e
    · rw [upd_ne ne.symm, upd_same]
theorem scNB : FnScope ["self", "name"] ["self", "name"] (defScope sNB) := ⟨rfl, rfl, rfl, by decide +kernel, rfl, by decide +kernel, by decide +kernel⟩
theorem ok_nobar {f C f0 W : Addr} {fd fd0 : FuncData} (F : Fun K "__init__" "NoBar.__init__" sNB f fd) (T : ErrT K mg "NoBar" "name" C f) (TW : WhoT K mg W f0 fd0) (G0 : FnOk P w K mg base CX0 1 f0 fd0 ["self", "kind"] (spWI K)) :
    FnOk P w K mg base CX0 2 f fd ["self", "name"] (spE1 C "name" "nobar") := by
  refine F.ok scNB (fun vs H Q E h => ?_) (fun cdv A outer s H vs Q E hr h => ?_)
  · obtain ⟨a, v, rfl, _⟩ := h
    rfl
  · obtain ⟨a, v, rfl, ha, k⟩ := h
    refine ⟨_, pss_cons (ps_expr (pe_clsFn rfl TW.g TW.r TW.m TW.k G0 hr TW.b .nil pass0 (pa_cons (pv 0) (pa_cons pe_str pa_nil)))) (pss_one (ps_ost (pv 0) (pv 1))), ?_⟩
    refine ⟨_, rfl, a, C, _, rfl, T.o, T.nk, ha, fun dx n ne => ?_⟩
    refine ⟨_, rfl, _, rfl, a, C, rfl, T.o, T.nf, .inr ⟨dx, _, upd_same, Eq.trans (upd_ne ne) upd_same, by decide, ?_⟩⟩
    refine k dx _ n ne (fun b o nb e => ?_) ?_ upd_same
    · have nd : b ≠ dx := ne_of_none e n
      rw [upd_ne nd, upd_ne nb, upd_ne nd]
      exact e
    · rw [upd_ne ne.symm, upd_same]
def spEM (C : Addr) : Sp := fun vs H Q _ => ∃ (a : Addr) (u v : V), vs = [.ref a, u, v] ∧ H a = some (exo a C none) ∧ ∀ dx H', H dx = none → dx ≠ a → (∀ b o, b ≠ a → H b = some o → H' b = some o) → H' a = some (exo a C (some dx)) → H' dx = some (exd dx (efM u v)) → Q .non H'
theorem mkM {C : Addr} {u v : V} {H : Hp} {E : XK} (k : ∀ d H', H d = none → Same H H' → H' d = some (.xd (efM u v)) → E (.ref C) (some d) H') :
    [u, v].length ≤ 1000 ∧ ∀ a, H a = none → spEM C (.ref a :: ([u, v] ++ [])) (upd H a (exo a C none)) (fun w H2 => w = .non ∧ ∃ (d : Addr) (fs : List (Str × V)), H2 a = some (exo a C (some d)) ∧ H2 d = some (exd d fs) ∧ H d = none ∧ E (.ref C) (some d) (upd (del H2 a) d (.xd fs))) (fun _ _ _ => False) := by
  refine ⟨by show 2 ≤ 1000; decide, fun a na => ⟨a, u, v, rfl, upd_same, fun dx H' n ne kp ha hd => ⟨rfl, dx, _, ha, hd, ?_, ?_⟩⟩⟩
  · rw [upd_ne ne] at n
    exact n
  · rw [upd_ne ne] at n
    refine k dx _ n (fun b o e => ?_) upd_same
    have nb : b ≠ a := ne_of_none e na
    rw [upd_ne (ne_of_none e n), del_ne nb]
    exact kp b o nb (by rw [upd_ne nb]; exact e)
theorem scNM : FnScope ["self", "maker", "made"] ["self", "maker", "made"] (defScope sNM) := ⟨rfl, rfl, rfl, by decide +kernel, rfl, by decide +kernel, by decide +kernel⟩
theorem ok_nomaking {f C f0 W : Addr} {fd fd0 : FuncData} (F : Fun K "__init__" "NoMaking.__init__" sNM f fd) (T : ErrT K mg "NoMaking" "maker" C f) (n2 : PySem.W.findIn K (.ref C) "made" = some none) (TW : WhoT K mg W f0 fd0) (G0 : FnOk P w K mg base CX0 1 f0 fd0 ["self", "kind"] (spWI K)) :
    FnOk P w K mg base CX0 2 f fd ["self", "maker", "made"] (spEM C) := by
  refine F.ok scNM (fun vs H Q E h => ?_) (fun cdv A outer s H vs Q E hr h => ?_)
  · obtain ⟨a, u, v, rfl, _⟩ := h
    rfl
  · obtain ⟨a, u, v, rfl, ha, k⟩ := h
    refine ⟨_, pss_cons (ps_expr (pe_clsFn rfl TW.g TW.r TW.m TW.k G0 hr TW.b .nil pass0 (pa_cons (pv 0) (pa_cons pe_str pa_nil)))) (pss_cons (ps_ost (pv 0) (pv 1)) (pss_one (ps_ost (pv 0) (pv 2)))), ?_⟩
    refine ⟨_, rfl, a, C, _, rfl, T.o, T.nk, ha, fun dx n ne => ?_⟩
    refine ⟨_, rfl, _, rfl, a, C, rfl, T.o, T.nf, .inr ⟨dx, _, upd_same, Eq.trans (upd_ne ne) upd_same, by decide, ?_⟩⟩
    refine ⟨_, rfl, _, rfl, a, C, rfl, T.o, n2, .inr ⟨dx, _, Eq.trans (upd_ne ne.symm) upd_same, upd_same, by show 2 ≤ 900; decide, ?_⟩⟩
    refine k dx _ n ne (fun b o nb e => ?_) ?_ upd_same
    · have nd : b ≠ dx := ne_of_none e n
      rw [upd_ne nd, upd_ne nd, upd_ne nb, upd_ne nd]
      exact e
    · rw [upd_ne ne.symm, upd_ne ne.symm, upd_same]
end
end Wm
namespace Wm
open PySem L2 StX
def spFT4 (K : PySem.W.Frag) : Sp := fun vs H Q _ => ∃ (l : Addr) (qs : List Addr) (ps : List (Str × Str)), vs = [.ref l] ∧ SqL K H l (qs.map V.ref) ∧ RowsAt K H qs (ps.map prV) ∧ (∀ p ∈ ps, okS p.1 ∧ okS p.2) ∧ ((∀ j y, j < ps.length → ps[j]? = some y → y ∉ ps.take j) → ∀ H', Same H H' → Q .non H') ∧ ∀ i z, ps[i]? = some z → z ∈ ps.take i → (∀ j y, j < i → ps[j]? = some y → y ∉ ps.take j) → ∀ H', Same H H' → Q (.int (i : Nat)) H'
section
variable {P : Program} {w : World} {K : PySem.W.Frag} {mg : Str → Option Value} {base : Heap} {C : Nat → Addr}
theorem ok_ft4 {f : Addr} {fd : FuncData} (F : Fun K "first_twice" "first_twice" sFT f fd) (T : TxB mg) : FnOk P w K mg base CX0 1 f fd ["row"] (spFT4 K) := by
  refine F.ok scFT (fun vs H Q E h => ?_) (fun cdv A outer s H vs Q E hr h => ?_)
  · obtain ⟨l, qs, ps, rfl, _⟩ := h
    rfl
  · obtain ⟨l, qs, ps, rfl, hl, hq, hok, kn, kt⟩ := h
    refine ⟨_, (pss_cons (ps_for PassesOwn.never rfl (pi_enum rfl T.enumerate (pa_cons (pv 0) pa_nil)) (pg_tup rfl (pgs_cons (pg_name (i := 1) scFT.nd rfl (Or.inl rfl)) (pgs_cons (pg_name (i := 2) scFT.nd rfl (Or.inl rfl)) pgs_nil))) (pss_one (ps_if (pt_cmpR (op_inD (u65 hr)) (pv 2) (pe_slice sl_list (pv 0) po_none (po_some (pv 1))) (by rfl)) (pss_one (ps_ret (pv 1))) pss_nil)))
      (pss_one (ps_ret pe_non))), ?_⟩
    refine ⟨_, rfl, l, _, rfl, hl, for_it walk_enum (fun i σ H' => (∃ u v, σ = [some (.ref l), u, v]) ∧ Same H H' ∧ ∀ j y, j < i → ps[j]? = some y → y ∉ ps.take j) ⟨⟨none, none, rfl⟩, Same.refl H, fun j y h => absurd h (Nat.not_lt_zero j)⟩ (fun i σ H' _ p => p.2.1.seq hl) ?_ ?_⟩
    · rintro i x σ H1 H2 hi ⟨⟨u, v, rfl⟩, hS, hno⟩ ⟨t, y, z, rfl, ht, rfl, e1, e2⟩
      cases e1
      refine ⟨t, _, rfl, SqT.of upd_same, rfl, _, _, rfl, _, _, rfl, rfl, ?_⟩
      have S2 := hS.trans (Same.upd (o := .tup [.int (i : Nat), z]) ht)
      have e2 : (qs.map V.ref)[i]? = some z := e2
      rw [List.getElem?_map] at e2
      obtain ⟨q, hqi, rfl⟩ := Option.map_eq_some_iff.mp e2
      obtain ⟨r, hri, hqt⟩ := hq.get hqi
      rw [List.getElem?_map] at hri
      obtain ⟨p, hpi, rfl⟩ := Option.map_eq_some_iff.mp hri
      refine ⟨_, rfl, _, rfl, _, rfl, _, rfl, l, _, rfl, S2.seq hl, fun c hc => ?_⟩
      rw [show cutV (qs.map V.ref) none (some (i : Int)) = (qs.take i).map V.ref by rw [cut_take, List.map_take]]
      have S3 := S2.trans (Same.upd (o := .lst ((qs.take i).map V.ref)) hc)
      have hrow : RowsAt K (upd (upd H1 t (.tup [.int (i : Nat), .ref q])) c (.lst ((qs.take i).map V.ref))) (qs.take i) ((ps.take i).map prV) := by
        have e := (hq.same S3).take i
        rw [← List.map_take] at e
        exact e
      obtain ⟨l1, l2⟩ := prs_sh (ps := ps.take i) fun p hp => hok p (List.mem_of_mem_take hp)
      have shl : SeqAt.shaped (.list ((ps.take i).map prD)) = true := by
        generalize (ps.take i).map prD = X at l1 l2
        simp [SeqAt.shaped, PyData.canLay0, PyData.depth, l1]
        omega
      have shp : SeqAt.shaped (prD p) = true := by
        obtain ⟨a, b⟩ := hok p (List.mem_of_getElem? hpi)
        have sa := strOk_of a
        have sb := strOk_of b
        simp [prD, SeqAt.shaped, PyData.canLay0, PyData.canLayAll0, PyData.depth, PyData.depthAll, sa, sb]
      refine ⟨prD p, _, .tup (same_seqT S3 hqt) (.cons (.str _) (.cons (.str _) .nil)), .lst (SqL.of upd_same) (prs_dp hrow), shp, shl, _, rfl, ?_⟩
      have an : ((ps.take i).map prD).any (fun z => PyData.eqv z (prD p)) = decide (p ∈ ps.take i) := by
        rw [List.any_map]
        by_cases m : p ∈ ps.take i
        · rw [decide_eq_true m, List.any_eq_true]
          exact ⟨p, m, by show PyData.eqv (prD p) (prD p) = true; rw [prD_eqv]; exact decide_eq_true rfl⟩
        · rw [decide_eq_false m, List.any_eq_false]
          intro y hy
          show ¬ PyData.eqv (prD y) (prD p) = true
          rw [prD_eqv]
          intro e
          exact m ((of_decide_eq_true e) ▸ hy)
      rw [an]
      by_cases m : p ∈ ps.take i
      · rw [decide_eq_true m]
        exact iteT ⟨_, rfl, kt i p hpi m hno _ S3⟩
      · rw [decide_eq_false m]
        refine iteF ⟨⟨_, _, rfl⟩, S3, fun j y hj ey => ?_⟩
        by_cases q : j = i
        · subst q
          rw [hpi] at ey
          cases ey
          exact m
        · exact hno j y (by omega) ey
    · rintro σ H' ⟨_, hS, hno⟩
      refine kn (fun j y hj ey => hno j y ?_ ey) H' hS
      rw [List.length_map, hq.len, List.length_map]
      exact hj

theorem ok_rm2 {f fF fI B fB : Addr} {fd fdF fdI : FuncData} (F : Fun K "refuse_makings_twice" "refuse_makings_twice" sRMT f fd) (T : TxB mg) (TM : TxMak K mg B fB) (D : Dn K mg "first_twice" sFT ["row"] fF fdF) (TE : ErrT K mg "Twice" "name" (C 2) fI) (bI : Binds K fdI ["self", "name"] [])
    (GI : FnOk P w K mg base CX0 2 fI fdI ["self", "name"] (spE1 (C 2) "name" "twice")) : FnOk P w K mg base (L2N.CX P w) 4 f fd ["makings"] (spRM2 K C B) := by
  have G : FnOk P w K mg base CX0 1 fF fdF ["row"] (spFT4 K) := ok_ft4 D.F T
  refine okN F scRMT (fun vs H Q E h => ?_) (fun cdv A outer s H vs Q E hr h => ?_)
  · obtain ⟨m, as, ms, rfl, _⟩ := h
    rfl
  · obtain ⟨m, as, ms, rfl, hm, hms, hl, hok, k⟩ := h
    have hr1 : Room 1 _ := hr.mono (by decide)
    have hr3 : Room 3 _ := hr
    refine ⟨_, (pss_cons (ps_setLc (i := 1) (own := [("making", 3)]) (g := gName 3) (te := tTup (tCons (tFld K (tVar 3) "maker") (tCons (tFld K (tVar 3) "made") tNil))) rfl scRMT.nd rfl rfl (sw_true rfl rfl rfl (by decide +kernel)) (pi_list (pv 0)) (blkOk_by (N := ["makings", "pairs", "place", "making"]) (sc := defScope sRMT) (by decide +kernel)) (fun _ _ _ _ _ => (pg_name (i := 3) scRMT.nd rfl (Or.inl rfl))) (fun _ _ _ _ _ => pts_nil) (fun _ _ _ _ _ => (pe_tup (pa_cons (pe_fld (pv 3) rfl) (pa_cons (pe_fld (pv 3) rfl) pa_nil)))))
      (pss_cons (ps_set (i := 2) scRMT.nd rfl (Or.inl rfl) (pe_call G hr1 rfl D.g D.F.kp D.b .nil pass0 (pa_cons (pv 1) pa_nil)))
      (pss_one (ps_if (pt_cmp (pc_notN (pv 2))) (pss_one (L2N.ps_raise rfl (L2N.takes_of rfl rfl rfl rfl) (pmkN_oex TE.o TE.iC TE.tI GI hr3 bI pass0 rfl TE.g (pa_cons (pe_fld (pe_ix ix_list (pv 0) (pv 2) (fun _ _ => rfl)) rfl) pa_nil)))) pss_nil)))), ?_⟩
    refine ⟨_, rfl, m, rfl, ⟨_, hm⟩, fun D' hD => ?_⟩
    refine lc_list (K := K) (a := m) (xs := as.map V.ref) (fun i H' => Same H H' ∧ ∃ qs : List Addr, H' D' = some (.lst (qs.map V.ref)) ∧ qs.length = i ∧ RowsAt K H' qs (((ms.map fun x => (x.mr, x.md)).take i).map prV)) ⟨Same.upd hD, [], upd_same, rfl, True.intro⟩ (fun i H' _ p => p.1.seq hm) ?_ ?_
    · rintro i x H' hi ⟨hS, qs, hq, hql, hrow⟩
      obtain ⟨a, y, rfl, hy, hat⟩ := hms.get hi
      obtain ⟨d, t1, t2, ha, _, _⟩ := MkAt.same hS hat
      refine ⟨rfl, ?_⟩
      refine ⟨_, rfl, a, B, d, _, _, rfl, ha, TM.cl, TM.nk, makF_maker _ _ _ _, ?_⟩
      refine ⟨_, rfl, a, B, d, _, _, rfl, ha, TM.cl, TM.nd, makF_made _ _ _ _, ?_⟩
      refine ⟨by show 2 ≤ sizeLine; decide, fun t ht => ?_⟩
      have nt : t ≠ D' := (ne_of_none hq ht).symm
      have il : i < ms.length := (List.getElem?_eq_some_iff.mp hy).1
      refine ⟨_, Same.upd ht _ _ hq, ?_, ?_, qs ++ [t], ?_, ?_, ?_⟩
      · rw [List.length_map]
        exact Nat.lt_of_le_of_lt (show qs.length ≤ 1000 by omega) (by decide)
      · intro b o h
        rw [upd_ne (ne_of_none h hD)]
        exact Same.upd ht _ _ (hS b o h)
      · rw [upd_same, List.map_append]
        rfl
      · rw [List.length_append, List.length_singleton]
        omega
      · rw [List.take_add_one, List.getElem?_map, hy, List.map_append]
        have B' : But D' (upd H' t (.tup [.str y.mr, .str y.md])) (upd (upd H' t (.tup [.str y.mr, .str y.md])) D' (.lst (qs.map V.ref ++ [.ref t]))) := But.upd
        have keep : ∀ {q : Addr} {xs : List V}, SqT K (upd H' t (.tup [.str y.mr, .str y.md])) q xs → SqT K (upd (upd H' t (.tup [.str y.mr, .str y.md])) D' (.lst (qs.map V.ref ++ [.ref t]))) q xs := fun {q xs} h => by
          have hp : (upd H' t (.tup [.str y.mr, .str y.md])) D' = some (.lst (qs.map V.ref)) := Same.upd ht _ _ hq
          rcases h with (h | ⟨u, h⟩) | h
          · exact .inl (.inl (B' _ _ (ne_of h hp (by intro z; cases z)) h))
          · exact .inl (.inr ⟨u, B' _ _ (ne_of h hp (by intro z; cases z)) h⟩)
          · exact .inr h
        have r1 : RowsAt K (upd H' t (.tup [.str y.mr, .str y.md])) (qs ++ [t]) (((ms.map fun x => (x.mr, x.md)).take i).map prV ++ [prV (y.mr, y.md)]) := (hrow.same (Same.upd ht)).append ⟨SqT.of upd_same, True.intro⟩
        exact rows_imp keep r1
    · rintro H' ⟨hS, qs, hq, hql, hrow⟩
      rw [List.length_map, hms.len] at hql
      rw [List.length_map, hms.len, List.take_of_length_le (by rw [List.length_map]; exact Nat.le_refl _)] at hrow
      dsimp only [List.set_cons_succ, List.set_cons_zero]
      refine ⟨_, rfl, D', qs, _, rfl, SqL.of hq, hrow, fun p hp => ?_, fun no H2 S2 => ?_, fun i z hz hin hno H2 S2 => ?_⟩
      · obtain ⟨x, hx, rfl⟩ := List.mem_map.mp hp
        exact hok x hx
      · rw [goF_none fun j y hj ey => ?_] at k
        · exact ⟨_, rfl, _, rfl, iteF (k _ (hS.trans S2))⟩
        · unfold twM
          rw [List.map_take, if_neg (no j _ (by rw [List.length_map]; exact hj) (by rw [List.getElem?_map, ey]; rfl))]
      · rw [List.getElem?_map] at hz
        obtain ⟨x, hx, rfl⟩ := Option.map_eq_some_iff.mp hz
        have S02 := hS.trans S2
        rw [goF_hit (fun j y hj ey => ?_) hx (b := .tw x.mr) (by unfold twM; rw [List.map_take, if_pos hin])] at k
        · have il : i < as.length := by
            have q := (List.getElem?_eq_some_iff.mp hx).1
            rw [hms.len]
            exact q
          obtain ⟨a, ha0⟩ : ∃ a, as[i]? = some a := ⟨_, List.getElem?_eq_getElem il⟩
          have hav : (as.map V.ref)[i]? = some (.ref a) := by rw [List.getElem?_map, ha0]; rfl
          obtain ⟨a', x', e1, e2, hat⟩ := hms.get hav
          cases e1
          rw [hx] at e2
          cases e2
          obtain ⟨d, t1, t2, ha, _, _⟩ := MkAt.same S02 hat
          refine ⟨_, rfl, _, rfl, iteT ⟨_, rfl, _, rfl, m, _, (i : Int), .ref a, rfl, rfl, S02.seq hm, atI_nat hav, a, B, d, _, _, rfl, ha, TM.cl, TM.nk, makF_maker _ _ _ _, ?_⟩⟩
          exact mk1 fun d' H3 hd hS3 hx => k d' H3 (S02.free hd) (S02.trans hS3) hx
        · unfold twM
          rw [List.map_take, if_neg (hno j _ hj (by rw [List.getElem?_map, ey]; rfl))]

theorem ok_ns2 {f fI B fB : Addr} {fd fdI : FuncData} (F : Fun K "refuse_no_sort" "refuse_no_sort" sRNS f fd) (TM : TxMak K mg B fB) (TE : ErrT K mg "NoSort" "name" (C 3) fI) (bI : Binds K fdI ["self", "name"] []) (GI : FnOk P w K mg base CX0 2 fI fdI ["self", "name"] (spE1 (C 3) "name" "nosort")) : FnOk P w K mg base (L2N.CX P w) 4 f fd ["sorts", "makings", "patterns"] (spNS2 K C B) := by
  refine okN F scRNS (fun vs H Q E h => ?_) (fun cdv A outer s H vs Q E hr h => ?_)
  · obtain ⟨s, m, p, ss, as, bs, ms, vv, rfl, _⟩ := h
    rfl
  · obtain ⟨s, m, p, ss, as, bs, ms, vv, rfl, hs, hm, hms, hp, hvv, ml, vl, v4, k⟩ := h
    have hr3 : Room 3 _ := hr
    refine ⟨_, (pss_cons (ps_set (i := 3) scRNS.nd rfl (Or.inl rfl) (pe_lst pa_nil))
      (pss_cons (ps_for (passes_of rfl) rfl (pi_list (pv 1)) (pg_name (i := 4) scRNS.nd rfl (Or.inl rfl)) (pss_one (ps_expr (pe_bm PySem.F.plainAttrs_list PySem.F.slot_list_extend PySem.F.type_list_extend mt_extend (pv 3) (pa_cons (pe_lst (pa_cons (pe_fld (pv 4) rfl) (pa_cons (pe_fld (pv 4) rfl) pa_nil))) pa_nil)))))
      (pss_cons (ps_for (passes_of rfl) rfl (pi_list (pv 2)) (pg_name (i := 5) scRNS.nd rfl (Or.inl rfl)) (pss_one (ps_expr (pe_bm PySem.F.plainAttrs_list PySem.F.slot_list_extend PySem.F.type_list_extend mt_extend (pv 3) (pa_cons (pe_lc (own := [("variable", 7), ("sort", 8)]) (g := gTup K 2 (gCons (gName 7) (gCons (gName 8) gNil))) rfl scRNS.nd (pi_tup (pe_fld (pv 5) rfl)) (blkOk_by (N := ["sorts", "makings", "patterns", "asked", "making", "pattern", "name", "variable", "sort"]) (sc := defScope sRNS) (by decide +kernel)) (fun _ _ _ _ _ => (pg_tup rfl (pgs_cons (pg_name (i := 7) scRNS.nd rfl (Or.inl rfl)) (pgs_cons (pg_name (i := 8) scRNS.nd rfl (Or.inl rfl)) pgs_nil)))) (fun _ _ _ _ _ => (pts_one (pt_cmp (pc_notN (pv 8))))) (fun _ _ _ _ _ => (pv 8))) pa_nil)))))
      (pss_one (ps_for (passes_of rfl) rfl (pi_list (pv 3)) (pg_name (i := 6) scRNS.nd rfl (Or.inl rfl)) (pss_one (ps_if (pt_cmpR op_notIn_seq (pv 6) (pv 0) (by rfl)) (pss_one (L2N.ps_raise rfl (L2N.takes_of rfl rfl rfl rfl) (pmkN_oex TE.o TE.iC TE.tI GI hr3 bI pass0 rfl TE.g (pa_cons (pv 6) pa_nil)))) pss_nil))))))), ?_⟩
    refine ⟨Nat.zero_le _, fun d hd => ?_⟩
    dsimp only [List.set_cons_succ, List.set_cons_zero]
    have Sd : ∀ {H1 : Hp} {o : HO}, Same H H1 → Same H (upd H1 d o) := fun hs b o e => by
      rw [upd_ne (ne_of_none e hd)]
      exact hs b o e
    have S0 : Same H (upd H d (.lst [])) := Same.upd hd
    refine ⟨_, rfl, m, rfl, ⟨_, S0.seq hm⟩, for_list (K := K) (a := m) (xs := as.map V.ref) (fun i σ H' => (∃ v, σ = [some (.ref s), some (.ref m), some (.ref p), some (.ref d), v, none, none, none, none]) ∧ Same H H' ∧ ∃ zs : List Str, H' d = some (.lst (zs.map V.str)) ∧ zs.length ≤ 2 * i ∧ zs = (ms.take i).flatMap (fun x => [x.mr, x.md])) ⟨⟨none, rfl⟩, S0, [], upd_same, Nat.le_refl _, rfl⟩ (fun i σ H' _ p => p.2.1.seq hm) ?_ ?_⟩
    · rintro i y σ H' hi ⟨⟨v, rfl⟩, hS, zs, hz, zl, zo⟩
      obtain ⟨a, x, rfl, hxi, hat⟩ := hms.get hi
      obtain ⟨d', t1, t2, ha, _, _⟩ := MkAt.same hS hat
      have il : i < ms.length := (List.getElem?_eq_some_iff.mp hxi).1
      dsimp only [gName, List.set_cons_succ, List.set_cons_zero]
      refine ⟨_, rfl, .inl ⟨rfl, _, SqL.of hz⟩, _, rfl, a, B, d', _, _, rfl, ha, TM.cl, TM.nk, makF_maker _ _ _ _, _, rfl, a, B, d', _, _, rfl, ha, TM.cl, TM.nd, makF_made _ _ _ _, by show 2 ≤ sizeLine; decide, fun l2 nl2 => ?_⟩
      refine ⟨d, l2, _, _, rfl, rfl, Same.upd nl2 _ _ hz, upd_same, ?_, ⟨_, rfl⟩, Sd (hS.trans (Same.upd nl2)), zs ++ [x.mr, x.md], ?_, ?_, ?_⟩
      · rw [List.length_map]
        exact Nat.le_trans (show zs.length + 2 ≤ 10000 by omega) (by decide)
      · rw [upd_same, List.map_append]
        rfl
      · rw [List.length_append]
        show zs.length + 2 ≤ _
        omega
      · rw [zo, fm_take hxi]
    rintro σ H1 ⟨⟨v, rfl⟩, hS1, zs, hz, zl, zo⟩
    rw [List.length_map, hms.len] at zl zo
    rw [List.take_length] at zo
    refine ⟨_, rfl, p, rfl, ⟨_, hS1.seq hp⟩, for_list (K := K) (a := p) (xs := bs.map V.ref) (fun i σ H' => (∃ v u, σ = [some (.ref s), some (.ref m), some (.ref p), some (.ref d), v, u, none, none, none]) ∧ Same H H' ∧ ∃ zs : List Str, H' d = some (.lst (zs.map V.str)) ∧ zs.length ≤ 2 * ms.length + 4 * i ∧ zs = ms.flatMap (fun x => [x.mr, x.md]) ++ (vv.take i).flatMap (fun v => v.filterMap (·.2))) ⟨⟨_, none, rfl⟩, hS1, zs, hz, by omega, by rw [zo]; simp⟩ (fun i σ H' _ p => p.2.1.seq hp) ?_ ?_⟩
    · rintro i y σ H' hi ⟨⟨v, u, rfl⟩, hS, zs, hz, zl, zo⟩
      obtain ⟨a, x, rfl, hxi, hat⟩ := hvv.get hi
      obtain ⟨C, d', fs, t1, ps, ha, hc, hn, hlk, ht, hrow⟩ := PvAt.same hS hat
      have il : i < vv.length := (List.getElem?_eq_some_iff.mp hxi).1
      have xm := List.mem_of_getElem? hxi
      have x4 := v4 x xm
      dsimp only [gName, List.set_cons_succ, List.set_cons_zero]
      refine ⟨_, rfl, .inl ⟨rfl, _, SqL.of hz⟩, _, rfl, a, C, d', _, _, rfl, ha, hc, hn, hlk, t1, rfl, ⟨_, ht⟩, fun D hD => ?_⟩
      have ndD : d ≠ D := ne_of_none hz hD
      refine lc_it walk_tup (fun j G => Same H' G ∧ ∃ us : List Str, G D = some (.lst (us.map V.str)) ∧ us.length ≤ j ∧ us = (x.take j).filterMap (·.2)) ⟨Same.upd hD, [], upd_same, Nat.le_refl _, rfl⟩ (fun j G _ p => same_seqT p.1 ht) ?_ ?_
      · rintro j x' G G' hj ⟨hSG, us, hu, ul, uo⟩ ⟨rfl, hxj⟩
        obtain ⟨q, hqj, rfl⟩ := map_ref_get hxj
        obtain ⟨r, hrj, hqr⟩ := hrow.get hqj
        obtain ⟨⟨n, so⟩, hvj, rfl⟩ := var_get hrj
        have jl : j < x.length := (List.getElem?_eq_some_iff.mp hvj).1
        refine ⟨q, _, rfl, same_seqT hSG hqr, rfl, _, _, rfl, _, _, rfl, rfl, rfl, ?_⟩
        cases so with
        | none =>
          refine ⟨_, rfl, _, rfl, ?_⟩
          refine iteF ?_
          exact ⟨hSG, us, hu, by omega, by rw [uo, List.take_add_one, hvj, List.filterMap_append]; simp⟩
        | some z =>
          refine ⟨_, rfl, _, rfl, ?_⟩
          refine iteT ?_
          refine ⟨_, rfl, _, hu, ?_, ?_, us ++ [z], ?_, ?_, ?_⟩
          · rw [List.length_map]
            exact Nat.lt_of_le_of_lt (show us.length ≤ 100 by omega) (by decide)
          · intro b o h
            rw [upd_ne (ne_of_none h hD)]
            exact hSG b o h
          · rw [upd_same, List.map_append]
            rfl
          · rw [List.length_append, List.length_singleton]
            omega
          · rw [uo, List.take_add_one, hvj, List.filterMap_append]
            rfl
      · rintro G ⟨hSG, us, hu, ul, uo⟩
        have ul4 : us.length ≤ 4 := by
          rw [List.length_map, hrow.len, List.length_map] at ul
          omega
        refine ⟨d, D, _, _, rfl, rfl, hSG _ _ hz, hu, ?_, ⟨_, _, rfl⟩, Sd (hS.trans hSG), zs ++ us, ?_, ?_, ?_⟩
        · rw [List.length_map, List.length_map]
          exact Nat.le_trans (show zs.length + us.length ≤ 10000 by omega) (by decide)
        · rw [upd_same, List.map_append]
        · rw [List.length_append]
          omega
        · have xl : ((ps.map V.ref).length) = x.length := by rw [List.length_map, hrow.len, List.length_map]
          rw [xl, List.take_length] at uo
          rw [zo, uo, fm_take hxi, List.append_assoc]
    rintro σ H2 ⟨⟨v, u, rfl⟩, hS2, zs, hz, zl, zo⟩
    rw [List.length_map, hvv.len, List.take_length] at zo
    have zo : zs = askS ms vv := zo
    rw [← zo] at k
    refine ⟨_, rfl, d, rfl, ⟨_, SqL.of hz⟩, for_list (K := K) (a := d) (xs := zs.map V.str) (fun i σ H' => (∃ v u t, σ = [some (.ref s), some (.ref m), some (.ref p), some (.ref d), v, u, t, none, none]) ∧ H' = H2 ∧ ∀ j y, j < i → zs[j]? = some y → nsP ss (zs.take j) y = none) ⟨⟨_, _, none, rfl⟩, rfl, fun j y h => absurd h (Nat.not_lt_zero j)⟩ (fun i σ H' _ p => by rw [p.2.1]; exact SqL.of hz) ?_ ?_⟩
    · rintro i y σ H' hi ⟨⟨v, u, t, rfl⟩, rfl, hno⟩
      obtain ⟨z, hzi, rfl⟩ := map_str_get hi
      dsimp only [gName, List.set_cons_succ, List.set_cons_zero]
      refine ⟨_, rfl, _, rfl, s, _, rfl, .inl (hS2.seq hs), rfl, flat_of ss, _, rfl, ?_⟩
      show if (!inV (.str z) (ss.map V.str)) = true then _ else _
      rw [inV_strs]
      by_cases q : z ∈ ss
      · rw [decide_eq_true q]
        exact iteF ⟨⟨_, _, _, rfl⟩, rfl, goF_more hno hzi (by unfold nsP; rw [if_pos q])⟩
      · rw [decide_eq_false q]
        rw [goF_hit hno hzi (by unfold nsP; rw [if_neg q])] at k
        exact iteT ⟨_, rfl, mk1 fun d' H3 hd' hS3 hx => k d' H3 (hS2.free hd') (hS2.trans hS3) hx⟩
    · rintro σ H' ⟨⟨v, u, t, rfl⟩, rfl, hno⟩
      rw [List.length_map] at hno
      rw [goF_none hno] at k
      exact k _ hS2
end
end Wm
namespace Wm
open PySem L2 StX
section
variable {P : Program} {w : World} {K : PySem.W.Frag} {mg : Str → Option Value} {base : Heap} {C : Nat → Addr}
theorem ok_nw2 {f fI MB fM RB fR BB fB : Addr} {fd fdI : FuncData} (F : Fun K "refuse_no_word" "refuse_no_word" sRNW f fd) (TM : TxMak K mg MB fM) (TR : TxRul K mg RB fR) (TB : TxBar K mg BB fB) (TE : ErrT K mg "NoWord" "name" (C 5) fI) (bI : Binds K fdI ["self", "name"] []) (GI : FnOk P w K mg base CX0 2 fI fdI ["self", "name"] (spE1 (C 5) "name" "noword")) : FnOk P w K mg base (L2N.CX P w) 4 f fd ["words", "makings", "rules", "bars"] (spNW2 K C MB RB BB) := by
  refine okN F scRNW (fun vs H Q E h => ?_) (fun cdv A outer s H vs Q E hr h => ?_)
  · obtain ⟨w, m, r, b, ws, as, bs, cs, ms, rs, ps, rfl, _⟩ := h
    rfl
  · obtain ⟨w, m, r, b, ws, as, bs, cs, ms, rs, ps, rfl, hw, hm, hms, hr', hrs, hb, hps, ml, rl, pl, m1, r1, p1, k⟩ := h
    have hr3 : Room 3 _ := hr
    refine ⟨_, (pss_cons (ps_set (i := 4) scRNW.nd rfl (Or.inl rfl) (pe_lst pa_nil))
      (pss_cons (ps_for (passes_of rfl) rfl (pi_list (pv 1)) (pg_name (i := 5) scRNW.nd rfl (Or.inl rfl)) (pss_one (ps_expr (pe_bm PySem.F.plainAttrs_list PySem.F.slot_list_extend PySem.F.type_list_extend mt_extend (pv 4) (pa_cons (pe_lst (pa_star (pe_fld (pv 5) rfl) (pa_star (pe_fld (pv 5) rfl) pa_nil))) pa_nil)))))
      (pss_cons (ps_for (passes_of rfl) rfl (pi_list (pv 2)) (pg_name (i := 6) scRNW.nd rfl (Or.inl rfl)) (pss_one (ps_expr (pe_bm PySem.F.plainAttrs_list PySem.F.slot_list_extend PySem.F.type_list_extend mt_extend (pv 4) (pa_cons (pe_lc (own := [("x", 9), ("word", 10), ("y", 11)]) (g := gTup K 3 (gCons (gName 9) (gCons (gName 10) (gCons (gName 11) gNil)))) rfl scRNW.nd (pi_list (pe_lst (pa_star (pe_fld (pv 6) rfl) (pa_cons (pe_fld (pv 6) rfl) pa_nil)))) (blkOk_by (N := ["words", "makings", "rules", "bars", "asked", "making", "rule", "bar", "name", "x", "word", "y"]) (sc := defScope sRNW) (by decide +kernel)) (fun _ _ _ _ _ => (pg_tup rfl (pgs_cons (pg_name (i := 9) scRNW.nd rfl (Or.inl rfl)) (pgs_cons (pg_name (i := 10) scRNW.nd rfl (Or.inl rfl)) (pgs_cons (pg_name (i := 11) scRNW.nd rfl (Or.inl rfl)) pgs_nil))))) (fun _ _ _ _ _ => pts_nil) (fun _ _ _ _ _ => (pv 10))) pa_nil)))))
      (pss_cons (ps_for (passes_of rfl) rfl (pi_list (pv 3)) (pg_name (i := 7) scRNW.nd rfl (Or.inl rfl)) (pss_one (ps_expr (pe_bm PySem.F.plainAttrs_list PySem.F.slot_list_extend PySem.F.type_list_extend mt_extend (pv 4) (pa_cons (pe_lc (own := [("x", 9), ("word", 10), ("y", 11)]) (g := gTup K 3 (gCons (gName 9) (gCons (gName 10) (gCons (gName 11) gNil)))) rfl scRNW.nd (pi_tup (pe_fld (pv 7) rfl)) (blkOk_by (N := ["words", "makings", "rules", "bars", "asked", "making", "rule", "bar", "name", "x", "word", "y"]) (sc := defScope sRNW) (by decide +kernel)) (fun _ _ _ _ _ => (pg_tup rfl (pgs_cons (pg_name (i := 9) scRNW.nd rfl (Or.inl rfl)) (pgs_cons (pg_name (i := 10) scRNW.nd rfl (Or.inl rfl)) (pgs_cons (pg_name (i := 11) scRNW.nd rfl (Or.inl rfl)) pgs_nil))))) (fun _ _ _ _ _ => pts_nil) (fun _ _ _ _ _ => (pv 10))) pa_nil)))))
      (pss_one (ps_for (passes_of rfl) rfl (pi_list (pv 4)) (pg_name (i := 8) scRNW.nd rfl (Or.inl rfl)) (pss_one (ps_if (pt_cmpR op_notIn_seq (pv 8) (pv 0) (by rfl)) (pss_one (L2N.ps_raise rfl (L2N.takes_of rfl rfl rfl rfl) (pmkN_oex TE.o TE.iC TE.tI GI hr3 bI pass0 rfl TE.g (pa_cons (pv 8) pa_nil)))) pss_nil)))))))), ?_⟩
    refine ⟨Nat.zero_le _, fun d hd => ?_⟩
    dsimp only [List.set_cons_succ, List.set_cons_zero]
    have Sd : ∀ {H1 : Hp} {o : HO}, Same H H1 → Same H (upd H1 d o) := fun hs b o e => by
      rw [upd_ne (ne_of_none e hd)]
      exact hs b o e
    have S0 : Same H (upd H d (.lst [])) := Same.upd hd
    -- the words of the makings
    refine ⟨_, rfl, m, rfl, ⟨_, S0.seq hm⟩, for_list (K := K) (a := m) (xs := as.map V.ref) (fun i σ H' => (∃ v, σ = [some (.ref w), some (.ref m), some (.ref r), some (.ref b), some (.ref d), v, none, none, none, none, none, none]) ∧ Same H H' ∧ ∃ zs : List Str, H' d = some (.lst (zs.map V.str)) ∧ zs.length ≤ 200 * i ∧ zs = (ms.take i).flatMap (fun x => x.dn ++ x.up)) ⟨⟨none, rfl⟩, S0, [], upd_same, Nat.le_refl _, rfl⟩ (fun i σ H' _ p => p.2.1.seq hm) ?_ ?_⟩
    · rintro i y σ H' hi ⟨⟨v, rfl⟩, hS, zs, hz, zl, zo⟩
      obtain ⟨a, x, rfl, hxi, hat⟩ := hms.get hi
      obtain ⟨d', t1, t2, ha, ht1, ht2⟩ := MkAt.same hS hat
      have il : i < ms.length := (List.getElem?_eq_some_iff.mp hxi).1
      have xm := List.mem_of_getElem? hxi
      have x1 := m1 x xm
      dsimp only [gName, List.set_cons_succ, List.set_cons_zero]
      refine ⟨_, rfl, .inl ⟨rfl, _, SqL.of hz⟩, _, rfl, a, MB, d', _, _, rfl, ha, TM.cl, TM.nw, makF_down _ _ _ _, t1, _, rfl, .inl ht1, _, rfl, a, MB, d', _, _, rfl, ha, TM.cl, TM.nu, makF_up _ _ _ _, t2, _, rfl, .inl ht2, ?_⟩
      show (x.dn.map V.str ++ (x.up.map V.str ++ [])).length ≤ sizeLine ∧ _
      rw [show (x.dn.map V.str ++ (x.up.map V.str ++ [])) = (x.dn ++ x.up).map V.str by rw [List.append_nil, List.map_append]]
      refine ⟨Nat.le_trans (show _ ≤ 1000 by rw [List.length_map, List.length_append]; omega) (by decide), fun l2 nl2 => ?_⟩
      refine ⟨d, l2, _, _, rfl, rfl, Same.upd nl2 _ _ hz, upd_same, ?_, ⟨_, rfl⟩, Sd (hS.trans (Same.upd nl2)), zs ++ (x.dn ++ x.up), ?_, ?_, ?_⟩
      · rw [List.length_map, List.length_map, List.length_append]
        exact Nat.le_trans (show _ ≤ 1000000 by omega) (by decide)
      · rw [upd_same]
        simp
      · rw [List.length_append, List.length_append]
        omega
      · rw [zo, fm_take hxi]
    rintro σ H1 ⟨⟨v, rfl⟩, hS1, zs, hz, zl, zo⟩
    rw [List.length_map, hms.len] at zl zo
    rw [List.take_length] at zo
    -- those of the rules
    refine ⟨_, rfl, r, rfl, ⟨_, hS1.seq hr'⟩, for_list (K := K) (a := r) (xs := bs.map V.ref) (fun i σ H' => (∃ v u, σ = [some (.ref w), some (.ref m), some (.ref r), some (.ref b), some (.ref d), v, u, none, none, none, none, none]) ∧ Same H H' ∧ ∃ zs : List Str, H' d = some (.lst (zs.map V.str)) ∧ zs.length ≤ 200 * ms.length + 4 * i ∧ zs = ms.flatMap (fun x => x.dn ++ x.up) ++ (rs.take i).flatMap (fun x => (x.p.cs ++ [x.g]).map (·.2.1))) ⟨⟨_, none, rfl⟩, hS1, zs, hz, by omega, by rw [zo]; simp⟩ (fun i σ H' _ p => p.2.1.seq hr') ?_ ?_⟩
    · rintro i y σ H' hi ⟨⟨v, u, rfl⟩, hS, zs, hz, zl, zo⟩
      obtain ⟨a, x, rfl, hxi, hat⟩ := hrs.get hi
      obtain ⟨d', t1, t2, t3, us, qs, ha, ht1, hu, ht2, hq, ht3⟩ := RlAt.same hS hat
      have il : i < rs.length := (List.getElem?_eq_some_iff.mp hxi).1
      have xm := List.mem_of_getElem? hxi
      have x1 := r1 x xm
      have ql : qs.length = x.p.cs.length := by rw [hq.len, List.length_map]
      dsimp only [gName, List.set_cons_succ, List.set_cons_zero]
      refine ⟨_, rfl, .inl ⟨rfl, _, SqL.of hz⟩, _, rfl, a, RB, d', _, _, rfl, ha, TR.cl, TR.nc, rulF_cond _ _ _ _ _, t2, _, rfl, .inl ht2, _, rfl, a, RB, d', _, _, rfl, ha, TR.cl, TR.ng, rulF_gives _ _ _ _ _, ?_⟩
      show (qs.map V.ref ++ [V.ref t3]).length ≤ sizeLine ∧ _
      rw [show (qs.map V.ref ++ [V.ref t3]) = (qs ++ [t3]).map V.ref by rw [List.map_append]; rfl]
      refine ⟨Nat.le_trans (show _ ≤ 1000 by rw [List.length_map, List.length_append, List.length_singleton]; omega) (by decide), fun l2 nl2 => ?_⟩
      have S2 : Same H' (upd H' l2 (.lst ((qs ++ [t3]).map V.ref))) := Same.upd nl2
      have e2 : (upd H' l2 (.lst ((qs ++ [t3]).map V.ref))) l2 = some (.lst ((qs ++ [t3]).map V.ref)) := upd_same
      have rows : RowsAt K (upd H' l2 (.lst ((qs ++ [t3]).map V.ref))) (qs ++ [t3]) ((x.p.cs ++ [x.g]).map triV) := by
        have e : (x.p.cs ++ [x.g]).map triV = x.p.cs.map triV ++ [triV x.g] := by rw [List.map_append]; rfl
        rw [e]
        exact (hq.same S2).append (show RowsAt K _ [t3] [triV x.g] from ⟨same_seqT S2 ht3, True.intro⟩)
      generalize upd H' l2 (.lst ((qs ++ [t3]).map V.ref)) = G2 at S2 e2 rows
      refine ⟨l2, rfl, ⟨_, SqL.of e2⟩, fun D hD => ?_⟩
      refine lc_it walk_list (fun j G => Same G2 G ∧ G D = some (.lst ((((x.p.cs ++ [x.g]).take j).map (·.2.1)).map V.str))) ⟨Same.upd hD, upd_same⟩ (fun j G _ p => p.1.seq (SqL.of e2)) ?_ ?_
      · rintro j x' G G' hj ⟨hSG, hu'⟩ ⟨rfl, hxj⟩
        obtain ⟨q, hqj, rfl⟩ := map_ref_get hxj
        obtain ⟨rr, hrj, hqr⟩ := rows.get hqj
        obtain ⟨t, htj, rfl⟩ := tri_get hrj
        have jl : j < (x.p.cs ++ [x.g]).length := (List.getElem?_eq_some_iff.mp htj).1
        refine ⟨q, _, rfl, same_seqT hSG hqr, rfl, _, _, rfl, _, _, rfl, _, _, rfl, rfl, rfl, ?_⟩
        refine ⟨_, rfl, _, hu', ?_, ?_, ?_⟩
        · rw [List.length_map, List.length_map, List.length_take]
          rw [List.length_append, List.length_singleton] at jl ⊢
          exact Nat.lt_of_le_of_lt (show _ ≤ 100 by omega) (by decide)
        · intro b o h
          rw [upd_ne (ne_of_none h hD)]
          exact hSG b o h
        · rw [upd_same, List.take_add_one, htj, List.map_append, List.map_append]
          rfl
      · rintro G ⟨hSG, hu'⟩
        rw [List.length_map, rows.len, List.length_map, List.take_length] at hu'
        have hzG := hSG _ _ (S2 _ _ hz)
        refine ⟨d, D, _, _, rfl, rfl, hzG, hu', ?_, ⟨_, _, rfl⟩, Sd ((hS.trans S2).trans hSG), zs ++ (x.p.cs ++ [x.g]).map (·.2.1), ?_, ?_, ?_⟩
        · rw [List.length_map, List.length_map, List.length_map, List.length_append, List.length_singleton]
          exact Nat.le_trans (show _ ≤ 1000000 by omega) (by decide)
        · rw [upd_same]
          simp
        · rw [List.length_append, List.length_map, List.length_append, List.length_singleton]
          omega
        · rw [zo, fm_take hxi, List.append_assoc]
    rintro σ H2 ⟨⟨v, u, rfl⟩, hS2, zs, hz, zl, zo⟩
    rw [List.length_map, hrs.len] at zl zo
    rw [List.take_length] at zo
    -- those of the bars
    refine ⟨_, rfl, b, rfl, ⟨_, hS2.seq hb⟩, for_list (K := K) (a := b) (xs := cs.map V.ref) (fun i σ H' => (∃ v u t, σ = [some (.ref w), some (.ref m), some (.ref r), some (.ref b), some (.ref d), v, u, t, none, none, none, none]) ∧ Same H H' ∧ ∃ zs : List Str, H' d = some (.lst (zs.map V.str)) ∧ zs.length ≤ 200 * ms.length + 4 * rs.length + 4 * i ∧ zs = (ms.flatMap (fun x => x.dn ++ x.up) ++ rs.flatMap (fun x => (x.p.cs ++ [x.g]).map (·.2.1))) ++ (ps.take i).flatMap (fun x => x.cs.map (·.2.1))) ⟨⟨_, _, none, rfl⟩, hS2, zs, hz, by omega, by rw [zo]; simp⟩ (fun i σ H' _ p => p.2.1.seq hb) ?_ ?_⟩
    · rintro i y σ H' hi ⟨⟨v, u, t, rfl⟩, hS, zs, hz, zl, zo⟩
      obtain ⟨a, x, rfl, hxi, hat⟩ := hps.get hi
      obtain ⟨d', t1, t2, us, qs, ha, ht1, hu, ht2, hq⟩ := BrAt.same hS hat
      have il : i < ps.length := (List.getElem?_eq_some_iff.mp hxi).1
      have xm := List.mem_of_getElem? hxi
      have x1 := p1 x xm
      dsimp only [gName, List.set_cons_succ, List.set_cons_zero]
      refine ⟨_, rfl, .inl ⟨rfl, _, SqL.of hz⟩, _, rfl, a, BB, d', _, _, rfl, ha, TB.cl, TB.nc, barF_cond _ _ _, t2, rfl, ⟨_, ht2⟩, fun D hD => ?_⟩
      refine lc_it walk_tup (fun j G => Same H' G ∧ G D = some (.lst (((x.cs.take j).map (·.2.1)).map V.str))) ⟨Same.upd hD, upd_same⟩ (fun j G _ p => same_seqT p.1 ht2) ?_ ?_
      · rintro j x' G G' hj ⟨hSG, hu'⟩ ⟨rfl, hxj⟩
        obtain ⟨q, hqj, rfl⟩ := map_ref_get hxj
        obtain ⟨rr, hrj, hqr⟩ := hq.get hqj
        obtain ⟨t, htj, rfl⟩ := tri_get hrj
        have jl : j < x.cs.length := (List.getElem?_eq_some_iff.mp htj).1
        refine ⟨q, _, rfl, same_seqT hSG hqr, rfl, _, _, rfl, _, _, rfl, _, _, rfl, rfl, rfl, ?_⟩
        refine ⟨_, rfl, _, hu', ?_, ?_, ?_⟩
        · rw [List.length_map, List.length_map, List.length_take]
          exact Nat.lt_of_le_of_lt (show _ ≤ 100 by omega) (by decide)
        · intro b o h
          rw [upd_ne (ne_of_none h hD)]
          exact hSG b o h
        · rw [upd_same, List.take_add_one, htj, List.map_append, List.map_append]
          rfl
      · rintro G ⟨hSG, hu'⟩
        rw [List.length_map, hq.len, List.length_map, List.take_length] at hu'
        refine ⟨d, D, _, _, rfl, rfl, hSG _ _ hz, hu', ?_, ⟨_, _, _, rfl⟩, Sd (hS.trans hSG), zs ++ x.cs.map (·.2.1), ?_, ?_, ?_⟩
        · rw [List.length_map, List.length_map, List.length_map]
          exact Nat.le_trans (show _ ≤ 1000000 by omega) (by decide)
        · rw [upd_same, List.map_append]
        · rw [List.length_append, List.length_map]
          omega
        · rw [zo, fm_take hxi, List.append_assoc]
    rintro σ H3 ⟨⟨v, u, t, rfl⟩, hS3, zs, hz, zl, zo⟩
    rw [List.length_map, hps.len, List.take_length] at zo
    have zo : zs = askW ms rs ps := zo
    rw [← zo] at k
    refine ⟨_, rfl, d, rfl, ⟨_, SqL.of hz⟩, for_list (K := K) (a := d) (xs := zs.map V.str) (fun i σ H' => (∃ v u t n, σ = [some (.ref w), some (.ref m), some (.ref r), some (.ref b), some (.ref d), v, u, t, n, none, none, none]) ∧ H' = H3 ∧ ∀ j y, j < i → zs[j]? = some y → nwP ws (zs.take j) y = none) ⟨⟨_, _, _, none, rfl⟩, rfl, fun j y h => absurd h (Nat.not_lt_zero j)⟩ (fun i σ H' _ p => by rw [p.2.1]; exact SqL.of hz) ?_ ?_⟩
    · rintro i y σ H' hi ⟨⟨v, u, t, n, rfl⟩, rfl, hno⟩
      obtain ⟨z, hzi, rfl⟩ := map_str_get hi
      dsimp only [gName, List.set_cons_succ, List.set_cons_zero]
      refine ⟨_, rfl, _, rfl, w, _, rfl, .inl (hS3.seq hw), rfl, flat_of ws, _, rfl, ?_⟩
      show if (!inV (.str z) (ws.map V.str)) = true then _ else _
      rw [inV_strs]
      by_cases q : z ∈ ws
      · rw [decide_eq_true q]
        exact iteF ⟨⟨_, _, _, _, rfl⟩, rfl, goF_more hno hzi (by unfold nwP; rw [if_pos q])⟩
      · rw [decide_eq_false q]
        rw [goF_hit hno hzi (by unfold nwP; rw [if_neg q])] at k
        exact iteT ⟨_, rfl, mk1 fun d' H4 hd' hS4 hx => k d' H4 (hS3.free hd') (hS3.trans hS4) hx⟩
    · rintro σ H' ⟨⟨v, u, t, n, rfl⟩, rfl, hno⟩
      rw [List.length_map] at hno
      rw [goF_none hno] at k
      exact k _ hS3
end
end Wm
namespace Wm
open PySem L2 StX
/-- what is known of a scheme's parts before it is asked for -/
structure SchIn (ss ws : List Str) (ms : List MkD) (rs : List RlD) (ps : List PtD) : Prop where
  s9 : ss.length ≤ 20
  w9 : ws.length ≤ 20
  m9 : ms.length ≤ 100
  r9 : rs.length ≤ 20
  b9 : ps.length ≤ 20
  sl : ∀ z ∈ ss, z.length ≤ 1000
  wl : ∀ z ∈ ws, z.length ≤ 1000
  mo : ∀ x ∈ ms, okS x.mr ∧ okS x.md
  ml : ∀ x ∈ ms, x.dn.length ≤ 100 ∧ x.up.length ≤ 100
  rv : ∀ x ∈ rs, x.p.vars.length ≤ 4 ∧ x.p.cs.length ≤ 3
  bv : ∀ x ∈ ps, x.vars.length ≤ 4 ∧ x.cs.length ≤ 3
theorem goF_all {α β : Type} {p : List α → α → Option β} : ∀ {xs pre : List α}, goF p pre xs = none → ∀ x ∈ xs, ∃ q, p q x = none
  | [], _, _, x, hx => (List.not_mem_nil hx).elim
  | y :: r, pre, h, x, hx => by
    rw [goF] at h
    split at h
    · cases h
    · rename_i e
      rcases List.mem_cons.mp hx with q | q
      · rw [q]
        exact ⟨pre, e⟩
      · exact goF_all h x q
def spCS2 (K : PySem.W.Frag) (C : Nat → Addr) (MB RB BB : Addr) : Sp := fun vs H Q E => ∃ (s w m r b : Addr) (ss ws : List Str) (as bs cs : List Addr) (ms : List MkD) (rs : List RlD) (ps : List PtD), vs = [.ref s, .ref w, .ref m, .ref r, .ref b] ∧ SqL K H s (ss.map V.str) ∧ SqL K H w (ws.map V.str) ∧ SqL K H m (as.map V.ref) ∧ AllAt (MkAt K MB H) as ms ∧ SqL K H r (bs.map V.ref) ∧ AllAt (RlAt K RB H) bs rs ∧ SqL K H b (cs.map V.ref) ∧ AllAt (BrAt K BB H) cs ps ∧ SchIn ss ws ms rs ps ∧ Rfs C (schDue ss ws ms rs ps) H (fun H' => Q .non H') E
/-- what the refusals of a scheme rest on -/
structure TxK (P : Program) (w : World) (K : PySem.W.Frag) (mg : Str → Option Value) (base : Heap) (MB RB BB fRC fRN fRT fRM fNS fRU fNW : Addr) (dRC dRN dRT dRM dNS dRU dNW : FuncData) (C : Nat → Addr) : Prop where
  DC : Dn K mg "refuse_count" sRC ["what", "count", "least", "most"] fRC dRC
  DN : Dn K mg "refuse_no_name" sRN ["texts"] fRN dRN
  DT : Dn K mg "refuse_twice" sRT ["names"] fRT dRT
  DM : Dn K mg "refuse_makings_twice" sRMT ["makings"] fRM dRM
  DS : Dn K mg "refuse_no_sort" sRNS ["sorts", "makings", "patterns"] fNS dNS
  DU : Dn K mg "refuse_upward" sRU ["sorts", "makings"] fRU dRU
  DW : Dn K mg "refuse_no_word" sRNW ["words", "makings", "rules", "bars"] fNW dNW
  GC : FnOk P w K mg base (L2N.CX P w) 4 fRC dRC ["what", "count", "least", "most"] (spRC2 C)
  GN : FnOk P w K mg base (L2N.CX P w) 4 fRN dRN ["texts"] (spRN2 K C)
  GT : FnOk P w K mg base (L2N.CX P w) 4 fRT dRT ["names"] (spRT2 K C)
  GM : FnOk P w K mg base (L2N.CX P w) 4 fRM dRM ["makings"] (spRM2 K C MB)
  GS : FnOk P w K mg base (L2N.CX P w) 4 fNS dNS ["sorts", "makings", "patterns"] (spNS2 K C MB)
  GU : FnOk P w K mg base (L2N.CX P w) 4 fRU dRU ["sorts", "makings"] (spRU2 K C MB)
  GW : FnOk P w K mg base (L2N.CX P w) 4 fNW dNW ["words", "makings", "rules", "bars"] (spNW2 K C MB RB BB)
section
variable {P : Program} {w : World} {K : PySem.W.Frag} {mg : Str → Option Value} {base : Heap} {C : Nat → Addr}
theorem ok_cs2 {f MB RB BB fM fR fB fRC fRN fRT fRM fNS fRU fNW : Addr} {fd dRC dRN dRT dRM dNS dRU dNW : FuncData} (F : Fun K "check_scheme" "check_scheme" sCS f fd) (T : TxB mg) (TS : TxS mg) (TM : TxMak K mg MB fM) (TR : TxRul K mg RB fR) (TB : TxBar K mg BB fB) (X : TxK P w K mg base MB RB BB fRC fRN fRT fRM fNS fRU fNW dRC dRN dRT dRM dNS dRU dNW C) :
    FnOk P w K mg base (L2N.CX P w) 5 f fd ["sorts", "words", "makings", "rules", "bars"] (spCS2 K C MB RB BB) := by
  obtain ⟨DC, DN, DT, DM, DS, DU, DW, GC, GN, GT, GM, GS, GU, GW⟩ := X
  refine okN F scCS (fun vs H Q E h => ?_) (fun cdv A outer s H vs Q E hr h => ?_)
  · obtain ⟨s, w, m, r, b, ss, ws, as, bs, cs, ms, rs, ps, rfl, _⟩ := h
    rfl
  · obtain ⟨s, w, m, r, b, ss, ws, as, bs, cs, ms, rs, ps, rfl, hs, hw, hm, hms, hr', hrs, hb, hps, ok, k⟩ := h
    have hr4 : Room 4 _ := hr
    obtain ⟨t1, g1⟩ := TS.so
    obtain ⟨t2, g2⟩ := TS.wo
    obtain ⟨t3, g3⟩ := TS.ru
    obtain ⟨t4, g4⟩ := TS.ba
    have sl9 := ok.s9
    have wl9 := ok.w9
    have ml9 := ok.m9
    have rl8 := ok.r9
    have bl4 := ok.b9
    have lr := hrs.len
    have lb := hps.len
    refine ⟨_, (pss_cons (ps_expr (pe_call GC hr4 rfl DC.g DC.F.kp DC.b .nil (L2N.passes_call (L2N.takes_of rfl rfl rfl rfl) (fun _ _ _ _ h => h)) (pa_cons pe_str (pa_cons (pe_callB call_len_seq (by rfl) T.len (by decide +kernel) (pa_cons (pv 0) pa_nil)) (pa_cons pe_int (pa_cons (pe_glob (v := .int 4) rfl g1 ⟨t1, rfl⟩) pa_nil))))))
      (pss_cons (ps_expr (pe_call GC hr4 rfl DC.g DC.F.kp DC.b .nil (L2N.passes_call (L2N.takes_of rfl rfl rfl rfl) (fun _ _ _ _ h => h)) (pa_cons pe_str (pa_cons (pe_callB call_len_seq (by rfl) T.len (by decide +kernel) (pa_cons (pv 1) pa_nil)) (pa_cons pe_int (pa_cons (pe_glob (v := .int 5) rfl g2 ⟨t2, rfl⟩) pa_nil))))))
      (pss_cons (ps_expr (pe_call GC hr4 rfl DC.g DC.F.kp DC.b .nil (L2N.passes_call (L2N.takes_of rfl rfl rfl rfl) (fun _ _ _ _ h => h)) (pa_cons pe_str (pa_cons (pe_callB call_len_seq (by rfl) T.len (by decide +kernel) (pa_cons (pv 3) pa_nil)) (pa_cons pe_int (pa_cons (pe_glob (v := .int 8) rfl g3 ⟨t3, rfl⟩) pa_nil))))))
      (pss_cons (ps_expr (pe_call GC hr4 rfl DC.g DC.F.kp DC.b .nil (L2N.passes_call (L2N.takes_of rfl rfl rfl rfl) (fun _ _ _ _ h => h)) (pa_cons pe_str (pa_cons (pe_callB call_len_seq (by rfl) T.len (by decide +kernel) (pa_cons (pv 4) pa_nil)) (pa_cons pe_int (pa_cons (pe_glob (v := .int 4) rfl g4 ⟨t4, rfl⟩) pa_nil))))))
      (pss_cons (ps_expr (pe_call GN hr4 rfl DN.g DN.F.kp DN.b .nil (L2N.passes_call (L2N.takes_of rfl rfl rfl rfl) (fun _ _ _ _ h => h)) (pa_cons (pv 0) pa_nil)))
      (pss_cons (ps_expr (pe_call GN hr4 rfl DN.g DN.F.kp DN.b .nil (L2N.passes_call (L2N.takes_of rfl rfl rfl rfl) (fun _ _ _ _ h => h)) (pa_cons (pv 1) pa_nil)))
      (pss_cons (ps_expr (pe_call GT hr4 rfl DT.g DT.F.kp DT.b .nil (L2N.passes_call (L2N.takes_of rfl rfl rfl rfl) (fun _ _ _ _ h => h)) (pa_cons (pv 0) pa_nil)))
      (pss_cons (ps_expr (pe_call GT hr4 rfl DT.g DT.F.kp DT.b .nil (L2N.passes_call (L2N.takes_of rfl rfl rfl rfl) (fun _ _ _ _ h => h)) (pa_cons (pv 1) pa_nil)))
      (pss_cons (ps_expr (pe_call GM hr4 rfl DM.g DM.F.kp DM.b .nil (L2N.passes_call (L2N.takes_of rfl rfl rfl rfl) (fun _ _ _ _ h => h)) (pa_cons (pv 2) pa_nil)))
      (pss_cons (ps_expr (pe_call GT hr4 rfl DT.g DT.F.kp DT.b .nil (L2N.passes_call (L2N.takes_of rfl rfl rfl rfl) (fun _ _ _ _ h => h)) (pa_cons (pe_lc (own := [("rule", 5)]) (g := gName 5) (te := tFld K (tVar 5) "name") rfl scCS.nd (pi_list (pv 3)) (blkOk_by (N := ["sorts", "words", "makings", "rules", "bars", "rule", "bar"]) (sc := defScope sCS) (by decide +kernel)) (fun _ _ _ _ _ => (pg_name (i := 5) scCS.nd rfl (Or.inl rfl))) (fun _ _ _ _ _ => pts_nil) (fun _ _ _ _ _ => (pe_fld (pv 5) rfl))) pa_nil)))
      (pss_cons (ps_expr (pe_call GT hr4 rfl DT.g DT.F.kp DT.b .nil (L2N.passes_call (L2N.takes_of rfl rfl rfl rfl) (fun _ _ _ _ h => h)) (pa_cons (pe_lc (own := [("bar", 6)]) (g := gName 6) (te := tFld K (tVar 6) "name") rfl scCS.nd (pi_list (pv 4)) (blkOk_by (N := ["sorts", "words", "makings", "rules", "bars", "rule", "bar"]) (sc := defScope sCS) (by decide +kernel)) (fun _ _ _ _ _ => (pg_name (i := 6) scCS.nd rfl (Or.inl rfl))) (fun _ _ _ _ _ => pts_nil) (fun _ _ _ _ _ => (pe_fld (pv 6) rfl))) pa_nil)))
      (pss_cons (ps_expr (pe_call GS hr4 rfl DS.g DS.F.kp DS.b .nil (L2N.passes_call (L2N.takes_of rfl rfl rfl rfl) (fun _ _ _ _ h => h)) (pa_cons (pv 0) (pa_cons (pv 2) (pa_cons (pe_lst (pa_star (pv 3) (pa_star (pv 4) pa_nil))) pa_nil)))))
      (pss_cons (ps_expr (pe_call GU hr4 rfl DU.g DU.F.kp DU.b .nil (L2N.passes_call (L2N.takes_of rfl rfl rfl rfl) (fun _ _ _ _ h => h)) (pa_cons (pv 0) (pa_cons (pv 2) pa_nil))))
      (pss_one (ps_expr (pe_call GW hr4 rfl DW.g DW.F.kp DW.b .nil (L2N.passes_call (L2N.takes_of rfl rfl rfl rfl) (fun _ _ _ _ h => h)) (pa_cons (pv 1) (pa_cons (pv 2) (pa_cons (pv 3) (pa_cons (pv 4) pa_nil)))))))))))))))))))), ?_⟩
    unfold schDue at k
    refine ⟨_, rfl, s, _, rfl, .inl hs, _, _, _, _, rfl, ?_⟩
    rw [List.length_map]
    refine (Rfs.step k).map fun e1 H1 S1 k => ?_
    refine ⟨_, rfl, w, _, rfl, .inl (S1.seq hw), _, _, _, _, rfl, ?_⟩
    rw [List.length_map]
    refine (Rfs.step k).map fun e2 H2 S2 k => ?_
    have S12 := S1.trans S2
    refine ⟨_, rfl, r, _, rfl, .inl (S12.seq hr'), _, _, _, _, rfl, ?_⟩
    rw [List.length_map, lr]
    refine (Rfs.step k).map fun e3 H3 S3 k => ?_
    have S13 := S12.trans S3
    refine ⟨_, rfl, b, _, rfl, .inl (S13.seq hb), _, _, _, _, rfl, ?_⟩
    rw [List.length_map, lb]
    refine (Rfs.step k).map fun e4 H4 S4 k => ?_
    have S14 := S13.trans S4
    refine ⟨_, rfl, s, ss, rfl, S14.seq hs, ok.sl, ?_⟩
    refine (Rfs.step k).map fun e5 H5 S5 k => ?_
    have S15 := S14.trans S5
    refine ⟨_, rfl, w, ws, rfl, S15.seq hw, ok.wl, ?_⟩
    refine (Rfs.step k).map fun e6 H6 S6 k => ?_
    have S16 := S15.trans S6
    refine ⟨_, rfl, s, ss, rfl, S16.seq hs, by omega, ?_⟩
    refine (Rfs.step k).map fun e7 H7 S7 k => ?_
    have S17 := S16.trans S7
    refine ⟨_, rfl, w, ws, rfl, S17.seq hw, by omega, ?_⟩
    refine (Rfs.step k).map fun e8 H8 S8 k => ?_
    have S18 := S17.trans S8
    refine ⟨_, rfl, m, as, ms, rfl, S18.seq hm, hms.imp fun _ _ q => q.same S18, by omega, ok.mo, ?_⟩
    refine (Rfs.step k).map fun e9 H9 S9 k => ?_
    have S19 := S18.trans S9
    -- names of the rules
    refine ⟨_, rfl, r, rfl, ⟨_, S19.seq hr'⟩, fun D hD => ?_⟩
    refine lc_list (K := K) (a := r) (xs := bs.map V.ref) (fun i H' => Same H9 H' ∧ H' D = some (.lst (((rs.take i).map (·.p.nm)).map V.str))) ⟨Same.upd hD, upd_same⟩ (fun i H' _ p => (S19.trans p.1).seq hr') ?_ ?_
    · rintro i x H' hi ⟨hS, hl⟩
      obtain ⟨a, y, rfl, hy, hat⟩ := hrs.get hi
      obtain ⟨d, t1, t2, t3, us, qs, ha, _⟩ := RlAt.same (S19.trans hS) hat
      have il : i < rs.length := (List.getElem?_eq_some_iff.mp hy).1
      refine ⟨rfl, ?_⟩
      refine ⟨_, rfl, a, RB, d, _, _, rfl, ha, TR.cl, TR.nn, rulF_name _ _ _ _ _, _, hl, ?_, ?_, ?_⟩
      · rw [List.length_map, List.length_map, List.length_take]
        exact Nat.lt_of_le_of_lt (show _ ≤ 100 by omega) (by decide)
      · intro b o h
        rw [upd_ne (ne_of_none h hD)]
        exact hS b o h
      · rw [upd_same, List.take_add_one, hy, List.map_append, List.map_append]
        rfl
    rintro HA ⟨SA, hlA⟩
    rw [List.length_map, lr, List.take_length] at hlA
    have S1A := S19.trans SA
    refine ⟨D, _, rfl, SqL.of hlA, by rw [List.length_map]; omega, ?_⟩
    refine (Rfs.step (Rfs.same SA k)).map fun e10 HB SB k => ?_
    have S1B := S1A.trans SB
    -- names of the bars
    refine ⟨_, rfl, b, rfl, ⟨_, S1B.seq hb⟩, fun D2 hD2 => ?_⟩
    refine lc_list (K := K) (a := b) (xs := cs.map V.ref) (fun i H' => Same HB H' ∧ H' D2 = some (.lst (((ps.take i).map (·.nm)).map V.str))) ⟨Same.upd hD2, upd_same⟩ (fun i H' _ p => (S1B.trans p.1).seq hb) ?_ ?_
    · rintro i x H' hi ⟨hS, hl⟩
      obtain ⟨a, y, rfl, hy, hat⟩ := hps.get hi
      obtain ⟨d, t1, t2, us, qs, ha, _⟩ := BrAt.same (S1B.trans hS) hat
      have il : i < ps.length := (List.getElem?_eq_some_iff.mp hy).1
      refine ⟨rfl, ?_⟩
      refine ⟨_, rfl, a, BB, d, _, _, rfl, ha, TB.cl, TB.nn, barF_name _ _ _, _, hl, ?_, ?_, ?_⟩
      · rw [List.length_map, List.length_map, List.length_take]
        exact Nat.lt_of_le_of_lt (show _ ≤ 100 by omega) (by decide)
      · intro b o h
        rw [upd_ne (ne_of_none h hD2)]
        exact hS b o h
      · rw [upd_same, List.take_add_one, hy, List.map_append, List.map_append]
        rfl
    rintro HC ⟨SC, hlC⟩
    rw [List.length_map, lb, List.take_length] at hlC
    have S1C := S1B.trans SC
    refine ⟨D2, _, rfl, SqL.of hlC, by rw [List.length_map]; omega, ?_⟩
    refine (Rfs.step (Rfs.same SC k)).map fun e11 HD SD k => ?_
    have S1D := S1C.trans SD
    -- sorts
    refine ⟨_, rfl, _, rfl, _, rfl, r, _, rfl, .inr (S1D.seq hr'), _, rfl, b, _, rfl, .inr (S1D.seq hb), ?_⟩
    show (bs.map V.ref ++ (cs.map V.ref ++ [])).length ≤ sizeLine ∧ _
    rw [show (bs.map V.ref ++ (cs.map V.ref ++ [])) = (bs ++ cs).map V.ref by rw [List.append_nil, List.map_append]]
    refine ⟨Nat.le_trans (show _ ≤ 1000 by rw [List.length_map, List.length_append]; omega) (by decide), fun q hq => ?_⟩
    have Sq : Same HD (upd HD q (.lst ((bs ++ cs).map V.ref))) := Same.upd hq
    have eq : (upd HD q (.lst ((bs ++ cs).map V.ref))) q = some (.lst ((bs ++ cs).map V.ref)) := upd_same
    generalize upd HD q (.lst ((bs ++ cs).map V.ref)) = Hq at Sq eq
    have S1q := S1D.trans Sq
    have pvs : AllAt (PvAt K Hq) (bs ++ cs) (rs.map (·.p.vars) ++ ps.map (·.vars)) := (AllAt.map (f := fun x : RlD => x.p.vars) (hrs.imp fun _ _ z => (z.same S1q).pv TR)).append (AllAt.map (f := fun x : PtD => x.vars) (hps.imp fun _ _ z => (z.same S1q).pv TB))
    refine ⟨s, m, q, ss, as, bs ++ cs, ms, _, rfl, S1q.seq hs, S1q.seq hm, hms.imp fun _ _ z => z.same S1q, SqL.of eq, pvs, by omega, ?_, ?_, ?_⟩
    · rw [List.length_append, List.length_map, List.length_map]
      omega
    · intro v hv
      rcases List.mem_append.mp hv with z | z
      · obtain ⟨x, hx, rfl⟩ := List.mem_map.mp z
        exact (ok.rv x hx).1
      · obtain ⟨x, hx, rfl⟩ := List.mem_map.mp z
        exact (ok.bv x hx).1
    refine (Rfs.step (Rfs.same Sq k)).map fun e12 HE SE k => ?_
    have S1E := S1q.trans SE
    have inS : ∀ z ∈ askS ms (rs.map (·.p.vars) ++ ps.map (·.vars)), z ∈ ss := fun z hz => by
      obtain ⟨q, e⟩ := goF_all e12 z hz
      unfold nsP at e
      split at e
      · assumption
      · cases e
    have mo : ∀ x ∈ ms, x.mr ∈ ss ∧ x.md ∈ ss := fun x hx => ⟨inS _ (List.mem_append_left _ (List.mem_flatMap.mpr ⟨x, hx, by simp⟩)), inS _ (List.mem_append_left _ (List.mem_flatMap.mpr ⟨x, hx, by simp⟩))⟩
    refine ⟨_, rfl, _, rfl, s, m, ss, as, ms, rfl, S1E.seq hs, S1E.seq hm, hms.imp fun _ _ z => z.same S1E, mo, ?_⟩
    refine (Rfs.step k).map fun e13 HF SF k => ?_
    have S1F := S1E.trans SF
    exact ⟨_, rfl, _, rfl, _, rfl, _, rfl, w, m, r, b, ws, as, bs, cs, ms, rs, ps, rfl, S1F.seq hw, S1F.seq hm, hms.imp fun _ _ z => z.same S1F, S1F.seq hr', hrs.imp fun _ _ z => z.same S1F, S1F.seq hb, hps.imp fun _ _ z => z.same S1F, by omega, by omega, by omega, ok.ml, fun x hx => (ok.rv x hx).2, fun x hx => (ok.bv x hx).2, k⟩
end
end Wm
namespace Wm
open PySem L2 StX
def schF (l1 l2 l3 l4 l5 : Addr) : List (Str × V) := putF "own_bars" (.ref l5) (putF "own_rules" (.ref l4) (putF "own_makings" (.ref l3) (putF "own_words" (.ref l2) (putF "own_sorts" (.ref l1) []))))
theorem lookF {f : Str} {v : V} {fs : List (Str × V)} : (putF f v fs).lookup f = some v := by rw [lookup_putF, if_pos rfl]
theorem lookN {f g : Str} {v : V} {fs : List (Str × V)} (h : ¬ g = f) : (putF f v fs).lookup g = fs.lookup g := by rw [lookup_putF, if_neg h]
theorem schF_so (l1 l2 l3 l4 l5 : Addr) : (schF l1 l2 l3 l4 l5).lookup ("own_sorts" : Str) = some (.ref l1) := by
  unfold schF
  rw [lookN (by decide +kernel), lookN (by decide +kernel), lookN (by decide +kernel), lookN (by decide +kernel), lookF]
theorem schF_wo (l1 l2 l3 l4 l5 : Addr) : (schF l1 l2 l3 l4 l5).lookup ("own_words" : Str) = some (.ref l2) := by
  unfold schF
  rw [lookN (by decide +kernel), lookN (by decide +kernel), lookN (by decide +kernel), lookF]
theorem schF_mk (l1 l2 l3 l4 l5 : Addr) : (schF l1 l2 l3 l4 l5).lookup ("own_makings" : Str) = some (.ref l3) := by
  unfold schF
  rw [lookN (by decide +kernel), lookN (by decide +kernel), lookF]
theorem schF_ru (l1 l2 l3 l4 l5 : Addr) : (schF l1 l2 l3 l4 l5).lookup ("own_rules" : Str) = some (.ref l4) := by
  unfold schF
  rw [lookN (by decide +kernel), lookF]
theorem schF_ba (l1 l2 l3 l4 l5 : Addr) : (schF l1 l2 l3 l4 l5).lookup ("own_bars" : Str) = some (.ref l5) := by
  unfold schF
  rw [lookF]
/-- no other field -/
theorem schF_no {g : Str} (h1 : ¬ g = "own_bars") (h2 : ¬ g = "own_rules") (h3 : ¬ g = "own_makings") (h4 : ¬ g = "own_words") (h5 : ¬ g = "own_sorts") (l1 l2 l3 l4 l5 : Addr) : (schF l1 l2 l3 l4 l5).lookup g = none := by
  unfold schF
  rw [lookN h1, lookN h2, lookN h3, lookN h4, lookN h5]
  rfl
structure TxSch (K : PySem.W.Frag) (mg : Str → Option Value) (S fS : Addr) : Prop where
  cl : Cls K S
  n1 : NoAttr K S "own_sorts"
  n2 : NoAttr K S "own_words"
  n3 : NoAttr K S "own_makings"
  n4 : NoAttr K S "own_rules"
  n5 : NoAttr K S "own_bars"
  g : mg "Scheme" = some (.ref S)
  m : Mk K S fS
/-- a scheme at x, of these sorts, words, makings, rules, bars -/
def SchG (S : Addr) (H : Hp) (x : Addr) (ss ws : List Str) (as bs cs : List Addr) : Prop := ∃ dx l1 l2 l3 l4 l5, H x = some (.ins S dx (schF l1 l2 l3 l4 l5)) ∧ H l1 = some (.lst (ss.map V.str)) ∧ H l2 = some (.lst (ws.map V.str)) ∧ H l3 = some (.lst (as.map V.ref)) ∧ H l4 = some (.lst (bs.map V.ref)) ∧ H l5 = some (.lst (cs.map V.ref))
theorem SchG.same {S : Addr} {H H' : Hp} {x : Addr} {ss ws : List Str} {as bs cs : List Addr} (s : Same H H') (h : SchG S H x ss ws as bs cs) : SchG S H' x ss ws as bs cs := by
  obtain ⟨dx, l1, l2, l3, l4, l5, h0, h1, h2, h3, h4, h5⟩ := h
  exact ⟨dx, l1, l2, l3, l4, l5, s _ _ h0, s _ _ h1, s _ _ h2, s _ _ h3, s _ _ h4, s _ _ h5⟩
/-- its own lists are new -/
def SchF (S : Addr) (H0 H : Hp) (x : Addr) (ss ws : List Str) (as bs cs : List Addr) : Prop := ∃ dx l1 l2 l3 l4 l5, (H0 l1 = none ∧ H0 l2 = none ∧ H0 l3 = none ∧ H0 l4 = none ∧ H0 l5 = none) ∧ H x = some (.ins S dx (schF l1 l2 l3 l4 l5)) ∧ H l1 = some (.lst (ss.map V.str)) ∧ H l2 = some (.lst (ws.map V.str)) ∧ H l3 = some (.lst (as.map V.ref)) ∧ H l4 = some (.lst (bs.map V.ref)) ∧ H l5 = some (.lst (cs.map V.ref))
/-- what is handed in for a list that may be left out -/
def Own (K : PySem.W.Frag) (H : Hp) (v : V) (xs : List V) : Prop := (v = .non ∧ xs = []) ∨ ∃ l, v = .ref l ∧ SqL K H l xs
theorem Own.same {K : PySem.W.Frag} {H H' : Hp} {v : V} {xs : List V} (s : Same H H') (h : Own K H v xs) : Own K H' v xs := by
  rcases h with h | ⟨l, e, h⟩
  · exact .inl h
  · exact .inr ⟨l, e, s.seq h⟩
def spOL2 (K : PySem.W.Frag) : Sp := fun vs H Q _ => ∃ (x : V) (xs : List V), vs = [x] ∧ Own K H x xs ∧ ∀ d, H d = none → Q (.ref d) (upd H d (.lst xs))
/-- the parts of a whole scheme stand -/
structure Parts (K : PySem.W.Frag) (MB RB BB : Addr) (H : Hp) (as bs cs : List Addr) (ms : List MkD) (rs : List RlD) (ps : List PtD) : Prop where
  am : AllAt (MkAt K MB H) as ms
  ar : AllAt (RlAt K RB H) bs rs
  ab : AllAt (BrAt K BB H) cs ps
theorem Parts.same {K : PySem.W.Frag} {MB RB BB : Addr} {H H' : Hp} {as bs cs : List Addr} {ms : List MkD} {rs : List RlD} {ps : List PtD} (s : Same H H') (h : Parts K MB RB BB H as bs cs ms rs ps) : Parts K MB RB BB H' as bs cs ms rs ps :=
  ⟨h.am.imp fun _ _ q => q.same s, h.ar.imp fun _ _ q => q.same s, h.ab.imp fun _ _ q => q.same s⟩
def spSch (K : PySem.W.Frag) (C : Nat → Addr) (S MB RB BB : Addr) : Sp := fun vs H Q E => ∃ (H0 : Hp) (x dx s w : Addr) (vm vr vb : V) (ss ws : List Str) (as bs cs : List Addr) (ms : List MkD) (rs : List RlD) (ps : List PtD), vs = [.ref x, .ref s, .ref w, vm, vr, vb] ∧ Same H0 H ∧ H0 x = none ∧ H x = some (.ins S dx []) ∧ SqL K H0 s (ss.map V.str) ∧ SqL K H0 w (ws.map V.str) ∧
  Own K H0 vm (as.map V.ref) ∧ Own K H0 vr (bs.map V.ref) ∧ Own K H0 vb (cs.map V.ref) ∧ Parts K MB RB BB H0 as bs cs ms rs ps ∧ SchIn ss ws ms rs ps ∧ Rfs C (schDue ss ws ms rs ps) H0 (fun H' => SchF S H0 H' x ss ws as bs cs → Q .non H') E
/-- all but x stands -/
def Keep (x : Addr) (H H' : Hp) : Prop := ∀ a o, a ≠ x → H a = some o → H' a = some o
theorem fstep {H0 H : Hp} {x l S dx : Addr} {fs : List (Str × V)} {f : Str} {xs : List V} (S0 : Same H0 H) (x0 : H0 x = none) (hx : H x = some (.ins S dx fs)) (hl : H l = none) :
    l ≠ x ∧ (upd H l (.lst xs)) x = some (.ins S dx fs) ∧ ∃ H', H' = upd (upd H l (.lst xs)) x (.ins S dx (putF f (.ref l) fs)) ∧ Same H0 H' ∧ H' l = some (.lst xs) ∧ H' x = some (.ins S dx (putF f (.ref l) fs)) ∧ Keep x H H' := by
  have n : l ≠ x := fun z => by
    rw [z, hx] at hl
    cases hl
  refine ⟨n, (upd_ne n.symm).trans hx, _, rfl, ?_, (upd_ne n).trans upd_same, upd_same, ?_⟩
  · intro b o e
    rw [upd_ne (ne_of_none e x0), upd_ne (ne_of_none (S0 b o e) hl)]
    exact S0 b o e
  · intro a o na e
    rw [upd_ne na, upd_ne (ne_of_none e hl)]
    exact e
section
variable {P : Program} {w : World} {K : PySem.W.Frag} {mg : Str → Option Value} {base : Heap} {C : Nat → Addr}
theorem ok_ol2 {f : Addr} {fd : FuncData} (F : Fun K "own_list" "own_list" sOL f fd) (tl : mg "list" = none) : FnOk P w K mg base CX0 1 f fd ["rows"] (spOL2 K) := by
  refine F.ok scOL (fun vs H Q E h => ?_) (fun cdv A outer s H vs Q E hr h => ?_)
  · obtain ⟨x, xs, rfl, _⟩ := h
    rfl
  · obtain ⟨x, xs, rfl, h, k⟩ := h
    refine ⟨_, (pss_cons (ps_if (pt_cmp (pc_isN (pv 0))) (pss_one (ps_ret (pe_lst pa_nil))) pss_nil)
      (pss_one (ps_ret (pe_callTy call_list_of (by rfl) tl (by decide +kernel) (pa_cons (pv 0) pa_nil))))), ?_⟩
    refine ⟨_, rfl, _, rfl, ?_⟩
    rcases h with ⟨rfl, rfl⟩ | ⟨l, rfl, hl⟩
    · exact iteT ⟨Nat.zero_le _, fun d hd => k d hd⟩
    · exact iteF ⟨_, rfl, l, _, rfl, .inl hl, fun d hd => k d hd⟩
theorem scSch : FnScope ["self", "sorts", "words", "makings", "rules", "bars"] ["self", "sorts", "words", "makings", "rules", "bars"] (defScope sSch) := ⟨rfl, rfl, rfl, by decide +kernel, rfl, by decide +kernel, by decide +kernel⟩
theorem ok_sch {f fO fC S MB RB BB : Addr} {fd dO dC : FuncData} {dvs : List V} (F : FunD K "__init__" "Scheme.__init__" (defArgs sSch) (defBody sSch) (defScope sSch) dvs [] f fd) (tl : mg "list" = none) (TC : TxSch K mg S f) (DO : Dn K mg "own_list" sOL ["rows"] fO dO) (DC : Dn K mg "check_scheme" sCS ["sorts", "words", "makings", "rules", "bars"] fC dC)
    (GC : FnOk P w K mg base (L2N.CX P w) 5 fC dC ["sorts", "words", "makings", "rules", "bars"] (spCS2 K C MB RB BB)) : FnOk P w K mg base (L2N.CX P w) 6 f fd ["self", "sorts", "words", "makings", "rules", "bars"] (spSch K C S MB RB BB) := by
  have GO : FnOk P w K mg base CX0 1 fO dO _ (spOL2 K) := ok_ol2 DO.F tl
  refine F.ok scSch (fun vs H Q E h => ?_) (fun cdv A outer s H vs Q E hr h => ?_)
  · obtain ⟨H0, x, dx, s, w, vm, vr, vb, ss, ws, as, bs, cs, ms, rs, ps, rfl, _⟩ := h
    rfl
  · obtain ⟨H0, x, dx, s, w, vm, vr, vb, ss, ws, as, bs, cs, ms, rs, ps, rfl, S0, x0, hx, hs, hw, hm, hr', hb, pt, ok, k⟩ := h
    have hr1 : Room 1 _ := hr.mono (by decide)
    refine ⟨_, (pss_cons (ps_fld (pv 0) (pe_callTy call_list_of (by rfl) tl (by decide +kernel) (pa_cons (pv 1) pa_nil)) rfl)
      (pss_cons (ps_fld (pv 0) (pe_callTy call_list_of (by rfl) tl (by decide +kernel) (pa_cons (pv 2) pa_nil)) rfl)
      (pss_cons (ps_fld (pv 0) (pe_call GO hr1 rfl DO.g DO.F.kp DO.b .nil pass0 (pa_cons (pv 3) pa_nil)) rfl)
      (pss_cons (ps_fld (pv 0) (pe_call GO hr1 rfl DO.g DO.F.kp DO.b .nil pass0 (pa_cons (pv 4) pa_nil)) rfl)
      (pss_cons (ps_fld (pv 0) (pe_call GO hr1 rfl DO.g DO.F.kp DO.b .nil pass0 (pa_cons (pv 5) pa_nil)) rfl)
      (pss_one (ps_expr (pe_call GC hr rfl DC.g DC.F.kp DC.b .nil (L2N.passes_call (L2N.takes_of rfl rfl rfl rfl) (fun _ _ _ _ h => h)) (pa_cons (pe_fld (pv 0) rfl) (pa_cons (pe_fld (pv 0) rfl) (pa_cons (pe_fld (pv 0) rfl) (pa_cons (pe_fld (pv 0) rfl) (pa_cons (pe_fld (pv 0) rfl) pa_nil))))))))))))), ?_⟩
    refine ⟨_, rfl, s, _, rfl, .inl (S0.seq hs), fun l1 h1 => ?_⟩
    obtain ⟨n1, u1, H1, e1, S1, a1, x1, _⟩ := fstep (f := "own_sorts") (xs := ss.map V.str) S0 x0 hx h1
    refine ⟨_, rfl, x, S, dx, _, rfl, u1, TC.cl, TC.n1, by show 0 < 1000; decide, ?_⟩
    rw [← e1]
    have z1 : H0 l1 = none := S0.free h1
    clear e1 u1 h1
    refine ⟨_, rfl, w, _, rfl, .inl (S1.seq hw), fun l2 h2 => ?_⟩
    obtain ⟨n2, u2, H2, e2, S2, a2, x2, k2⟩ := fstep (f := "own_words") (xs := ws.map V.str) S1 x0 x1 h2
    refine ⟨_, rfl, x, S, dx, _, rfl, u2, TC.cl, TC.n2, Nat.lt_of_le_of_lt (putF_len _ _ _) (by decide), ?_⟩
    rw [← e2]
    have z2 : H0 l2 = none := S1.free h2
    clear e2 u2 h2
    have b1 := k2 _ _ n1 a1
    refine ⟨_, rfl, _, _, rfl, hm.same S2, fun l3 h3 => ?_⟩
    obtain ⟨n3, u3, H3, e3, S3, a3, x3, k3⟩ := fstep (f := "own_makings") (xs := as.map V.ref) S2 x0 x2 h3
    refine ⟨_, rfl, x, S, dx, _, rfl, u3, TC.cl, TC.n3, ?_, ?_⟩
    · have q1 := putF_len "own_sorts" (.ref l1) []
      have q2 := putF_len "own_words" (.ref l2) (putF "own_sorts" (.ref l1) [])
      simp only [List.length_nil] at *
      omega
    rw [← e3]
    have z3 : H0 l3 = none := S2.free h3
    clear e3 u3 h3
    have b1 := k3 _ _ n1 b1
    have b2 := k3 _ _ n2 a2
    refine ⟨_, rfl, _, _, rfl, hr'.same S3, fun l4 h4 => ?_⟩
    obtain ⟨n4, u4, H4, e4, S4, a4, x4, k4⟩ := fstep (f := "own_rules") (xs := bs.map V.ref) S3 x0 x3 h4
    refine ⟨_, rfl, x, S, dx, _, rfl, u4, TC.cl, TC.n4, ?_, ?_⟩
    · have q1 := putF_len "own_sorts" (.ref l1) []
      have q2 := putF_len "own_words" (.ref l2) (putF "own_sorts" (.ref l1) [])
      have q3 := putF_len "own_makings" (.ref l3) (putF "own_words" (.ref l2) (putF "own_sorts" (.ref l1) []))
      simp only [List.length_nil] at *
      omega
    rw [← e4]
    have z4 : H0 l4 = none := S3.free h4
    clear e4 u4 h4
    have b1 := k4 _ _ n1 b1
    have b2 := k4 _ _ n2 b2
    have b3 := k4 _ _ n3 a3
    refine ⟨_, rfl, _, _, rfl, hb.same S4, fun l5 h5 => ?_⟩
    obtain ⟨n5, u5, H5, e5, S5, a5, x5, k5⟩ := fstep (f := "own_bars") (xs := cs.map V.ref) S4 x0 x4 h5
    refine ⟨_, rfl, x, S, dx, _, rfl, u5, TC.cl, TC.n5, ?_, ?_⟩
    · have q1 := putF_len "own_sorts" (.ref l1) []
      have q2 := putF_len "own_words" (.ref l2) (putF "own_sorts" (.ref l1) [])
      have q3 := putF_len "own_makings" (.ref l3) (putF "own_words" (.ref l2) (putF "own_sorts" (.ref l1) []))
      have q4 := putF_len "own_rules" (.ref l4) (putF "own_makings" (.ref l3) (putF "own_words" (.ref l2) (putF "own_sorts" (.ref l1) [])))
      simp only [List.length_nil] at *
      omega
    rw [← e5]
    have z5 : H0 l5 = none := S4.free h5
    clear e5 u5 h5
    have b1 := k5 _ _ n1 b1
    have b2 := k5 _ _ n2 b2
    have b3 := k5 _ _ n3 b3
    have b4 := k5 _ _ n4 a4
    have x5 : H5 x = some (.ins S dx (schF l1 l2 l3 l4 l5)) := x5
    have pt5 := pt.same S5
    refine ⟨_, rfl, x, S, dx, _, _, rfl, x5, TC.cl, TC.n1, schF_so _ _ _ _ _, _, rfl, x, S, dx, _, _, rfl, x5, TC.cl, TC.n2, schF_wo _ _ _ _ _, _, rfl, x, S, dx, _, _, rfl, x5, TC.cl, TC.n3, schF_mk _ _ _ _ _, _, rfl, x, S, dx, _, _, rfl, x5, TC.cl, TC.n4, schF_ru _ _ _ _ _, _, rfl, x, S, dx, _, _, rfl, x5, TC.cl, TC.n5, schF_ba _ _ _ _ _, ?_⟩
    exact ⟨l1, l2, l3, l4, l5, ss, ws, as, bs, cs, ms, rs, ps, rfl, SqL.of b1, SqL.of b2, SqL.of b3, pt5.am, SqL.of b4, pt5.ar, SqL.of a5, pt5.ab, ok, (Rfs.same S5 k).map fun _ H6 S6 kk => kk ⟨dx, l1, l2, l3, l4, l5, ⟨z1, z2, z3, z4, z5⟩, S6 _ _ x5, S6 _ _ b1, S6 _ _ b2, S6 _ _ b3, S6 _ _ b4, S6 _ _ a5⟩⟩
/-! ### lists told -/
def spSMk (S : Addr) : Sp := fun vs H Q _ => ∃ (x : Addr) (ss ws : List Str) (as bs cs : List Addr), vs = [.ref x] ∧ SchG S H x ss ws as bs cs ∧ ∀ l, H l = none → Q (.ref l) (upd H l (.lst (as.map V.ref)))
def spSRu (S : Addr) : Sp := fun vs H Q _ => ∃ (x : Addr) (ss ws : List Str) (as bs cs : List Addr), vs = [.ref x] ∧ SchG S H x ss ws as bs cs ∧ ∀ l, H l = none → Q (.ref l) (upd H l (.lst (bs.map V.ref)))
def spSBa (S : Addr) : Sp := fun vs H Q _ => ∃ (x : Addr) (ss ws : List Str) (as bs cs : List Addr), vs = [.ref x] ∧ SchG S H x ss ws as bs cs ∧ ∀ l, H l = none → Q (.ref l) (upd H l (.lst (cs.map V.ref)))
theorem scSMk : FnScope ["self"] ["self"] (defScope sSMk) := ⟨rfl, rfl, rfl, by decide +kernel, rfl, by decide +kernel, by decide +kernel⟩
theorem ok_smk {f S fS : Addr} {fd : FuncData} (F : Fun K "makings" "Scheme.makings" sSMk f fd) (tl : mg "list" = none) (TC : TxSch K mg S fS) : FnOk P w K mg base CX0 1 f fd ["self"] (spSMk S) := by
  refine F.ok scSMk (fun vs H Q E h => ?_) (fun cdv A outer s H vs Q E hr h => ?_)
  · obtain ⟨x, ss, ws, as, bs, cs, rfl, _⟩ := h
    rfl
  · obtain ⟨x, ss, ws, as, bs, cs, rfl, ⟨dx, l1, l2, l3, l4, l5, h0, h1, h2, h3, h4, h5⟩, k⟩ := h
    refine ⟨_, (pss_one (ps_ret (pe_callTy call_list_of (by rfl) tl (by decide +kernel) (pa_cons (pe_fld (pv 0) rfl) pa_nil)))), ?_⟩
    exact ⟨_, rfl, x, S, dx, _, _, rfl, h0, TC.cl, TC.n3, schF_mk _ _ _ _ _, l3, _, rfl, .inl (SqL.of h3), fun l hl => k l hl⟩
theorem scSRu : FnScope ["self"] ["self"] (defScope sSRu) := ⟨rfl, rfl, rfl, by decide +kernel, rfl, by decide +kernel, by decide +kernel⟩
theorem ok_sru {f S fS : Addr} {fd : FuncData} (F : Fun K "rules" "Scheme.rules" sSRu f fd) (tl : mg "list" = none) (TC : TxSch K mg S fS) : FnOk P w K mg base CX0 1 f fd ["self"] (spSRu S) := by
  refine F.ok scSRu (fun vs H Q E h => ?_) (fun cdv A outer s H vs Q E hr h => ?_)
  · obtain ⟨x, ss, ws, as, bs, cs, rfl, _⟩ := h
    rfl
  · obtain ⟨x, ss, ws, as, bs, cs, rfl, ⟨dx, l1, l2, l3, l4, l5, h0, h1, h2, h3, h4, h5⟩, k⟩ := h
    refine ⟨_, (pss_one (ps_ret (pe_callTy call_list_of (by rfl) tl (by decide +kernel) (pa_cons (pe_fld (pv 0) rfl) pa_nil)))), ?_⟩
    exact ⟨_, rfl, x, S, dx, _, _, rfl, h0, TC.cl, TC.n4, schF_ru _ _ _ _ _, l4, _, rfl, .inl (SqL.of h4), fun l hl => k l hl⟩
theorem scSBa : FnScope ["self"] ["self"] (defScope sSBa) := ⟨rfl, rfl, rfl, by decide +kernel, rfl, by decide +kernel, by decide +kernel⟩
theorem ok_sba {f S fS : Addr} {fd : FuncData} (F : Fun K "bars" "Scheme.bars" sSBa f fd) (tl : mg "list" = none) (TC : TxSch K mg S fS) : FnOk P w K mg base CX0 1 f fd ["self"] (spSBa S) := by
  refine F.ok scSBa (fun vs H Q E h => ?_) (fun cdv A outer s H vs Q E hr h => ?_)
  · obtain ⟨x, ss, ws, as, bs, cs, rfl, _⟩ := h
    rfl
  · obtain ⟨x, ss, ws, as, bs, cs, rfl, ⟨dx, l1, l2, l3, l4, l5, h0, h1, h2, h3, h4, h5⟩, k⟩ := h
    refine ⟨_, (pss_one (ps_ret (pe_callTy call_list_of (by rfl) tl (by decide +kernel) (pa_cons (pe_fld (pv 0) rfl) pa_nil)))), ?_⟩
    exact ⟨_, rfl, x, S, dx, _, _, rfl, h0, TC.cl, TC.n5, schF_ba _ _ _ _ _, l5, _, rfl, .inl (SqL.of h5), fun l hl => k l hl⟩
theorem scSor : FnScope ["self"] ["self"] (defScope sSor) := ⟨rfl, rfl, rfl, by decide +kernel, rfl, by decide +kernel, by decide +kernel⟩
def spSor (S : Addr) : Sp := fun vs H Q _ => ∃ (x : Addr) (ss ws : List Str) (as bs cs : List Addr), vs = [.ref x] ∧ SchG S H x ss ws as bs cs ∧ ∀ l, H l = none → Q (.ref l) (upd H l (.lst (ss.map V.str)))
def spWor (S : Addr) : Sp := fun vs H Q _ => ∃ (x : Addr) (ss ws : List Str) (as bs cs : List Addr), vs = [.ref x] ∧ SchG S H x ss ws as bs cs ∧ ∀ l, H l = none → Q (.ref l) (upd H l (.lst (ws.map V.str)))
theorem ok_sor {f S fS : Addr} {fd : FuncData} (F : Fun K "sorts" "Scheme.sorts" sSor f fd) (tl : mg "list" = none) (TC : TxSch K mg S fS) : FnOk P w K mg base CX0 1 f fd ["self"] (spSor S) := by
  refine F.ok scSor (fun vs H Q E h => ?_) (fun cdv A outer s H vs Q E hr h => ?_)
  · obtain ⟨x, ss, ws, as, bs, cs, rfl, _⟩ := h
    rfl
  · obtain ⟨x, ss, ws, as, bs, cs, rfl, hx, k⟩ := h
    obtain ⟨dx, l1, l2, l3, l4, l5, hx, h1, h2, h3, h4, h5⟩ := hx
    refine ⟨_, (pss_one (ps_ret (pe_callTy call_list_of (by rfl) tl (by decide +kernel) (pa_cons (pe_fld (pv 0) rfl) pa_nil)))), ?_⟩
    exact ⟨_, rfl, x, S, dx, _, _, rfl, hx, TC.cl, TC.n1, schF_so _ _ _ _ _, l1, _, rfl, .inl (SqL.of h1), fun l hl => k l hl⟩
theorem scWor : FnScope ["self"] ["self"] (defScope sWor) := ⟨rfl, rfl, rfl, by decide +kernel, rfl, by decide +kernel, by decide +kernel⟩
theorem ok_wor {f S fS : Addr} {fd : FuncData} (F : Fun K "words" "Scheme.words" sWor f fd) (tl : mg "list" = none) (TC : TxSch K mg S fS) : FnOk P w K mg base CX0 1 f fd ["self"] (spWor S) := by
  refine F.ok scWor (fun vs H Q E h => ?_) (fun cdv A outer s H vs Q E hr h => ?_)
  · obtain ⟨x, ss, ws, as, bs, cs, rfl, _⟩ := h
    rfl
  · obtain ⟨x, ss, ws, as, bs, cs, rfl, hx, k⟩ := h
    obtain ⟨dx, l1, l2, l3, l4, l5, hx, h1, h2, h3, h4, h5⟩ := hx
    refine ⟨_, (pss_one (ps_ret (pe_callTy call_list_of (by rfl) tl (by decide +kernel) (pa_cons (pe_fld (pv 0) rfl) pa_nil)))), ?_⟩
    exact ⟨_, rfl, x, S, dx, _, _, rfl, hx, TC.cl, TC.n2, schF_wo _ _ _ _ _, l2, _, rfl, .inl (SqL.of h2), fun l hl => k l hl⟩
end
end Wm
/-! methods called within a try, by place and by name -/
namespace Wm
open PySem PySem.Spec PyProof.Rows L2
def tMethZ (C : Addr) (m : Str) (sp : Sp) (E : L2.St → XK) (ta : TE) (t : TA) : TE := fun σ H Q => ta σ H fun x H1 => ∃ a dx fs, x = .ref a ∧ H1 a = some (.ins C dx fs) ∧ fs.lookup m = none ∧ t σ H1 fun vs H2 => sp (x :: vs) H2 Q (E σ)
section
variable {X : Cx} {CX : CXT} {k : Nat} {f C : Addr} {fd : FuncData} {ps : List Str} {sp : Sp} {E : L2.St → XK} {m : Str} {pos apos kpos : Pos} {e o : Expr} {es : List Expr} {ta te : TE} {t : TA}
theorem pe_methZ {pl : Sem Bool} (he : PE X o ta) (c : Cls X.K C) (hm : Meth X.K C m f) (F : FnOk X.prog X.w X.K X.mg X.base CX k f fd ps sp) (hr : Room k X.A) (hb : Binds X.K fd ps []) (hx : ∀ σ, PassesAt CX X σ (E σ)) (ha : PA X (e :: es) t)
    (hst : starEach (e :: es) X.env = (false, eval e X.env) :: starEach es X.env := by rfl) (hpl : (backTo pos (starEach es X.env)).any (·.1) = false := by rfl)
    (ht : eval (.Call (.Attribute o m apos) (e :: es) [] pos) X.env = (do
      let ov ← eval o X.env
      standAt apos.atName
      let (f, first) ← holding [ov] (getMethod ov m pl)
      callWith pos f first (backTo pos (starEach (e :: es) X.env)) (backToKw pos (keywordEach [] X.env))) := by rfl) :
    PE X (.Call (.Attribute o m apos) (e :: es) [] pos) (tMethZ C m sp E ta t) := by
  refine ⟨fun pins s σ H Q I h => ?_⟩
  refine PySem.W.methodCall_KW (pl := pl) (thn (he.run pins s σ H _ I h) fun u s1 hh => ?_) ht
  obtain ⟨x, H1, I1, rx, a, dx, fs, ex, ea, l, q⟩ := hh
  subst ex
  obtain rfl : u = Value.ref a := rx
  refine getmeth_ok I1 ea c hm l ?_
  refine PySem.W.callWith_K (first := [.ref a]) (h₀ := X.base) I.ok.mod.kin hm.kp (thn (ha.run pos pins s1 σ H1 _ I1 q) fun us s2 hh => ?_) hst hpl
  obtain ⟨vs, H2, I2, r, q2⟩ := hh
  exact ⟨I2.kIn, run_fnS (us := .ref a :: us) (vs := .ref a :: vs) F hr hb (hx σ) I2 (.cons rfl r) q2⟩
/-- how one keyword is bound behind the object itself -/
def KwOne (K : PySem.W.Frag) (fd : FuncData) (ps : List Str) (x : Str) : Prop := ∀ (s : Shared) (u v : Value), K.In s.heap → BindsTo s fd ⟨[u], [(x, v)]⟩ (ps.zip [u, v])
/-- o.m(x=e) -/
theorem pe_methKZ {pl : Sem Bool} {x : Str} (ho : PE X o ta) (c : Cls X.K C) (hm : Meth X.K C m f) (F : FnOk X.prog X.w X.K X.mg X.base CX k f fd ps sp) (hr : Room k X.A) (hb : KwOne X.K fd ps x) (hx : ∀ σ, PassesAt CX X σ (E σ)) (he : PE X e te)
    (ht : eval (.Call (.Attribute o m apos) [] [⟨some x, e, kpos⟩] pos) X.env = (do
      let ov ← eval o X.env
      standAt apos.atName
      let (f, first) ← holding [ov] (getMethod ov m pl)
      callWith pos f first (backTo pos (starEach [] X.env)) (backToKw pos (keywordEach [⟨some x, e, kpos⟩] X.env))) := by rfl)
    (hall : (backToKw pos (keywordEach [⟨some x, e, kpos⟩] X.env)).all (·.1.isSome) = true := by rfl) (hks : (backToKw pos (keywordEach [⟨some x, e, kpos⟩] X.env)).filterMap (·.1) = [x] := by rfl) (hpl : ((backTo pos (starEach [] X.env)).any (·.1) || (backToKw pos (keywordEach [⟨some x, e, kpos⟩] X.env)).any (·.1.isNone)) = false := by rfl) (hps : ps.length = 2 := by rfl) :
    PE X (.Call (.Attribute o m apos) [] [⟨some x, e, kpos⟩] pos) (tMethZ C m sp E ta (tCons te tNil)) := by
  refine ⟨fun pins s σ H Q I h => ?_⟩
  refine PySem.W.methodCall_KW (pl := pl) (thn (ho.run pins s σ H _ I h) fun u s1 hh => ?_) ht
  obtain ⟨y, H1, I1, rx, a, dx, fs, ex, ea, l, q⟩ := hh
  subst ex
  obtain rfl : u = Value.ref a := rx
  refine getmeth_ok I1 ea c hm l ?_
  have hkw : PK X [⟨some x, e, kpos⟩] (tCons te tNil) := pk_cons he pk_nil
  refine PySem.W.callWith_KW0 (first := [.ref a]) (h₀ := X.base) I.ok.mod.kin hm.kp hall (thn (hkw.run pos pins s1 σ H1 _ I1 q) fun ws s2 hh => ?_) hpl
  obtain ⟨zs, H2, I2, rz, q2⟩ := hh
  refine ⟨I2.kIn, ?_⟩
  rw [hks]
  have hl := F.len _ _ _ _ q2
  cases rz with
  | nil =>
    rw [hps] at hl
    simp at hl
  | @cons v0 u0 vr ur r1 r2 =>
    cases r2 with
    | cons _ _ =>
      rw [hps] at hl
      simp at hl
    | nil =>
      have rv : Vals [V.ref a, v0] [Value.ref a, u0] := .cons rfl (.cons r1 .nil)
      refine wpAny_call (codeAny_mono (F.run X.A X.stack s2 H2 ⟨[Value.ref a], [(x, u0)]⟩ [Value.ref a, u0] [V.ref a, v0] Q (E σ) hr I2.env0 (hb s2 _ u0 I2.kIn) rv q2) fun r s' hq => ?_)
      cases r with
      | error er => exact hx σ pins H2 s2 er s' I2 hq
      | ok fl =>
        cases fl with
        | ret u => exact I2.after hq
        | next => exact False.elim hq
        | brk => exact False.elim hq
        | cont => exact False.elim hq
end
end Wm
namespace Wm
open PySem PySem.Spec PyProof.Rows L2
/-- len(o), o an instance of the class at C, whose __len__ is the def at f -/
def rLenO (C : Addr) (sp : Sp) : List V → Hp → VK → Prop := fun xs H Q => ∃ (a dx : Addr) (fs : List (Str × V)), xs = [.ref a] ∧ H a = some (.ins C dx fs) ∧ sp [.ref a] H (fun v H' => ∃ n : Nat, v = .int n ∧ n ≤ 1000000 ∧ Q (.int n) H') E0
theorem call_lenO {X : Cx} {C f : Addr} {fd : FuncData} {k : Nat} {sp : Sp} (hs : PySem.W.findIn X.K (.ref C) "__len__" = some (some (.ref f))) (hf : PySem.W.isFn X.K (.ref f) = true) (F : FnOk X.prog X.w X.K X.mg X.base CX0 k f fd ["self"] sp) (hr : Room (k + 1) X.A) (hb : L2.Binds X.K fd ["self"] []) :
    CallR X (.builtin "len") (rLenO C sp) := by
  intro pins s σ H xs us Q I r h
  obtain ⟨a, dx, fs, rfl, ha, h⟩ := h
  cases r with
  | cons rx rr =>
    cases rr
    cases rx
    obtain ⟨mA, ob, _⟩ := ins_get I.hok ha
    obtain ⟨od, J, _⟩ := ob.look
    have hr1 : Room k X.A.in1 := hr.in1
    obtain ⟨m, hF⟩ := I.fr
    refine PySem.W.len_K hF I.ok.mod.kin J hs hf ?_
    have hl : ([Value.ref a] ++ []).length = (["self"] : List Str).length := rfl
    have rv : Vals [V.ref a] [Value.ref a] := .cons rfl .nil
    refine wpAny_call (codeAny_mono (F.run X.A.in1 X.stack s H ⟨[Value.ref a], []⟩ [Value.ref a] [V.ref a] _ E0 hr1 I.env0.in1 (hb s [Value.ref a] I.kIn hl) rv h) fun r s' hq => ?_)
    cases r with
    | error e => exact hq.elim
    | ok fl =>
      cases fl with
      | ret u =>
        obtain ⟨v, H', J', ru, n, rfl, hn, q⟩ := I.after (Q := fun v H' => ∃ n : Nat, v = .int n ∧ n ≤ 1000000 ∧ Q (.int n) H') hq
        obtain ⟨t, rfl⟩ := ru
        exact ⟨⟨by omega, by omega⟩, .int n, H', J'.tok _, ⟨_, rfl⟩, q⟩
      | next => exact False.elim hq
      | brk => exact False.elim hq
      | cont => exact False.elim hq
section
variable {X : Cx} {p pos : Pos}
/-- an own error made with nothing handed in: its context is None -/
theorem pmkN_oex0 {CX : CXT} {x : Str} {C fI : Addr} {k : Nat} {fd : FuncData} {ps : List Str} {sp : Sp} (T : OexC X.K C) (iC : PySem.W.findIn X.K (.ref C) "__init__" = some (some (.ref fI))) (tI : PySem.W.typeIn X.K (.ref fI) = some (.type "function"))
    (G : FnOk X.prog X.w X.K X.mg X.base CX k fI fd ps sp) (hr : Room (k + 1) X.A) (hb : L2.Binds X.K fd ps []) (hx : Passes CX X (fun _ _ _ => False)) (hg : Gl X x) (hm : X.mg x = some (.ref C))
    (hdb : (x == ("__debug__" : Str)) = false := by decide) :
    L2N.PMk X (.Call (.Name x p) [] [] pos) (tMkO C sp [] tNil) := by
  intro pins s σ H Q I h
  obtain ⟨nm, q, N, bs, bm, sn, sub, ab, col, dd, k0, k1, k2, k3, k5, hC, hbm⟩ := T.cls
  refine wpAny_Call_Name_kw (ld_glob I hg hm (PySem.W.callWith_K0 I.kIn T.kC ?_) hdb)
  obtain ⟨hp, g, dr, tk, os⟩ := s
  obtain ⟨hz, q1⟩ := h
  generalize hA : hp.objs.size + 1 = A1 at *
  have le : hp.objs.size ≤ A1 := by omega
  have fr : H A1 = none := I.hok.fresh le
  have hq := q1 A1 fr
  rw [List.append_nil] at hq
  have kp : ∀ b o, hp.get? b = some o → ((hp.push (PySem.W.kdv_tup [])).push (PySem.HandSPX.excO C hp.objs.size)).get? b = some o := fun b o z => Heap.get?_push_of_some _ (Heap.get?_push_of_some _ z)
  have new : ((hp.push (PySem.W.kdv_tup [])).push (PySem.HandSPX.excO C hp.objs.size)).get? A1 = some (PySem.HandSPX.excO C hp.objs.size) := by
    rw [← hA]
    heap_get
  have I2 : Inv X pins σ (upd H A1 (exo A1 C none)) ⟨(hp.push (PySem.W.kdv_tup [])).push (PySem.HandSPX.excO C hp.objs.size), g, dr, tk, os⟩ := I.laid (t' := tk) (a := A1) (o := exo A1 C none) kp le (exo_ok new)
  have r2 : Vals (V.ref A1 :: []) (Value.ref A1 :: []) := .cons rfl .nil
  have ln : (Value.ref A1 :: [] ++ []).length = ps.length := by
    rw [List.append_nil, ← r2.length]
    exact G.len _ _ _ _ hq
  have b2 := hb _ (Value.ref A1 :: []) I2.kIn ln
  rw [List.append_nil] at b2
  subst hA
  refine wpAny_call (PySem.HandSPX.call_own F.excBase_ValueError (fun Y => PySem.HandSPX.refsVE_contains Y bm hbm) (I.kIn _ _ hC) (PySem.W.looks_findIn I.kIn iC) (fun self => PySem.W.bind_fn I.kIn self tI) (Nat.zero_le _)
    (codeAny_mono (G.run _ X.stack _ _ _ _ _ _ (fun _ _ _ => False) (hr.make C [] []) (I2.env0.make C [] []) b2 r2 hq) fun r s' hq' => ?_))
  cases r with
  | error er => exact hx pins σ _ _ er s' I2 hq'
  | ok fl =>
    cases fl with
    | next => exact hq'.elim
    | brk => exact hq'.elim
    | cont => exact hq'.elim
    | ret u =>
      obtain ⟨v, H2, os2, bare2, un2, hok2, rv, rfl, d, fs, ea, ed, hd1, q2⟩ := hq'
      obtain ⟨h2, g2, d2, t2, os'⟩ := s'
      obtain ⟨t0, W, J, kW, ge, hoe, na⟩ := mk_end0 (d2 := d2) (t2 := t2) I le kp un2 hok2 os2 bare2 ea ed hd1
      refine ⟨rv, hp.objs.size + 1, _, _, ⟨W, g2, d2, t2, os'⟩, _, .ref C, some d, rfl, J, kW, ge, hoe, ⟨rfl, rfl, fun vs hv => ?_⟩, rfl, rfl, na, rfl, bare2, raises_own T.exC T.tyC, q2⟩
      cases hv
      rfl
end
end Wm
namespace Wm
open PySem L2 StX
def keepA {α : Type} (q : α → Bool) : List Addr → List α → List Addr
  | a :: as, x :: xs => if q x = true then a :: keepA q as xs else keepA q as xs
  | _, _ => []
theorem keepA_all {α : Type} {R : Addr → α → Prop} {q : α → Bool} : ∀ {as : List Addr} {xs : List α}, AllAt R as xs → AllAt R (keepA q as xs) (xs.filter q)
  | [], [], _ => True.intro
  | a :: as, x :: xs, h => by
    unfold keepA
    cases e : q x with
    | true =>
      rw [List.filter_cons_of_pos e, if_pos rfl]
      exact ⟨h.1, keepA_all h.2⟩
    | false =>
      rw [List.filter_cons_of_neg (by rw [e]; decide), if_neg (by decide)]
      exact keepA_all h.2
  | [], _ :: _, h => h.elim
  | _ :: _, [], h => h.elim
theorem keepA_step {α : Type} {q : α → Bool} : ∀ {as : List Addr} {xs : List α} {i : Nat} {a : Addr} {x : α}, as[i]? = some a → xs[i]? = some x → keepA q (as.take (i + 1)) (xs.take (i + 1)) = keepA q (as.take i) (xs.take i) ++ (if q x = true then [a] else [])
  | [], _, _, _, _, h, _ => by simp at h
  | _ :: _, [], _, _, _, _, h => by simp at h
  | b :: as, y :: xs, 0, a, x, h1, h2 => by
    obtain rfl : b = a := by simpa using h1
    obtain rfl : y = x := by simpa using h2
    simp [keepA]
  | b :: as, y :: xs, i + 1, a, x, h1, h2 => by
    have ih := keepA_step (q := q) (as := as) (xs := xs) (i := i) (a := a) (x := x) (by simpa using h1) (by simpa using h2)
    rw [List.take_succ_cons, List.take_succ_cons, List.take_succ_cons, List.take_succ_cons]
    unfold keepA
    rw [ih]
    split <;> simp
theorem keepA_len {α : Type} (q : α → Bool) : ∀ (as : List Addr) (xs : List α), (keepA q as xs).length ≤ as.length
  | [], _ => Nat.le_refl _
  | _ :: _, [] => Nat.zero_le _
  | a :: as, x :: xs => by
    have ih := keepA_len q as xs
    unfold keepA
    split <;> simp only [List.length_cons] <;> omega
theorem getA {as : List Addr} {i : Nat} {v : V} (h : (as.map V.ref)[i]? = some v) : ∃ a, v = .ref a ∧ as[i]? = some a := by
  rw [List.getElem?_map] at h
  obtain ⟨a, e, rfl⟩ := Option.map_eq_some_iff.mp h
  exact ⟨a, rfl, e⟩
def qR (z : Str) (y : RlD) : Bool := !decide (y.p.nm = z)
def qB (z : Str) (y : PtD) : Bool := !decide (y.nm = z)
def qM (z t : Str) (y : MkD) : Bool := !decide ((y.mr, y.md) = (z, t))
def spWith (K : PySem.W.Frag) (C : Nat → Addr) (S MB RB BB : Addr) (put : Addr → List Addr → List Addr → List Addr → List Addr × List Addr × List Addr) : Sp := fun vs H Q E => ∃ (x r : Addr) (ss ws : List Str) (as bs cs : List Addr) (ms : List MkD) (rs : List RlD) (ps : List PtD), vs = [.ref x, .ref r] ∧ SchG S H x ss ws as bs cs ∧ Parts K MB RB BB H (put r as bs cs).1 (put r as bs cs).2.1 (put r as bs cs).2.2 ms rs ps ∧ SchIn ss ws ms rs ps ∧ Rfs C (schDue ss ws ms rs ps) H (fun H' => ∀ y, H y = none → SchG S H' y ss ws (put r as bs cs).1 (put r as bs cs).2.1 (put r as bs cs).2.2 → Q (.ref y) H') E
abbrev spSwr (K : PySem.W.Frag) (C : Nat → Addr) (S MB RB BB : Addr) : Sp := spWith K C S MB RB BB fun r as bs cs => (as, bs ++ [r], cs)
abbrev spSwb (K : PySem.W.Frag) (C : Nat → Addr) (S MB RB BB : Addr) : Sp := spWith K C S MB RB BB fun r as bs cs => (as, bs, cs ++ [r])
abbrev spSwm (K : PySem.W.Frag) (C : Nat → Addr) (S MB RB BB : Addr) : Sp := spWith K C S MB RB BB fun r as bs cs => (as ++ [r], bs, cs)
def allO {α : Type} (q : α → Bool) (r : Rf) (xs : List α) : Option Rf := if xs.all q = true then some r else none
def spSxr (K : PySem.W.Frag) (C : Nat → Addr) (S MB RB BB : Addr) : Sp := fun vs H Q E => ∃ (x : Addr) (z : Str) (ss ws : List Str) (as bs cs : List Addr) (ms : List MkD) (rs : List RlD) (ps : List PtD), vs = [.ref x, .str z] ∧ SchG S H x ss ws as bs cs ∧ Parts K MB RB BB H as bs cs ms rs ps ∧ SchIn ss ws ms rs ps ∧ Rfs C ((allO (qR z) (.nr z) rs).or (schDue ss ws ms (rs.filter (qR z)) ps)) H (fun H' => ∀ y, H y = none → SchG S H' y ss ws as (keepA (qR z) bs rs) cs → Q (.ref y) H') E
def spSxb (K : PySem.W.Frag) (C : Nat → Addr) (S MB RB BB : Addr) : Sp := fun vs H Q E => ∃ (x : Addr) (z : Str) (ss ws : List Str) (as bs cs : List Addr) (ms : List MkD) (rs : List RlD) (ps : List PtD), vs = [.ref x, .str z] ∧ SchG S H x ss ws as bs cs ∧ Parts K MB RB BB H as bs cs ms rs ps ∧ SchIn ss ws ms rs ps ∧ Rfs C ((allO (qB z) (.nb z) ps).or (schDue ss ws ms rs (ps.filter (qB z)))) H (fun H' => ∀ y, H y = none → SchG S H' y ss ws as bs (keepA (qB z) cs ps) → Q (.ref y) H') E
def spSxm (K : PySem.W.Frag) (C : Nat → Addr) (S MB RB BB : Addr) : Sp := fun vs H Q E => ∃ (x : Addr) (z t : Str) (ss ws : List Str) (as bs cs : List Addr) (ms : List MkD) (rs : List RlD) (ps : List PtD), vs = [.ref x, .str z, .str t] ∧ SchG S H x ss ws as bs cs ∧ Parts K MB RB BB H as bs cs ms rs ps ∧ SchIn ss ws ms rs ps ∧ okS z ∧ okS t ∧ Rfs C ((allO (qM z t) (.nmk z t) ms).or (schDue ss ws (ms.filter (qM z t)) rs ps)) H (fun H' => ∀ y, H y = none → SchG S H' y ss ws (keepA (qM z t) as ms) bs cs → Q (.ref y) H') E
theorem SchIn.fr {ss ws : List Str} {ms : List MkD} {rs : List RlD} {ps : List PtD} (q : RlD → Bool) (h : SchIn ss ws ms rs ps) : SchIn ss ws ms (rs.filter q) ps := ⟨h.s9, h.w9, h.m9, Nat.le_trans (List.length_filter_le _ _) h.r9, h.b9, h.sl, h.wl, h.mo, h.ml, fun x hx => h.rv x (List.mem_filter.mp hx).1, h.bv⟩
theorem SchIn.fb {ss ws : List Str} {ms : List MkD} {rs : List RlD} {ps : List PtD} (q : PtD → Bool) (h : SchIn ss ws ms rs ps) : SchIn ss ws ms rs (ps.filter q) := ⟨h.s9, h.w9, h.m9, h.r9, Nat.le_trans (List.length_filter_le _ _) h.b9, h.sl, h.wl, h.mo, h.ml, h.rv, fun x hx => h.bv x (List.mem_filter.mp hx).1⟩
theorem SchIn.fm {ss ws : List Str} {ms : List MkD} {rs : List RlD} {ps : List PtD} (q : MkD → Bool) (h : SchIn ss ws ms rs ps) : SchIn ss ws (ms.filter q) rs ps := ⟨h.s9, h.w9, Nat.le_trans (List.length_filter_le _ _) h.m9, h.r9, h.b9, h.sl, h.wl, fun x hx => h.mo x (List.mem_filter.mp hx).1, fun x hx => h.ml x (List.mem_filter.mp hx).1, h.rv, h.bv⟩
theorem SchF.g {S : Addr} {H0 H : Hp} {x : Addr} {ss ws : List Str} {as bs cs : List Addr} (h : SchF S H0 H x ss ws as bs cs) : SchG S H x ss ws as bs cs := by
  obtain ⟨dx, l1, l2, l3, l4, l5, _, h⟩ := h
  exact ⟨dx, l1, l2, l3, l4, l5, h⟩
theorem made_same {H : Hp} {x dx D : Addr} (nx : H x = none) (ndx : H dx = none) : Same H (upd (upd H dx (.own x)) x (.ins D dx [])) := fun b o e => by
  rw [upd_ne (ne_of_none e nx), upd_ne (ne_of_none e ndx)]
  exact e
theorem sch_new2 {K : PySem.W.Frag} {C : Nat → Addr} {S MB RB BB : Addr} {H : Hp} {s w : Addr} {vm vr vb : V} {ss ws : List Str} {as bs cs : List Addr} {ms : List MkD} {rs : List RlD} {ps : List PtD} {R : Addr → Hp → Prop} {E : XK} (hs : SqL K H s (ss.map V.str)) (hw : SqL K H w (ws.map V.str)) (hm : Own K H vm (as.map V.ref)) (hr : Own K H vr (bs.map V.ref)) (hb : Own K H vb (cs.map V.ref)) (pt : Parts K MB RB BB H as bs cs ms rs ps) (ok : SchIn ss ws ms rs ps)
    (k : Rfs C (schDue ss ws ms rs ps) H (fun H' => ∀ x, H x = none → SchG S H' x ss ws as bs cs → R x H') E) : ∀ x dx, H x = none → H dx = none → dx ≠ x → spSch K C S MB RB BB [.ref x, .ref s, .ref w, vm, vr, vb] (upd (upd H dx (.own x)) x (.ins S dx [])) (fun v H3 => v = .non ∧ R x H3) E := fun x dx hx hd ne => by
  refine ⟨H, x, dx, s, w, vm, vr, vb, ss, ws, as, bs, cs, ms, rs, ps, rfl, made_same hx hd, hx, upd_same, hs, hw, hm, hr, hb, pt, ok, ?_⟩
  exact k.map fun _ H' S' kk sf => ⟨rfl, kk x hx sf.g⟩
theorem Own.of {K : PySem.W.Frag} {H : Hp} {l : Addr} {xs : List V} (h : H l = some (.lst xs)) : Own K H (.ref l) xs := .inr ⟨l, rfl, SqL.of h⟩
theorem all_iff {α : Type} {q : α → Bool} {xs : List α} : xs.all q = true ↔ (xs.filter q).length = xs.length := by
  rw [List.length_filter_eq_length_iff, List.all_eq_true]
section
variable {P : Program} {w : World} {K : PySem.W.Frag} {mg : Str → Option Value} {base : Heap} {C : Nat → Addr}
abbrev psSch : List Str := ["self", "sorts", "words", "makings", "rules", "bars"]
theorem scSwr : FnScope ["self", "rule"] ["self", "rule"] (defScope sSwr) := ⟨rfl, rfl, rfl, by decide +kernel, rfl, by decide +kernel, by decide +kernel⟩
theorem ok_swr {f S fS MB RB BB : Addr} {fd dS : FuncData} (F : Fun K "with_rule" "Scheme.with_rule" sSwr f fd) (TC : TxSch K mg S fS) (bS : Binds K dS psSch []) (GS : FnOk P w K mg base (L2N.CX P w) 6 fS dS psSch (spSch K C S MB RB BB)) : FnOk P w K mg base (L2N.CX P w) 8 f fd ["self", "rule"] (spSwr K C S MB RB BB) := by
  refine okN F scSwr (fun vs H Q E h => ?_) (fun cdv A outer s H vs Q E hr h => ?_)
  · obtain ⟨x, r, ss, ws, as, bs, cs, ms, rs, ps, rfl, _⟩ := h
    rfl
  · obtain ⟨x, r, ss, ws, as, bs, cs, ms, rs, ps, rfl, ⟨dx, l1, l2, l3, l4, l5, h0, h1, h2, h3, h4, h5⟩, pt, ok, k⟩ := h
    refine ⟨_, (pss_one (ps_ret (pe_make TC.m GS hr rfl TC.g bS .nil (L2N.passes_call (L2N.takes_of rfl rfl rfl rfl) (fun _ _ _ _ h => h)) (pa_cons (pe_fld (pv 0) rfl) (pa_cons (pe_fld (pv 0) rfl) (pa_cons (pe_fld (pv 0) rfl) (pa_cons (pe_lst (pa_star (pe_fld (pv 0) rfl) (pa_cons (pv 1) pa_nil))) (pa_cons (pe_fld (pv 0) rfl) pa_nil)))))))), ?_⟩
    have lb := pt.ar.len
    have r8 := ok.r9
    refine ⟨_, rfl, x, S, dx, _, _, rfl, h0, TC.cl, TC.n1, schF_so _ _ _ _ _, _, rfl, x, S, dx, _, _, rfl, h0, TC.cl, TC.n2, schF_wo _ _ _ _ _, _, rfl, x, S, dx, _, _, rfl, h0, TC.cl, TC.n3, schF_mk _ _ _ _ _, _, rfl, x, S, dx, _, _, rfl, h0, TC.cl, TC.n4, schF_ru _ _ _ _ _, l4, _, rfl, .inr (SqL.of h4), _, rfl, ?_⟩
    show (bs.map V.ref ++ [V.ref r]).length ≤ sizeLine ∧ _
    rw [show bs.map V.ref ++ [V.ref r] = (bs ++ [r]).map V.ref by rw [List.map_append]; rfl]
    refine ⟨Nat.le_trans (show _ ≤ 1000 by rw [List.length_map, lb]; omega) (by decide), fun l hl => ?_⟩
    have Sl : Same H (upd H l (.lst ((bs ++ [r]).map V.ref))) := Same.upd hl
    refine ⟨_, rfl, x, S, dx, _, _, rfl, Sl _ _ h0, TC.cl, TC.n5, schF_ba _ _ _ _ _, ?_⟩
    exact sch_new2 (SqL.of (Sl _ _ h1)) (SqL.of (Sl _ _ h2)) (.of (Sl _ _ h3)) (.of upd_same) (.of (Sl _ _ h5)) (pt.same Sl) ok ((Rfs.same Sl k).map fun _ H' S' kk y hy a => kk y (Sl.free hy) a)
theorem scSwb : FnScope ["self", "bar"] ["self", "bar"] (defScope sSwb) := ⟨rfl, rfl, rfl, by decide +kernel, rfl, by decide +kernel, by decide +kernel⟩
theorem ok_swb {f S fS MB RB BB : Addr} {fd dS : FuncData} (F : Fun K "with_bar" "Scheme.with_bar" sSwb f fd) (TC : TxSch K mg S fS) (bS : Binds K dS psSch []) (GS : FnOk P w K mg base (L2N.CX P w) 6 fS dS psSch (spSch K C S MB RB BB)) : FnOk P w K mg base (L2N.CX P w) 8 f fd ["self", "bar"] (spSwb K C S MB RB BB) := by
  refine okN F scSwb (fun vs H Q E h => ?_) (fun cdv A outer s H vs Q E hr h => ?_)
  · obtain ⟨x, r, ss, ws, as, bs, cs, ms, rs, ps, rfl, _⟩ := h
    rfl
  · obtain ⟨x, r, ss, ws, as, bs, cs, ms, rs, ps, rfl, ⟨dx, l1, l2, l3, l4, l5, h0, h1, h2, h3, h4, h5⟩, pt, ok, k⟩ := h
    refine ⟨_, (pss_one (ps_ret (pe_make TC.m GS hr rfl TC.g bS .nil (L2N.passes_call (L2N.takes_of rfl rfl rfl rfl) (fun _ _ _ _ h => h)) (pa_cons (pe_fld (pv 0) rfl) (pa_cons (pe_fld (pv 0) rfl) (pa_cons (pe_fld (pv 0) rfl) (pa_cons (pe_fld (pv 0) rfl) (pa_cons (pe_lst (pa_star (pe_fld (pv 0) rfl) (pa_cons (pv 1) pa_nil))) pa_nil)))))))), ?_⟩
    have lb := pt.ab.len
    have r8 := ok.b9
    refine ⟨_, rfl, x, S, dx, _, _, rfl, h0, TC.cl, TC.n1, schF_so _ _ _ _ _, _, rfl, x, S, dx, _, _, rfl, h0, TC.cl, TC.n2, schF_wo _ _ _ _ _, _, rfl, x, S, dx, _, _, rfl, h0, TC.cl, TC.n3, schF_mk _ _ _ _ _, _, rfl, x, S, dx, _, _, rfl, h0, TC.cl, TC.n4, schF_ru _ _ _ _ _, _, rfl, x, S, dx, _, _, rfl, h0, TC.cl, TC.n5, schF_ba _ _ _ _ _, l5, _, rfl, .inr (SqL.of h5), _, rfl, ?_⟩
    show (cs.map V.ref ++ [V.ref r]).length ≤ sizeLine ∧ _
    rw [show cs.map V.ref ++ [V.ref r] = (cs ++ [r]).map V.ref by rw [List.map_append]; rfl]
    refine ⟨Nat.le_trans (show _ ≤ 1000 by rw [List.length_map, lb]; omega) (by decide), fun l hl => ?_⟩
    have Sl : Same H (upd H l (.lst ((cs ++ [r]).map V.ref))) := Same.upd hl
    exact sch_new2 (SqL.of (Sl _ _ h1)) (SqL.of (Sl _ _ h2)) (.of (Sl _ _ h3)) (.of (Sl _ _ h4)) (.of upd_same) (pt.same Sl) ok ((Rfs.same Sl k).map fun _ H' S' kk y hy a => kk y (Sl.free hy) a)
theorem scSwm : FnScope ["self", "making"] ["self", "making"] (defScope sSwm) := ⟨rfl, rfl, rfl, by decide +kernel, rfl, by decide +kernel, by decide +kernel⟩
theorem ok_swm {f S fS MB RB BB : Addr} {fd dS : FuncData} (F : Fun K "with_making" "Scheme.with_making" sSwm f fd) (TC : TxSch K mg S fS) (bS : Binds K dS psSch []) (GS : FnOk P w K mg base (L2N.CX P w) 6 fS dS psSch (spSch K C S MB RB BB)) : FnOk P w K mg base (L2N.CX P w) 8 f fd ["self", "making"] (spSwm K C S MB RB BB) := by
  refine okN F scSwm (fun vs H Q E h => ?_) (fun cdv A outer s H vs Q E hr h => ?_)
  · obtain ⟨x, r, ss, ws, as, bs, cs, ms, rs, ps, rfl, _⟩ := h
    rfl
  · obtain ⟨x, r, ss, ws, as, bs, cs, ms, rs, ps, rfl, ⟨dx, l1, l2, l3, l4, l5, h0, h1, h2, h3, h4, h5⟩, pt, ok, k⟩ := h
    refine ⟨_, (pss_one (ps_ret (pe_make TC.m GS hr rfl TC.g bS .nil (L2N.passes_call (L2N.takes_of rfl rfl rfl rfl) (fun _ _ _ _ h => h)) (pa_cons (pe_fld (pv 0) rfl) (pa_cons (pe_fld (pv 0) rfl) (pa_cons (pe_lst (pa_star (pe_fld (pv 0) rfl) (pa_cons (pv 1) pa_nil))) (pa_cons (pe_fld (pv 0) rfl) (pa_cons (pe_fld (pv 0) rfl) pa_nil)))))))), ?_⟩
    have lb := pt.am.len
    have r8 := ok.m9
    refine ⟨_, rfl, x, S, dx, _, _, rfl, h0, TC.cl, TC.n1, schF_so _ _ _ _ _, _, rfl, x, S, dx, _, _, rfl, h0, TC.cl, TC.n2, schF_wo _ _ _ _ _, _, rfl, x, S, dx, _, _, rfl, h0, TC.cl, TC.n3, schF_mk _ _ _ _ _, l3, _, rfl, .inr (SqL.of h3), _, rfl, ?_⟩
    show (as.map V.ref ++ [V.ref r]).length ≤ sizeLine ∧ _
    rw [show as.map V.ref ++ [V.ref r] = (as ++ [r]).map V.ref by rw [List.map_append]; rfl]
    refine ⟨Nat.le_trans (show _ ≤ 1000 by rw [List.length_map, lb]; omega) (by decide), fun l hl => ?_⟩
    have Sl : Same H (upd H l (.lst ((as ++ [r]).map V.ref))) := Same.upd hl
    refine ⟨_, rfl, x, S, dx, _, _, rfl, Sl _ _ h0, TC.cl, TC.n4, schF_ru _ _ _ _ _, _, rfl, x, S, dx, _, _, rfl, Sl _ _ h0, TC.cl, TC.n5, schF_ba _ _ _ _ _, ?_⟩
    exact sch_new2 (SqL.of (Sl _ _ h1)) (SqL.of (Sl _ _ h2)) (.of upd_same) (.of (Sl _ _ h4)) (.of (Sl _ _ h5)) (pt.same Sl) ok ((Rfs.same Sl k).map fun _ H' S' kk y hy a => kk y (Sl.free hy) a)
theorem scSxr : FnScope ["self", "name", "rules", "rule"] ["self", "name"] (defScope sSxr) := ⟨rfl, rfl, rfl, by decide +kernel, rfl, by decide +kernel, by decide +kernel⟩
theorem ok_sxr {f S fS MB RB BB fR fI : Addr} {fd dS fdI : FuncData} (F : Fun K "without_rule" "Scheme.without_rule" sSxr f fd) (T : TxB mg) (TC : TxSch K mg S fS) (TR : TxRul K mg RB fR) (bS : Binds K dS psSch []) (TE : ErrT K mg "NoRule" "name" (C 6) fI) (bI : Binds K fdI ["self", "name"] []) (GI : FnOk P w K mg base CX0 2 fI fdI ["self", "name"] (spE1 (C 6) "name" "norule")) (GS : FnOk P w K mg base (L2N.CX P w) 6 fS dS psSch (spSch K C S MB RB BB)) : FnOk P w K mg base (L2N.CX P w) 8 f fd ["self", "name"] (spSxr K C S MB RB BB) := by
  refine okN F scSxr (fun vs H Q E h => ?_) (fun cdv A outer s H vs Q E hr h => ?_)
  · obtain ⟨x, z, ss, ws, as, bs, cs, ms, rs, ps, rfl, _⟩ := h
    rfl
  · obtain ⟨x, z, ss, ws, as, bs, cs, ms, rs, ps, rfl, ⟨dx, l1, l2, l3, l4, l5, h0, h1, h2, h3, h4, h5⟩, pt, ok, k⟩ := h
    have hr3 : Room 3 _ := hr.mono (by decide)
    refine ⟨_, (pss_cons (ps_setLc (i := 2) (own := [("rule", 3)]) (g := gName 3) (tt := tTest (tOp rNe (tFld K (tVar 3) "name") (tVar 1))) (te := tVar 3) rfl scSxr.nd rfl rfl (sw_true rfl rfl rfl (by decide +kernel)) (pi_list (pe_fld (pv 0) rfl)) (blkOk_by (N := ["self", "name", "rules", "rule"]) (sc := defScope sSxr) (by decide +kernel)) (fun _ _ _ _ _ => (pg_name (i := 3) scSxr.nd rfl (Or.inl rfl))) (fun _ _ _ _ _ => (pts_one (pt_cmpR op_ne (pe_fld (pv 3) rfl) (pv 1) (nomark _)))) (fun _ _ _ _ _ => (pv 3)))
      (pss_cons (ps_if (pt_cmpR op_eq (pe_callB call_len_seq (by rfl) T.len (by decide +kernel) (pa_cons (pv 2) pa_nil)) (pe_callB call_len_seq (by rfl) T.len (by decide +kernel) (pa_cons (pe_fld (pv 0) rfl) pa_nil)) (nomark _)) (pss_one (L2N.ps_raise rfl (L2N.takes_of rfl rfl rfl rfl) (pmkN_oex TE.o TE.iC TE.tI GI hr3 bI pass0 rfl TE.g (pa_cons (pv 1) pa_nil)))) pss_nil)
      (pss_one (ps_ret (pe_make TC.m GS hr rfl TC.g bS .nil (L2N.passes_call (L2N.takes_of rfl rfl rfl rfl) (fun _ _ _ _ h => h)) (pa_cons (pe_fld (pv 0) rfl) (pa_cons (pe_fld (pv 0) rfl) (pa_cons (pe_fld (pv 0) rfl) (pa_cons (pv 2) (pa_cons (pe_fld (pv 0) rfl) pa_nil)))))))))), ?_⟩
    have lb := pt.ar.len
    have r8 := ok.r9
    refine ⟨_, rfl, x, S, dx, _, _, rfl, h0, TC.cl, TC.n4, schF_ru _ _ _ _ _, l4, rfl, ⟨_, SqL.of h4⟩, fun D hD => ?_⟩
    refine lc_list (K := K) (a := l4) (xs := bs.map V.ref) (fun i H' => Same H H' ∧ H' D = some (.lst ((keepA (qR z) (bs.take i) (rs.take i)).map V.ref))) ⟨Same.upd hD, upd_same⟩ (fun i H' _ p => p.1.seq (SqL.of h4)) ?_ ?_
    · rintro i v H' hi ⟨hS, hl⟩
      obtain ⟨b, y, rfl, hy, hat⟩ := pt.ar.get hi
      obtain ⟨b', e, hb'⟩ := getA hi
      cases e
      obtain ⟨d, t1, t2, t3, us, qs, hb, _⟩ := hat.same hS
      have st := keepA_step (q := qR z) hb' hy
      refine ⟨rfl, ?_⟩
      refine ⟨_, rfl, b, RB, d, _, _, rfl, hb, TR.cl, TR.nn, rulF_name _ _ _ _ _, _, rfl, rfl, _, rfl, ite2 (fun q => ?_) (fun q => ?_)⟩
      · have e : qR z y = true := by
          unfold qR
          simpa using q
        refine ⟨_, rfl, _, hl, ?_, ?_, ?_⟩
        · have h1 := keepA_len (qR z) (bs.take i) (rs.take i)
          rw [List.length_map]
          rw [List.length_take] at h1
          exact Nat.lt_of_le_of_lt (show _ ≤ 100 by omega) (by decide)
        · intro b o h
          rw [upd_ne (ne_of_none h hD)]
          exact hS b o h
        · rw [upd_same, st, if_pos e, List.map_append]
          rfl
      · have e : ¬ qR z y = true := by
          unfold qR
          simpa using q
        refine ⟨hS, ?_⟩
        rw [st, if_neg e, List.append_nil]
        exact hl
    rintro H1 ⟨S1, hl⟩
    rw [List.length_map, show bs.take bs.length = bs from List.take_length, show rs.take bs.length = rs by rw [lb, List.take_length]] at hl
    have pk : Parts K MB RB BB H1 as (keepA (qR z) bs rs) cs ms (rs.filter (qR z)) ps := ⟨(pt.same S1).am, keepA_all (pt.same S1).ar, (pt.same S1).ab⟩
    have ll := pk.ar.len
    refine ⟨_, rfl, D, _, rfl, .inl (SqL.of hl), _, rfl, x, S, dx, _, _, rfl, S1 _ _ h0, TC.cl, TC.n4, schF_ru _ _ _ _ _, l4, _, rfl, .inl (SqL.of (S1 _ _ h4)), rfl, _, rfl, ?_⟩
    refine ite2 (fun q => ?_) (fun q => ?_)
    · have q := of_decide_eq_true q
      rw [List.length_map, List.length_map] at q
      have q : (keepA (qR z) bs rs).length = bs.length := by
        injection q with q
        omega
      rw [show allO (qR z) (.nr z) rs = some (.nr z) from if_pos (all_iff.mpr (by omega))] at k
      exact ⟨_, rfl, mk1 fun d' H3 hd' hS3 hx => k d' H3 (S1.free hd') (S1.trans hS3) hx⟩
    have nq : ¬ rs.all (qR z) = true := fun e => q (decide_eq_true (by
      have e := all_iff.mp e
      rw [List.length_map, List.length_map, show (keepA (qR z) bs rs).length = bs.length by omega]))
    rw [show allO (qR z) (.nr z) rs = none from if_neg nq, Option.none_or] at k
    refine ⟨_, rfl, x, S, dx, _, _, rfl, S1 _ _ h0, TC.cl, TC.n1, schF_so _ _ _ _ _, _, rfl, x, S, dx, _, _, rfl, S1 _ _ h0, TC.cl, TC.n2, schF_wo _ _ _ _ _, _, rfl, x, S, dx, _, _, rfl, S1 _ _ h0, TC.cl, TC.n3, schF_mk _ _ _ _ _, _, rfl, _, rfl, x, S, dx, _, _, rfl, S1 _ _ h0, TC.cl, TC.n5, schF_ba _ _ _ _ _, ?_⟩
    exact sch_new2 (SqL.of (S1 _ _ h1)) (SqL.of (S1 _ _ h2)) (.of (S1 _ _ h3)) (.of hl) (.of (S1 _ _ h5)) pk (ok.fr _) ((Rfs.same S1 k).map fun _ H' S' kk y hy a => kk y (S1.free hy) a)
theorem scSxb : FnScope ["self", "name", "bars", "bar"] ["self", "name"] (defScope sSxb) := ⟨rfl, rfl, rfl, by decide +kernel, rfl, by decide +kernel, by decide +kernel⟩
theorem ok_sxb {f S fS MB RB BB fB fI : Addr} {fd dS fdI : FuncData} (F : Fun K "without_bar" "Scheme.without_bar" sSxb f fd) (T : TxB mg) (TC : TxSch K mg S fS) (TB : TxBar K mg BB fB) (bS : Binds K dS psSch []) (TE : ErrT K mg "NoBar" "name" (C 7) fI) (bI : Binds K fdI ["self", "name"] []) (GI : FnOk P w K mg base CX0 2 fI fdI ["self", "name"] (spE1 (C 7) "name" "nobar")) (GS : FnOk P w K mg base (L2N.CX P w) 6 fS dS psSch (spSch K C S MB RB BB)) : FnOk P w K mg base (L2N.CX P w) 8 f fd ["self", "name"] (spSxb K C S MB RB BB) := by
  refine okN F scSxb (fun vs H Q E h => ?_) (fun cdv A outer s H vs Q E hr h => ?_)
  · obtain ⟨x, z, ss, ws, as, bs, cs, ms, rs, ps, rfl, _⟩ := h
    rfl
  · obtain ⟨x, z, ss, ws, as, bs, cs, ms, rs, ps, rfl, ⟨dx, l1, l2, l3, l4, l5, h0, h1, h2, h3, h4, h5⟩, pt, ok, k⟩ := h
    have hr3 : Room 3 _ := hr.mono (by decide)
    refine ⟨_, (pss_cons (ps_setLc (i := 2) (own := [("bar", 3)]) (g := gName 3) (tt := tTest (tOp rNe (tFld K (tVar 3) "name") (tVar 1))) (te := tVar 3) rfl scSxb.nd rfl rfl (sw_true rfl rfl rfl (by decide +kernel)) (pi_list (pe_fld (pv 0) rfl)) (blkOk_by (N := ["self", "name", "bars", "bar"]) (sc := defScope sSxb) (by decide +kernel)) (fun _ _ _ _ _ => (pg_name (i := 3) scSxb.nd rfl (Or.inl rfl))) (fun _ _ _ _ _ => (pts_one (pt_cmpR op_ne (pe_fld (pv 3) rfl) (pv 1) (nomark _)))) (fun _ _ _ _ _ => (pv 3)))
      (pss_cons (ps_if (pt_cmpR op_eq (pe_callB call_len_seq (by rfl) T.len (by decide +kernel) (pa_cons (pv 2) pa_nil)) (pe_callB call_len_seq (by rfl) T.len (by decide +kernel) (pa_cons (pe_fld (pv 0) rfl) pa_nil)) (nomark _)) (pss_one (L2N.ps_raise rfl (L2N.takes_of rfl rfl rfl rfl) (pmkN_oex TE.o TE.iC TE.tI GI hr3 bI pass0 rfl TE.g (pa_cons (pv 1) pa_nil)))) pss_nil)
      (pss_one (ps_ret (pe_make TC.m GS hr rfl TC.g bS .nil (L2N.passes_call (L2N.takes_of rfl rfl rfl rfl) (fun _ _ _ _ h => h)) (pa_cons (pe_fld (pv 0) rfl) (pa_cons (pe_fld (pv 0) rfl) (pa_cons (pe_fld (pv 0) rfl) (pa_cons (pe_fld (pv 0) rfl) (pa_cons (pv 2) pa_nil)))))))))), ?_⟩
    have lb := pt.ab.len
    have r8 := ok.b9
    refine ⟨_, rfl, x, S, dx, _, _, rfl, h0, TC.cl, TC.n5, schF_ba _ _ _ _ _, l5, rfl, ⟨_, SqL.of h5⟩, fun D hD => ?_⟩
    refine lc_list (K := K) (a := l5) (xs := cs.map V.ref) (fun i H' => Same H H' ∧ H' D = some (.lst ((keepA (qB z) (cs.take i) (ps.take i)).map V.ref))) ⟨Same.upd hD, upd_same⟩ (fun i H' _ p => p.1.seq (SqL.of h5)) ?_ ?_
    · rintro i v H' hi ⟨hS, hl⟩
      obtain ⟨b, y, rfl, hy, hat⟩ := pt.ab.get hi
      obtain ⟨b', e, hb'⟩ := getA hi
      cases e
      obtain ⟨d, t1, t2, us, qs, hb, _⟩ := hat.same hS
      have st := keepA_step (q := qB z) hb' hy
      refine ⟨rfl, ?_⟩
      refine ⟨_, rfl, b, BB, d, _, _, rfl, hb, TB.cl, TB.nn, barF_name _ _ _, _, rfl, rfl, _, rfl, ite2 (fun q => ?_) (fun q => ?_)⟩
      · have e : qB z y = true := by
          unfold qB
          simpa using q
        refine ⟨_, rfl, _, hl, ?_, ?_, ?_⟩
        · have h1 := keepA_len (qB z) (cs.take i) (ps.take i)
          rw [List.length_map]
          rw [List.length_take] at h1
          exact Nat.lt_of_le_of_lt (show _ ≤ 100 by omega) (by decide)
        · intro b o h
          rw [upd_ne (ne_of_none h hD)]
          exact hS b o h
        · rw [upd_same, st, if_pos e, List.map_append]
          rfl
      · have e : ¬ qB z y = true := by
          unfold qB
          simpa using q
        refine ⟨hS, ?_⟩
        rw [st, if_neg e, List.append_nil]
        exact hl
    rintro H1 ⟨S1, hl⟩
    rw [List.length_map, show cs.take cs.length = cs from List.take_length, show ps.take cs.length = ps by rw [lb, List.take_length]] at hl
    have pk : Parts K MB RB BB H1 as bs (keepA (qB z) cs ps) ms rs (ps.filter (qB z)) := ⟨(pt.same S1).am, (pt.same S1).ar, keepA_all (pt.same S1).ab⟩
    have ll := pk.ab.len
    refine ⟨_, rfl, D, _, rfl, .inl (SqL.of hl), _, rfl, x, S, dx, _, _, rfl, S1 _ _ h0, TC.cl, TC.n5, schF_ba _ _ _ _ _, l5, _, rfl, .inl (SqL.of (S1 _ _ h5)), rfl, _, rfl, ?_⟩
    refine ite2 (fun q => ?_) (fun q => ?_)
    · have q := of_decide_eq_true q
      rw [List.length_map, List.length_map] at q
      have q : (keepA (qB z) cs ps).length = cs.length := by
        injection q with q
        omega
      rw [show allO (qB z) (.nb z) ps = some (.nb z) from if_pos (all_iff.mpr (by omega))] at k
      exact ⟨_, rfl, mk1 fun d' H3 hd' hS3 hx => k d' H3 (S1.free hd') (S1.trans hS3) hx⟩
    have nq : ¬ ps.all (qB z) = true := fun e => q (decide_eq_true (by
      have e := all_iff.mp e
      rw [List.length_map, List.length_map, show (keepA (qB z) cs ps).length = cs.length by omega]))
    rw [show allO (qB z) (.nb z) ps = none from if_neg nq, Option.none_or] at k
    refine ⟨_, rfl, x, S, dx, _, _, rfl, S1 _ _ h0, TC.cl, TC.n1, schF_so _ _ _ _ _, _, rfl, x, S, dx, _, _, rfl, S1 _ _ h0, TC.cl, TC.n2, schF_wo _ _ _ _ _, _, rfl, x, S, dx, _, _, rfl, S1 _ _ h0, TC.cl, TC.n3, schF_mk _ _ _ _ _, _, rfl, x, S, dx, _, _, rfl, S1 _ _ h0, TC.cl, TC.n4, schF_ru _ _ _ _ _, _, rfl, ?_⟩
    exact sch_new2 (SqL.of (S1 _ _ h1)) (SqL.of (S1 _ _ h2)) (.of (S1 _ _ h3)) (.of (S1 _ _ h4)) (.of hl) pk (ok.fb _) ((Rfs.same S1 k).map fun _ H' S' kk y hy a => kk y (S1.free hy) a)
theorem scSxm : FnScope ["self", "maker", "made", "makings", "making"] ["self", "maker", "made"] (defScope sSxm) := ⟨rfl, rfl, rfl, by decide +kernel, rfl, by decide +kernel, by decide +kernel⟩
theorem ok_sxm {f S fS MB RB BB fM fI : Addr} {fd dS fdI : FuncData} (F : Fun K "without_making" "Scheme.without_making" sSxm f fd) (T : TxB mg) (TC : TxSch K mg S fS) (TM : TxMak K mg MB fM) (bS : Binds K dS psSch []) (TE : ErrT K mg "NoMaking" "maker" (C 8) fI) (bI : Binds K fdI ["self", "maker", "made"] []) (GI : FnOk P w K mg base CX0 2 fI fdI ["self", "maker", "made"] (spEM (C 8))) (GS : FnOk P w K mg base (L2N.CX P w) 6 fS dS psSch (spSch K C S MB RB BB)) : FnOk P w K mg base (L2N.CX P w) 8 f fd ["self", "maker", "made"] (spSxm K C S MB RB BB) := by
  refine okN F scSxm (fun vs H Q E h => ?_) (fun cdv A outer s H vs Q E hr h => ?_)
  · obtain ⟨x, z, t, ss, ws, as, bs, cs, ms, rs, ps, rfl, _⟩ := h
    rfl
  · obtain ⟨x, z, t, ss, ws, as, bs, cs, ms, rs, ps, rfl, ⟨dx, l1, l2, l3, l4, l5, h0, h1, h2, h3, h4, h5⟩, pt, ok, okz, okt, k⟩ := h
    have hr3 : Room 3 _ := hr.mono (by decide)
    refine ⟨_, (pss_cons (ps_setLc (i := 3) (own := [("making", 4)]) (g := gName 4) (tt := tTest (tOp (rNeD K) (tTup (tCons (tFld K (tVar 4) "maker") (tCons (tFld K (tVar 4) "made") tNil))) (tTup (tCons (tVar 1) (tCons (tVar 2) tNil))))) (te := tVar 4) rfl scSxm.nd rfl rfl (sw_true rfl rfl rfl (by decide +kernel)) (pi_list (pe_fld (pv 0) rfl)) (blkOk_by (N := ["self", "maker", "made", "makings", "making"]) (sc := defScope sSxm) (by decide +kernel)) (fun _ _ _ _ _ => (pg_name (i := 4) scSxm.nd rfl (Or.inl rfl))) (fun _ _ _ _ _ => (pts_one (pt_cmpR (op_neD hr.units) (pe_tup (pa_cons (pe_fld (pv 4) rfl) (pa_cons (pe_fld (pv 4) rfl) pa_nil))) (pe_tup (pa_cons (pv 1) (pa_cons (pv 2) pa_nil))) (nomark _)))) (fun _ _ _ _ _ => (pv 4)))
      (pss_cons (ps_if (pt_cmpR op_eq (pe_callB call_len_seq (by rfl) T.len (by decide +kernel) (pa_cons (pv 3) pa_nil)) (pe_callB call_len_seq (by rfl) T.len (by decide +kernel) (pa_cons (pe_fld (pv 0) rfl) pa_nil)) (nomark _)) (pss_one (L2N.ps_raise rfl (L2N.takes_of rfl rfl rfl rfl) (pmkN_oex TE.o TE.iC TE.tI GI hr3 bI pass0 rfl TE.g (pa_cons (pv 1) (pa_cons (pv 2) pa_nil))))) pss_nil)
      (pss_one (ps_ret (pe_make TC.m GS hr rfl TC.g bS .nil (L2N.passes_call (L2N.takes_of rfl rfl rfl rfl) (fun _ _ _ _ h => h)) (pa_cons (pe_fld (pv 0) rfl) (pa_cons (pe_fld (pv 0) rfl) (pa_cons (pv 3) (pa_cons (pe_fld (pv 0) rfl) (pa_cons (pe_fld (pv 0) rfl) pa_nil)))))))))), ?_⟩
    have lb := pt.am.len
    have r8 := ok.m9
    refine ⟨_, rfl, x, S, dx, _, _, rfl, h0, TC.cl, TC.n3, schF_mk _ _ _ _ _, l3, rfl, ⟨_, SqL.of h3⟩, fun D hD => ?_⟩
    refine lc_list (K := K) (a := l3) (xs := as.map V.ref) (fun i H' => Same H H' ∧ H' D = some (.lst ((keepA (qM z t) (as.take i) (ms.take i)).map V.ref))) ⟨Same.upd hD, upd_same⟩ (fun i H' _ p => p.1.seq (SqL.of h3)) ?_ ?_
    · rintro i v H' hi ⟨hS, hl⟩
      obtain ⟨b, y, rfl, hy, hat⟩ := pt.am.get hi
      obtain ⟨b', e, hb'⟩ := getA hi
      cases e
      obtain ⟨d, t1, t2, hb, _⟩ := hat.same hS
      have st := keepA_step (q := qM z t) hb' hy
      have oy := ok.mo y (List.mem_of_getElem? hy)
      refine ⟨rfl, ?_⟩
      refine ⟨_, rfl, b, MB, d, _, _, rfl, hb, TM.cl, TM.nk, makF_maker _ _ _ _, _, rfl, b, MB, d, _, _, rfl, hb, TM.cl, TM.nd, makF_made _ _ _ _, by show 2 ≤ sizeLine; decide, fun p1 hp1 => ?_⟩
      refine ⟨_, rfl, _, rfl, by show 2 ≤ sizeLine; decide, fun p2 hp2 => ?_⟩
      have Sa := Same.upd (o := .tup [.str y.mr, .str y.md]) hp1
      have Sb := Same.upd (o := .tup [.str z, .str t]) hp2
      have hS2 := (hS.trans Sa).trans Sb
      have hl2 := Sb _ _ (Sa _ _ hl)
      have sh : ∀ {u v : Str}, okS u → okS v → SeqAt.shaped (prD (u, v)) = true := fun hu hv => by
        have h := prs_sh (ps := [(_, _)]) (fun p hp => by obtain rfl := List.mem_singleton.mp hp; exact ⟨hu, hv⟩)
        simp [PyData.canLayAll0, PyData.depthAll] at h
        simp [SeqAt.shaped]
        exact ⟨h.1, by omega⟩
      have al : ∀ {H : Hp} {u v : Str}, DpAll K H [.str u, .str v] [.str u, .str v] := .cons (.str _) (.cons (.str _) .nil)
      refine ⟨prD (y.mr, y.md), prD (z, t), .tup (SqT.of (Sb _ _ upd_same)) al, .tup (SqT.of upd_same) al, sh oy.1 oy.2, sh okz okt, _, rfl, ?_⟩
      rw [prD_eqv]
      refine ite2 (fun q => ?_) (fun q => ?_)
      · refine ⟨_, rfl, _, hl2, ?_, ?_, ?_⟩
        · have h1 := keepA_len (qM z t) (as.take i) (ms.take i)
          rw [List.length_map]
          rw [List.length_take] at h1
          exact Nat.lt_of_le_of_lt (show _ ≤ 1000 by omega) (by decide)
        · intro b o h
          rw [upd_ne (ne_of_none h hD)]
          exact hS2 b o h
        · rw [upd_same, st, if_pos (show qM z t y = true from q), List.map_append]
          rfl
      · refine ⟨hS2, ?_⟩
        rw [st, if_neg (show ¬ qM z t y = true from q), List.append_nil]
        exact hl2
    rintro H1 ⟨S1, hl⟩
    rw [List.length_map, show as.take as.length = as from List.take_length, show ms.take as.length = ms by rw [lb, List.take_length]] at hl
    have pk : Parts K MB RB BB H1 (keepA (qM z t) as ms) bs cs (ms.filter (qM z t)) rs ps := ⟨keepA_all (pt.same S1).am, (pt.same S1).ar, (pt.same S1).ab⟩
    have ll := pk.am.len
    refine ⟨_, rfl, D, _, rfl, .inl (SqL.of hl), _, rfl, x, S, dx, _, _, rfl, S1 _ _ h0, TC.cl, TC.n3, schF_mk _ _ _ _ _, l3, _, rfl, .inl (SqL.of (S1 _ _ h3)), rfl, _, rfl, ?_⟩
    refine ite2 (fun q => ?_) (fun q => ?_)
    · have q := of_decide_eq_true q
      rw [List.length_map, List.length_map] at q
      have q : (keepA (qM z t) as ms).length = as.length := by
        injection q with q
        omega
      rw [show allO (qM z t) (.nmk z t) ms = some (.nmk z t) from if_pos (all_iff.mpr (by omega))] at k
      exact ⟨_, rfl, _, rfl, mkM fun d' H3 hd' hS3 hx => k d' H3 (S1.free hd') (S1.trans hS3) hx⟩
    have nq : ¬ ms.all (qM z t) = true := fun e => q (decide_eq_true (by
      have e := all_iff.mp e
      rw [List.length_map, List.length_map, show (keepA (qM z t) as ms).length = as.length by omega]))
    rw [show allO (qM z t) (.nmk z t) ms = none from if_neg nq, Option.none_or] at k
    refine ⟨_, rfl, x, S, dx, _, _, rfl, S1 _ _ h0, TC.cl, TC.n1, schF_so _ _ _ _ _, _, rfl, x, S, dx, _, _, rfl, S1 _ _ h0, TC.cl, TC.n2, schF_wo _ _ _ _ _, _, rfl, _, rfl, x, S, dx, _, _, rfl, S1 _ _ h0, TC.cl, TC.n4, schF_ru _ _ _ _ _, _, rfl, x, S, dx, _, _, rfl, S1 _ _ h0, TC.cl, TC.n5, schF_ba _ _ _ _ _, ?_⟩
    exact sch_new2 (SqL.of (S1 _ _ h1)) (SqL.of (S1 _ _ h2)) (.of hl) (.of (S1 _ _ h4)) (.of (S1 _ _ h5)) pk (ok.fm _) ((Rfs.same S1 k).map fun _ H' S' kk y hy a => kk y (S1.free hy) a)
end
end Wm
namespace Wm
open PySem L2 StX
/-! ### what a scheme with one part more, or one less, is refused for -/
/-- a pattern as the law writes it: (name, [kind, kind], [word, word]) -/
structure PaT where
  nm : Str
  k0 : Option Str
  k1 : Option Str
  w0 : Str
  w1 : Str
abbrev vA : Str := PySem.Str.ofString "a"
abbrev vB : Str := PySem.Str.ofString "b"
def ruD (x : PaT) : RlD := ⟨⟨x.nm, [(vA, x.k0), (vB, x.k1)], [(vA, x.w0, vB)]⟩, (vB, x.w1, vA), vB⟩
def baD (x : PaT) : PtD := ⟨x.nm, [(vA, x.k0), (vB, x.k1)], [(vA, x.w0, vB)]⟩
theorem or_same {α : Type} {a x y : Option α} (h : a = none → x = y) : a.or x = a.or y := by
  cases a with
  | none => exact h rfl
  | some v => rfl
theorem goF_pre {α β : Type} {p : List α → α → Option β} (h : ∀ a b x, p a x = p b x) : ∀ (xs a b : List α), goF p a xs = goF p b xs
  | [], _, _ => rfl
  | x :: r, a, b => by
    rw [goF, goF, h a b x, goF_pre h r (a ++ [x]) (b ++ [x])]
theorem goF_app {α β : Type} {p : List α → α → Option β} (h : ∀ a b x, p a x = p b x) : ∀ (xs ys a : List α), goF p a (xs ++ ys) = (goF p [] xs).or (goF p [] ys)
  | [], ys, a => by
    rw [List.nil_append, goF, Option.none_or]
    exact goF_pre h ys a []
  | x :: r, ys, a => by
    rw [List.cons_append, goF, goF, h a [] x]
    cases e : p [] x with
    | some b => rfl
    | none =>
      show goF p (a ++ [x]) (r ++ ys) = (goF p ([] ++ [x]) r).or _
      rw [goF_app h r ys (a ++ [x]), goF_pre h r ([] ++ [x]) []]
theorem goF_snoc {α β : Type} {p : List α → α → Option β} : ∀ (xs ys pre : List α), goF p pre (xs ++ ys) = (goF p pre xs).or (goF p (pre ++ xs) ys)
  | [], ys, pre => by rw [List.nil_append, goF, Option.none_or, List.append_nil]
  | x :: r, ys, pre => by
    rw [List.cons_append, goF, goF]
    cases e : p pre x with
    | some b => rfl
    | none =>
      show goF p (pre ++ [x]) (r ++ ys) = (goF p (pre ++ [x]) r).or _
      rw [goF_snoc r ys (pre ++ [x]), List.append_assoc]
      rfl
theorem goF_one {α β : Type} {p : List α → α → Option β} (pre : List α) (x : α) : goF p pre [x] = p pre x := by
  rw [goF]
  cases p pre x with
  | some b => rfl
  | none => rw [goF]
def kdL (x : PaT) : List Str := [x.k0, x.k1].filterMap id
theorem kd_ru (x : PaT) : (ruD x).p.vars.filterMap (·.2) = kdL x := by
  unfold kdL
  show [(vA, x.k0), (vB, x.k1)].filterMap (·.2) = _
  cases x.k0 <;> cases x.k1 <;> rfl
theorem kd_ba (x : PaT) : (baD x).vars.filterMap (·.2) = kdL x := kd_ru x
def dueR (ss ws : List Str) (rs : List PaT) (x : PaT) : Option Rf :=
  (if 8 ≤ rs.length then some (.cnt "rules" ((rs.length : Int) + 1)) else none).or ((twP (rs.map (·.nm)) x.nm).or ((goF (nsP ss) [] (kdL x)).or (goF (nwP ws) [] [x.w0, x.w1])))
def dueB (ss ws : List Str) (bs : List PaT) (x : PaT) : Option Rf :=
  (if 4 ≤ bs.length then some (.cnt "bars" ((bs.length : Int) + 1)) else none).or ((twP (bs.map (·.nm)) x.nm).or ((goF (nsP ss) [] (kdL x)).or (goF (nwP ws) [] [x.w0])))
def dueK (ss ws : List Str) (ms : List MkD) (x : MkD) : Option Rf :=
  (twM ms x).or ((goF (nsP ss) [] [x.mr, x.md]).or ((upP ss ms x).or (goF (nwP ws) [] (x.dn ++ x.up))))
/-- a scheme that is refused for nothing -/
def Good (ss ws : List Str) (ms : List MkD) (rs bs : List PaT) : Prop := schDue ss ws ms (rs.map ruD) (bs.map baD) = none
theorem cnt8 {w : Str} {n : Nat} : cntO w ((n + 1 : Nat) : Int) 0 8 = if 8 ≤ n then some (.cnt w ((n : Int) + 1)) else none := by
  unfold cntO
  by_cases h : 8 ≤ n
  · rw [if_pos (.inr (by omega)), if_pos h]
    rfl
  · rw [if_neg (by omega), if_neg h]
theorem cnt4 {w : Str} {n : Nat} : cntO w ((n + 1 : Nat) : Int) 0 4 = if 4 ≤ n then some (.cnt w ((n : Int) + 1)) else none := by
  unfold cntO
  by_cases h : 4 ≤ n
  · rw [if_pos (.inr (by omega)), if_pos h]
    rfl
  · rw [if_neg (by omega), if_neg h]
theorem nm_ru (rs : List PaT) : (rs.map ruD).map (·.p.nm) = rs.map (·.nm) := by
  rw [List.map_map]
  rfl
theorem nm_ba (bs : List PaT) : (bs.map baD).map (·.nm) = bs.map (·.nm) := by
  rw [List.map_map]
  rfl
theorem fl_ru (rs : List PaT) : ((rs.map ruD).map (·.p.vars)).flatMap (fun v => v.filterMap (·.2)) = rs.flatMap kdL := by
  rw [List.map_map, List.flatMap_map]
  exact congrArg List.flatten (List.map_congr_left fun x _ => kd_ru x)
theorem fl_ba (bs : List PaT) : ((bs.map baD).map (·.vars)).flatMap (fun v => v.filterMap (·.2)) = bs.flatMap kdL := by
  rw [List.map_map, List.flatMap_map]
  exact congrArg List.flatten (List.map_congr_left fun x _ => kd_ba x)
theorem wd_ru (rs : List PaT) : (rs.map ruD).flatMap (fun x => (x.p.cs ++ [x.g]).map (·.2.1)) = rs.flatMap (fun x => [x.w0, x.w1]) := by
  rw [List.flatMap_map]
  rfl
theorem wd_ba (bs : List PaT) : (bs.map baD).flatMap (fun x => x.cs.map (·.2.1)) = bs.flatMap (fun x => [x.w0]) := by
  rw [List.flatMap_map]
  rfl
theorem askS_eq (ms : List MkD) (rs bs : List PaT) : askS ms ((rs.map ruD).map (·.p.vars) ++ (bs.map baD).map (·.vars)) = ms.flatMap (fun x => [x.mr, x.md]) ++ (rs.flatMap kdL ++ bs.flatMap kdL) := by
  unfold askS
  rw [List.flatMap_append, fl_ru, fl_ba]
theorem askW_eq (ms : List MkD) (rs bs : List PaT) : askW ms (rs.map ruD) (bs.map baD) = ms.flatMap (fun x => x.dn ++ x.up) ++ (rs.flatMap (fun x => [x.w0, x.w1]) ++ bs.flatMap (fun x => [x.w0])) := by
  unfold askW
  rw [wd_ru, wd_ba, List.append_assoc]
def goN (ss : List Str) (xs : List Str) : Option Rf := goF (nsP ss) [] xs
def goW (ws : List Str) (xs : List Str) : Option Rf := goF (nwP ws) [] xs
theorem goN_app (ss xs ys : List Str) : goN ss (xs ++ ys) = (goN ss xs).or (goN ss ys) := goF_app (fun _ _ _ => rfl) xs ys []
theorem goW_app (ws xs ys : List Str) : goW ws (xs ++ ys) = (goW ws xs).or (goW ws ys) := goF_app (fun _ _ _ => rfl) xs ys []
/-- what is asked of a scheme, part by part -/
theorem due_parts (ss ws : List Str) (ms : List MkD) (rs bs : List PaT) : schDue ss ws ms (rs.map ruD) (bs.map baD) =
    (cntO "sorts" (ss.length : Int) 1 4).or ((cntO "words" (ws.length : Int) 1 5).or ((cntO "rules" (rs.length : Int) 0 8).or ((cntO "bars" (bs.length : Int) 0 4).or ((goF nmP [] ss).or ((goF nmP [] ws).or ((goF twP [] ss).or ((goF twP [] ws).or ((goF twM [] ms).or ((goF twP [] (rs.map (·.nm))).or ((goF twP [] (bs.map (·.nm))).or
    (((goN ss (ms.flatMap fun x => [x.mr, x.md])).or ((goN ss (rs.flatMap kdL)).or (goN ss (bs.flatMap kdL)))).or ((goF (upP ss) [] ms).or ((goW ws (ms.flatMap fun x => x.dn ++ x.up)).or ((goW ws (rs.flatMap fun x => [x.w0, x.w1])).or (goW ws (bs.flatMap fun x => [x.w0])))))))))))))))) := by
  unfold schDue
  rw [askS_eq, askW_eq, nm_ru, nm_ba, List.length_map, List.length_map]
  rw [← goN_app, ← goN_app, ← goW_app, ← goW_app]
  rfl
structure Goods (ss ws : List Str) (ms : List MkD) (rs bs : List PaT) : Prop where
  c1 : cntO "sorts" (ss.length : Int) 1 4 = none
  c2 : cntO "words" (ws.length : Int) 1 5 = none
  c3 : cntO "rules" (rs.length : Int) 0 8 = none
  c4 : cntO "bars" (bs.length : Int) 0 4 = none
  n1 : goF nmP [] ss = none
  n2 : goF nmP [] ws = none
  t1 : goF twP [] ss = none
  t2 : goF twP [] ws = none
  t3 : goF twM [] ms = none
  t4 : goF twP [] (rs.map (·.nm)) = none
  t5 : goF twP [] (bs.map (·.nm)) = none
  s1 : goN ss (ms.flatMap fun x => [x.mr, x.md]) = none
  s2 : goN ss (rs.flatMap kdL) = none
  s3 : goN ss (bs.flatMap kdL) = none
  u : goF (upP ss) [] ms = none
  w1 : goW ws (ms.flatMap fun x => x.dn ++ x.up) = none
  w2 : goW ws (rs.flatMap fun x => [x.w0, x.w1]) = none
  w3 : goW ws (bs.flatMap fun x => [x.w0]) = none
theorem goods_iff {ss ws : List Str} {ms : List MkD} {rs bs : List PaT} : Good ss ws ms rs bs ↔ Goods ss ws ms rs bs := by
  unfold Good
  rw [due_parts]
  simp only [Option.or_eq_none_iff]
  constructor
  · rintro ⟨a1, a2, a3, a4, a5, a6, a7, a8, a9, a10, a11, ⟨a12, a13, a14⟩, a15, a16, a17, a18⟩
    exact ⟨a1, a2, a3, a4, a5, a6, a7, a8, a9, a10, a11, a12, a13, a14, a15, a16, a17, a18⟩
  · rintro ⟨a1, a2, a3, a4, a5, a6, a7, a8, a9, a10, a11, a12, a13, a14, a15, a16, a17, a18⟩
    exact ⟨a1, a2, a3, a4, a5, a6, a7, a8, a9, a10, a11, ⟨a12, a13, a14⟩, a15, a16, a17, a18⟩
theorem due_rule {ss ws : List Str} {ms : List MkD} {rs bs : List PaT} (x : PaT) (g : Good ss ws ms rs bs) : schDue ss ws ms ((rs ++ [x]).map ruD) (bs.map baD) = dueR ss ws rs x := by
  have g := goods_iff.mp g
  rw [due_parts, List.length_append, show rs.length + [x].length = rs.length + 1 from rfl, cnt8, List.map_append, List.flatMap_append, List.flatMap_append, goN_app, goW_app, goF_snoc, g.c1, g.c2, g.c4, g.n1, g.n2, g.t1, g.t2, g.t3, g.t4, g.t5, g.s1, g.s2, g.s3, g.u, g.w1, g.w2, g.w3]
  simp only [Option.none_or, Option.or_none, List.nil_append, List.map_cons, List.map_nil, List.flatMap_cons, List.flatMap_nil, List.append_nil, goF_one]
  rfl
theorem due_bar {ss ws : List Str} {ms : List MkD} {rs bs : List PaT} (x : PaT) (g : Good ss ws ms rs bs) : schDue ss ws ms (rs.map ruD) ((bs ++ [x]).map baD) = dueB ss ws bs x := by
  have g := goods_iff.mp g
  rw [due_parts, List.length_append, show bs.length + [x].length = bs.length + 1 from rfl, cnt4, List.map_append, List.flatMap_append, List.flatMap_append, goN_app, goW_app, goF_snoc, g.c1, g.c2, g.c3, g.n1, g.n2, g.t1, g.t2, g.t3, g.t4, g.t5, g.s1, g.s2, g.s3, g.u, g.w1, g.w2, g.w3]
  simp only [Option.none_or, Option.or_none, List.nil_append, List.map_cons, List.map_nil, List.flatMap_cons, List.flatMap_nil, List.append_nil, goF_one]
  rfl
theorem due_mak {ss ws : List Str} {ms : List MkD} {rs bs : List PaT} (x : MkD) (g : Good ss ws ms rs bs) : schDue ss ws (ms ++ [x]) (rs.map ruD) (bs.map baD) = dueK ss ws ms x := by
  have g := goods_iff.mp g
  rw [due_parts, List.flatMap_append, List.flatMap_append, goN_app, goW_app, goF_snoc, goF_snoc, g.c1, g.c2, g.c3, g.c4, g.n1, g.n2, g.t1, g.t2, g.t3, g.t4, g.t5, g.s1, g.s2, g.s3, g.u, g.w1, g.w2, g.w3]
  simp only [Option.none_or, Option.or_none, List.nil_append, List.map_cons, List.map_nil, List.flatMap_cons, List.flatMap_nil, List.append_nil, goF_one]
  rfl
/-! ### one less -/
theorem goF_less {α β : Type} {p : List α → α → Option β} (hp : ∀ a b x, (∀ y ∈ a, y ∈ b) → p b x = none → p a x = none) {q : α → Bool} : ∀ (xs a b : List α), (∀ y ∈ a, y ∈ b) → goF p b xs = none → goF p a (xs.filter q) = none
  | [], _, _, _, _ => rfl
  | x :: r, a, b, s, h => by
    rw [goF] at h
    split at h
    · cases h
    · rename_i e
      have s' : ∀ y ∈ a, y ∈ b ++ [x] := fun y hy => List.mem_append_left _ (s y hy)
      cases hq : q x with
      | true =>
        rw [List.filter_cons_of_pos hq, goF, hp a b x s e]
        refine goF_less hp r (a ++ [x]) (b ++ [x]) (fun y hy => ?_) h
        rcases List.mem_append.mp hy with z | z
        · exact s' y z
        · exact List.mem_append_right _ z
      | false =>
        rw [List.filter_cons_of_neg (by rw [hq]; decide)]
        exact goF_less hp r a (b ++ [x]) s' h
theorem goN_iff {ss xs : List Str} : goN ss xs = none ↔ ∀ z ∈ xs, z ∈ ss := by
  constructor
  · intro h z hz
    obtain ⟨q, e⟩ := goF_all h z hz
    unfold nsP at e
    split at e
    · assumption
    · cases e
  · intro h
    refine goF_none fun j x hj hx => ?_
    unfold nsP
    rw [if_pos (h x (List.mem_of_getElem? hx))]
theorem goW_iff {ss xs : List Str} : goW ss xs = none ↔ ∀ z ∈ xs, z ∈ ss := by
  constructor
  · intro h z hz
    obtain ⟨q, e⟩ := goF_all h z hz
    unfold nwP at e
    split at e
    · assumption
    · cases e
  · intro h
    refine goF_none fun j x hj hx => ?_
    unfold nwP
    rw [if_pos (h x (List.mem_of_getElem? hx))]
theorem fl_less {α : Type} {f : α → List Str} {q : α → Bool} {xs : List α} {P : Str → Prop} (h : ∀ z ∈ xs.flatMap f, P z) : ∀ z ∈ (xs.filter q).flatMap f, P z := fun z hz => by
  obtain ⟨x, hx, e⟩ := List.mem_flatMap.mp hz
  exact h z (List.mem_flatMap.mpr ⟨x, (List.mem_filter.mp hx).1, e⟩)
theorem twP_less : ∀ (a b : List Str) (x : Str), (∀ y ∈ a, y ∈ b) → twP b x = none → twP a x = none := fun a b x s h => by
  unfold twP at h ⊢
  split at h
  · cases h
  · rename_i n
    rw [if_neg fun z => n (s x z)]
theorem cnt_less {w : Str} {n m : Nat} {k : Int} (h : cntO w (n : Int) 0 k = none) (l : m ≤ n) : cntO w (m : Int) 0 k = none := by
  unfold cntO at h ⊢
  split at h
  · cases h
  · rw [if_neg (by omega)]
theorem nm_filter {q : Str → Bool} (rs : List PaT) : (rs.filter fun x => q x.nm).map (·.nm) = (rs.map (·.nm)).filter q := by
  rw [List.filter_map]
  rfl
def qN (z : Str) (y : PaT) : Bool := !decide (y.nm = z)
theorem good_less_r {ss ws : List Str} {ms : List MkD} {rs bs : List PaT} (z : Str) (g : Good ss ws ms rs bs) : Good ss ws ms (rs.filter (qN z)) bs := by
  have g := goods_iff.mp g
  refine goods_iff.mpr ⟨g.c1, g.c2, cnt_less g.c3 (List.length_filter_le _ _), g.c4, g.n1, g.n2, g.t1, g.t2, g.t3, ?_, g.t5, g.s1, goN_iff.mpr (fl_less (goN_iff.mp g.s2)), g.s3, g.u, g.w1, goW_iff.mpr (fl_less (goW_iff.mp g.w2)), g.w3⟩
  have e := nm_filter (q := fun y => !decide (y = z)) rs
  rw [show (fun x : PaT => (fun y => !decide (y = z)) x.nm) = qN z from rfl] at e
  rw [e]
  exact goF_less twP_less _ [] [] (fun _ h => h) g.t4
theorem good_less_b {ss ws : List Str} {ms : List MkD} {rs bs : List PaT} (z : Str) (g : Good ss ws ms rs bs) : Good ss ws ms rs (bs.filter (qN z)) := by
  have g := goods_iff.mp g
  refine goods_iff.mpr ⟨g.c1, g.c2, g.c3, cnt_less g.c4 (List.length_filter_le _ _), g.n1, g.n2, g.t1, g.t2, g.t3, g.t4, ?_, g.s1, g.s2, goN_iff.mpr (fl_less (goN_iff.mp g.s3)), g.u, g.w1, g.w2, goW_iff.mpr (fl_less (goW_iff.mp g.w3))⟩
  have e := nm_filter (q := fun y => !decide (y = z)) bs
  rw [show (fun x : PaT => (fun y => !decide (y = z)) x.nm) = qN z from rfl] at e
  rw [e]
  exact goF_less twP_less _ [] [] (fun _ h => h) g.t5
theorem good_less_m {ss ws : List Str} {ms : List MkD} {rs bs : List PaT} (q : MkD → Bool) (g : Good ss ws ms rs bs) : Good ss ws (ms.filter q) rs bs := by
  have g := goods_iff.mp g
  refine goods_iff.mpr ⟨g.c1, g.c2, g.c3, g.c4, g.n1, g.n2, g.t1, g.t2, ?_, g.t4, g.t5, goN_iff.mpr (fl_less (goN_iff.mp g.s1)), g.s2, g.s3, ?_, goW_iff.mpr (fl_less (goW_iff.mp g.w1)), g.w2, g.w3⟩
  · refine goF_less (fun a b x s h => ?_) _ [] [] (fun _ h => h) g.t3
    unfold twM at h ⊢
    split at h
    · cases h
    · rename_i n
      rw [if_neg fun z => n (by
        obtain ⟨y, hy, e⟩ := List.mem_map.mp z
        exact List.mem_map.mpr ⟨y, s y hy, e⟩)]
  · exact goF_less (p := upP ss) (fun a b x s h => h) _ [] [] (fun _ h => h) g.u
theorem map_qN (z : Str) : ∀ (rs : List PaT), (rs.map ruD).filter (qR z) = (rs.filter (qN z)).map ruD := fun rs => by
  rw [List.filter_map]
  rfl
theorem map_qB (z : Str) : ∀ (bs : List PaT), (bs.map baD).filter (qB z) = (bs.filter (qN z)).map baD := fun bs => by
  rw [List.filter_map]
  rfl
end Wm
namespace Wm
open PySem L2 StX
def rIsG (K : PySem.W.Frag) (cls : Value) (d : Option Addr) (a : Addr) : List V → Hp → VK → Prop := fun xs H Q => ∃ (D dd : Addr), cls = .ref D ∧ d = some dd ∧ ExcC K D ∧ rIsX K D a dd xs H Q
theorem call_isG {X : Cx} {a : Addr} {cls : Value} {d : Option Addr} {oe : Obj} {pn : List (Addr × Obj)} (hz : Zc cls d oe) (hf : ∃ vs, oe.data = .fields vs) : CallR (X.suite a ((a, oe) :: pn)) (.builtin "isinstance") (rIsG X.K cls d a) := by
  intro pins s σ H xs us Q I r h
  obtain ⟨D, dd, rfl, rfl, C, h⟩ := h
  exact call_isX C hz hf pins s σ H xs us Q I r h
/-- e.f of the error that is held, of whatever class -/
def tXfV (K : PySem.W.Frag) (a : Addr) (cls : Value) (d : Option Addr) (f : Str) (i : Nat) : TE := fun σ H Q => ∃ v, σ[i]? = some (some v) ∧ v = .ref a ∧ ∃ (C dd : Addr) (fs : List (Str × V)) (u : V), cls = .ref C ∧ XfC K C ∧ PySem.W.findIn K (.ref C) f = some none ∧ d = some dd ∧ H dd = some (.xd fs) ∧ fs.lookup f = some u ∧ Q u H
theorem pe_xfV {X : Cx} {a : Addr} {oe : Obj} {cls : Value} {d : Option Addr} {pn : List (Addr × Obj)} {e : Expr} {pos : Pos} {n : Str} {i : Nat} (hz : Zc cls d oe) (hf : ∃ vs, oe.data = .fields vs) (he : PE (X.suite a ((a, oe) :: pn)) e (tVar i)) (hb : attributeBase e n X.env (eval e X.env) = eval e X.env := by rfl) :
    PE (X.suite a ((a, oe) :: pn)) (.Attribute e n pos) (tXfV X.K a cls d n i) := ⟨fun pins s σ H Q I h => by
  obtain ⟨v, hv, rfl, C, dd, fs, u, rfl, T, hno, rfl, hx, hl, q⟩ := h
  exact (pe_xf T hno hz hf he hb).run pins s σ H Q I ⟨_, hv, rfl, rfl, dd, fs, u, rfl, hx, hl, q⟩⟩
/-- an error class, as the law's told asks for it: which it is -/
structure ErK (K : PySem.W.Frag) (C : Nat → Addr) (W Z : Addr) (i : Nat) : Prop where
  te : PySem.W.exmOne K (.ref Z) (.ref W) = some true
  xc : ExcC K Z
  k0 : PySem.W.kitOne K (.ref Z) (.ref (C 0)) = some (decide (i = 0))
  k2 : PySem.W.kitOne K (.ref Z) (.ref (C 2)) = some (decide (i = 2))
  k3 : PySem.W.kitOne K (.ref Z) (.ref (C 3)) = some (decide (i = 3))
  k4 : PySem.W.kitOne K (.ref Z) (.ref (C 4)) = some (decide (i = 4))
  k5 : PySem.W.kitOne K (.ref Z) (.ref (C 5)) = some (decide (i = 5))
  k6 : PySem.W.kitOne K (.ref Z) (.ref (C 6)) = some (decide (i = 6))
  k7 : PySem.W.kitOne K (.ref Z) (.ref (C 7)) = some (decide (i = 7))
  k8 : PySem.W.kitOne K (.ref Z) (.ref (C 8)) = some (decide (i = 8))
  kv : PySem.W.kitOne K (.ref Z) (.type "ValueError") = some true
structure TxE (K : PySem.W.Frag) (mg : Str → Option Value) (C : Nat → Addr) (W : Addr) : Prop where
  g0 : mg "BadCount" = some (.ref (C 0))
  g2 : mg "Twice" = some (.ref (C 2))
  g3 : mg "NoSort" = some (.ref (C 3))
  g4 : mg "Upward" = some (.ref (C 4))
  g5 : mg "NoWord" = some (.ref (C 5))
  g6 : mg "NoRule" = some (.ref (C 6))
  g7 : mg "NoBar" = some (.ref (C 7))
  g8 : mg "NoMaking" = some (.ref (C 8))
  gW : mg "WhoError" = some (.ref W)
  er : ∀ i, i < 9 → i ≠ 1 → ErK K C W (C i) i
  xf : ∀ i, i < 9 → XfC K (C i)
  n0_what : PySem.W.findIn K (.ref (C 0)) "what" = some none
  n0_count : PySem.W.findIn K (.ref (C 0)) "count" = some none
  n2_name : PySem.W.findIn K (.ref (C 2)) "name" = some none
  n3_name : PySem.W.findIn K (.ref (C 3)) "name" = some none
  n4_maker : PySem.W.findIn K (.ref (C 4)) "maker" = some none
  n4_made : PySem.W.findIn K (.ref (C 4)) "made" = some none
  n5_name : PySem.W.findIn K (.ref (C 5)) "name" = some none
  n6_name : PySem.W.findIn K (.ref (C 6)) "name" = some none
  n7_name : PySem.W.findIn K (.ref (C 7)) "name" = some none
  n8_maker : PySem.W.findIn K (.ref (C 8)) "maker" = some none
  n8_made : PySem.W.findIn K (.ref (C 8)) "made" = some none
abbrev N8 : List V := [.str (PySem.Str.ofString "badcount"), .str (PySem.Str.ofString "twice"), .str (PySem.Str.ofString "nosort"), .str (PySem.Str.ofString "upward"), .str (PySem.Str.ofString "noword"), .str (PySem.Str.ofString "norule"), .str (PySem.Str.ofString "nobar"), .str (PySem.Str.ofString "nomaking")]
def tupOf : Rf → List V
  | .cnt w n => [.str (PySem.Str.ofString "badcount"), .str w, .int n]
  | .nm z => [.str (PySem.Str.ofString "noname"), .str z]
  | .tw z => [.str (PySem.Str.ofString "twice"), .str z]
  | .ns z => [.str (PySem.Str.ofString "nosort"), .str z]
  | .up a b => [.str (PySem.Str.ofString "upward"), .str a, .str b]
  | .nw z => [.str (PySem.Str.ofString "noword"), .str z]
  | .nr z => [.str (PySem.Str.ofString "norule"), .str z]
  | .nb z => [.str (PySem.Str.ofString "nobar"), .str z]
  | .nmk a b => [.str (PySem.Str.ofString "nomaking"), .str a, .str b]
theorem ix_lt (r : Rf) : ixOf r < 9 := by
  cases r <;> simp only [ixOf] <;> decide
theorem ix_ne (r : Rf) (h : ∀ z, r ≠ .nm z) : ixOf r ≠ 1 := by
  cases r <;> first | exact absurd rfl (h _) | (simp only [ixOf]; decide)
def spTld (C : Nat → Addr) : Addr → Value → Option Addr → Sp := fun a cls d vs H Q _ => vs = [.ref a] ∧ ∃ (dd : Addr) (r : Rf), d = some dd ∧ cls = .ref (C (ixOf r)) ∧ H dd = some (.xd (fsOf r)) ∧ (∀ z, r ≠ .nm z) ∧ ∀ t H', Same H H' → H t = none → H' t = some (.tup (tupOf r)) → Q (.ref t) H'
def b2i (b : Bool) : Int := if b then 1 else 0
section
variable {P : Program} {w : World} {K : PySem.W.Frag} {mg : Str → Option Value} {base : Heap} {C : Nat → Addr}
theorem scTld : FnScope ["_law_e", "_law_some", "_law_names_here", "_law_one"] ["_law_e"] (defScope sTld) := ⟨rfl, rfl, rfl, by decide +kernel, rfl, by decide +kernel, by decide +kernel⟩
theorem ok_tld {f W : Addr} {fd : FuncData} (F : Fun K "_law_told" "_law_told" sTld f fd) (T : TxB mg) (tsum : mg "sum" = none) (TE : TxE K mg C W) : FnEN P w K mg base 1 f fd ["_law_e"] (spTld C) := by
  refine FunEN_ok F scTld (fun a cls d vs H Q E h => ?_) (fun cdv A outer s H vs Q E a oe cls d hz hf hr h => ?_)
  · obtain ⟨rfl, _⟩ := h
    rfl
  · obtain ⟨rfl, dd, r, rfl, rfl, hx, nn, k⟩ := h
    obtain ⟨vf, hv⟩ := id hf
    have hn : vf[2]? = some .none := hz.2.2 vf hv
    refine ⟨_, (pss_cons (ps_set (i := 1) scTld.nd rfl (Or.inl rfl) (pe_lst (pa_cons (pe_callB (call_isG hz.zc hf) (by rfl) T.isinstance (by decide +kernel) (pa_cons (pv 0) (pa_cons (pe_glob (v := .ref (C 0)) (by rfl) TE.g0 rfl) pa_nil))) (pa_cons (pe_callB (call_isG hz.zc hf) (by rfl) T.isinstance (by decide +kernel) (pa_cons (pv 0) (pa_cons (pe_glob (v := .ref (C 2)) (by rfl) TE.g2 rfl) pa_nil))) (pa_cons (pe_callB (call_isG hz.zc hf) (by rfl) T.isinstance (by decide +kernel) (pa_cons (pv 0) (pa_cons (pe_glob (v := .ref (C 3)) (by rfl) TE.g3 rfl) pa_nil))) (pa_cons (pe_callB (call_isG hz.zc hf) (by rfl) T.isinstance (by decide +kernel) (pa_cons (pv 0) (pa_cons (pe_glob (v := .ref (C 4)) (by rfl) TE.g4 rfl) pa_nil))) pa_nil))))))
      (pss_cons (ps_set (i := 1) scTld.nd rfl (Or.inl rfl) (pe_op op_cat (pv 1) (pe_lst (pa_cons (pe_callB (call_isG hz.zc hf) (by rfl) T.isinstance (by decide +kernel) (pa_cons (pv 0) (pa_cons (pe_glob (v := .ref (C 5)) (by rfl) TE.g5 rfl) pa_nil))) (pa_cons (pe_callB (call_isG hz.zc hf) (by rfl) T.isinstance (by decide +kernel) (pa_cons (pv 0) (pa_cons (pe_glob (v := .ref (C 6)) (by rfl) TE.g6 rfl) pa_nil))) (pa_cons (pe_callB (call_isG hz.zc hf) (by rfl) T.isinstance (by decide +kernel) (pa_cons (pv 0) (pa_cons (pe_glob (v := .ref (C 7)) (by rfl) TE.g7 rfl) pa_nil))) (pa_cons (pe_callB (call_isG hz.zc hf) (by rfl) T.isinstance (by decide +kernel) (pa_cons (pv 0) (pa_cons (pe_glob (v := .ref (C 8)) (by rfl) TE.g8 rfl) pa_nil))) pa_nil)))))))
      (pss_cons (ps_if (PW.pt (pw_or (pt_cmpR op_ne (pe_callB (cr_sumH hv hn) (by rfl) tsum (by decide +kernel) (pa_cons (pe_lcH (own := [("_law_one", 3)]) (g := gName 3) rfl List.mem_cons_self hv hn scTld.nd (pv 1) (blkOk_by (N := ["_law_e", "_law_some", "_law_names_here", "_law_one"]) (sc := defScope sTld) (by decide +kernel)) (fun _ _ _ _ _ => (pg_name (i := 3) scTld.nd rfl (Or.inl rfl))) (fun _ _ _ _ _ => (pe_callTy call_int1 (by rfl) T.int (by decide +kernel) (pa_cons (pv 3) pa_nil)))) pa_nil)) pe_int (nomark _)) (pw_or1 (pt_not (pt_val (pe_callB (call_isG hz.zc hf) (by rfl) T.isinstance (by decide +kernel) (pa_cons (pv 0) (pa_cons (pe_bltn (v := .ty "ValueError") (by rfl) T.ve (by decide +kernel) rfl) pa_nil)))))))) (pss_one (ps_ret (pe_tup (pa_cons pe_str pa_nil)))) pss_nil)
      (pss_cons (ps_if (pt_val (pe_ix ix_list (pv 1) pe_int (fun _ _ => rfl))) (pss_one (ps_ret (pe_tup (pa_cons pe_str (pa_cons (pe_xfV hz.zc hf (pv 0)) (pa_cons (pe_xfV hz.zc hf (pv 0)) pa_nil)))))) pss_nil)
      (pss_cons (ps_if (PW.pt (pw_or (pt_val (pe_ix ix_list (pv 1) pe_int (fun _ _ => rfl))) (pw_or1 (pt_val (pe_ix ix_list (pv 1) pe_int (fun _ _ => rfl)))))) (pss_one (ps_ret (pe_tup (pa_cons (pe_ix ix_list (pe_lst (pa_cons pe_str (pa_cons pe_str pa_nil))) (pe_callTy call_int1 (by rfl) T.int (by decide +kernel) (pa_cons (pe_ix ix_list (pv 1) pe_int (fun _ _ => rfl)) pa_nil)) (fun _ _ => rfl)) (pa_cons (pe_xfV hz.zc hf (pv 0)) (pa_cons (pe_xfV hz.zc hf (pv 0)) pa_nil)))))) pss_nil)
      (pss_cons (ps_set (i := 2) scTld.nd rfl (Or.inl rfl) (pe_lst (pa_cons pe_str (pa_cons pe_str (pa_cons pe_str (pa_cons pe_str (pa_cons pe_str (pa_cons pe_str (pa_cons pe_str (pa_cons pe_str pa_nil))))))))))
      (pss_one (ps_ret (pe_tup (pa_cons (pe_ix ix_list (pv 2) (pe_bm PySem.F.plainAttrs_list PySem.F.slot_list_index PySem.F.type_list_index mt_index (pv 1) (pa_cons pe_bl pa_nil)) (fun _ _ => rfl)) (pa_cons (pe_xfV hz.zc hf (pv 0)) pa_nil))))))))))), ?_⟩
    rw [show L2.start ["_law_e", "_law_some", "_law_names_here", "_law_one"] [V.ref a] = [some (.ref a), none, none, none] from rfl]
    have EZ := TE.er (ixOf r) (ix_lt r) (ix_ne r nn)
    have one : ∀ {i : Nat}, i < 9 → i ≠ 1 → (([decide (i = 0), decide (i = 2), decide (i = 3), decide (i = 4), decide (i = 5), decide (i = 6), decide (i = 7), decide (i = 8)] : List Bool).map b2i).sum = 1 := by
      intro i hi ni
      rcases (by omega : i = 0 ∨ i = 2 ∨ i = 3 ∨ i = 4 ∨ i = 5 ∨ i = 6 ∨ i = 7 ∨ i = 8) with rfl | rfl | rfl | rfl | rfl | rfl | rfl | rfl <;> decide
    have one := one (ix_lt r) (ix_ne r nn)
    generalize hZ : C (ixOf r) = Z at EZ
    generalize hi : ixOf r = i at EZ one hZ
    refine ⟨_, rfl, Z, dd, rfl, rfl, EZ.xc, _, _, _, _, rfl, hx, (fun u r => r), EZ.k0, ?_⟩
    refine ⟨_, rfl, Z, dd, rfl, rfl, EZ.xc, _, _, _, _, rfl, hx, (fun u r => r), EZ.k2, ?_⟩
    refine ⟨_, rfl, Z, dd, rfl, rfl, EZ.xc, _, _, _, _, rfl, hx, (fun u r => r), EZ.k3, ?_⟩
    refine ⟨_, rfl, Z, dd, rfl, rfl, EZ.xc, _, _, _, _, rfl, hx, (fun u r => r), EZ.k4, ?_⟩
    refine ⟨by show 4 ≤ sizeLine; decide, fun l0 hl0 => ?_⟩
    dsimp only [gName, List.set_cons_succ, List.set_cons_zero]
    have S0 : Same H (upd H l0 (.lst [.bl (decide (i = 0)), .bl (decide (i = 2)), .bl (decide (i = 3)), .bl (decide (i = 4))])) := Same.upd hl0
    have e0 : (upd H l0 (.lst [.bl (decide (i = 0)), .bl (decide (i = 2)), .bl (decide (i = 3)), .bl (decide (i = 4))])) l0 = some (.lst [.bl (decide (i = 0)), .bl (decide (i = 2)), .bl (decide (i = 3)), .bl (decide (i = 4))]) := upd_same
    generalize upd H l0 (.lst [.bl (decide (i = 0)), .bl (decide (i = 2)), .bl (decide (i = 3)), .bl (decide (i = 4))]) = G0 at S0 e0
    have hx0 := S0 _ _ hx
    refine ⟨_, rfl, ?_⟩
    refine ⟨_, rfl, Z, dd, rfl, rfl, EZ.xc, _, _, _, _, rfl, hx0, (fun u r => r), EZ.k5, ?_⟩
    refine ⟨_, rfl, Z, dd, rfl, rfl, EZ.xc, _, _, _, _, rfl, hx0, (fun u r => r), EZ.k6, ?_⟩
    refine ⟨_, rfl, Z, dd, rfl, rfl, EZ.xc, _, _, _, _, rfl, hx0, (fun u r => r), EZ.k7, ?_⟩
    refine ⟨_, rfl, Z, dd, rfl, rfl, EZ.xc, _, _, _, _, rfl, hx0, (fun u r => r), EZ.k8, ?_⟩
    refine ⟨by show 4 ≤ sizeLine; decide, fun l1 hl1 => ?_⟩
    have S1 : Same G0 (upd G0 l1 (.lst [.bl (decide (i = 5)), .bl (decide (i = 6)), .bl (decide (i = 7)), .bl (decide (i = 8))])) := Same.upd hl1
    have e1 : (upd G0 l1 (.lst [.bl (decide (i = 5)), .bl (decide (i = 6)), .bl (decide (i = 7)), .bl (decide (i = 8))])) l1 = some (.lst [.bl (decide (i = 5)), .bl (decide (i = 6)), .bl (decide (i = 7)), .bl (decide (i = 8))]) := upd_same
    have e01 := S1 _ _ e0
    have S01 := S0.trans S1
    generalize upd G0 l1 (.lst [.bl (decide (i = 5)), .bl (decide (i = 6)), .bl (decide (i = 7)), .bl (decide (i = 8))]) = G1 at S1 e1 e01 S01
    refine ⟨l0, l1, _, _, rfl, rfl, e01, e1, by show 8 ≤ sizeLine; decide, fun l hl => ?_⟩
    dsimp only [gName, List.set_cons_succ, List.set_cons_zero]
    have S4 : Same G1 (upd G1 l (.lst ([.bl (decide (i = 0)), .bl (decide (i = 2)), .bl (decide (i = 3)), .bl (decide (i = 4))] ++ [.bl (decide (i = 5)), .bl (decide (i = 6)), .bl (decide (i = 7)), .bl (decide (i = 8))]))) := Same.upd hl
    have el : (upd G1 l (.lst ([.bl (decide (i = 0)), .bl (decide (i = 2)), .bl (decide (i = 3)), .bl (decide (i = 4))] ++ [.bl (decide (i = 5)), .bl (decide (i = 6)), .bl (decide (i = 7)), .bl (decide (i = 8))]))) l = some (.lst [.bl (decide (i = 0)), .bl (decide (i = 2)), .bl (decide (i = 3)), .bl (decide (i = 4)), .bl (decide (i = 5)), .bl (decide (i = 6)), .bl (decide (i = 7)), .bl (decide (i = 8))]) := upd_same
    have S1 := S01.trans S4
    generalize upd G1 l (.lst ([.bl (decide (i = 0)), .bl (decide (i = 2)), .bl (decide (i = 3)), .bl (decide (i = 4))] ++ [.bl (decide (i = 5)), .bl (decide (i = 6)), .bl (decide (i = 7)), .bl (decide (i = 8))])) = H1 at S4 el S1
    refine ⟨_, rfl, l, _, rfl, SqL.of el, fun Dl hD => ⟨fun j H' => H' Dl = some (.lst ((([decide (i = 0), decide (i = 2), decide (i = 3), decide (i = 4), decide (i = 5), decide (i = 6), decide (i = 7), decide (i = 8)].take j).map b2i).map V.int)) ∧ Same H1 H', ⟨upd_same, Same.upd hD⟩, fun j H' p => SqL.of (p.2 _ _ el), ?_, ?_⟩⟩
    · rintro j x H' hxj ⟨hj, sj⟩
      obtain ⟨b, hb, rfl⟩ : ∃ b, ([decide (i = 0), decide (i = 2), decide (i = 3), decide (i = 4), decide (i = 5), decide (i = 6), decide (i = 7), decide (i = 8)] : List Bool)[j]? = some b ∧ V.bl b = x := by
        have hxj : (([decide (i = 0), decide (i = 2), decide (i = 3), decide (i = 4), decide (i = 5), decide (i = 6), decide (i = 7), decide (i = 8)] : List Bool).map V.bl)[j]? = some x := hxj
        rw [List.getElem?_map] at hxj
        exact Option.map_eq_some_iff.mp hxj
      refine ⟨rfl, ⟨_, rfl, .inr ⟨b, rfl, _, hj, ?_, ?_, ?_⟩⟩⟩
      · rw [List.length_map, List.length_map, List.length_take]
        exact Nat.lt_of_le_of_lt (show min j 8 ≤ 8 from Nat.min_le_right _ _) (by decide)
      · rw [upd_same, List.take_add_one, hb, List.map_append, List.map_append]
        rfl
      · intro q o z
        rw [upd_ne (ne_of_none z hD)]
        exact sj q o z
    rintro H2 ⟨hj, s2⟩
    have hj : H2 Dl = some (.lst ((([decide (i = 0), decide (i = 2), decide (i = 3), decide (i = 4), decide (i = 5), decide (i = 6), decide (i = 7), decide (i = 8)] : List Bool).map b2i).map V.int)) := hj
    refine ⟨Dl, _, rfl, SqL.of hj, rfl, _, rfl, ?_⟩
    rw [one]
    refine ite2 (fun q => absurd q (by simp)) (fun _ => ?_)
    have S2 := S1.trans s2
    have hx2 := S2 _ _ hx
    refine ⟨_, rfl, Z, dd, rfl, rfl, EZ.xc, _, _, _, _, rfl, hx2, (fun u r => by cases r; rfl), EZ.kv, _, rfl, ?_⟩
    refine iteF ?_
    have el2 := s2 _ _ el
    subst hZ
    subst hi
    match r, hx2, k, el2, nn with
    | .cnt w n, hx2, k, el2, _ =>
      have el3 : H2 l = some (.lst [.bl true, .bl false, .bl false, .bl false, .bl false, .bl false, .bl false, .bl false]) := el2
      refine ⟨_, rfl, ?_⟩
      dsimp only [tC]
      refine rdList el3 (j := 0) rfl rfl ⟨_, rfl, ?_⟩
      refine iteT ?_
      refine ⟨_, rfl, rfl, _, dd, _, _, rfl, TE.xf 0 (by decide), TE.n0_what, rfl, hx2, rfl, _, rfl, rfl, _, dd, _, _, rfl, TE.xf 0 (by decide), TE.n0_count, rfl, hx2, rfl, ?_⟩
      exact ⟨by show 3 ≤ sizeLine; decide, fun t nt => k t _ (S2.trans (Same.upd nt)) (S2.free nt) upd_same⟩
    | .tw z, hx2, k, el2, _ =>
      have el3 : H2 l = some (.lst [.bl false, .bl true, .bl false, .bl false, .bl false, .bl false, .bl false, .bl false]) := el2
      refine ⟨_, rfl, ?_⟩
      dsimp only [tC]
      refine rdList el3 (j := 0) rfl rfl ⟨_, rfl, ?_⟩
      refine iteF ?_
      refine ⟨_, rfl, ?_⟩
      dsimp only [tC]
      refine rdList el3 (j := 3) rfl rfl ⟨_, rfl, ?_⟩
      refine iteF ?_
      refine ⟨_, rfl, ?_⟩
      dsimp only [tC]
      refine rdList el3 (j := 7) rfl rfl ⟨_, rfl, ?_⟩
      refine iteF ?_
      refine ⟨by show 8 ≤ sizeLine; decide, fun ln hln => ?_⟩
      dsimp only [gName, List.set_cons_succ, List.set_cons_zero]
      have Su := S2.trans (Same.upd (o := .lst N8) hln)
      have el4 := (Same.upd (o := .lst N8) hln) _ _ el3
      have en : (upd H2 ln (.lst N8)) ln = some (.lst N8) := upd_same
      have hx2 := (Same.upd (o := .lst N8) hln) _ _ hx2
      rw [show [V.str (PySem.Str.ofString "badcount"), V.str (PySem.Str.ofString "twice"), V.str (PySem.Str.ofString "nosort"), V.str (PySem.Str.ofString "upward"), V.str (PySem.Str.ofString "noword"), V.str (PySem.Str.ofString "norule"), V.str (PySem.Str.ofString "nobar"), V.str (PySem.Str.ofString "nomaking")] = N8 from rfl]
      generalize upd H2 ln (.lst N8) = H3 at Su el4 en hx2
      refine ⟨_, rfl, _, rfl, .inl ⟨rfl, _, SqL.of el4⟩, ?_⟩
      dsimp only [tC]
      refine ⟨l, _, .bl true, 1, .bl true, rfl, rfl, SqL.of el4, rfl, rfl, rfl, rfl, ?_, ?_⟩
      · intro m z' hm hz
        rcases (by omega : m = 0) with rfl <;> (cases hz; rfl)
      refine rdList en (j := 1) rfl rfl ?_
      refine ⟨_, rfl, rfl, _, dd, _, _, rfl, TE.xf 2 (by decide), TE.n2_name, rfl, hx2, rfl, ?_⟩
      exact ⟨by show 2 ≤ sizeLine; decide, fun t nt => k t _ (Su.trans (Same.upd nt)) (Su.free nt) upd_same⟩
    | .ns z, hx2, k, el2, _ =>
      have el3 : H2 l = some (.lst [.bl false, .bl false, .bl true, .bl false, .bl false, .bl false, .bl false, .bl false]) := el2
      refine ⟨_, rfl, ?_⟩
      dsimp only [tC]
      refine rdList el3 (j := 0) rfl rfl ⟨_, rfl, ?_⟩
      refine iteF ?_
      refine ⟨_, rfl, ?_⟩
      dsimp only [tC]
      refine rdList el3 (j := 3) rfl rfl ⟨_, rfl, ?_⟩
      refine iteF ?_
      refine ⟨_, rfl, ?_⟩
      dsimp only [tC]
      refine rdList el3 (j := 7) rfl rfl ⟨_, rfl, ?_⟩
      refine iteF ?_
      refine ⟨by show 8 ≤ sizeLine; decide, fun ln hln => ?_⟩
      dsimp only [gName, List.set_cons_succ, List.set_cons_zero]
      have Su := S2.trans (Same.upd (o := .lst N8) hln)
      have el4 := (Same.upd (o := .lst N8) hln) _ _ el3
      have en : (upd H2 ln (.lst N8)) ln = some (.lst N8) := upd_same
      have hx2 := (Same.upd (o := .lst N8) hln) _ _ hx2
      rw [show [V.str (PySem.Str.ofString "badcount"), V.str (PySem.Str.ofString "twice"), V.str (PySem.Str.ofString "nosort"), V.str (PySem.Str.ofString "upward"), V.str (PySem.Str.ofString "noword"), V.str (PySem.Str.ofString "norule"), V.str (PySem.Str.ofString "nobar"), V.str (PySem.Str.ofString "nomaking")] = N8 from rfl]
      generalize upd H2 ln (.lst N8) = H3 at Su el4 en hx2
      refine ⟨_, rfl, _, rfl, .inl ⟨rfl, _, SqL.of el4⟩, ?_⟩
      dsimp only [tC]
      refine ⟨l, _, .bl true, 2, .bl true, rfl, rfl, SqL.of el4, rfl, rfl, rfl, rfl, ?_, ?_⟩
      · intro m z' hm hz
        rcases (by omega : m = 0 ∨ m = 1) with rfl | rfl <;> (cases hz; rfl)
      refine rdList en (j := 2) rfl rfl ?_
      refine ⟨_, rfl, rfl, _, dd, _, _, rfl, TE.xf 3 (by decide), TE.n3_name, rfl, hx2, rfl, ?_⟩
      exact ⟨by show 2 ≤ sizeLine; decide, fun t nt => k t _ (Su.trans (Same.upd nt)) (Su.free nt) upd_same⟩
    | .up a b, hx2, k, el2, _ =>
      have el3 : H2 l = some (.lst [.bl false, .bl false, .bl false, .bl true, .bl false, .bl false, .bl false, .bl false]) := el2
      refine ⟨_, rfl, ?_⟩
      dsimp only [tC]
      refine rdList el3 (j := 0) rfl rfl ⟨_, rfl, ?_⟩
      refine iteF ?_
      refine ⟨_, rfl, ?_⟩
      dsimp only [tC]
      refine rdList el3 (j := 3) rfl rfl ⟨_, rfl, ?_⟩
      refine iteT ?_
      refine ⟨by show 2 ≤ sizeLine; decide, fun lu hlu => ?_⟩
      have Su := S2.trans (Same.upd (o := .lst [.str (PySem.Str.ofString "upward"), .str (PySem.Str.ofString "nomaking")]) hlu)
      have el4 := (Same.upd (o := .lst [.str (PySem.Str.ofString "upward"), .str (PySem.Str.ofString "nomaking")]) hlu) _ _ el3
      have eu : (upd H2 lu (.lst [.str (PySem.Str.ofString "upward"), .str (PySem.Str.ofString "nomaking")])) lu = some (.lst [.str (PySem.Str.ofString "upward"), .str (PySem.Str.ofString "nomaking")]) := upd_same
      have hx2 := (Same.upd (o := .lst [.str (PySem.Str.ofString "upward"), .str (PySem.Str.ofString "nomaking")]) hlu) _ _ hx2
      generalize upd H2 lu (.lst [.str (PySem.Str.ofString "upward"), .str (PySem.Str.ofString "nomaking")]) = H3 at Su el4 eu hx2
      refine ⟨_, rfl, ?_⟩
      dsimp only [tC]
      refine rdList el4 (j := 7) rfl rfl (.inr ⟨_, rfl, ?_⟩)
      refine rdList eu (j := 0) rfl rfl ?_
      refine ⟨_, rfl, rfl, _, dd, _, _, rfl, TE.xf 4 (by decide), TE.n4_maker, rfl, hx2, rfl, _, rfl, rfl, _, dd, _, _, rfl, TE.xf 4 (by decide), TE.n4_made, rfl, hx2, rfl, ?_⟩
      exact ⟨by show 3 ≤ sizeLine; decide, fun t nt => k t _ (Su.trans (Same.upd nt)) (Su.free nt) upd_same⟩
    | .nw z, hx2, k, el2, _ =>
      have el3 : H2 l = some (.lst [.bl false, .bl false, .bl false, .bl false, .bl true, .bl false, .bl false, .bl false]) := el2
      refine ⟨_, rfl, ?_⟩
      dsimp only [tC]
      refine rdList el3 (j := 0) rfl rfl ⟨_, rfl, ?_⟩
      refine iteF ?_
      refine ⟨_, rfl, ?_⟩
      dsimp only [tC]
      refine rdList el3 (j := 3) rfl rfl ⟨_, rfl, ?_⟩
      refine iteF ?_
      refine ⟨_, rfl, ?_⟩
      dsimp only [tC]
      refine rdList el3 (j := 7) rfl rfl ⟨_, rfl, ?_⟩
      refine iteF ?_
      refine ⟨by show 8 ≤ sizeLine; decide, fun ln hln => ?_⟩
      dsimp only [gName, List.set_cons_succ, List.set_cons_zero]
      have Su := S2.trans (Same.upd (o := .lst N8) hln)
      have el4 := (Same.upd (o := .lst N8) hln) _ _ el3
      have en : (upd H2 ln (.lst N8)) ln = some (.lst N8) := upd_same
      have hx2 := (Same.upd (o := .lst N8) hln) _ _ hx2
      rw [show [V.str (PySem.Str.ofString "badcount"), V.str (PySem.Str.ofString "twice"), V.str (PySem.Str.ofString "nosort"), V.str (PySem.Str.ofString "upward"), V.str (PySem.Str.ofString "noword"), V.str (PySem.Str.ofString "norule"), V.str (PySem.Str.ofString "nobar"), V.str (PySem.Str.ofString "nomaking")] = N8 from rfl]
      generalize upd H2 ln (.lst N8) = H3 at Su el4 en hx2
      refine ⟨_, rfl, _, rfl, .inl ⟨rfl, _, SqL.of el4⟩, ?_⟩
      dsimp only [tC]
      refine ⟨l, _, .bl true, 4, .bl true, rfl, rfl, SqL.of el4, rfl, rfl, rfl, rfl, ?_, ?_⟩
      · intro m z' hm hz
        rcases (by omega : m = 0 ∨ m = 1 ∨ m = 2 ∨ m = 3) with rfl | rfl | rfl | rfl <;> (cases hz; rfl)
      refine rdList en (j := 4) rfl rfl ?_
      refine ⟨_, rfl, rfl, _, dd, _, _, rfl, TE.xf 5 (by decide), TE.n5_name, rfl, hx2, rfl, ?_⟩
      exact ⟨by show 2 ≤ sizeLine; decide, fun t nt => k t _ (Su.trans (Same.upd nt)) (Su.free nt) upd_same⟩
    | .nr z, hx2, k, el2, _ =>
      have el3 : H2 l = some (.lst [.bl false, .bl false, .bl false, .bl false, .bl false, .bl true, .bl false, .bl false]) := el2
      refine ⟨_, rfl, ?_⟩
      dsimp only [tC]
      refine rdList el3 (j := 0) rfl rfl ⟨_, rfl, ?_⟩
      refine iteF ?_
      refine ⟨_, rfl, ?_⟩
      dsimp only [tC]
      refine rdList el3 (j := 3) rfl rfl ⟨_, rfl, ?_⟩
      refine iteF ?_
      refine ⟨_, rfl, ?_⟩
      dsimp only [tC]
      refine rdList el3 (j := 7) rfl rfl ⟨_, rfl, ?_⟩
      refine iteF ?_
      refine ⟨by show 8 ≤ sizeLine; decide, fun ln hln => ?_⟩
      dsimp only [gName, List.set_cons_succ, List.set_cons_zero]
      have Su := S2.trans (Same.upd (o := .lst N8) hln)
      have el4 := (Same.upd (o := .lst N8) hln) _ _ el3
      have en : (upd H2 ln (.lst N8)) ln = some (.lst N8) := upd_same
      have hx2 := (Same.upd (o := .lst N8) hln) _ _ hx2
      rw [show [V.str (PySem.Str.ofString "badcount"), V.str (PySem.Str.ofString "twice"), V.str (PySem.Str.ofString "nosort"), V.str (PySem.Str.ofString "upward"), V.str (PySem.Str.ofString "noword"), V.str (PySem.Str.ofString "norule"), V.str (PySem.Str.ofString "nobar"), V.str (PySem.Str.ofString "nomaking")] = N8 from rfl]
      generalize upd H2 ln (.lst N8) = H3 at Su el4 en hx2
      refine ⟨_, rfl, _, rfl, .inl ⟨rfl, _, SqL.of el4⟩, ?_⟩
      dsimp only [tC]
      refine ⟨l, _, .bl true, 5, .bl true, rfl, rfl, SqL.of el4, rfl, rfl, rfl, rfl, ?_, ?_⟩
      · intro m z' hm hz
        rcases (by omega : m = 0 ∨ m = 1 ∨ m = 2 ∨ m = 3 ∨ m = 4) with rfl | rfl | rfl | rfl | rfl <;> (cases hz; rfl)
      refine rdList en (j := 5) rfl rfl ?_
      refine ⟨_, rfl, rfl, _, dd, _, _, rfl, TE.xf 6 (by decide), TE.n6_name, rfl, hx2, rfl, ?_⟩
      exact ⟨by show 2 ≤ sizeLine; decide, fun t nt => k t _ (Su.trans (Same.upd nt)) (Su.free nt) upd_same⟩
    | .nb z, hx2, k, el2, _ =>
      have el3 : H2 l = some (.lst [.bl false, .bl false, .bl false, .bl false, .bl false, .bl false, .bl true, .bl false]) := el2
      refine ⟨_, rfl, ?_⟩
      dsimp only [tC]
      refine rdList el3 (j := 0) rfl rfl ⟨_, rfl, ?_⟩
      refine iteF ?_
      refine ⟨_, rfl, ?_⟩
      dsimp only [tC]
      refine rdList el3 (j := 3) rfl rfl ⟨_, rfl, ?_⟩
      refine iteF ?_
      refine ⟨_, rfl, ?_⟩
      dsimp only [tC]
      refine rdList el3 (j := 7) rfl rfl ⟨_, rfl, ?_⟩
      refine iteF ?_
      refine ⟨by show 8 ≤ sizeLine; decide, fun ln hln => ?_⟩
      dsimp only [gName, List.set_cons_succ, List.set_cons_zero]
      have Su := S2.trans (Same.upd (o := .lst N8) hln)
      have el4 := (Same.upd (o := .lst N8) hln) _ _ el3
      have en : (upd H2 ln (.lst N8)) ln = some (.lst N8) := upd_same
      have hx2 := (Same.upd (o := .lst N8) hln) _ _ hx2
      rw [show [V.str (PySem.Str.ofString "badcount"), V.str (PySem.Str.ofString "twice"), V.str (PySem.Str.ofString "nosort"), V.str (PySem.Str.ofString "upward"), V.str (PySem.Str.ofString "noword"), V.str (PySem.Str.ofString "norule"), V.str (PySem.Str.ofString "nobar"), V.str (PySem.Str.ofString "nomaking")] = N8 from rfl]
      generalize upd H2 ln (.lst N8) = H3 at Su el4 en hx2
      refine ⟨_, rfl, _, rfl, .inl ⟨rfl, _, SqL.of el4⟩, ?_⟩
      dsimp only [tC]
      refine ⟨l, _, .bl true, 6, .bl true, rfl, rfl, SqL.of el4, rfl, rfl, rfl, rfl, ?_, ?_⟩
      · intro m z' hm hz
        rcases (by omega : m = 0 ∨ m = 1 ∨ m = 2 ∨ m = 3 ∨ m = 4 ∨ m = 5) with rfl | rfl | rfl | rfl | rfl | rfl <;> (cases hz; rfl)
      refine rdList en (j := 6) rfl rfl ?_
      refine ⟨_, rfl, rfl, _, dd, _, _, rfl, TE.xf 7 (by decide), TE.n7_name, rfl, hx2, rfl, ?_⟩
      exact ⟨by show 2 ≤ sizeLine; decide, fun t nt => k t _ (Su.trans (Same.upd nt)) (Su.free nt) upd_same⟩
    | .nmk a b, hx2, k, el2, _ =>
      have el3 : H2 l = some (.lst [.bl false, .bl false, .bl false, .bl false, .bl false, .bl false, .bl false, .bl true]) := el2
      refine ⟨_, rfl, ?_⟩
      dsimp only [tC]
      refine rdList el3 (j := 0) rfl rfl ⟨_, rfl, ?_⟩
      refine iteF ?_
      refine ⟨_, rfl, ?_⟩
      dsimp only [tC]
      refine rdList el3 (j := 3) rfl rfl ⟨_, rfl, ?_⟩
      refine iteF ?_
      refine ⟨_, rfl, ?_⟩
      dsimp only [tC]
      refine rdList el3 (j := 7) rfl rfl ⟨_, rfl, ?_⟩
      refine iteT ?_
      refine ⟨by show 2 ≤ sizeLine; decide, fun lu hlu => ?_⟩
      have Su := S2.trans (Same.upd (o := .lst [.str (PySem.Str.ofString "upward"), .str (PySem.Str.ofString "nomaking")]) hlu)
      have el4 := (Same.upd (o := .lst [.str (PySem.Str.ofString "upward"), .str (PySem.Str.ofString "nomaking")]) hlu) _ _ el3
      have eu : (upd H2 lu (.lst [.str (PySem.Str.ofString "upward"), .str (PySem.Str.ofString "nomaking")])) lu = some (.lst [.str (PySem.Str.ofString "upward"), .str (PySem.Str.ofString "nomaking")]) := upd_same
      have hx2 := (Same.upd (o := .lst [.str (PySem.Str.ofString "upward"), .str (PySem.Str.ofString "nomaking")]) hlu) _ _ hx2
      generalize upd H2 lu (.lst [.str (PySem.Str.ofString "upward"), .str (PySem.Str.ofString "nomaking")]) = H3 at Su el4 eu hx2
      refine ⟨_, rfl, ?_⟩
      dsimp only [tC]
      refine rdList el4 (j := 7) rfl rfl (.inr ⟨_, rfl, ?_⟩)
      refine rdList eu (j := 1) rfl rfl ?_
      refine ⟨_, rfl, rfl, _, dd, _, _, rfl, TE.xf 8 (by decide), TE.n8_maker, rfl, hx2, rfl, _, rfl, rfl, _, dd, _, _, rfl, TE.xf 8 (by decide), TE.n8_made, rfl, hx2, rfl, ?_⟩
      exact ⟨by show 3 ≤ sizeLine; decide, fun t nt => k t _ (Su.trans (Same.upd nt)) (Su.free nt) upd_same⟩
    | .nm z, _, _, _, nn => exact absurd rfl (nn z)
end
end Wm
namespace Wm
open PySem L2 StX
def NotSt (o : HO) : Prop := ∀ x y z : Int, o ≠ .lst [.int x, .int y, .int z]
def Kp (H H' : Hp) : Prop := ∀ a o, NotSt o → H a = some o → H' a = some o
theorem Kp.refl (H : Hp) : Kp H H := fun _ _ _ h => h
theorem Kp.trans {H H1 H2 : Hp} (a : Kp H H1) (b : Kp H1 H2) : Kp H H2 := fun c o n h => b c o n (a c o n h)
theorem Same.kp {H H' : Hp} (s : Same H H') : Kp H H' := fun a o _ h => s a o h
theorem But.kp {p : Addr} {H H' : Hp} (b : But p H H') (s : StOk H p) : Kp H H' := fun a o n h => by
  obtain ⟨x, y, z, e, _⟩ := s
  refine b a o (fun q => ?_) h
  rw [q, e] at h
  exact n x y z (Option.some.inj h).symm
theorem Kp.new {D : Addr} {H H' : Hp} {o : HO} (k : Kp H H') (h : H D = none) : Kp H (upd H' D o) := fun a u n e => by
  rw [upd_ne (ne_of_none e h)]
  exact k a u n e
theorem ns_tup {xs : List V} : NotSt (.tup xs) := fun _ _ _ z => by cases z
theorem ns_dK {xs : List (L2.Key × V)} : NotSt (.dK xs) := fun _ _ _ z => by cases z
theorem ns_ins {C d : Addr} {fs : List (Str × V)} : NotSt (.ins C d fs) := fun _ _ _ z => by cases z
theorem ns_strs {xs : List Str} : NotSt (.lst (xs.map V.str)) := fun _ _ _ z => by
  cases xs with
  | nil => cases z
  | cons a r =>
    have e := HO.lst.inj z
    rw [List.map_cons] at e
    cases (List.cons.inj e).1
theorem ns_refs {xs : List Addr} : NotSt (.lst (xs.map V.ref)) := fun _ _ _ z => by
  cases xs with
  | nil => cases z
  | cons a r =>
    have e := HO.lst.inj z
    rw [List.map_cons] at e
    cases (List.cons.inj e).1
theorem ns_nil : NotSt (.lst []) := fun _ _ _ z => by cases z
theorem ns_frz {ob : Obj} {u : HO} : NotSt (.frz ob u) := fun _ _ _ z => by cases z
theorem Kp.sqT {K : PySem.W.Frag} {H H' : Hp} {a : Addr} {xs : List V} (e : Kp H H') (h : SqT K H a xs) : SqT K H' a xs := by
  rcases h with (h | ⟨o, h⟩) | h
  · exact .inl (.inl (e _ _ ns_tup h))
  · exact .inl (.inr ⟨o, e _ _ ns_frz h⟩)
  · exact .inr h
theorem Kp.rows {K : PySem.W.Frag} {H H' : Hp} (e : Kp H H') {ps : List Addr} {rs : List (List V)} (h : RowsAt K H ps rs) : RowsAt K H' ps rs := rows_imp (fun q => e.sqT q) h
/-- a list is written: tuples stand -/
theorem sqT_put {K : PySem.W.Frag} {H : Hp} {l a : Addr} {ys : List V} {o : HO} {xs : List V} (hl : H l = some (.lst ys)) (h : SqT K H a xs) : SqT K (upd H l o) a xs := by
  rcases h with (h | ⟨ob, h⟩) | h
  · exact .inl (.inl (by rw [upd_ne (ne_of h hl (by intro z; cases z))]; exact h))
  · exact .inl (.inr ⟨ob, by rw [upd_ne (ne_of h hl (by intro z; cases z))]; exact h⟩)
  · exact .inr h
theorem rows_put {K : PySem.W.Frag} {H : Hp} {l : Addr} {ys : List V} {o : HO} (hl : H l = some (.lst ys)) {ps : List Addr} {rs : List (List V)} (h : RowsAt K H ps rs) : RowsAt K (upd H l o) ps rs := rows_imp (fun q => sqT_put hl q) h
theorem But.ne {p a : Addr} {H : Hp} {o : HO} (s : StOk H p) (h : H a = some o) (n : NotSt o) : a ≠ p := fun q => by
  obtain ⟨x, y, z, e, _⟩ := s
  rw [q, e] at h
  exact n x y z (Option.some.inj h).symm
theorem endsL_app (a b : List Tri) : endsL (a ++ b) = endsL a ++ endsL b := by
  unfold endsL
  rw [List.flatMap_append]
theorem same_make {H : Hp} {x dx C : Addr} (nx : H x = none) (ndx : H dx = none) : Same H (upd (upd H dx (.own x)) x (.ins C dx [])) := fun b o e => by
  rw [upd_ne (ne_of_none e nx), upd_ne (ne_of_none e ndx)]
  exact e
theorem cut1 {a R : TS} {D : Ends} {σ : L2.St} {H : Hp} (Good : L2.St → Hp → Prop) (fin : ∀ σ' H', Good σ' H' → R D σ' H') (h : ∀ R' : TS, (∀ σ' H', Good σ' H' → R' D σ' H') → tSeq a R' D σ H) : tSeq a R D σ H := h R fin
theorem ixN_nat {n j : Nat} (h : j < n) : L2.ixN n (j : Int) = some j := by
  unfold L2.ixN
  rw [if_pos (by omega), if_pos (by omega)]
  simp
theorem ns_two {x y : Int} : NotSt (.lst [.int x, .int y]) := fun _ _ _ z => by cases z
def Dr (z : Str) : Prop := z.length ≤ 13 ∧ okS z
instance (z : Str) : Decidable (okS z) := inferInstanceAs (Decidable (∀ c ∈ z.cps.toList, c < 1114112))
instance (z : Str) : Decidable (Dr z) := inferInstanceAs (Decidable (_ ∧ _))
theorem dr_nm {z : Str} (h : NmP z) (l : z.length ≤ 6) : Dr z := ⟨by omega, h.ok⟩
abbrev STRANGE : Str := PySem.Str.ofString "strange"
theorem str_ok' : Dr STRANGE := by decide +kernel
theorem list_at {zs : List Str} (ok : ∀ z ∈ zs, Dr z) {d : Int} (h0 : 0 ≤ d) (h : d < zs.length) : ∃ z, (zs.map V.str)[d.toNat]? = some (.str z) ∧ Dr z := by
  have l : d.toNat < zs.length := by omega
  exact ⟨zs[d.toNat], by rw [List.getElem?_map, List.getElem?_eq_getElem l]; rfl, ok _ (List.getElem_mem l)⟩
theorem dp_ss {K : PySem.W.Frag} {H : Hp} : ∀ (zs : List Str), DpAll K H (zs.map V.str) (zs.map PyData.str)
  | [] => .nil
  | _ :: zs => .cons (.str _) (dp_ss zs)
theorem ss_lay : ∀ {zs : List Str}, (∀ z ∈ zs, okS z) → PyData.canLayAll0 (zs.map PyData.str) = true ∧ PyData.depthAll (zs.map PyData.str) ≤ 1
  | [], _ => by simp [PyData.canLayAll0, PyData.depthAll]
  | z :: zs, h => by
    obtain ⟨a, b⟩ := ss_lay (zs := zs) fun y hy => h y (List.mem_cons_of_mem _ hy)
    have c := strOk_of (h z List.mem_cons_self)
    refine ⟨by simp only [List.map_cons, PyData.canLayAll0, PyData.canLay0, c, a, Bool.and_self], ?_⟩
    simp only [List.map_cons, PyData.depthAll, PyData.depth]
    omega
theorem ss_sh {zs : List Str} (h : ∀ z ∈ zs, okS z) : SeqAt.shaped (.list (zs.map PyData.str)) = true := by
  obtain ⟨a, b⟩ := ss_lay h
  generalize zs.map PyData.str = X at a b
  simp [SeqAt.shaped, PyData.canLay0, PyData.depth, a]
  omega
theorem ss_nil (zs : List Str) : PyData.eqv (.list (zs.map PyData.str)) (.list []) = decide (zs = []) := by
  cases zs with
  | nil => decide +kernel
  | cons v r =>
    rw [decide_eq_false (by simp)]
    simp only [List.map_cons, PyData.eqv, PyData.eqvAll]
theorem eqv_self {d : PyData} (h : SeqAt.shaped d = true) : PyData.eqv d d = true := SeqAt.eqv_refl d (SeqAt.canLay_of_shaped h)
theorem dget_of {H : Hp} {a : Addr} {kvs : List (L2.Key × V)} {k : L2.Key} {v : V} (e : H a = some (.dK kvs)) (h : valV kvs k = some v) : DGet H a (kV k) (some v) := by
  have q := DGet.k (k := k) e
  rw [h] at q
  exact q
def VlAt (o : Option Rf) (v : V) (H : Hp) : Prop := match o with
  | none => v = .non
  | some r => ∃ t, v = .ref t ∧ H t = some (.tup (tupOf r))
theorem dueM_all {C : Addr} {zs : List Str} {H0 : Hp} {ok : Hp → Prop} {E : XK} (h : ∀ z ∈ zs, isNm z = true) (k : ∀ H', Same H0 H' → ok H') : DueM C zs H0 ok E := by
  unfold DueM
  have e : zs.find? (fun z => !isNm z) = none := by
    rw [List.find?_eq_none]
    intro z hz
    rw [h z hz]
    decide
  rw [e]
  exact k
theorem rul_new {K : PySem.W.Frag} {C RB : Addr} {H : Hp} {l1 l2 g : Addr} {nm b : Str} {ps qs : List Addr} {vars : List Var} {cs : List Tri} {gt : Tri} {R : Addr → Hp → Prop} {E : XK} (h1 : SqL K H l1 (ps.map V.ref)) (r1 : RowsAt K H ps (vars.map varV)) (h2 : SqL K H l2 (qs.map V.ref)) (r2 : RowsAt K H qs (cs.map triV)) (hg : H g = some (.tup (triV gt)))
    (ok : PatOk vars cs [gt] [b]) (hn : ∀ z ∈ textsL nm vars (cs ++ [gt]), isNm z = true ∧ z.length ≤ 12) (k : ∀ x H', H x = none → Same H H' → RlAt K RB H' x ⟨⟨nm, vars, cs⟩, gt, b⟩ → R x H') :
    ∀ x dx, H x = none → H dx = none → dx ≠ x → spRul K C RB [.ref x, .str nm, .ref l1, .ref l2, .ref g, .str b] (upd (upd H dx (.own x)) x (.ins RB dx [])) (fun v H3 => v = .non ∧ R x H3) E := fun x dx hx hd ne => by
  refine ⟨H, x, dx, l1, l2, g, nm, b, ps, qs, vars, cs, gt, rfl, same_make hx hd, hx, upd_same, h1, r1, h2, r2, hg, ok, fun z hz => Nat.le_trans (hn z hz).2 (by decide), dueM_all (fun z hz => (hn z hz).1) fun H' S' t1 t2 a1 a2 a3 => ⟨rfl, ?_⟩⟩
  exact k x H' hx S' ⟨dx, t1, t2, g, ps, qs, a1, SqT.of a2, r1.same S', SqT.of a3, r2.same S', SqT.of (S' _ _ hg)⟩
theorem mak_new {K : PySem.W.Frag} {C MB : Addr} {H : Hp} {l1 l2 : Addr} {mk md : Str} {ds us : List Str} {R : Addr → Hp → Prop} {E : XK} (h1 : SqL K H l1 (ds.map V.str)) (h2 : SqL K H l2 (us.map V.str)) (n1 : ds.length ≤ 100) (n2 : us.length ≤ 100) (w1 : NoTw (ds.map V.str)) (w2 : NoTw (us.map V.str))
    (hn : ∀ z ∈ mk :: md :: (ds ++ us), isNm z = true ∧ z.length ≤ 12) (k : ∀ x H', H x = none → Same H H' → MkAt K MB H' x ⟨mk, md, ds, us⟩ → R x H') :
    ∀ x dx, H x = none → H dx = none → dx ≠ x → spMak K C MB [.ref x, .str mk, .str md, .ref l1, .ref l2] (upd (upd H dx (.own x)) x (.ins MB dx [])) (fun v H3 => v = .non ∧ R x H3) E := fun x dx hx hd ne => by
  refine ⟨H, x, dx, l1, l2, mk, md, ds, us, rfl, same_make hx hd, hx, upd_same, h1, h2, n1, n2, w1, w2, fun z hz => Nat.le_trans (hn z hz).2 (by decide), dueM_all (fun z hz => (hn z hz).1) fun H' S' t1 t2 a1 a2 a3 => ⟨rfl, ?_⟩⟩
  exact k x H' hx S' ⟨dx, t1, t2, a1, SqT.of a2, SqT.of a3⟩
theorem MkAt.put {K : PySem.W.Frag} {B D : Addr} {H : Hp} {a : Addr} {m : MkD} {xs : List V} {o : HO} (hD : H D = some (.lst xs)) (h : MkAt K B H a m) : MkAt K B (upd H D o) a m := by
  obtain ⟨d, t1, t2, h0, h1, h2⟩ := h
  exact ⟨d, t1, t2, (upd_ne (ne_of h0 hD (by intro z; cases z))).trans h0, sqT_put hD h1, sqT_put hD h2⟩
theorem RlAt.put {K : PySem.W.Frag} {B D : Addr} {H : Hp} {a : Addr} {r : RlD} {xs : List V} {o : HO} (hD : H D = some (.lst xs)) (h : RlAt K B H a r) : RlAt K B (upd H D o) a r := by
  obtain ⟨d, t1, t2, t3, ps, qs, h0, h1, h2, h3, h4, h5⟩ := h
  exact ⟨d, t1, t2, t3, ps, qs, (upd_ne (ne_of h0 hD (by intro z; cases z))).trans h0, sqT_put hD h1, rows_put hD h2, sqT_put hD h3, rows_put hD h4, sqT_put hD h5⟩
theorem bar_new {K : PySem.W.Frag} {C BB : Addr} {H : Hp} {l1 l2 : Addr} {nm : Str} {ps qs : List Addr} {vars : List Var} {cs : List Tri} {R : Addr → Hp → Prop} {E : XK} (h1 : SqL K H l1 (ps.map V.ref)) (r1 : RowsAt K H ps (vars.map varV)) (h2 : SqL K H l2 (qs.map V.ref)) (r2 : RowsAt K H qs (cs.map triV))
    (ok : PatOk vars cs [] []) (hn : ∀ z ∈ textsL nm vars cs, isNm z = true ∧ z.length ≤ 12) (k : ∀ x H', H x = none → Same H H' → BrAt K BB H' x ⟨nm, vars, cs⟩ → R x H') :
    ∀ x dx, H x = none → H dx = none → dx ≠ x → spBar K C BB [.ref x, .str nm, .ref l1, .ref l2] (upd (upd H dx (.own x)) x (.ins BB dx [])) (fun v H3 => v = .non ∧ R x H3) E := fun x dx hx hd ne => by
  refine ⟨H, x, dx, l1, l2, nm, ps, qs, vars, cs, rfl, same_make hx hd, hx, upd_same, h1, r1, h2, r2, ok, fun z hz => Nat.le_trans (hn z hz).2 (by decide), dueM_all (fun z hz => (hn z hz).1) fun H' S' t1 t2 a1 a2 a3 => ⟨rfl, ?_⟩⟩
  exact k x H' hx S' ⟨dx, t1, t2, ps, qs, a1, SqT.of a2, r1.same S', SqT.of a3, r2.same S'⟩
theorem BrAt.put {K : PySem.W.Frag} {B D : Addr} {H : Hp} {a : Addr} {r : PtD} {xs : List V} {o : HO} (hD : H D = some (.lst xs)) (h : BrAt K B H a r) : BrAt K B (upd H D o) a r := by
  obtain ⟨d, t1, t2, ps, qs, h0, h1, h2, h3, h4⟩ := h
  exact ⟨d, t1, t2, ps, qs, (upd_ne (ne_of h0 hD (by intro z; cases z))).trans h0, sqT_put hD h1, rows_put hD h2, sqT_put hD h3, rows_put hD h4⟩
def MtAt (H : Hp) (t : Addr) (x : MkD) : Prop := ∃ l1 l2, H t = some (.tup [.str x.mr, .str x.md, .ref l1, .ref l2]) ∧ H l1 = some (.lst (x.dn.map V.str)) ∧ H l2 = some (.lst (x.up.map V.str))
theorem MtAt.kp {H H' : Hp} {t : Addr} {x : MkD} (k : Kp H H') (h : MtAt H t x) : MtAt H' t x := by
  obtain ⟨l1, l2, a, b, c⟩ := h
  exact ⟨l1, l2, k _ _ ns_tup a, k _ _ ns_strs b, k _ _ ns_strs c⟩
/-- every text that it names -/
def mkTx (x : MkD) : List Str := [x.mr, x.md] ++ x.dn ++ x.up
theorem AllAt.put1 {α : Type} {R : Addr → α → Prop} {ts : List Addr} {xs : List α} {t : Addr} {x : α} (h : AllAt R ts xs) (r : R t x) : AllAt R (ts ++ [t]) (xs ++ [x]) := h.append ⟨r, True.intro⟩
theorem low_let : ∀ c : Fin 123, 97 ≤ c.1 → c.1 ∈ LET := by decide +kernel
theorem fig_fig : ∀ c : Fin 58, 48 ≤ c.1 → c.1 ∈ FIG := by decide +kernel
theorem nm_is {z : Str} (h : NmP z) (hl : z.length ≤ 12) : isNm z = true := by
  obtain ⟨c, cs, e, l, r⟩ := h
  have ol : ∀ d, lowC d → d ∈ LET := fun d q => low_let ⟨d, Nat.lt_succ_of_le q.2⟩ q.1
  have of' : ∀ d, figC d → d ∈ FIG := fun d q => fig_fig ⟨d, Nat.lt_succ_of_le q.2⟩ q.1
  have hlen : z.length = (c :: cs).length := by
    rw [← e]
    exact (Array.length_toList).symm
  unfold isNm
  rw [e]
  have a1 : (c :: cs).all okc = true := by
    rw [List.all_eq_true]
    intro d hd
    unfold okc
    rcases List.mem_cons.mp hd with h | h
    · rw [h, decide_eq_true (ol c l)]
      rfl
    · rcases r d h with q | q
      · rw [decide_eq_true (ol d q)]
        rfl
      · rw [decide_eq_true (of' d q), Bool.or_true]
  have a2 : first (c :: cs) = true := by
    unfold first
    exact decide_eq_true (ol c l)
  rw [a1, a2, decide_eq_true hl]
  simp [hlen]

def PtAt (H : Hp) (t : Addr) (x : PaT) : Prop := ∃ l1 l2, H t = some (.tup [.str x.nm, .ref l1, .ref l2]) ∧ H l1 = some (.lst [sortV x.k0, sortV x.k1]) ∧ H l2 = some (.lst [.str x.w0, .str x.w1])
theorem ns_pair {a b : V} : NotSt (.lst [a, b]) := fun _ _ _ z => by cases z
theorem PtAt.kp {H H' : Hp} {t : Addr} {x : PaT} (k : Kp H H') (h : PtAt H t x) : PtAt H' t x := by
  obtain ⟨l1, l2, a, b, c⟩ := h
  exact ⟨l1, l2, k _ _ ns_tup a, k _ _ ns_pair b, k _ _ ns_pair c⟩
def paTx (x : PaT) : List Str := (x.k0.toList ++ x.k1.toList) ++ [x.w0, x.w1]
/-! ### that the parts which the law writes are refused by nothing -/
theorem nm_len {z : Str} (h : isNm z = true) : z.length ≤ 12 := by
  unfold isNm at h
  simp only [Bool.and_eq_true] at h
  exact of_decide_eq_true h.2.1
theorem noTw1 {zs : List Str} (h : zs.length ≤ 1) : NoTw (zs.map V.str) := noTw_of (by
  match zs, h with
  | [], _ => exact List.nodup_nil
  | [z], _ => simp)
theorem isA : isNm vA = true := by decide +kernel
theorem isB : isNm vB = true := by decide +kernel
theorem ab_ne : vA ≠ vB := by decide +kernel
theorem ru_pat (x : PaT) : PatOk (ruD x).p.vars (ruD x).p.cs [(ruD x).g] [(ruD x).bh] := by
  refine ⟨by show 1 ≤ 2; decide, by show 2 ≤ 4; decide, by show 1 ≤ 1; decide, by show 1 ≤ 3; decide, by show 1 ≤ 1; decide, by show 1 ≤ 1; decide, ?_, fun z hz => ?_, fun z hz => ?_, fun i t hi ht => ?_⟩
  · show NoTw (([vA, vB] : List Str).map V.str)
    exact noTw_of (by simp [ab_ne])
  · show z ∈ [vA, vB]
    have hz : z ∈ ([vA, vB] ++ [vB, vA]) ++ [vB] := hz
    simp only [List.mem_append, List.mem_cons, List.not_mem_nil, or_false] at hz ⊢
    rcases hz with (h | h) | h
    · exact h
    · exact h.symm
    · exact .inr h
  · exact hz
  · have l : i < 1 := (List.getElem?_eq_some_iff.mp ht).1
    omega
theorem ba_pat (x : PaT) : PatOk (baD x).vars (baD x).cs [] [] := by
  refine ⟨by show 1 ≤ 2; decide, by show 2 ≤ 4; decide, by show 1 ≤ 1; decide, by show 1 ≤ 3; decide, by show 0 ≤ 1; decide, by show 0 ≤ 1; decide, ?_, fun z hz => ?_, fun z hz => ?_, fun i t hi ht => ?_⟩
  · show NoTw (([vA, vB] : List Str).map V.str)
    exact noTw_of (by simp [ab_ne])
  · show z ∈ [vA, vB]
    have hz : z ∈ [vA, vB] ++ ([] : List Str) := hz
    rw [List.append_nil] at hz
    exact hz
  · exact hz
  · have l : i < 1 := (List.getElem?_eq_some_iff.mp ht).1
    omega
/-- all that a pattern names is a name -/
structure PaRt (x : PaT) : Prop where
  nm : isNm x.nm = true
  tx : ∀ z ∈ paTx x, isNm z = true
theorem PaRt.kd {x : PaT} (h : PaRt x) {z : Str} (e : x.k0 = some z ∨ x.k1 = some z) : isNm z = true := h.tx z (by
  unfold paTx
  refine List.mem_append_left _ ?_
  rcases e with e | e
  · exact List.mem_append_left _ (by rw [e]; simp)
  · exact List.mem_append_right _ (by rw [e]; simp))
theorem PaRt.w {x : PaT} (h : PaRt x) : isNm x.w0 = true ∧ isNm x.w1 = true := ⟨h.tx _ (by unfold paTx; simp), h.tx _ (by unfold paTx; simp)⟩
theorem var_tx {k : Option Str} {a z : Str} (ha : isNm a = true) (hk : ∀ y, k = some y → isNm y = true) (h : z ∈ varT (a, k)) : isNm z = true := by
  unfold varT at h
  rcases List.mem_cons.mp h with q | q
  · rw [q]
    exact ha
  · exact hk z (by simpa using q)
theorem ba_tx {x : PaT} (h : PaRt x) : ∀ z ∈ textsL (baD x).nm (baD x).vars (baD x).cs, isNm z = true ∧ z.length ≤ 12 := fun z hz => by
  have q : isNm z = true := by
    unfold textsL at hz
    rcases List.mem_append.mp hz with q | q
    · rcases List.mem_cons.mp q with q | q
      · rw [q]
        exact h.nm
      · have q : z ∈ varT (vA, x.k0) ++ (varT (vB, x.k1) ++ []) := q
        rw [List.append_nil] at q
        rcases List.mem_append.mp q with q | q
        · exact var_tx isA (fun y e => h.kd (.inl e)) q
        · exact var_tx isB (fun y e => h.kd (.inr e)) q
    · have q : z = x.w0 := by simpa [baD] using q
      rw [q]
      exact h.w.1
  exact ⟨q, nm_len q⟩
theorem ru_tx {x : PaT} (h : PaRt x) : ∀ z ∈ textsL (ruD x).p.nm (ruD x).p.vars ((ruD x).p.cs ++ [(ruD x).g]), isNm z = true ∧ z.length ≤ 12 := fun z hz => by
  have hz : z ∈ (x.nm :: ([(vA, x.k0), (vB, x.k1)] : List Var).flatMap varT) ++ [x.w0, x.w1] := hz
  rcases List.mem_append.mp hz with q | q
  · exact ba_tx h z (by unfold textsL; exact List.mem_append_left _ q)
  · have q : z = x.w0 ∨ z = x.w1 := by simpa using q
    rcases q with q | q <;> rw [q]
    · exact ⟨h.w.1, nm_len h.w.1⟩
    · exact ⟨h.w.2, nm_len h.w.2⟩
theorem mk_tx {x : MkD} (h : ∀ z ∈ mkTx x, isNm z = true) : ∀ z ∈ x.mr :: x.md :: (x.dn ++ x.up), isNm z = true ∧ z.length ≤ 12 := fun z hz => by
  have q := h z (by
    unfold mkTx
    rw [List.append_assoc]
    exact hz)
  exact ⟨q, nm_len q⟩
end Wm
namespace Wm
open PySem L2 StX
abbrev kS (s : String) : L2.Key := .inr (PySem.Str.ofString s)
def Wd (zs : List Str) (z : Str) : Prop := z ∈ zs ∨ z = STRANGE
def spDrw (key : String) : Sp := fun vs H Q _ => ∃ (p m l : Addr) (kvs : List (L2.Key × V)) (zs : List Str), vs = [.ref p, .ref m] ∧ StOk H p ∧ H m = some (.dK kvs) ∧ valV kvs (kS key) = some (.ref l) ∧ H l = some (.lst (zs.map V.str)) ∧ 1 ≤ zs.length ∧ zs.length ≤ 100 ∧ ∀ z H', Wd zs z → But p H H' → StOk H' p → Q (.str z) H'
/-- the law's own scheme: its dict's entries in any order -/
structure Mdl (H : Hp) (m l1 l2 l3 l4 l5 l6 : Addr) (kvs : List (L2.Key × V)) (ts us vs : List Addr) (ss ws pl : List Str) (ms : List MkD) (rs bs : List PaT) : Prop where
  hm : H m = some (.dK kvs)
  k1 : valV kvs (kS "sorts") = some (.ref l1)
  k2 : valV kvs (kS "words") = some (.ref l2)
  k3 : valV kvs (kS "makings") = some (.ref l3)
  k4 : valV kvs (kS "rules") = some (.ref l4)
  k5 : valV kvs (kS "bars") = some (.ref l5)
  k6 : valV kvs (kS "pool") = some (.ref l6)
  h1 : H l1 = some (.lst (ss.map V.str))
  h2 : H l2 = some (.lst (ws.map V.str))
  h3 : H l3 = some (.lst (ts.map V.ref))
  a3 : AllAt (MtAt H) ts ms
  h4 : H l4 = some (.lst (us.map V.ref))
  a4 : AllAt (PtAt H) us rs
  h5 : H l5 = some (.lst (vs.map V.ref))
  a5 : AllAt (PtAt H) vs bs
  h6 : H l6 = some (.lst (pl.map V.str))
theorem Mdl.kp {H H' : Hp} {m l1 l2 l3 l4 l5 l6 : Addr} {kvs : List (L2.Key × V)} {ts us vs : List Addr} {ss ws pl : List Str} {ms : List MkD} {rs bs : List PaT} (k : Kp H H') (h : Mdl H m l1 l2 l3 l4 l5 l6 kvs ts us vs ss ws pl ms rs bs) : Mdl H' m l1 l2 l3 l4 l5 l6 kvs ts us vs ss ws pl ms rs bs :=
  ⟨k _ _ ns_dK h.hm, h.k1, h.k2, h.k3, h.k4, h.k5, h.k6, k _ _ ns_strs h.h1, k _ _ ns_strs h.h2, k _ _ ns_refs h.h3, h.a3.imp fun _ _ q => q.kp k, k _ _ ns_refs h.h4, h.a4.imp fun _ _ q => q.kp k, k _ _ ns_refs h.h5, h.a5.imp fun _ _ q => q.kp k, k _ _ ns_strs h.h6⟩
/-- how many sorts, words and names there are -/
structure Sz (ss ws pl : List Str) : Prop where
  s1 : 1 ≤ ss.length
  s4 : ss.length ≤ 4
  w1 : 1 ≤ ws.length
  w3 : ws.length ≤ 3
  p1 : 1 ≤ pl.length
  p12 : pl.length ≤ 12
/-- a pattern as it is drawn -/
structure Ptd (ss ws pl : List Str) (x : PaT) : Prop where
  nm : x.nm ∈ pl
  k0 : ∀ z, x.k0 = some z → Wd ss z
  k1 : ∀ z, x.k1 = some z → Wd ss z
  w0 : Wd ws x.w0
  w1 : Wd ws x.w1
def spLpt : Sp := fun vs H Q _ => ∃ (p m l1 l2 l3 l4 l5 l6 : Addr) (kvs : List (L2.Key × V)) (ts us vs' : List Addr) (ss ws pl : List Str) (ms : List MkD) (rs bs : List PaT), vs = [.ref p, .ref m] ∧ StOk H p ∧ Mdl H m l1 l2 l3 l4 l5 l6 kvs ts us vs' ss ws pl ms rs bs ∧ Sz ss ws pl ∧ ∀ t x H', Ptd ss ws pl x → But p H H' → StOk H' p → PtAt H' t x → Q (.ref t) H'
section
variable {P : Program} {w : World} {K : PySem.W.Frag} {mg : Str → Option Value} {base : Heap}
theorem scLso : FnScope ["_law_s", "_law_m"] ["_law_s", "_law_m"] (defScope sLso) := ⟨rfl, rfl, rfl, by decide +kernel, rfl, by decide +kernel, by decide +kernel⟩
theorem ok_lso {f fG : Addr} {fd dG : FuncData} (F : Fun K "_law_sort" "_law_sort" sLso f fd) (T : TxB mg) (DG : Dn K mg "_law_digit" sDigit ["_law_state_here", "_law_base"] fG dG) : FnOk P w K mg base CX0 2 f fd ["_law_s", "_law_m"] (spDrw "sorts") := by
  have GG : FnOk P w K mg base CX0 1 fG dG _ spDigit := ok_digit DG.F
  refine F.ok scLso (fun vs H Q E h => ?_) (fun cdv A outer s H vs Q E hr h => ?_)
  · obtain ⟨p, m, l, kvs, zs, rfl, _⟩ := h
    rfl
  · obtain ⟨p, m, l, kvs, zs, rfl, S, hm, hv, hl, z1, z100, k⟩ := h
    have hu := hu_of hr
    have hr1 : Room 1 _ := hr
    refine ⟨_, (pss_cons (ps_if (pt_cmpR op_eq (pe_call GG hr1 rfl DG.g DG.F.kp DG.b .nil pass0 (pa_cons (pv 0) (pa_cons pe_int pa_nil))) pe_int (nomark _)) (pss_one (ps_ret pe_str)) pss_nil)
      (pss_one (ps_ret (pe_ix ix_list (pe_dget hu (pv 1) pe_str (fun _ _ => rfl)) (pe_call GG hr1 rfl DG.g DG.F.kp DG.b .nil pass0 (pa_cons (pv 0) (pa_cons (pe_callB call_len_seq (by rfl) T.len (by decide +kernel) (pa_cons (pe_dget hu (pv 1) pe_str (fun _ _ => rfl)) pa_nil)) pa_nil))) (fun _ _ => rfl))))), ?_⟩
    rw [show L2.start ["_law_s", "_law_m"] [V.ref p, V.ref m] = [some (.ref p), some (.ref m)] from rfl]
    refine ⟨_, rfl, p, 12, rfl, S, by decide, by decide, fun d H1 a1 b1 B1 S1 => ⟨rfl, _, rfl, ite2 (fun _ => ?_) (fun _ => ?_)⟩⟩
    · exact k _ _ (.inr rfl) B1 S1
    have K1 := B1.kp S
    have hm1 := K1 _ _ ns_dK hm
    have hl1 := K1 _ _ ns_strs hl
    refine ⟨_, rfl, m, _, rfl, dget_of hm1 hv, _, rfl, _, rfl, m, _, rfl, dget_of hm1 hv, l, _, rfl, .inl (SqL.of hl1), p, _, rfl, S1, by rw [List.length_map]; omega, by rw [List.length_map]; omega, fun d2 H2 a2 b2 B2 S2 => ?_⟩
    rw [List.length_map] at b2
    have lt : d2.toNat < zs.length := by omega
    refine rdList ((B2.kp S1) _ _ ns_strs hl1) (j := d2.toNat) (v := .str zs[d2.toNat]) (by omega) (by rw [List.getElem?_map, List.getElem?_eq_getElem lt]; rfl) ?_
    exact k _ _ (.inl (List.getElem_mem lt)) (B1.trans B2) S2
theorem scLwo : FnScope ["_law_s", "_law_m"] ["_law_s", "_law_m"] (defScope sLwo) := ⟨rfl, rfl, rfl, by decide +kernel, rfl, by decide +kernel, by decide +kernel⟩
theorem ok_lwo {f fG : Addr} {fd dG : FuncData} (F : Fun K "_law_word" "_law_word" sLwo f fd) (T : TxB mg) (DG : Dn K mg "_law_digit" sDigit ["_law_state_here", "_law_base"] fG dG) : FnOk P w K mg base CX0 2 f fd ["_law_s", "_law_m"] (spDrw "words") := by
  have GG : FnOk P w K mg base CX0 1 fG dG _ spDigit := ok_digit DG.F
  refine F.ok scLwo (fun vs H Q E h => ?_) (fun cdv A outer s H vs Q E hr h => ?_)
  · obtain ⟨p, m, l, kvs, zs, rfl, _⟩ := h
    rfl
  · obtain ⟨p, m, l, kvs, zs, rfl, S, hm, hv, hl, z1, z100, k⟩ := h
    have hu := hu_of hr
    have hr1 : Room 1 _ := hr
    refine ⟨_, (pss_cons (ps_if (pt_cmpR op_eq (pe_call GG hr1 rfl DG.g DG.F.kp DG.b .nil pass0 (pa_cons (pv 0) (pa_cons pe_int pa_nil))) pe_int (nomark _)) (pss_one (ps_ret pe_str)) pss_nil)
      (pss_one (ps_ret (pe_ix ix_list (pe_dget hu (pv 1) pe_str (fun _ _ => rfl)) (pe_call GG hr1 rfl DG.g DG.F.kp DG.b .nil pass0 (pa_cons (pv 0) (pa_cons (pe_callB call_len_seq (by rfl) T.len (by decide +kernel) (pa_cons (pe_dget hu (pv 1) pe_str (fun _ _ => rfl)) pa_nil)) pa_nil))) (fun _ _ => rfl))))), ?_⟩
    rw [show L2.start ["_law_s", "_law_m"] [V.ref p, V.ref m] = [some (.ref p), some (.ref m)] from rfl]
    refine ⟨_, rfl, p, 12, rfl, S, by decide, by decide, fun d H1 a1 b1 B1 S1 => ⟨rfl, _, rfl, ite2 (fun _ => ?_) (fun _ => ?_)⟩⟩
    · exact k _ _ (.inr rfl) B1 S1
    have K1 := B1.kp S
    have hm1 := K1 _ _ ns_dK hm
    have hl1 := K1 _ _ ns_strs hl
    refine ⟨_, rfl, m, _, rfl, dget_of hm1 hv, _, rfl, _, rfl, m, _, rfl, dget_of hm1 hv, l, _, rfl, .inl (SqL.of hl1), p, _, rfl, S1, by rw [List.length_map]; omega, by rw [List.length_map]; omega, fun d2 H2 a2 b2 B2 S2 => ?_⟩
    rw [List.length_map] at b2
    have lt : d2.toNat < zs.length := by omega
    refine rdList ((B2.kp S1) _ _ ns_strs hl1) (j := d2.toNat) (v := .str zs[d2.toNat]) (by omega) (by rw [List.getElem?_map, List.getElem?_eq_getElem lt]; rfl) ?_
    exact k _ _ (.inl (List.getElem_mem lt)) (B1.trans B2) S2
theorem scLpt : FnScope ["_law_s", "_law_m", "_law_kinds", "_law_name_here"] ["_law_s", "_law_m"] (defScope sLpt) := ⟨rfl, rfl, rfl, by decide +kernel, rfl, by decide +kernel, by decide +kernel⟩
theorem ok_lpt {f fG fS fW : Addr} {fd dG dS dW : FuncData} (F : Fun K "_law_pattern" "_law_pattern" sLpt f fd) (T : TxB mg) (DG : Dn K mg "_law_digit" sDigit ["_law_state_here", "_law_base"] fG dG) (DSo : Dn K mg "_law_sort" sLso ["_law_s", "_law_m"] fS dS) (DWo : Dn K mg "_law_word" sLwo ["_law_s", "_law_m"] fW dW) : FnOk P w K mg base CX0 3 f fd ["_law_s", "_law_m"] spLpt := by
  have GG : FnOk P w K mg base CX0 1 fG dG _ spDigit := ok_digit DG.F
  have GSo : FnOk P w K mg base CX0 2 fS dS _ (spDrw "sorts") := ok_lso DSo.F T DG
  have GWo : FnOk P w K mg base CX0 2 fW dW _ (spDrw "words") := ok_lwo DWo.F T DG
  refine F.ok scLpt (fun vs H Q E h => ?_) (fun cdv A outer s H vs Q E hr h => ?_)
  · obtain ⟨p, m, l1, l2, l3, l4, l5, l6, kvs, ts, us, vs', ss, ws, pl, ms, rs, bs, rfl, _⟩ := h
    rfl
  · obtain ⟨p, m, l1, l2, l3, l4, l5, l6, kvs, ts, us, vs', ss, ws, pl, ms, rs, bs, rfl, S, M, sz, k⟩ := h
    have hu := hu_of hr
    have hr1 : Room 1 _ := hr.mono (by decide)
    have hr2 : Room 2 _ := hr
    have sz1 := sz.s1
    have sz2 := sz.s4
    have sz3 := sz.w1
    have sz4 := sz.w3
    have sz5 := sz.p1
    have sz6 := sz.p12
    refine ⟨_, (pss_cons (ps_set (i := 2) scLpt.nd rfl (Or.inl rfl) (pe_lst (pa_cons (pe_call GSo hr2 rfl DSo.g DSo.F.kp DSo.b .nil pass0 (pa_cons (pv 0) (pa_cons (pv 1) pa_nil))) (pa_cons (pe_call GSo hr2 rfl DSo.g DSo.F.kp DSo.b .nil pass0 (pa_cons (pv 0) (pa_cons (pv 1) pa_nil))) pa_nil))))
      (pss_cons (ps_if (pt_cmpR op_eq (pe_call GG hr1 rfl DG.g DG.F.kp DG.b .nil pass0 (pa_cons (pv 0) (pa_cons pe_int pa_nil))) pe_int (nomark _)) (pss_one (ps_asg pe_non (pg_sub (pv 2) (pe_call GG hr1 rfl DG.g DG.F.kp DG.b .nil pass0 (pa_cons (pv 0) (pa_cons pe_int pa_nil))) set_list))) pss_nil)
      (pss_cons (ps_set (i := 3) scLpt.nd rfl (Or.inl rfl) (pe_ix ix_list (pe_dget hu (pv 1) pe_str (fun _ _ => rfl)) (pe_call GG hr1 rfl DG.g DG.F.kp DG.b .nil pass0 (pa_cons (pv 0) (pa_cons (pe_callB call_len_seq (by rfl) T.len (by decide +kernel) (pa_cons (pe_dget hu (pv 1) pe_str (fun _ _ => rfl)) pa_nil)) pa_nil))) (fun _ _ => rfl)))
      (pss_one (ps_ret (pe_tup (pa_cons (pv 3) (pa_cons (pv 2) (pa_cons (pe_lst (pa_cons (pe_call GWo hr2 rfl DWo.g DWo.F.kp DWo.b .nil pass0 (pa_cons (pv 0) (pa_cons (pv 1) pa_nil))) (pa_cons (pe_call GWo hr2 rfl DWo.g DWo.F.kp DWo.b .nil pass0 (pa_cons (pv 0) (pa_cons (pv 1) pa_nil))) pa_nil))) pa_nil))))))))), ?_⟩
    rw [show L2.start ["_law_s", "_law_m", "_law_kinds", "_law_name_here"] [V.ref p, V.ref m] = [some (.ref p), some (.ref m), none, none] from rfl]
    refine ⟨_, rfl, _, rfl, p, m, l1, kvs, ss, rfl, S, M.hm, M.k1, M.h1, sz1, by omega, fun a H1 wa B1 S1 => ?_⟩
    have M1 := M.kp (B1.kp S)
    refine ⟨_, rfl, _, rfl, p, m, l1, kvs, ss, rfl, S1, M1.hm, M1.k1, M1.h1, sz1, by omega, fun b H2 wb B2 S2 => ?_⟩
    have M2 := M1.kp (B2.kp S1)
    refine ⟨by show 2 ≤ sizeLine; decide, fun lk hlk => ?_⟩
    dsimp only [gName, List.set_cons_succ, List.set_cons_zero]
    have nlk := st_free S2 hlk
    have T3 : Same H2 (upd H2 lk (.lst [.str a, .str b])) := Same.upd hlk
    have e3 : (upd H2 lk (.lst [.str a, .str b])) lk = some (.lst [sortV (some a), sortV (some b)]) := upd_same
    have S3 := S2.same T3
    have M3 := M2.kp (Same.kp T3)
    have B3 := (B1.trans B2).trans (Same.but T3)
    have f0 : H lk = none := (B1.trans B2).free nlk hlk
    generalize upd H2 lk (.lst [.str a, .str b]) = H3 at T3 e3 S3 M3 B3
    refine cut1 (fun σ' H' => ∃ k0 k1 : Option Str, σ' = [some (.ref p), some (.ref m), some (.ref lk), none] ∧ (∀ z, k0 = some z → Wd ss z) ∧ (∀ z, k1 = some z → Wd ss z) ∧ H' lk = some (.lst [sortV k0, sortV k1]) ∧ But p H H' ∧ StOk H' p ∧ Mdl H' m l1 l2 l3 l4 l5 l6 kvs ts us vs' ss ws pl ms rs bs) ?_ ?_
    rotate_left
    · intro R fin
      have wa' : ∀ z, some a = some z → Wd ss z := fun z e => by cases e; exact wa
      have wb' : ∀ z, some b = some z → Wd ss z := fun z e => by cases e; exact wb
      refine ⟨_, rfl, p, 3, rfl, S3, by decide, by decide, fun d H4 a4 b4 B4 S4 => ⟨rfl, _, rfl, ite2 (fun _ => ?_) (fun _ => ?_)⟩⟩
      · refine ⟨_, rfl, _, rfl, p, 2, rfl, S4, by decide, by decide, fun d5 H5 a5 b5 B5 S5 => ?_⟩
        have e5 := (B4.trans B5) _ _ nlk e3
        have M5 := (M3.kp (B4.kp S3)).kp (B5.kp S4)
        have B05 := B3.trans (B4.trans B5)
        have U : ∀ {x : V}, Mdl (upd H5 lk (.lst [x, sortV (some b)])) m l1 l2 l3 l4 l5 l6 kvs ts us vs' ss ws pl ms rs bs ∧ Mdl (upd H5 lk (.lst [sortV (some a), x])) m l1 l2 l3 l4 l5 l6 kvs ts us vs' ss ws pl ms rs bs := fun {x} => ⟨(M.kp ((B05.kp S).new f0)), (M.kp ((B05.kp S).new f0))⟩
        rcases (by omega : d5 = 0 ∨ d5 = 1) with rfl | rfl
        · refine ⟨lk, _, _, 0, rfl, rfl, e5, by rfl, ?_⟩
          exact fin _ _ ⟨none, some b, rfl, (fun z e => by cases e), wb', upd_same, but_new B05 nlk f0, S5.upd nlk, U.1⟩
        · refine ⟨lk, _, _, 1, rfl, rfl, e5, by rfl, ?_⟩
          exact fin _ _ ⟨some a, none, rfl, wa', (fun z e => by cases e), upd_same, but_new B05 nlk f0, S5.upd nlk, U.2⟩
      · exact fin _ _ ⟨some a, some b, rfl, wa', wb', B4 _ _ nlk e3, B3.trans B4, S4, M3.kp (B4.kp S3)⟩
    rintro σ' H4 ⟨k0, k1, rfl, w0, w1, e4, B4, S4, M4⟩
    refine ⟨_, rfl, m, _, rfl, dget_of M4.hm M4.k6, _, rfl, _, rfl, m, _, rfl, dget_of M4.hm M4.k6, l6, _, rfl, .inl (SqL.of M4.h6), p, _, rfl, S4, by rw [List.length_map]; omega, by rw [List.length_map]; omega, fun d2 H5 a5 b5 B5 S5 => ?_⟩
    rw [List.length_map] at b5
    have lt : d2.toNat < pl.length := by omega
    have M5 := M4.kp (B5.kp S4)
    have e5 := B5 _ _ nlk e4
    refine rdList M5.h6 (j := d2.toNat) (v := .str pl[d2.toNat]) (by omega) (by rw [List.getElem?_map, List.getElem?_eq_getElem lt]; rfl) ?_
    dsimp only [gName, List.set_cons_succ, List.set_cons_zero]
    refine ⟨_, rfl, _, rfl, _, rfl, _, rfl, p, m, l2, kvs, ws, rfl, S5, M5.hm, M5.k2, M5.h2, sz3, by omega, fun c H6 wc B6 S6 => ?_⟩
    have M6 := M5.kp (B6.kp S5)
    refine ⟨_, rfl, _, rfl, p, m, l2, kvs, ws, rfl, S6, M6.hm, M6.k2, M6.h2, sz3, by omega, fun e H7 we B7 S7 => ?_⟩
    have e7 := B7 _ _ nlk (B6 _ _ nlk e5)
    refine ⟨by show 2 ≤ sizeLine; decide, fun lw hlw => ⟨by show 3 ≤ sizeLine; decide, fun t ht => ?_⟩⟩
    have T8 := (Same.upd (o := .lst [.str c, .str e]) hlw).trans (Same.upd (o := .tup [.str pl[d2.toNat], .ref lk, .ref lw]) ht)
    refine k t ⟨pl[d2.toNat], k0, k1, c, e⟩ _ ⟨List.getElem_mem lt, w0, w1, wc, we⟩ (((B4.trans B5).trans (B6.trans B7)).trans (Same.but T8)) (S7.same T8) ⟨lk, lw, upd_same, T8 _ _ e7, (Same.upd ht) _ _ upd_same⟩
end
end Wm
namespace Wm
open PySem L2
/-- x in a tuple, whatever its parts are made of -/
def rInTD (K : PySem.W.Frag) : R2 := fun x y H Q => ∃ d ds, Dp K H x d ∧ Dp K H y (.tuple ds) ∧ SeqAt.shaped d = true ∧ SeqAt.shaped (.tuple ds) = true ∧ Q (.bl (ds.any fun z => PyData.eqv z d)) H
theorem op_inTD {X : Cx} (hu : X.A.units + 65 < cLine) : OpR X (compareOp .In) (rInTD X.K) := by
  intro pins s σ H x y v u Q I rx ry h
  obtain ⟨d, ds, hd, he, sd, se, q⟩ := h
  obtain ⟨as, r1⟩ := Dp.reads I d x v hd rx
  obtain ⟨bs, r2⟩ := Dp.reads I (.tuple ds) y u he ry
  exact SeqAt.in_tuple_reads r2 r1 (SeqAt.canLay_of_shaped se) (SeqAt.canLay_of_shaped sd) (PyProof.Rows.room_in_shaped sd hu) ⟨.bl _, H, I, rfl, q⟩
theorem cut_inj {c : Nat} : ∀ {p q X Y : List Nat}, c ∉ p → c ∉ q → p ++ c :: X = q ++ c :: Y → p = q ∧ X = Y
  | [], [], _, _, _, _, h => ⟨rfl, (List.cons.inj h).2⟩
  | [], b :: q, _, _, _, hq, h => absurd (by rw [(List.cons.inj h).1]; exact List.mem_cons_self) hq
  | a :: p, [], _, _, hp, _, h => absurd (by rw [← (List.cons.inj h).1]; exact List.mem_cons_self) hp
  | a :: p, b :: q, X, Y, hp, hq, h => by
    obtain ⟨e, h⟩ := List.cons.inj h
    obtain ⟨e1, e2⟩ := cut_inj (fun z => hp (List.mem_cons_of_mem _ z)) (fun z => hq (List.mem_cons_of_mem _ z)) h
    exact ⟨by rw [e, e1], e2⟩
theorem str_ext {a b : Str} (h : a.cps.toList = b.cps.toList) : a = b := by
  cases a
  cases b
  congr
  exact Array.toList_inj.mp h
theorem join_two (c : Nat) (p q : Str) (r : List Str) : (Str.join ⟨#[c]⟩ (p :: q :: r)).cps.toList = p.cps.toList ++ c :: (Str.join ⟨#[c]⟩ (q :: r)).cps.toList := by
  show ((p.cps ++ #[c]) ++ (Str.join ⟨#[c]⟩ (q :: r)).cps).toList = _
  simp
theorem join_inj {c : Nat} : ∀ {ps qs : List Str}, ps ≠ [] → qs ≠ [] → (∀ p ∈ ps, c ∉ p.cps.toList) → (∀ p ∈ qs, c ∉ p.cps.toList) → (Str.join ⟨#[c]⟩ ps).cps.toList = (Str.join ⟨#[c]⟩ qs).cps.toList → ps = qs
  | [], _, h, _, _, _, _ => absurd rfl h
  | _ :: _, [], _, h, _, _, _ => absurd rfl h
  | [p], [q], _, _, _, _, h => by rw [str_ext (a := p) (b := q) h]
  | [p], q :: q2 :: r, _, _, hp, _, h => by
    rw [join_two] at h
    have e : p.cps.toList = q.cps.toList ++ c :: (Str.join ⟨#[c]⟩ (q2 :: r)).cps.toList := h
    exact absurd (by rw [e]; exact List.mem_append_right _ List.mem_cons_self) (hp p List.mem_cons_self)
  | p :: p2 :: r, [q], _, _, _, hq, h => by
    rw [join_two] at h
    have e : p.cps.toList ++ c :: (Str.join ⟨#[c]⟩ (p2 :: r)).cps.toList = q.cps.toList := h
    exact absurd (by rw [← e]; exact List.mem_append_right _ List.mem_cons_self) (hq q List.mem_cons_self)
  | p :: p2 :: r, q :: q2 :: t, _, _, hp, hq, h => by
    rw [join_two, join_two] at h
    obtain ⟨e1, e2⟩ := cut_inj (hp p List.mem_cons_self) (hq q List.mem_cons_self) h
    have e3 := join_inj (ps := p2 :: r) (qs := q2 :: t) (by simp) (by simp) (fun x hx => hp x (List.mem_cons_of_mem _ hx)) (fun x hx => hq x (List.mem_cons_of_mem _ hx)) e2
    rw [str_ext e1, e3]
theorem split_ne (x : Str) (c : Nat) : Txt.split x ⟨#[c]⟩ ≠ [] := fun h => by
  have e := StrLaws.join_split x ⟨#[c]⟩
  rw [h] at e
  have l : x.length = 0 := by
    rw [← e]
    rfl
  unfold Txt.split at h
  rw [if_pos (by rw [l]; simp; left; show 0 < 1; decide)] at h
  cases h
theorem split_join {c : Nat} {ps : List Str} (hne : ps ≠ []) (hf : ∀ p ∈ ps, c ∉ p.cps.toList) : Txt.split (Txt.join ⟨#[c]⟩ ps) ⟨#[c]⟩ = ps := by
  have e : Txt.join ⟨#[c]⟩ ps = Str.join ⟨#[c]⟩ ps := StrLaws.glued_eq_join ⟨#[c]⟩ ps
  rw [e]
  refine join_inj (split_ne _ _) hne (StrLaws.split_free _ _) hf ?_
  rw [StrLaws.join_split]
end Wm
namespace Wm
open PySem L2 StX
def dueG (ss ws : List Str) (kd : Str) (mo : Nat) (ys : List PaT) (x : PaT) (wds : List Str) : Option Rf :=
  (if mo ≤ ys.length then some (.cnt kd ((ys.length : Int) + 1)) else none).or ((twP (ys.map (·.nm)) x.nm).or ((goF (nsP ss) [] (kdL x)).or (goF (nwP ws) [] wds)))
theorem rd_two {K : PySem.W.Frag} {x y : Int} {b : Bool} {H : Hp} {l : Addr} {Q : VK} (h : H l = some (.lst [.int x, .int y])) (q : Q (.int (if b then y else x)) H) : rIxL K (.ref l) (.int (if b = true then 1 else 0)) H Q := by
  cases b
  · exact rdList h (j := 0) rfl rfl q
  · exact rdList h (j := 1) rfl rfl q
theorem goN_hit {ss pre post : List Str} {z : Str} (h : ∀ y ∈ pre, y ∈ ss) (n : z ∉ ss) : goF (nsP ss) [] (pre ++ z :: post) = some (.ns z) := by
  rw [goF_snoc, show goF (nsP ss) [] pre = none from goN_iff.mpr h, Option.none_or, goF]
  unfold nsP
  rw [if_neg n]
theorem goW_hit {ss pre post : List Str} {z : Str} (h : ∀ y ∈ pre, y ∈ ss) (n : z ∉ ss) : goF (nwP ss) [] (pre ++ z :: post) = some (.nw z) := by
  rw [goF_snoc, show goF (nwP ss) [] pre = none from goW_iff.mpr h, Option.none_or, goF]
  unfold nwP
  rw [if_neg n]
theorem cut_at {α : Type} {xs : List α} {i : Nat} {x : α} (h : xs[i]? = some x) : xs = xs.take i ++ x :: xs.drop (i + 1) := by
  obtain ⟨l, e⟩ := List.getElem?_eq_some_iff.mp h
  rw [← e, ← List.drop_eq_getElem_cons l, List.take_append_drop]
def spLpd : Sp := fun vs H Q _ => ∃ (m pt l1 l2 ly : Addr) (kvs : List (L2.Key × V)) (as : List Addr) (ss ws : List Str) (ys : List PaT) (x : PaT) (kd : Str) (mo : Nat) (b : Bool), vs = [.ref m, .ref pt, .str kd, .int (mo : Nat)] ∧ decide (V.str kd = V.str (PySem.Str.ofString "bars")) = b ∧ H m = some (.dK kvs) ∧ valV kvs (kS "sorts") = some (.ref l1) ∧ valV kvs (kS "words") = some (.ref l2) ∧ valV kvs (.inr kd) = some (.ref ly) ∧
  H l1 = some (.lst (ss.map V.str)) ∧ H l2 = some (.lst (ws.map V.str)) ∧ H ly = some (.lst (as.map V.ref)) ∧ AllAt (PtAt H) as ys ∧ PtAt H pt x ∧ ys.length ≤ 100 ∧ ∀ v H', Same H H' → VlAt (dueG ss ws kd mo ys x (if b then [x.w0] else [x.w0, x.w1])) v H' → Q v H'
def spLmd : Sp := fun vs H Q _ => ∃ (m pt l1 l2 l3 : Addr) (kvs : List (L2.Key × V)) (ts : List Addr) (ss ws : List Str) (ms : List MkD) (x : MkD), vs = [.ref m, .ref pt] ∧ H m = some (.dK kvs) ∧ valV kvs (kS "sorts") = some (.ref l1) ∧ valV kvs (kS "words") = some (.ref l2) ∧ valV kvs (kS "makings") = some (.ref l3) ∧
  H l1 = some (.lst (ss.map V.str)) ∧ H l2 = some (.lst (ws.map V.str)) ∧ H l3 = some (.lst (ts.map V.ref)) ∧ AllAt (MtAt H) ts ms ∧ MtAt H pt x ∧ ms.length ≤ 100 ∧ x.dn.length ≤ 10 ∧ x.up.length ≤ 10 ∧ (∀ y ∈ ms, okS y.mr ∧ okS y.md) ∧ okS x.mr ∧ okS x.md ∧ ∀ v H', Same H H' → VlAt (dueK ss ws ms x) v H' → Q v H'
section
variable {P : Program} {w : World} {K : PySem.W.Frag} {mg : Str → Option Value} {base : Heap}
theorem scLpd : FnScope ["_law_m", "_law_part", "_law_kind", "_law_most", "_law_one", "_law_sort_here", "_law_word_here"] ["_law_m", "_law_part", "_law_kind", "_law_most"] (defScope sLpd) := ⟨rfl, rfl, rfl, by decide +kernel, rfl, by decide +kernel, by decide +kernel⟩
theorem ok_lpd {f : Addr} {fd : FuncData} (F : Fun K "_law_pattern_due" "_law_pattern_due" sLpd f fd) (T : TxB mg) : FnOk P w K mg base CX0 1 f fd ["_law_m", "_law_part", "_law_kind", "_law_most"] spLpd := by
  refine F.ok scLpd (fun vs H Q E h => ?_) (fun cdv A outer s H vs Q E hr h => ?_)
  · obtain ⟨m, pt, l1, l2, ly, kvs, as, ss, ws, ys, x, kd, mo, b, rfl, _⟩ := h
    rfl
  · obtain ⟨m, pt, l1, l2, ly, kvs, as, ss, ws, ys, x, kd, mo, b, rfl, eb, hm, k1, k2, ky, h1, h2, hy, ay, ⟨g1, g2, p0, p1, p2⟩, y100, k⟩ := h
    have hu := hu_of hr
    have al := ay.len
    refine ⟨_, (pss_cons (ps_if (pt_cmpR op_ge (pe_callB call_len_seq (by rfl) T.len (by decide +kernel) (pa_cons (pe_dget hu (pv 0) (pv 2) (fun _ _ => rfl)) pa_nil)) (pv 3) (nomark _)) (pss_one (ps_ret (pe_tup (pa_cons pe_str (pa_cons (pv 2) (pa_cons (pe_op op_add (pe_callB call_len_seq (by rfl) T.len (by decide +kernel) (pa_cons (pe_dget hu (pv 0) (pv 2) (fun _ _ => rfl)) pa_nil)) pe_int) pa_nil)))))) pss_nil)
      (pss_cons (ps_if (pt_cmpR op_in_seq (pe_ix ix_tup (pv 1) pe_int (fun _ _ => rfl)) (pe_lc (own := [("_law_one", 4)]) (g := gName 4) (tt := tYes) (te := (tOp (rIxT K) (tVar 4) (tC (.int 0)))) rfl scLpd.nd (pi_list (pe_dget hu (pv 0) (pv 2) (fun _ _ => rfl))) (blkOk_by (N := ["_law_m", "_law_part", "_law_kind", "_law_most", "_law_one", "_law_sort_here", "_law_word_here"]) (sc := defScope sLpd) (by decide +kernel)) (fun _ _ _ _ _ => (pg_name (i := 4) scLpd.nd rfl (Or.inl rfl))) (fun _ _ _ _ _ => pts_nil) (fun _ _ _ _ _ => (pe_ix ix_tup (pv 4) pe_int (fun _ _ => rfl)))) (by rfl)) (pss_one (ps_ret (pe_tup (pa_cons pe_str (pa_cons (pe_ix ix_tup (pv 1) pe_int (fun _ _ => rfl)) pa_nil))))) pss_nil)
      (pss_cons (ps_for PassesOwn.never rfl (pi_list (pe_ix ix_tup (pv 1) pe_int (fun _ _ => rfl))) (pg_name (i := 5) scLpd.nd rfl (Or.inl rfl)) (pss_one (ps_if (PW.pt (pw_and (pt_cmp (pc_notN (pv 5))) (pw_and1 (pt_cmpR op_notIn_seq (pv 5) (pe_dget hu (pv 0) pe_str (fun _ _ => rfl)) (by rfl))))) (pss_one (ps_ret (pe_tup (pa_cons pe_str (pa_cons (pv 5) pa_nil))))) pss_nil)))
      (pss_cons (ps_for PassesOwn.never rfl (pi_list (pe_slice sl_list (pe_ix ix_tup (pv 1) pe_int (fun _ _ => rfl)) po_none (po_some (pe_ix ix_list (pe_lst (pa_cons pe_int (pa_cons pe_int pa_nil))) (pe_callTy call_int1 (by rfl) T.int (by decide +kernel) (pa_cons (pe_cmpR op_eq (pv 2) pe_str (nomark _)) pa_nil)) (fun _ _ => rfl))))) (pg_name (i := 6) scLpd.nd rfl (Or.inl rfl)) (pss_one (ps_if (pt_cmpR op_notIn_seq (pv 6) (pe_dget hu (pv 0) pe_str (fun _ _ => rfl)) (by rfl)) (pss_one (ps_ret (pe_tup (pa_cons pe_str (pa_cons (pv 6) pa_nil))))) pss_nil)))
      (pss_one (ps_ret pe_non)))))), ?_⟩
    rw [show L2.start ["_law_m", "_law_part", "_law_kind", "_law_most", "_law_one", "_law_sort_here", "_law_word_here"] [V.ref m, V.ref pt, V.str kd, V.int (mo : Nat)] = [some (.ref m), some (.ref pt), some (.str kd), some (.int (mo : Nat)), none, none, none] from rfl]
    unfold dueG at k
    refine ⟨_, rfl, _, rfl, m, _, rfl, dget_of (k := .inr kd) hm ky, ly, _, rfl, .inl (SqL.of hy), _, rfl, _, _, rfl, rfl, _, rfl, ite2 (fun c => ?_) (fun c => ?_)⟩
    · have c := of_decide_eq_true c
      rw [List.length_map, al] at c
      rw [if_pos (by omega), Option.some_or] at k
      refine ⟨_, rfl, _, rfl, _, rfl, m, _, rfl, dget_of (k := .inr kd) hm ky, ly, _, rfl, .inl (SqL.of hy), _, _, rfl, rfl, by show 3 ≤ sizeLine; decide, fun t ht => ?_⟩
      refine k _ _ (Same.upd ht) ⟨t, rfl, ?_⟩
      rw [upd_same, List.length_map, al]
      rfl
    have c : ¬ mo ≤ ys.length := fun z => c (decide_eq_true (by rw [List.length_map, al]; show ((mo : Nat) : Int) ≤ ((ys.length : Nat) : Int); omega))
    rw [if_neg c, Option.none_or] at k
    -- a name that is there
    refine ⟨_, rfl, pt, _, 0, _, rfl, rfl, SqT.of p0, atI_nat (j := 0) rfl, _, rfl, _, rfl, m, _, rfl, dget_of (k := .inr kd) hm ky, ly, rfl, ⟨_, SqL.of hy⟩, fun D hD => ?_⟩
    refine lc_list (K := K) (a := ly) (xs := as.map V.ref) (fun i H' => Same H H' ∧ H' D = some (.lst (((ys.map (·.nm)).take i).map V.str))) ⟨Same.upd hD, upd_same⟩ (fun i H' _ p => SqL.of (p.1 _ _ hy)) ?_ ?_
    · rintro i y H' hi ⟨S1, hd⟩
      obtain ⟨a, yy, rfl, hyi, q1, q2, r0, r1, r2⟩ := ay.get hi
      have ri := S1 _ _ r0
      refine ⟨rfl, _, rfl, a, _, 0, _, rfl, rfl, SqT.of ri, atI_nat (j := 0) rfl, _, hd, ?_, fun b o e => ?_, ?_⟩
      · rw [List.length_map, List.length_take, List.length_map]
        exact Nat.lt_of_le_of_lt (show _ ≤ 1000 by omega) (by decide)
      · rw [upd_ne (ne_of_none e hD)]
        exact S1 _ _ e
      · rw [upd_same, List.take_add_one, List.getElem?_map, hyi, List.map_append]
        rfl
    rintro H1 ⟨S1, hd⟩
    rw [List.length_map, al, show ys.length = (ys.map (·.nm)).length by rw [List.length_map], List.take_length] at hd
    have hm1 := S1 _ _ hm
    have p01 := S1 _ _ p0
    have p11 := S1 _ _ p1
    have p21 := S1 _ _ p2
    have h11 := S1 _ _ h1
    have h21 := S1 _ _ h2
    refine ⟨D, _, rfl, .inl (SqL.of hd), rfl, flat_strs _, _, rfl, ?_⟩
    rw [show (if false = true then !inV (V.str x.nm) ((ys.map (·.nm)).map V.str) else inV (V.str x.nm) ((ys.map (·.nm)).map V.str)) = inV (V.str x.nm) ((ys.map (·.nm)).map V.str) from rfl, inV_strs]
    refine ite2 (fun c2 => ?_) (fun c2 => ?_)
    · have c2 := of_decide_eq_true c2
      rw [show twP (ys.map (·.nm)) x.nm = some (.tw x.nm) from if_pos c2, Option.some_or] at k
      refine ⟨_, rfl, pt, _, 0, _, rfl, rfl, SqT.of p01, atI_nat (j := 0) rfl, by show 2 ≤ sizeLine; decide, fun t ht => ?_⟩
      exact k _ _ (S1.trans (Same.upd ht)) ⟨t, rfl, upd_same⟩
    have c2 : x.nm ∉ ys.map (·.nm) := fun z => c2 (decide_eq_true z)
    rw [show twP (ys.map (·.nm)) x.nm = none from if_neg c2, Option.none_or] at k
    -- a strange sort
    dsimp only [tNext]
    refine ⟨_, rfl, pt, _, 1, _, rfl, rfl, SqT.of p01, atI_nat (j := 1) rfl, g1, rfl, ⟨_, SqL.of p11⟩, for_list (K := K) (a := g1) (xs := [x.k0, x.k1].map sortV) (fun i σ H' => (∃ v, σ = [some (.ref m), some (.ref pt), some (.str kd), some (.int (mo : Nat)), none, v, none]) ∧ H' = H1 ∧ ∀ z ∈ ([x.k0, x.k1].take i).filterMap id, z ∈ ss) ⟨⟨none, rfl⟩, rfl, fun z hz => by simp at hz⟩ (fun i σ H' _ p => by rw [p.2.1]; exact SqL.of p11) ?_ ?_⟩
    · rintro i y σ H' hi ⟨⟨v, rfl⟩, rfl, hall⟩
      rw [List.getElem?_map] at hi
      obtain ⟨o, hoi, rfl⟩ := Option.map_eq_some_iff.mp hi
      dsimp only [gName, List.set_cons_succ, List.set_cons_zero]
      cases o with
      | none =>
        refine ⟨_, rfl, _, rfl, iteF ⟨⟨_, rfl⟩, rfl, fun z hz => ?_⟩⟩
        rw [List.take_add_one, hoi, List.filterMap_append] at hz
        exact hall z (by simpa using hz)
      | some z =>
        refine ⟨_, rfl, _, rfl, iteT ⟨_, rfl, _, rfl, m, _, rfl, dget_of hm1 k1, l1, _, rfl, .inl (SqL.of h11), rfl, flat_strs _, _, rfl, ?_⟩⟩
        rw [show (if true = true then !inV (sortV (some z)) (ss.map V.str) else inV (sortV (some z)) (ss.map V.str)) = !decide (z ∈ ss) by rw [if_pos rfl]; exact congrArg (fun b => !b) inV_strs]
        by_cases q : z ∈ ss
        · rw [decide_eq_true q]
          refine iteF ⟨⟨_, rfl⟩, rfl, fun y hy => ?_⟩
          rw [List.take_add_one, hoi, List.filterMap_append] at hy
          rcases List.mem_append.mp hy with r | r
          · exact hall y r
          · have r : y = z := by simpa using r
            rw [r]
            exact q
        · rw [decide_eq_false q]
          have e : kdL x = ([x.k0, x.k1].take i).filterMap id ++ z :: ([x.k0, x.k1].drop (i + 1)).filterMap id := by
            unfold kdL
            conv => lhs; rw [cut_at hoi, List.filterMap_append, List.filterMap_cons]
            rfl
          rw [e, goN_hit hall q, Option.some_or] at k
          exact iteT ⟨_, rfl, by show 2 ≤ sizeLine; decide, fun t ht => k _ _ (S1.trans (Same.upd ht)) ⟨t, rfl, upd_same⟩⟩
    rintro σ H' ⟨⟨v5, rfl⟩, rfl, hall⟩
    rw [show goF (nsP ss) [] (kdL x) = none from goN_iff.mpr hall, Option.none_or] at k
    clear hall
    -- a strange word
    dsimp only [tNext]
    refine ⟨_, rfl, pt, _, 2, _, rfl, rfl, SqT.of p01, atI_nat (j := 2) rfl, by show 2 ≤ sizeLine; decide, fun lq hlq => ⟨_, rfl, rfl, .inr ⟨_, rfl, ?_⟩⟩⟩
    rw [eb]
    have T2 : Same H' (upd H' lq (.lst [.int 2, .int 1])) := Same.upd hlq
    refine rd_two upd_same ?_
    generalize upd H' lq (.lst [.int 2, .int 1]) = H2 at T2
    refine ⟨_, rfl, g2, _, rfl, SqL.of (T2 _ _ p21), fun lw hlw => ?_⟩
    have ec : cutV [V.str x.w0, V.str x.w1] none (some (if b = true then 1 else 2)) = (if b then [x.w0] else [x.w0, x.w1]).map V.str := by cases b <;> rfl
    rw [ec]
    generalize (if b then [x.w0] else [x.w0, x.w1]) = wds at k
    have T3 : Same H2 (upd H2 lw (.lst (wds.map V.str))) := Same.upd hlw
    have e3 : (upd H2 lw (.lst (wds.map V.str))) lw = some (.lst (wds.map V.str)) := upd_same
    generalize upd H2 lw (.lst (wds.map V.str)) = H3 at T3 e3
    have T23 := T2.trans T3
    have S3 := S1.trans T23
    refine ⟨lw, rfl, ⟨_, SqL.of e3⟩, for_list (K := K) (a := lw) (xs := wds.map V.str) (fun i σ H' => (∃ v, σ = [some (.ref m), some (.ref pt), some (.str kd), some (.int (mo : Nat)), none, v5, v]) ∧ H' = H3 ∧ ∀ z ∈ wds.take i, z ∈ ws) ⟨⟨_, rfl⟩, rfl, fun z hz => by simp at hz⟩ (fun i σ H' _ p => by rw [p.2.1]; exact SqL.of e3) ?_ ?_⟩
    · rintro i y σ H' hi ⟨⟨v, rfl⟩, rfl, hall⟩
      obtain ⟨z, hzi, rfl⟩ := map_str_get hi
      dsimp only [gName, List.set_cons_succ, List.set_cons_zero]
      refine ⟨_, rfl, _, rfl, m, _, rfl, dget_of (T23 _ _ hm1) k2, l2, _, rfl, .inl (SqL.of (T23 _ _ h21)), rfl, flat_strs _, _, rfl, ?_⟩
      rw [if_pos rfl, inV_strs]
      by_cases q : z ∈ ws
      · rw [decide_eq_true q]
        refine iteF ⟨⟨_, rfl⟩, rfl, fun y hy => ?_⟩
        rw [List.take_add_one, hzi] at hy
        rcases List.mem_append.mp hy with r | r
        · exact hall y r
        · have r : y = z := by simpa using r
          rw [r]
          exact q
      · rw [decide_eq_false q]
        rw [cut_at hzi, goW_hit hall q] at k
        exact iteT ⟨_, rfl, by show 2 ≤ sizeLine; decide, fun t ht => k _ _ (S3.trans (Same.upd ht)) ⟨t, rfl, upd_same⟩⟩
    rintro σ H' ⟨⟨v6, rfl⟩, rfl, hall⟩
    rw [List.length_map, List.take_length] at hall
    rw [show goF (nwP ws) [] wds = none from goW_iff.mpr hall] at k
    exact k _ _ S3 rfl
theorem scLmd : FnScope ["_law_m", "_law_part", "_law_one", "_law_sort_here", "_law_word_here"] ["_law_m", "_law_part"] (defScope sLmd) := ⟨rfl, rfl, rfl, by decide +kernel, rfl, by decide +kernel, by decide +kernel⟩
theorem ok_lmd {f : Addr} {fd : FuncData} (F : Fun K "_law_making_due" "_law_making_due" sLmd f fd) (T : TxB mg) : FnOk P w K mg base CX0 1 f fd ["_law_m", "_law_part"] spLmd := by
  refine F.ok scLmd (fun vs H Q E h => ?_) (fun cdv A outer s H vs Q E hr h => ?_)
  · obtain ⟨m, pt, l1, l2, l3, kvs, ts, ss, ws, ms, x, rfl, _⟩ := h
    rfl
  · obtain ⟨m, pt, l1, l2, l3, kvs, ts, ss, ws, ms, x, rfl, hm, k1, k2, k3, h1, h2, h3, am, ⟨g1, g2, p0, p1, p2⟩, m100, xd, xu, mok, xo1, xo2, k⟩ := h
    have hu := hu_of hr
    have al := am.len
    refine ⟨_, (pss_cons (ps_if (pt_cmpR (op_inD (u65 hr)) (pe_tup (pa_cons (pe_ix ix_tup (pv 1) pe_int (fun _ _ => rfl)) (pa_cons (pe_ix ix_tup (pv 1) pe_int (fun _ _ => rfl)) pa_nil))) (pe_lc (own := [("_law_one", 2)]) (g := gName 2) (tt := tYes) (te := (tTup (tCons (tOp (rIxT K) (tVar 2) (tC (.int 0))) (tCons (tOp (rIxT K) (tVar 2) (tC (.int 1))) tNil)))) rfl scLmd.nd (pi_list (pe_dget hu (pv 0) pe_str (fun _ _ => rfl))) (blkOk_by (N := ["_law_m", "_law_part", "_law_one", "_law_sort_here", "_law_word_here"]) (sc := defScope sLmd) (by decide +kernel)) (fun _ _ _ _ _ => (pg_name (i := 2) scLmd.nd rfl (Or.inl rfl))) (fun _ _ _ _ _ => pts_nil) (fun _ _ _ _ _ => (pe_tup (pa_cons (pe_ix ix_tup (pv 2) pe_int (fun _ _ => rfl)) (pa_cons (pe_ix ix_tup (pv 2) pe_int (fun _ _ => rfl)) pa_nil))))) (by rfl)) (pss_one (ps_ret (pe_tup (pa_cons pe_str (pa_cons (pe_ix ix_tup (pv 1) pe_int (fun _ _ => rfl)) pa_nil))))) pss_nil)
      (pss_cons (ps_for PassesOwn.never rfl (pi_tup (pe_slice sl_tupA (pv 1) po_none (po_some pe_int))) (pg_name (i := 3) scLmd.nd rfl (Or.inl rfl)) (pss_one (ps_if (pt_cmpR op_notIn_seq (pv 3) (pe_dget hu (pv 0) pe_str (fun _ _ => rfl)) (by rfl)) (pss_one (ps_ret (pe_tup (pa_cons pe_str (pa_cons (pv 3) pa_nil))))) pss_nil)))
      (pss_cons (ps_if (pt_cmpR op_le (pe_bm PySem.F.plainAttrs_list PySem.F.slot_list_index PySem.F.type_list_index mt_index (pe_dget hu (pv 0) pe_str (fun _ _ => rfl)) (pa_cons (pe_ix ix_tup (pv 1) pe_int (fun _ _ => rfl)) pa_nil)) (pe_bm PySem.F.plainAttrs_list PySem.F.slot_list_index PySem.F.type_list_index mt_index (pe_dget hu (pv 0) pe_str (fun _ _ => rfl)) (pa_cons (pe_ix ix_tup (pv 1) pe_int (fun _ _ => rfl)) pa_nil)) (nomark _)) (pss_one (ps_ret (pe_tup (pa_cons pe_str (pa_cons (pe_ix ix_tup (pv 1) pe_int (fun _ _ => rfl)) (pa_cons (pe_ix ix_tup (pv 1) pe_int (fun _ _ => rfl)) pa_nil)))))) pss_nil)
      (pss_cons (ps_for PassesOwn.never rfl (pi_list (pe_op op_cat (pe_ix ix_tup (pv 1) pe_int (fun _ _ => rfl)) (pe_ix ix_tup (pv 1) pe_int (fun _ _ => rfl)))) (pg_name (i := 4) scLmd.nd rfl (Or.inl rfl)) (pss_one (ps_if (pt_cmpR op_notIn_seq (pv 4) (pe_dget hu (pv 0) pe_str (fun _ _ => rfl)) (by rfl)) (pss_one (ps_ret (pe_tup (pa_cons pe_str (pa_cons (pv 4) pa_nil))))) pss_nil)))
      (pss_one (ps_ret pe_non)))))), ?_⟩
    rw [show L2.start ["_law_m", "_law_part", "_law_one", "_law_sort_here", "_law_word_here"] [V.ref m, V.ref pt] = [some (.ref m), some (.ref pt), none, none, none] from rfl]
    unfold dueK at k
    -- a pair that is there
    refine ⟨_, rfl, pt, _, 0, _, rfl, rfl, SqT.of p0, atI_nat (j := 0) rfl, _, rfl, pt, _, 1, _, rfl, rfl, SqT.of p0, atI_nat (j := 1) rfl, by show 2 ≤ sizeLine; decide, fun tp htp => ?_⟩
    have T0 : Same H (upd H tp (.tup [.str x.mr, .str x.md])) := Same.upd htp
    have e0 : (upd H tp (.tup [.str x.mr, .str x.md])) tp = some (.tup [.str x.mr, .str x.md]) := upd_same
    generalize upd H tp (.tup [.str x.mr, .str x.md]) = H0 at T0 e0
    refine ⟨_, rfl, m, _, rfl, dget_of (T0 _ _ hm) k3, l3, rfl, ⟨_, SqL.of (T0 _ _ h3)⟩, fun D hD => ?_⟩
    refine lc_list (K := K) (a := l3) (xs := ts.map V.ref) (fun i H' => Same H0 H' ∧ ∃ qs : List Addr, H' D = some (.lst (qs.map V.ref)) ∧ RowsAt K H' qs (((ms.map fun y => (y.mr, y.md)).take i).map prV) ∧ qs.length = i) ⟨Same.upd hD, [], upd_same, True.intro, rfl⟩ (fun i H' _ p => SqL.of (p.1 _ _ (T0 _ _ h3))) ?_ ?_
    · rintro i y H8 hi ⟨T8, qs, hD8, rows, ql⟩
      obtain ⟨a, yy, rfl, hyi, q1, q2, r0, r1, r2⟩ := am.get hi
      have il : i < ms.length := (List.getElem?_eq_some_iff.mp hyi).1
      have r8 := T8 _ _ (T0 _ _ r0)
      refine ⟨rfl, _, rfl, a, _, 0, _, rfl, rfl, SqT.of r8, atI_nat (j := 0) rfl, _, rfl, a, _, 1, _, rfl, rfl, SqT.of r8, atI_nat (j := 1) rfl, by show 2 ≤ sizeLine; decide, fun t ht => ?_⟩
      have T9 : Same H8 (upd H8 t (.tup [.str yy.mr, .str yy.md])) := Same.upd ht
      have e9 : (upd H8 t (.tup [.str yy.mr, .str yy.md])) t = some (.tup (prV (yy.mr, yy.md))) := upd_same
      generalize upd H8 t (.tup [.str yy.mr, .str yy.md]) = H9 at T9 e9
      have hD9 := T9 _ _ hD8
      refine ⟨_, hD9, ?_, fun b o e => ?_, qs ++ [t], ?_, ?_, ?_⟩
      · rw [List.length_map]
        exact Nat.lt_of_le_of_lt (show _ ≤ 1000 by omega) (by decide)
      · rw [upd_ne (ne_of_none e hD)]
        exact T9 _ _ (T8 _ _ e)
      · rw [upd_same, List.map_append]
        rfl
      · rw [List.take_add_one, List.getElem?_map, hyi, List.map_append]
        exact RowsAt.append (rows_put hD9 (rows.same T9)) ⟨sqT_put hD9 (SqT.of e9), True.intro⟩
      · rw [List.length_append, ql]
        rfl
    rintro H1 ⟨T1, qs, hD1, rows, ql⟩
    rw [List.length_map] at ql
    rw [List.length_map, al, List.take_of_length_le (by rw [List.length_map]; exact Nat.le_refl _)] at rows
    have S1 := T0.trans T1
    have hm1 := S1 _ _ hm
    have p01 := S1 _ _ p0
    have h11 := S1 _ _ h1
    have h21 := S1 _ _ h2
    have e1 := T1 _ _ e0
    obtain ⟨q1, q2⟩ := prs_sh (ps := ms.map fun y => (y.mr, y.md)) fun y hy => by
      obtain ⟨z, hz, rfl⟩ := List.mem_map.mp hy
      exact mok z hz
    have shl : SeqAt.shaped (.list ((ms.map fun y => (y.mr, y.md)).map prD)) = true := by
      generalize (ms.map fun y => (y.mr, y.md)).map prD = X at q1 q2
      simp [SeqAt.shaped, PyData.canLay0, PyData.depth, q1]
      omega
    have shp : SeqAt.shaped (prD (x.mr, x.md)) = true := by
      have sa := strOk_of xo1
      have sb := strOk_of xo2
      simp [prD, SeqAt.shaped, PyData.canLay0, PyData.canLayAll0, PyData.depth, PyData.depthAll, sa, sb]
    have any : (((ms.map fun y => (y.mr, y.md)).map prD).any fun z => PyData.eqv z (prD (x.mr, x.md))) = decide ((x.mr, x.md) ∈ ms.map fun y => (y.mr, y.md)) := by
      generalize ms.map (fun y => (y.mr, y.md)) = L
      rw [Bool.eq_iff_iff, List.any_eq_true, decide_eq_true_iff]
      constructor
      · rintro ⟨z, hz, e⟩
        obtain ⟨p, hp, rfl⟩ := List.mem_map.mp hz
        rw [prD_eqv] at e
        rw [← of_decide_eq_true e]
        exact hp
      · intro h
        exact ⟨_, List.mem_map.mpr ⟨_, h, rfl⟩, by rw [prD_eqv]; exact decide_eq_true rfl⟩
    refine ⟨prD (x.mr, x.md), _, .tup (SqT.of e1) (.cons (.str _) (.cons (.str _) .nil)), .lst (SqL.of hD1) (prs_dp rows), shp, shl, _, rfl, ?_⟩
    rw [any]
    refine ite2 (fun c => ?_) (fun c => ?_)
    · rw [show twM ms x = some (.tw x.mr) from if_pos (of_decide_eq_true c), Option.some_or] at k
      refine ⟨_, rfl, pt, _, 0, _, rfl, rfl, SqT.of p01, atI_nat (j := 0) rfl, by show 2 ≤ sizeLine; decide, fun t ht => ?_⟩
      exact k _ _ (S1.trans (Same.upd ht)) ⟨t, rfl, upd_same⟩
    rw [show twM ms x = none from if_neg fun z => c (decide_eq_true z), Option.none_or] at k
    -- strange sorts
    dsimp only [tNext]
    refine ⟨_, rfl, _, rfl, pt, _, rfl, SqT.of p01, (fun z => absurd z.2 (by show ¬ (HT.sIx 4 4 (some 2) = 4); decide)), fun _ tc htc => ?_⟩
    have ec : cutV [V.str x.mr, V.str x.md, V.ref g1, V.ref g2] none (some 2) = [x.mr, x.md].map V.str := rfl
    rw [ec]
    have T2 : Same H1 (upd H1 tc (.tup ([x.mr, x.md].map V.str))) := Same.upd htc
    have e2 : (upd H1 tc (.tup ([x.mr, x.md].map V.str))) tc = some (.tup ([x.mr, x.md].map V.str)) := upd_same
    generalize upd H1 tc (.tup ([x.mr, x.md].map V.str)) = H2 at T2 e2
    have S2 := S1.trans T2
    refine ⟨tc, rfl, ⟨_, SqT.of e2⟩, for_tup (K := K) (a := tc) (xs := [x.mr, x.md].map V.str) (fun i σ H' => (∃ v, σ = [some (.ref m), some (.ref pt), none, v, none]) ∧ H' = H2 ∧ ∀ z ∈ [x.mr, x.md].take i, z ∈ ss) ⟨⟨_, rfl⟩, rfl, fun z hz => by simp at hz⟩ (fun i σ H' _ p => by rw [p.2.1]; exact SqT.of e2) ?_ ?_⟩
    · rintro i y σ H' hi ⟨⟨v, rfl⟩, rfl, hall⟩
      obtain ⟨z, hzi, rfl⟩ := map_str_get hi
      dsimp only [gName, List.set_cons_succ, List.set_cons_zero]
      refine ⟨_, rfl, _, rfl, m, _, rfl, dget_of (S2 _ _ hm) k1, l1, _, rfl, .inl (SqL.of (S2 _ _ h1)), rfl, flat_strs _, _, rfl, ?_⟩
      rw [if_pos rfl, inV_strs]
      by_cases q : z ∈ ss
      · rw [decide_eq_true q]
        refine iteF ⟨⟨_, rfl⟩, rfl, fun y hy => ?_⟩
        rw [List.take_add_one, hzi] at hy
        rcases List.mem_append.mp hy with r | r
        · exact hall y r
        · have r : y = z := by simpa using r
          rw [r]
          exact q
      · rw [decide_eq_false q]
        rw [show goF (nsP ss) [] [x.mr, x.md] = some (.ns z) by rw [cut_at hzi, goN_hit hall q], Option.some_or] at k
        exact iteT ⟨_, rfl, by show 2 ≤ sizeLine; decide, fun t ht => k _ _ (S2.trans (Same.upd ht)) ⟨t, rfl, upd_same⟩⟩
    rintro σ H' ⟨⟨v3, rfl⟩, rfl, hall⟩
    have hall : ∀ z ∈ [x.mr, x.md], z ∈ ss := hall
    rw [show goF (nsP ss) [] [x.mr, x.md] = none from goN_iff.mpr hall, Option.none_or] at k
    have in1 := hall x.mr (by simp)
    have in2 := hall x.md (by simp)
    clear hall
    -- upward
    dsimp only [tNext]
    have p02 := S2 _ _ p0
    have h12 := S2 _ _ h1
    have at_ : ∀ {z : Str}, z ∈ ss → (ss.map V.str)[ixS ss z]? = some (.str z) := fun {z} h => by rw [List.getElem?_map, ixS_at h]; rfl
    have first : ∀ {z : Str} (m : Nat) (z' : V), m < ixS ss z → (ss.map V.str)[m]? = some z' → eqV z' (.str z) = false := fun {z} m z' hm hz => by
      obtain ⟨y, hy, rfl⟩ := map_str_get hz
      have ne := ixS_first hm hy
      unfold eqV
      simp [ne]
    refine ⟨_, rfl, m, _, rfl, dget_of (S2 _ _ hm) k1, .inl ⟨rfl, _, SqL.of h12⟩, _, rfl, pt, _, 1, _, rfl, rfl, SqT.of p02, atI_nat (j := 1) rfl, ?_⟩
    refine ⟨l1, _, .str x.md, ixS ss x.md, .str x.md, rfl, rfl, SqL.of h12, rfl, flat_of ss, at_ in2, by unfold eqV; simp, first, ?_⟩
    refine ⟨_, rfl, m, _, rfl, dget_of (S2 _ _ hm) k1, .inl ⟨rfl, _, SqL.of h12⟩, _, rfl, pt, _, 0, _, rfl, rfl, SqT.of p02, atI_nat (j := 0) rfl, ?_⟩
    refine ⟨l1, _, .str x.mr, ixS ss x.mr, .str x.mr, rfl, rfl, SqL.of h12, rfl, flat_of ss, at_ in1, by unfold eqV; simp, first, ?_⟩
    refine ⟨_, _, rfl, rfl, _, rfl, ite2 (fun c => ?_) (fun c => ?_)⟩
    · rw [show upP ss ms x = some (.up x.mr x.md) from if_pos (by have := of_decide_eq_true c; omega), Option.some_or] at k
      refine ⟨_, rfl, pt, _, 0, _, rfl, rfl, SqT.of p02, atI_nat (j := 0) rfl, _, rfl, pt, _, 1, _, rfl, rfl, SqT.of p02, atI_nat (j := 1) rfl, by show 3 ≤ sizeLine; decide, fun t ht => ?_⟩
      exact k _ _ (S2.trans (Same.upd ht)) ⟨t, rfl, upd_same⟩
    rw [show upP ss ms x = none from if_neg fun z => c (decide_eq_true (by omega)), Option.none_or] at k
    -- strange words
    dsimp only [tNext]
    refine ⟨_, rfl, pt, _, 2, _, rfl, rfl, SqT.of p02, atI_nat (j := 2) rfl, _, rfl, pt, _, 3, _, rfl, rfl, SqT.of p02, atI_nat (j := 3) rfl, g1, g2, _, _, rfl, rfl, S2 _ _ p1, S2 _ _ p2, ?_, fun lw hlw => ?_⟩
    · rw [List.length_map, List.length_map]
      exact Nat.le_trans (show _ ≤ 1000 by omega) (by decide)
    have T3 : Same H' (upd H' lw (.lst (x.dn.map V.str ++ x.up.map V.str))) := Same.upd hlw
    have e3 : (upd H' lw (.lst (x.dn.map V.str ++ x.up.map V.str))) lw = some (.lst ((x.dn ++ x.up).map V.str)) := by rw [upd_same, List.map_append]
    generalize upd H' lw (.lst (x.dn.map V.str ++ x.up.map V.str)) = H3 at T3 e3
    generalize x.dn ++ x.up = wds at k e3
    have S3 := S2.trans T3
    refine ⟨lw, rfl, ⟨_, SqL.of e3⟩, for_list (K := K) (a := lw) (xs := wds.map V.str) (fun i σ H' => (∃ v, σ = [some (.ref m), some (.ref pt), none, v3, v]) ∧ H' = H3 ∧ ∀ z ∈ wds.take i, z ∈ ws) ⟨⟨_, rfl⟩, rfl, fun z hz => by simp at hz⟩ (fun i σ H' _ p => by rw [p.2.1]; exact SqL.of e3) ?_ ?_⟩
    · rintro i y σ H' hi ⟨⟨v, rfl⟩, rfl, hall⟩
      obtain ⟨z, hzi, rfl⟩ := map_str_get hi
      dsimp only [gName, List.set_cons_succ, List.set_cons_zero]
      refine ⟨_, rfl, _, rfl, m, _, rfl, dget_of (S3 _ _ hm) k2, l2, _, rfl, .inl (SqL.of (S3 _ _ h2)), rfl, flat_strs _, _, rfl, ?_⟩
      rw [if_pos rfl, inV_strs]
      by_cases q : z ∈ ws
      · rw [decide_eq_true q]
        refine iteF ⟨⟨_, rfl⟩, rfl, fun y hy => ?_⟩
        rw [List.take_add_one, hzi] at hy
        rcases List.mem_append.mp hy with r | r
        · exact hall y r
        · have r : y = z := by simpa using r
          rw [r]
          exact q
      · rw [decide_eq_false q]
        rw [cut_at hzi, goW_hit hall q] at k
        exact iteT ⟨_, rfl, by show 2 ≤ sizeLine; decide, fun t ht => k _ _ (S3.trans (Same.upd ht)) ⟨t, rfl, upd_same⟩⟩
    rintro σ H' ⟨⟨v6, rfl⟩, rfl, hall⟩
    rw [List.length_map, List.take_length] at hall
    rw [show goF (nwP ws) [] wds = none from goW_iff.mpr hall] at k
    exact k _ _ S3 rfl
end
end Wm
namespace Wm
open PySem L2 StX
def spLrl (K : PySem.W.Frag) (RB : Addr) : Sp := fun vs H Q _ => ∃ (t : Addr) (x : PaT), vs = [.ref t] ∧ PtAt H t x ∧ PaRt x ∧ ∀ o H', H o = none → Same H H' → RlAt K RB H' o (ruD x) → Q (.ref o) H'
def spLbr (K : PySem.W.Frag) (BB : Addr) : Sp := fun vs H Q _ => ∃ (t : Addr) (x : PaT), vs = [.ref t] ∧ PtAt H t x ∧ PaRt x ∧ ∀ o H', H o = none → Same H H' → BrAt K BB H' o (baD x) → Q (.ref o) H'
/-- a making as it is drawn -/
structure MkRt (x : MkD) : Prop where
  d1 : x.dn.length ≤ 1
  u1 : x.up.length ≤ 1
  tx : ∀ z ∈ mkTx x, isNm z = true
def spLmk (K : PySem.W.Frag) (MB : Addr) : Sp := fun vs H Q _ => ∃ (t : Addr) (x : MkD), vs = [.ref t] ∧ MtAt H t x ∧ MkRt x ∧ ∀ o H', H o = none → Same H H' → MkAt K MB H' o x → Q (.ref o) H'
section
variable {P : Program} {w : World} {K : PySem.W.Frag} {mg : Str → Option Value} {base : Heap} {C : Nat → Addr}
theorem scLrl : FnScope ["_law_part", "_law_name_here", "_law_kinds", "_law_told_here", "_law_variables"] ["_law_part"] (defScope sLrl) := ⟨rfl, rfl, rfl, by decide +kernel, rfl, by decide +kernel, by decide +kernel⟩
theorem ok_lrl {f fR RB : Addr} {fd dR : FuncData} (F : Fun K "_law_rule" "_law_rule" sLrl f fd) (TR : TxRul K mg RB fR) (bR : Binds K dR ["self", "name", "variables", "conditions", "gives", "by"] []) (GR : FnOk P w K mg base (L2.CX P w) 6 fR dR ["self", "name", "variables", "conditions", "gives", "by"] (spRul K (C 1) RB)) : FnOk P w K mg base CX0 8 f fd ["_law_part"] (spLrl K RB) := by
  refine F.ok scLrl (fun vs H Q E h => ?_) (fun cdv A outer s H vs Q E hr h => ?_)
  · obtain ⟨t, x, rfl, _⟩ := h
    rfl
  · obtain ⟨t, x, rfl, ⟨g1, g2, h1, h2, h3⟩, px, k⟩ := h
    have hr7 : Room 7 _ := hr
    refine ⟨_, (pss_cons (ps_asg (pv 0) (pg_tup rfl (pgs_cons (pg_name (i := 1) scLrl.nd rfl (Or.inl rfl)) (pgs_cons (pg_name (i := 2) scLrl.nd rfl (Or.inl rfl)) (pgs_cons (pg_name (i := 3) scLrl.nd rfl (Or.inl rfl)) pgs_nil)))))
      (pss_cons (ps_set (i := 4) scLrl.nd rfl (Or.inl rfl) (pe_lst (pa_cons (pe_tup (pa_cons pe_str (pa_cons (pe_ix ix_list (pv 2) pe_int (fun _ _ => rfl)) pa_nil))) (pa_cons (pe_tup (pa_cons pe_str (pa_cons (pe_ix ix_list (pv 2) pe_int (fun _ _ => rfl)) pa_nil))) pa_nil))))
      (pss_one (ps_ret (pe_make TR.m GR hr7 rfl TR.g bR .nil passL (pa_cons (pv 1) (pa_cons (pv 4) (pa_cons (pe_lst (pa_cons (pe_tup (pa_cons pe_str (pa_cons (pe_ix ix_list (pv 3) pe_int (fun _ _ => rfl)) (pa_cons pe_str pa_nil)))) pa_nil)) (pa_cons (pe_tup (pa_cons pe_str (pa_cons (pe_ix ix_list (pv 3) pe_int (fun _ _ => rfl)) (pa_cons pe_str pa_nil)))) (pa_cons pe_str pa_nil)))))))))), ?_⟩
    rw [show L2.start ["_law_part", "_law_name_here", "_law_kinds", "_law_told_here", "_law_variables"] [V.ref t] = [some (.ref t), none, none, none, none] from rfl]
    refine ⟨_, rfl, t, _, rfl, SqT.of h1, rfl, _, _, rfl, _, _, rfl, _, _, rfl, rfl, ?_⟩
    dsimp only [gName, List.set_cons_succ, List.set_cons_zero]
    refine ⟨_, rfl, ?_⟩
    dsimp only [tC]
    refine rdList h2 (j := 0) rfl rfl ⟨by show 2 ≤ sizeLine; decide, fun t1 ht1 => ⟨_, rfl, ?_⟩⟩
    dsimp only [tC]
    refine rdList ((Same.upd ht1) _ _ h2) (j := 1) rfl rfl ⟨by show 2 ≤ sizeLine; decide, fun t2 ht2 => ⟨by show 2 ≤ sizeLine; decide, fun lv hlv => ?_⟩⟩
    have T4 : Same H (upd (upd (upd H t1 (.tup [.str vA, sortV x.k0])) t2 (.tup [.str vB, sortV x.k1])) lv (.lst [.ref t1, .ref t2])) := (Same.upd ht1).trans ((Same.upd ht2).trans (Same.upd hlv))
    have et1 : (upd (upd (upd H t1 (.tup [.str vA, sortV x.k0])) t2 (.tup [.str vB, sortV x.k1])) lv (.lst [.ref t1, .ref t2])) t1 = some (.tup (varV (vA, x.k0))) := (Same.upd hlv) _ _ ((Same.upd ht2) _ _ upd_same)
    have et2 : (upd (upd (upd H t1 (.tup [.str vA, sortV x.k0])) t2 (.tup [.str vB, sortV x.k1])) lv (.lst [.ref t1, .ref t2])) t2 = some (.tup (varV (vB, x.k1))) := (Same.upd hlv) _ _ upd_same
    have elv : (upd (upd (upd H t1 (.tup [.str vA, sortV x.k0])) t2 (.tup [.str vB, sortV x.k1])) lv (.lst [.ref t1, .ref t2])) lv = some (.lst (([t1, t2] : List Addr).map V.ref)) := upd_same
    generalize upd (upd (upd H t1 (.tup [.str vA, sortV x.k0])) t2 (.tup [.str vB, sortV x.k1])) lv (.lst [.ref t1, .ref t2]) = H4 at T4 et1 et2 elv
    dsimp only [gName, List.set_cons_succ, List.set_cons_zero]
    refine ⟨_, rfl, _, rfl, _, rfl, ?_⟩
    dsimp only [tC]
    refine rdList (T4 _ _ h3) (j := 0) rfl rfl ⟨by show 3 ≤ sizeLine; decide, fun t3 ht3 => ⟨by show 1 ≤ sizeLine; decide, fun lc hlc => ⟨_, rfl, ?_⟩⟩⟩
    have T5 : Same H4 (upd (upd H4 t3 (.tup [.str vA, .str x.w0, .str vB])) lc (.lst [.ref t3])) := (Same.upd ht3).trans (Same.upd hlc)
    have et3 : (upd (upd H4 t3 (.tup [.str vA, .str x.w0, .str vB])) lc (.lst [.ref t3])) t3 = some (.tup (triV (vA, x.w0, vB))) := (Same.upd hlc) _ _ upd_same
    have elc : (upd (upd H4 t3 (.tup [.str vA, .str x.w0, .str vB])) lc (.lst [.ref t3])) lc = some (.lst (([t3] : List Addr).map V.ref)) := upd_same
    dsimp only [tC]
    generalize upd (upd H4 t3 (.tup [.str vA, .str x.w0, .str vB])) lc (.lst [.ref t3]) = H5 at T5 et3 elc
    have S05 := T4.trans T5
    refine rdList (S05 _ _ h3) (j := 1) rfl rfl ⟨by show 3 ≤ sizeLine; decide, fun g hg => ?_⟩
    have T6 : Same H5 (upd H5 g (.tup [.str vB, .str x.w1, .str vA])) := Same.upd hg
    have eg : (upd H5 g (.tup [.str vB, .str x.w1, .str vA])) g = some (.tup (triV (ruD x).g)) := upd_same
    generalize upd H5 g (.tup [.str vB, .str x.w1, .str vA]) = H6 at T6 eg
    have T46 := T5.trans T6
    have T06 := T4.trans T46
    refine rul_new (vars := (ruD x).p.vars) (cs := (ruD x).p.cs) (gt := (ruD x).g) (SqL.of (T46 _ _ elv)) ⟨SqT.of (T46 _ _ et1), SqT.of (T46 _ _ et2), True.intro⟩ (SqL.of (T6 _ _ elc)) ⟨SqT.of (T6 _ _ et3), True.intro⟩ eg (ru_pat x) (ru_tx px) fun o H7 no S7 at7 => ?_
    exact k o H7 (T06.free no) (T06.trans S7) at7
theorem scLbr : FnScope ["_law_part", "_law_name_here", "_law_kinds", "_law_told_here"] ["_law_part"] (defScope sLbr) := ⟨rfl, rfl, rfl, by decide +kernel, rfl, by decide +kernel, by decide +kernel⟩
theorem ok_lbr {f fB BB : Addr} {fd dB : FuncData} (F : Fun K "_law_bar" "_law_bar" sLbr f fd) (TB : TxBar K mg BB fB) (bB : Binds K dB ["self", "name", "variables", "conditions"] []) (GB : FnOk P w K mg base (L2.CX P w) 6 fB dB ["self", "name", "variables", "conditions"] (spBar K (C 1) BB)) : FnOk P w K mg base CX0 8 f fd ["_law_part"] (spLbr K BB) := by
  refine F.ok scLbr (fun vs H Q E h => ?_) (fun cdv A outer s H vs Q E hr h => ?_)
  · obtain ⟨t, x, rfl, _⟩ := h
    rfl
  · obtain ⟨t, x, rfl, ⟨g1, g2, h1, h2, h3⟩, px, k⟩ := h
    have hr7 : Room 7 _ := hr
    refine ⟨_, (pss_cons (ps_asg (pv 0) (pg_tup rfl (pgs_cons (pg_name (i := 1) scLbr.nd rfl (Or.inl rfl)) (pgs_cons (pg_name (i := 2) scLbr.nd rfl (Or.inl rfl)) (pgs_cons (pg_name (i := 3) scLbr.nd rfl (Or.inl rfl)) pgs_nil)))))
      (pss_one (ps_ret (pe_make TB.m GB hr7 rfl TB.g bB .nil passL (pa_cons (pv 1) (pa_cons (pe_lst (pa_cons (pe_tup (pa_cons pe_str (pa_cons (pe_ix ix_list (pv 2) pe_int (fun _ _ => rfl)) pa_nil))) (pa_cons (pe_tup (pa_cons pe_str (pa_cons (pe_ix ix_list (pv 2) pe_int (fun _ _ => rfl)) pa_nil))) pa_nil))) (pa_cons (pe_lst (pa_cons (pe_tup (pa_cons pe_str (pa_cons (pe_ix ix_list (pv 3) pe_int (fun _ _ => rfl)) (pa_cons pe_str pa_nil)))) pa_nil)) pa_nil))))))), ?_⟩
    rw [show L2.start ["_law_part", "_law_name_here", "_law_kinds", "_law_told_here"] [V.ref t] = [some (.ref t), none, none, none] from rfl]
    refine ⟨_, rfl, t, _, rfl, SqT.of h1, rfl, _, _, rfl, _, _, rfl, _, _, rfl, rfl, ?_⟩
    dsimp only [gName, List.set_cons_succ, List.set_cons_zero]
    refine ⟨_, rfl, _, rfl, ?_⟩
    dsimp only [tC]
    refine rdList h2 (j := 0) rfl rfl ⟨by show 2 ≤ sizeLine; decide, fun t1 ht1 => ⟨_, rfl, ?_⟩⟩
    dsimp only [tC]
    refine rdList ((Same.upd ht1) _ _ h2) (j := 1) rfl rfl ⟨by show 2 ≤ sizeLine; decide, fun t2 ht2 => ⟨by show 2 ≤ sizeLine; decide, fun lv hlv => ?_⟩⟩
    have T4 : Same H (upd (upd (upd H t1 (.tup [.str vA, sortV x.k0])) t2 (.tup [.str vB, sortV x.k1])) lv (.lst [.ref t1, .ref t2])) := (Same.upd ht1).trans ((Same.upd ht2).trans (Same.upd hlv))
    have et1 : (upd (upd (upd H t1 (.tup [.str vA, sortV x.k0])) t2 (.tup [.str vB, sortV x.k1])) lv (.lst [.ref t1, .ref t2])) t1 = some (.tup (varV (vA, x.k0))) := (Same.upd hlv) _ _ ((Same.upd ht2) _ _ upd_same)
    have et2 : (upd (upd (upd H t1 (.tup [.str vA, sortV x.k0])) t2 (.tup [.str vB, sortV x.k1])) lv (.lst [.ref t1, .ref t2])) t2 = some (.tup (varV (vB, x.k1))) := (Same.upd hlv) _ _ upd_same
    have elv : (upd (upd (upd H t1 (.tup [.str vA, sortV x.k0])) t2 (.tup [.str vB, sortV x.k1])) lv (.lst [.ref t1, .ref t2])) lv = some (.lst (([t1, t2] : List Addr).map V.ref)) := upd_same
    generalize upd (upd (upd H t1 (.tup [.str vA, sortV x.k0])) t2 (.tup [.str vB, sortV x.k1])) lv (.lst [.ref t1, .ref t2]) = H4 at T4 et1 et2 elv
    refine ⟨_, rfl, ?_⟩
    dsimp only [tC]
    refine rdList (T4 _ _ h3) (j := 0) rfl rfl ⟨by show 3 ≤ sizeLine; decide, fun t3 ht3 => ⟨by show 1 ≤ sizeLine; decide, fun lc hlc => ?_⟩⟩
    have T5 : Same H4 (upd (upd H4 t3 (.tup [.str vA, .str x.w0, .str vB])) lc (.lst [.ref t3])) := (Same.upd ht3).trans (Same.upd hlc)
    have et3 : (upd (upd H4 t3 (.tup [.str vA, .str x.w0, .str vB])) lc (.lst [.ref t3])) t3 = some (.tup (triV (vA, x.w0, vB))) := (Same.upd hlc) _ _ upd_same
    have elc : (upd (upd H4 t3 (.tup [.str vA, .str x.w0, .str vB])) lc (.lst [.ref t3])) lc = some (.lst (([t3] : List Addr).map V.ref)) := upd_same
    generalize upd (upd H4 t3 (.tup [.str vA, .str x.w0, .str vB])) lc (.lst [.ref t3]) = H5 at T5 et3 elc
    have S05 := T4.trans T5
    refine bar_new (vars := (baD x).vars) (cs := (baD x).cs) (SqL.of (T5 _ _ elv)) ⟨SqT.of (T5 _ _ et1), SqT.of (T5 _ _ et2), True.intro⟩ (SqL.of elc) ⟨SqT.of et3, True.intro⟩ (ba_pat x) (ba_tx px) fun o H7 no S7 at7 => ?_
    exact k o H7 (S05.free no) (S05.trans S7) at7
theorem scLmk : FnScope ["_law_part"] ["_law_part"] (defScope sLmk) := ⟨rfl, rfl, rfl, by decide +kernel, rfl, by decide +kernel, by decide +kernel⟩
theorem ok_lmk {f fM MB : Addr} {fd dM : FuncData} (F : Fun K "_law_making" "_law_making" sLmk f fd) (tl : mg "list" = none) (TM : TxMak K mg MB fM) (bM : Binds K dM ["self", "maker", "made", "down", "up"] []) (GM : FnOk P w K mg base (L2.CX P w) 5 fM dM ["self", "maker", "made", "down", "up"] (spMak K (C 1) MB)) : FnOk P w K mg base CX0 7 f fd ["_law_part"] (spLmk K MB) := by
  refine F.ok scLmk (fun vs H Q E h => ?_) (fun cdv A outer s H vs Q E hr h => ?_)
  · obtain ⟨t, x, rfl, _⟩ := h
    rfl
  · obtain ⟨t, x, rfl, ⟨g1, g2, h1, h2, h3⟩, px, k⟩ := h
    have hr6 : Room 6 _ := hr
    refine ⟨_, (pss_one (ps_ret (pe_make TM.m GM hr6 rfl TM.g bM .nil passL (pa_cons (pe_ix ix_tup (pv 0) pe_int (fun _ _ => rfl)) (pa_cons (pe_ix ix_tup (pv 0) pe_int (fun _ _ => rfl)) (pa_cons (pe_callTy call_list_of (by rfl) tl (by decide +kernel) (pa_cons (pe_ix ix_tup (pv 0) pe_int (fun _ _ => rfl)) pa_nil)) (pa_cons (pe_callTy call_list_of (by rfl) tl (by decide +kernel) (pa_cons (pe_ix ix_tup (pv 0) pe_int (fun _ _ => rfl)) pa_nil)) pa_nil))))))), ?_⟩
    rw [show L2.start ["_law_part"] [V.ref t] = [some (.ref t)] from rfl]
    refine ⟨_, rfl, t, _, 0, _, rfl, rfl, SqT.of h1, atI_nat (j := 0) rfl, _, rfl, t, _, 1, _, rfl, rfl, SqT.of h1, atI_nat (j := 1) rfl, _, rfl, t, _, 2, _, rfl, rfl, SqT.of h1, atI_nat (j := 2) rfl, g1, _, rfl, .inl (SqL.of h2), fun l1 hl1 => ?_⟩
    have T1 : Same H (upd H l1 (.lst (x.dn.map V.str))) := Same.upd hl1
    have e1 : (upd H l1 (.lst (x.dn.map V.str))) l1 = some (.lst (x.dn.map V.str)) := upd_same
    generalize upd H l1 (.lst (x.dn.map V.str)) = H1 at T1 e1
    refine ⟨_, rfl, t, _, 3, _, rfl, rfl, SqT.of (T1 _ _ h1), atI_nat (j := 3) rfl, g2, _, rfl, .inl (SqL.of (T1 _ _ h3)), fun l2 hl2 => ?_⟩
    have T2 : Same H1 (upd H1 l2 (.lst (x.up.map V.str))) := Same.upd hl2
    have e2 : (upd H1 l2 (.lst (x.up.map V.str))) l2 = some (.lst (x.up.map V.str)) := upd_same
    generalize upd H1 l2 (.lst (x.up.map V.str)) = H2 at T2 e2
    have T02 := T1.trans T2
    refine mak_new (SqL.of (T2 _ _ e1)) (SqL.of e2) (Nat.le_trans px.d1 (by decide)) (Nat.le_trans px.u1 (by decide)) (noTw1 px.d1) (noTw1 px.u1) (mk_tx px.tx) fun o H3 no S3 at3 => ?_
    exact k o H3 (T02.free no) (T02.trans S3) at3
end
end Wm
namespace Wm
open PySem L2 StX
/-- one change of a scheme -/
inductive Chg where
  | wr (x : PaT)
  | wb (x : PaT)
  | wm (x : MkD)
  | or (x : PaT)
  | ob (x : PaT)
  | om (a b : Str)
def chN : Chg → Str
  | .wr _ => PySem.Str.ofString "with_rule"
  | .wb _ => PySem.Str.ofString "with_bar"
  | .wm _ => PySem.Str.ofString "with_making"
  | .or _ => PySem.Str.ofString "without_rule"
  | .ob _ => PySem.Str.ofString "without_bar"
  | .om _ _ => PySem.Str.ofString "without_making"
def chP (H : Hp) (pt : Addr) : Chg → Prop
  | .wr x => PtAt H pt x
  | .wb x => PtAt H pt x
  | .wm x => MtAt H pt x
  | .or x => PtAt H pt x
  | .ob x => PtAt H pt x
  | .om a b => H pt = some (.tup [.str a, .str b])
theorem chP.kp {H H' : Hp} {pt : Addr} {c : Chg} (k : Kp H H') (h : chP H pt c) : chP H' pt c := by
  cases c with
  | wr x => exact PtAt.kp k h
  | wb x => exact PtAt.kp k h
  | wm x => exact MtAt.kp k h
  | or x => exact PtAt.kp k h
  | ob x => exact PtAt.kp k h
  | om a b => exact k _ _ ns_tup h
def prM (x : MkD) : Str × Str := (x.mr, x.md)
def chDue (ss ws : List Str) (ms : List MkD) (rs bs : List PaT) : Chg → Option Rf
  | .wr x => dueR ss ws rs x
  | .wb x => dueB ss ws bs x
  | .wm x => dueK ss ws ms x
  | .or x => if x.nm ∈ rs.map (·.nm) then none else some (.nr x.nm)
  | .ob x => if x.nm ∈ bs.map (·.nm) then none else some (.nb x.nm)
  | .om a b => if (a, b) ∈ ms.map prM then none else some (.nmk a b)
structure Mkd (ss ws : List Str) (x : MkD) : Prop where
  mr : Wd ss x.mr
  md : Wd ss x.md
  dn : ∀ z ∈ x.dn, Wd ws z
  up : ∀ z ∈ x.up, Wd ws z
  d1 : x.dn.length ≤ 1
  u1 : x.up.length ≤ 1
def ChOk (ss ws pl : List Str) : Chg → Prop
  | .wr x => Ptd ss ws pl x
  | .wb x => Ptd ss ws pl x
  | .wm x => Mkd ss ws x
  | .or x => Ptd ss ws pl x
  | .ob x => Ptd ss ws pl x
  | .om a b => Wd ss a ∧ Wd ss b
/-- what is asked of the parts that stand -/
structure Wo (ss ws : List Str) (ms : List MkD) (rs bs : List PaT) : Prop where
  so : ∀ z ∈ ss, okS z
  wo : ∀ z ∈ ws, okS z
  ml : ms.length ≤ 100
  rl : rs.length ≤ 100
  bl : bs.length ≤ 100
  mo : ∀ y ∈ ms, okS y.mr ∧ okS y.md
theorem Wd.ok {zs : List Str} {z : Str} (h : Wd zs z) (o : ∀ y ∈ zs, okS y) : okS z := by
  rcases h with h | h
  · exact o z h
  · rw [h]
    exact str_ok'.2
theorem VlAt.same {o : Option Rf} {v : V} {H H' : Hp} (S : Same H H') (h : VlAt o v H) : VlAt o v H' := by
  cases o with
  | none => exact h
  | some r =>
    obtain ⟨t, e, ht⟩ := h
    exact ⟨t, e, S _ _ ht⟩
theorem rd_twoV {K : PySem.W.Frag} {x y : V} {b : Bool} {H : Hp} {l : Addr} {Q : VK} (h : H l = some (.lst [x, y])) (q : Q (if b = true then y else x) H) : rIxL K (.ref l) (.int (if b = true then 1 else 0)) H Q := by
  cases b
  · exact rdList h (j := 0) rfl rfl q
  · exact rdList h (j := 1) rfl rfl q
theorem rep01 {z : Str} {d : Int} (h0 : 0 ≤ d) (h2 : d < 2) : ∃ us : List Str, (List.replicate d.toNat [V.str z]).flatten = us.map V.str ∧ us.length ≤ 1 ∧ ∀ y ∈ us, y = z := by
  rcases (by omega : d = 0 ∨ d = 1) with rfl | rfl
  · exact ⟨[], rfl, Nat.zero_le _, fun y hy => (List.not_mem_nil hy).elim⟩
  · exact ⟨[z], rfl, Nat.le_refl _, fun y hy => List.mem_singleton.mp hy⟩
def spLch : Sp := fun vs H Q _ => ∃ (p m l1 l2 l3 l4 l5 l6 : Addr) (kvs : List (L2.Key × V)) (ts us vs' : List Addr) (ss ws pl : List Str) (ms : List MkD) (rs bs : List PaT), vs = [.ref p, .ref m] ∧ StOk H p ∧ Mdl H m l1 l2 l3 l4 l5 l6 kvs ts us vs' ss ws pl ms rs bs ∧ Sz ss ws pl ∧ Wo ss ws ms rs bs ∧
  ∀ t pt dv c H', ChOk ss ws pl c → But p H H' → StOk H' p → H' t = some (.tup [.str (chN c), .ref pt, dv]) → chP H' pt c → VlAt (chDue ss ws ms rs bs c) dv H' → Q (.ref t) H'
section
variable {P : Program} {w : World} {K : PySem.W.Frag} {mg : Str → Option Value} {base : Heap} {C : Nat → Addr}
theorem scLch : FnScope ["_law_s", "_law_m", "_law_way", "_law_part", "_law_words", "_law_known", "_law_kind", "_law_one"] ["_law_s", "_law_m"] (defScope sLch) := ⟨rfl, rfl, rfl, by decide +kernel, rfl, by decide +kernel, by decide +kernel⟩
theorem ok_lch {f fG fS fW fP fD fK : Addr} {fd dG dS dW dP dD dK : FuncData} (F : Fun K "_law_change" "_law_change" sLch f fd) (T : TxB mg) (DG : Dn K mg "_law_digit" sDigit ["_law_state_here", "_law_base"] fG dG) (DSo : Dn K mg "_law_sort" sLso ["_law_s", "_law_m"] fS dS) (DWo : Dn K mg "_law_word" sLwo ["_law_s", "_law_m"] fW dW) (DPn : Dn K mg "_law_pattern" sLpt ["_law_s", "_law_m"] fP dP)
    (DPd : Dn K mg "_law_pattern_due" sLpd ["_law_m", "_law_part", "_law_kind", "_law_most"] fD dD) (DKd : Dn K mg "_law_making_due" sLmd ["_law_m", "_law_part"] fK dK) : FnOk P w K mg base CX0 4 f fd ["_law_s", "_law_m"] spLch := by
  have GG : FnOk P w K mg base CX0 1 fG dG _ spDigit := ok_digit DG.F
  have GSo : FnOk P w K mg base CX0 2 fS dS _ (spDrw "sorts") := ok_lso DSo.F T DG
  have GWo : FnOk P w K mg base CX0 2 fW dW _ (spDrw "words") := ok_lwo DWo.F T DG
  have GPn : FnOk P w K mg base CX0 3 fP dP _ spLpt := ok_lpt DPn.F T DG DSo DWo
  have GPd : FnOk P w K mg base CX0 1 fD dD _ spLpd := ok_lpd DPd.F T
  have GKd : FnOk P w K mg base CX0 1 fK dK _ spLmd := ok_lmd DKd.F T
  refine F.ok scLch (fun vs H Q E h => ?_) (fun cdv A outer s H vs Q E hr h => ?_)
  · obtain ⟨p, m, l1, l2, l3, l4, l5, l6, kvs, ts, us, vs', ss, ws, pl, ms, rs, bs, rfl, _⟩ := h
    rfl
  · obtain ⟨p, m, l1, l2, l3, l4, l5, l6, kvs, ts, us, vs', ss, ws, pl, ms, rs, bs, rfl, S, M, sz, wo, k⟩ := h
    have hu := hu_of hr
    have hr1 : Room 1 _ := hr.mono (by decide)
    have hr2 : Room 2 _ := hr.mono (by decide)
    have hr3 : Room 3 _ := hr
    have sz1 := sz.s1
    have sz2 := sz.s4
    have sz3 := sz.w1
    have sz4 := sz.w3
    have m100 := wo.ml
    refine ⟨_, (pss_cons (ps_set (i := 2) scLch.nd rfl (Or.inl rfl) (pe_call GG hr1 rfl DG.g DG.F.kp DG.b .nil pass0 (pa_cons (pv 0) (pa_cons pe_int pa_nil))))
      (pss_cons (ps_if (pt_cmpR op_lt (pv 2) pe_int (nomark _)) (pss_cons (ps_set (i := 3) scLch.nd rfl (Or.inl rfl) (pe_call GPn hr3 rfl DPn.g DPn.F.kp DPn.b .nil pass0 (pa_cons (pv 0) (pa_cons (pv 1) pa_nil))))
      (pss_one (ps_ret (pe_tup (pa_cons pe_str (pa_cons (pv 3) (pa_cons (pe_call GPd hr1 rfl DPd.g DPd.F.kp DPd.b .nil pass0 (pa_cons (pv 1) (pa_cons (pv 3) (pa_cons pe_str (pa_cons pe_int pa_nil))))) pa_nil))))))) pss_nil)
      (pss_cons (ps_if (pt_cmpR op_eq (pv 2) pe_int (nomark _)) (pss_cons (ps_set (i := 3) scLch.nd rfl (Or.inl rfl) (pe_call GPn hr3 rfl DPn.g DPn.F.kp DPn.b .nil pass0 (pa_cons (pv 0) (pa_cons (pv 1) pa_nil))))
      (pss_one (ps_ret (pe_tup (pa_cons pe_str (pa_cons (pv 3) (pa_cons (pe_call GPd hr1 rfl DPd.g DPd.F.kp DPd.b .nil pass0 (pa_cons (pv 1) (pa_cons (pv 3) (pa_cons pe_str (pa_cons pe_int pa_nil))))) pa_nil))))))) pss_nil)
      (pss_cons (ps_if (pt_cmpR op_eq (pv 2) pe_int (nomark _)) (pss_cons (ps_set (i := 4) scLch.nd rfl (Or.inl rfl) (pe_op op_rep (pe_lst (pa_cons (pe_call GWo hr2 rfl DWo.g DWo.F.kp DWo.b .nil pass0 (pa_cons (pv 0) (pa_cons (pv 1) pa_nil))) pa_nil)) (pe_call GG hr1 rfl DG.g DG.F.kp DG.b .nil pass0 (pa_cons (pv 0) (pa_cons pe_int pa_nil)))))
      (pss_cons (ps_set (i := 3) scLch.nd rfl (Or.inl rfl) (pe_tup (pa_cons (pe_call GSo hr2 rfl DSo.g DSo.F.kp DSo.b .nil pass0 (pa_cons (pv 0) (pa_cons (pv 1) pa_nil))) (pa_cons (pe_call GSo hr2 rfl DSo.g DSo.F.kp DSo.b .nil pass0 (pa_cons (pv 0) (pa_cons (pv 1) pa_nil))) (pa_cons (pv 4) (pa_cons (pe_op op_rep (pe_lst (pa_cons (pe_call GWo hr2 rfl DWo.g DWo.F.kp DWo.b .nil pass0 (pa_cons (pv 0) (pa_cons (pv 1) pa_nil))) pa_nil)) (pe_call GG hr1 rfl DG.g DG.F.kp DG.b .nil pass0 (pa_cons (pv 0) (pa_cons pe_int pa_nil)))) pa_nil))))))
      (pss_one (ps_ret (pe_tup (pa_cons pe_str (pa_cons (pv 3) (pa_cons (pe_call GKd hr1 rfl DKd.g DKd.F.kp DKd.b .nil pass0 (pa_cons (pv 1) (pa_cons (pv 3) pa_nil))) pa_nil)))))))) pss_nil)
      (pss_cons (ps_set (i := 3) scLch.nd rfl (Or.inl rfl) (pe_call GPn hr3 rfl DPn.g DPn.F.kp DPn.b .nil pass0 (pa_cons (pv 0) (pa_cons (pv 1) pa_nil))))
      (pss_cons (ps_if (pt_cmpR op_eq (pv 2) pe_int (nomark _)) (pss_cons (ps_set (i := 3) scLch.nd rfl (Or.inl rfl) (pe_tup (pa_cons (pe_call GSo hr2 rfl DSo.g DSo.F.kp DSo.b .nil pass0 (pa_cons (pv 0) (pa_cons (pv 1) pa_nil))) (pa_cons (pe_call GSo hr2 rfl DSo.g DSo.F.kp DSo.b .nil pass0 (pa_cons (pv 0) (pa_cons (pv 1) pa_nil))) pa_nil))))
      (pss_cons (ps_set (i := 5) scLch.nd rfl (Or.inl rfl) (pe_cmpR (op_inD (u65 hr)) (pv 3) (pe_lc (own := [("_law_one", 7)]) (g := gName 7) (tt := tYes) (te := (tTup (tCons (tOp (rIxT K) (tVar 7) (tC (.int 0))) (tCons (tOp (rIxT K) (tVar 7) (tC (.int 1))) tNil)))) rfl scLch.nd (pi_list (pe_dget hu (pv 1) pe_str (fun _ _ => rfl))) (blkOk_by (N := ["_law_s", "_law_m", "_law_way", "_law_part", "_law_words", "_law_known", "_law_kind", "_law_one"]) (sc := defScope sLch) (by decide +kernel)) (fun _ _ _ _ _ => (pg_name (i := 7) scLch.nd rfl (Or.inl rfl))) (fun _ _ _ _ _ => pts_nil) (fun _ _ _ _ _ => (pe_tup (pa_cons (pe_ix ix_tup (pv 7) pe_int (fun _ _ => rfl)) (pa_cons (pe_ix ix_tup (pv 7) pe_int (fun _ _ => rfl)) pa_nil))))) (by rfl)))
      (pss_one (ps_ret (pe_tup (pa_cons pe_str (pa_cons (pv 3) (pa_cons (pe_ix ix_list (pe_lst (pa_cons (pe_tup (pa_cons pe_str (pa_cons (pe_ix ix_tup (pv 3) pe_int (fun _ _ => rfl)) (pa_cons (pe_ix ix_tup (pv 3) pe_int (fun _ _ => rfl)) pa_nil)))) (pa_cons pe_non pa_nil))) (pe_callTy call_int1 (by rfl) T.int (by decide +kernel) (pa_cons (pv 5) pa_nil)) (fun _ _ => rfl)) pa_nil)))))))) pss_nil)
      (pss_cons (ps_set (i := 6) scLch.nd rfl (Or.inl rfl) (pe_ix ix_list (pe_lst (pa_cons pe_str (pa_cons pe_str pa_nil))) (pe_op op_sub (pv 2) pe_int) (fun _ _ => rfl)))
      (pss_cons (ps_set (i := 5) scLch.nd rfl (Or.inl rfl) (pe_cmpR op_in_seq (pe_ix ix_tup (pv 3) pe_int (fun _ _ => rfl)) (pe_lc (own := [("_law_one", 7)]) (g := gName 7) (tt := tYes) (te := (tOp (rIxT K) (tVar 7) (tC (.int 0)))) rfl scLch.nd (pi_list (pe_dget hu (pv 1) (pv 6) (fun _ _ => rfl))) (blkOk_by (N := ["_law_s", "_law_m", "_law_way", "_law_part", "_law_words", "_law_known", "_law_kind", "_law_one"]) (sc := defScope sLch) (by decide +kernel)) (fun _ _ _ _ _ => (pg_name (i := 7) scLch.nd rfl (Or.inl rfl))) (fun _ _ _ _ _ => pts_nil) (fun _ _ _ _ _ => (pe_ix ix_tup (pv 7) pe_int (fun _ _ => rfl)))) (by rfl)))
      (pss_one (ps_ret (pe_tup (pa_cons (pe_ix ix_list (pe_lst (pa_cons pe_str (pa_cons pe_str pa_nil))) (pe_op op_sub (pv 2) pe_int) (fun _ _ => rfl)) (pa_cons (pv 3) (pa_cons (pe_ix ix_list (pe_lst (pa_cons (pe_tup (pa_cons (pe_ix ix_list (pe_lst (pa_cons pe_str (pa_cons pe_str pa_nil))) (pe_op op_sub (pv 2) pe_int) (fun _ _ => rfl)) (pa_cons (pe_ix ix_tup (pv 3) pe_int (fun _ _ => rfl)) pa_nil))) (pa_cons pe_non pa_nil))) (pe_callTy call_int1 (by rfl) T.int (by decide +kernel) (pa_cons (pv 5) pa_nil)) (fun _ _ => rfl)) pa_nil)))))))))))))), ?_⟩
    rw [show L2.start ["_law_s", "_law_m", "_law_way", "_law_part", "_law_words", "_law_known", "_law_kind", "_law_one"] [V.ref p, V.ref m] = [some (.ref p), some (.ref m), none, none, none, none, none, none] from rfl]
    refine ⟨_, rfl, p, 8, rfl, S, by decide, by decide, fun d H1 a1 b1 B1 S1 => ?_⟩
    dsimp only [gName, List.set_cons_succ, List.set_cons_zero]
    have M1 := M.kp (B1.kp S)
    refine ⟨_, rfl, _, _, rfl, rfl, _, rfl, ite2 (fun _ => ?_) (fun c1 => ?_)⟩
    · dsimp only
      refine ⟨_, rfl, _, rfl, p, m, l1, l2, l3, l4, l5, l6, kvs, ts, us, vs', ss, ws, pl, ms, rs, bs, rfl, S1, M1, sz, fun t x H2 px B2 S2 at2 => ?_⟩
      dsimp only [gName, List.set_cons_succ, List.set_cons_zero]
      have M2 := M1.kp (B2.kp S1)
      refine ⟨_, rfl, _, rfl, _, rfl, m, t, l1, l2, l4, kvs, us, ss, ws, rs, x, PySem.Str.ofString "rules", 8, false, rfl, by decide +kernel, M2.hm, M2.k1, M2.k2, M2.k4, M2.h1, M2.h2, M2.h4, M2.a4, at2, wo.rl, fun v H3 S3 vl => ⟨by show 3 ≤ sizeLine; decide, fun u hu' => ?_⟩⟩
      have T4 := S3.trans (Same.upd (o := .tup [.str (PySem.Str.ofString "with_rule"), .ref t, v]) hu')
      exact k u t v (.wr x) _ px ((B1.trans B2).trans (Same.but T4)) (S2.same T4) upd_same (at2.kp (Same.kp T4)) (VlAt.same (Same.upd hu') vl)
    have c1 : ¬ d < 3 := fun z => c1 (decide_eq_true z)
    dsimp only [tNext]
    refine ⟨_, rfl, rfl, _, rfl, ite2 (fun _ => ?_) (fun c2 => ?_)⟩
    · dsimp only
      refine ⟨_, rfl, _, rfl, p, m, l1, l2, l3, l4, l5, l6, kvs, ts, us, vs', ss, ws, pl, ms, rs, bs, rfl, S1, M1, sz, fun t x H2 px B2 S2 at2 => ?_⟩
      dsimp only [gName, List.set_cons_succ, List.set_cons_zero]
      have M2 := M1.kp (B2.kp S1)
      refine ⟨_, rfl, _, rfl, _, rfl, m, t, l1, l2, l5, kvs, vs', ss, ws, bs, x, PySem.Str.ofString "bars", 4, true, rfl, by decide +kernel, M2.hm, M2.k1, M2.k2, M2.k5, M2.h1, M2.h2, M2.h5, M2.a5, at2, wo.bl, fun v H3 S3 vl => ⟨by show 3 ≤ sizeLine; decide, fun u hu' => ?_⟩⟩
      have T4 := S3.trans (Same.upd (o := .tup [.str (PySem.Str.ofString "with_bar"), .ref t, v]) hu')
      exact k u t v (.wb x) _ px ((B1.trans B2).trans (Same.but T4)) (S2.same T4) upd_same (at2.kp (Same.kp T4)) (VlAt.same (Same.upd hu') vl)
    have c2 : ¬ d = 3 := fun z => c2 (decide_eq_true (by rw [z]))
    dsimp only [tNext]
    refine ⟨_, rfl, rfl, _, rfl, ite2 (fun _ => ?_) (fun c3 => ?_)⟩
    · dsimp only
      refine ⟨_, rfl, _, rfl, p, m, l2, kvs, ws, rfl, S1, M1.hm, M1.k2, M1.h2, sz3, by omega, fun z1 H2 w1 B2 S2 => ⟨by show 1 ≤ sizeLine; decide, fun k1 hk1 => ?_⟩⟩
      have nk1 := st_free S2 hk1
      have T3 : Same H2 (upd H2 k1 (.lst [.str z1])) := Same.upd hk1
      have e3 : (upd H2 k1 (.lst [.str z1])) k1 = some (.lst [.str z1]) := upd_same
      have S3 := S2.same T3
      generalize upd H2 k1 (.lst [.str z1]) = H3 at T3 e3 S3
      have B3 : But p H1 H3 := B2.trans (Same.but T3)
      refine ⟨_, rfl, p, 2, rfl, S3, by decide, by decide, fun r1 H4 a4 b4 B4 S4 => ?_⟩
      obtain ⟨dn, hdn, d1, dok⟩ := rep01 (z := z1) a4 b4
      refine ⟨k1, r1, _, rfl, rfl, B4 _ _ nk1 e3, by omega, by omega, Nat.le_trans (show 1 * r1.toNat ≤ 1 by omega) (by decide), fun g1 hg1 => ?_⟩
      rw [hdn]
      have ng1 := st_free S4 hg1
      have T5 : Same H4 (upd H4 g1 (.lst (dn.map V.str))) := Same.upd hg1
      have e5 : (upd H4 g1 (.lst (dn.map V.str))) g1 = some (.lst (dn.map V.str)) := upd_same
      have S5 := S4.same T5
      generalize upd H4 g1 (.lst (dn.map V.str)) = H5 at T5 e5 S5
      have B5 : But p H1 H5 := (B3.trans B4).trans (Same.but T5)
      have M5 := M1.kp (B5.kp S1)
      dsimp only [gName, List.set_cons_succ, List.set_cons_zero]
      refine ⟨_, rfl, _, rfl, p, m, l1, kvs, ss, rfl, S5, M5.hm, M5.k1, M5.h1, sz1, by omega, fun mr H6 wmr B6 S6 => ?_⟩
      have M6 := M5.kp (B6.kp S5)
      refine ⟨_, rfl, _, rfl, p, m, l1, kvs, ss, rfl, S6, M6.hm, M6.k1, M6.h1, sz1, by omega, fun md H7 wmd B7 S7 => ?_⟩
      have M7 := M6.kp (B7.kp S6)
      refine ⟨_, rfl, _, rfl, _, rfl, p, m, l2, kvs, ws, rfl, S7, M7.hm, M7.k2, M7.h2, sz3, by omega, fun z2 H8 w2 B8 S8 => ⟨by show 1 ≤ sizeLine; decide, fun k2 hk2 => ?_⟩⟩
      have nk2 := st_free S8 hk2
      have T9 : Same H8 (upd H8 k2 (.lst [.str z2])) := Same.upd hk2
      have e9 : (upd H8 k2 (.lst [.str z2])) k2 = some (.lst [.str z2]) := upd_same
      have S9 := S8.same T9
      generalize upd H8 k2 (.lst [.str z2]) = H9 at T9 e9 S9
      have B9 : But p H5 H9 := ((B6.trans B7).trans B8).trans (Same.but T9)
      refine ⟨_, rfl, p, 2, rfl, S9, by decide, by decide, fun r2 Ha aa ba Ba Sa => ?_⟩
      obtain ⟨up, hup, u1, uok⟩ := rep01 (z := z2) aa ba
      refine ⟨k2, r2, _, rfl, rfl, Ba _ _ nk2 e9, by omega, by omega, Nat.le_trans (show 1 * r2.toNat ≤ 1 by omega) (by decide), fun g2 hg2 => ?_⟩
      rw [hup]
      have Tb : Same Ha (upd Ha g2 (.lst (up.map V.str))) := Same.upd hg2
      have eb : (upd Ha g2 (.lst (up.map V.str))) g2 = some (.lst (up.map V.str)) := upd_same
      have Sb := Sa.same Tb
      generalize upd Ha g2 (.lst (up.map V.str)) = Hb at Tb eb Sb
      have Bb : But p H5 Hb := (B9.trans Ba).trans (Same.but Tb)
      have eb1 := Bb _ _ ng1 e5
      refine ⟨by show 4 ≤ sizeLine; decide, fun t ht => ?_⟩
      dsimp only [gName, List.set_cons_succ, List.set_cons_zero]
      have Tc : Same Hb (upd Hb t (.tup [.str mr, .str md, .ref g1, .ref g2])) := Same.upd ht
      have ec : (upd Hb t (.tup [.str mr, .str md, .ref g1, .ref g2])) t = some (.tup [.str mr, .str md, .ref g1, .ref g2]) := upd_same
      have Sc := Sb.same Tc
      generalize upd Hb t (.tup [.str mr, .str md, .ref g1, .ref g2]) = Hc at Tc ec Sc
      have Bc : But p H Hc := B1.trans (B5.trans (Bb.trans (Same.but Tc)))
      have Mc := M.kp (Bc.kp S)
      have atc : MtAt Hc t ⟨mr, md, dn, up⟩ := ⟨g1, g2, ec, Tc _ _ eb1, Tc _ _ eb⟩
      refine ⟨_, rfl, _, rfl, _, rfl, m, t, l1, l2, l3, kvs, ts, ss, ws, ms, ⟨mr, md, dn, up⟩, rfl, Mc.hm, Mc.k1, Mc.k2, Mc.k3, Mc.h1, Mc.h2, Mc.h3, Mc.a3, atc, m100, Nat.le_trans d1 (by decide), Nat.le_trans u1 (by decide), wo.mo, wmr.ok wo.so, wmd.ok wo.so, fun v Hd Sd vl => ⟨by show 3 ≤ sizeLine; decide, fun u hu' => ?_⟩⟩
      have Te := Sd.trans (Same.upd (o := .tup [.str (PySem.Str.ofString "with_making"), .ref t, v]) hu')
      exact k u t v (.wm ⟨mr, md, dn, up⟩) _ ⟨wmr, wmd, (fun z hz => by rw [dok z hz]; exact w1), (fun z hz => by rw [uok z hz]; exact w2), d1, u1⟩ (Bc.trans (Same.but Te)) (Sc.same Te) upd_same (MtAt.kp (Same.kp Te) atc) (VlAt.same (Same.upd hu') vl)
    have c3 : ¬ d = 4 := fun z => c3 (decide_eq_true (by rw [z]))
    dsimp only [tNext]
    refine ⟨_, rfl, _, rfl, p, m, l1, l2, l3, l4, l5, l6, kvs, ts, us, vs', ss, ws, pl, ms, rs, bs, rfl, S1, M1, sz, fun t x H2 px B2 S2 at2 => ?_⟩
    dsimp only [gName, List.set_cons_succ, List.set_cons_zero]
    have M2 := M1.kp (B2.kp S1)
    refine ⟨_, rfl, rfl, _, rfl, ite2 (fun _ => ?_) (fun c4 => ?_)⟩
    · dsimp only
      refine ⟨_, rfl, _, rfl, p, m, l1, kvs, ss, rfl, S2, M2.hm, M2.k1, M2.h1, sz1, by omega, fun mr H6 wmr B6 S6 => ?_⟩
      have M6 := M2.kp (B6.kp S2)
      refine ⟨_, rfl, _, rfl, p, m, l1, kvs, ss, rfl, S6, M6.hm, M6.k1, M6.h1, sz1, by omega, fun md H7 wmd B7 S7 => ⟨by show 2 ≤ sizeLine; decide, fun tp htp => ?_⟩⟩
      have M7 := M6.kp (B7.kp S6)
      dsimp only [gName, List.set_cons_succ, List.set_cons_zero]
      have T0 : Same H7 (upd H7 tp (.tup [.str mr, .str md])) := Same.upd htp
      have e0 : (upd H7 tp (.tup [.str mr, .str md])) tp = some (.tup [.str mr, .str md]) := upd_same
      have S0 := S7.same T0
      generalize upd H7 tp (.tup [.str mr, .str md]) = H0 at T0 e0 S0
      have M0 := M7.kp (Same.kp T0)
      have B0 : But p H H0 := (B1.trans B2).trans ((B6.trans B7).trans (Same.but T0))
      have al := M0.a3.len
      refine ⟨_, rfl, _, rfl, m, _, rfl, dget_of M0.hm M0.k3, l3, rfl, ⟨_, SqL.of M0.h3⟩, fun D hD => ?_⟩
      refine lc_list (K := K) (a := l3) (xs := ts.map V.ref) (fun i H' => Same H0 H' ∧ ∃ qs : List Addr, H' D = some (.lst (qs.map V.ref)) ∧ RowsAt K H' qs (((ms.map prM).take i).map prV) ∧ qs.length = i) ⟨Same.upd hD, [], upd_same, True.intro, rfl⟩ (fun i H' _ p => SqL.of (p.1 _ _ M0.h3)) ?_ ?_
      · rintro i y H8 hi ⟨T8, qs, hD8, rows, ql⟩
        obtain ⟨a, yy, rfl, hyi, q1, q2, r0, r1, r2⟩ := M0.a3.get hi
        have il : i < ms.length := (List.getElem?_eq_some_iff.mp hyi).1
        have r8 := T8 _ _ r0
        refine ⟨rfl, _, rfl, a, _, 0, _, rfl, rfl, SqT.of r8, atI_nat (j := 0) rfl, _, rfl, a, _, 1, _, rfl, rfl, SqT.of r8, atI_nat (j := 1) rfl, by show 2 ≤ sizeLine; decide, fun t ht => ?_⟩
        have T9 : Same H8 (upd H8 t (.tup [.str yy.mr, .str yy.md])) := Same.upd ht
        have e9 : (upd H8 t (.tup [.str yy.mr, .str yy.md])) t = some (.tup (prV (prM yy))) := upd_same
        generalize upd H8 t (.tup [.str yy.mr, .str yy.md]) = H9 at T9 e9
        have hD9 := T9 _ _ hD8
        refine ⟨_, hD9, ?_, fun b o e => ?_, qs ++ [t], ?_, ?_, ?_⟩
        · rw [List.length_map]
          exact Nat.lt_of_le_of_lt (show _ ≤ 1000 by omega) (by decide)
        · rw [upd_ne (ne_of_none e hD)]
          exact T9 _ _ (T8 _ _ e)
        · rw [upd_same, List.map_append]
          rfl
        · rw [List.take_add_one, List.getElem?_map, hyi, List.map_append]
          exact RowsAt.append (rows_put hD9 (rows.same T9)) ⟨sqT_put hD9 (SqT.of e9), True.intro⟩
        · rw [List.length_append, ql]
          rfl
      rintro H8 ⟨T1, qs, hD1, rows, ql⟩
      rw [List.length_map] at ql
      rw [List.length_map, al, List.take_of_length_le (by rw [List.length_map]; exact Nat.le_refl _)] at rows
      have e1 := T1 _ _ e0
      obtain ⟨q1, q2⟩ := prs_sh (ps := ms.map prM) fun y hy => by
        obtain ⟨z, hz, rfl⟩ := List.mem_map.mp hy
        exact wo.mo z hz
      have shl : SeqAt.shaped (.list ((ms.map prM).map prD)) = true := by
        generalize (ms.map prM).map prD = X at q1 q2
        simp [SeqAt.shaped, PyData.canLay0, PyData.depth, q1]
        omega
      have shp : SeqAt.shaped (prD (mr, md)) = true := by
        have sa := strOk_of (wmr.ok wo.so)
        have sb := strOk_of (wmd.ok wo.so)
        simp [prD, SeqAt.shaped, PyData.canLay0, PyData.canLayAll0, PyData.depth, PyData.depthAll, sa, sb]
      have any : (((ms.map prM).map prD).any fun z => PyData.eqv z (prD (mr, md))) = decide ((mr, md) ∈ ms.map prM) := by
        generalize ms.map prM = L
        rw [Bool.eq_iff_iff, List.any_eq_true, decide_eq_true_iff]
        constructor
        · rintro ⟨z, hz, e⟩
          obtain ⟨p, hp, rfl⟩ := List.mem_map.mp hz
          rw [prD_eqv] at e
          rw [← of_decide_eq_true e]
          exact hp
        · intro h
          exact ⟨_, List.mem_map.mpr ⟨_, h, rfl⟩, by rw [prD_eqv]; exact decide_eq_true rfl⟩
      refine ⟨prD (mr, md), _, .tup (SqT.of e1) (.cons (.str _) (.cons (.str _) .nil)), .lst (SqL.of hD1) (prs_dp rows), shp, shl, ?_⟩
      rw [any]
      dsimp only [gName, List.set_cons_succ, List.set_cons_zero]
      refine ⟨_, rfl, _, rfl, tp, _, 0, _, rfl, rfl, SqT.of e1, atI_nat (j := 0) rfl, _, rfl, tp, _, 1, _, rfl, rfl, SqT.of e1, atI_nat (j := 1) rfl, by show 3 ≤ sizeLine; decide, fun tr htr => ⟨by show 2 ≤ sizeLine; decide, fun lr hlr => ⟨_, rfl, .inr ⟨_, rfl, ?_⟩⟩⟩⟩
      refine rd_twoV upd_same ?_
      have T8 : Same H8 (upd (upd H8 tr (.tup [.str (PySem.Str.ofString "nomaking"), .str mr, .str md])) lr (.lst [.ref tr, .non])) := (Same.upd htr).trans (Same.upd hlr)
      have e8 : (upd (upd H8 tr (.tup [.str (PySem.Str.ofString "nomaking"), .str mr, .str md])) lr (.lst [.ref tr, .non])) tr = some (.tup [.str (PySem.Str.ofString "nomaking"), .str mr, .str md]) := (Same.upd hlr) _ _ upd_same
      have e18 := T8 _ _ e1
      generalize upd (upd H8 tr (.tup [.str (PySem.Str.ofString "nomaking"), .str mr, .str md])) lr (.lst [.ref tr, .non]) = H9 at T8 e8 e18
      refine ⟨by show 3 ≤ sizeLine; decide, fun u hu' => ?_⟩
      have T9 := (T1.trans T8).trans (Same.upd (o := .tup [.str (PySem.Str.ofString "without_making"), .ref tp, if decide ((mr, md) ∈ ms.map prM) = true then V.non else .ref tr]) hu')
      refine k u tp _ (.om mr md) _ ⟨wmr, wmd⟩ (B0.trans (Same.but T9)) (S0.same T9) upd_same ((Same.upd hu') _ _ e18) ?_
      show VlAt (if (mr, md) ∈ ms.map prM then none else some (.nmk mr md)) _ _
      by_cases c : (mr, md) ∈ ms.map prM
      · rw [if_pos c, if_pos (decide_eq_true c)]
        rfl
      · rw [if_neg c, if_neg (by rw [decide_eq_false c]; decide)]
        exact ⟨tr, rfl, (Same.upd hu') _ _ e8⟩
    have c4 : ¬ d = 7 := fun z => c4 (decide_eq_true (by rw [z]))
    dsimp only [tNext]
    rcases (by omega : d = 5 ∨ d = 6) with rfl | rfl
    · refine ⟨by show 2 ≤ sizeLine; decide, fun lk hlk => ⟨_, rfl, _, _, rfl, rfl, ?_⟩⟩
      refine rdList upd_same (j := 0) rfl rfl ?_
      dsimp only [gName, List.set_cons_succ, List.set_cons_zero]
      have T3 : Same H2 (upd H2 lk (.lst [.str (PySem.Str.ofString "rules"), .str (PySem.Str.ofString "bars")])) := Same.upd hlk
      generalize upd H2 lk (.lst [.str (PySem.Str.ofString "rules"), .str (PySem.Str.ofString "bars")]) = H3 at T3
      have M3 := M2.kp (Same.kp T3)
      have at3 := at2.kp (Same.kp T3)
      obtain ⟨g1, g2, p0, p1, p2⟩ := id at3
      have al := M3.a4.len
      have y100 := wo.rl
      refine ⟨_, rfl, t, _, 0, _, rfl, rfl, SqT.of p0, atI_nat (j := 0) rfl, _, rfl, _, rfl, m, _, rfl, dget_of (k := kS "rules") M3.hm M3.k4, l4, rfl, ⟨_, SqL.of M3.h4⟩, fun D hD => ?_⟩
      refine lc_list (K := K) (a := l4) (xs := us.map V.ref) (fun i H' => Same H3 H' ∧ H' D = some (.lst (((rs.map (·.nm)).take i).map V.str))) ⟨Same.upd hD, upd_same⟩ (fun i H' _ p => SqL.of (p.1 _ _ M3.h4)) ?_ ?_
      · rintro i y H' hi ⟨S1, hd⟩
        obtain ⟨a, yy, rfl, hyi, q1, q2, r0, r1, r2⟩ := M3.a4.get hi
        have ri := S1 _ _ r0
        refine ⟨rfl, _, rfl, a, _, 0, _, rfl, rfl, SqT.of ri, atI_nat (j := 0) rfl, _, hd, ?_, fun b o e => ?_, ?_⟩
        · rw [List.length_map, List.length_take, List.length_map]
          exact Nat.lt_of_le_of_lt (show _ ≤ 1000 by omega) (by decide)
        · rw [upd_ne (ne_of_none e hD)]
          exact S1 _ _ e
        · rw [upd_same, List.take_add_one, List.getElem?_map, hyi, List.map_append]
          rfl
      rintro H4 ⟨T4, hd⟩
      rw [List.length_map, al, show rs.length = (rs.map (·.nm)).length by rw [List.length_map], List.take_length] at hd
      refine ⟨D, _, rfl, .inl (SqL.of hd), rfl, flat_strs _, ?_⟩
      rw [show (if false = true then !inV (V.str x.nm) ((rs.map (·.nm)).map V.str) else inV (V.str x.nm) ((rs.map (·.nm)).map V.str)) = decide (x.nm ∈ rs.map (·.nm)) from inV_strs]
      dsimp only [gName, List.set_cons_succ, List.set_cons_zero]
      have T34 := T3.trans T4
      have p4 := T4 _ _ p0
      refine ⟨by show 2 ≤ sizeLine; decide, fun la hla => ⟨_, rfl, _, _, rfl, rfl, ?_⟩⟩
      refine rdList upd_same (j := 0) rfl rfl ?_
      have T5 : Same H4 (upd H4 la (.lst [.str (PySem.Str.ofString "without_rule"), .str (PySem.Str.ofString "without_bar")])) := Same.upd hla
      generalize upd H4 la (.lst [.str (PySem.Str.ofString "without_rule"), .str (PySem.Str.ofString "without_bar")]) = H5 at T5
      refine ⟨_, rfl, by show 2 ≤ sizeLine; decide, fun lb hlb => ⟨_, rfl, _, _, rfl, rfl, ?_⟩⟩
      refine rdList upd_same (j := 0) rfl rfl ?_
      have T6 : Same H5 (upd H5 lb (.lst [.str (PySem.Str.ofString "norule"), .str (PySem.Str.ofString "nobar")])) := Same.upd hlb
      generalize upd H5 lb (.lst [.str (PySem.Str.ofString "norule"), .str (PySem.Str.ofString "nobar")]) = H6 at T6
      have T46 := T5.trans T6
      refine ⟨_, rfl, t, _, 0, _, rfl, rfl, SqT.of (T46 _ _ p4), atI_nat (j := 0) rfl, by show 2 ≤ sizeLine; decide, fun tr htr => ⟨by show 2 ≤ sizeLine; decide, fun lr hlr => ⟨_, rfl, .inr ⟨_, rfl, ?_⟩⟩⟩⟩
      refine rd_twoV upd_same ?_
      have T8 : Same H6 (upd (upd H6 tr (.tup [.str (PySem.Str.ofString "norule"), .str x.nm])) lr (.lst [.ref tr, .non])) := (Same.upd htr).trans (Same.upd hlr)
      have e8 : (upd (upd H6 tr (.tup [.str (PySem.Str.ofString "norule"), .str x.nm])) lr (.lst [.ref tr, .non])) tr = some (.tup [.str (PySem.Str.ofString "norule"), .str x.nm]) := (Same.upd hlr) _ _ upd_same
      generalize upd (upd H6 tr (.tup [.str (PySem.Str.ofString "norule"), .str x.nm])) lr (.lst [.ref tr, .non]) = H8 at T8 e8
      have T28 := T34.trans (T46.trans T8)
      refine ⟨by show 3 ≤ sizeLine; decide, fun u hu' => ?_⟩
      have T9 := T28.trans (Same.upd (o := .tup [.str (PySem.Str.ofString "without_rule"), .ref t, if decide (x.nm ∈ rs.map (·.nm)) = true then V.non else .ref tr]) hu')
      refine k u t _ (.or x) _ px ((B1.trans B2).trans (Same.but T9)) (S2.same T9) upd_same (at2.kp (Same.kp T9)) ?_
      show VlAt (if x.nm ∈ rs.map (·.nm) then none else some (.nr x.nm)) _ _
      by_cases c : x.nm ∈ rs.map (·.nm)
      · rw [if_pos c, if_pos (decide_eq_true c)]
        rfl
      · rw [if_neg c, if_neg (by rw [decide_eq_false c]; decide)]
        exact ⟨tr, rfl, (Same.upd hu') _ _ e8⟩
    · refine ⟨by show 2 ≤ sizeLine; decide, fun lk hlk => ⟨_, rfl, _, _, rfl, rfl, ?_⟩⟩
      refine rdList upd_same (j := 1) rfl rfl ?_
      dsimp only [gName, List.set_cons_succ, List.set_cons_zero]
      have T3 : Same H2 (upd H2 lk (.lst [.str (PySem.Str.ofString "rules"), .str (PySem.Str.ofString "bars")])) := Same.upd hlk
      generalize upd H2 lk (.lst [.str (PySem.Str.ofString "rules"), .str (PySem.Str.ofString "bars")]) = H3 at T3
      have M3 := M2.kp (Same.kp T3)
      have at3 := at2.kp (Same.kp T3)
      obtain ⟨g1, g2, p0, p1, p2⟩ := id at3
      have al := M3.a5.len
      have y100 := wo.bl
      refine ⟨_, rfl, t, _, 0, _, rfl, rfl, SqT.of p0, atI_nat (j := 0) rfl, _, rfl, _, rfl, m, _, rfl, dget_of (k := kS "bars") M3.hm M3.k5, l5, rfl, ⟨_, SqL.of M3.h5⟩, fun D hD => ?_⟩
      refine lc_list (K := K) (a := l5) (xs := vs'.map V.ref) (fun i H' => Same H3 H' ∧ H' D = some (.lst (((bs.map (·.nm)).take i).map V.str))) ⟨Same.upd hD, upd_same⟩ (fun i H' _ p => SqL.of (p.1 _ _ M3.h5)) ?_ ?_
      · rintro i y H' hi ⟨S1, hd⟩
        obtain ⟨a, yy, rfl, hyi, q1, q2, r0, r1, r2⟩ := M3.a5.get hi
        have ri := S1 _ _ r0
        refine ⟨rfl, _, rfl, a, _, 0, _, rfl, rfl, SqT.of ri, atI_nat (j := 0) rfl, _, hd, ?_, fun b o e => ?_, ?_⟩
        · rw [List.length_map, List.length_take, List.length_map]
          exact Nat.lt_of_le_of_lt (show _ ≤ 1000 by omega) (by decide)
        · rw [upd_ne (ne_of_none e hD)]
          exact S1 _ _ e
        · rw [upd_same, List.take_add_one, List.getElem?_map, hyi, List.map_append]
          rfl
      rintro H4 ⟨T4, hd⟩
      rw [List.length_map, al, show bs.length = (bs.map (·.nm)).length by rw [List.length_map], List.take_length] at hd
      refine ⟨D, _, rfl, .inl (SqL.of hd), rfl, flat_strs _, ?_⟩
      rw [show (if false = true then !inV (V.str x.nm) ((bs.map (·.nm)).map V.str) else inV (V.str x.nm) ((bs.map (·.nm)).map V.str)) = decide (x.nm ∈ bs.map (·.nm)) from inV_strs]
      dsimp only [gName, List.set_cons_succ, List.set_cons_zero]
      have T34 := T3.trans T4
      have p4 := T4 _ _ p0
      refine ⟨by show 2 ≤ sizeLine; decide, fun la hla => ⟨_, rfl, _, _, rfl, rfl, ?_⟩⟩
      refine rdList upd_same (j := 1) rfl rfl ?_
      have T5 : Same H4 (upd H4 la (.lst [.str (PySem.Str.ofString "without_rule"), .str (PySem.Str.ofString "without_bar")])) := Same.upd hla
      generalize upd H4 la (.lst [.str (PySem.Str.ofString "without_rule"), .str (PySem.Str.ofString "without_bar")]) = H5 at T5
      refine ⟨_, rfl, by show 2 ≤ sizeLine; decide, fun lb hlb => ⟨_, rfl, _, _, rfl, rfl, ?_⟩⟩
      refine rdList upd_same (j := 1) rfl rfl ?_
      have T6 : Same H5 (upd H5 lb (.lst [.str (PySem.Str.ofString "norule"), .str (PySem.Str.ofString "nobar")])) := Same.upd hlb
      generalize upd H5 lb (.lst [.str (PySem.Str.ofString "norule"), .str (PySem.Str.ofString "nobar")]) = H6 at T6
      have T46 := T5.trans T6
      refine ⟨_, rfl, t, _, 0, _, rfl, rfl, SqT.of (T46 _ _ p4), atI_nat (j := 0) rfl, by show 2 ≤ sizeLine; decide, fun tr htr => ⟨by show 2 ≤ sizeLine; decide, fun lr hlr => ⟨_, rfl, .inr ⟨_, rfl, ?_⟩⟩⟩⟩
      refine rd_twoV upd_same ?_
      have T8 : Same H6 (upd (upd H6 tr (.tup [.str (PySem.Str.ofString "nobar"), .str x.nm])) lr (.lst [.ref tr, .non])) := (Same.upd htr).trans (Same.upd hlr)
      have e8 : (upd (upd H6 tr (.tup [.str (PySem.Str.ofString "nobar"), .str x.nm])) lr (.lst [.ref tr, .non])) tr = some (.tup [.str (PySem.Str.ofString "nobar"), .str x.nm]) := (Same.upd hlr) _ _ upd_same
      generalize upd (upd H6 tr (.tup [.str (PySem.Str.ofString "nobar"), .str x.nm])) lr (.lst [.ref tr, .non]) = H8 at T8 e8
      have T28 := T34.trans (T46.trans T8)
      refine ⟨by show 3 ≤ sizeLine; decide, fun u hu' => ?_⟩
      have T9 := T28.trans (Same.upd (o := .tup [.str (PySem.Str.ofString "without_bar"), .ref t, if decide (x.nm ∈ bs.map (·.nm)) = true then V.non else .ref tr]) hu')
      refine k u t _ (.ob x) _ px ((B1.trans B2).trans (Same.but T9)) (S2.same T9) upd_same (at2.kp (Same.kp T9)) ?_
      show VlAt (if x.nm ∈ bs.map (·.nm) then none else some (.nb x.nm)) _ _
      by_cases c : x.nm ∈ bs.map (·.nm)
      · rw [if_pos c, if_pos (decide_eq_true c)]
        rfl
      · rw [if_neg c, if_neg (by rw [decide_eq_false c]; decide)]
        exact ⟨tr, rfl, (Same.upd hu') _ _ e8⟩
end
end Wm
/-! d.update(d2): keys that are texts or ints -/
namespace Wm
open PySem PySem.Spec PyProof.Rows L2
section
variable {X : Cx}
def rUpd : V → List V → Hp → VK → Prop := fun x xs H Q => ∃ (a b : Addr) (kvs more : List (L2.Key × V)), x = .ref a ∧ xs = [.ref b] ∧ H a = some (.dK kvs) ∧ H b = some (.dK more) ∧ a ≠ b ∧ kvs.length + more.length ≤ sizeLine ∧ Q .non (upd H a (.dK (mergeK kvs more)))
theorem mt_upd : MtR X "dict.update" rUpd := by
  intro pins s σ H x xs v us Q I rx rxs h
  obtain ⟨a, b, kvs, more, rfl, rfl, ha, hb, ne, z, q⟩ := h
  cases rx
  cases rxs with
  | cons r1 r2 =>
  cases r1
  cases r2
  obtain ⟨z1, lo, vs, rel, dd⟩ := dk_of I.hok ha
  obtain ⟨z2, lo2, vs2, rel2, dd2⟩ := dk_of I.hok hb
  refine call_meetsIn PySem.F.slot_dict_update dd.typeIs PySem.F.entry_dict_update (PySem.F.args_dict_update_2 _ _) (meets_dict_update (mixKind X.prog X.w) a b ne lo2)
    ⟨vs, vs2, dd, dd2, (by rw [← rel.length, ← rel2.length]; exact z), fun h' hmm _ hs => ?_⟩
  have he : ∃ q, h'.get? a = some q := let ⟨q, _, _, hq, _⟩ := hmm; ⟨q, hq⟩
  exact ⟨.non, _, d_write I (by rw [ha]; exact True.intro) hs he (dk_new (Nat.le_trans (length_mergeK more kvs) z) lo (rel2.merge rel) hmm), rfl, q⟩
end
end Wm
namespace Wm
open PySem L2 StX
/-- what stands behind a change -/
def chGo (o : Option Rf) (ms : List MkD) (rs bs : List PaT) (c : Chg) : List MkD × List PaT × List PaT := match o with
  | some _ => (ms, rs, bs)
  | none => match c with
    | .wr x => (ms, rs ++ [x], bs)
    | .wb x => (ms, rs, bs ++ [x])
    | .wm x => (ms ++ [x], rs, bs)
    | .or x => (ms, rs.filter (qN x.nm), bs)
    | .ob x => (ms, rs, bs.filter (qN x.nm))
    | .om a b => (ms.filter (qM a b), rs, bs)
def bh3 (r3 r4 r5 : Addr) : List (L2.Key × V) := [(kS "rules", .ref r4), (kS "bars", .ref r5), (kS "makings", .ref r3)]
def bhM (l1 l2 l6 : Addr) : List (L2.Key × V) := [(kS "sorts", .ref l1), (kS "words", .ref l2), (kS "pool", .ref l6)]
def bh6 (l1 l2 r3 r4 r5 l6 : Addr) : List (L2.Key × V) := [(kS "rules", .ref r4), (kS "bars", .ref r5), (kS "makings", .ref r3), (kS "sorts", .ref l1), (kS "words", .ref l2), (kS "pool", .ref l6)]
theorem str_nn {a b : Str} (h : a ≠ b) : ¬ V.str a = V.str b := fun e => h (by injection e)
def chTx : Chg → Prop
  | .om a b => okS a ∧ okS b
  | _ => True
def spLbh : Sp := fun vs H Q _ => ∃ (t pt : Addr) (dv : V) (c : Chg) (o : Option Rf) (m l1 l2 l3 l4 l5 l6 : Addr) (kvs : List (L2.Key × V)) (ts us vs' : List Addr) (ss ws pl : List Str) (ms : List MkD) (rs bs : List PaT), vs = [.ref m, .ref t] ∧ Mdl H m l1 l2 l3 l4 l5 l6 kvs ts us vs' ss ws pl ms rs bs ∧ H t = some (.tup [.str (chN c), .ref pt, dv]) ∧ chP H pt c ∧ VlAt o dv H ∧ ms.length ≤ 100 ∧ rs.length ≤ 100 ∧ bs.length ≤ 100 ∧ (∀ y ∈ ms, okS y.mr ∧ okS y.md) ∧ chTx c ∧
  ∀ m' n3 n4 n5 kvs' ts' us' vs'' H', Same H H' → Mdl H' m' l1 l2 n3 n4 n5 l6 kvs' ts' us' vs'' ss ws pl (chGo o ms rs bs c).1 (chGo o ms rs bs c).2.1 (chGo o ms rs bs c).2.2 → Q (.ref m') H'
theorem keepL {H : Hp} {dm a : Addr} {k k' : List (L2.Key × V)} {xs : List V} (e : H dm = some (.dK k)) (h : H a = some (.lst xs)) : upd H dm (.dK k') a = some (.lst xs) := (upd_ne (ne_of h e (by intro z; cases z))).trans h
section
variable {P : Program} {w : World} {K : PySem.W.Frag} {mg : Str → Option Value} {base : Heap} {C : Nat → Addr}
theorem scLbh : FnScope ["_law_m", "_law_change_here", "_law_deed", "_law_part", "_law_due", "_law_found", "_law_one"] ["_law_m", "_law_change_here"] (defScope sLbh) := ⟨rfl, rfl, rfl, by decide +kernel, rfl, by decide +kernel, by decide +kernel⟩
theorem ok_lbh {f : Addr} {fd : FuncData} (F : Fun K "_law_behind" "_law_behind" sLbh f fd) (tl : mg "list" = none) : FnOk P w K mg base CX0 1 f fd ["_law_m", "_law_change_here"] spLbh := by
  refine F.ok scLbh (fun vs H Q E h => ?_) (fun cdv A outer s H vs Q E hr h => ?_)
  · obtain ⟨t, pt, dv, c, o, m, l1, l2, l3, l4, l5, l6, kvs, ts, us, vs', ss, ws, pl, ms, rs, bs, rfl, _⟩ := h
    rfl
  · obtain ⟨t, pt, dv, c, o, m, l1, l2, l3, l4, l5, l6, kvs, ts, us, vs', ss, ws, pl, ms, rs, bs, rfl, M, ht, cp, vl, m100, r100, b100, mok, cok, k⟩ := h
    have hu := hu_of hr
    have tl' := M.a3.len
    have ul := M.a4.len
    have vl' := M.a5.len
    refine ⟨_, (pss_cons (ps_asg (pv 1) (pg_tup rfl (pgs_cons (pg_name (i := 2) scLbh.nd rfl (Or.inl rfl)) (pgs_cons (pg_name (i := 3) scLbh.nd rfl (Or.inr rfl)) (pgs_cons (pg_name (i := 4) scLbh.nd rfl (Or.inl rfl)) pgs_nil)))))
      (pss_cons (ps_set (i := 5) scLbh.nd rfl (Or.inl rfl) (pe_disp (pps_cons pe_str (pe_callTy call_list_of (by rfl) tl (by decide +kernel) (pa_cons (pe_dget hu (pv 0) pe_str (fun _ _ => rfl)) pa_nil)) (pps_cons pe_str (pe_callTy call_list_of (by rfl) tl (by decide +kernel) (pa_cons (pe_dget hu (pv 0) pe_str (fun _ _ => rfl)) pa_nil)) (pps_cons pe_str (pe_callTy call_list_of (by rfl) tl (by decide +kernel) (pa_cons (pe_dget hu (pv 0) pe_str (fun _ _ => rfl)) pa_nil)) pps_nil))) (by rfl) (by rfl) (fun z => by cases z) (by decide)))
      (pss_cons (ps_expr (pe_bm PySem.F.plainAttrs_dict PySem.F.slot_dict_update PySem.F.type_dict_update mt_upd (pv 5) (pa_cons (pe_disp (pps_cons pe_str (pe_dget hu (pv 0) pe_str (fun _ _ => rfl)) (pps_cons pe_str (pe_dget hu (pv 0) pe_str (fun _ _ => rfl)) (pps_cons pe_str (pe_dget hu (pv 0) pe_str (fun _ _ => rfl)) pps_nil))) (by rfl) (by rfl) (fun z => by cases z) (by decide)) pa_nil)))
      (pss_cons (ps_if (PW.pt (pw_and (pt_cmp (pc_isN (pv 4))) (pw_and1 (pt_cmpR op_eq (pv 2) pe_str (nomark _))))) (pss_one (ps_expr (pe_bm PySem.F.plainAttrs_list PySem.F.slot_list_append PySem.F.type_list_append mt_append (pe_dget hu (pv 5) pe_str (fun _ _ => rfl)) (pa_cons (pv 3) pa_nil)))) pss_nil)
      (pss_cons (ps_if (PW.pt (pw_and (pt_cmp (pc_isN (pv 4))) (pw_and1 (pt_cmpR op_eq (pv 2) pe_str (nomark _))))) (pss_one (ps_expr (pe_bm PySem.F.plainAttrs_list PySem.F.slot_list_append PySem.F.type_list_append mt_append (pe_dget hu (pv 5) pe_str (fun _ _ => rfl)) (pa_cons (pv 3) pa_nil)))) pss_nil)
      (pss_cons (ps_if (PW.pt (pw_and (pt_cmp (pc_isN (pv 4))) (pw_and1 (pt_cmpR op_eq (pv 2) pe_str (nomark _))))) (pss_one (ps_expr (pe_bm PySem.F.plainAttrs_list PySem.F.slot_list_append PySem.F.type_list_append mt_append (pe_dget hu (pv 5) pe_str (fun _ _ => rfl)) (pa_cons (pv 3) pa_nil)))) pss_nil)
      (pss_cons (ps_if (PW.pt (pw_and (pt_cmp (pc_isN (pv 4))) (pw_and1 (pt_cmpR op_eq (pv 2) pe_str (nomark _))))) (pss_one (ps_dput hu (pv 5) pe_str (pe_lc (own := [("_law_one", 6)]) (g := gName 6) (tt := (tTest (tOp rNe (tOp (rIxT K) (tVar 6) (tC (.int 0))) (tOp (rIxT K) (tVar 3) (tC (.int 0)))))) (te := (tVar 6)) rfl scLbh.nd (pi_list (pe_dget hu (pv 5) pe_str (fun _ _ => rfl))) (blkOk_by (N := ["_law_m", "_law_change_here", "_law_deed", "_law_part", "_law_due", "_law_found", "_law_one"]) (sc := defScope sLbh) (by decide +kernel)) (fun _ _ _ _ _ => (pg_name (i := 6) scLbh.nd rfl (Or.inl rfl))) (fun _ _ _ _ _ => (pts_one (pt_cmpR op_ne (pe_ix ix_tup (pv 6) pe_int (fun _ _ => rfl)) (pe_ix ix_tup (pv 3) pe_int (fun _ _ => rfl)) (nomark _)))) (fun _ _ _ _ _ => (pv 6))) rfl)) pss_nil)
      (pss_cons (ps_if (PW.pt (pw_and (pt_cmp (pc_isN (pv 4))) (pw_and1 (pt_cmpR op_eq (pv 2) pe_str (nomark _))))) (pss_one (ps_dput hu (pv 5) pe_str (pe_lc (own := [("_law_one", 6)]) (g := gName 6) (tt := (tTest (tOp rNe (tOp (rIxT K) (tVar 6) (tC (.int 0))) (tOp (rIxT K) (tVar 3) (tC (.int 0)))))) (te := (tVar 6)) rfl scLbh.nd (pi_list (pe_dget hu (pv 5) pe_str (fun _ _ => rfl))) (blkOk_by (N := ["_law_m", "_law_change_here", "_law_deed", "_law_part", "_law_due", "_law_found", "_law_one"]) (sc := defScope sLbh) (by decide +kernel)) (fun _ _ _ _ _ => (pg_name (i := 6) scLbh.nd rfl (Or.inl rfl))) (fun _ _ _ _ _ => (pts_one (pt_cmpR op_ne (pe_ix ix_tup (pv 6) pe_int (fun _ _ => rfl)) (pe_ix ix_tup (pv 3) pe_int (fun _ _ => rfl)) (nomark _)))) (fun _ _ _ _ _ => (pv 6))) rfl)) pss_nil)
      (pss_cons (ps_if (PW.pt (pw_and (pt_cmp (pc_isN (pv 4))) (pw_and1 (pt_cmpR op_eq (pv 2) pe_str (nomark _))))) (pss_one (ps_dput hu (pv 5) pe_str (pe_lc (own := [("_law_one", 6)]) (g := gName 6) (tt := (tTest (tOp (rNeD K) (tTup (tCons (tOp (rIxT K) (tVar 6) (tC (.int 0))) (tCons (tOp (rIxT K) (tVar 6) (tC (.int 1))) tNil))) (tVar 3)))) (te := (tVar 6)) rfl scLbh.nd (pi_list (pe_dget hu (pv 5) pe_str (fun _ _ => rfl))) (blkOk_by (N := ["_law_m", "_law_change_here", "_law_deed", "_law_part", "_law_due", "_law_found", "_law_one"]) (sc := defScope sLbh) (by decide +kernel)) (fun _ _ _ _ _ => (pg_name (i := 6) scLbh.nd rfl (Or.inl rfl))) (fun _ _ _ _ _ => (pts_one (pt_cmpR (op_neD hr.units) (pe_tup (pa_cons (pe_ix ix_tup (pv 6) pe_int (fun _ _ => rfl)) (pa_cons (pe_ix ix_tup (pv 6) pe_int (fun _ _ => rfl)) pa_nil))) (pv 3) (nomark _)))) (fun _ _ _ _ _ => (pv 6))) rfl)) pss_nil)
      (pss_one (ps_ret (pv 5)))))))))))), ?_⟩
    rw [show L2.start ["_law_m", "_law_change_here", "_law_deed", "_law_part", "_law_due", "_law_found", "_law_one"] [V.ref m, V.ref t] = [some (.ref m), some (.ref t), none, none, none, none, none] from rfl]
    refine ⟨_, rfl, t, _, rfl, SqT.of ht, rfl, _, _, rfl, _, _, rfl, _, _, rfl, rfl, ?_⟩
    dsimp only [gName, List.set_cons_succ, List.set_cons_zero]
    -- the lists anew
    intro dm hdm
    have T0 : Same H (upd H dm (.dK [])) := Same.upd hdm
    have e0 : (upd H dm (.dK [])) dm = some (.dK []) := upd_same
    have zd : H dm = none := hdm
    generalize upd H dm (.dK []) = H0 at T0 e0
    refine ⟨_, rfl, m, _, rfl, dget_of (T0 _ _ M.hm) M.k4, l4, _, rfl, .inl (SqL.of (T0 _ _ M.h4)), fun r4 hr4 => ?_⟩
    have z4 : H r4 = none := T0.free hr4
    have T1 : Same H0 (upd H0 r4 (.lst (us.map V.ref))) := Same.upd hr4
    have e41 : (upd H0 r4 (.lst (us.map V.ref))) r4 = some (.lst (us.map V.ref)) := upd_same
    generalize upd H0 r4 (.lst (us.map V.ref)) = H1 at T1 e41
    have T01 := T0.trans T1
    refine ⟨_, rfl, m, _, rfl, dget_of (T01 _ _ M.hm) M.k5, l5, _, rfl, .inl (SqL.of (T01 _ _ M.h5)), fun r5 hr5 => ?_⟩
    have z5 : H r5 = none := T01.free hr5
    have n45 : r4 ≠ r5 := ne_of_none e41 hr5
    have T2 : Same H1 (upd H1 r5 (.lst (vs'.map V.ref))) := Same.upd hr5
    have e52 : (upd H1 r5 (.lst (vs'.map V.ref))) r5 = some (.lst (vs'.map V.ref)) := upd_same
    generalize upd H1 r5 (.lst (vs'.map V.ref)) = H2 at T2 e52
    have T02 := T01.trans T2
    have e42 := T2 _ _ e41
    refine ⟨_, rfl, m, _, rfl, dget_of (T02 _ _ M.hm) M.k3, l3, _, rfl, .inl (SqL.of (T02 _ _ M.h3)), fun r3 hr3 => ?_⟩
    have z3 : H r3 = none := T02.free hr3
    have n43 : r4 ≠ r3 := ne_of_none e42 hr3
    have n53 : r5 ≠ r3 := ne_of_none e52 hr3
    have T3 : Same H2 (upd H2 r3 (.lst (ts.map V.ref))) := Same.upd hr3
    have e3 : (upd H2 r3 (.lst (ts.map V.ref))) r3 = some (.lst (ts.map V.ref)) := upd_same
    generalize upd H2 r3 (.lst (ts.map V.ref)) = H3 at T3 e3
    have T13 := T1.trans (T2.trans T3)
    have e03 := T13 _ _ e0
    have e4 := T3 _ _ e42
    have e5 := T3 _ _ e52
    refine ⟨e03, bh3 r3 r4 r5, rfl, by show 3 ≤ 15; decide, ?_⟩
    rw [show mergeK [] (bh3 r3 r4 r5) = bh3 r3 r4 r5 from rfl]
    have T4 : Same H (upd H3 dm (.dK (bh3 r3 r4 r5))) := fun q o e => (upd_ne (ne_of_none e zd)).trans ((T0.trans T13) _ _ e)
    have hd4 : (upd H3 dm (.dK (bh3 r3 r4 r5))) dm = some (.dK (bh3 r3 r4 r5)) := upd_same
    have e3 := keepL (k' := bh3 r3 r4 r5) e03 e3
    have e4 := keepL (k' := bh3 r3 r4 r5) e03 e4
    have e5 := keepL (k' := bh3 r3 r4 r5) e03 e5
    generalize upd H3 dm (.dK (bh3 r3 r4 r5)) = H4 at T4 hd4 e3 e4 e5
    dsimp only [gName, List.set_cons_succ, List.set_cons_zero]
    -- and the other entries
    refine ⟨_, rfl, .inr (.inr (.inl ⟨rfl, .inl ⟨_, hd4⟩⟩)), fun d2 hd2 => ?_⟩
    have nd : dm ≠ d2 := ne_of_none hd4 hd2
    have T5 : Same H4 (upd H4 d2 (.dK [])) := Same.upd hd2
    have e25 : (upd H4 d2 (.dK [])) d2 = some (.dK []) := upd_same
    have z2 : H d2 = none := T4.free hd2
    generalize upd H4 d2 (.dK []) = H5 at T5 e25
    have T45 := T4.trans T5
    refine ⟨_, rfl, m, _, rfl, dget_of (T45 _ _ M.hm) M.k1, _, rfl, m, _, rfl, dget_of (T45 _ _ M.hm) M.k2, _, rfl, m, _, rfl, dget_of (T45 _ _ M.hm) M.k6, e25, bhM l1 l2 l6, rfl, by show 3 ≤ 15; decide, ?_⟩
    rw [show mergeK [] (bhM l1 l2 l6) = bhM l1 l2 l6 from rfl]
    have hd5 := T5 _ _ hd4
    refine ⟨dm, d2, bh3 r3 r4 r5, bhM l1 l2 l6, rfl, rfl, (upd_ne nd).trans hd5, upd_same, nd, by show 3 + 3 ≤ sizeLine; decide, ?_⟩
    rw [show mergeK (bh3 r3 r4 r5) (bhM l1 l2 l6) = bh6 l1 l2 r3 r4 r5 l6 from rfl]
    have T6 : Same H (upd (upd H5 d2 (.dK (bhM l1 l2 l6))) dm (.dK (bh6 l1 l2 r3 r4 r5 l6))) := fun q o e => (upd_ne (ne_of_none e zd)).trans ((upd_ne (ne_of_none e z2)).trans (T45 _ _ e))
    have hd : (upd (upd H5 d2 (.dK (bhM l1 l2 l6))) dm (.dK (bh6 l1 l2 r3 r4 r5 l6))) dm = some (.dK (bh6 l1 l2 r3 r4 r5 l6)) := upd_same
    have kl : ∀ {a : Addr} {xs : List V}, H4 a = some (.lst xs) → (upd (upd H5 d2 (.dK (bhM l1 l2 l6))) dm (.dK (bh6 l1 l2 r3 r4 r5 l6))) a = some (.lst xs) := fun {a xs} e => (upd_ne (ne_of e hd4 (by intro z; cases z))).trans ((upd_ne (ne_of_none e hd2)).trans (T5 _ _ e))
    have e3 := kl e3
    have e4 := kl e4
    have e5 := kl e5
    clear kl
    generalize upd (upd H5 d2 (.dK (bhM l1 l2 l6))) dm (.dK (bh6 l1 l2 r3 r4 r5 l6)) = H6 at T6 hd e3 e4 e5
    have b1 : valV (bh6 l1 l2 r3 r4 r5 l6) (kS "rules") = some (.ref r4) := by rfl
    have b2 : valV (bh6 l1 l2 r3 r4 r5 l6) (kS "bars") = some (.ref r5) := by rfl
    have b3 : valV (bh6 l1 l2 r3 r4 r5 l6) (kS "makings") = some (.ref r3) := by rfl
    have n34 := n43.symm
    have n35 := n53.symm
    have n54 := n45.symm
    clear T0 T1 T2 T3 T4 T5 T01 T02 T13 T45 e0 e03 e41 e42 e52 e25 hd2 hd4 hd5 hr3 hr4 hr5 hdm
    cases o with
    | some r =>
      obtain ⟨tv, rfl, _⟩ := vl
      dsimp only [tNext]
      refine ⟨_, rfl, _, rfl, iteF ?_⟩
      dsimp only [tNext]
      refine ⟨_, rfl, _, rfl, iteF ?_⟩
      dsimp only [tNext]
      refine ⟨_, rfl, _, rfl, iteF ?_⟩
      dsimp only [tNext]
      refine ⟨_, rfl, _, rfl, iteF ?_⟩
      dsimp only [tNext]
      refine ⟨_, rfl, _, rfl, iteF ?_⟩
      dsimp only [tNext]
      refine ⟨_, rfl, _, rfl, iteF ?_⟩
      dsimp only [tNext]
      exact ⟨_, rfl, k dm r3 r4 r5 _ ts us vs' _ T6 ⟨hd, by rfl, by rfl, b3, b1, b2, by rfl, T6 _ _ M.h1, T6 _ _ M.h2, e3, M.a3.imp fun _ _ q => q.kp (Same.kp T6), e4, M.a4.imp fun _ _ q => q.kp (Same.kp T6), e5, M.a5.imp fun _ _ q => q.kp (Same.kp T6), T6 _ _ M.h6⟩⟩
    | none =>
    have b4 : ∀ {x3 x4 x5 : Addr}, valV (bh6 l1 l2 x3 x4 x5 l6) (kS "sorts") = some (.ref l1) := by intros; rfl
    have b5 : ∀ {x3 x4 x5 : Addr}, valV (bh6 l1 l2 x3 x4 x5 l6) (kS "words") = some (.ref l2) := by intros; rfl
    have b6 : ∀ {x3 x4 x5 : Addr}, valV (bh6 l1 l2 x3 x4 x5 l6) (kS "pool") = some (.ref l6) := by intros; rfl
    cases vl
    cases c with
    | wr x =>
      dsimp only [tNext]
      refine ⟨_, rfl, _, rfl, iteT ⟨_, rfl, rfl, _, rfl, ite2 (fun _ => ?_) (fun q => absurd (decide_eq_true rfl) q)⟩⟩
      dsimp only
      refine ⟨_, rfl, dm, _, rfl, dget_of hd b1, .inl ⟨rfl, _, SqL.of e4⟩, _, rfl, r4, _, _, rfl, rfl, e4, ?_, ?_⟩
      · rw [List.length_map]
        exact Nat.lt_of_le_of_lt (show _ ≤ 1000 by omega) (by decide)
      have T9 : Same H (upd H6 r4 (.lst (us.map V.ref ++ [.ref pt]))) := fun q o e => (upd_ne (ne_of_none e z4)).trans (T6 _ _ e)
      have hd9 := (upd_ne (o := .lst (us.map V.ref ++ [.ref pt])) (ne_of hd e4 (by intro z; cases z))).trans hd
      have eN : (upd H6 r4 (.lst (us.map V.ref ++ [.ref pt]))) r4 = some (.lst ((us ++ [pt]).map V.ref)) := by rw [upd_same, List.map_append]; rfl
      have f3 := (upd_ne (o := .lst (us.map V.ref ++ [.ref pt])) n34).trans e3
      have f5 := (upd_ne (o := .lst (us.map V.ref ++ [.ref pt])) n54).trans e5
      generalize upd H6 r4 (.lst (us.map V.ref ++ [.ref pt])) = H9 at T9 hd9 eN f3 f5
      dsimp only [tNext]
      refine ⟨_, rfl, _, rfl, iteT ⟨_, rfl, rfl, _, rfl, ite2 (fun q => absurd (of_decide_eq_true q) (str_nn (by dsimp only [chN]; decide +kernel))) (fun _ => ?_)⟩⟩
      dsimp only [tNext]
      refine ⟨_, rfl, _, rfl, iteT ⟨_, rfl, rfl, _, rfl, ite2 (fun q => absurd (of_decide_eq_true q) (str_nn (by dsimp only [chN]; decide +kernel))) (fun _ => ?_)⟩⟩
      dsimp only [tNext]
      refine ⟨_, rfl, _, rfl, iteT ⟨_, rfl, rfl, _, rfl, ite2 (fun q => absurd (of_decide_eq_true q) (str_nn (by dsimp only [chN]; decide +kernel))) (fun _ => ?_)⟩⟩
      dsimp only [tNext]
      refine ⟨_, rfl, _, rfl, iteT ⟨_, rfl, rfl, _, rfl, ite2 (fun q => absurd (of_decide_eq_true q) (str_nn (by dsimp only [chN]; decide +kernel))) (fun _ => ?_)⟩⟩
      dsimp only [tNext]
      refine ⟨_, rfl, _, rfl, iteT ⟨_, rfl, rfl, _, rfl, ite2 (fun q => absurd (of_decide_eq_true q) (str_nn (by dsimp only [chN]; decide +kernel))) (fun _ => ?_)⟩⟩
      dsimp only [tNext]
      have at9 := chP.kp (Same.kp T9) cp
      exact ⟨_, rfl, k dm r3 r4 r5 _ ts (us ++ [pt]) vs' _ T9 ⟨hd9, b4, b5, by rfl, by rfl, by rfl, b6, T9 _ _ M.h1, T9 _ _ M.h2, f3, M.a3.imp fun _ _ q => q.kp (Same.kp T9), eN, AllAt.put1 (M.a4.imp fun _ _ q => q.kp (Same.kp T9)) (at9), f5, M.a5.imp fun _ _ q => q.kp (Same.kp T9), T9 _ _ M.h6⟩⟩
    | wb x =>
      dsimp only [tNext]
      refine ⟨_, rfl, _, rfl, iteT ⟨_, rfl, rfl, _, rfl, ite2 (fun q => absurd (of_decide_eq_true q) (str_nn (by dsimp only [chN]; decide +kernel))) (fun _ => ?_)⟩⟩
      dsimp only [tNext]
      refine ⟨_, rfl, _, rfl, iteT ⟨_, rfl, rfl, _, rfl, ite2 (fun _ => ?_) (fun q => absurd (decide_eq_true rfl) q)⟩⟩
      dsimp only
      refine ⟨_, rfl, dm, _, rfl, dget_of hd b2, .inl ⟨rfl, _, SqL.of e5⟩, _, rfl, r5, _, _, rfl, rfl, e5, ?_, ?_⟩
      · rw [List.length_map]
        exact Nat.lt_of_le_of_lt (show _ ≤ 1000 by omega) (by decide)
      have T9 : Same H (upd H6 r5 (.lst (vs'.map V.ref ++ [.ref pt]))) := fun q o e => (upd_ne (ne_of_none e z5)).trans (T6 _ _ e)
      have hd9 := (upd_ne (o := .lst (vs'.map V.ref ++ [.ref pt])) (ne_of hd e5 (by intro z; cases z))).trans hd
      have eN : (upd H6 r5 (.lst (vs'.map V.ref ++ [.ref pt]))) r5 = some (.lst ((vs' ++ [pt]).map V.ref)) := by rw [upd_same, List.map_append]; rfl
      have f3 := (upd_ne (o := .lst (vs'.map V.ref ++ [.ref pt])) n35).trans e3
      have f4 := (upd_ne (o := .lst (vs'.map V.ref ++ [.ref pt])) n45).trans e4
      generalize upd H6 r5 (.lst (vs'.map V.ref ++ [.ref pt])) = H9 at T9 hd9 eN f3 f4
      dsimp only [tNext]
      refine ⟨_, rfl, _, rfl, iteT ⟨_, rfl, rfl, _, rfl, ite2 (fun q => absurd (of_decide_eq_true q) (str_nn (by dsimp only [chN]; decide +kernel))) (fun _ => ?_)⟩⟩
      dsimp only [tNext]
      refine ⟨_, rfl, _, rfl, iteT ⟨_, rfl, rfl, _, rfl, ite2 (fun q => absurd (of_decide_eq_true q) (str_nn (by dsimp only [chN]; decide +kernel))) (fun _ => ?_)⟩⟩
      dsimp only [tNext]
      refine ⟨_, rfl, _, rfl, iteT ⟨_, rfl, rfl, _, rfl, ite2 (fun q => absurd (of_decide_eq_true q) (str_nn (by dsimp only [chN]; decide +kernel))) (fun _ => ?_)⟩⟩
      dsimp only [tNext]
      refine ⟨_, rfl, _, rfl, iteT ⟨_, rfl, rfl, _, rfl, ite2 (fun q => absurd (of_decide_eq_true q) (str_nn (by dsimp only [chN]; decide +kernel))) (fun _ => ?_)⟩⟩
      dsimp only [tNext]
      have at9 := chP.kp (Same.kp T9) cp
      exact ⟨_, rfl, k dm r3 r4 r5 _ ts us (vs' ++ [pt]) _ T9 ⟨hd9, b4, b5, by rfl, by rfl, by rfl, b6, T9 _ _ M.h1, T9 _ _ M.h2, f3, M.a3.imp fun _ _ q => q.kp (Same.kp T9), f4, M.a4.imp fun _ _ q => q.kp (Same.kp T9), eN, AllAt.put1 (M.a5.imp fun _ _ q => q.kp (Same.kp T9)) (at9), T9 _ _ M.h6⟩⟩
    | wm x =>
      dsimp only [tNext]
      refine ⟨_, rfl, _, rfl, iteT ⟨_, rfl, rfl, _, rfl, ite2 (fun q => absurd (of_decide_eq_true q) (str_nn (by dsimp only [chN]; decide +kernel))) (fun _ => ?_)⟩⟩
      dsimp only [tNext]
      refine ⟨_, rfl, _, rfl, iteT ⟨_, rfl, rfl, _, rfl, ite2 (fun q => absurd (of_decide_eq_true q) (str_nn (by dsimp only [chN]; decide +kernel))) (fun _ => ?_)⟩⟩
      dsimp only [tNext]
      refine ⟨_, rfl, _, rfl, iteT ⟨_, rfl, rfl, _, rfl, ite2 (fun _ => ?_) (fun q => absurd (decide_eq_true rfl) q)⟩⟩
      dsimp only
      refine ⟨_, rfl, dm, _, rfl, dget_of hd b3, .inl ⟨rfl, _, SqL.of e3⟩, _, rfl, r3, _, _, rfl, rfl, e3, ?_, ?_⟩
      · rw [List.length_map]
        exact Nat.lt_of_le_of_lt (show _ ≤ 1000 by omega) (by decide)
      have T9 : Same H (upd H6 r3 (.lst (ts.map V.ref ++ [.ref pt]))) := fun q o e => (upd_ne (ne_of_none e z3)).trans (T6 _ _ e)
      have hd9 := (upd_ne (o := .lst (ts.map V.ref ++ [.ref pt])) (ne_of hd e3 (by intro z; cases z))).trans hd
      have eN : (upd H6 r3 (.lst (ts.map V.ref ++ [.ref pt]))) r3 = some (.lst ((ts ++ [pt]).map V.ref)) := by rw [upd_same, List.map_append]; rfl
      have f4 := (upd_ne (o := .lst (ts.map V.ref ++ [.ref pt])) n43).trans e4
      have f5 := (upd_ne (o := .lst (ts.map V.ref ++ [.ref pt])) n53).trans e5
      generalize upd H6 r3 (.lst (ts.map V.ref ++ [.ref pt])) = H9 at T9 hd9 eN f4 f5
      dsimp only [tNext]
      refine ⟨_, rfl, _, rfl, iteT ⟨_, rfl, rfl, _, rfl, ite2 (fun q => absurd (of_decide_eq_true q) (str_nn (by dsimp only [chN]; decide +kernel))) (fun _ => ?_)⟩⟩
      dsimp only [tNext]
      refine ⟨_, rfl, _, rfl, iteT ⟨_, rfl, rfl, _, rfl, ite2 (fun q => absurd (of_decide_eq_true q) (str_nn (by dsimp only [chN]; decide +kernel))) (fun _ => ?_)⟩⟩
      dsimp only [tNext]
      refine ⟨_, rfl, _, rfl, iteT ⟨_, rfl, rfl, _, rfl, ite2 (fun q => absurd (of_decide_eq_true q) (str_nn (by dsimp only [chN]; decide +kernel))) (fun _ => ?_)⟩⟩
      dsimp only [tNext]
      have at9 := chP.kp (Same.kp T9) cp
      exact ⟨_, rfl, k dm r3 r4 r5 _ (ts ++ [pt]) us vs' _ T9 ⟨hd9, b4, b5, by rfl, by rfl, by rfl, b6, T9 _ _ M.h1, T9 _ _ M.h2, eN, AllAt.put1 (M.a3.imp fun _ _ q => q.kp (Same.kp T9)) (at9), f4, M.a4.imp fun _ _ q => q.kp (Same.kp T9), f5, M.a5.imp fun _ _ q => q.kp (Same.kp T9), T9 _ _ M.h6⟩⟩
    | or x =>
      dsimp only [tNext]
      refine ⟨_, rfl, _, rfl, iteT ⟨_, rfl, rfl, _, rfl, ite2 (fun q => absurd (of_decide_eq_true q) (str_nn (by dsimp only [chN]; decide +kernel))) (fun _ => ?_)⟩⟩
      dsimp only [tNext]
      refine ⟨_, rfl, _, rfl, iteT ⟨_, rfl, rfl, _, rfl, ite2 (fun q => absurd (of_decide_eq_true q) (str_nn (by dsimp only [chN]; decide +kernel))) (fun _ => ?_)⟩⟩
      dsimp only [tNext]
      refine ⟨_, rfl, _, rfl, iteT ⟨_, rfl, rfl, _, rfl, ite2 (fun q => absurd (of_decide_eq_true q) (str_nn (by dsimp only [chN]; decide +kernel))) (fun _ => ?_)⟩⟩
      dsimp only [tNext]
      refine ⟨_, rfl, _, rfl, iteT ⟨_, rfl, rfl, _, rfl, ite2 (fun _ => ?_) (fun q => absurd (decide_eq_true rfl) q)⟩⟩
      dsimp only
      refine ⟨_, rfl, dm, _, rfl, dget_of hd b1, r4, rfl, ⟨_, SqL.of e4⟩, fun D hD => ?_⟩
      refine lc_list (K := K) (a := r4) (xs := us.map V.ref) (fun i H' => Same H6 H' ∧ H' D = some (.lst ((keepA (qN x.nm) (us.take i) (rs.take i)).map V.ref))) ⟨Same.upd hD, upd_same⟩ (fun i H' _ p => SqL.of (p.1 _ _ e4)) ?_ ?_
      · rintro i v H' hi ⟨S1, hl⟩
        obtain ⟨a, y, rfl, hy, q1, q2, r0, _, _⟩ := M.a4.get hi
        obtain ⟨b', e, hb'⟩ := getA hi
        cases e
        have st := keepA_step (q := qN x.nm) hb' hy
        have S0i := T6.trans S1
        obtain ⟨g1, g2, p0, p1, p2⟩ := id (chP.kp (Same.kp S0i) cp)
        refine ⟨rfl, _, rfl, a, _, 0, _, rfl, rfl, SqT.of (S0i _ _ r0), atI_nat (j := 0) rfl, _, rfl, pt, _, 0, _, rfl, rfl, SqT.of p0, atI_nat (j := 0) rfl, rfl, _, rfl, ite2 (fun q => ?_) (fun q => ?_)⟩
        · have e : qN x.nm y = true := by
            unfold qN
            simpa using q
          refine ⟨_, rfl, _, hl, ?_, fun b o h => ?_, ?_⟩
          · have h1 := keepA_len (qN x.nm) (us.take i) (rs.take i)
            rw [List.length_map]
            rw [List.length_take] at h1
            exact Nat.lt_of_le_of_lt (show _ ≤ 1000 by omega) (by decide)
          · rw [upd_ne (ne_of_none h hD)]
            exact S1 b o h
          · rw [upd_same, st, if_pos e, List.map_append]
            rfl
        · have e : ¬ qN x.nm y = true := by
            unfold qN
            simpa using q
          refine ⟨S1, ?_⟩
          rw [st, if_neg e, List.append_nil]
          exact hl
      rintro H7 ⟨T7, hD7⟩
      rw [List.length_map, show us.take us.length = us from List.take_length, show rs.take us.length = rs by rw [M.a4.len, List.take_length]] at hD7
      have hd7 := T7 _ _ hd
      refine ⟨_, rfl, dm, _, rfl, DPut.k (k := kS "rules") hd7 (by show 6 < sizeLine; decide), ?_⟩
      have ep : putK (bh6 l1 l2 r3 r4 r5 l6) (kS "rules") (.ref D) = bh6 l1 l2 r3 D r5 l6 := by rfl
      rw [ep]
      have T67 := T6.trans T7
      have T9 : Same H (upd H7 dm (.dK (bh6 l1 l2 r3 D r5 l6))) := fun q o e => (upd_ne (ne_of_none e zd)).trans (T67 _ _ e)
      have hd9 : (upd H7 dm (.dK (bh6 l1 l2 r3 D r5 l6))) dm = some (.dK (bh6 l1 l2 r3 D r5 l6)) := upd_same
      have eN := (upd_ne (o := .dK (bh6 l1 l2 r3 D r5 l6)) (ne_of hD7 hd7 (by intro z; cases z))).trans hD7
      have f3 := (upd_ne (o := .dK (bh6 l1 l2 r3 D r5 l6)) (ne_of (T7 _ _ e3) hd7 (by intro z; cases z))).trans (T7 _ _ e3)
      have f5 := (upd_ne (o := .dK (bh6 l1 l2 r3 D r5 l6)) (ne_of (T7 _ _ e5) hd7 (by intro z; cases z))).trans (T7 _ _ e5)
      generalize upd H7 dm (.dK (bh6 l1 l2 r3 D r5 l6)) = H9 at T9 hd9 eN f3 f5
      dsimp only [tNext]
      refine ⟨_, rfl, _, rfl, iteT ⟨_, rfl, rfl, _, rfl, ite2 (fun q => absurd (of_decide_eq_true q) (str_nn (by dsimp only [chN]; decide +kernel))) (fun _ => ?_)⟩⟩
      dsimp only [tNext]
      refine ⟨_, rfl, _, rfl, iteT ⟨_, rfl, rfl, _, rfl, ite2 (fun q => absurd (of_decide_eq_true q) (str_nn (by dsimp only [chN]; decide +kernel))) (fun _ => ?_)⟩⟩
      dsimp only [tNext]
      exact ⟨_, rfl, k dm r3 D r5 _ ts (keepA (qN x.nm) us rs) vs' _ T9 ⟨hd9, b4, b5, by rfl, by rfl, by rfl, b6, T9 _ _ M.h1, T9 _ _ M.h2, f3, M.a3.imp fun _ _ q => q.kp (Same.kp T9), eN, keepA_all (M.a4.imp fun _ _ q => q.kp (Same.kp T9)), f5, M.a5.imp fun _ _ q => q.kp (Same.kp T9), T9 _ _ M.h6⟩⟩
    | ob x =>
      dsimp only [tNext]
      refine ⟨_, rfl, _, rfl, iteT ⟨_, rfl, rfl, _, rfl, ite2 (fun q => absurd (of_decide_eq_true q) (str_nn (by dsimp only [chN]; decide +kernel))) (fun _ => ?_)⟩⟩
      dsimp only [tNext]
      refine ⟨_, rfl, _, rfl, iteT ⟨_, rfl, rfl, _, rfl, ite2 (fun q => absurd (of_decide_eq_true q) (str_nn (by dsimp only [chN]; decide +kernel))) (fun _ => ?_)⟩⟩
      dsimp only [tNext]
      refine ⟨_, rfl, _, rfl, iteT ⟨_, rfl, rfl, _, rfl, ite2 (fun q => absurd (of_decide_eq_true q) (str_nn (by dsimp only [chN]; decide +kernel))) (fun _ => ?_)⟩⟩
      dsimp only [tNext]
      refine ⟨_, rfl, _, rfl, iteT ⟨_, rfl, rfl, _, rfl, ite2 (fun q => absurd (of_decide_eq_true q) (str_nn (by dsimp only [chN]; decide +kernel))) (fun _ => ?_)⟩⟩
      dsimp only [tNext]
      refine ⟨_, rfl, _, rfl, iteT ⟨_, rfl, rfl, _, rfl, ite2 (fun _ => ?_) (fun q => absurd (decide_eq_true rfl) q)⟩⟩
      dsimp only
      refine ⟨_, rfl, dm, _, rfl, dget_of hd b2, r5, rfl, ⟨_, SqL.of e5⟩, fun D hD => ?_⟩
      refine lc_list (K := K) (a := r5) (xs := vs'.map V.ref) (fun i H' => Same H6 H' ∧ H' D = some (.lst ((keepA (qN x.nm) (vs'.take i) (bs.take i)).map V.ref))) ⟨Same.upd hD, upd_same⟩ (fun i H' _ p => SqL.of (p.1 _ _ e5)) ?_ ?_
      · rintro i v H' hi ⟨S1, hl⟩
        obtain ⟨a, y, rfl, hy, q1, q2, r0, _, _⟩ := M.a5.get hi
        obtain ⟨b', e, hb'⟩ := getA hi
        cases e
        have st := keepA_step (q := qN x.nm) hb' hy
        have S0i := T6.trans S1
        obtain ⟨g1, g2, p0, p1, p2⟩ := id (chP.kp (Same.kp S0i) cp)
        refine ⟨rfl, _, rfl, a, _, 0, _, rfl, rfl, SqT.of (S0i _ _ r0), atI_nat (j := 0) rfl, _, rfl, pt, _, 0, _, rfl, rfl, SqT.of p0, atI_nat (j := 0) rfl, rfl, _, rfl, ite2 (fun q => ?_) (fun q => ?_)⟩
        · have e : qN x.nm y = true := by
            unfold qN
            simpa using q
          refine ⟨_, rfl, _, hl, ?_, fun b o h => ?_, ?_⟩
          · have h1 := keepA_len (qN x.nm) (vs'.take i) (bs.take i)
            rw [List.length_map]
            rw [List.length_take] at h1
            exact Nat.lt_of_le_of_lt (show _ ≤ 1000 by omega) (by decide)
          · rw [upd_ne (ne_of_none h hD)]
            exact S1 b o h
          · rw [upd_same, st, if_pos e, List.map_append]
            rfl
        · have e : ¬ qN x.nm y = true := by
            unfold qN
            simpa using q
          refine ⟨S1, ?_⟩
          rw [st, if_neg e, List.append_nil]
          exact hl
      rintro H7 ⟨T7, hD7⟩
      rw [List.length_map, show vs'.take vs'.length = vs' from List.take_length, show bs.take vs'.length = bs by rw [M.a5.len, List.take_length]] at hD7
      have hd7 := T7 _ _ hd
      refine ⟨_, rfl, dm, _, rfl, DPut.k (k := kS "bars") hd7 (by show 6 < sizeLine; decide), ?_⟩
      have ep : putK (bh6 l1 l2 r3 r4 r5 l6) (kS "bars") (.ref D) = bh6 l1 l2 r3 r4 D l6 := by rfl
      rw [ep]
      have T67 := T6.trans T7
      have T9 : Same H (upd H7 dm (.dK (bh6 l1 l2 r3 r4 D l6))) := fun q o e => (upd_ne (ne_of_none e zd)).trans (T67 _ _ e)
      have hd9 : (upd H7 dm (.dK (bh6 l1 l2 r3 r4 D l6))) dm = some (.dK (bh6 l1 l2 r3 r4 D l6)) := upd_same
      have eN := (upd_ne (o := .dK (bh6 l1 l2 r3 r4 D l6)) (ne_of hD7 hd7 (by intro z; cases z))).trans hD7
      have f3 := (upd_ne (o := .dK (bh6 l1 l2 r3 r4 D l6)) (ne_of (T7 _ _ e3) hd7 (by intro z; cases z))).trans (T7 _ _ e3)
      have f4 := (upd_ne (o := .dK (bh6 l1 l2 r3 r4 D l6)) (ne_of (T7 _ _ e4) hd7 (by intro z; cases z))).trans (T7 _ _ e4)
      generalize upd H7 dm (.dK (bh6 l1 l2 r3 r4 D l6)) = H9 at T9 hd9 eN f3 f4
      dsimp only [tNext]
      refine ⟨_, rfl, _, rfl, iteT ⟨_, rfl, rfl, _, rfl, ite2 (fun q => absurd (of_decide_eq_true q) (str_nn (by dsimp only [chN]; decide +kernel))) (fun _ => ?_)⟩⟩
      dsimp only [tNext]
      exact ⟨_, rfl, k dm r3 r4 D _ ts us (keepA (qN x.nm) vs' bs) _ T9 ⟨hd9, b4, b5, by rfl, by rfl, by rfl, b6, T9 _ _ M.h1, T9 _ _ M.h2, f3, M.a3.imp fun _ _ q => q.kp (Same.kp T9), f4, M.a4.imp fun _ _ q => q.kp (Same.kp T9), eN, keepA_all (M.a5.imp fun _ _ q => q.kp (Same.kp T9)), T9 _ _ M.h6⟩⟩
    | om mr md =>
      dsimp only [tNext]
      refine ⟨_, rfl, _, rfl, iteT ⟨_, rfl, rfl, _, rfl, ite2 (fun q => absurd (of_decide_eq_true q) (str_nn (by dsimp only [chN]; decide +kernel))) (fun _ => ?_)⟩⟩
      dsimp only [tNext]
      refine ⟨_, rfl, _, rfl, iteT ⟨_, rfl, rfl, _, rfl, ite2 (fun q => absurd (of_decide_eq_true q) (str_nn (by dsimp only [chN]; decide +kernel))) (fun _ => ?_)⟩⟩
      dsimp only [tNext]
      refine ⟨_, rfl, _, rfl, iteT ⟨_, rfl, rfl, _, rfl, ite2 (fun q => absurd (of_decide_eq_true q) (str_nn (by dsimp only [chN]; decide +kernel))) (fun _ => ?_)⟩⟩
      dsimp only [tNext]
      refine ⟨_, rfl, _, rfl, iteT ⟨_, rfl, rfl, _, rfl, ite2 (fun q => absurd (of_decide_eq_true q) (str_nn (by dsimp only [chN]; decide +kernel))) (fun _ => ?_)⟩⟩
      dsimp only [tNext]
      refine ⟨_, rfl, _, rfl, iteT ⟨_, rfl, rfl, _, rfl, ite2 (fun q => absurd (of_decide_eq_true q) (str_nn (by dsimp only [chN]; decide +kernel))) (fun _ => ?_)⟩⟩
      dsimp only [tNext]
      refine ⟨_, rfl, _, rfl, iteT ⟨_, rfl, rfl, _, rfl, ite2 (fun _ => ?_) (fun q => absurd (decide_eq_true rfl) q)⟩⟩
      dsimp only
      refine ⟨_, rfl, dm, _, rfl, dget_of hd b3, r3, rfl, ⟨_, SqL.of e3⟩, fun D hD => ?_⟩
      refine lc_list (K := K) (a := r3) (xs := ts.map V.ref) (fun i H' => Same H6 H' ∧ H' D = some (.lst ((keepA (qM mr md) (ts.take i) (ms.take i)).map V.ref))) ⟨Same.upd hD, upd_same⟩ (fun i H' _ p => SqL.of (p.1 _ _ e3)) ?_ ?_
      · rintro i v H' hi ⟨S1, hl⟩
        obtain ⟨a, y, rfl, hy, q1, q2, r0, _, _⟩ := M.a3.get hi
        obtain ⟨b', e, hb'⟩ := getA hi
        cases e
        have st := keepA_step (q := qM mr md) hb' hy
        have S0i := T6.trans S1
        have oy := mok y (List.mem_of_getElem? hy)
        refine ⟨rfl, _, rfl, a, _, 0, _, rfl, rfl, SqT.of (S0i _ _ r0), atI_nat (j := 0) rfl, _, rfl, a, _, 1, _, rfl, rfl, SqT.of (S0i _ _ r0), atI_nat (j := 1) rfl, by show 2 ≤ sizeLine; decide, fun p1 hp1 => ?_⟩
        have Sa := Same.upd (o := .tup [.str y.mr, .str y.md]) hp1
        have S2 := S1.trans Sa
        have hl2 := Sa _ _ hl
        have cp2 : (upd H' p1 (.tup [.str y.mr, .str y.md])) pt = some (.tup [.str mr, .str md]) := (T6.trans S2) _ _ cp
        have sh : ∀ {u v : Str}, okS u → okS v → SeqAt.shaped (prD (u, v)) = true := fun hu hv => by
          have h := prs_sh (ps := [(_, _)]) (fun p hp => by obtain rfl := List.mem_singleton.mp hp; exact ⟨hu, hv⟩)
          simp [PyData.canLayAll0, PyData.depthAll] at h
          simp [SeqAt.shaped]
          exact ⟨h.1, by omega⟩
        have al : ∀ {H : Hp} {u v : Str}, DpAll K H [.str u, .str v] [.str u, .str v] := .cons (.str _) (.cons (.str _) .nil)
        refine ⟨_, rfl, prD (y.mr, y.md), prD (mr, md), .tup (SqT.of upd_same) al, .tup (SqT.of cp2) al, sh oy.1 oy.2, sh cok.1 cok.2, _, rfl, ?_⟩
        rw [prD_eqv]
        refine ite2 (fun q => ?_) (fun q => ?_)
        · refine ⟨_, rfl, _, hl2, ?_, fun b o h => ?_, ?_⟩
          · have h1 := keepA_len (qM mr md) (ts.take i) (ms.take i)
            rw [List.length_map]
            rw [List.length_take] at h1
            exact Nat.lt_of_le_of_lt (show _ ≤ 1000 by omega) (by decide)
          · rw [upd_ne (ne_of_none h hD)]
            exact S2 b o h
          · rw [upd_same, st, if_pos (show qM mr md y = true from q), List.map_append]
            rfl
        · refine ⟨S2, ?_⟩
          rw [st, if_neg (show ¬ qM mr md y = true from q), List.append_nil]
          exact hl2
      rintro H7 ⟨T7, hD7⟩
      rw [List.length_map, show ts.take ts.length = ts from List.take_length, show ms.take ts.length = ms by rw [M.a3.len, List.take_length]] at hD7
      have hd7 := T7 _ _ hd
      refine ⟨_, rfl, dm, _, rfl, DPut.k (k := kS "makings") hd7 (by show 6 < sizeLine; decide), ?_⟩
      have ep : putK (bh6 l1 l2 r3 r4 r5 l6) (kS "makings") (.ref D) = bh6 l1 l2 D r4 r5 l6 := by rfl
      rw [ep]
      have T67 := T6.trans T7
      have T9 : Same H (upd H7 dm (.dK (bh6 l1 l2 D r4 r5 l6))) := fun q o e => (upd_ne (ne_of_none e zd)).trans (T67 _ _ e)
      have hd9 : (upd H7 dm (.dK (bh6 l1 l2 D r4 r5 l6))) dm = some (.dK (bh6 l1 l2 D r4 r5 l6)) := upd_same
      have eN := (upd_ne (o := .dK (bh6 l1 l2 D r4 r5 l6)) (ne_of hD7 hd7 (by intro z; cases z))).trans hD7
      have f4 := (upd_ne (o := .dK (bh6 l1 l2 D r4 r5 l6)) (ne_of (T7 _ _ e4) hd7 (by intro z; cases z))).trans (T7 _ _ e4)
      have f5 := (upd_ne (o := .dK (bh6 l1 l2 D r4 r5 l6)) (ne_of (T7 _ _ e5) hd7 (by intro z; cases z))).trans (T7 _ _ e5)
      generalize upd H7 dm (.dK (bh6 l1 l2 D r4 r5 l6)) = H9 at T9 hd9 eN f4 f5
      dsimp only [tNext]
      exact ⟨_, rfl, k dm D r4 r5 _ (keepA (qM mr md) ts ms) us vs' _ T9 ⟨hd9, b4, b5, by rfl, by rfl, by rfl, b6, T9 _ _ M.h1, T9 _ _ M.h2, eN, keepA_all (M.a3.imp fun _ _ q => q.kp (Same.kp T9)), f4, M.a4.imp fun _ _ q => q.kp (Same.kp T9), f5, M.a5.imp fun _ _ q => q.kp (Same.kp T9), T9 _ _ M.h6⟩⟩
end
end Wm
namespace Wm
open PySem L2 StX
theorem okc_lt {c : Nat} (h : okc c = true) : c < 1114112 := by
  have e := okc_alnum c
  rw [h] at e
  have m := of_decide_eq_true e
  have all : ∀ c ∈ (PySem.Str.ofString "abcdefghijklmnopqrstuvwxyz0123456789").cps.toList, c < 1114112 := by decide +kernel
  exact all c m
theorem nm_oks {z : Str} (h : isNm z = true) : okS z := fun c hc => by
  unfold isNm at h
  simp only [Bool.and_eq_true] at h
  exact okc_lt (List.all_eq_true.mp h.2.2.2 c hc)
theorem st_nm : isNm STRANGE = true := by decide +kernel
theorem Wd.nm {zs : List Str} {z : Str} (h : Wd zs z) (o : ∀ y ∈ zs, isNm y = true) : isNm z = true := by
  rcases h with h | h
  · exact o z h
  · rw [h]
    exact st_nm
theorem Wd.nmw {zs : List Str} {z : Str} (h : Wd zs z) (o : ∀ y ∈ zs, isNm y = true) : okS z := nm_oks (h.nm o)
theorem pt_rt {ss ws pl : List Str} {x : PaT} (ns : ∀ y ∈ ss, isNm y = true) (nw : ∀ y ∈ ws, isNm y = true) (np : ∀ y ∈ pl, isNm y = true) (h : Ptd ss ws pl x) : PaRt x := ⟨np _ h.nm, fun z hz => by
  unfold paTx at hz
  rcases List.mem_append.mp hz with q | q
  · rcases List.mem_append.mp q with q | q
    · exact (h.k0 z (Option.mem_toList.mp q)).nm ns
    · exact (h.k1 z (Option.mem_toList.mp q)).nm ns
  · rcases List.mem_cons.mp q with q | q
    · rw [q]; exact h.w0.nm nw
    · rw [List.mem_singleton.mp q]; exact h.w1.nm nw⟩
theorem mk_rt {ss ws : List Str} {x : MkD} (ns : ∀ y ∈ ss, isNm y = true) (nw : ∀ y ∈ ws, isNm y = true) (h : Mkd ss ws x) : MkRt x := ⟨h.d1, h.u1, fun z hz => by
  unfold mkTx at hz
  rcases List.mem_append.mp hz with q | q
  · rcases List.mem_append.mp q with q | q
    · rcases List.mem_cons.mp q with q | q
      · rw [q]; exact h.mr.nm ns
      · rw [List.mem_singleton.mp q]; exact h.md.nm ns
    · exact (h.dn z q).nm nw
  · exact (h.up z q).nm nw⟩
/-- all that stands of the law's scheme -/
structure LOk (ss ws pl : List Str) (ms : List MkD) (rs bs : List PaT) : Prop where
  sz : Sz ss ws pl
  ns : ∀ z ∈ ss, isNm z = true
  nw : ∀ z ∈ ws, isNm z = true
  np : ∀ z ∈ pl, isNm z = true
  ml : ms.length ≤ 60
  mt : ∀ x ∈ ms, MkRt x
  rk : ∀ x ∈ rs, PaRt x
  bk : ∀ x ∈ bs, PaRt x
  g : Good ss ws ms rs bs
theorem LOk.r8 {ss ws pl : List Str} {ms : List MkD} {rs bs : List PaT} (h : LOk ss ws pl ms rs bs) : rs.length ≤ 8 := by
  have q := (goods_iff.mp h.g).c3
  unfold cntO at q
  split at q
  · cases q
  · omega
theorem LOk.b4 {ss ws pl : List Str} {ms : List MkD} {rs bs : List PaT} (h : LOk ss ws pl ms rs bs) : bs.length ≤ 4 := by
  have q := (goods_iff.mp h.g).c4
  unfold cntO at q
  split at q
  · cases q
  · omega
theorem LOk.r20 {ss ws pl : List Str} {ms : List MkD} {rs bs : List PaT} (h : LOk ss ws pl ms rs bs) : rs.length ≤ 20 := Nat.le_trans h.r8 (by decide)
theorem LOk.b20 {ss ws pl : List Str} {ms : List MkD} {rs bs : List PaT} (h : LOk ss ws pl ms rs bs) : bs.length ≤ 20 := Nat.le_trans h.b4 (by decide)
theorem LOk.s20 {ss ws pl : List Str} {ms : List MkD} {rs bs : List PaT} (h : LOk ss ws pl ms rs bs) : ss.length ≤ 20 := Nat.le_trans h.sz.s4 (by decide)
theorem LOk.w20 {ss ws pl : List Str} {ms : List MkD} {rs bs : List PaT} (h : LOk ss ws pl ms rs bs) : ws.length ≤ 20 := Nat.le_trans h.sz.w3 (by decide)
theorem MkRt.ok {x : MkD} (h : MkRt x) : okS x.mr ∧ okS x.md := ⟨nm_oks (h.tx _ (by unfold mkTx; simp)), nm_oks (h.tx _ (by unfold mkTx; simp))⟩
theorem sch_in {ss ws : List Str} {ms : List MkD} {rs bs : List PaT} (s : ss.length ≤ 20) (w : ws.length ≤ 20) (m : ms.length ≤ 100) (r : rs.length ≤ 20) (b : bs.length ≤ 20) (ns : ∀ z ∈ ss, isNm z = true) (nw : ∀ z ∈ ws, isNm z = true) (mk : ∀ x ∈ ms, MkRt x) : SchIn ss ws ms (rs.map ruD) (bs.map baD) :=
  ⟨s, w, m, by rw [List.length_map]; exact r, by rw [List.length_map]; exact b, fun z hz => Nat.le_trans (nm_len (ns z hz)) (by decide), fun z hz => Nat.le_trans (nm_len (nw z hz)) (by decide), fun x hx => (mk x hx).ok, fun x hx => ⟨Nat.le_trans (mk x hx).d1 (by decide), Nat.le_trans (mk x hx).u1 (by decide)⟩, fun x hx => by
      obtain ⟨y, _, rfl⟩ := List.mem_map.mp hx
      exact ⟨by show 2 ≤ 4; decide, by show 1 ≤ 3; decide⟩, fun x hx => by
      obtain ⟨y, _, rfl⟩ := List.mem_map.mp hx
      exact ⟨by show 2 ≤ 4; decide, by show 1 ≤ 3; decide⟩⟩
theorem due_or {ss ws : List Str} {ms : List MkD} {rs ps : List PaT} (z : Str) (g : Good ss ws ms rs ps) : (allO (qR z) (.nr z) (rs.map ruD)).or (schDue ss ws ms ((rs.map ruD).filter (qR z)) (ps.map baD)) = if z ∈ rs.map (·.nm) then none else some (.nr z) := by
  unfold allO
  by_cases c : z ∈ rs.map (·.nm)
  · rw [if_pos c, if_neg, Option.none_or, map_qN]
    · exact good_less_r z g
    · intro h
      obtain ⟨x, hx, e⟩ := List.mem_map.mp c
      have q := List.all_eq_true.mp h (ruD x) (List.mem_map.mpr ⟨x, hx, rfl⟩)
      unfold qR at q
      rw [show (ruD x).p.nm = z from e] at q
      simp at q
  · rw [if_neg c, if_pos]
    · rfl
    · refine List.all_eq_true.mpr fun y hy => ?_
      obtain ⟨x, hx, rfl⟩ := List.mem_map.mp hy
      unfold qR
      simp only [Bool.not_eq_true', decide_eq_false_iff_not]
      exact fun e => c (List.mem_map.mpr ⟨x, hx, e⟩)
theorem due_ob {ss ws : List Str} {ms : List MkD} {rs ps : List PaT} (z : Str) (g : Good ss ws ms rs ps) : (allO (qB z) (.nb z) (ps.map baD)).or (schDue ss ws ms (rs.map ruD) ((ps.map baD).filter (qB z))) = if z ∈ ps.map (·.nm) then none else some (.nb z) := by
  unfold allO
  by_cases c : z ∈ ps.map (·.nm)
  · rw [if_pos c, if_neg, Option.none_or, map_qB]
    · exact good_less_b z g
    · intro h
      obtain ⟨x, hx, e⟩ := List.mem_map.mp c
      have q := List.all_eq_true.mp h (baD x) (List.mem_map.mpr ⟨x, hx, rfl⟩)
      unfold qB at q
      rw [show (baD x).nm = z from e] at q
      simp at q
  · rw [if_neg c, if_pos]
    · rfl
    · refine List.all_eq_true.mpr fun y hy => ?_
      obtain ⟨x, hx, rfl⟩ := List.mem_map.mp hy
      unfold qB
      simp only [Bool.not_eq_true', decide_eq_false_iff_not]
      exact fun e => c (List.mem_map.mpr ⟨x, hx, e⟩)
theorem due_om {ss ws : List Str} {ms : List MkD} {rs ps : List PaT} (a b : Str) (g : Good ss ws ms rs ps) : (allO (qM a b) (.nmk a b) ms).or (schDue ss ws (ms.filter (qM a b)) (rs.map ruD) (ps.map baD)) = if (a, b) ∈ ms.map prM then none else some (.nmk a b) := by
  unfold allO
  by_cases c : (a, b) ∈ ms.map prM
  · rw [if_pos c, if_neg, Option.none_or]
    · exact good_less_m _ g
    · intro h
      obtain ⟨x, hx, e⟩ := List.mem_map.mp c
      have q := List.all_eq_true.mp h x hx
      unfold qM at q
      rw [show (x.mr, x.md) = (a, b) from e] at q
      simp at q
  · rw [if_neg c, if_pos]
    · rfl
    · refine List.all_eq_true.mpr fun x hx => ?_
      unfold qM
      rw [Bool.not_eq_true', decide_eq_false_iff_not]
      exact fun e => c (List.mem_map.mpr ⟨x, hx, e⟩)
def spLdn (K : PySem.W.Frag) (C : Nat → Addr) (S MB RB BB : Addr) : Sp := fun vs H Q E => ∃ (x pt : Addr) (c : Chg) (ss ws pl : List Str) (as bs cs : List Addr) (ms : List MkD) (rs ps : List PaT), vs = [.ref x, .str (chN c), .ref pt] ∧ SchG S H x ss ws as bs cs ∧ Parts K MB RB BB H as bs cs ms (rs.map ruD) (ps.map baD) ∧ chP H pt c ∧ LOk ss ws pl ms rs ps ∧ ChOk ss ws pl c ∧
  Rfs C (chDue ss ws ms rs ps c) H (fun H' => ∀ y as' bs' cs', SchG S H' y ss ws as' bs' cs' → Parts K MB RB BB H' as' bs' cs' (chGo none ms rs ps c).1 ((chGo none ms rs ps c).2.1.map ruD) ((chGo none ms rs ps c).2.2.map baD) → Q (.ref y) H') E
section
variable {P : Program} {w : World} {K : PySem.W.Frag} {mg : Str → Option Value} {base : Heap} {C : Nat → Addr}
/-- the methods that change a scheme -/
structure Mth (P : Program) (w : World) (K : PySem.W.Frag) (mg : Str → Option Value) (base : Heap) (C : Nat → Addr) (S MB RB BB fWr fWb fWm fXr fXb fXm : Addr) (dWr dWb dWm dXr dXb dXm : FuncData) : Prop where
  mWr : Meth K S "with_rule" fWr
  bWr : Binds K dWr ["self", "rule"] []
  GWr : FnOk P w K mg base (L2N.CX P w) 8 fWr dWr ["self", "rule"] (spSwr K C S MB RB BB)
  mWb : Meth K S "with_bar" fWb
  bWb : Binds K dWb ["self", "bar"] []
  GWb : FnOk P w K mg base (L2N.CX P w) 8 fWb dWb ["self", "bar"] (spSwb K C S MB RB BB)
  mWm : Meth K S "with_making" fWm
  bWm : Binds K dWm ["self", "making"] []
  GWm : FnOk P w K mg base (L2N.CX P w) 8 fWm dWm ["self", "making"] (spSwm K C S MB RB BB)
  mXr : Meth K S "without_rule" fXr
  bXr : Binds K dXr ["self", "name"] []
  GXr : FnOk P w K mg base (L2N.CX P w) 8 fXr dXr ["self", "name"] (spSxr K C S MB RB BB)
  mXb : Meth K S "without_bar" fXb
  bXb : Binds K dXb ["self", "name"] []
  GXb : FnOk P w K mg base (L2N.CX P w) 8 fXb dXb ["self", "name"] (spSxb K C S MB RB BB)
  mXm : Meth K S "without_making" fXm
  bXm : Binds K dXm ["self", "maker", "made"] []
  GXm : FnOk P w K mg base (L2N.CX P w) 8 fXm dXm ["self", "maker", "made"] (spSxm K C S MB RB BB)
theorem scLdn : FnScope ["_law_scheme", "_law_deed", "_law_part"] ["_law_scheme", "_law_deed", "_law_part"] (defScope sLdn) := ⟨rfl, rfl, rfl, by decide +kernel, rfl, by decide +kernel, by decide +kernel⟩
theorem ok_ldn {f fRl fBr fMk fS S MB RB BB fWr fWb fWm fXr fXb fXm : Addr} {fd dRl dBr dMk dWr dWb dWm dXr dXb dXm : FuncData} (F : Fun K "_law_done" "_law_done" sLdn f fd) (TC : TxSch K mg S fS) (MT : Mth P w K mg base C S MB RB BB fWr fWb fWm fXr fXb fXm dWr dWb dWm dXr dXb dXm)
    (DRl : Dn K mg "_law_rule" sLrl ["_law_part"] fRl dRl) (GRl : FnOk P w K mg base CX0 8 fRl dRl ["_law_part"] (spLrl K RB)) (DBr : Dn K mg "_law_bar" sLbr ["_law_part"] fBr dBr) (GBr : FnOk P w K mg base CX0 8 fBr dBr ["_law_part"] (spLbr K BB)) (DMk : Dn K mg "_law_making" sLmk ["_law_part"] fMk dMk) (GMk : FnOk P w K mg base CX0 7 fMk dMk ["_law_part"] (spLmk K MB)) :
    FnOk P w K mg base (L2N.CX P w) 9 f fd ["_law_scheme", "_law_deed", "_law_part"] (spLdn K C S MB RB BB) := by
  refine okN F scLdn (fun vs H Q E h => ?_) (fun cdv A outer s H vs Q E hr h => ?_)
  · obtain ⟨x, pt, c, ss, ws, pl, as, bs, cs, ms, rs, ps, rfl, _⟩ := h
    rfl
  · obtain ⟨x, pt, c, ss, ws, pl, as, bs, cs, ms, rs, ps, rfl, sg, pa, cp, ok, ck, kk⟩ := h
    obtain ⟨mWr, bWr, GWr, mWb, bWb, GWb, mWm, bWm, GWm, mXr, bXr, GXr, mXb, bXb, GXb, mXm, bXm, GXm⟩ := MT
    have hr7 : Room 7 _ := hr.mono (by decide)
    have hr8 : Room 8 _ := hr
    refine ⟨_, (pss_cons (ps_if (pt_cmpR op_eq (pv 1) pe_str (nomark _)) (pss_one (ps_ret (pe_meth (pv 0) TC.cl mWr GWr hr8 bWr .nil (L2N.passes_call (L2N.takes_of rfl rfl rfl rfl) (fun _ _ _ _ h => h)) (pa_cons (pe_call GRl hr8 rfl DRl.g DRl.F.kp DRl.b .nil pass0 (pa_cons (pv 2) pa_nil)) pa_nil)))) pss_nil)
      (pss_cons (ps_if (pt_cmpR op_eq (pv 1) pe_str (nomark _)) (pss_one (ps_ret (pe_meth (pv 0) TC.cl mWb GWb hr8 bWb .nil (L2N.passes_call (L2N.takes_of rfl rfl rfl rfl) (fun _ _ _ _ h => h)) (pa_cons (pe_call GBr hr8 rfl DBr.g DBr.F.kp DBr.b .nil pass0 (pa_cons (pv 2) pa_nil)) pa_nil)))) pss_nil)
      (pss_cons (ps_if (pt_cmpR op_eq (pv 1) pe_str (nomark _)) (pss_one (ps_ret (pe_meth (pv 0) TC.cl mWm GWm hr8 bWm .nil (L2N.passes_call (L2N.takes_of rfl rfl rfl rfl) (fun _ _ _ _ h => h)) (pa_cons (pe_call GMk hr7 rfl DMk.g DMk.F.kp DMk.b .nil pass0 (pa_cons (pv 2) pa_nil)) pa_nil)))) pss_nil)
      (pss_cons (ps_if (pt_cmpR op_eq (pv 1) pe_str (nomark _)) (pss_one (ps_ret (pe_meth (pv 0) TC.cl mXr GXr hr8 bXr .nil (L2N.passes_call (L2N.takes_of rfl rfl rfl rfl) (fun _ _ _ _ h => h)) (pa_cons (pe_ix ix_tup (pv 2) pe_int (fun _ _ => rfl)) pa_nil)))) pss_nil)
      (pss_cons (ps_if (pt_cmpR op_eq (pv 1) pe_str (nomark _)) (pss_one (ps_ret (pe_meth (pv 0) TC.cl mXb GXb hr8 bXb .nil (L2N.passes_call (L2N.takes_of rfl rfl rfl rfl) (fun _ _ _ _ h => h)) (pa_cons (pe_ix ix_tup (pv 2) pe_int (fun _ _ => rfl)) pa_nil)))) pss_nil)
      (pss_one (ps_ret (pe_meth (pv 0) TC.cl mXm GXm hr8 bXm .nil (L2N.passes_call (L2N.takes_of rfl rfl rfl rfl) (fun _ _ _ _ h => h)) (pa_cons (pe_ix ix_tup (pv 2) pe_int (fun _ _ => rfl)) (pa_cons (pe_ix ix_tup (pv 2) pe_int (fun _ _ => rfl)) pa_nil)))))))))), ?_⟩
    obtain ⟨dx, q1, q2, q3, q4, q5, h0, g1, g2, g3, g4, g5⟩ := id sg
    cases c with
    | wr z =>
      refine ⟨_, rfl, rfl, _, rfl, ite2 (fun _ => ?_) (fun q => absurd (decide_eq_true rfl) q)⟩
      refine ⟨_, rfl, x, dx, _, rfl, h0, schF_no (by decide +kernel) (by decide +kernel) (by decide +kernel) (by decide +kernel) (by decide +kernel) _ _ _ _ _, _, rfl, pt, z, rfl, cp, pt_rt ok.ns ok.nw ok.np ck, fun o H1 no S1 at1 => ?_⟩
      have sg1 := sg.same S1
      have pa1 := pa.same S1
      have pN : Parts K MB RB BB H1 as (bs ++ [o]) cs ms ((rs ++ [z]).map ruD) (ps.map baD) := ⟨pa1.am, by rw [List.map_append]; exact AllAt.put1 pa1.ar at1, pa1.ab⟩
      refine ⟨x, o, ss, ws, as, bs, cs, _, _, _, rfl, sg1, pN, sch_in ok.s20 ok.w20 (Nat.le_trans ok.ml (by decide)) (by have := ok.r8; simp; omega) ok.b20 ok.ns ok.nw ok.mt, ?_⟩
      rw [show schDue ss ws ms ((rs ++ [z]).map ruD) (ps.map baD) = chDue ss ws ms rs ps (.wr z) from due_rule z ok.g]
      exact (Rfs.same S1 kk).map fun _ H2 S2 f y ny sgy => f y _ _ _ sgy (pN.same S2)
    | wb z =>
      refine ⟨_, rfl, rfl, _, rfl, ite2 (fun q => absurd (of_decide_eq_true q) (str_nn (by dsimp only [chN]; decide +kernel))) (fun _ => ?_)⟩
      dsimp only [tNext]
      refine ⟨_, rfl, rfl, _, rfl, ite2 (fun _ => ?_) (fun q => absurd (decide_eq_true rfl) q)⟩
      refine ⟨_, rfl, x, dx, _, rfl, h0, schF_no (by decide +kernel) (by decide +kernel) (by decide +kernel) (by decide +kernel) (by decide +kernel) _ _ _ _ _, _, rfl, pt, z, rfl, cp, pt_rt ok.ns ok.nw ok.np ck, fun o H1 no S1 at1 => ?_⟩
      have sg1 := sg.same S1
      have pa1 := pa.same S1
      have pN : Parts K MB RB BB H1 as bs (cs ++ [o]) ms (rs.map ruD) ((ps ++ [z]).map baD) := ⟨pa1.am, pa1.ar, by rw [List.map_append]; exact AllAt.put1 pa1.ab at1⟩
      refine ⟨x, o, ss, ws, as, bs, cs, _, _, _, rfl, sg1, pN, sch_in ok.s20 ok.w20 (Nat.le_trans ok.ml (by decide)) ok.r20 (by have := ok.b4; simp; omega) ok.ns ok.nw ok.mt, ?_⟩
      rw [show schDue ss ws ms (rs.map ruD) ((ps ++ [z]).map baD) = chDue ss ws ms rs ps (.wb z) from due_bar z ok.g]
      exact (Rfs.same S1 kk).map fun _ H2 S2 f y ny sgy => f y _ _ _ sgy (pN.same S2)
    | wm z =>
      refine ⟨_, rfl, rfl, _, rfl, ite2 (fun q => absurd (of_decide_eq_true q) (str_nn (by dsimp only [chN]; decide +kernel))) (fun _ => ?_)⟩
      dsimp only [tNext]
      refine ⟨_, rfl, rfl, _, rfl, ite2 (fun q => absurd (of_decide_eq_true q) (str_nn (by dsimp only [chN]; decide +kernel))) (fun _ => ?_)⟩
      dsimp only [tNext]
      refine ⟨_, rfl, rfl, _, rfl, ite2 (fun _ => ?_) (fun q => absurd (decide_eq_true rfl) q)⟩
      refine ⟨_, rfl, x, dx, _, rfl, h0, schF_no (by decide +kernel) (by decide +kernel) (by decide +kernel) (by decide +kernel) (by decide +kernel) _ _ _ _ _, _, rfl, pt, z, rfl, cp, mk_rt ok.ns ok.nw ck, fun o H1 no S1 at1 => ?_⟩
      have sg1 := sg.same S1
      have pa1 := pa.same S1
      have pN : Parts K MB RB BB H1 (as ++ [o]) bs cs (ms ++ [z]) (rs.map ruD) (ps.map baD) := ⟨AllAt.put1 pa1.am at1, pa1.ar, pa1.ab⟩
      refine ⟨x, o, ss, ws, as, bs, cs, _, _, _, rfl, sg1, pN, sch_in ok.s20 ok.w20 (by have := ok.ml; simp; omega) ok.r20 ok.b20 ok.ns ok.nw (fun y hy => (List.mem_append.mp hy).elim (ok.mt y) (fun h => by rw [List.mem_singleton.mp h]; exact mk_rt ok.ns ok.nw ck)), ?_⟩
      rw [show schDue ss ws (ms ++ [z]) (rs.map ruD) (ps.map baD) = chDue ss ws ms rs ps (.wm z) from due_mak z ok.g]
      exact (Rfs.same S1 kk).map fun _ H2 S2 f y ny sgy => f y _ _ _ sgy (pN.same S2)
    | or z =>
      refine ⟨_, rfl, rfl, _, rfl, ite2 (fun q => absurd (of_decide_eq_true q) (str_nn (by dsimp only [chN]; decide +kernel))) (fun _ => ?_)⟩
      dsimp only [tNext]
      refine ⟨_, rfl, rfl, _, rfl, ite2 (fun q => absurd (of_decide_eq_true q) (str_nn (by dsimp only [chN]; decide +kernel))) (fun _ => ?_)⟩
      dsimp only [tNext]
      refine ⟨_, rfl, rfl, _, rfl, ite2 (fun q => absurd (of_decide_eq_true q) (str_nn (by dsimp only [chN]; decide +kernel))) (fun _ => ?_)⟩
      dsimp only [tNext]
      refine ⟨_, rfl, rfl, _, rfl, ite2 (fun _ => ?_) (fun q => absurd (decide_eq_true rfl) q)⟩
      obtain ⟨g1, g2, p0, p1, p2⟩ := id (show PtAt H pt z from cp)
      refine ⟨_, rfl, x, dx, _, rfl, h0, schF_no (by decide +kernel) (by decide +kernel) (by decide +kernel) (by decide +kernel) (by decide +kernel) _ _ _ _ _, _, rfl, pt, _, 0, _, rfl, rfl, SqT.of p0, atI_nat (j := 0) rfl, x, z.nm, ss, ws, as, bs, cs, _, _, _, rfl, sg, pa, sch_in ok.s20 ok.w20 (Nat.le_trans ok.ml (by decide)) ok.r20 ok.b20 ok.ns ok.nw ok.mt, ?_⟩
      rw [due_or z.nm ok.g]
      exact kk.map fun _ H2 S2 f y ny sgy => f y _ _ _ sgy (⟨(pa.same S2).am, by show AllAt _ _ ((rs.filter (qN z.nm)).map ruD); rw [← map_qN]; exact keepA_all (pa.same S2).ar, (pa.same S2).ab⟩)
    | ob z =>
      refine ⟨_, rfl, rfl, _, rfl, ite2 (fun q => absurd (of_decide_eq_true q) (str_nn (by dsimp only [chN]; decide +kernel))) (fun _ => ?_)⟩
      dsimp only [tNext]
      refine ⟨_, rfl, rfl, _, rfl, ite2 (fun q => absurd (of_decide_eq_true q) (str_nn (by dsimp only [chN]; decide +kernel))) (fun _ => ?_)⟩
      dsimp only [tNext]
      refine ⟨_, rfl, rfl, _, rfl, ite2 (fun q => absurd (of_decide_eq_true q) (str_nn (by dsimp only [chN]; decide +kernel))) (fun _ => ?_)⟩
      dsimp only [tNext]
      refine ⟨_, rfl, rfl, _, rfl, ite2 (fun q => absurd (of_decide_eq_true q) (str_nn (by dsimp only [chN]; decide +kernel))) (fun _ => ?_)⟩
      dsimp only [tNext]
      refine ⟨_, rfl, rfl, _, rfl, ite2 (fun _ => ?_) (fun q => absurd (decide_eq_true rfl) q)⟩
      obtain ⟨g1, g2, p0, p1, p2⟩ := id (show PtAt H pt z from cp)
      refine ⟨_, rfl, x, dx, _, rfl, h0, schF_no (by decide +kernel) (by decide +kernel) (by decide +kernel) (by decide +kernel) (by decide +kernel) _ _ _ _ _, _, rfl, pt, _, 0, _, rfl, rfl, SqT.of p0, atI_nat (j := 0) rfl, x, z.nm, ss, ws, as, bs, cs, _, _, _, rfl, sg, pa, sch_in ok.s20 ok.w20 (Nat.le_trans ok.ml (by decide)) ok.r20 ok.b20 ok.ns ok.nw ok.mt, ?_⟩
      rw [due_ob z.nm ok.g]
      exact kk.map fun _ H2 S2 f y ny sgy => f y _ _ _ sgy (⟨(pa.same S2).am, (pa.same S2).ar, by show AllAt _ _ ((ps.filter (qN z.nm)).map baD); rw [← map_qB]; exact keepA_all (pa.same S2).ab⟩)
    | om mr md =>
      refine ⟨_, rfl, rfl, _, rfl, ite2 (fun q => absurd (of_decide_eq_true q) (str_nn (by dsimp only [chN]; decide +kernel))) (fun _ => ?_)⟩
      dsimp only [tNext]
      refine ⟨_, rfl, rfl, _, rfl, ite2 (fun q => absurd (of_decide_eq_true q) (str_nn (by dsimp only [chN]; decide +kernel))) (fun _ => ?_)⟩
      dsimp only [tNext]
      refine ⟨_, rfl, rfl, _, rfl, ite2 (fun q => absurd (of_decide_eq_true q) (str_nn (by dsimp only [chN]; decide +kernel))) (fun _ => ?_)⟩
      dsimp only [tNext]
      refine ⟨_, rfl, rfl, _, rfl, ite2 (fun q => absurd (of_decide_eq_true q) (str_nn (by dsimp only [chN]; decide +kernel))) (fun _ => ?_)⟩
      dsimp only [tNext]
      refine ⟨_, rfl, rfl, _, rfl, ite2 (fun q => absurd (of_decide_eq_true q) (str_nn (by dsimp only [chN]; decide +kernel))) (fun _ => ?_)⟩
      dsimp only [tNext]
      have cp : H pt = some (.tup [.str mr, .str md]) := cp
      refine ⟨_, rfl, x, dx, _, rfl, h0, schF_no (by decide +kernel) (by decide +kernel) (by decide +kernel) (by decide +kernel) (by decide +kernel) _ _ _ _ _, _, rfl, pt, _, 0, _, rfl, rfl, SqT.of cp, atI_nat (j := 0) rfl, _, rfl, pt, _, 1, _, rfl, rfl, SqT.of cp, atI_nat (j := 1) rfl, x, mr, md, ss, ws, as, bs, cs, _, _, _, rfl, sg, pa, sch_in ok.s20 ok.w20 (Nat.le_trans ok.ml (by decide)) ok.r20 ok.b20 ok.ns ok.nw ok.mt, ck.1.nmw ok.ns, ck.2.nmw ok.ns, ?_⟩
      rw [due_om mr md ok.g]
      exact kk.map fun _ H2 S2 f y ny sgy => f y _ _ _ sgy (⟨keepA_all (pa.same S2).am, (pa.same S2).ar, (pa.same S2).ab⟩)
end
end Wm
/-! == and != of two lists whose items have an own __eq__, where all items are equal: the items' comparison may make objects -/
namespace Wm
open PySem PySem.Spec PyProof.Rows PySem.SeqAt PySem.MeetsSeq PySem.MeetsSeq3 L2

theorem lu_eq {prog : Program} {w : World} {A : Around} {R : Result → Shared → Prop} (l b : Addr) (items items2 : Array Value) (hsz : items.size = items2.size) (I : Nat → Shared → Prop)
    (hl : ∀ j s, I j s → s.heap.IsList l items ∧ s.heap.IsList b items2)
    (he : ∀ j s (h1 : j < items.size) (h2 : j < items2.size), I j s → wpAny (model prog w) A.in1 (eqBool items[j] items2[j]) (fun t s' => t = true ∧ I (j + 1) s') (fun e s' => R (.error e) s') s)
    (hR : ∀ s, I items.size s → R (.ok (.ret (.bool true))) s) (k : Nat) :
    ∀ i : Nat, items.size - i = k → i ≤ items.size → ∀ s, I i s → wpAny (model prog w) A.in1 (Builtin.«list.__eq__.loop» ⟨[.ref l, .ref b, rawInt i, rawInt 2], []⟩) (fun fin s' => match fin with | .done f => R (.ok f) s' | .again c' => c'.quiet = true ∧ codeAny (model prog w) A c' R s') (fun e s' => R (.error e) s') s := by
  induction k with
  | zero =>
    intro i hk hi s hs
    obtain ⟨⟨⟨cls, dd, data, sl⟩, ho, hc, n, hd⟩, ⟨⟨cls2, dd2, data2, sl2⟩, ho2, hc2, n2, hd2⟩⟩ := hl i s hs
    simp only at hc hd hc2 hd2
    subst hc hd hc2 hd2
    have e : i = items.size := by omega
    have h := hR s (e ▸ hs)
    obtain ⟨hp, g, d, tk, os⟩ := s
    wp_walk using wpAny_loadPart' ho, wpAny_loadPart' ho2
    have hi1 : items[((i : Nat) : Int).toNat]? = none := by simp; omega
    have hi2 : items2[((i : Nat) : Int).toNat]? = none := by simp; omega
    rw [hi1, hi2]
    wp_walk using wpAny_loadPart' ho, wpAny_loadPart' ho2
    show R (.ok (.ret (.bool (items.size == items2.size)))) _
    rw [hsz]
    simpa using h
  | succ k ih =>
    intro i hk hi s hs
    obtain ⟨⟨⟨cls, dd, data, sl⟩, ho, hc, n, hd⟩, ⟨⟨cls2, dd2, data2, sl2⟩, ho2, hc2, n2, hd2⟩⟩ := hl i s hs
    simp only at hc hd hc2 hd2
    subst hc hd hc2 hd2
    have hlt : i < items.size := by omega
    have hlt2 : i < items2.size := by omega
    have h := he i s hlt hlt2 hs
    obtain ⟨hp, g, d, tk, os⟩ := s
    wp_walk using wpAny_loadPart' ho, wpAny_loadPart' ho2
    have hi1 : items[((i : Nat) : Int).toNat]? = some items[i] := by simp [hlt]
    have hi2 : items2[((i : Nat) : Int).toNat]? = some items2[i] := by simp [hlt2]
    have hc : ((i : Int) + 1) = ((i + 1 : Nat) : Int) := by push_cast; rfl
    rw [hi1, hi2]
    refine wpAny_bind (wpAny_mono h (fun t s1 q => ?_) fun _ _ x => x)
    obtain ⟨rfl, h1⟩ := q
    obtain ⟨hp, g, d, tk, os⟩ := s1
    wp_walk
    rw [hc]
    exact ⟨plainId_quiet plain_eq_loop _, codeAny_builtin entry_eq_loop (by
      rw [Around.under_plainId plain_eq_loop _]
      exact ih (i + 1) (by omega) hlt _ h1)⟩

theorem lu_ne {prog : Program} {w : World} {A : Around} {R : Result → Shared → Prop} (l b : Addr) (items items2 : Array Value) (hsz : items.size = items2.size) (I : Nat → Shared → Prop)
    (hl : ∀ j s, I j s → s.heap.IsList l items ∧ s.heap.IsList b items2)
    (he : ∀ j s (h1 : j < items.size) (h2 : j < items2.size), I j s → wpAny (model prog w) A.in1 (eqBool items[j] items2[j]) (fun t s' => t = true ∧ I (j + 1) s') (fun e s' => R (.error e) s') s)
    (hR : ∀ s, I items.size s → R (.ok (.ret (.bool false))) s) (k : Nat) :
    ∀ i : Nat, items.size - i = k → i ≤ items.size → ∀ s, I i s → wpAny (model prog w) A.in1 (Builtin.«list.__eq__.loop» ⟨[.ref l, .ref b, rawInt i, rawInt 3], []⟩) (fun fin s' => match fin with | .done f => R (.ok f) s' | .again c' => c'.quiet = true ∧ codeAny (model prog w) A c' R s') (fun e s' => R (.error e) s') s := by
  induction k with
  | zero =>
    intro i hk hi s hs
    obtain ⟨⟨⟨cls, dd, data, sl⟩, ho, hc, n, hd⟩, ⟨⟨cls2, dd2, data2, sl2⟩, ho2, hc2, n2, hd2⟩⟩ := hl i s hs
    simp only at hc hd hc2 hd2
    subst hc hd hc2 hd2
    have e : i = items.size := by omega
    have h := hR s (e ▸ hs)
    obtain ⟨hp, g, d, tk, os⟩ := s
    wp_walk using wpAny_loadPart' ho, wpAny_loadPart' ho2
    have hi1 : items[((i : Nat) : Int).toNat]? = none := by simp; omega
    have hi2 : items2[((i : Nat) : Int).toNat]? = none := by simp; omega
    rw [hi1, hi2]
    wp_walk using wpAny_loadPart' ho, wpAny_loadPart' ho2
    show R (.ok (.ret (.bool (items.size != items2.size)))) _
    rw [hsz]
    simpa using h
  | succ k ih =>
    intro i hk hi s hs
    obtain ⟨⟨⟨cls, dd, data, sl⟩, ho, hc, n, hd⟩, ⟨⟨cls2, dd2, data2, sl2⟩, ho2, hc2, n2, hd2⟩⟩ := hl i s hs
    simp only at hc hd hc2 hd2
    subst hc hd hc2 hd2
    have hlt : i < items.size := by omega
    have hlt2 : i < items2.size := by omega
    have h := he i s hlt hlt2 hs
    obtain ⟨hp, g, d, tk, os⟩ := s
    wp_walk using wpAny_loadPart' ho, wpAny_loadPart' ho2
    have hi1 : items[((i : Nat) : Int).toNat]? = some items[i] := by simp [hlt]
    have hi2 : items2[((i : Nat) : Int).toNat]? = some items2[i] := by simp [hlt2]
    have hc : ((i : Int) + 1) = ((i + 1 : Nat) : Int) := by push_cast; rfl
    rw [hi1, hi2]
    refine wpAny_bind (wpAny_mono h (fun t s1 q => ?_) fun _ _ x => x)
    obtain ⟨rfl, h1⟩ := q
    obtain ⟨hp, g, d, tk, os⟩ := s1
    wp_walk
    rw [hc]
    exact ⟨plainId_quiet plain_eq_loop _, codeAny_builtin entry_eq_loop (by
      rw [Around.under_plainId plain_eq_loop _]
      exact ih (i + 1) (by omega) hlt _ h1)⟩

theorem mi_eq {prog : Program} {w : World} (l b : Addr) (items items2 : Array Value) (hsz : items.size = items2.size) (I : Nat → Shared → Prop)
    (hl : ∀ j s, I j s → s.heap.IsList l items ∧ s.heap.IsList b items2) :
    MeetsIn prog w (Builtin.«list.__eq__» ⟨[.ref l, .ref b], []⟩) (fun A R s => I 0 s ∧ (∀ j s (h1 : j < items.size) (h2 : j < items2.size), I j s → wpAny (model prog w) A.in1 (eqBool items[j] items2[j]) (fun t s' => t = true ∧ I (j + 1) s') (fun e s' => R (.error e) s') s) ∧ ∀ s, I items.size s → R (.ok (.ret (.bool true))) s) := by
  intro A R s ⟨hs, he, hR⟩
  obtain ⟨⟨⟨cls, dd, data, sl⟩, ho, hc, n, hd⟩, ⟨⟨cls2, dd2, data2, sl2⟩, ho2, hc2, n2, hd2⟩⟩ := hl 0 s hs
  simp only at hc hd hc2 hd2
  subst hc hd hc2 hd2
  obtain ⟨hp, g, d, tk, os⟩ := s
  have f3 := AutoSeq1.sub_list_list
  have hne : ¬ (items.size != items2.size) = true := by simp [hsz]
  wp_walk using wpAny_loadPart' ho, wpAny_loadPart' ho2
  exact ⟨plainId_quiet plain_eq_loop _, codeAny_builtin entry_eq_loop (by
    rw [Around.under_plainId plain_eq_loop _]
    exact lu_eq l b items items2 hsz I hl he hR _ 0 rfl (Nat.zero_le _) _ hs)⟩

theorem mi_ne {prog : Program} {w : World} (l b : Addr) (items items2 : Array Value) (hsz : items.size = items2.size) (I : Nat → Shared → Prop)
    (hl : ∀ j s, I j s → s.heap.IsList l items ∧ s.heap.IsList b items2) :
    MeetsIn prog w (Builtin.«list.__ne__» ⟨[.ref l, .ref b], []⟩) (fun A R s => I 0 s ∧ (∀ j s (h1 : j < items.size) (h2 : j < items2.size), I j s → wpAny (model prog w) A.in1 (eqBool items[j] items2[j]) (fun t s' => t = true ∧ I (j + 1) s') (fun e s' => R (.error e) s') s) ∧ ∀ s, I items.size s → R (.ok (.ret (.bool false))) s) := by
  intro A R s ⟨hs, he, hR⟩
  obtain ⟨⟨⟨cls, dd, data, sl⟩, ho, hc, n, hd⟩, ⟨⟨cls2, dd2, data2, sl2⟩, ho2, hc2, n2, hd2⟩⟩ := hl 0 s hs
  simp only at hc hd hc2 hd2
  subst hc hd hc2 hd2
  obtain ⟨hp, g, d, tk, os⟩ := s
  have f3 := AutoSeq1.sub_list_list
  have hne : ¬ (items.size != items2.size) = true := by simp [hsz]
  wp_walk using wpAny_loadPart' ho, wpAny_loadPart' ho2
  exact ⟨plainId_quiet plain_eq_loop _, codeAny_builtin entry_eq_loop (by
    rw [Around.under_plainId plain_eq_loop _]
    exact lu_ne l b items items2 hsz I hl he hR _ 0 rfl (Nat.zero_le _) _ hs)⟩

def KpAll (H H' : Hp) : Prop := ∀ q o, H q = some o → H' q = some o
/-- p == p2 of two objects, with what it comes to -/
def EqU (X : Cx) (A : Around) (p p2 : Addr) (H : Hp) : Prop := ∀ (pins : List (Addr × Obj)) (s : Shared) (σ : L2.St) (Q : Value → Shared → Prop), Inv X pins σ H s → (∀ s' H', Inv X pins σ H' s' → KpAll H H' → Q (.bool true) s') → ∀ {E : Value → Shared → Prop}, wpAny (model X.prog X.w) A (richCompare .Eq (.ref p) (.ref p2)) Q E s
def rLU (X : Cx) (k : Nat) (t : Bool) : V → V → Hp → VK → Prop := fun x y H Q => ∃ (a b : Addr) (as bs : List Addr), x = .ref a ∧ y = .ref b ∧ H a = some (.lst (as.map V.ref)) ∧ H b = some (.lst (bs.map V.ref)) ∧ as.length = bs.length ∧
  (∀ (j : Nat) (p p2 : Addr) (H' : Hp), as[j]? = some p → bs[j]? = some p2 → KpAll H H' → p = p2 ∨ (p ≠ p2 ∧ EqU X X.A.in1 p p2 H')) ∧ ∀ H', KpAll H H' → Q (.bl t) H'
theorem vals_lenU {xs : List V} {us : List Value} (h : Vals xs us) : us.length = xs.length := h.length.symm
theorem vals_refU : ∀ {as : List Addr} {us ws : List Value}, Vals (as.map V.ref) us → Vals (as.map V.ref) ws → ws = us
  | [], _, _, .nil, .nil => rfl
  | a :: as, _, _, .cons r t, .cons r' t' => by
    cases r
    cases r'
    rw [vals_refU t t']
theorem vals_atU : ∀ {as : List Addr} {us : List Value} {j : Nat}, Vals (as.map V.ref) us → j < as.length → ∃ p, as[j]? = some p ∧ ∀ {h : j < us.length}, us[j] = Value.ref p
  | a :: as, _, 0, .cons r t, _ => by
    cases r
    exact ⟨a, rfl, rfl⟩
  | a :: as, _, j + 1, .cons r t, h => by
    obtain ⟨p, e, q⟩ := vals_atU (j := j) t (by simpa using h)
    exact ⟨p, e, q⟩

theorem op_eqU {X : Cx} {k : Nat} (hr : Room (k + 2) X.A) : OpR X (compareOp .Eq) (rLU X k true) := by
  intro pins s σ H x y v u Q I rx ry h
  obtain ⟨a, b, as, bs, rfl, rfl, ha, hb, le, eqs, q⟩ := h
  cases rx
  cases ry
  obtain ⟨z, its, n1, r, e⟩ := I.hok a _ ha
  obtain ⟨z2, its2, n2, r2, e2⟩ := I.hok b _ hb
  have l1 := vals_lenU r
  have l2 := vals_lenU r2
  rw [List.length_map] at l1 l2
  show wpAny _ _ (richCompare .Eq (.ref a) (.ref b)) _ _ _
  refine wpAny_richCompare_same_room (T := "list") ⟨_, e, rfl⟩ ⟨_, e2, rfl⟩ PySem.F.slot_list_eq (call_meetsIn PySem.F.slot_list_eq ⟨_, e, rfl⟩ PySem.F.entry_list_eq (PySem.F.args_list_eq_2 _ _) (mi_eq (prog := X.prog) (w := X.w) a b its.toArray its2.toArray (by simp [l1, l2, le]) (fun j s' => ∃ H', Inv X pins σ H' s' ∧ KpAll H H') ?_) ?_) ?_
  · rintro j s' ⟨H', I', kp⟩
    obtain ⟨_, i1, _, q1, g1⟩ := I'.hok a _ (kp _ _ ha)
    obtain ⟨_, i2, _, q2, g2⟩ := I'.hok b _ (kp _ _ hb)
    obtain rfl := vals_refU r q1
    obtain rfl := vals_refU r2 q2
    exact ⟨⟨_, g1, rfl, _, rfl⟩, ⟨_, g2, rfl, _, rfl⟩⟩
  · refine ⟨⟨H, I, fun _ _ z => z⟩, ?_, ?_⟩
    · rintro j s' h1 h2 ⟨H', I', kp⟩
      simp at h1 h2
      obtain ⟨p, ep, e1⟩ := vals_atU r (show j < as.length by omega)
      obtain ⟨p2, ep2, e3⟩ := vals_atU r2 (show j < bs.length by omega)
      rw [show its.toArray[j] = Value.ref p by simpa using e1, show its2.toArray[j] = Value.ref p2 by simpa using e3]
      have qq := eqs j p p2 H' ep ep2 kp
      rcases qq with rfl | ⟨ne, hs⟩
      · exact SeqAt.EqAt.same (A := X.A.in1) (s := s') (Value.ref p) X.prog X.w _ _ ⟨rfl, H', I', kp⟩
      · unfold eqBool
        refine wpAny_holding ?_
        refine wpAny_ite_split (fun hab => absurd (by have := eq_of_beq hab; injection this) ne) (fun _ => ?_)
        refine wpAny_bind (hs pins s' σ _ I' fun s'' H'' I'' kp' => wpAny_truthy_bool ⟨rfl, H'', I'', fun q o z => kp' q o (kp q o z)⟩)
    · rintro s' ⟨H', I', kp⟩
      exact ⟨(fun z => nomatch z), .bl true, H', I', rfl, q H' kp⟩
  · exact hr.units0

theorem op_neU {X : Cx} {k : Nat} (hr : Room (k + 2) X.A) : OpR X (compareOp .NotEq) (rLU X k false) := by
  intro pins s σ H x y v u Q I rx ry h
  obtain ⟨a, b, as, bs, rfl, rfl, ha, hb, le, eqs, q⟩ := h
  cases rx
  cases ry
  obtain ⟨z, its, n1, r, e⟩ := I.hok a _ ha
  obtain ⟨z2, its2, n2, r2, e2⟩ := I.hok b _ hb
  have l1 := vals_lenU r
  have l2 := vals_lenU r2
  rw [List.length_map] at l1 l2
  show wpAny _ _ (richCompare .NotEq (.ref a) (.ref b)) _ _ _
  refine wpAny_richCompare_same_room (T := "list") ⟨_, e, rfl⟩ ⟨_, e2, rfl⟩ PySem.F.slot_list_ne (call_meetsIn PySem.F.slot_list_ne ⟨_, e, rfl⟩ PySem.F.entry_list_ne (PySem.F.args_list_ne_2 _ _) (mi_ne (prog := X.prog) (w := X.w) a b its.toArray its2.toArray (by simp [l1, l2, le]) (fun j s' => ∃ H', Inv X pins σ H' s' ∧ KpAll H H') ?_) ?_) ?_
  · rintro j s' ⟨H', I', kp⟩
    obtain ⟨_, i1, _, q1, g1⟩ := I'.hok a _ (kp _ _ ha)
    obtain ⟨_, i2, _, q2, g2⟩ := I'.hok b _ (kp _ _ hb)
    obtain rfl := vals_refU r q1
    obtain rfl := vals_refU r2 q2
    exact ⟨⟨_, g1, rfl, _, rfl⟩, ⟨_, g2, rfl, _, rfl⟩⟩
  · refine ⟨⟨H, I, fun _ _ z => z⟩, ?_, ?_⟩
    · rintro j s' h1 h2 ⟨H', I', kp⟩
      simp at h1 h2
      obtain ⟨p, ep, e1⟩ := vals_atU r (show j < as.length by omega)
      obtain ⟨p2, ep2, e3⟩ := vals_atU r2 (show j < bs.length by omega)
      rw [show its.toArray[j] = Value.ref p by simpa using e1, show its2.toArray[j] = Value.ref p2 by simpa using e3]
      have qq := eqs j p p2 H' ep ep2 kp
      rcases qq with rfl | ⟨ne, hs⟩
      · exact SeqAt.EqAt.same (A := X.A.in1) (s := s') (Value.ref p) X.prog X.w _ _ ⟨rfl, H', I', kp⟩
      · unfold eqBool
        refine wpAny_holding ?_
        refine wpAny_ite_split (fun hab => absurd (by have := eq_of_beq hab; injection this) ne) (fun _ => ?_)
        refine wpAny_bind (hs pins s' σ _ I' fun s'' H'' I'' kp' => wpAny_truthy_bool ⟨rfl, H'', I'', fun q o z => kp' q o (kp q o z)⟩)
    · rintro s' ⟨H', I', kp⟩
      exact ⟨(fun z => nomatch z), .bl false, H', I', rfl, q H' kp⟩
  · exact hr.units0

end Wm
/-! what B35 asks of two items: an own __eq__ that says True -/
namespace Wm
open PySem PySem.Spec PyProof.Rows L2 PySem.W
theorem eqU_of {X : Cx} {C f : Addr} {fd : FuncData} {k : Nat} {sp : Sp} {ps : List Str} (hs : findIn X.K (.ref C) "__eq__" = some (some (.ref f))) (hf : isFn X.K (.ref f) = true) (F : FnOk X.prog X.w X.K X.mg X.base CX0 k f fd ps sp) (hr : Room k X.A.in1) (hb : L2.Binds X.K fd ps [])
    {p p2 dx dy : Addr} {fs gs : List (Str × V)} {H : Hp} (ha : H p = some (.ins C dx fs)) (hb' : H p2 = some (.ins C dy gs)) (nf : notFirst X.K C (.ref C) = true) (h : sp [.ref p, .ref p2] H (fun v H' => v = .bl true ∧ KpAll H H') E0) : EqU X X.A.in1 p p2 H := by
  intro pins s σ Q I q E
  obtain ⟨mA, oa, _⟩ := ins_get I.hok ha
  obtain ⟨mB, ob, _⟩ := ins_get I.hok hb'
  obtain ⟨od, J, _⟩ := oa.look
  obtain ⟨od', J', _⟩ := ob.look
  obtain ⟨m, hF⟩ := I.fr
  refine cmp_K hr.units0 hF I.ok.mod.kin J (InstAt.type J') nf hs hf ?_
  have rv : Vals [V.ref p, V.ref p2] [Value.ref p, Value.ref p2] := .cons rfl (.cons rfl .nil)
  have hl : ([Value.ref p, Value.ref p2] ++ []).length = ps.length := F.len _ _ _ _ h
  have bd := hb s [Value.ref p, Value.ref p2] I.kIn hl
  rw [List.append_nil] at bd
  refine wpAny_call (codeAny_mono (F.run X.A.in1 X.stack s H ⟨[Value.ref p, Value.ref p2], []⟩ [Value.ref p, Value.ref p2] [V.ref p, V.ref p2] _ E0 hr I.env0.in1 bd rv h) fun r s' hq => ?_)
  cases r with
  | error e => exact hq.elim
  | ok fl =>
    cases fl with
    | next => exact hq.elim
    | brk => exact hq.elim
    | cont => exact hq.elim
    | ret u =>
      obtain ⟨v, H', I2, rv, rfl, kp⟩ := I.after (Q := fun v H' => v = .bl true ∧ KpAll H H') hq
      cases rv
      exact q _ _ I2 kp
end Wm
namespace Wm
open PySem L2 StX
/-! ### == of what is alike -/
def VarOk (v : Var) : Prop := okS v.1 ∧ ∀ z, v.2 = some z → okS z
def TriOk (t : Tri) : Prop := okS t.1 ∧ okS t.2.1 ∧ okS t.2.2
theorem tups_sh : ∀ {rs : List (List PyData)}, (∀ r ∈ rs, PyData.canLayAll0 r = true ∧ PyData.depthAll r ≤ 1) → PyData.canLayAll0 (rs.map PyData.tuple) = true ∧ PyData.depthAll (rs.map PyData.tuple) ≤ 2
  | [], _ => by simp [PyData.canLayAll0, PyData.depthAll]
  | r :: rs, h => by
    obtain ⟨a, b⟩ := h r List.mem_cons_self
    obtain ⟨h2, h3⟩ := tups_sh (rs := rs) fun y hy => h y (List.mem_cons_of_mem _ hy)
    have e : (PyData.tuple r).canLay0 = true := by simp [PyData.canLay0, a]
    have d : (PyData.tuple r).depth ≤ 2 := by
      simp [PyData.depth]
      omega
    refine ⟨by simp only [List.map_cons, PyData.canLayAll0, e, h2, Bool.and_self], ?_⟩
    simp only [List.map_cons, PyData.depthAll]
    omega
theorem rows_sh {rs : List (List PyData)} (h : ∀ r ∈ rs, PyData.canLayAll0 r = true ∧ PyData.depthAll r ≤ 1) : SeqAt.shaped (rowsD rs) = true := by
  obtain ⟨a, b⟩ := tups_sh h
  unfold rowsD
  generalize rs.map PyData.tuple = X at a b
  simp [SeqAt.shaped, PyData.canLay0, PyData.depth, a]
  omega
theorem var_sh {v : Var} (h : VarOk v) : PyData.canLayAll0 (varD v) = true ∧ PyData.depthAll (varD v) ≤ 1 := by
  obtain ⟨n, s⟩ := v
  have a := strOk_of h.1
  cases s with
  | none => simp [varD, sortD, PyData.canLay0, PyData.canLayAll0, PyData.depth, PyData.depthAll, a]
  | some s =>
    have b := strOk_of (h.2 s rfl)
    simp [varD, sortD, PyData.canLay0, PyData.canLayAll0, PyData.depth, PyData.depthAll, a, b]
theorem tri_sh {t : Tri} (h : TriOk t) : PyData.canLayAll0 (triD t) = true ∧ PyData.depthAll (triD t) ≤ 1 := by
  have a := strOk_of h.1
  have b := strOk_of h.2.1
  have c := strOk_of h.2.2
  simp [triD, PyData.canLay0, PyData.canLayAll0, PyData.depth, PyData.depthAll, a, b, c]
theorem vars_sh {vs : List Var} (h : ∀ v ∈ vs, VarOk v) : SeqAt.shaped (rowsD (vs.map varD)) = true := rows_sh fun r hr => by
  obtain ⟨v, hv, rfl⟩ := List.mem_map.mp hr
  exact var_sh (h v hv)
theorem tris_sh {vs : List Tri} (h : ∀ v ∈ vs, TriOk v) : SeqAt.shaped (rowsD (vs.map triD)) = true := rows_sh fun r hr => by
  obtain ⟨v, hv, rfl⟩ := List.mem_map.mp hr
  exact tri_sh (h v hv)
theorem tri1_sh {t : Tri} (h : TriOk t) : SeqAt.shaped (.tuple (triD t)) = true := by
  obtain ⟨a, b⟩ := tri_sh h
  generalize triD t = X at a b
  simp [SeqAt.shaped, PyData.canLay0, PyData.depth, a]
  omega
theorem tp_sh {zs : List Str} (h : ∀ z ∈ zs, okS z) : SeqAt.shaped (.tuple (zs.map PyData.str)) = true := by
  obtain ⟨a, b⟩ := ss_lay h
  generalize zs.map PyData.str = X at a b
  simp [SeqAt.shaped, PyData.canLay0, PyData.depth, a]
  omega
def spME (K : PySem.W.Frag) (M : Addr) : Sp := fun vs H Q _ => ∃ (x y : Addr) (m : MkD), vs = [.ref x, .ref y] ∧ MkAt K M H x m ∧ MkAt K M H y m ∧ TyX K H (.ref y) (.ref M) ∧ (∀ z ∈ m.dn, okS z) ∧ (∀ z ∈ m.up, okS z) ∧ Q (.bl true) H
section
variable {P : Program} {w : World} {K : PySem.W.Frag} {mg : Str → Option Value} {base : Heap}
theorem scME : FnScope ["self", "other"] ["self", "other"] (defScope sME) := ⟨rfl, rfl, rfl, by decide +kernel, rfl, by decide +kernel, by decide +kernel⟩
theorem ok_me {f fM M : Addr} {fd : FuncData} (F : Fun K "__eq__" "Making.__eq__" sME f fd) (T : TxB mg) (TM : TxMak K mg M fM) (kk : PySem.W.kitOne K (.ref M) (.ref M) = some true) : FnOk P w K mg base CX0 1 f fd ["self", "other"] (spME K M) := by
  refine F.ok scME (fun vs H Q E h => ?_) (fun cdv A outer s H vs Q E hr h => ?_)
  · obtain ⟨x, y, m, rfl, _⟩ := h
    rfl
  · obtain ⟨x, y, m, rfl, ⟨dx, t1, t2, x1, x2, x3⟩, ⟨dy, s1, s2, y1, y2, y3⟩, ty, o1, o2, k⟩ := h
    refine ⟨_, (pss_one (ps_ret (pe_and (pe_callB call_isi (by rfl) T.isinstance (by decide +kernel) (pa_cons (pv 1) (pa_cons (pe_glob (v := .ref M) (by rfl) TM.g rfl) pa_nil)))
      (pe_and (pe_cmpR op_eq (pe_fld (pv 0) rfl) (pe_fld (pv 1) rfl) (nomark _))
      (pe_and (pe_cmpR op_eq (pe_fld (pv 0) rfl) (pe_fld (pv 1) rfl) (nomark _))
      (pe_and (pe_cmpR (op_eqD hr.units) (pe_fld (pv 0) rfl) (pe_fld (pv 1) rfl) (nomark _))
      (pe_one (pe_cmpR (op_eqD hr.units) (pe_fld (pv 0) rfl) (pe_fld (pv 1) rfl) (nomark _))))))))), ?_⟩
    refine ⟨_, rfl, _, _, _, _, _, rfl, .own M, ty, kk, true, rfl, iteT ?_⟩
    refine ⟨_, rfl, x, M, dx, _, _, rfl, x1, TM.cl, TM.nk, makF_maker _ _ _ _, _, rfl, y, M, dy, _, _, rfl, y1, TM.cl, TM.nk, makF_maker _ _ _ _, rfl, _, rfl, ite2 (fun _ => ?_) (fun c => absurd (decide_eq_true rfl) c)⟩
    refine ⟨_, rfl, x, M, dx, _, _, rfl, x1, TM.cl, TM.nd, makF_made _ _ _ _, _, rfl, y, M, dy, _, _, rfl, y1, TM.cl, TM.nd, makF_made _ _ _ _, rfl, _, rfl, ite2 (fun _ => ?_) (fun c => absurd (decide_eq_true rfl) c)⟩
    refine ⟨_, rfl, x, M, dx, _, _, rfl, x1, TM.cl, TM.nw, makF_down _ _ _ _, _, rfl, y, M, dy, _, _, rfl, y1, TM.cl, TM.nw, makF_down _ _ _ _, _, _, .tup x2 (dp_ss m.dn), .tup y2 (dp_ss m.dn), tp_sh o1, tp_sh o1, _, rfl, ?_⟩
    rw [eqv_self (tp_sh o1)]
    refine iteT ?_
    refine ⟨_, rfl, x, M, dx, _, _, rfl, x1, TM.cl, TM.nu, makF_up _ _ _ _, _, rfl, y, M, dy, _, _, rfl, y1, TM.cl, TM.nu, makF_up _ _ _ _, _, _, .tup x3 (dp_ss m.up), .tup y3 (dp_ss m.up), tp_sh o2, tp_sh o2, ?_⟩
    rw [eqv_self (tp_sh o2)]
    exact k
end
/-- what == of rules, bars and makings rests on -/
structure Kw7 (P : Program) (w : World) (K : PySem.W.Frag) (mg : Str → Option Value) (base : Heap) (MB RB BB fME fRE fBE : Addr) (dME dRE dBE : FuncData) : Prop where
  tyM : ∀ {H : Hp} {a d : Addr} {fs : List (Str × V)}, H a = some (.ins MB d fs) → TyX K H (.ref a) (.ref MB)
  tyR : ∀ {H : Hp} {a d : Addr} {fs : List (Str × V)}, H a = some (.ins RB d fs) → TyX K H (.ref a) (.ref RB)
  tyB : ∀ {H : Hp} {a d : Addr} {fs : List (Str × V)}, H a = some (.ins BB d fs) → TyX K H (.ref a) (.ref BB)
  fM : PySem.W.findIn K (.ref MB) "__eq__" = some (some (.ref fME))
  fR : PySem.W.findIn K (.ref RB) "__eq__" = some (some (.ref fRE))
  fB : PySem.W.findIn K (.ref BB) "__eq__" = some (some (.ref fBE))
  iM : PySem.W.isFn K (.ref fME) = true
  iR : PySem.W.isFn K (.ref fRE) = true
  iB : PySem.W.isFn K (.ref fBE) = true
  nM : PySem.W.notFirst K MB (.ref MB) = true
  nR : PySem.W.notFirst K RB (.ref RB) = true
  nB : PySem.W.notFirst K BB (.ref BB) = true
  GME : FnOk P w K mg base CX0 1 fME dME ["self", "other"] (spME K MB)
  GRE : FnOk P w K mg base CX0 1 fRE dRE ["self", "other"] (spRE K RB)
  GBE : FnOk P w K mg base CX0 1 fBE dBE ["self", "other"] (spBE K BB)
  bME : Binds K dME ["self", "other"] []
  bRE : Binds K dRE ["self", "other"] []
  bBE : Binds K dBE ["self", "other"] []
theorem vAB_ok : okS vA ∧ okS vB := ⟨nm_oks isA, nm_oks isB⟩
theorem ba_vars {x : PaT} (h : PaRt x) : ∀ v ∈ [(vA, x.k0), (vB, x.k1)], VarOk v := fun v hv => by
  rcases List.mem_cons.mp hv with q | q
  · rw [q]; exact ⟨vAB_ok.1, fun z e => nm_oks (h.kd (.inl e))⟩
  · rw [List.mem_singleton.mp q]; exact ⟨vAB_ok.2, fun z e => nm_oks (h.kd (.inr e))⟩
theorem ba_cs {x : PaT} (h : PaRt x) : ∀ t ∈ [(vA, x.w0, vB)], TriOk t := fun t ht => by
  rw [List.mem_singleton.mp ht]
  exact ⟨vAB_ok.1, nm_oks h.w.1, vAB_ok.2⟩
theorem ru_g {x : PaT} (h : PaRt x) : TriOk (ruD x).g := ⟨vAB_ok.2, nm_oks h.w.2, vAB_ok.1⟩
section
variable {X : Cx} {MB RB BB fME fRE fBE : Addr} {dME dRE dBE : FuncData}
theorem eqU_r (W : Kw7 X.prog X.w X.K X.mg X.base MB RB BB fME fRE fBE dME dRE dBE) (hr : Room 1 X.A.in1) {H : Hp} {p p2 : Addr} {x : PaT} (hx : PaRt x) (h1 : RlAt X.K RB H p (ruD x)) (h2 : RlAt X.K RB H p2 (ruD x)) : EqU X X.A.in1 p p2 H := by
  obtain ⟨d, t1, t2, t3, ps, qs, a0, a1, a2, a3, a4, a5⟩ := h1
  obtain ⟨d', s1, s2, s3, ps', qs', b0, b1, b2, b3, b4, b5⟩ := h2
  have e1 := vars_sh (ba_vars hx)
  have e2 := tris_sh (ba_cs hx)
  have e3 := tri1_sh (ru_g hx)
  refine eqU_of W.fR W.iR W.GRE hr W.bRE a0 b0 W.nR ⟨p, p2, rfl, .inl ⟨d, d', t1, t2, t3, s1, s2, s3, _, _, _, _, _, _, _, _, _, _, a0, b0, W.tyR b0, ⟨⟨ps, qs, a1, a2, a3, a4⟩, e1, e2⟩, ⟨⟨ps', qs', b1, b2, b3, b4⟩, e1, e2⟩, a5, b5, e3, e3, ?_, fun _ _ z => z⟩⟩
  unfold sameR
  rw [show PyData.eqv (rowsD ((ruD x).p.vars.map varD)) (rowsD ((ruD x).p.vars.map varD)) = true from eqv_self e1, show PyData.eqv (rowsD ((ruD x).p.cs.map triD)) (rowsD ((ruD x).p.cs.map triD)) = true from eqv_self e2, eqv_self e3]
  simp
theorem eqU_b (W : Kw7 X.prog X.w X.K X.mg X.base MB RB BB fME fRE fBE dME dRE dBE) (hr : Room 1 X.A.in1) {H : Hp} {p p2 : Addr} {x : PaT} (hx : PaRt x) (h1 : BrAt X.K BB H p (baD x)) (h2 : BrAt X.K BB H p2 (baD x)) : EqU X X.A.in1 p p2 H := by
  obtain ⟨d, t1, t2, ps, qs, a0, a1, a2, a3, a4⟩ := h1
  obtain ⟨d', s1, s2, ps', qs', b0, b1, b2, b3, b4⟩ := h2
  have e1 := vars_sh (ba_vars hx)
  have e2 := tris_sh (ba_cs hx)
  refine eqU_of W.fB W.iB W.GBE hr W.bBE a0 b0 W.nB ⟨p, p2, rfl, .inl ⟨d, d', t1, t2, s1, s2, _, _, _, _, _, _, a0, b0, W.tyB b0, ⟨⟨ps, qs, a1, a2, a3, a4⟩, e1, e2⟩, ⟨⟨ps', qs', b1, b2, b3, b4⟩, e1, e2⟩, ?_, fun _ _ z => z⟩⟩
  unfold sameB
  rw [show PyData.eqv (rowsD ((baD x).vars.map varD)) (rowsD ((baD x).vars.map varD)) = true from eqv_self e1, show PyData.eqv (rowsD ((baD x).cs.map triD)) (rowsD ((baD x).cs.map triD)) = true from eqv_self e2]
  simp
theorem eqU_m (W : Kw7 X.prog X.w X.K X.mg X.base MB RB BB fME fRE fBE dME dRE dBE) (hr : Room 1 X.A.in1) {H : Hp} {p p2 : Addr} {x : MkD} (hx : MkRt x) (h1 : MkAt X.K MB H p x) (h2 : MkAt X.K MB H p2 x) : EqU X X.A.in1 p p2 H := by
  obtain ⟨d, t1, t2, a0, a1, a2⟩ := id h1
  obtain ⟨d', s1, s2, b0, b1, b2⟩ := id h2
  refine eqU_of W.fM W.iM W.GME hr W.bME a0 b0 W.nM ⟨p, p2, x, rfl, h1, h2, W.tyM b0, fun z hz => nm_oks (hx.tx z ?_), fun z hz => nm_oks (hx.tx z ?_), rfl, fun _ _ z => z⟩
  · unfold mkTx
    exact List.mem_append_left _ (List.mem_append_right _ hz)
  · unfold mkTx
    exact List.mem_append_right _ hz
end
end Wm
namespace Wm
open PySem L2 StX
def spLrt (K : PySem.W.Frag) (S MB RB BB : Addr) : Sp := fun vs H Q _ => ∃ (x : Addr) (as bs cs : List Addr) (m l1 l2 l3 l4 l5 l6 : Addr) (kvs : List (L2.Key × V)) (ts us vs' : List Addr) (ss ws pl : List Str) (ms : List MkD) (rs ps : List PaT), vs = [.ref x, .ref m] ∧ SchG S H x ss ws as bs cs ∧ Parts K MB RB BB H as bs cs ms (rs.map ruD) (ps.map baD) ∧ Mdl H m l1 l2 l3 l4 l5 l6 kvs ts us vs' ss ws pl ms rs ps ∧ LOk ss ws pl ms rs ps ∧ ∀ H', Same H H' → Q (.bl true) H'
section
variable {P : Program} {w : World} {K : PySem.W.Frag} {mg : Str → Option Value} {base : Heap}
theorem scLrt : FnScope ["_law_scheme", "_law_m", "_law_one"] ["_law_scheme", "_law_m"] (defScope sLrt) := ⟨rfl, rfl, rfl, by decide +kernel, rfl, by decide +kernel, by decide +kernel⟩
theorem ok_lrt {f fRl fBr fMk fS S MB RB BB fME fRE fBE fSo fWo fMs fRu fBa : Addr} {fd dRl dBr dMk dME dRE dBE dSo dWo dMs dRu dBa : FuncData} (F : Fun K "_law_right" "_law_right" sLrt f fd) (TC : TxSch K mg S fS) (W : Kw7 P w K mg base MB RB BB fME fRE fBE dME dRE dBE)
    (DRl : Dn K mg "_law_rule" sLrl ["_law_part"] fRl dRl) (GRl : FnOk P w K mg base CX0 8 fRl dRl ["_law_part"] (spLrl K RB)) (DBr : Dn K mg "_law_bar" sLbr ["_law_part"] fBr dBr) (GBr : FnOk P w K mg base CX0 8 fBr dBr ["_law_part"] (spLbr K BB)) (DMk : Dn K mg "_law_making" sLmk ["_law_part"] fMk dMk) (GMk_ : FnOk P w K mg base CX0 7 fMk dMk ["_law_part"] (spLmk K MB))
    (mSo : Meth K S "sorts" fSo) (bSo : Binds K dSo ["self"] []) (GSo : FnOk P w K mg base CX0 1 fSo dSo ["self"] (spSor S)) (mWo : Meth K S "words" fWo) (bWo : Binds K dWo ["self"] []) (GWo : FnOk P w K mg base CX0 1 fWo dWo ["self"] (spWor S))
    (mMk : Meth K S "makings" fMs) (bMk : Binds K dMs ["self"] []) (GMs : FnOk P w K mg base CX0 1 fMs dMs ["self"] (spSMk S)) (mRu : Meth K S "rules" fRu) (bRu : Binds K dRu ["self"] []) (GRu : FnOk P w K mg base CX0 1 fRu dRu ["self"] (spSRu S)) (mBa : Meth K S "bars" fBa) (bBa : Binds K dBa ["self"] []) (GBa : FnOk P w K mg base CX0 1 fBa dBa ["self"] (spSBa S)) :
    FnOk P w K mg base CX0 9 f fd ["_law_scheme", "_law_m"] (spLrt K S MB RB BB) := by
  refine F.ok scLrt (fun vs H Q E h => ?_) (fun cdv A outer s H vs Q E hr h => ?_)
  · obtain ⟨x, as, bs, cs, m, l1, l2, l3, l4, l5, l6, kvs, ts, us, vs', ss, ws, pl, ms, rs, ps, rfl, _⟩ := h
    rfl
  · obtain ⟨x, as, bs, cs, m, l1, l2, l3, l4, l5, l6, kvs, ts, us, vs', ss, ws, pl, ms, rs, ps, rfl, sg, pa, M, ok, k⟩ := h
    have hu := hu_of hr
    have hr1 : Room 1 _ := hr.mono (by decide)
    have hr2 : Room 2 _ := hr.mono (by decide)
    have hr3 : Room 3 _ := hr.mono (by decide)
    have hr7 : Room 7 _ := hr.mono (by decide)
    have hr8 : Room 8 _ := hr
    have ml := ok.ml
    have r8 := ok.r8
    have b4 := ok.b4
    have sh1 : SeqAt.shaped (.list (ss.map PyData.str)) = true := ss_sh fun z hz => nm_oks (ok.ns z hz)
    have sh2 : SeqAt.shaped (.list (ws.map PyData.str)) = true := ss_sh fun z hz => nm_oks (ok.nw z hz)
    refine ⟨_, (pss_cons (ps_if (PW.pt (pw_or (pt_cmpR (op_neD hr.units) (pe_meth0 (pv 0) TC.cl mSo GSo hr1 bSo .nil pass0) (pe_dget hu (pv 1) pe_str (fun _ _ => rfl)) (nomark _)) (pw_or1 (pt_cmpR (op_neD hr.units) (pe_meth0 (pv 0) TC.cl mWo GWo hr1 bWo .nil pass0) (pe_dget hu (pv 1) pe_str (fun _ _ => rfl)) (nomark _))))) (pss_one (ps_ret pe_bl)) pss_nil)
      (pss_cons (ps_if (pt_cmpR (op_neU (k := 1) hr3) (pe_meth0 (pv 0) TC.cl mRu GRu hr1 bRu .nil pass0) (pe_lc (own := [("_law_one", 2)]) (g := gName 2) (tt := tYes) (te := tCall (spLrl K RB) [] E0 (tCons (tVar 2) tNil)) rfl scLrt.nd (pi_list (pe_dget hu (pv 1) pe_str (fun _ _ => rfl))) (blkOk_by (N := ["_law_scheme", "_law_m", "_law_one"]) (sc := defScope sLrt) (by decide +kernel)) (fun _ _ _ _ _ => (pg_name (i := 2) scLrt.nd rfl (Or.inl rfl))) (fun _ _ _ _ _ => pts_nil) (fun _ _ _ _ _ => (pe_call GRl hr8 rfl DRl.g DRl.F.kp DRl.b .nil pass0 (pa_cons (pv 2) pa_nil)))) (nomark _)) (pss_one (ps_ret pe_bl)) pss_nil)
      (pss_cons (ps_if (pt_cmpR (op_neU (k := 1) hr3) (pe_meth0 (pv 0) TC.cl mMk GMs hr1 bMk .nil pass0) (pe_lc (own := [("_law_one", 2)]) (g := gName 2) (tt := tYes) (te := tCall (spLmk K MB) [] E0 (tCons (tVar 2) tNil)) rfl scLrt.nd (pi_list (pe_dget hu (pv 1) pe_str (fun _ _ => rfl))) (blkOk_by (N := ["_law_scheme", "_law_m", "_law_one"]) (sc := defScope sLrt) (by decide +kernel)) (fun _ _ _ _ _ => (pg_name (i := 2) scLrt.nd rfl (Or.inl rfl))) (fun _ _ _ _ _ => pts_nil) (fun _ _ _ _ _ => (pe_call GMk_ hr7 rfl DMk.g DMk.F.kp DMk.b .nil pass0 (pa_cons (pv 2) pa_nil)))) (nomark _)) (pss_one (ps_ret pe_bl)) pss_nil)
      (pss_one (ps_ret (pe_cmpR (op_eqU (k := 1) hr3) (pe_meth0 (pv 0) TC.cl mBa GBa hr1 bBa .nil pass0) (pe_lc (own := [("_law_one", 2)]) (g := gName 2) (tt := tYes) (te := tCall (spLbr K BB) [] E0 (tCons (tVar 2) tNil)) rfl scLrt.nd (pi_list (pe_dget hu (pv 1) pe_str (fun _ _ => rfl))) (blkOk_by (N := ["_law_scheme", "_law_m", "_law_one"]) (sc := defScope sLrt) (by decide +kernel)) (fun _ _ _ _ _ => (pg_name (i := 2) scLrt.nd rfl (Or.inl rfl))) (fun _ _ _ _ _ => pts_nil) (fun _ _ _ _ _ => (pe_call GBr hr8 rfl DBr.g DBr.F.kp DBr.b .nil pass0 (pa_cons (pv 2) pa_nil)))) (nomark _))))))), ?_⟩
    rw [show L2.start ["_law_scheme", "_law_m", "_law_one"] [V.ref x, V.ref m] = [some (.ref x), some (.ref m), none] from rfl]
    obtain ⟨dx, q1, q2, q3, q4, q5, h0, g1, g2, g3, g4, g5⟩ := id sg
    have Z0 := Same.refl H
    refine ⟨_, rfl, x, dx, _, rfl, Z0 _ _ h0, schF_no (by decide +kernel) (by decide +kernel) (by decide +kernel) (by decide +kernel) (by decide +kernel) _ _ _ _ _, x, ss, ws, as, bs, cs, rfl, sg.same Z0, fun t1 ht1 => ?_⟩
    have T1 : Same H (upd H t1 (.lst (ss.map V.str))) := Same.upd ht1
    have e1 : (upd H t1 (.lst (ss.map V.str))) t1 = some (.lst (ss.map V.str)) := upd_same
    generalize upd H t1 (.lst (ss.map V.str)) = H1 at T1 e1
    have Z1 := Z0.trans T1
    refine ⟨_, rfl, m, _, rfl, dget_of (Z1 _ _ M.hm) M.k1, .list (ss.map PyData.str), .list (ss.map PyData.str), .lst (SqL.of e1) (dp_ss ss), .lst (SqL.of (Z1 _ _ M.h1)) (dp_ss ss), sh1, sh1, _, rfl, ?_⟩
    rw [eqv_self sh1]
    refine iteF ?_
    refine ⟨_, rfl, x, dx, _, rfl, Z1 _ _ h0, schF_no (by decide +kernel) (by decide +kernel) (by decide +kernel) (by decide +kernel) (by decide +kernel) _ _ _ _ _, x, ss, ws, as, bs, cs, rfl, sg.same Z1, fun t2 ht2 => ?_⟩
    have T2 : Same H1 (upd H1 t2 (.lst (ws.map V.str))) := Same.upd ht2
    have e2 : (upd H1 t2 (.lst (ws.map V.str))) t2 = some (.lst (ws.map V.str)) := upd_same
    generalize upd H1 t2 (.lst (ws.map V.str)) = H2 at T2 e2
    have Z2 := Z1.trans T2
    refine ⟨_, rfl, m, _, rfl, dget_of (Z2 _ _ M.hm) M.k2, .list (ws.map PyData.str), .list (ws.map PyData.str), .lst (SqL.of e2) (dp_ss ws), .lst (SqL.of (Z2 _ _ M.h2)) (dp_ss ws), sh2, sh2, _, rfl, ?_⟩
    rw [eqv_self sh2]
    refine iteF ?_
    dsimp only [tNext]
    refine ⟨_, rfl, x, dx, _, rfl, Z2 _ _ h0, schF_no (by decide +kernel) (by decide +kernel) (by decide +kernel) (by decide +kernel) (by decide +kernel) _ _ _ _ _, x, ss, ws, as, bs, cs, rfl, sg.same Z2, fun t3 ht3 => ?_⟩
    have T3 : Same H2 (upd H2 t3 (.lst (bs.map V.ref))) := Same.upd ht3
    have e3 : (upd H2 t3 (.lst (bs.map V.ref))) t3 = some (.lst (bs.map V.ref)) := upd_same
    generalize upd H2 t3 (.lst (bs.map V.ref)) = G3 at T3 e3
    have Y3 := Z2.trans T3
    have M3 := M.kp (Same.kp Y3)
    refine ⟨_, rfl, m, _, rfl, dget_of M3.hm M3.k4, l4, rfl, ⟨_, SqL.of M3.h4⟩, fun D hD => ?_⟩
    refine lc_list (K := K) (a := l4) (xs := us.map V.ref) (fun i H' => Same G3 H' ∧ ∃ os : List Addr, H' D = some (.lst (os.map V.ref)) ∧ AllAt (RlAt K RB H') os ((rs.take i).map ruD)) ⟨Same.upd hD, [], upd_same, True.intro⟩ (fun i H' _ p => SqL.of (p.1 _ _ M3.h4)) ?_ ?_
    · rintro i y H' hi ⟨S1, os, hd, am⟩
      obtain ⟨a, z, rfl, hz, g⟩ := M3.a4.get hi
      have al := am.len
      rw [List.length_map, List.length_take] at al
      have il : i < rs.length := (List.getElem?_eq_some_iff.mp hz).1
      refine ⟨rfl, _, rfl, a, z, rfl, g.kp (Same.kp S1), ok.rk z (List.mem_of_getElem? hz), fun o H2 no S2 at2 => ?_⟩
      have hd2 := S2 _ _ hd
      refine ⟨_, hd2, ?_, fun b u e => ?_, os ++ [o], ?_, ?_⟩
      · rw [List.length_map]
        exact Nat.lt_of_le_of_lt (show _ ≤ 1000 by omega) (by decide)
      · rw [upd_ne (ne_of_none e hD)]
        exact S2 _ _ (S1 _ _ e)
      · rw [upd_same, List.map_append]
        rfl
      · rw [List.take_add_one, hz, List.map_append]
        exact AllAt.put1 (am.imp fun _ _ q => (q.same S2).put hd2) (RlAt.put hd2 at2)
    rintro H3 ⟨S3, os, hd, am⟩
    rw [List.length_map, M3.a4.len, List.take_length] at am
    have Z3 := Y3.trans S3
    have l1 := am.len
    have l2 := pa.ar.len
    refine ⟨t3, D, bs, os, rfl, rfl, S3 _ _ e3, hd, l2.trans l1.symm, fun j p p2 H' hp hp2 kp => ?_, fun K3 kp => ?_⟩
    · by_cases e : p = p2
      · exact .inl e
      · obtain ⟨_, z, e1, hz, g1⟩ := (pa.ar.imp fun _ _ q => (q.same Z3).same kp).get (show (bs.map V.ref)[j]? = some (.ref p) by rw [List.getElem?_map, hp]; rfl)
        cases e1
        obtain ⟨_, z', e2, hz', g2⟩ := (am.imp fun _ _ q => q.same kp).get (show (os.map V.ref)[j]? = some (.ref p2) by rw [List.getElem?_map, hp2]; rfl)
        cases e2
        rw [hz] at hz'
        cases hz'
        obtain ⟨y, hy, rfl⟩ := List.mem_map.mp (List.mem_of_getElem? hz)
        exact .inr ⟨e, eqU_r W hr2.in1 (ok.rk y hy) g1 g2⟩
    dsimp only
    refine ⟨_, rfl, iteF ?_⟩
    dsimp only [tNext]
    have kp : Same H3 K3 := kp
    have Z3 := Z3.trans kp
    refine ⟨_, rfl, x, dx, _, rfl, Z3 _ _ h0, schF_no (by decide +kernel) (by decide +kernel) (by decide +kernel) (by decide +kernel) (by decide +kernel) _ _ _ _ _, x, ss, ws, as, bs, cs, rfl, sg.same Z3, fun t4 ht4 => ?_⟩
    have T4 : Same K3 (upd K3 t4 (.lst (as.map V.ref))) := Same.upd ht4
    have e4 : (upd K3 t4 (.lst (as.map V.ref))) t4 = some (.lst (as.map V.ref)) := upd_same
    generalize upd K3 t4 (.lst (as.map V.ref)) = G4 at T4 e4
    have Y4 := Z3.trans T4
    have M4 := M.kp (Same.kp Y4)
    refine ⟨_, rfl, m, _, rfl, dget_of M4.hm M4.k3, l3, rfl, ⟨_, SqL.of M4.h3⟩, fun D hD => ?_⟩
    refine lc_list (K := K) (a := l3) (xs := ts.map V.ref) (fun i H' => Same G4 H' ∧ ∃ os : List Addr, H' D = some (.lst (os.map V.ref)) ∧ AllAt (MkAt K MB H') os ((ms.take i))) ⟨Same.upd hD, [], upd_same, True.intro⟩ (fun i H' _ p => SqL.of (p.1 _ _ M4.h3)) ?_ ?_
    · rintro i y H' hi ⟨S1, os, hd, am⟩
      obtain ⟨a, z, rfl, hz, g⟩ := M4.a3.get hi
      have al := am.len
      rw [List.length_take] at al
      have il : i < ms.length := (List.getElem?_eq_some_iff.mp hz).1
      refine ⟨rfl, _, rfl, a, z, rfl, g.kp (Same.kp S1), ok.mt z (List.mem_of_getElem? hz), fun o H2 no S2 at2 => ?_⟩
      have hd2 := S2 _ _ hd
      refine ⟨_, hd2, ?_, fun b u e => ?_, os ++ [o], ?_, ?_⟩
      · rw [List.length_map]
        exact Nat.lt_of_le_of_lt (show _ ≤ 1000 by omega) (by decide)
      · rw [upd_ne (ne_of_none e hD)]
        exact S2 _ _ (S1 _ _ e)
      · rw [upd_same, List.map_append]
        rfl
      · rw [List.take_add_one, hz]
        exact AllAt.put1 (am.imp fun _ _ q => (q.same S2).put hd2) (MkAt.put hd2 at2)
    rintro H4 ⟨S4, os, hd, am⟩
    rw [List.length_map, M4.a3.len, List.take_length] at am
    have Z4 := Y4.trans S4
    have l1 := am.len
    have l2 := pa.am.len
    refine ⟨t4, D, as, os, rfl, rfl, S4 _ _ e4, hd, l2.trans l1.symm, fun j p p2 H' hp hp2 kp => ?_, fun K4 kp => ?_⟩
    · by_cases e : p = p2
      · exact .inl e
      · obtain ⟨_, z, e1, hz, g1⟩ := (pa.am.imp fun _ _ q => (q.same Z4).same kp).get (show (as.map V.ref)[j]? = some (.ref p) by rw [List.getElem?_map, hp]; rfl)
        cases e1
        obtain ⟨_, z', e2, hz', g2⟩ := (am.imp fun _ _ q => q.same kp).get (show (os.map V.ref)[j]? = some (.ref p2) by rw [List.getElem?_map, hp2]; rfl)
        cases e2
        rw [hz] at hz'
        cases hz'
        exact .inr ⟨e, eqU_m W hr2.in1 (ok.mt z (List.mem_of_getElem? hz)) g1 g2⟩
    dsimp only
    refine ⟨_, rfl, iteF ?_⟩
    dsimp only [tNext]
    have kp : Same H4 K4 := kp
    have Z4 := Z4.trans kp
    refine ⟨_, rfl, x, dx, _, rfl, Z4 _ _ h0, schF_no (by decide +kernel) (by decide +kernel) (by decide +kernel) (by decide +kernel) (by decide +kernel) _ _ _ _ _, x, ss, ws, as, bs, cs, rfl, sg.same Z4, fun t5 ht5 => ?_⟩
    have T5 : Same K4 (upd K4 t5 (.lst (cs.map V.ref))) := Same.upd ht5
    have e5 : (upd K4 t5 (.lst (cs.map V.ref))) t5 = some (.lst (cs.map V.ref)) := upd_same
    generalize upd K4 t5 (.lst (cs.map V.ref)) = G5 at T5 e5
    have Y5 := Z4.trans T5
    have M5 := M.kp (Same.kp Y5)
    refine ⟨_, rfl, m, _, rfl, dget_of M5.hm M5.k5, l5, rfl, ⟨_, SqL.of M5.h5⟩, fun D hD => ?_⟩
    refine lc_list (K := K) (a := l5) (xs := vs'.map V.ref) (fun i H' => Same G5 H' ∧ ∃ os : List Addr, H' D = some (.lst (os.map V.ref)) ∧ AllAt (BrAt K BB H') os ((ps.take i).map baD)) ⟨Same.upd hD, [], upd_same, True.intro⟩ (fun i H' _ p => SqL.of (p.1 _ _ M5.h5)) ?_ ?_
    · rintro i y H' hi ⟨S1, os, hd, am⟩
      obtain ⟨a, z, rfl, hz, g⟩ := M5.a5.get hi
      have al := am.len
      rw [List.length_map, List.length_take] at al
      have il : i < ps.length := (List.getElem?_eq_some_iff.mp hz).1
      refine ⟨rfl, _, rfl, a, z, rfl, g.kp (Same.kp S1), ok.bk z (List.mem_of_getElem? hz), fun o H2 no S2 at2 => ?_⟩
      have hd2 := S2 _ _ hd
      refine ⟨_, hd2, ?_, fun b u e => ?_, os ++ [o], ?_, ?_⟩
      · rw [List.length_map]
        exact Nat.lt_of_le_of_lt (show _ ≤ 1000 by omega) (by decide)
      · rw [upd_ne (ne_of_none e hD)]
        exact S2 _ _ (S1 _ _ e)
      · rw [upd_same, List.map_append]
        rfl
      · rw [List.take_add_one, hz, List.map_append]
        exact AllAt.put1 (am.imp fun _ _ q => (q.same S2).put hd2) (BrAt.put hd2 at2)
    rintro H5 ⟨S5, os, hd, am⟩
    rw [List.length_map, M5.a5.len, List.take_length] at am
    have Z5 := Y5.trans S5
    have l1 := am.len
    have l2 := pa.ab.len
    refine ⟨t5, D, cs, os, rfl, rfl, S5 _ _ e5, hd, l2.trans l1.symm, fun j p p2 H' hp hp2 kp => ?_, fun K5 kp => ?_⟩
    · by_cases e : p = p2
      · exact .inl e
      · obtain ⟨_, z, e1, hz, g1⟩ := (pa.ab.imp fun _ _ q => (q.same Z5).same kp).get (show (cs.map V.ref)[j]? = some (.ref p) by rw [List.getElem?_map, hp]; rfl)
        cases e1
        obtain ⟨_, z', e2, hz', g2⟩ := (am.imp fun _ _ q => q.same kp).get (show (os.map V.ref)[j]? = some (.ref p2) by rw [List.getElem?_map, hp2]; rfl)
        cases e2
        rw [hz] at hz'
        cases hz'
        obtain ⟨y, hy, rfl⟩ := List.mem_map.mp (List.mem_of_getElem? hz)
        exact .inr ⟨e, eqU_b W hr2.in1 (ok.bk y hy) g1 g2⟩
    exact k _ (Z5.trans kp)
end
end Wm
namespace Wm
open PySem L2 StX
def tupD : Rf → List PyData
  | .cnt w n => [.str (PySem.Str.ofString "badcount"), .str w, .int n]
  | .nm z => [.str (PySem.Str.ofString "noname"), .str z]
  | .tw z => [.str (PySem.Str.ofString "twice"), .str z]
  | .ns z => [.str (PySem.Str.ofString "nosort"), .str z]
  | .up a b => [.str (PySem.Str.ofString "upward"), .str a, .str b]
  | .nw z => [.str (PySem.Str.ofString "noword"), .str z]
  | .nr z => [.str (PySem.Str.ofString "norule"), .str z]
  | .nb z => [.str (PySem.Str.ofString "nobar"), .str z]
  | .nmk a b => [.str (PySem.Str.ofString "nomaking"), .str a, .str b]
def RfOk : Rf → Prop
  | .cnt w _ => okS w
  | .nm z => okS z
  | .tw z => okS z
  | .ns z => okS z
  | .up a b => okS a ∧ okS b
  | .nw z => okS z
  | .nr z => okS z
  | .nb z => okS z
  | .nmk a b => okS a ∧ okS b
theorem dp_tup {K : PySem.W.Frag} {H : Hp} (r : Rf) : DpAll K H (tupOf r) (tupD r) := by
  cases r with
  | cnt w n => exact .cons (.str _) (.cons (.str _) (.cons (.int _) .nil))
  | nm z => exact .cons (.str _) (.cons (.str _) .nil)
  | tw z => exact .cons (.str _) (.cons (.str _) .nil)
  | ns z => exact .cons (.str _) (.cons (.str _) .nil)
  | up a b => exact .cons (.str _) (.cons (.str _) (.cons (.str _) .nil))
  | nw z => exact .cons (.str _) (.cons (.str _) .nil)
  | nr z => exact .cons (.str _) (.cons (.str _) .nil)
  | nb z => exact .cons (.str _) (.cons (.str _) .nil)
  | nmk a b => exact .cons (.str _) (.cons (.str _) (.cons (.str _) .nil))
theorem kd_ok : ∀ z ∈ (["badcount", "noname", "twice", "nosort", "upward", "noword", "norule", "nobar", "nomaking"] : List Str), okS z := by decide +kernel
theorem tup_sh {r : Rf} (h : RfOk r) : SeqAt.shaped (.tuple (tupD r)) = true := by
  have k : ∀ z ∈ (["badcount", "noname", "twice", "nosort", "upward", "noword", "norule", "nobar", "nomaking"] : List Str), PyData.strOk z = true := fun z hz => strOk_of (kd_ok z hz)
  simp only [List.mem_cons, List.not_mem_nil, or_false, forall_eq_or_imp, forall_eq] at k
  obtain ⟨k0, k1, k2, k3, k4, k5, k6, k7, k8⟩ := k
  cases r with
  | cnt w n =>
    have q := strOk_of (show okS w from h)
    simp [tupD, SeqAt.shaped, PyData.canLay0, PyData.canLayAll0, PyData.depth, PyData.depthAll, q, k0]
  | nm z =>
    have q := strOk_of (show okS z from h)
    simp [tupD, SeqAt.shaped, PyData.canLay0, PyData.canLayAll0, PyData.depth, PyData.depthAll, q, k1]
  | tw z =>
    have q := strOk_of (show okS z from h)
    simp [tupD, SeqAt.shaped, PyData.canLay0, PyData.canLayAll0, PyData.depth, PyData.depthAll, q, k2]
  | ns z =>
    have q := strOk_of (show okS z from h)
    simp [tupD, SeqAt.shaped, PyData.canLay0, PyData.canLayAll0, PyData.depth, PyData.depthAll, q, k3]
  | up a b =>
    have q := strOk_of (show okS a from h.1)
    have q2 := strOk_of (show okS b from h.2)
    simp [tupD, SeqAt.shaped, PyData.canLay0, PyData.canLayAll0, PyData.depth, PyData.depthAll, q, q2, k4]
  | nw z =>
    have q := strOk_of (show okS z from h)
    simp [tupD, SeqAt.shaped, PyData.canLay0, PyData.canLayAll0, PyData.depth, PyData.depthAll, q, k5]
  | nr z =>
    have q := strOk_of (show okS z from h)
    simp [tupD, SeqAt.shaped, PyData.canLay0, PyData.canLayAll0, PyData.depth, PyData.depthAll, q, k6]
  | nb z =>
    have q := strOk_of (show okS z from h)
    simp [tupD, SeqAt.shaped, PyData.canLay0, PyData.canLayAll0, PyData.depth, PyData.depthAll, q, k7]
  | nmk a b =>
    have q := strOk_of (show okS a from h.1)
    have q2 := strOk_of (show okS b from h.2)
    simp [tupD, SeqAt.shaped, PyData.canLay0, PyData.canLayAll0, PyData.depth, PyData.depthAll, q, q2, k8]
def ansD : Option Rf → PyData
  | none => .none
  | some r => .tuple (tupD r)
theorem ans_sh {o : Option Rf} (h : ∀ r, o = some r → RfOk r) : SeqAt.shaped (ansD o) = true := by
  cases o with
  | none => rfl
  | some r => exact tup_sh (h r rfl)
theorem an_dp {K : PySem.W.Frag} {H : Hp} {o : Option Rf} {v : V} (h : VlAt o v H) : Dp K H v (ansD o) := by
  cases o with
  | none =>
    cases h
    exact .non
  | some r =>
    obtain ⟨t, rfl, ht⟩ := h
    exact .tup (SqT.of ht) (dp_tup r)
/-! ### what is due speaks of texts that stand -/
theorem goF_some {α β : Type} {p : List α → α → Option β} {b : β} : ∀ {xs pre : List α}, goF p pre xs = some b → ∃ q x, x ∈ xs ∧ p q x = some b
  | [], _, h => by cases h
  | x :: r, pre, h => by
    rw [goF] at h
    split at h
    · rename_i y e
      cases h
      exact ⟨pre, x, List.mem_cons_self, e⟩
    · obtain ⟨q, y, hy, e⟩ := goF_some h
      exact ⟨q, y, List.mem_cons_of_mem _ hy, e⟩
def RfS (r : Rf) : Prop := RfOk r ∧ ∀ z, r ≠ .nm z
theorem ns_ok {ss xs : List Str} {r : Rf} (hx : ∀ z ∈ xs, okS z) (h : goF (nsP ss) [] xs = some r) : RfS r := by
  obtain ⟨q, z, hz, e⟩ := goF_some h
  unfold nsP at e
  split at e
  · cases e
  · cases e
    exact ⟨hx z hz, fun _ e => by cases e⟩
theorem nw_ok {ss xs : List Str} {r : Rf} (hx : ∀ z ∈ xs, okS z) (h : goF (nwP ss) [] xs = some r) : RfS r := by
  obtain ⟨q, z, hz, e⟩ := goF_some h
  unfold nwP at e
  split at e
  · cases e
  · cases e
    exact ⟨hx z hz, fun _ e => by cases e⟩
theorem kd_mem {x : PaT} {z : Str} (h : z ∈ kdL x) : z ∈ paTx x := by
  unfold kdL at h
  obtain ⟨o, ho, e⟩ := List.mem_filterMap.mp h
  unfold paTx
  refine List.mem_append_left _ ?_
  have e : o = some z := e
  rcases List.mem_cons.mp ho with q | q
  · exact List.mem_append_left _ (Option.mem_toList.mpr (q ▸ e))
  · exact List.mem_append_right _ (Option.mem_toList.mpr ((List.mem_singleton.mp q) ▸ e))
theorem g_ok {ss ws : List Str} {kd : Str} {mo : Nat} {ys : List PaT} {x : PaT} {wds : List Str} {r : Rf} (hk : okS kd) (px : PaRt x) (hw : ∀ z ∈ wds, okS z) (h : dueG ss ws kd mo ys x wds = some r) : RfS r := by
  unfold dueG at h
  simp only [Option.or_eq_some_iff] at h
  rcases h with h | ⟨_, h | ⟨_, h | ⟨_, h⟩⟩⟩
  · split at h
    · cases h
      exact ⟨hk, fun _ e => by cases e⟩
    · cases h
  · unfold twP at h
    split at h
    · cases h
      exact ⟨nm_oks px.nm, fun _ e => by cases e⟩
    · cases h
  · exact ns_ok (fun z hz => nm_oks (px.tx z (kd_mem hz))) h
  · exact nw_ok hw h
theorem k_ok {ss ws : List Str} {ms : List MkD} {x : MkD} {r : Rf} (hx : MkRt x) (h : dueK ss ws ms x = some r) : RfS r := by
  have t : ∀ z ∈ mkTx x, okS z := fun z hz => nm_oks (hx.tx z hz)
  have t1 : okS x.mr := t _ (by unfold mkTx; simp)
  have t2 : okS x.md := t _ (by unfold mkTx; simp)
  unfold dueK at h
  simp only [Option.or_eq_some_iff] at h
  rcases h with h | ⟨_, h | ⟨_, h | ⟨_, h⟩⟩⟩
  · unfold twM at h
    split at h
    · cases h
      exact ⟨t1, fun _ e => by cases e⟩
    · cases h
  · refine ns_ok (fun z hz => ?_) h
    rcases List.mem_cons.mp hz with q | q
    · rw [q]; exact t1
    · rw [List.mem_singleton.mp q]; exact t2
  · unfold upP at h
    split at h
    · cases h
      exact ⟨⟨t1, t2⟩, fun _ e => by cases e⟩
    · cases h
  · refine nw_ok (fun z hz => t z ?_) h
    unfold mkTx
    rcases List.mem_append.mp hz with q | q
    · exact List.mem_append_left _ (List.mem_append_right _ q)
    · exact List.mem_append_right _ q
theorem ch_ok {ss ws pl : List Str} {ms : List MkD} {rs bs : List PaT} {c : Chg} {r : Rf} (ok : LOk ss ws pl ms rs bs) (ck : ChOk ss ws pl c) (h : chDue ss ws ms rs bs c = some r) : RfS r := by
  cases c with
  | wr x =>
    have px := pt_rt ok.ns ok.nw ok.np ck
    exact g_ok (kd := PySem.Str.ofString "rules") (mo := 8) (ys := rs) (x := x) (wds := [x.w0, x.w1]) (by unfold okS; decide +kernel) px (fun z hz => by
      rcases List.mem_cons.mp hz with q | q
      · rw [q]; exact nm_oks px.w.1
      · rw [List.mem_singleton.mp q]; exact nm_oks px.w.2) h
  | wb x =>
    have px := pt_rt ok.ns ok.nw ok.np ck
    exact g_ok (kd := PySem.Str.ofString "bars") (mo := 4) (ys := bs) (x := x) (wds := [x.w0]) (by unfold okS; decide +kernel) px (fun z hz => by
      rw [List.mem_singleton.mp hz]; exact nm_oks px.w.1) h
  | wm x => exact k_ok (mk_rt ok.ns ok.nw ck) h
  | or x =>
    have px := pt_rt ok.ns ok.nw ok.np ck
    have h : (if x.nm ∈ rs.map (·.nm) then none else some (Rf.nr x.nm)) = some r := h
    split at h
    · cases h
    · cases h
      exact ⟨nm_oks px.nm, fun _ e => by cases e⟩
  | ob x =>
    have px := pt_rt ok.ns ok.nw ok.np ck
    have h : (if x.nm ∈ bs.map (·.nm) then none else some (Rf.nb x.nm)) = some r := h
    split at h
    · cases h
    · cases h
      exact ⟨nm_oks px.nm, fun _ e => by cases e⟩
  | om a b =>
    have h : (if (a, b) ∈ ms.map prM then none else some (Rf.nmk a b)) = some r := h
    split at h
    · cases h
    · cases h
      exact ⟨⟨ck.1.nmw ok.ns, ck.2.nmw ok.ns⟩, fun _ e => by cases e⟩
theorem ch_tx {ss ws pl : List Str} {ms : List MkD} {rs bs : List PaT} {c : Chg} (ok : LOk ss ws pl ms rs bs) (ck : ChOk ss ws pl c) : chTx c := by
  cases c <;> first | trivial | exact ⟨ck.1.nmw ok.ns, ck.2.nmw ok.ns⟩
theorem LOk.wo {ss ws pl : List Str} {ms : List MkD} {rs bs : List PaT} (ok : LOk ss ws pl ms rs bs) : Wo ss ws ms rs bs :=
  ⟨fun z hz => nm_oks (ok.ns z hz), fun z hz => nm_oks (ok.nw z hz), Nat.le_trans ok.ml (by decide), Nat.le_trans ok.r20 (by decide), Nat.le_trans ok.b20 (by decide), fun y hy => (ok.mt y hy).ok⟩
/-- what stands behind a change is right again -/
theorem LOk.go {ss ws pl : List Str} {ms : List MkD} {rs bs : List PaT} {c : Chg} (ok : LOk ss ws pl ms rs bs) (ml : ms.length < 60) (ck : ChOk ss ws pl c) {o : Option Rf} (ho : chDue ss ws ms rs bs c = o) : LOk ss ws pl (chGo o ms rs bs c).1 (chGo o ms rs bs c).2.1 (chGo o ms rs bs c).2.2 ∧ (chGo o ms rs bs c).1.length ≤ ms.length + 1 := by
  cases o with
  | some r => exact ⟨ok, Nat.le_succ _⟩
  | none =>
    cases c with
    | wr x =>
      refine ⟨⟨ok.sz, ok.ns, ok.nw, ok.np, ok.ml, ok.mt, fun y hy => ?_, ok.bk, (due_rule x ok.g).trans ho⟩, Nat.le_succ _⟩
      rcases List.mem_append.mp hy with q | q
      · exact ok.rk y q
      · rw [List.mem_singleton.mp q]; exact pt_rt ok.ns ok.nw ok.np ck
    | wb x =>
      refine ⟨⟨ok.sz, ok.ns, ok.nw, ok.np, ok.ml, ok.mt, ok.rk, fun y hy => ?_, (due_bar x ok.g).trans ho⟩, Nat.le_succ _⟩
      rcases List.mem_append.mp hy with q | q
      · exact ok.bk y q
      · rw [List.mem_singleton.mp q]; exact pt_rt ok.ns ok.nw ok.np ck
    | wm x =>
      have e : (ms ++ [x]).length = ms.length + 1 := by simp
      refine ⟨⟨ok.sz, ok.ns, ok.nw, ok.np, (by show (ms ++ [x]).length ≤ 60; omega), fun y hy => ?_, ok.rk, ok.bk, (due_mak x ok.g).trans ho⟩, by show (ms ++ [x]).length ≤ _; omega⟩
      rcases List.mem_append.mp hy with q | q
      · exact ok.mt y q
      · rw [List.mem_singleton.mp q]; exact mk_rt ok.ns ok.nw ck
    | or x => exact ⟨⟨ok.sz, ok.ns, ok.nw, ok.np, ok.ml, ok.mt, fun y hy => ok.rk y (List.mem_filter.mp hy).1, ok.bk, good_less_r _ ok.g⟩, Nat.le_succ _⟩
    | ob x => exact ⟨⟨ok.sz, ok.ns, ok.nw, ok.np, ok.ml, ok.mt, ok.rk, fun y hy => ok.bk y (List.mem_filter.mp hy).1, good_less_b _ ok.g⟩, Nat.le_succ _⟩
    | om a b => exact ⟨⟨ok.sz, ok.ns, ok.nw, ok.np, Nat.le_trans (List.length_filter_le _ _) ok.ml, fun y hy => ok.mt y (List.mem_filter.mp hy).1, ok.rk, ok.bk, good_less_m _ ok.g⟩, Nat.le_trans (List.length_filter_le _ _) (Nat.le_succ _)⟩
/-! ### the first scheme -/
theorem tw_nodup {zs : List Str} (nd : zs.Nodup) : goF twP [] zs = none := by
  refine goF_none fun j x hj hx => ?_
  unfold twP
  rw [if_neg]
  intro h
  obtain ⟨i, hi⟩ := List.mem_iff_getElem?.mp h
  obtain ⟨l1, e1⟩ := List.getElem?_eq_some_iff.mp hi
  rw [List.length_take] at l1
  rw [List.getElem_take] at e1
  obtain ⟨l2, e2⟩ := List.getElem?_eq_some_iff.mp hx
  exact (List.pairwise_iff_getElem.mp nd) i j (by omega) l2 (by omega) (e1.trans e2.symm)
theorem nm_all {zs : List Str} (h : ∀ z ∈ zs, isNm z = true) : goF nmP [] zs = none := goF_none fun j x hj hx => by
  unfold nmP
  rw [if_pos (h x (List.mem_of_getElem? hx))]
def pO (s0 w0 w1 z : Str) : PaT := ⟨z, none, some s0, w0, w1⟩
theorem good0 {ss ws pl : List Str} {s0 w0 w1 : Str} {rs bs : List PaT} (s1 : 1 ≤ ss.length) (s4 : ss.length ≤ 4) (l1 : 1 ≤ ws.length) (l3 : ws.length ≤ 3) (ns : ∀ z ∈ ss, isNm z = true) (nw : ∀ z ∈ ws, isNm z = true) (ds : ss.Nodup) (dw : ws.Nodup) (dr : (rs.map (·.nm)).Nodup) (db : (bs.map (·.nm)).Nodup)
    (hs : s0 ∈ ss) (h0 : w0 ∈ ws) (h1 : w1 ∈ ws) (hr : ∀ x ∈ rs, ∃ z, x = pO s0 w0 w1 z) (hb : ∀ x ∈ bs, ∃ z, x = pO s0 w0 w1 z) (r8 : rs.length ≤ 8) (b4 : bs.length ≤ 4) : Good ss ws [] rs bs := by
  have kd : ∀ z : Str, ∀ y ∈ kdL (pO s0 w0 w1 z), y ∈ ss := fun z y hy => by
    have hy : y ∈ [s0] := hy
    rw [List.mem_singleton.mp hy]
    exact hs
  have wd : ∀ z y : Str, y ∈ [(pO s0 w0 w1 z).w0, (pO s0 w0 w1 z).w1] → y ∈ ws := fun z y hy => by
    rcases List.mem_cons.mp hy with q | q
    · rw [q]; exact h0
    · rw [List.mem_singleton.mp q]; exact h1
  refine goods_iff.mpr ⟨if_neg (by omega), if_neg (by omega), if_neg (by omega), if_neg (by omega), nm_all ns, nm_all nw, tw_nodup ds, tw_nodup dw, rfl, tw_nodup dr, tw_nodup db, rfl, goN_iff.mpr fun z hz => ?_, goN_iff.mpr fun z hz => ?_, rfl, rfl, goW_iff.mpr fun z hz => ?_, goW_iff.mpr fun z hz => ?_⟩
  · obtain ⟨x, hx, hz⟩ := List.mem_flatMap.mp hz
    obtain ⟨n, rfl⟩ := hr x hx
    exact kd n z hz
  · obtain ⟨x, hx, hz⟩ := List.mem_flatMap.mp hz
    obtain ⟨n, rfl⟩ := hb x hx
    exact kd n z hz
  · obtain ⟨x, hx, hz⟩ := List.mem_flatMap.mp hz
    obtain ⟨n, rfl⟩ := hr x hx
    exact wd n z hz
  · obtain ⟨x, hx, hz⟩ := List.mem_flatMap.mp hz
    obtain ⟨n, rfl⟩ := hb x hx
    rw [List.mem_singleton.mp hz]
    exact h0
theorem passN {X : Cx} : Passes (L2N.CX X.prog X.w) X E0 := fun _ _ _ _ _ _ _ h => by
  obtain ⟨_, _, _, _, _, _, _, _, _, _, _, _, z⟩ := h
  exact z.elim
end Wm
namespace Wm
open PySem L2 StX
def spCel (K : PySem.W.Frag) : Sp := fun vs H Q _ => ∃ (a : Addr) (ns : List Int) (j : Nat), vs = [.ref a, .int j] ∧ SqL K H a (ns.map V.int) ∧ ∀ i : Int, Q (.int i) H
def spLaw (K : PySem.W.Frag) : Sp := fun vs H Q _ => ∃ (a : Addr) (ns : List Int), vs = [.ref a] ∧ SqL K H a (ns.map V.int) ∧ ns.length ≤ 63 ∧ ∀ H', Q (.bl true) H'
def tLB (K : PySem.W.Frag) (C : Nat → Addr) (S MB RB BB : Addr) (W : WX) : TS := tAsg (tCallS (spLdn K C S MB RB BB) (WE W) (tCons (tVar 8) (tCons (tOp (rIxT K) (tVar 10) (tC (.int 0))) (tCons (tOp (rIxT K) (tVar 10) (tC (.int 1))) tNil)))) (gName 12)
def tLS (C : Nat → Addr) : Addr → Value → Option Addr → TS := fun a cls d => tAsg (tCallE (spTld C a cls d) (tCons (tVar 13) tNil)) (gName 11)
def PtN (F : Addr) (H : Hp) (t : Addr) (x : PaT) : Prop := ∃ l1 l2, l1 ≠ F ∧ l2 ≠ F ∧ H t = some (.tup [.str x.nm, .ref l1, .ref l2]) ∧ H l1 = some (.lst [sortV x.k0, sortV x.k1]) ∧ H l2 = some (.lst [.str x.w0, .str x.w1])
theorem PtN.at {F : Addr} {H : Hp} {t : Addr} {x : PaT} (h : PtN F H t x) : PtAt H t x := by
  obtain ⟨l1, l2, _, _, a, b, c⟩ := h
  exact ⟨l1, l2, a, b, c⟩
theorem PtN.kp {F : Addr} {H H' : Hp} {t : Addr} {x : PaT} (k : Kp H H') (h : PtN F H t x) : PtN F H' t x := by
  obtain ⟨l1, l2, n1, n2, a, b, c⟩ := h
  exact ⟨l1, l2, n1, n2, k _ _ ns_tup a, k _ _ ns_pair b, k _ _ ns_pair c⟩
theorem PtN.put {F : Addr} {H : Hp} {t : Addr} {x : PaT} {ys zs : List V} (hF : H F = some (.lst ys)) (h : PtN F H t x) : PtN F (upd H F (.lst zs)) t x := by
  obtain ⟨l1, l2, n1, n2, a, b, c⟩ := h
  exact ⟨l1, l2, n1, n2, (upd_ne (ne_of a hF (by intro z; cases z))).trans a, (upd_ne n1).trans b, (upd_ne n2).trans c⟩
def lw2 (l1 l2 : Addr) : List (L2.Key × V) := [(kS "sorts", .ref l1), (kS "words", .ref l2)]
def lwp (l6 l3 : Addr) : List (L2.Key × V) := [(kS "pool", .ref l6), (kS "makings", .ref l3)]
def lw4 (l1 l2 l6 l3 : Addr) : List (L2.Key × V) := [(kS "sorts", .ref l1), (kS "words", .ref l2), (kS "pool", .ref l6), (kS "makings", .ref l3)]
def lwq (l4 l5 : Addr) : List (L2.Key × V) := [(kS "rules", .ref l4), (kS "bars", .ref l5)]
def lw6 (l1 l2 l6 l3 l4 l5 : Addr) : List (L2.Key × V) := [(kS "sorts", .ref l1), (kS "words", .ref l2), (kS "pool", .ref l6), (kS "makings", .ref l3), (kS "rules", .ref l4), (kS "bars", .ref l5)]
theorem cut_head (xs : List V) (n : Nat) : cutV xs none (some (n : Int)) = xs.take n := by
  unfold cutV
  rw [HT.sIx_none, HT.sIx_nat, List.drop_zero, Nat.sub_zero, List.take_eq_take_iff]
  omega
theorem cut_mid (xs : List V) (n : Nat) : cutV xs (some 2) (some (2 + (n : Int))) = (xs.drop 2).take n := by
  unfold cutV
  rw [show (some (2 : Int)) = some ((2 : Nat) : Int) from rfl, show (some (2 + (n : Int))) = some ((2 + n : Nat) : Int) by congr 1, HT.sIx_nat, HT.sIx_nat]
  by_cases h : 2 ≤ xs.length
  · rw [Nat.min_eq_left h, List.take_eq_take_iff, List.length_drop]
    omega
  · have e : xs.drop 2 = [] := List.drop_eq_nil_of_le (by omega)
    have e2 : xs.drop (min 2 xs.length) = [] := List.drop_eq_nil_of_le (by omega)
    rw [e, e2, List.take_nil, List.take_nil]
/-- the cells of the changes -/
theorem cut_cells (ns : List Int) : (∀ y ∈ cutV (ns.map V.int) (some 1) (some 31), ∃ c, y = V.int c) ∧ (cutV (ns.map V.int) (some 1) (some 31)).length ≤ 30 := by
  refine ⟨fun y hy => ?_, ?_⟩
  · unfold cutV at hy
    obtain ⟨c, _, rfl⟩ := List.mem_map.mp (List.mem_of_mem_drop (List.mem_of_mem_take hy))
    exact ⟨c, rfl⟩
  · unfold cutV
    rw [show (some (1 : Int)) = some ((1 : Nat) : Int) from rfl, show (some (31 : Int)) = some ((31 : Nat) : Int) from rfl, HT.sIx_nat, HT.sIx_nat, List.length_take, List.length_drop]
    omega
/-- what the loop leans on -/
def LI (K : PySem.W.Frag) (S MB RB BB : Addr) (ss ws pl : List Str) (i : Nat) (m x : Addr) (H : Hp) : Prop := ∃ (l1 l2 l3 l4 l5 l6 : Addr) (kvs : List (L2.Key × V)) (ts us vs as bs cs : List Addr) (ms : List MkD) (rs ps : List PaT), Mdl H m l1 l2 l3 l4 l5 l6 kvs ts us vs ss ws pl ms rs ps ∧ SchG S H x ss ws as bs cs ∧ Parts K MB RB BB H as bs cs ms (rs.map ruD) (ps.map baD) ∧ LOk ss ws pl ms rs ps ∧ ms.length ≤ i
theorem LI.same {K : PySem.W.Frag} {S MB RB BB : Addr} {ss ws pl : List Str} {i : Nat} {m x : Addr} {H H' : Hp} (s : Same H H') (h : LI K S MB RB BB ss ws pl i m x H) : LI K S MB RB BB ss ws pl i m x H' := by
  obtain ⟨l1, l2, l3, l4, l5, l6, kvs, ts, us, vs, as, bs, cs, ms, rs, ps, M, sg, pa, ok, ml⟩ := h
  exact ⟨l1, l2, l3, l4, l5, l6, kvs, ts, us, vs, as, bs, cs, ms, rs, ps, M.kp (Same.kp s), sg.same s, pa.same s, ok, ml⟩
theorem AllAt.takeA {α : Type} {R : Addr → α → Prop} : ∀ {as : List Addr} {xs : List α} (n : Nat), AllAt R as xs → AllAt R (as.take n) (xs.take n)
  | [], [], n, _ => by rw [List.take_nil, List.take_nil]; exact True.intro
  | a :: as, x :: xs, 0, _ => True.intro
  | a :: as, x :: xs, n + 1, h => ⟨h.1, AllAt.takeA n h.2⟩
  | [], _ :: _, _, h => h.elim
  | _ :: _, [], _, h => h.elim
theorem AllAt.dropA {α : Type} {R : Addr → α → Prop} : ∀ {as : List Addr} {xs : List α} (n : Nat), AllAt R as xs → AllAt R (as.drop n) (xs.drop n)
  | [], [], n, _ => by rw [List.drop_nil, List.drop_nil]; exact True.intro
  | a :: as, x :: xs, 0, h => h
  | a :: as, x :: xs, n + 1, h => AllAt.dropA n h.2
  | [], _ :: _, _, h => h.elim
  | _ :: _, [], _, h => h.elim
section
variable {P : Program} {w : World} {K : PySem.W.Frag} {mg : Str → Option Value} {base : Heap} {C : Nat → Addr}
theorem scCel : FnScope ["_law_script", "_law_k"] ["_law_script", "_law_k"] (defScope sCel) := ⟨rfl, rfl, rfl, by decide +kernel, rfl, by decide +kernel, by decide +kernel⟩
theorem ok_cel {f : Addr} {fd : FuncData} (F : Fun K "_law_cell_at" "_law_cell_at" sCel f fd) (T : TxB mg) : FnOk P w K mg base CX0 1 f fd ["_law_script", "_law_k"] (spCel K) := by
  refine F.ok scCel (fun vs H Q E h => ?_) (fun cdv A outer s H vs Q E hr h => ?_)
  · obtain ⟨a, ns, j, rfl, _⟩ := h
    rfl
  · obtain ⟨a, ns, j, rfl, hS, k⟩ := h
    refine ⟨_, (pss_cons (ps_if (pt_cmpR op_lt (pv 1) (pe_callB call_len_seq (by rfl) T.len (by decide +kernel) (pa_cons (pv 0) pa_nil)) (nomark _)) (pss_one (ps_ret (pe_ix ix_list (pv 0) (pv 1) (fun _ _ => rfl)))) pss_nil)
      (pss_one (ps_ret pe_int))), ?_⟩
    refine ⟨_, rfl, _, rfl, a, _, rfl, .inl hS, _, _, rfl, rfl, _, rfl, ite2 (fun h => ?_) (fun h => ?_)⟩
    · have h1 := of_decide_eq_true h
      rw [List.length_map] at h1
      have hj : j < ns.length := by omega
      refine ⟨_, rfl, _, rfl, a, _, _, .int ns[j], rfl, rfl, hS, atI_nat (j := j) ?_, k _⟩
      rw [List.getElem?_map, List.getElem?_eq_getElem hj]
      rfl
    · exact k 0
theorem scLaw : FnScope ["_law_script", "_law_s", "_law_m", "_law_counts", "_law_name_here", "_law_parts", "_law_one", "_law_rules", "_law_scheme", "_law_cell", "_law_change_here", "_law_found", "_law_fresh", "_law_e", "_law_behind_here"] ["_law_script"] (defScope sLaw) := ⟨rfl, rfl, rfl, by decide +kernel, rfl, by decide +kernel, by decide +kernel⟩
theorem ok_law {f fCl fSt fG fN fRl fBr fCh fBh fDn fRt fT fS S MB RB BB W : Addr} {fd dCl dSt dG dN dRl dBr dCh dBh dDn dRt dT dS : FuncData} (F : Fun K "law" "law" sLaw f fd) (T : TxB mg) (tl : mg "list" = none) (TE : TxE K mg C W) (TC : TxSch K mg S fS)
    (DCl : Dn K mg "_law_cell_at" sCel ["_law_script", "_law_k"] fCl dCl) (DSt : Dn K mg "_law_state" sState ["_law_cell"] fSt dSt) (DG : Dn K mg "_law_digit" sDigit ["_law_state_here", "_law_base"] fG dG) (DN : Dn K mg "_law_names" sNms ["_law_s", "_law_many"] fN dN) (GN : FnOk P w K mg base CX0 3 fN dN ["_law_s", "_law_many"] spNms)
    (DRl : Dn K mg "_law_rule" sLrl ["_law_part"] fRl dRl) (GRl : FnOk P w K mg base CX0 8 fRl dRl ["_law_part"] (spLrl K RB)) (DBr : Dn K mg "_law_bar" sLbr ["_law_part"] fBr dBr) (GBr : FnOk P w K mg base CX0 8 fBr dBr ["_law_part"] (spLbr K BB))
    (DCh : Dn K mg "_law_change" sLch ["_law_s", "_law_m"] fCh dCh) (GCh : FnOk P w K mg base CX0 4 fCh dCh ["_law_s", "_law_m"] spLch) (DBh : Dn K mg "_law_behind" sLbh ["_law_m", "_law_change_here"] fBh dBh)
    (DDn : Dn K mg "_law_done" sLdn ["_law_scheme", "_law_deed", "_law_part"] fDn dDn) (GDn : FnOk P w K mg base (L2N.CX P w) 9 fDn dDn ["_law_scheme", "_law_deed", "_law_part"] (spLdn K C S MB RB BB)) (DRt : Dn K mg "_law_right" sLrt ["_law_scheme", "_law_m"] fRt dRt) (GRt : FnOk P w K mg base CX0 9 fRt dRt ["_law_scheme", "_law_m"] (spLrt K S MB RB BB))
    (DTl : Dn K mg "_law_told" sTld ["_law_e"] fT dT) (GTl : FnEN P w K mg base 1 fT dT ["_law_e"] (spTld C)) (bS : Binds K dS ["self", "sorts", "words", "makings", "rules", "bars"] []) (GS : FnOk P w K mg base (L2N.CX P w) 6 fS dS ["self", "sorts", "words", "makings", "rules", "bars"] (spSch K C S MB RB BB)) :
    FnOk P w K mg base CX0 10 f fd ["_law_script"] (spLaw K) := by
  have GCl : FnOk P w K mg base CX0 1 fCl dCl _ (spCel K) := ok_cel DCl.F T
  have GSt : FnOk P w K mg base CX0 1 fSt dSt _ spState := ok_state DSt.F T
  have GG : FnOk P w K mg base CX0 1 fG dG _ spDigit := ok_digit DG.F
  have GBh : FnOk P w K mg base CX0 1 fBh dBh _ spLbh := ok_lbh DBh.F tl
  refine F.ok scLaw (fun vs H Q E h => ?_) (fun cdv A outer s H vs Q E hr h => ?_)
  · obtain ⟨a, ns, rfl, _⟩ := h
    rfl
  · obtain ⟨a, ns, rfl, hA, hlen, kk⟩ := h
    have hu := hu_of hr
    have hr1 : Room 1 _ := hr.mono (by decide)
    have hr3 : Room 3 _ := hr.mono (by decide)
    have hr4 : Room 4 _ := hr.mono (by decide)
    have hr7 : Room 7 _ := hr.mono (by decide)
    have hr8 : Room 8 _ := hr.mono (by decide)
    have hr9 : Room 9 _ := hr
    refine ⟨_, (pss_cons (ps_set (i := 1) scLaw.nd rfl (Or.inl rfl) (pe_call GSt hr1 rfl DSt.g DSt.F.kp DSt.b .nil pass0 (pa_cons (pe_call GCl hr1 rfl DCl.g DCl.F.kp DCl.b .nil pass0 (pa_cons (pv 0) (pa_cons pe_int pa_nil))) pa_nil)))
      (pss_cons (ps_set (i := 2) scLaw.nd rfl (Or.inr rfl) (pe_disp (pps_cons pe_str (pe_call GN hr3 rfl DN.g DN.F.kp DN.b .nil pass0 (pa_cons (pv 1) (pa_cons (pe_op op_add pe_int (pe_call GG hr1 rfl DG.g DG.F.kp DG.b .nil pass0 (pa_cons (pv 1) (pa_cons pe_int pa_nil)))) pa_nil))) (pps_cons pe_str (pe_call GN hr3 rfl DN.g DN.F.kp DN.b .nil pass0 (pa_cons (pv 1) (pa_cons (pe_op op_add pe_int (pe_call GG hr1 rfl DG.g DG.F.kp DG.b .nil pass0 (pa_cons (pv 1) (pa_cons pe_int pa_nil)))) pa_nil))) pps_nil)) (by rfl) (by rfl) (fun z => by cases z) (by decide)))
      (pss_cons (ps_set (i := 3) scLaw.nd rfl (Or.inl rfl) (pe_lst (pa_cons (pe_call GG hr1 rfl DG.g DG.F.kp DG.b .nil pass0 (pa_cons (pv 1) (pa_cons pe_int pa_nil))) (pa_cons (pe_call GG hr1 rfl DG.g DG.F.kp DG.b .nil pass0 (pa_cons (pv 1) (pa_cons pe_int pa_nil))) pa_nil))))
      (pss_cons (ps_expr (pe_bm PySem.F.plainAttrs_dict PySem.F.slot_dict_update PySem.F.type_dict_update mt_upd (pv 2) (pa_cons (pe_disp (pps_cons pe_str (pe_call GN hr3 rfl DN.g DN.F.kp DN.b .nil pass0 (pa_cons (pv 1) (pa_cons pe_int pa_nil))) (pps_cons pe_str (pe_lst pa_nil) pps_nil)) (by rfl) (by rfl) (fun z => by cases z) (by decide)) pa_nil)))
      (pss_cons (ps_setLc (i := 5) (own := [("_law_name_here", 4)]) (g := gName 4) (tt := tYes) (te := (tTup (tCons (tVar 4) (tCons (tLst (tCons (tC .non) (tCons (tOp (rIxL K) (tDGet (tVar 2) (tC (.str (PySem.Str.ofString "sorts")))) (tC (.int 0))) tNil))) (tCons (tLst (tCons (tOp (rIxL K) (tDGet (tVar 2) (tC (.str (PySem.Str.ofString "words")))) (tC (.int 0))) (tCons (tOp (rIxL K) (tDGet (tVar 2) (tC (.str (PySem.Str.ofString "words")))) (tUn (rU fun i => .int (-i)) (tC (.int 1)))) tNil))) tNil))))) rfl scLaw.nd rfl rfl (sw_true rfl rfl rfl (by decide +kernel)) (pi_list (pe_dget hu (pv 2) pe_str (fun _ _ => rfl))) (blkOk_by (N := ["_law_script", "_law_s", "_law_m", "_law_counts", "_law_name_here", "_law_parts", "_law_one", "_law_rules", "_law_scheme", "_law_cell", "_law_change_here", "_law_found", "_law_fresh", "_law_e", "_law_behind_here"]) (sc := defScope sLaw) (by decide +kernel)) (fun _ _ _ _ _ => (pg_name (i := 4) scLaw.nd rfl (Or.inl rfl))) (fun _ _ _ _ _ => pts_nil) (fun _ _ _ _ _ => (pe_tup (pa_cons (pv 4) (pa_cons (pe_lst (pa_cons pe_non (pa_cons (pe_ix ix_list (pe_dget hu (pv 2) pe_str (fun _ _ => rfl)) pe_int (fun _ _ => rfl)) pa_nil))) (pa_cons (pe_lst (pa_cons (pe_ix ix_list (pe_dget hu (pv 2) pe_str (fun _ _ => rfl)) pe_int (fun _ _ => rfl)) (pa_cons (pe_ix ix_list (pe_dget hu (pv 2) pe_str (fun _ _ => rfl)) (pe_un un_neg pe_int) (fun _ _ => rfl)) pa_nil))) pa_nil))))))
      (pss_cons (ps_expr (pe_bm PySem.F.plainAttrs_dict PySem.F.slot_dict_update PySem.F.type_dict_update mt_upd (pv 2) (pa_cons (pe_disp (pps_cons pe_str (pe_slice sl_list (pv 5) po_none (po_some (pe_ix ix_list (pv 3) pe_int (fun _ _ => rfl)))) (pps_cons pe_str (pe_slice sl_list (pv 5) (po_some pe_int) (po_some (pe_op op_add pe_int (pe_ix ix_list (pv 3) pe_int (fun _ _ => rfl))))) pps_nil)) (by rfl) (by rfl) (fun z => by cases z) (by decide)) pa_nil)))
      (pss_cons (ps_setLc (i := 7) (own := [("_law_one", 6)]) (g := gName 6) (tt := tYes) (te := tCall (spLrl K RB) [] E0 (tCons (tVar 6) tNil)) rfl scLaw.nd rfl rfl (sw_true rfl rfl rfl (by decide +kernel)) (pi_list (pe_dget hu (pv 2) pe_str (fun _ _ => rfl))) (blkOk_by (N := ["_law_script", "_law_s", "_law_m", "_law_counts", "_law_name_here", "_law_parts", "_law_one", "_law_rules", "_law_scheme", "_law_cell", "_law_change_here", "_law_found", "_law_fresh", "_law_e", "_law_behind_here"]) (sc := defScope sLaw) (by decide +kernel)) (fun _ _ _ _ _ => (pg_name (i := 6) scLaw.nd rfl (Or.inl rfl))) (fun _ _ _ _ _ => pts_nil) (fun _ _ _ _ _ => (pe_call GRl hr8 rfl DRl.g DRl.F.kp DRl.b .nil pass0 (pa_cons (pv 6) pa_nil))))
      (pss_cons (ps_set (i := 8) scLaw.nd rfl (Or.inl rfl) (pe_make TC.m GS hr7 rfl TC.g bS .nil passN (pa_cons (pe_callTy call_list_of (by rfl) tl (by decide +kernel) (pa_cons (pe_dget hu (pv 2) pe_str (fun _ _ => rfl)) pa_nil)) (pa_cons (pe_callTy call_list_of (by rfl) tl (by decide +kernel) (pa_cons (pe_dget hu (pv 2) pe_str (fun _ _ => rfl)) pa_nil)) (pa_cons (pe_lst pa_nil) (pa_cons (pv 7) (pa_cons (pe_lc (own := [("_law_one", 6)]) (g := gName 6) (tt := tYes) (te := tCall (spLbr K BB) [] E0 (tCons (tVar 6) tNil)) rfl scLaw.nd (pi_list (pe_dget hu (pv 2) pe_str (fun _ _ => rfl))) (blkOk_by (N := ["_law_script", "_law_s", "_law_m", "_law_counts", "_law_name_here", "_law_parts", "_law_one", "_law_rules", "_law_scheme", "_law_cell", "_law_change_here", "_law_found", "_law_fresh", "_law_e", "_law_behind_here"]) (sc := defScope sLaw) (by decide +kernel)) (fun _ _ _ _ _ => (pg_name (i := 6) scLaw.nd rfl (Or.inl rfl))) (fun _ _ _ _ _ => pts_nil) (fun _ _ _ _ _ => (pe_call GBr hr8 rfl DBr.g DBr.F.kp DBr.b .nil pass0 (pa_cons (pv 6) pa_nil)))) pa_nil)))))))
      (pss_cons (ps_for PassesOwn.never rfl (pi_list (pe_slice sl_list (pv 0) (po_some pe_int) (po_some pe_int))) (pg_name (i := 9) scLaw.nd rfl (Or.inl rfl)) (pss_cons (ps_set (i := 10) scLaw.nd rfl (Or.inl rfl) (pe_call GCh hr4 rfl DCh.g DCh.F.kp DCh.b .nil pass0 (pa_cons (pe_call GSt hr1 rfl DSt.g DSt.F.kp DSt.b .nil pass0 (pa_cons (pv 9) pa_nil)) (pa_cons (pv 2) pa_nil))))
      (pss_cons (ps_set (i := 11) scLaw.nd rfl (Or.inl rfl) pe_non)
      (pss_cons (ps_set (i := 12) scLaw.nd rfl (Or.inl rfl) (pv 8))
      (pss_cons (L2N.ps_try_as (i := 13) (tb := tLB K C S MB RB BB) (ts := tLS C) (Wout := fun _ _ _ _ => False) rfl rfl scLaw.nd rfl rfl ⟨rfl, by decide, Or.inl TE.gW⟩ takesN0 (fun W_ pn xe tk _ => (pss_one (ps_set (i := 12) scLaw.nd rfl (Or.inl rfl) (by exact (pe_callS GDn hr9 rfl DDn.g DDn.F.kp DDn.b (fun σ => L2N.passAt tk σ) (by exact (pa_cons (pv 8) (pa_cons (pe_ix ix_tup (pv 10) pe_int (fun _ _ => rfl)) (pa_cons (pe_ix ix_tup (pv 10) pe_int (fun _ _ => rfl)) pa_nil))))))))) (fun a oe cls d pn hz hf => (pss_one (ps_set (i := 11) scLaw.nd rfl (Or.inl rfl) (by exact (pe_callEN GTl (L2H.roomH_of hr1) hz hf rfl DTl.g DTl.F.kp DTl.b (pa_cons (pv 13) pa_nil)))))))
      (pss_cons (ps_if (PW.pt (pw_or (pt_cmpR (op_neD hr.units) (pv 11) (pe_ix ix_tup (pv 10) pe_int (fun _ _ => rfl)) (nomark _)) (pw_or1 (pt_not (pt_val (pe_call GRt hr9 rfl DRt.g DRt.F.kp DRt.b .nil pass0 (pa_cons (pv 8) (pa_cons (pv 2) pa_nil)))))))) (pss_one (ps_ret pe_bl)) pss_nil)
      (pss_cons (ps_set (i := 14) scLaw.nd rfl (Or.inl rfl) (pe_call GBh hr1 rfl DBh.g DBh.F.kp DBh.b .nil pass0 (pa_cons (pv 2) (pa_cons (pv 10) pa_nil))))
      (pss_cons (ps_if (pt_not (pt_val (pe_call GRt hr9 rfl DRt.g DRt.F.kp DRt.b .nil pass0 (pa_cons (pv 12) (pa_cons (pv 14) pa_nil))))) (pss_one (ps_ret pe_bl)) pss_nil)
      (pss_cons (ps_set (i := 2) scLaw.nd rfl (Or.inr rfl) (pv 14))
      (pss_one (ps_set (i := 8) scLaw.nd rfl (Or.inl rfl) (pv 12))))))))))))
      (pss_one (ps_ret (pe_call GRt hr9 rfl DRt.g DRt.F.kp DRt.b .nil pass0 (pa_cons (pv 8) (pa_cons (pv 2) pa_nil)))))))))))))), ?_⟩
    rw [show L2.start ["_law_script", "_law_s", "_law_m", "_law_counts", "_law_name_here", "_law_parts", "_law_one", "_law_rules", "_law_scheme", "_law_cell", "_law_change_here", "_law_found", "_law_fresh", "_law_e", "_law_behind_here"] [V.ref a] = [some (.ref a), none, none, none, none, none, none, none, none, none, none, none, none, none, none] from rfl]
    refine ⟨_, rfl, a, ns, 0, rfl, hA, fun ci => ⟨ci, rfl, fun p H1 hp S1 st1 => ?_⟩⟩
    dsimp only [gName, List.set_cons_succ, List.set_cons_zero]
    -- sorts and words
    intro dm hdm
    have ndp : dm ≠ p := st_free st1 hdm
    have zd : H dm = none := S1.free hdm
    have T2 : Same H1 (upd H1 dm (.dK [])) := Same.upd hdm
    have e2 : (upd H1 dm (.dK [])) dm = some (.dK []) := upd_same
    have st2 := st1.same T2
    have M2 := S1.trans T2
    generalize upd H1 dm (.dK []) = H2 at e2 st2 M2
    refine ⟨_, rfl, _, rfl, p, 4, rfl, st2, by decide, by decide, fun d1 H3 a3 b3 B3 S3 => ⟨_, _, rfl, rfl, p, 1 + d1, rfl, S3, by omega, by omega, fun ss l1 H4 n1 p1 B4 S4 h1 sl snd snm => ?_⟩⟩
    refine ⟨_, rfl, _, rfl, p, 3, rfl, S4, by decide, by decide, fun d2 H5 a5 b5 B5 S5 => ⟨_, _, rfl, rfl, p, 1 + d2, rfl, S5, by omega, by omega, fun ws l2 H6 n2 p2 B6 S6 h2 wl wnd wnm => ?_⟩⟩
    have B26 := (B3.trans B4).trans (B5.trans B6)
    have e6 := B26 _ _ ndp e2
    have h1 := (B5.trans B6) _ _ p1 h1
    have M6 := But.same hp M2 B26
    refine ⟨e6, lw2 l1 l2, rfl, by show 2 ≤ 15; decide, ?_⟩
    rw [show mergeK [] (lw2 l1 l2) = lw2 l1 l2 from rfl]
    have M7 : Same H (upd H6 dm (.dK (lw2 l1 l2))) := fun q o e => (upd_ne (ne_of_none e zd)).trans (M6 _ _ e)
    have e7 : (upd H6 dm (.dK (lw2 l1 l2))) dm = some (.dK (lw2 l1 l2)) := upd_same
    have h1 := keepL (k' := lw2 l1 l2) e6 h1
    have h2 := keepL (k' := lw2 l1 l2) e6 h2
    have st7 := S6.upd (o := .dK (lw2 l1 l2)) ndp
    generalize upd H6 dm (.dK (lw2 l1 l2)) = H7 at M7 e7 h1 h2 st7
    clear e2 e6 B26 B3 B4 B5 B6 S3 S4 S5 S6 M2 M6 n1 n2
    dsimp only [gName, List.set_cons_succ, List.set_cons_zero]
    -- counts
    refine ⟨_, rfl, p, 9, rfl, st7, by decide, by decide, fun c0 H8 a8 b8 B8 S8 => ⟨_, rfl, p, 5, rfl, S8, by decide, by decide, fun c1 H9 a9 b9 B9 S9 => ⟨by show 2 ≤ sizeLine; decide, fun lc hlc => ?_⟩⟩⟩
    dsimp only [gName, List.set_cons_succ, List.set_cons_zero]
    obtain ⟨n0, rfl⟩ : ∃ n : Nat, c0 = (n : Int) := ⟨c0.toNat, by omega⟩
    obtain ⟨n1, rfl⟩ : ∃ n : Nat, c1 = (n : Int) := ⟨c1.toNat, by omega⟩
    have B79 := B8.trans B9
    have T10 : Same H9 (upd H9 lc (.lst [.int (n0 : Nat), .int (n1 : Nat)])) := Same.upd hlc
    have ec : (upd H9 lc (.lst [.int (n0 : Nat), .int (n1 : Nat)])) lc = some (.lst [.int (n0 : Nat), .int (n1 : Nat)]) := upd_same
    have st10 := S9.same T10
    have e10 := T10 _ _ (B79 _ _ ndp e7)
    have h1 := T10 _ _ (B79 _ _ p1 h1)
    have h2 := T10 _ _ (B79 _ _ p2 h2)
    have M10 := (But.same hp M7 B79).trans T10
    have nlc : lc ≠ p := st_free S9 hlc
    generalize upd H9 lc (.lst [.int (n0 : Nat), .int (n1 : Nat)]) = H10 at T10 ec st10 e10 h1 h2 M10
    -- pool and makings
    refine ⟨_, rfl, .inr (.inr (.inl ⟨rfl, .inl ⟨_, e10⟩⟩)), fun d2 hd2 => ?_⟩
    have nd : dm ≠ d2 := ne_of_none e10 hd2
    have nd2p : d2 ≠ p := st_free st10 hd2
    have z2 : H d2 = none := M10.free hd2
    have T11 : Same H10 (upd H10 d2 (.dK [])) := Same.upd hd2
    have e11 : (upd H10 d2 (.dK [])) d2 = some (.dK []) := upd_same
    have st11 := st10.same T11
    have M11 := M10.trans T11
    generalize upd H10 d2 (.dK []) = H11 at T11 e11 st11 M11
    refine ⟨_, rfl, p, 12, rfl, st11, by decide, by decide, fun pl l6 H12 n6 p6 B12 S12 h6 pll pnd pnm => ⟨Nat.zero_le _, fun l3 hl3 => ?_⟩⟩
    have T13 : Same H12 (upd H12 l3 (.lst [])) := Same.upd hl3
    have h3 : (upd H12 l3 (.lst [])) l3 = some (.lst (([] : List Addr).map V.ref)) := upd_same
    have M13 := (But.same hp M11 B12).trans T13
    have e13 := T13 _ _ (B12 _ _ nd2p e11)
    have h6 := T13 _ _ h6
    have ed13 := T13 _ _ (B12 _ _ ndp (T11 _ _ e10))
    have h1 := T13 _ _ (B12 _ _ p1 (T11 _ _ h1))
    have h2 := T13 _ _ (B12 _ _ p2 (T11 _ _ h2))
    have ec := T13 _ _ (B12 _ _ nlc (T11 _ _ ec))
    generalize upd H12 l3 (.lst []) = H13 at h3 M13 e13 h6 ed13 h1 h2 ec
    refine ⟨e13, lwp l6 l3, rfl, by show 2 ≤ 15; decide, ?_⟩
    rw [show mergeK [] (lwp l6 l3) = lwp l6 l3 from rfl]
    refine ⟨dm, d2, lw2 l1 l2, lwp l6 l3, rfl, rfl, (upd_ne nd).trans ed13, upd_same, nd, by show 2 + 2 ≤ sizeLine; decide, ?_⟩
    rw [show mergeK (lw2 l1 l2) (lwp l6 l3) = lw4 l1 l2 l6 l3 from rfl]
    have M14 : Same H (upd (upd H13 d2 (.dK (lwp l6 l3))) dm (.dK (lw4 l1 l2 l6 l3))) := fun q o e => (upd_ne (ne_of_none e zd)).trans ((upd_ne (ne_of_none e z2)).trans (M13 _ _ e))
    have hd : (upd (upd H13 d2 (.dK (lwp l6 l3))) dm (.dK (lw4 l1 l2 l6 l3))) dm = some (.dK (lw4 l1 l2 l6 l3)) := upd_same
    have kl : ∀ {a : Addr} {xs : List V}, H13 a = some (.lst xs) → (upd (upd H13 d2 (.dK (lwp l6 l3))) dm (.dK (lw4 l1 l2 l6 l3))) a = some (.lst xs) := fun {a xs} e => (upd_ne (ne_of e ed13 (by intro z; cases z))).trans ((upd_ne (ne_of e e13 (by intro z; cases z))).trans e)
    have h1 := kl h1
    have h2 := kl h2
    have h3 := kl h3
    have h6 := kl h6
    have ec := kl ec
    clear kl
    generalize upd (upd H13 d2 (.dK (lwp l6 l3))) dm (.dK (lw4 l1 l2 l6 l3)) = H14 at M14 hd h1 h2 h3 h6 ec
    have k1 : valV (lw4 l1 l2 l6 l3) (kS "sorts") = some (.ref l1) := by rfl
    have k2 : valV (lw4 l1 l2 l6 l3) (kS "words") = some (.ref l2) := by rfl
    have k6 : valV (lw4 l1 l2 l6 l3) (kS "pool") = some (.ref l6) := by rfl
    clear T10 T11 T13 e7 e10 e11 e13 ed13 st7 st10 st11 B8 B9 B79 B12 S8 S9 S12 M7 M10 M11 M13 hd2 hl3 hlc n6 p6 p1 p2
    -- what is drawn
    have sl' : 1 ≤ ss.length ∧ ss.length ≤ 4 := by omega
    have wl' : 1 ≤ ws.length ∧ ws.length ≤ 3 := by omega
    have pl' : pl.length = 12 := by omega
    have ns_ : ∀ z ∈ ss, isNm z = true := fun z hz => nm_is (snm z hz).1 (Nat.le_trans (snm z hz).2 (by decide))
    have nw_ : ∀ z ∈ ws, isNm z = true := fun z hz => nm_is (wnm z hz).1 (Nat.le_trans (wnm z hz).2 (by decide))
    have np_ : ∀ z ∈ pl, isNm z = true := fun z hz => nm_is (pnm z hz).1 (Nat.le_trans (pnm z hz).2 (by decide))
    clear sl wl pll snm wnm pnm
    obtain ⟨s0, es0⟩ : ∃ s0, ss[0]? = some s0 := ⟨_, List.getElem?_eq_getElem (by omega)⟩
    obtain ⟨w0, ew0⟩ : ∃ w0, ws[0]? = some w0 := ⟨_, List.getElem?_eq_getElem (by omega)⟩
    obtain ⟨wr, w1, ew1⟩ : ∃ wr w1, ws = wr ++ [w1] := by
      rcases List.eq_nil_or_concat ws with e | ⟨r, v, e⟩
      · rw [e] at wl'
        exact absurd wl'.1 (by decide)
      · exact ⟨r, v, by rw [e, List.concat_eq_append]⟩
    have at1 : atI (ws.map V.str) (-1) = some (.str w1) := by
      rw [ew1, List.map_append]
      exact atI_last _ _
    have ms0 := List.mem_of_getElem? es0
    have mw0 := List.mem_of_getElem? ew0
    have mw1 : w1 ∈ ws := by rw [ew1]; simp
    -- the parts
    refine ⟨_, rfl, dm, _, rfl, dget_of hd k6, l6, rfl, ⟨_, SqL.of h6⟩, fun D hD => ?_⟩
    refine lc_list (K := K) (a := l6) (xs := pl.map V.str) (fun i H' => Same H14 H' ∧ ∃ ts : List Addr, H' D = some (.lst (ts.map V.ref)) ∧ AllAt (PtN D H') ts ((pl.take i).map (pO s0 w0 w1))) ⟨Same.upd hD, [], upd_same, True.intro⟩ (fun i H' _ q => SqL.of (q.1 _ _ h6)) ?_ ?_
    · rintro i y H' hi ⟨SA, ts, hDt, al⟩
      obtain ⟨z, hz, rfl⟩ := map_str_get hi
      have il : i < pl.length := (List.getElem?_eq_some_iff.mp hz).1
      have ln := al.len
      rw [List.length_map, List.length_take] at ln
      refine ⟨rfl, _, rfl, _, rfl, dm, _, rfl, dget_of (SA _ _ hd) k1, ?_⟩
      dsimp only [tC]
      refine rdList (SA _ _ h1) (j := 0) rfl (by rw [List.getElem?_map, es0]; rfl) ⟨by show 2 ≤ sizeLine; decide, fun g1 hg1 => ?_⟩
      have Ta : Same H' (upd H' g1 (.lst [.non, .str s0])) := Same.upd hg1
      have ea : (upd H' g1 (.lst [.non, .str s0])) g1 = some (.lst [sortV none, sortV (some s0)]) := upd_same
      have ng1 : g1 ≠ D := (ne_of_none hDt hg1).symm
      generalize upd H' g1 (.lst [.non, .str s0]) = Ga at Ta ea
      have SB := SA.trans Ta
      refine ⟨_, rfl, dm, _, rfl, dget_of (SB _ _ hd) k2, ?_⟩
      dsimp only [tC]
      refine rdList (SB _ _ h2) (j := 0) rfl (by rw [List.getElem?_map, ew0]; rfl) ?_
      refine ⟨_, rfl, dm, _, rfl, dget_of (SB _ _ hd) k2, 1, rfl, ?_⟩
      refine ⟨l2, _, -1, .str w1, rfl, rfl, SqL.of (SB _ _ h2), at1, ?_⟩
      refine ⟨by show 2 ≤ sizeLine; decide, fun g2 hg2 => ⟨by show 3 ≤ sizeLine; decide, fun t ht => ?_⟩⟩
      have hDa := Ta _ _ hDt
      have ng2 : g2 ≠ D := (ne_of_none hDa hg2).symm
      have Tb : Same Ga (upd (upd Ga g2 (.lst [.str w0, .str w1])) t (.tup [.str z, .ref g1, .ref g2])) := (Same.upd hg2).trans (Same.upd ht)
      have eb : (upd (upd Ga g2 (.lst [.str w0, .str w1])) t (.tup [.str z, .ref g1, .ref g2])) g2 = some (.lst [.str w0, .str w1]) := (Same.upd ht) _ _ upd_same
      have et : (upd (upd Ga g2 (.lst [.str w0, .str w1])) t (.tup [.str z, .ref g1, .ref g2])) t = some (.tup [.str z, .ref g1, .ref g2]) := upd_same
      generalize upd (upd Ga g2 (.lst [.str w0, .str w1])) t (.tup [.str z, .ref g1, .ref g2]) = Gb at Tb eb et
      have hDb := Tb _ _ hDa
      have Tab := Ta.trans Tb
      refine ⟨_, hDb, ?_, fun b o e => ?_, ts ++ [t], ?_, ?_⟩
      · rw [List.length_map]
        exact Nat.lt_of_le_of_lt (show _ ≤ 1000 by omega) (by decide)
      · rw [upd_ne (ne_of_none e hD)]
        exact Tab _ _ (SA _ _ e)
      · rw [upd_same, List.map_append]
        rfl
      · rw [List.take_add_one, hz, List.map_append]
        refine AllAt.put1 (al.imp fun _ _ q => (q.kp (Same.kp Tab)).put hDb) ?_
        exact PtN.put hDb (x := pO s0 w0 w1 z) ⟨g1, g2, ng1, ng2, et, Tb _ _ ea, eb⟩
    rintro H15 ⟨SA, ts, hDt, al⟩
    rw [List.length_map, List.take_length] at al
    have tsl := al.len
    rw [List.length_map] at tsl
    dsimp only [gName, List.set_cons_succ, List.set_cons_zero]
    have M15 := M14.trans SA
    have hd := SA _ _ hd
    have h1 := SA _ _ h1
    have h2 := SA _ _ h2
    have h3 := SA _ _ h3
    have h6 := SA _ _ h6
    have ec := SA _ _ ec
    have al : AllAt (PtAt H15) ts (pl.map (pO s0 w0 w1)) := al.imp fun _ _ q => q.at
    clear SA M14 at1
    -- rules and bars
    refine ⟨_, rfl, .inr (.inr (.inl ⟨rfl, .inl ⟨_, hd⟩⟩)), fun d3 hd3 => ?_⟩
    have nd3 : dm ≠ d3 := ne_of_none hd hd3
    have z3 : H d3 = none := M15.free hd3
    have T16 : Same H15 (upd H15 d3 (.dK [])) := Same.upd hd3
    have e16 : (upd H15 d3 (.dK [])) d3 = some (.dK []) := upd_same
    generalize upd H15 d3 (.dK []) = H16 at T16 e16
    refine ⟨_, rfl, _, rfl, ?_⟩
    dsimp only [tC]
    refine rdList (T16 _ _ ec) (j := 0) rfl rfl ⟨_, rfl, D, _, rfl, SqL.of (T16 _ _ hDt), fun l4 hl4 => ?_⟩
    rw [cut_head, ← List.map_take]
    have T17 : Same H16 (upd H16 l4 (.lst ((ts.take n0).map V.ref))) := Same.upd hl4
    have e17 : (upd H16 l4 (.lst ((ts.take n0).map V.ref))) l4 = some (.lst ((ts.take n0).map V.ref)) := upd_same
    generalize upd H16 l4 (.lst ((ts.take n0).map V.ref)) = H17 at T17 e17
    have T167 := T16.trans T17
    refine ⟨_, rfl, _, rfl, _, rfl, ?_⟩
    dsimp only [tC]
    refine rdList (T167 _ _ ec) (j := 1) rfl rfl ⟨_, _, rfl, rfl, _, rfl, D, _, rfl, SqL.of (T167 _ _ hDt), fun l5 hl5 => ?_⟩
    rw [cut_mid, ← List.map_drop, ← List.map_take]
    have T18 : Same H17 (upd H17 l5 (.lst (((ts.drop 2).take n1).map V.ref))) := Same.upd hl5
    have e18 : (upd H17 l5 (.lst (((ts.drop 2).take n1).map V.ref))) l5 = some (.lst (((ts.drop 2).take n1).map V.ref)) := upd_same
    generalize upd H17 l5 (.lst (((ts.drop 2).take n1).map V.ref)) = H18 at T18 e18
    have T1618 := T17.trans T18
    have T158 := T167.trans T18
    have e16 := T1618 _ _ e16
    refine ⟨e16, lwq l4 l5, rfl, by show 2 ≤ 15; decide, ?_⟩
    rw [show mergeK [] (lwq l4 l5) = lwq l4 l5 from rfl]
    have ed18 := T158 _ _ hd
    refine ⟨dm, d3, lw4 l1 l2 l6 l3, lwq l4 l5, rfl, rfl, (upd_ne nd3).trans ed18, upd_same, nd3, by show 4 + 2 ≤ sizeLine; decide, ?_⟩
    rw [show mergeK (lw4 l1 l2 l6 l3) (lwq l4 l5) = lw6 l1 l2 l6 l3 l4 l5 from rfl]
    have M19 : Same H (upd (upd H18 d3 (.dK (lwq l4 l5))) dm (.dK (lw6 l1 l2 l6 l3 l4 l5))) := fun q o e => (upd_ne (ne_of_none e zd)).trans ((upd_ne (ne_of_none e z3)).trans ((M15.trans T158) _ _ e))
    have hd : (upd (upd H18 d3 (.dK (lwq l4 l5))) dm (.dK (lw6 l1 l2 l6 l3 l4 l5))) dm = some (.dK (lw6 l1 l2 l6 l3 l4 l5)) := upd_same
    have kd : ∀ {a : Addr} {o : HO}, H18 a = some o → (∀ z, o ≠ .dK z) → (upd (upd H18 d3 (.dK (lwq l4 l5))) dm (.dK (lw6 l1 l2 l6 l3 l4 l5))) a = some o := fun {a o} e n => (upd_ne (ne_of e ed18 (n _))).trans ((upd_ne (ne_of e e16 (n _))).trans e)
    have nl : ∀ {xs : List V} (z : List (L2.Key × V)), HO.lst xs ≠ .dK z := fun {xs} z e => by cases e
    have nt : ∀ {xs : List V} (z : List (L2.Key × V)), HO.tup xs ≠ .dK z := fun {xs} z e => by cases e
    have h1 := kd (T158 _ _ h1) nl
    have h2 := kd (T158 _ _ h2) nl
    have h3 := kd (T158 _ _ h3) nl
    have h6 := kd (T158 _ _ h6) nl
    have h4 := kd (T18 _ _ e17) nl
    have h5 := kd e18 nl
    have al : AllAt (PtAt (upd (upd H18 d3 (.dK (lwq l4 l5))) dm (.dK (lw6 l1 l2 l6 l3 l4 l5)))) ts (pl.map (pO s0 w0 w1)) := al.imp fun _ _ ⟨g1, g2, p0, p1, p2⟩ => ⟨g1, g2, kd (T158 _ _ p0) nt, kd (T158 _ _ p1) nl, kd (T158 _ _ p2) nl⟩
    clear kd
    generalize upd (upd H18 d3 (.dK (lwq l4 l5))) dm (.dK (lw6 l1 l2 l6 l3 l4 l5)) = H19 at M19 hd h1 h2 h3 h6 h4 h5 al
    clear T16 T17 T18 T167 T1618 T158 e16 e17 e18 ed18 hd3 hl4 hl5 M15 hDt ec k1 k2 k6
    have M : Mdl H19 dm l1 l2 l3 l4 l5 l6 (lw6 l1 l2 l6 l3 l4 l5) [] (ts.take n0) ((ts.drop 2).take n1) ss ws pl [] ((pl.map (pO s0 w0 w1)).take n0) (((pl.map (pO s0 w0 w1)).drop 2).take n1) := ⟨hd, by rfl, by rfl, by rfl, by rfl, by rfl, by rfl, h1, h2, h3, True.intro, h4, AllAt.takeA n0 al, h5, AllAt.takeA n1 (AllAt.dropA 2 al), h6⟩
    have hr_ : ∀ x ∈ (pl.map (pO s0 w0 w1)).take n0, ∃ z, z ∈ pl ∧ x = pO s0 w0 w1 z := fun x hx => by
      obtain ⟨z, hz, rfl⟩ := List.mem_map.mp (List.mem_of_mem_take hx)
      exact ⟨z, hz, rfl⟩
    have hb_ : ∀ x ∈ ((pl.map (pO s0 w0 w1)).drop 2).take n1, ∃ z, z ∈ pl ∧ x = pO s0 w0 w1 z := fun x hx => by
      obtain ⟨z, hz, rfl⟩ := List.mem_map.mp (List.mem_of_mem_drop (List.mem_of_mem_take hx))
      exact ⟨z, hz, rfl⟩
    have nmm : (pl.map (pO s0 w0 w1)).map (·.nm) = pl := by
      rw [List.map_map]
      exact List.map_id'' (fun _ => rfl) pl
    have dr : (((pl.map (pO s0 w0 w1)).take n0).map (·.nm)).Nodup := by
      rw [List.map_take, nmm]
      exact List.Nodup.sublist (List.take_sublist _ _) pnd
    have db : ((((pl.map (pO s0 w0 w1)).drop 2).take n1).map (·.nm)).Nodup := by
      rw [List.map_take, List.map_drop, nmm]
      exact List.Nodup.sublist ((List.take_sublist _ _).trans (List.drop_sublist _ _)) pnd
    have r8 : ((pl.map (pO s0 w0 w1)).take n0).length ≤ 8 := by rw [List.length_take]; omega
    have b4 : (((pl.map (pO s0 w0 w1)).drop 2).take n1).length ≤ 4 := by rw [List.length_take]; omega
    have g0 : Good ss ws [] ((pl.map (pO s0 w0 w1)).take n0) (((pl.map (pO s0 w0 w1)).drop 2).take n1) := good0 (pl := pl) sl'.1 sl'.2 wl'.1 wl'.2 ns_ nw_ snd wnd dr db ms0 mw0 mw1 (fun x hx => let ⟨z, _, e⟩ := hr_ x hx; ⟨z, e⟩) (fun x hx => let ⟨z, _, e⟩ := hb_ x hx; ⟨z, e⟩) r8 b4
    have prt : ∀ z ∈ pl, PaRt (pO s0 w0 w1 z) := fun z hz => pt_rt ns_ nw_ np_ ⟨hz, (fun y e => by cases e), (fun y e => by cases e; exact .inl ms0), .inl mw0, .inl mw1⟩
    have ok : LOk ss ws pl [] ((pl.map (pO s0 w0 w1)).take n0) (((pl.map (pO s0 w0 w1)).drop 2).take n1) := ⟨⟨sl'.1, sl'.2, wl'.1, wl'.2, by omega, by omega⟩, ns_, nw_, np_, Nat.zero_le _, fun x hx => (List.not_mem_nil hx).elim, fun x hx => by
      obtain ⟨z, hz, rfl⟩ := hr_ x hx
      exact prt z hz, fun x hx => by
      obtain ⟨z, hz, rfl⟩ := hb_ x hx
      exact prt z hz, g0⟩
    clear hr_ hb_ nmm dr db g0 prt al h1 h2 h3 h4 h5 h6 hd snd wnd pnd ns_ nw_ np_ ms0 mw0 mw1
    generalize (pl.map (pO s0 w0 w1)).take n0 = rs at M ok r8
    generalize ((pl.map (pO s0 w0 w1)).drop 2).take n1 = ps at M ok b4
    generalize ts.take n0 = us at M
    generalize (ts.drop 2).take n1 = vs at M
    -- the rules
    have ul := M.a4.len
    have vl := M.a5.len
    refine ⟨_, rfl, dm, _, rfl, dget_of M.hm M.k4, l4, rfl, ⟨_, SqL.of M.h4⟩, fun D2 hD2 => ?_⟩
    refine lc_list (K := K) (a := l4) (xs := us.map V.ref) (fun i H' => Same H19 H' ∧ ∃ os : List Addr, H' D2 = some (.lst (os.map V.ref)) ∧ AllAt (RlAt K RB H') os ((rs.take i).map ruD)) ⟨Same.upd hD2, [], upd_same, True.intro⟩ (fun i H' _ q => SqL.of (q.1 _ _ M.h4)) ?_ ?_
    · rintro i y H' hi ⟨SA, os, hd, am⟩
      obtain ⟨t, z, rfl, hz, g⟩ := M.a4.get hi
      have al := am.len
      rw [List.length_map, List.length_take] at al
      have il : i < rs.length := (List.getElem?_eq_some_iff.mp hz).1
      refine ⟨rfl, _, rfl, t, z, rfl, g.kp (Same.kp SA), ok.rk z (List.mem_of_getElem? hz), fun o H2 no S2 at2 => ?_⟩
      have hd2 := S2 _ _ hd
      refine ⟨_, hd2, ?_, fun b u e => ?_, os ++ [o], ?_, ?_⟩
      · rw [List.length_map]
        exact Nat.lt_of_le_of_lt (show _ ≤ 1000 by omega) (by decide)
      · rw [upd_ne (ne_of_none e hD2)]
        exact S2 _ _ (SA _ _ e)
      · rw [upd_same, List.map_append]
        rfl
      · rw [List.take_add_one, hz, List.map_append]
        exact AllAt.put1 (am.imp fun _ _ q => (q.same S2).put hd2) (RlAt.put hd2 at2)
    rintro H20 ⟨SA, os, hos, am⟩
    rw [List.length_map, ul, List.take_length] at am
    dsimp only [gName, List.set_cons_succ, List.set_cons_zero]
    have M20 := M19.trans SA
    have Ma := M.kp (Same.kp SA)
    clear SA
    -- the scheme
    refine ⟨_, rfl, dm, _, rfl, dget_of Ma.hm Ma.k1, l1, _, rfl, .inl (SqL.of Ma.h1), fun q1 hq1 => ?_⟩
    have T21 : Same H20 (upd H20 q1 (.lst (ss.map V.str))) := Same.upd hq1
    have e21 : (upd H20 q1 (.lst (ss.map V.str))) q1 = some (.lst (ss.map V.str)) := upd_same
    generalize upd H20 q1 (.lst (ss.map V.str)) = H21 at T21 e21
    have Mb := Ma.kp (Same.kp T21)
    refine ⟨_, rfl, dm, _, rfl, dget_of Mb.hm Mb.k2, l2, _, rfl, .inl (SqL.of Mb.h2), fun q2 hq2 => ?_⟩
    have T22 : Same H21 (upd H21 q2 (.lst (ws.map V.str))) := Same.upd hq2
    have e22 : (upd H21 q2 (.lst (ws.map V.str))) q2 = some (.lst (ws.map V.str)) := upd_same
    generalize upd H21 q2 (.lst (ws.map V.str)) = H22 at T22 e22
    refine ⟨Nat.zero_le _, fun q3 hq3 => ?_⟩
    have T23 : Same H22 (upd H22 q3 (.lst [])) := Same.upd hq3
    have e23 : (upd H22 q3 (.lst [])) q3 = some (.lst (([] : List Addr).map V.ref)) := upd_same
    generalize upd H22 q3 (.lst []) = H23 at T23 e23
    have T203 := T21.trans (T22.trans T23)
    have Mc := Ma.kp (Same.kp T203)
    have e21 := (T22.trans T23) _ _ e21
    have e22 := T23 _ _ e22
    refine ⟨_, rfl, _, rfl, dm, _, rfl, dget_of Mc.hm Mc.k5, l5, rfl, ⟨_, SqL.of Mc.h5⟩, fun D3 hD3 => ?_⟩
    refine lc_list (K := K) (a := l5) (xs := vs.map V.ref) (fun i H' => Same H23 H' ∧ ∃ bs : List Addr, H' D3 = some (.lst (bs.map V.ref)) ∧ AllAt (BrAt K BB H') bs ((ps.take i).map baD)) ⟨Same.upd hD3, [], upd_same, True.intro⟩ (fun i H' _ q => SqL.of (q.1 _ _ Mc.h5)) ?_ ?_
    · rintro i y H' hi ⟨SA, bs, hd, am⟩
      obtain ⟨t, z, rfl, hz, g⟩ := Mc.a5.get hi
      have al := am.len
      rw [List.length_map, List.length_take] at al
      have il : i < ps.length := (List.getElem?_eq_some_iff.mp hz).1
      refine ⟨rfl, _, rfl, t, z, rfl, g.kp (Same.kp SA), ok.bk z (List.mem_of_getElem? hz), fun o H2 no S2 at2 => ?_⟩
      have hd2 := S2 _ _ hd
      refine ⟨_, hd2, ?_, fun b u e => ?_, bs ++ [o], ?_, ?_⟩
      · rw [List.length_map]
        exact Nat.lt_of_le_of_lt (show _ ≤ 1000 by omega) (by decide)
      · rw [upd_ne (ne_of_none e hD3)]
        exact S2 _ _ (SA _ _ e)
      · rw [upd_same, List.map_append]
        rfl
      · rw [List.take_add_one, hz, List.map_append]
        exact AllAt.put1 (am.imp fun _ _ q => (q.same S2).put hd2) (BrAt.put hd2 at2)
    rintro H24 ⟨SA, bs, hbs, bm⟩
    rw [List.length_map, vl, List.take_length] at bm
    have T204 := T203.trans SA
    refine sch_new2 (ms := []) (rs := rs.map ruD) (ps := ps.map baD) (as := []) (bs := os) (cs := bs) (SqL.of (SA _ _ e21)) (SqL.of (SA _ _ e22)) (.of (SA _ _ e23)) (.of (T204 _ _ hos)) (.of hbs) ⟨True.intro, am.imp fun _ _ q => q.same T204, bm⟩ (sch_in ok.s20 ok.w20 (Nat.zero_le _) ok.r20 ok.b20 ok.ns ok.nw (fun x hx => (List.not_mem_nil hx).elim)) ?_
    rw [show schDue ss ws [] (rs.map ruD) (ps.map baD) = none from ok.g]
    intro H25 S25 x nx sg
    dsimp only [gName, List.set_cons_succ, List.set_cons_zero]
    have M25 := M20.trans (T204.trans S25)
    have li0 : LI K S MB RB BB ss ws pl 0 dm x H25 := ⟨l1, l2, l3, l4, l5, l6, _, [], us, vs, [], os, bs, [], rs, ps, Ma.kp (Same.kp (T204.trans S25)), sg, ⟨True.intro, am.imp fun _ _ q => q.same (T204.trans S25), bm.imp fun _ _ q => q.same S25⟩, ok, Nat.le_refl _⟩
    clear ok sg Mb Mc Ma M am bm hos hbs e21 e22 e23 T21 T22 T23 T203 SA T204 hD2 hD3 r8 b4 ul vl
    -- the changes
    have hA25 := M25.seq hA
    refine ⟨_, rfl, _, rfl, _, rfl, a, _, rfl, hA25, fun l hl => ?_⟩
    have T26 : Same H25 (upd H25 l (.lst (cutV (ns.map V.int) (some 1) (some 31)))) := Same.upd hl
    have e26 : (upd H25 l (.lst (cutV (ns.map V.int) (some 1) (some 31)))) l = some (.lst (cutV (ns.map V.int) (some 1) (some 31))) := upd_same
    obtain ⟨cells, c30⟩ := cut_cells ns
    generalize cutV (ns.map V.int) (some 1) (some 31) = ys at T26 e26 cells c30
    generalize upd H25 l (.lst ys) = H26 at T26 e26
    have li1 : LI K S MB RB BB ss ws pl 0 dm x H26 := li0.same T26
    clear li0 hl T26
    refine ⟨l, rfl, ⟨_, SqL.of e26⟩, for_list (K := K) (a := l) (xs := ys) (fun i σ H' => ∃ (m x : Addr) (u9 u10 u11 u12 u14 : Option V), σ = [some (.ref a), some (.ref p), some (.ref m), some (.ref lc), none, some (.ref D), none, some (.ref D2), some (.ref x), u9, u10, u11, u12, none, u14] ∧ Same H26 H' ∧ LI K S MB RB BB ss ws pl i m x H') ⟨dm, x, none, none, none, none, none, rfl, Same.refl _, li1⟩ (fun i σ H' _ ⟨_, _, _, _, _, _, _, _, SS, _⟩ => SqL.of (SS _ _ e26)) ?_ ?_⟩
    · rintro i y σ H27 hi ⟨m, x, u9, u10, u11, u12, u14, rfl, SS, li⟩
      obtain ⟨c0, rfl⟩ := cells y (List.mem_of_getElem? hi)
      have il : i < ys.length := (List.getElem?_eq_some_iff.mp hi).1
      obtain ⟨l1, l2, l3, l4, l5, l6, kvs, ts, us, vs, as, bs, cs, ms, rs, ps, M, sg, pa, ok, ml⟩ := li
      dsimp only [gName, List.set_cons_succ, List.set_cons_zero]
      refine ⟨_, rfl, c0, rfl, fun p2 H28 np2 S28 st28 => ⟨_, rfl, p2, m, l1, l2, l3, l4, l5, l6, kvs, ts, us, vs, ss, ws, pl, ms, rs, ps, rfl, st28, M.kp (Same.kp S28), ok.sz, ok.wo, fun t pt dv c H29 ck B29 S29 ht cp vl => ?_⟩⟩
      dsimp only [gName, List.set_cons_succ, List.set_cons_zero]
      have S279 : Same H27 H29 := But.same np2 S28 B29
      have SS29 := SS.trans S279
      have M29 := M.kp (Same.kp S279)
      have sg29 := sg.same S279
      have pa29 := pa.same S279
      refine ⟨_, rfl, ?_⟩
      dsimp only [gName, List.set_cons_succ, List.set_cons_zero]
      obtain ⟨o, ho⟩ : ∃ o, chDue ss ws ms rs ps c = o := ⟨_, rfl⟩
      rw [ho] at vl
      have rfs : ∀ r, o = some r → RfS r := fun r e => ch_ok ok ck (ho.trans e)
      -- what becomes of it
      refine cut1 (fun σ' H' => ∃ (fv : V) (y : Addr) (as' bs' cs' : List Addr), σ' = [some (.ref a), some (.ref p), some (.ref m), some (.ref lc), none, some (.ref D), none, some (.ref D2), some (.ref x), some (.int c0), some (.ref t), some fv, some (.ref y), none, u14] ∧ VlAt o fv H' ∧ SchG S H' y ss ws as' bs' cs' ∧ Parts K MB RB BB H' as' bs' cs' (chGo o ms rs ps c).1 ((chGo o ms rs ps c).2.1.map ruD) ((chGo o ms rs ps c).2.2.map baD) ∧ Same H29 H') ?_ ?_
      rotate_left
      · intro R fin
        refine ⟨_, rfl, _, rfl, t, _, 0, _, rfl, rfl, SqT.of ht, atI_nat (j := 0) rfl, _, rfl, t, _, 1, _, rfl, rfl, SqT.of ht, atI_nat (j := 1) rfl, x, pt, c, ss, ws, pl, as, bs, cs, ms, rs, ps, rfl, sg29, pa29, cp, ok, ck, ?_⟩
        rw [ho]
        cases o with
        | none =>
          intro H30 S30 y as' bs' cs' sgy pay
          exact fin _ _ ⟨.non, y, as', bs', cs', rfl, rfl, sgy, pay, S30⟩
        | some r =>
          intro dZ H30 n30 S30 hx30
          obtain ⟨_, nn⟩ := rfs r rfl
          refine ⟨true, (TE.er _ (ix_lt r) (ix_ne r nn)).te, fun _ a0 _ => ?_, fun q => Bool.noConfusion q⟩
          refine ⟨_, rfl, rfl, dZ, r, rfl, rfl, hx30, nn, fun t9 H31 S31 t90 e31 => ?_⟩
          have SZ := S30.trans S31
          exact fin _ _ ⟨.ref t9, x, as, bs, cs, rfl, ⟨t9, rfl, e31⟩, sg29.same SZ, pa29.same SZ, SZ⟩
      rintro σ' H30 ⟨fv, y, as', bs', cs', rfl, fvl, sgy, pay, S30⟩
      have sh := ans_sh fun r e => (rfs r e).1
      have M30 := M29.kp (Same.kp S30)
      have ht30 := S30 _ _ ht
      refine ⟨_, rfl, _, rfl, t, _, 2, _, rfl, rfl, SqT.of ht30, atI_nat (j := 2) rfl, ansD o, ansD o, an_dp fvl, an_dp (vl.same S30), sh, sh, _, rfl, ?_⟩
      rw [eqv_self sh]
      refine iteF ?_
      refine ⟨_, rfl, _, rfl, x, as, bs, cs, m, l1, l2, l3, l4, l5, l6, kvs, ts, us, vs, ss, ws, pl, ms, rs, ps, rfl, sg29.same S30, pa29.same S30, M30, ok, fun H31 S31 => ⟨_, rfl, iteF ?_⟩⟩
      dsimp only [tNext]
      have M31 := M30.kp (Same.kp S31)
      have ht31 := S31 _ _ ht30
      have S291 := S30.trans S31
      refine ⟨_, rfl, _, rfl, t, pt, dv, c, o, m, l1, l2, l3, l4, l5, l6, kvs, ts, us, vs, ss, ws, pl, ms, rs, ps, rfl, M31, ht31, cp.kp (Same.kp S291), vl.same S291, Nat.le_trans ok.ml (by decide), Nat.le_trans ok.r20 (by decide), Nat.le_trans ok.b20 (by decide), (fun y hy => (ok.mt y hy).ok), ch_tx ok ck, fun m' n3 n4 n5 kvs' ts' us' vs'' H32 S32 M32 => ?_⟩
      dsimp only [gName, List.set_cons_succ, List.set_cons_zero]
      obtain ⟨ok', ml'⟩ := ok.go (by omega) ck ho
      have S302 := S31.trans S32
      refine ⟨_, rfl, _, rfl, y, as', bs', cs', m', l1, l2, n3, n4, n5, l6, kvs', ts', us', vs'', ss, ws, pl, _, _, _, rfl, sgy.same S302, pay.same S302, M32, ok', fun H33 S33 => ⟨_, rfl, iteF ?_⟩⟩
      dsimp only [tNext]
      refine ⟨_, rfl, ?_⟩
      dsimp only [gName, List.set_cons_succ, List.set_cons_zero]
      refine ⟨_, rfl, ?_⟩
      have S303 := S302.trans S33
      exact ⟨m', y, _, _, _, _, _, rfl, SS29.trans (S30.trans S303), l1, l2, n3, n4, n5, l6, kvs', ts', us', vs'', as', bs', cs', _, _, _, M32.kp (Same.kp S33), sgy.same S303, pay.same S303, ok', by omega⟩
    rintro σ H27 ⟨m, x, u9, u10, u11, u12, u14, rfl, SS, li⟩
    obtain ⟨l1, l2, l3, l4, l5, l6, kvs, ts, us, vs, as, bs, cs, ms, rs, ps, M, sg, pa, ok, ml⟩ := li
    exact ⟨_, rfl, _, rfl, x, as, bs, cs, m, l1, l2, l3, l4, l5, l6, kvs, ts, us, vs, ss, ws, pl, ms, rs, ps, rfl, sg, pa, M, ok, fun H' S' => kk H'⟩
end
end Wm
namespace Wm
open PySem L2 He ClX StX
theorem errB_ok {K : PySem.W.Frag} {mg : Str → Option Value} {x f : Str} {C fI : Addr} (h : errB K C fI f = true) (g : mg x = some (.ref C)) : ErrT K mg x f C fI ∧ XfC K C ∧ ExcC K C ∧ PySem.W.exmOne K (.ref C) (.ref C) = some true := by
  unfold errB at h
  obtain ⟨h1, h⟩ := ba h
  obtain ⟨h2, h⟩ := ba h
  obtain ⟨h3, h⟩ := ba h
  obtain ⟨h4, h⟩ := ba h
  obtain ⟨h5, h⟩ := ba h
  obtain ⟨h6, h⟩ := ba h
  obtain ⟨h7, h⟩ := ba h
  obtain ⟨h8, h⟩ := ba h
  obtain ⟨h9, h⟩ := ba h
  obtain ⟨h10, h⟩ := ba h
  obtain ⟨h11, h⟩ := ba h
  obtain ⟨h12, h⟩ := ba h
  obtain ⟨h13, h⟩ := ba h
  obtain ⟨h14, h⟩ := ba h
  obtain ⟨h15, h⟩ := ba h
  obtain ⟨h16, h17⟩ := ba h
  exact ⟨⟨⟨excB_ok h14, eqO_ok h1, of_decide_eq_true h2, of_decide_eq_true h3, h4⟩, g, eqO_ok h13, of_decide_eq_true h5, eqO_ok h6, eqO_ok h7⟩, ⟨eqO_ok h8, eqO_ok h9, of_decide_eq_true h2, h10⟩,
    ⟨eqO_ok h8, eqO_ok h9, of_decide_eq_true h2, h10, eqO_ok h11, eqO_ok h16, of_decide_eq_true h17, of_decide_eq_true h12⟩, of_decide_eq_true h15⟩
theorem insB_ok {K : PySem.W.Frag} {C : Addr} (h : insB K C = true) (c : Cls K C) : (∀ {H : Hp} {a d : Addr} {fs : List (Str × V)}, H a = some (.ins C d fs) → TyX K H (.ref a) (.ref C)) ∧ PySem.W.kitOne K (.ref C) (.ref C) = some true := by
  unfold insB at h
  obtain ⟨h1, h⟩ := ba h
  obtain ⟨h2, h⟩ := ba h
  obtain ⟨h3, h⟩ := ba h
  obtain ⟨h4, h5⟩ := ba h
  exact ⟨fun e => .base (.ins e c (eqO_ok h1) (eqO_ok h3) (of_decide_eq_true h4) (of_decide_eq_true h2)), of_decide_eq_true h5⟩
abbrev clsC (K : PySem.W.Frag) : Nat → Addr
  | 0 => ga K "BadCount"
  | 1 => ga K "NoName"
  | 2 => ga K "Twice"
  | 3 => ga K "NoSort"
  | 4 => ga K "Upward"
  | 5 => ga K "NoWord"
  | 6 => ga K "NoRule"
  | 7 => ga K "NoBar"
  | 8 => ga K "NoMaking"
  | _ => 0
theorem kitB_ok {K : PySem.W.Frag} {C : Nat → Addr} {Z W : Addr} {i : Nat} (h : kitB K Z (C 0) (C 2) (C 3) (C 4) (C 5) (C 6) (C 7) (C 8) W i = true) (xc : ExcC K Z) : ErK K C W Z i := by
  unfold kitB at h
  obtain ⟨h0, h⟩ := ba h
  obtain ⟨h1, h⟩ := ba h
  obtain ⟨h2, h⟩ := ba h
  obtain ⟨h3, h⟩ := ba h
  obtain ⟨h4, h⟩ := ba h
  obtain ⟨h5, h⟩ := ba h
  obtain ⟨h6, h⟩ := ba h
  obtain ⟨h7, h⟩ := ba h
  obtain ⟨h8, h⟩ := ba h
  exact ⟨of_decide_eq_true h0, xc, of_decide_eq_true h1, of_decide_eq_true h2, of_decide_eq_true h3, of_decide_eq_true h4, of_decide_eq_true h5, of_decide_eq_true h6, of_decide_eq_true h7, of_decide_eq_true h8, of_decide_eq_true h⟩
theorem facts {P : Program} {w : World} {K : PySem.W.Frag} {h : Heap} {mg : Str → Option Value} {fa : Addr} (X : K.In h) (G : h.Ns mainGlobals mg) (hfa : mg "law" = some (.ref fa)) (c : SaysM ck fnL K) :
    ∃ fd : FuncData, (∀ (s : Shared) (v : Value), BindsTo s fd ⟨[v], []⟩ [("_law_script", v)]) ∧ ∀ base : Heap, K.In base → base.Ns mainGlobals mg → FnOk P w K mg base CX0 10 fa fd ["_law_script"] (spLaw K) := by
  have q := c.says
  unfold ck at q
  obtain ⟨qf, q⟩ := ba q
  obtain ⟨qw, q⟩ := ba q
  obtain ⟨qe0, q⟩ := ba q
  obtain ⟨qe1, q⟩ := ba q
  obtain ⟨qe2, q⟩ := ba q
  obtain ⟨qe3, q⟩ := ba q
  obtain ⟨qe4, q⟩ := ba q
  obtain ⟨qe5, q⟩ := ba q
  obtain ⟨qe6, q⟩ := ba q
  obtain ⟨qe7, q⟩ := ba q
  obtain ⟨qe8, q⟩ := ba q
  obtain ⟨qk0, q⟩ := ba q
  obtain ⟨qk2, q⟩ := ba q
  obtain ⟨qk3, q⟩ := ba q
  obtain ⟨qk4, q⟩ := ba q
  obtain ⟨qk5, q⟩ := ba q
  obtain ⟨qk6, q⟩ := ba q
  obtain ⟨qk7, q⟩ := ba q
  obtain ⟨qk8, q⟩ := ba q
  obtain ⟨qn, q⟩ := ba q
  obtain ⟨qm, q⟩ := ba q
  obtain ⟨qm2, q⟩ := ba q
  obtain ⟨iM, q⟩ := ba q
  obtain ⟨iR, q⟩ := ba q
  obtain ⟨iB, q⟩ := ba q
  obtain ⟨fM, q⟩ := ba q
  obtain ⟨fR, q⟩ := ba q
  obtain ⟨fB, q⟩ := ba q
  obtain ⟨nM, q⟩ := ba q
  obtain ⟨nR, nB⟩ := ba q
  have ft : ∀ (i : Nat) {f : Fa}, factL[i]? = some f → f.ok K = true := fun i {f} e => List.all_eq_true.mp qf f (List.mem_of_getElem? e)
  have g_WhoError := glo_ok X G (ft 0 (f := .glo "WhoError") rfl)
  have g_BadCount := glo_ok X G (ft 1 (f := .glo "BadCount") rfl)
  have g_NoName := glo_ok X G (ft 2 (f := .glo "NoName") rfl)
  have g_Twice := glo_ok X G (ft 3 (f := .glo "Twice") rfl)
  have g_NoSort := glo_ok X G (ft 4 (f := .glo "NoSort") rfl)
  have g_Upward := glo_ok X G (ft 5 (f := .glo "Upward") rfl)
  have g_NoWord := glo_ok X G (ft 6 (f := .glo "NoWord") rfl)
  have g_NoRule := glo_ok X G (ft 7 (f := .glo "NoRule") rfl)
  have g_NoBar := glo_ok X G (ft 8 (f := .glo "NoBar") rfl)
  have g_NoMaking := glo_ok X G (ft 9 (f := .glo "NoMaking") rfl)
  have g_is_name := glo_ok X G (ft 10 (f := .glo "is_name") rfl)
  obtain ⟨fd_is_name, Fk_is_name⟩ := c.def_ 0 (d := d_is_name) rfl
  have Fk_is_name : FunD K "is_name" "is_name" (defArgs sName) (defBody sName) (defScope sName) [] [] (ga K "is_name") fd_is_name := Fk_is_name
  have F_is_name : Fun K "is_name" "is_name" sName (ga K "is_name") fd_is_name := fun_of Fk_is_name
  have D_is_name : Dn K mg "is_name" sName ["text"] (ga K "is_name") fd_is_name := ⟨F_is_name, g_is_name, F_is_name.binds (ps := ["text"]) fun _ _ _ _ _ _ us hl => match us, hl with | [_], _ => rfl⟩
  have g_refuse_no_name := glo_ok X G (ft 11 (f := .glo "refuse_no_name") rfl)
  obtain ⟨fd_refuse_no_name, Fk_refuse_no_name⟩ := c.def_ 1 (d := d_refuse_no_name) rfl
  have Fk_refuse_no_name : FunD K "refuse_no_name" "refuse_no_name" (defArgs sRN) (defBody sRN) (defScope sRN) [] [] (ga K "refuse_no_name") fd_refuse_no_name := Fk_refuse_no_name
  have F_refuse_no_name : Fun K "refuse_no_name" "refuse_no_name" sRN (ga K "refuse_no_name") fd_refuse_no_name := fun_of Fk_refuse_no_name
  have D_refuse_no_name : Dn K mg "refuse_no_name" sRN ["texts"] (ga K "refuse_no_name") fd_refuse_no_name := ⟨F_refuse_no_name, g_refuse_no_name, F_refuse_no_name.binds (ps := ["texts"]) fun _ _ _ _ _ _ us hl => match us, hl with | [_], _ => rfl⟩
  have g_first_twice := glo_ok X G (ft 12 (f := .glo "first_twice") rfl)
  obtain ⟨fd_first_twice, Fk_first_twice⟩ := c.def_ 2 (d := d_first_twice) rfl
  have Fk_first_twice : FunD K "first_twice" "first_twice" (defArgs sFT) (defBody sFT) (defScope sFT) [] [] (ga K "first_twice") fd_first_twice := Fk_first_twice
  have F_first_twice : Fun K "first_twice" "first_twice" sFT (ga K "first_twice") fd_first_twice := fun_of Fk_first_twice
  have D_first_twice : Dn K mg "first_twice" sFT ["row"] (ga K "first_twice") fd_first_twice := ⟨F_first_twice, g_first_twice, F_first_twice.binds (ps := ["row"]) fun _ _ _ _ _ _ us hl => match us, hl with | [_], _ => rfl⟩
  have g_refuse_twice := glo_ok X G (ft 13 (f := .glo "refuse_twice") rfl)
  obtain ⟨fd_refuse_twice, Fk_refuse_twice⟩ := c.def_ 3 (d := d_refuse_twice) rfl
  have Fk_refuse_twice : FunD K "refuse_twice" "refuse_twice" (defArgs sRT) (defBody sRT) (defScope sRT) [] [] (ga K "refuse_twice") fd_refuse_twice := Fk_refuse_twice
  have F_refuse_twice : Fun K "refuse_twice" "refuse_twice" sRT (ga K "refuse_twice") fd_refuse_twice := fun_of Fk_refuse_twice
  have D_refuse_twice : Dn K mg "refuse_twice" sRT ["names"] (ga K "refuse_twice") fd_refuse_twice := ⟨F_refuse_twice, g_refuse_twice, F_refuse_twice.binds (ps := ["names"]) fun _ _ _ _ _ _ us hl => match us, hl with | [_], _ => rfl⟩
  have g_refuse_count := glo_ok X G (ft 14 (f := .glo "refuse_count") rfl)
  obtain ⟨fd_refuse_count, Fk_refuse_count⟩ := c.def_ 4 (d := d_refuse_count) rfl
  have Fk_refuse_count : FunD K "refuse_count" "refuse_count" (defArgs sRC) (defBody sRC) (defScope sRC) [] [] (ga K "refuse_count") fd_refuse_count := Fk_refuse_count
  have F_refuse_count : Fun K "refuse_count" "refuse_count" sRC (ga K "refuse_count") fd_refuse_count := fun_of Fk_refuse_count
  have D_refuse_count : Dn K mg "refuse_count" sRC ["what", "count", "least", "most"] (ga K "refuse_count") fd_refuse_count := ⟨F_refuse_count, g_refuse_count, F_refuse_count.binds (ps := ["what", "count", "least", "most"]) fun _ _ _ _ _ _ us hl => match us, hl with | [_, _, _, _], _ => rfl⟩
  have g_own_list := glo_ok X G (ft 15 (f := .glo "own_list") rfl)
  obtain ⟨fd_own_list, Fk_own_list⟩ := c.def_ 5 (d := d_own_list) rfl
  have Fk_own_list : FunD K "own_list" "own_list" (defArgs sOL) (defBody sOL) (defScope sOL) [] [] (ga K "own_list") fd_own_list := Fk_own_list
  have F_own_list : Fun K "own_list" "own_list" sOL (ga K "own_list") fd_own_list := fun_of Fk_own_list
  have D_own_list : Dn K mg "own_list" sOL ["rows"] (ga K "own_list") fd_own_list := ⟨F_own_list, g_own_list, F_own_list.binds (ps := ["rows"]) fun _ _ _ _ _ _ us hl => match us, hl with | [_], _ => rfl⟩
  have g_refuse_makings_twice := glo_ok X G (ft 16 (f := .glo "refuse_makings_twice") rfl)
  obtain ⟨fd_refuse_makings_twice, Fk_refuse_makings_twice⟩ := c.def_ 6 (d := d_refuse_makings_twice) rfl
  have Fk_refuse_makings_twice : FunD K "refuse_makings_twice" "refuse_makings_twice" (defArgs sRMT) (defBody sRMT) (defScope sRMT) [] [] (ga K "refuse_makings_twice") fd_refuse_makings_twice := Fk_refuse_makings_twice
  have F_refuse_makings_twice : Fun K "refuse_makings_twice" "refuse_makings_twice" sRMT (ga K "refuse_makings_twice") fd_refuse_makings_twice := fun_of Fk_refuse_makings_twice
  have D_refuse_makings_twice : Dn K mg "refuse_makings_twice" sRMT ["makings"] (ga K "refuse_makings_twice") fd_refuse_makings_twice := ⟨F_refuse_makings_twice, g_refuse_makings_twice, F_refuse_makings_twice.binds (ps := ["makings"]) fun _ _ _ _ _ _ us hl => match us, hl with | [_], _ => rfl⟩
  have g_refuse_no_sort := glo_ok X G (ft 17 (f := .glo "refuse_no_sort") rfl)
  obtain ⟨fd_refuse_no_sort, Fk_refuse_no_sort⟩ := c.def_ 7 (d := d_refuse_no_sort) rfl
  have Fk_refuse_no_sort : FunD K "refuse_no_sort" "refuse_no_sort" (defArgs sRNS) (defBody sRNS) (defScope sRNS) [] [] (ga K "refuse_no_sort") fd_refuse_no_sort := Fk_refuse_no_sort
  have F_refuse_no_sort : Fun K "refuse_no_sort" "refuse_no_sort" sRNS (ga K "refuse_no_sort") fd_refuse_no_sort := fun_of Fk_refuse_no_sort
  have D_refuse_no_sort : Dn K mg "refuse_no_sort" sRNS ["sorts", "makings", "patterns"] (ga K "refuse_no_sort") fd_refuse_no_sort := ⟨F_refuse_no_sort, g_refuse_no_sort, F_refuse_no_sort.binds (ps := ["sorts", "makings", "patterns"]) fun _ _ _ _ _ _ us hl => match us, hl with | [_, _, _], _ => rfl⟩
  have g_refuse_upward := glo_ok X G (ft 18 (f := .glo "refuse_upward") rfl)
  obtain ⟨fd_refuse_upward, Fk_refuse_upward⟩ := c.def_ 8 (d := d_refuse_upward) rfl
  have Fk_refuse_upward : FunD K "refuse_upward" "refuse_upward" (defArgs sRU) (defBody sRU) (defScope sRU) [] [] (ga K "refuse_upward") fd_refuse_upward := Fk_refuse_upward
  have F_refuse_upward : Fun K "refuse_upward" "refuse_upward" sRU (ga K "refuse_upward") fd_refuse_upward := fun_of Fk_refuse_upward
  have D_refuse_upward : Dn K mg "refuse_upward" sRU ["sorts", "makings"] (ga K "refuse_upward") fd_refuse_upward := ⟨F_refuse_upward, g_refuse_upward, F_refuse_upward.binds (ps := ["sorts", "makings"]) fun _ _ _ _ _ _ us hl => match us, hl with | [_, _], _ => rfl⟩
  have g_refuse_no_word := glo_ok X G (ft 19 (f := .glo "refuse_no_word") rfl)
  obtain ⟨fd_refuse_no_word, Fk_refuse_no_word⟩ := c.def_ 9 (d := d_refuse_no_word) rfl
  have Fk_refuse_no_word : FunD K "refuse_no_word" "refuse_no_word" (defArgs sRNW) (defBody sRNW) (defScope sRNW) [] [] (ga K "refuse_no_word") fd_refuse_no_word := Fk_refuse_no_word
  have F_refuse_no_word : Fun K "refuse_no_word" "refuse_no_word" sRNW (ga K "refuse_no_word") fd_refuse_no_word := fun_of Fk_refuse_no_word
  have D_refuse_no_word : Dn K mg "refuse_no_word" sRNW ["words", "makings", "rules", "bars"] (ga K "refuse_no_word") fd_refuse_no_word := ⟨F_refuse_no_word, g_refuse_no_word, F_refuse_no_word.binds (ps := ["words", "makings", "rules", "bars"]) fun _ _ _ _ _ _ us hl => match us, hl with | [_, _, _, _], _ => rfl⟩
  have g_check_scheme := glo_ok X G (ft 20 (f := .glo "check_scheme") rfl)
  obtain ⟨fd_check_scheme, Fk_check_scheme⟩ := c.def_ 10 (d := d_check_scheme) rfl
  have Fk_check_scheme : FunD K "check_scheme" "check_scheme" (defArgs sCS) (defBody sCS) (defScope sCS) [] [] (ga K "check_scheme") fd_check_scheme := Fk_check_scheme
  have F_check_scheme : Fun K "check_scheme" "check_scheme" sCS (ga K "check_scheme") fd_check_scheme := fun_of Fk_check_scheme
  have D_check_scheme : Dn K mg "check_scheme" sCS ["sorts", "words", "makings", "rules", "bars"] (ga K "check_scheme") fd_check_scheme := ⟨F_check_scheme, g_check_scheme, F_check_scheme.binds (ps := ["sorts", "words", "makings", "rules", "bars"]) fun _ _ _ _ _ _ us hl => match us, hl with | [_, _, _, _, _], _ => rfl⟩
  have g_tuple_of_tuples := glo_ok X G (ft 21 (f := .glo "tuple_of_tuples") rfl)
  obtain ⟨fd_tuple_of_tuples, Fk_tuple_of_tuples⟩ := c.def_ 11 (d := d_tuple_of_tuples) rfl
  have Fk_tuple_of_tuples : FunD K "tuple_of_tuples" "tuple_of_tuples" (defArgs sTT) (defBody sTT) (defScope sTT) [] [] (ga K "tuple_of_tuples") fd_tuple_of_tuples := Fk_tuple_of_tuples
  have F_tuple_of_tuples : Fun K "tuple_of_tuples" "tuple_of_tuples" sTT (ga K "tuple_of_tuples") fd_tuple_of_tuples := fun_of Fk_tuple_of_tuples
  have D_tuple_of_tuples : Dn K mg "tuple_of_tuples" sTT ["rows"] (ga K "tuple_of_tuples") fd_tuple_of_tuples := ⟨F_tuple_of_tuples, g_tuple_of_tuples, F_tuple_of_tuples.binds (ps := ["rows"]) fun _ _ _ _ _ _ us hl => match us, hl with | [_], _ => rfl⟩
  have g_ends_of := glo_ok X G (ft 22 (f := .glo "ends_of") rfl)
  obtain ⟨fd_ends_of, Fk_ends_of⟩ := c.def_ 12 (d := d_ends_of) rfl
  have Fk_ends_of : FunD K "ends_of" "ends_of" (defArgs sEO) (defBody sEO) (defScope sEO) [] [] (ga K "ends_of") fd_ends_of := Fk_ends_of
  have F_ends_of : Fun K "ends_of" "ends_of" sEO (ga K "ends_of") fd_ends_of := fun_of Fk_ends_of
  have D_ends_of : Dn K mg "ends_of" sEO ["triples"] (ga K "ends_of") fd_ends_of := ⟨F_ends_of, g_ends_of, F_ends_of.binds (ps := ["triples"]) fun _ _ _ _ _ _ us hl => match us, hl with | [_], _ => rfl⟩
  have g_texts_of_pattern := glo_ok X G (ft 23 (f := .glo "texts_of_pattern") rfl)
  obtain ⟨fd_texts_of_pattern, Fk_texts_of_pattern⟩ := c.def_ 13 (d := d_texts_of_pattern) rfl
  have Fk_texts_of_pattern : FunD K "texts_of_pattern" "texts_of_pattern" (defArgs sTP) (defBody sTP) (defScope sTP) [] [] (ga K "texts_of_pattern") fd_texts_of_pattern := Fk_texts_of_pattern
  have F_texts_of_pattern : Fun K "texts_of_pattern" "texts_of_pattern" sTP (ga K "texts_of_pattern") fd_texts_of_pattern := fun_of Fk_texts_of_pattern
  have D_texts_of_pattern : Dn K mg "texts_of_pattern" sTP ["name", "variables", "triples"] (ga K "texts_of_pattern") fd_texts_of_pattern := ⟨F_texts_of_pattern, g_texts_of_pattern, F_texts_of_pattern.binds (ps := ["name", "variables", "triples"]) fun _ _ _ _ _ _ us hl => match us, hl with | [_, _, _], _ => rfl⟩
  have g_refuse_no_variable := glo_ok X G (ft 24 (f := .glo "refuse_no_variable") rfl)
  obtain ⟨fd_refuse_no_variable, Fk_refuse_no_variable⟩ := c.def_ 14 (d := d_refuse_no_variable) rfl
  have Fk_refuse_no_variable : FunD K "refuse_no_variable" "refuse_no_variable" (defArgs sRV) (defBody sRV) (defScope sRV) [] [] (ga K "refuse_no_variable") fd_refuse_no_variable := Fk_refuse_no_variable
  have F_refuse_no_variable : Fun K "refuse_no_variable" "refuse_no_variable" sRV (ga K "refuse_no_variable") fd_refuse_no_variable := fun_of Fk_refuse_no_variable
  have D_refuse_no_variable : Dn K mg "refuse_no_variable" sRV ["names", "texts"] (ga K "refuse_no_variable") fd_refuse_no_variable := ⟨F_refuse_no_variable, g_refuse_no_variable, F_refuse_no_variable.binds (ps := ["names", "texts"]) fun _ _ _ _ _ _ us hl => match us, hl with | [_, _], _ => rfl⟩
  have g_refuse_loose := glo_ok X G (ft 25 (f := .glo "refuse_loose") rfl)
  obtain ⟨fd_refuse_loose, Fk_refuse_loose⟩ := c.def_ 15 (d := d_refuse_loose) rfl
  have Fk_refuse_loose : FunD K "refuse_loose" "refuse_loose" (defArgs sRL) (defBody sRL) (defScope sRL) [] [] (ga K "refuse_loose") fd_refuse_loose := Fk_refuse_loose
  have F_refuse_loose : Fun K "refuse_loose" "refuse_loose" sRL (ga K "refuse_loose") fd_refuse_loose := fun_of Fk_refuse_loose
  have D_refuse_loose : Dn K mg "refuse_loose" sRL ["names", "conditions"] (ga K "refuse_loose") fd_refuse_loose := ⟨F_refuse_loose, g_refuse_loose, F_refuse_loose.binds (ps := ["names", "conditions"]) fun _ _ _ _ _ _ us hl => match us, hl with | [_, _], _ => rfl⟩
  have g_refuse_apart := glo_ok X G (ft 26 (f := .glo "refuse_apart") rfl)
  obtain ⟨fd_refuse_apart, Fk_refuse_apart⟩ := c.def_ 16 (d := d_refuse_apart) rfl
  have Fk_refuse_apart : FunD K "refuse_apart" "refuse_apart" (defArgs sRA) (defBody sRA) (defScope sRA) [] [] (ga K "refuse_apart") fd_refuse_apart := Fk_refuse_apart
  have F_refuse_apart : Fun K "refuse_apart" "refuse_apart" sRA (ga K "refuse_apart") fd_refuse_apart := fun_of Fk_refuse_apart
  have D_refuse_apart : Dn K mg "refuse_apart" sRA ["conditions"] (ga K "refuse_apart") fd_refuse_apart := ⟨F_refuse_apart, g_refuse_apart, F_refuse_apart.binds (ps := ["conditions"]) fun _ _ _ _ _ _ us hl => match us, hl with | [_], _ => rfl⟩
  have g_check_pattern := glo_ok X G (ft 27 (f := .glo "check_pattern") rfl)
  obtain ⟨fd_check_pattern, Fk_check_pattern⟩ := c.def_ 17 (d := d_check_pattern) rfl
  have Fk_check_pattern : FunD K "check_pattern" "check_pattern" (defArgs sCP) (defBody sCP) (defScope sCP) [] [] (ga K "check_pattern") fd_check_pattern := Fk_check_pattern
  have F_check_pattern : Fun K "check_pattern" "check_pattern" sCP (ga K "check_pattern") fd_check_pattern := fun_of Fk_check_pattern
  have D_check_pattern : Dn K mg "check_pattern" sCP ["name", "variables", "conditions", "given", "hands"] (ga K "check_pattern") fd_check_pattern := ⟨F_check_pattern, g_check_pattern, F_check_pattern.binds (ps := ["name", "variables", "conditions", "given", "hands"]) fun _ _ _ _ _ _ us hl => match us, hl with | [_, _, _, _, _], _ => rfl⟩
  have g__law_cell_at := glo_ok X G (ft 28 (f := .glo "_law_cell_at") rfl)
  obtain ⟨fd__law_cell_at, Fk__law_cell_at⟩ := c.def_ 18 (d := d__law_cell_at) rfl
  have Fk__law_cell_at : FunD K "_law_cell_at" "_law_cell_at" (defArgs sCel) (defBody sCel) (defScope sCel) [] [] (ga K "_law_cell_at") fd__law_cell_at := Fk__law_cell_at
  have F__law_cell_at : Fun K "_law_cell_at" "_law_cell_at" sCel (ga K "_law_cell_at") fd__law_cell_at := fun_of Fk__law_cell_at
  have D__law_cell_at : Dn K mg "_law_cell_at" sCel ["_law_script", "_law_k"] (ga K "_law_cell_at") fd__law_cell_at := ⟨F__law_cell_at, g__law_cell_at, F__law_cell_at.binds (ps := ["_law_script", "_law_k"]) fun _ _ _ _ _ _ us hl => match us, hl with | [_, _], _ => rfl⟩
  have g__law_state := glo_ok X G (ft 29 (f := .glo "_law_state") rfl)
  obtain ⟨fd__law_state, Fk__law_state⟩ := c.def_ 19 (d := d__law_state) rfl
  have Fk__law_state : FunD K "_law_state" "_law_state" (defArgs sState) (defBody sState) (defScope sState) [] [] (ga K "_law_state") fd__law_state := Fk__law_state
  have F__law_state : Fun K "_law_state" "_law_state" sState (ga K "_law_state") fd__law_state := fun_of Fk__law_state
  have D__law_state : Dn K mg "_law_state" sState ["_law_cell"] (ga K "_law_state") fd__law_state := ⟨F__law_state, g__law_state, F__law_state.binds (ps := ["_law_cell"]) fun _ _ _ _ _ _ us hl => match us, hl with | [_], _ => rfl⟩
  have g__law_digit := glo_ok X G (ft 30 (f := .glo "_law_digit") rfl)
  obtain ⟨fd__law_digit, Fk__law_digit⟩ := c.def_ 20 (d := d__law_digit) rfl
  have Fk__law_digit : FunD K "_law_digit" "_law_digit" (defArgs sDigit) (defBody sDigit) (defScope sDigit) [] [] (ga K "_law_digit") fd__law_digit := Fk__law_digit
  have F__law_digit : Fun K "_law_digit" "_law_digit" sDigit (ga K "_law_digit") fd__law_digit := fun_of Fk__law_digit
  have D__law_digit : Dn K mg "_law_digit" sDigit ["_law_state_here", "_law_base"] (ga K "_law_digit") fd__law_digit := ⟨F__law_digit, g__law_digit, F__law_digit.binds (ps := ["_law_state_here", "_law_base"]) fun _ _ _ _ _ _ us hl => match us, hl with | [_, _], _ => rfl⟩
  have g__law_name := glo_ok X G (ft 31 (f := .glo "_law_name") rfl)
  obtain ⟨fd__law_name, Fk__law_name⟩ := c.def_ 21 (d := d__law_name) rfl
  have Fk__law_name : FunD K "_law_name" "_law_name" (defArgs sNam) (defBody sNam) (defScope sNam) [] [] (ga K "_law_name") fd__law_name := Fk__law_name
  have F__law_name : Fun K "_law_name" "_law_name" sNam (ga K "_law_name") fd__law_name := fun_of Fk__law_name
  have D__law_name : Dn K mg "_law_name" sNam ["_law_s", "_law_taken"] (ga K "_law_name") fd__law_name := ⟨F__law_name, g__law_name, F__law_name.binds (ps := ["_law_s", "_law_taken"]) fun _ _ _ _ _ _ us hl => match us, hl with | [_, _], _ => rfl⟩
  have g__law_names := glo_ok X G (ft 32 (f := .glo "_law_names") rfl)
  obtain ⟨fd__law_names, Fk__law_names⟩ := c.def_ 22 (d := d__law_names) rfl
  have Fk__law_names : FunD K "_law_names" "_law_names" (defArgs sNms) (defBody sNms) (defScope sNms) [] [] (ga K "_law_names") fd__law_names := Fk__law_names
  have F__law_names : Fun K "_law_names" "_law_names" sNms (ga K "_law_names") fd__law_names := fun_of Fk__law_names
  have D__law_names : Dn K mg "_law_names" sNms ["_law_s", "_law_many"] (ga K "_law_names") fd__law_names := ⟨F__law_names, g__law_names, F__law_names.binds (ps := ["_law_s", "_law_many"]) fun _ _ _ _ _ _ us hl => match us, hl with | [_, _], _ => rfl⟩
  have g__law_told := glo_ok X G (ft 33 (f := .glo "_law_told") rfl)
  obtain ⟨fd__law_told, Fk__law_told⟩ := c.def_ 23 (d := d__law_told) rfl
  have Fk__law_told : FunD K "_law_told" "_law_told" (defArgs sTld) (defBody sTld) (defScope sTld) [] [] (ga K "_law_told") fd__law_told := Fk__law_told
  have F__law_told : Fun K "_law_told" "_law_told" sTld (ga K "_law_told") fd__law_told := fun_of Fk__law_told
  have D__law_told : Dn K mg "_law_told" sTld ["_law_e"] (ga K "_law_told") fd__law_told := ⟨F__law_told, g__law_told, F__law_told.binds (ps := ["_law_e"]) fun _ _ _ _ _ _ us hl => match us, hl with | [_], _ => rfl⟩
  have g__law_sort := glo_ok X G (ft 34 (f := .glo "_law_sort") rfl)
  obtain ⟨fd__law_sort, Fk__law_sort⟩ := c.def_ 24 (d := d__law_sort) rfl
  have Fk__law_sort : FunD K "_law_sort" "_law_sort" (defArgs sLso) (defBody sLso) (defScope sLso) [] [] (ga K "_law_sort") fd__law_sort := Fk__law_sort
  have F__law_sort : Fun K "_law_sort" "_law_sort" sLso (ga K "_law_sort") fd__law_sort := fun_of Fk__law_sort
  have D__law_sort : Dn K mg "_law_sort" sLso ["_law_s", "_law_m"] (ga K "_law_sort") fd__law_sort := ⟨F__law_sort, g__law_sort, F__law_sort.binds (ps := ["_law_s", "_law_m"]) fun _ _ _ _ _ _ us hl => match us, hl with | [_, _], _ => rfl⟩
  have g__law_word := glo_ok X G (ft 35 (f := .glo "_law_word") rfl)
  obtain ⟨fd__law_word, Fk__law_word⟩ := c.def_ 25 (d := d__law_word) rfl
  have Fk__law_word : FunD K "_law_word" "_law_word" (defArgs sLwo) (defBody sLwo) (defScope sLwo) [] [] (ga K "_law_word") fd__law_word := Fk__law_word
  have F__law_word : Fun K "_law_word" "_law_word" sLwo (ga K "_law_word") fd__law_word := fun_of Fk__law_word
  have D__law_word : Dn K mg "_law_word" sLwo ["_law_s", "_law_m"] (ga K "_law_word") fd__law_word := ⟨F__law_word, g__law_word, F__law_word.binds (ps := ["_law_s", "_law_m"]) fun _ _ _ _ _ _ us hl => match us, hl with | [_, _], _ => rfl⟩
  have g__law_pattern := glo_ok X G (ft 36 (f := .glo "_law_pattern") rfl)
  obtain ⟨fd__law_pattern, Fk__law_pattern⟩ := c.def_ 26 (d := d__law_pattern) rfl
  have Fk__law_pattern : FunD K "_law_pattern" "_law_pattern" (defArgs sLpt) (defBody sLpt) (defScope sLpt) [] [] (ga K "_law_pattern") fd__law_pattern := Fk__law_pattern
  have F__law_pattern : Fun K "_law_pattern" "_law_pattern" sLpt (ga K "_law_pattern") fd__law_pattern := fun_of Fk__law_pattern
  have D__law_pattern : Dn K mg "_law_pattern" sLpt ["_law_s", "_law_m"] (ga K "_law_pattern") fd__law_pattern := ⟨F__law_pattern, g__law_pattern, F__law_pattern.binds (ps := ["_law_s", "_law_m"]) fun _ _ _ _ _ _ us hl => match us, hl with | [_, _], _ => rfl⟩
  have g__law_pattern_due := glo_ok X G (ft 37 (f := .glo "_law_pattern_due") rfl)
  obtain ⟨fd__law_pattern_due, Fk__law_pattern_due⟩ := c.def_ 27 (d := d__law_pattern_due) rfl
  have Fk__law_pattern_due : FunD K "_law_pattern_due" "_law_pattern_due" (defArgs sLpd) (defBody sLpd) (defScope sLpd) [] [] (ga K "_law_pattern_due") fd__law_pattern_due := Fk__law_pattern_due
  have F__law_pattern_due : Fun K "_law_pattern_due" "_law_pattern_due" sLpd (ga K "_law_pattern_due") fd__law_pattern_due := fun_of Fk__law_pattern_due
  have D__law_pattern_due : Dn K mg "_law_pattern_due" sLpd ["_law_m", "_law_part", "_law_kind", "_law_most"] (ga K "_law_pattern_due") fd__law_pattern_due := ⟨F__law_pattern_due, g__law_pattern_due, F__law_pattern_due.binds (ps := ["_law_m", "_law_part", "_law_kind", "_law_most"]) fun _ _ _ _ _ _ us hl => match us, hl with | [_, _, _, _], _ => rfl⟩
  have g__law_making_due := glo_ok X G (ft 38 (f := .glo "_law_making_due") rfl)
  obtain ⟨fd__law_making_due, Fk__law_making_due⟩ := c.def_ 28 (d := d__law_making_due) rfl
  have Fk__law_making_due : FunD K "_law_making_due" "_law_making_due" (defArgs sLmd) (defBody sLmd) (defScope sLmd) [] [] (ga K "_law_making_due") fd__law_making_due := Fk__law_making_due
  have F__law_making_due : Fun K "_law_making_due" "_law_making_due" sLmd (ga K "_law_making_due") fd__law_making_due := fun_of Fk__law_making_due
  have D__law_making_due : Dn K mg "_law_making_due" sLmd ["_law_m", "_law_part"] (ga K "_law_making_due") fd__law_making_due := ⟨F__law_making_due, g__law_making_due, F__law_making_due.binds (ps := ["_law_m", "_law_part"]) fun _ _ _ _ _ _ us hl => match us, hl with | [_, _], _ => rfl⟩
  have g__law_rule := glo_ok X G (ft 39 (f := .glo "_law_rule") rfl)
  obtain ⟨fd__law_rule, Fk__law_rule⟩ := c.def_ 29 (d := d__law_rule) rfl
  have Fk__law_rule : FunD K "_law_rule" "_law_rule" (defArgs sLrl) (defBody sLrl) (defScope sLrl) [] [] (ga K "_law_rule") fd__law_rule := Fk__law_rule
  have F__law_rule : Fun K "_law_rule" "_law_rule" sLrl (ga K "_law_rule") fd__law_rule := fun_of Fk__law_rule
  have D__law_rule : Dn K mg "_law_rule" sLrl ["_law_part"] (ga K "_law_rule") fd__law_rule := ⟨F__law_rule, g__law_rule, F__law_rule.binds (ps := ["_law_part"]) fun _ _ _ _ _ _ us hl => match us, hl with | [_], _ => rfl⟩
  have g__law_bar := glo_ok X G (ft 40 (f := .glo "_law_bar") rfl)
  obtain ⟨fd__law_bar, Fk__law_bar⟩ := c.def_ 30 (d := d__law_bar) rfl
  have Fk__law_bar : FunD K "_law_bar" "_law_bar" (defArgs sLbr) (defBody sLbr) (defScope sLbr) [] [] (ga K "_law_bar") fd__law_bar := Fk__law_bar
  have F__law_bar : Fun K "_law_bar" "_law_bar" sLbr (ga K "_law_bar") fd__law_bar := fun_of Fk__law_bar
  have D__law_bar : Dn K mg "_law_bar" sLbr ["_law_part"] (ga K "_law_bar") fd__law_bar := ⟨F__law_bar, g__law_bar, F__law_bar.binds (ps := ["_law_part"]) fun _ _ _ _ _ _ us hl => match us, hl with | [_], _ => rfl⟩
  have g__law_making := glo_ok X G (ft 41 (f := .glo "_law_making") rfl)
  obtain ⟨fd__law_making, Fk__law_making⟩ := c.def_ 31 (d := d__law_making) rfl
  have Fk__law_making : FunD K "_law_making" "_law_making" (defArgs sLmk) (defBody sLmk) (defScope sLmk) [] [] (ga K "_law_making") fd__law_making := Fk__law_making
  have F__law_making : Fun K "_law_making" "_law_making" sLmk (ga K "_law_making") fd__law_making := fun_of Fk__law_making
  have D__law_making : Dn K mg "_law_making" sLmk ["_law_part"] (ga K "_law_making") fd__law_making := ⟨F__law_making, g__law_making, F__law_making.binds (ps := ["_law_part"]) fun _ _ _ _ _ _ us hl => match us, hl with | [_], _ => rfl⟩
  have g__law_change := glo_ok X G (ft 42 (f := .glo "_law_change") rfl)
  obtain ⟨fd__law_change, Fk__law_change⟩ := c.def_ 32 (d := d__law_change) rfl
  have Fk__law_change : FunD K "_law_change" "_law_change" (defArgs sLch) (defBody sLch) (defScope sLch) [] [] (ga K "_law_change") fd__law_change := Fk__law_change
  have F__law_change : Fun K "_law_change" "_law_change" sLch (ga K "_law_change") fd__law_change := fun_of Fk__law_change
  have D__law_change : Dn K mg "_law_change" sLch ["_law_s", "_law_m"] (ga K "_law_change") fd__law_change := ⟨F__law_change, g__law_change, F__law_change.binds (ps := ["_law_s", "_law_m"]) fun _ _ _ _ _ _ us hl => match us, hl with | [_, _], _ => rfl⟩
  have g__law_behind := glo_ok X G (ft 43 (f := .glo "_law_behind") rfl)
  obtain ⟨fd__law_behind, Fk__law_behind⟩ := c.def_ 33 (d := d__law_behind) rfl
  have Fk__law_behind : FunD K "_law_behind" "_law_behind" (defArgs sLbh) (defBody sLbh) (defScope sLbh) [] [] (ga K "_law_behind") fd__law_behind := Fk__law_behind
  have F__law_behind : Fun K "_law_behind" "_law_behind" sLbh (ga K "_law_behind") fd__law_behind := fun_of Fk__law_behind
  have D__law_behind : Dn K mg "_law_behind" sLbh ["_law_m", "_law_change_here"] (ga K "_law_behind") fd__law_behind := ⟨F__law_behind, g__law_behind, F__law_behind.binds (ps := ["_law_m", "_law_change_here"]) fun _ _ _ _ _ _ us hl => match us, hl with | [_, _], _ => rfl⟩
  have g__law_done := glo_ok X G (ft 44 (f := .glo "_law_done") rfl)
  obtain ⟨fd__law_done, Fk__law_done⟩ := c.def_ 34 (d := d__law_done) rfl
  have Fk__law_done : FunD K "_law_done" "_law_done" (defArgs sLdn) (defBody sLdn) (defScope sLdn) [] [] (ga K "_law_done") fd__law_done := Fk__law_done
  have F__law_done : Fun K "_law_done" "_law_done" sLdn (ga K "_law_done") fd__law_done := fun_of Fk__law_done
  have D__law_done : Dn K mg "_law_done" sLdn ["_law_scheme", "_law_deed", "_law_part"] (ga K "_law_done") fd__law_done := ⟨F__law_done, g__law_done, F__law_done.binds (ps := ["_law_scheme", "_law_deed", "_law_part"]) fun _ _ _ _ _ _ us hl => match us, hl with | [_, _, _], _ => rfl⟩
  have g__law_right := glo_ok X G (ft 45 (f := .glo "_law_right") rfl)
  obtain ⟨fd__law_right, Fk__law_right⟩ := c.def_ 35 (d := d__law_right) rfl
  have Fk__law_right : FunD K "_law_right" "_law_right" (defArgs sLrt) (defBody sLrt) (defScope sLrt) [] [] (ga K "_law_right") fd__law_right := Fk__law_right
  have F__law_right : Fun K "_law_right" "_law_right" sLrt (ga K "_law_right") fd__law_right := fun_of Fk__law_right
  have D__law_right : Dn K mg "_law_right" sLrt ["_law_scheme", "_law_m"] (ga K "_law_right") fd__law_right := ⟨F__law_right, g__law_right, F__law_right.binds (ps := ["_law_scheme", "_law_m"]) fun _ _ _ _ _ _ us hl => match us, hl with | [_, _], _ => rfl⟩
  have g_law := glo_ok X G (ft 46 (f := .glo "law") rfl)
  obtain ⟨fd_law, Fk_law⟩ := c.def_ 36 (d := d_law) rfl
  have Fk_law : FunD K "law" "law" (defArgs sLaw) (defBody sLaw) (defScope sLaw) [] [] (ga K "law") fd_law := Fk_law
  have F_law : Fun K "law" "law" sLaw (ga K "law") fd_law := fun_of Fk_law
  have FLb := FunD.bindsA (ps := ["_law_script"]) Fk_law fun _ _ _ _ _ _ us hl => match us, hl with | [_], _ => rfl
  have g_Scheme := glo_ok X G (ft 47 (f := .glo "Scheme") rfl)
  have cls_Scheme := cls_ok (ft 48 (f := .cls "Scheme") rfl)
  have na_Scheme_own_sorts := noat_ok (ft 49 (f := .noat "Scheme" "own_sorts") rfl)
  have na_Scheme_own_words := noat_ok (ft 50 (f := .noat "Scheme" "own_words") rfl)
  have na_Scheme_own_makings := noat_ok (ft 51 (f := .noat "Scheme" "own_makings") rfl)
  have na_Scheme_own_rules := noat_ok (ft 52 (f := .noat "Scheme" "own_rules") rfl)
  have na_Scheme_own_bars := noat_ok (ft 53 (f := .noat "Scheme" "own_bars") rfl)
  have mk_Scheme := mkr_ok (ft 54 (f := .mkr "Scheme") rfl)
  have g_Bar := glo_ok X G (ft 55 (f := .glo "Bar") rfl)
  have cls_Bar := cls_ok (ft 56 (f := .cls "Bar") rfl)
  have na_Bar_name := noat_ok (ft 57 (f := .noat "Bar" "name") rfl)
  have na_Bar_variables := noat_ok (ft 58 (f := .noat "Bar" "variables") rfl)
  have na_Bar_conditions := noat_ok (ft 59 (f := .noat "Bar" "conditions") rfl)
  have mk_Bar := mkr_ok (ft 60 (f := .mkr "Bar") rfl)
  have g_Rule := glo_ok X G (ft 61 (f := .glo "Rule") rfl)
  have cls_Rule := cls_ok (ft 62 (f := .cls "Rule") rfl)
  have na_Rule_name := noat_ok (ft 63 (f := .noat "Rule" "name") rfl)
  have na_Rule_variables := noat_ok (ft 64 (f := .noat "Rule" "variables") rfl)
  have na_Rule_conditions := noat_ok (ft 65 (f := .noat "Rule" "conditions") rfl)
  have na_Rule_gives := noat_ok (ft 66 (f := .noat "Rule" "gives") rfl)
  have na_Rule_by := noat_ok (ft 67 (f := .noat "Rule" "by") rfl)
  have mk_Rule := mkr_ok (ft 68 (f := .mkr "Rule") rfl)
  have g_Making := glo_ok X G (ft 69 (f := .glo "Making") rfl)
  have cls_Making := cls_ok (ft 70 (f := .cls "Making") rfl)
  have na_Making_maker := noat_ok (ft 71 (f := .noat "Making" "maker") rfl)
  have na_Making_made := noat_ok (ft 72 (f := .noat "Making" "made") rfl)
  have na_Making_down := noat_ok (ft 73 (f := .noat "Making" "down") rfl)
  have na_Making_up := noat_ok (ft 74 (f := .noat "Making" "up") rfl)
  have mk_Making := mkr_ok (ft 75 (f := .mkr "Making") rfl)
  obtain ⟨fd_BadCount___init__, Fk_BadCount___init__⟩ := c.def_ 37 (d := d_BadCount___init__) rfl
  have Fk_BadCount___init__ : FunD K "__init__" "BadCount.__init__" (defArgs sBC) (defBody sBC) (defScope sBC) [] [] (ma K (ga K "BadCount") "__init__") fd_BadCount___init__ := Fk_BadCount___init__
  have F_BadCount___init__ : Fun K "__init__" "BadCount.__init__" sBC (ma K (ga K "BadCount") "__init__") fd_BadCount___init__ := fun_of Fk_BadCount___init__
  have b_BadCount___init__ := F_BadCount___init__.binds (ps := ["self", "what", "count"]) fun _ _ _ _ _ _ us hl => match us, hl with | [_, _, _], _ => rfl
  obtain ⟨fd_NoName___init__, Fk_NoName___init__⟩ := c.def_ 38 (d := d_NoName___init__) rfl
  have Fk_NoName___init__ : FunD K "__init__" "NoName.__init__" (defArgs sN0) (defBody sN0) (defScope sN0) [] [] (ma K (ga K "NoName") "__init__") fd_NoName___init__ := Fk_NoName___init__
  have F_NoName___init__ : Fun K "__init__" "NoName.__init__" sN0 (ma K (ga K "NoName") "__init__") fd_NoName___init__ := fun_of Fk_NoName___init__
  have b_NoName___init__ := F_NoName___init__.binds (ps := ["self", "name"]) fun _ _ _ _ _ _ us hl => match us, hl with | [_, _], _ => rfl
  obtain ⟨fd_Twice___init__, Fk_Twice___init__⟩ := c.def_ 39 (d := d_Twice___init__) rfl
  have Fk_Twice___init__ : FunD K "__init__" "Twice.__init__" (defArgs sT0) (defBody sT0) (defScope sT0) [] [] (ma K (ga K "Twice") "__init__") fd_Twice___init__ := Fk_Twice___init__
  have F_Twice___init__ : Fun K "__init__" "Twice.__init__" sT0 (ma K (ga K "Twice") "__init__") fd_Twice___init__ := fun_of Fk_Twice___init__
  have b_Twice___init__ := F_Twice___init__.binds (ps := ["self", "name"]) fun _ _ _ _ _ _ us hl => match us, hl with | [_, _], _ => rfl
  obtain ⟨fd_NoSort___init__, Fk_NoSort___init__⟩ := c.def_ 40 (d := d_NoSort___init__) rfl
  have Fk_NoSort___init__ : FunD K "__init__" "NoSort.__init__" (defArgs sNS) (defBody sNS) (defScope sNS) [] [] (ma K (ga K "NoSort") "__init__") fd_NoSort___init__ := Fk_NoSort___init__
  have F_NoSort___init__ : Fun K "__init__" "NoSort.__init__" sNS (ma K (ga K "NoSort") "__init__") fd_NoSort___init__ := fun_of Fk_NoSort___init__
  have b_NoSort___init__ := F_NoSort___init__.binds (ps := ["self", "name"]) fun _ _ _ _ _ _ us hl => match us, hl with | [_, _], _ => rfl
  obtain ⟨fd_Upward___init__, Fk_Upward___init__⟩ := c.def_ 41 (d := d_Upward___init__) rfl
  have Fk_Upward___init__ : FunD K "__init__" "Upward.__init__" (defArgs sUp) (defBody sUp) (defScope sUp) [] [] (ma K (ga K "Upward") "__init__") fd_Upward___init__ := Fk_Upward___init__
  have F_Upward___init__ : Fun K "__init__" "Upward.__init__" sUp (ma K (ga K "Upward") "__init__") fd_Upward___init__ := fun_of Fk_Upward___init__
  have b_Upward___init__ := F_Upward___init__.binds (ps := ["self", "maker", "made"]) fun _ _ _ _ _ _ us hl => match us, hl with | [_, _, _], _ => rfl
  obtain ⟨fd_NoWord___init__, Fk_NoWord___init__⟩ := c.def_ 42 (d := d_NoWord___init__) rfl
  have Fk_NoWord___init__ : FunD K "__init__" "NoWord.__init__" (defArgs sNW) (defBody sNW) (defScope sNW) [] [] (ma K (ga K "NoWord") "__init__") fd_NoWord___init__ := Fk_NoWord___init__
  have F_NoWord___init__ : Fun K "__init__" "NoWord.__init__" sNW (ma K (ga K "NoWord") "__init__") fd_NoWord___init__ := fun_of Fk_NoWord___init__
  have b_NoWord___init__ := F_NoWord___init__.binds (ps := ["self", "name"]) fun _ _ _ _ _ _ us hl => match us, hl with | [_, _], _ => rfl
  obtain ⟨fd_NoRule___init__, Fk_NoRule___init__⟩ := c.def_ 43 (d := d_NoRule___init__) rfl
  have Fk_NoRule___init__ : FunD K "__init__" "NoRule.__init__" (defArgs sNR) (defBody sNR) (defScope sNR) [] [] (ma K (ga K "NoRule") "__init__") fd_NoRule___init__ := Fk_NoRule___init__
  have F_NoRule___init__ : Fun K "__init__" "NoRule.__init__" sNR (ma K (ga K "NoRule") "__init__") fd_NoRule___init__ := fun_of Fk_NoRule___init__
  have b_NoRule___init__ := F_NoRule___init__.binds (ps := ["self", "name"]) fun _ _ _ _ _ _ us hl => match us, hl with | [_, _], _ => rfl
  obtain ⟨fd_NoBar___init__, Fk_NoBar___init__⟩ := c.def_ 44 (d := d_NoBar___init__) rfl
  have Fk_NoBar___init__ : FunD K "__init__" "NoBar.__init__" (defArgs sNB) (defBody sNB) (defScope sNB) [] [] (ma K (ga K "NoBar") "__init__") fd_NoBar___init__ := Fk_NoBar___init__
  have F_NoBar___init__ : Fun K "__init__" "NoBar.__init__" sNB (ma K (ga K "NoBar") "__init__") fd_NoBar___init__ := fun_of Fk_NoBar___init__
  have b_NoBar___init__ := F_NoBar___init__.binds (ps := ["self", "name"]) fun _ _ _ _ _ _ us hl => match us, hl with | [_, _], _ => rfl
  obtain ⟨fd_NoMaking___init__, Fk_NoMaking___init__⟩ := c.def_ 45 (d := d_NoMaking___init__) rfl
  have Fk_NoMaking___init__ : FunD K "__init__" "NoMaking.__init__" (defArgs sNM) (defBody sNM) (defScope sNM) [] [] (ma K (ga K "NoMaking") "__init__") fd_NoMaking___init__ := Fk_NoMaking___init__
  have F_NoMaking___init__ : Fun K "__init__" "NoMaking.__init__" sNM (ma K (ga K "NoMaking") "__init__") fd_NoMaking___init__ := fun_of Fk_NoMaking___init__
  have b_NoMaking___init__ := F_NoMaking___init__.binds (ps := ["self", "maker", "made"]) fun _ _ _ _ _ _ us hl => match us, hl with | [_, _, _], _ => rfl
  obtain ⟨fd_Bar___init__, Fk_Bar___init__⟩ := c.def_ 46 (d := d_Bar___init__) rfl
  have Fk_Bar___init__ : FunD K "__init__" "Bar.__init__" (defArgs sBar) (defBody sBar) (defScope sBar) [] [] (ma K (ga K "Bar") "__init__") fd_Bar___init__ := Fk_Bar___init__
  have F_Bar___init__ : Fun K "__init__" "Bar.__init__" sBar (ma K (ga K "Bar") "__init__") fd_Bar___init__ := fun_of Fk_Bar___init__
  have b_Bar___init__ := F_Bar___init__.binds (ps := ["self", "name", "variables", "conditions"]) fun _ _ _ _ _ _ us hl => match us, hl with | [_, _, _, _], _ => rfl
  obtain ⟨fd_Rule___init__, Fk_Rule___init__⟩ := c.def_ 47 (d := d_Rule___init__) rfl
  have Fk_Rule___init__ : FunD K "__init__" "Rule.__init__" (defArgs sRul) (defBody sRul) (defScope sRul) [] [] (ma K (ga K "Rule") "__init__") fd_Rule___init__ := Fk_Rule___init__
  have F_Rule___init__ : Fun K "__init__" "Rule.__init__" sRul (ma K (ga K "Rule") "__init__") fd_Rule___init__ := fun_of Fk_Rule___init__
  have b_Rule___init__ := F_Rule___init__.binds (ps := ["self", "name", "variables", "conditions", "gives", "by"]) fun _ _ _ _ _ _ us hl => match us, hl with | [_, _, _, _, _, _], _ => rfl
  obtain ⟨fd_Making___init__, Fk_Making___init__⟩ := c.def_ 48 (d := d_Making___init__) rfl
  have Fk_Making___init__ : FunD K "__init__" "Making.__init__" (defArgs sMak) (defBody sMak) (defScope sMak) [] [] (ma K (ga K "Making") "__init__") fd_Making___init__ := Fk_Making___init__
  have F_Making___init__ : Fun K "__init__" "Making.__init__" sMak (ma K (ga K "Making") "__init__") fd_Making___init__ := fun_of Fk_Making___init__
  have b_Making___init__ := F_Making___init__.binds (ps := ["self", "maker", "made", "down", "up"]) fun _ _ _ _ _ _ us hl => match us, hl with | [_, _, _, _, _], _ => rfl
  have m_Making___eq__ := meth_ok (ft 76 (f := .meth "Making" "__eq__") rfl)
  obtain ⟨fd_Making___eq__, Fk_Making___eq__⟩ := c.def_ 49 (d := d_Making___eq__) rfl
  have Fk_Making___eq__ : FunD K "__eq__" "Making.__eq__" (defArgs sME) (defBody sME) (defScope sME) [] [] (ma K (ga K "Making") "__eq__") fd_Making___eq__ := Fk_Making___eq__
  have F_Making___eq__ : Fun K "__eq__" "Making.__eq__" sME (ma K (ga K "Making") "__eq__") fd_Making___eq__ := fun_of Fk_Making___eq__
  have b_Making___eq__ := F_Making___eq__.binds (ps := ["self", "other"]) fun _ _ _ _ _ _ us hl => match us, hl with | [_, _], _ => rfl
  have m_Rule___eq__ := meth_ok (ft 77 (f := .meth "Rule" "__eq__") rfl)
  obtain ⟨fd_Rule___eq__, Fk_Rule___eq__⟩ := c.def_ 50 (d := d_Rule___eq__) rfl
  have Fk_Rule___eq__ : FunD K "__eq__" "Rule.__eq__" (defArgs sRE) (defBody sRE) (defScope sRE) [] [] (ma K (ga K "Rule") "__eq__") fd_Rule___eq__ := Fk_Rule___eq__
  have F_Rule___eq__ : Fun K "__eq__" "Rule.__eq__" sRE (ma K (ga K "Rule") "__eq__") fd_Rule___eq__ := fun_of Fk_Rule___eq__
  have b_Rule___eq__ := F_Rule___eq__.binds (ps := ["self", "other"]) fun _ _ _ _ _ _ us hl => match us, hl with | [_, _], _ => rfl
  have m_Bar___eq__ := meth_ok (ft 78 (f := .meth "Bar" "__eq__") rfl)
  obtain ⟨fd_Bar___eq__, Fk_Bar___eq__⟩ := c.def_ 51 (d := d_Bar___eq__) rfl
  have Fk_Bar___eq__ : FunD K "__eq__" "Bar.__eq__" (defArgs sBE) (defBody sBE) (defScope sBE) [] [] (ma K (ga K "Bar") "__eq__") fd_Bar___eq__ := Fk_Bar___eq__
  have F_Bar___eq__ : Fun K "__eq__" "Bar.__eq__" sBE (ma K (ga K "Bar") "__eq__") fd_Bar___eq__ := fun_of Fk_Bar___eq__
  have b_Bar___eq__ := F_Bar___eq__.binds (ps := ["self", "other"]) fun _ _ _ _ _ _ us hl => match us, hl with | [_, _], _ => rfl
  have m_Scheme_with_rule := meth_ok (ft 79 (f := .meth "Scheme" "with_rule") rfl)
  obtain ⟨fd_Scheme_with_rule, Fk_Scheme_with_rule⟩ := c.def_ 52 (d := d_Scheme_with_rule) rfl
  have Fk_Scheme_with_rule : FunD K "with_rule" "Scheme.with_rule" (defArgs sSwr) (defBody sSwr) (defScope sSwr) [] [] (ma K (ga K "Scheme") "with_rule") fd_Scheme_with_rule := Fk_Scheme_with_rule
  have F_Scheme_with_rule : Fun K "with_rule" "Scheme.with_rule" sSwr (ma K (ga K "Scheme") "with_rule") fd_Scheme_with_rule := fun_of Fk_Scheme_with_rule
  have b_Scheme_with_rule := F_Scheme_with_rule.binds (ps := ["self", "rule"]) fun _ _ _ _ _ _ us hl => match us, hl with | [_, _], _ => rfl
  have m_Scheme_with_bar := meth_ok (ft 80 (f := .meth "Scheme" "with_bar") rfl)
  obtain ⟨fd_Scheme_with_bar, Fk_Scheme_with_bar⟩ := c.def_ 53 (d := d_Scheme_with_bar) rfl
  have Fk_Scheme_with_bar : FunD K "with_bar" "Scheme.with_bar" (defArgs sSwb) (defBody sSwb) (defScope sSwb) [] [] (ma K (ga K "Scheme") "with_bar") fd_Scheme_with_bar := Fk_Scheme_with_bar
  have F_Scheme_with_bar : Fun K "with_bar" "Scheme.with_bar" sSwb (ma K (ga K "Scheme") "with_bar") fd_Scheme_with_bar := fun_of Fk_Scheme_with_bar
  have b_Scheme_with_bar := F_Scheme_with_bar.binds (ps := ["self", "bar"]) fun _ _ _ _ _ _ us hl => match us, hl with | [_, _], _ => rfl
  have m_Scheme_with_making := meth_ok (ft 81 (f := .meth "Scheme" "with_making") rfl)
  obtain ⟨fd_Scheme_with_making, Fk_Scheme_with_making⟩ := c.def_ 54 (d := d_Scheme_with_making) rfl
  have Fk_Scheme_with_making : FunD K "with_making" "Scheme.with_making" (defArgs sSwm) (defBody sSwm) (defScope sSwm) [] [] (ma K (ga K "Scheme") "with_making") fd_Scheme_with_making := Fk_Scheme_with_making
  have F_Scheme_with_making : Fun K "with_making" "Scheme.with_making" sSwm (ma K (ga K "Scheme") "with_making") fd_Scheme_with_making := fun_of Fk_Scheme_with_making
  have b_Scheme_with_making := F_Scheme_with_making.binds (ps := ["self", "making"]) fun _ _ _ _ _ _ us hl => match us, hl with | [_, _], _ => rfl
  have m_Scheme_without_rule := meth_ok (ft 82 (f := .meth "Scheme" "without_rule") rfl)
  obtain ⟨fd_Scheme_without_rule, Fk_Scheme_without_rule⟩ := c.def_ 55 (d := d_Scheme_without_rule) rfl
  have Fk_Scheme_without_rule : FunD K "without_rule" "Scheme.without_rule" (defArgs sSxr) (defBody sSxr) (defScope sSxr) [] [] (ma K (ga K "Scheme") "without_rule") fd_Scheme_without_rule := Fk_Scheme_without_rule
  have F_Scheme_without_rule : Fun K "without_rule" "Scheme.without_rule" sSxr (ma K (ga K "Scheme") "without_rule") fd_Scheme_without_rule := fun_of Fk_Scheme_without_rule
  have b_Scheme_without_rule := F_Scheme_without_rule.binds (ps := ["self", "name"]) fun _ _ _ _ _ _ us hl => match us, hl with | [_, _], _ => rfl
  have m_Scheme_without_bar := meth_ok (ft 83 (f := .meth "Scheme" "without_bar") rfl)
  obtain ⟨fd_Scheme_without_bar, Fk_Scheme_without_bar⟩ := c.def_ 56 (d := d_Scheme_without_bar) rfl
  have Fk_Scheme_without_bar : FunD K "without_bar" "Scheme.without_bar" (defArgs sSxb) (defBody sSxb) (defScope sSxb) [] [] (ma K (ga K "Scheme") "without_bar") fd_Scheme_without_bar := Fk_Scheme_without_bar
  have F_Scheme_without_bar : Fun K "without_bar" "Scheme.without_bar" sSxb (ma K (ga K "Scheme") "without_bar") fd_Scheme_without_bar := fun_of Fk_Scheme_without_bar
  have b_Scheme_without_bar := F_Scheme_without_bar.binds (ps := ["self", "name"]) fun _ _ _ _ _ _ us hl => match us, hl with | [_, _], _ => rfl
  have m_Scheme_without_making := meth_ok (ft 84 (f := .meth "Scheme" "without_making") rfl)
  obtain ⟨fd_Scheme_without_making, Fk_Scheme_without_making⟩ := c.def_ 57 (d := d_Scheme_without_making) rfl
  have Fk_Scheme_without_making : FunD K "without_making" "Scheme.without_making" (defArgs sSxm) (defBody sSxm) (defScope sSxm) [] [] (ma K (ga K "Scheme") "without_making") fd_Scheme_without_making := Fk_Scheme_without_making
  have F_Scheme_without_making : Fun K "without_making" "Scheme.without_making" sSxm (ma K (ga K "Scheme") "without_making") fd_Scheme_without_making := fun_of Fk_Scheme_without_making
  have b_Scheme_without_making := F_Scheme_without_making.binds (ps := ["self", "maker", "made"]) fun _ _ _ _ _ _ us hl => match us, hl with | [_, _, _], _ => rfl
  have m_Scheme_sorts := meth_ok (ft 85 (f := .meth "Scheme" "sorts") rfl)
  obtain ⟨fd_Scheme_sorts, Fk_Scheme_sorts⟩ := c.def_ 58 (d := d_Scheme_sorts) rfl
  have Fk_Scheme_sorts : FunD K "sorts" "Scheme.sorts" (defArgs sSor) (defBody sSor) (defScope sSor) [] [] (ma K (ga K "Scheme") "sorts") fd_Scheme_sorts := Fk_Scheme_sorts
  have F_Scheme_sorts : Fun K "sorts" "Scheme.sorts" sSor (ma K (ga K "Scheme") "sorts") fd_Scheme_sorts := fun_of Fk_Scheme_sorts
  have b_Scheme_sorts := F_Scheme_sorts.binds (ps := ["self"]) fun _ _ _ _ _ _ us hl => match us, hl with | [_], _ => rfl
  have m_Scheme_words := meth_ok (ft 86 (f := .meth "Scheme" "words") rfl)
  obtain ⟨fd_Scheme_words, Fk_Scheme_words⟩ := c.def_ 59 (d := d_Scheme_words) rfl
  have Fk_Scheme_words : FunD K "words" "Scheme.words" (defArgs sWor) (defBody sWor) (defScope sWor) [] [] (ma K (ga K "Scheme") "words") fd_Scheme_words := Fk_Scheme_words
  have F_Scheme_words : Fun K "words" "Scheme.words" sWor (ma K (ga K "Scheme") "words") fd_Scheme_words := fun_of Fk_Scheme_words
  have b_Scheme_words := F_Scheme_words.binds (ps := ["self"]) fun _ _ _ _ _ _ us hl => match us, hl with | [_], _ => rfl
  have m_Scheme_makings := meth_ok (ft 87 (f := .meth "Scheme" "makings") rfl)
  obtain ⟨fd_Scheme_makings, Fk_Scheme_makings⟩ := c.def_ 60 (d := d_Scheme_makings) rfl
  have Fk_Scheme_makings : FunD K "makings" "Scheme.makings" (defArgs sSMk) (defBody sSMk) (defScope sSMk) [] [] (ma K (ga K "Scheme") "makings") fd_Scheme_makings := Fk_Scheme_makings
  have F_Scheme_makings : Fun K "makings" "Scheme.makings" sSMk (ma K (ga K "Scheme") "makings") fd_Scheme_makings := fun_of Fk_Scheme_makings
  have b_Scheme_makings := F_Scheme_makings.binds (ps := ["self"]) fun _ _ _ _ _ _ us hl => match us, hl with | [_], _ => rfl
  have m_Scheme_rules := meth_ok (ft 88 (f := .meth "Scheme" "rules") rfl)
  obtain ⟨fd_Scheme_rules, Fk_Scheme_rules⟩ := c.def_ 61 (d := d_Scheme_rules) rfl
  have Fk_Scheme_rules : FunD K "rules" "Scheme.rules" (defArgs sSRu) (defBody sSRu) (defScope sSRu) [] [] (ma K (ga K "Scheme") "rules") fd_Scheme_rules := Fk_Scheme_rules
  have F_Scheme_rules : Fun K "rules" "Scheme.rules" sSRu (ma K (ga K "Scheme") "rules") fd_Scheme_rules := fun_of Fk_Scheme_rules
  have b_Scheme_rules := F_Scheme_rules.binds (ps := ["self"]) fun _ _ _ _ _ _ us hl => match us, hl with | [_], _ => rfl
  have m_Scheme_bars := meth_ok (ft 89 (f := .meth "Scheme" "bars") rfl)
  obtain ⟨fd_Scheme_bars, Fk_Scheme_bars⟩ := c.def_ 62 (d := d_Scheme_bars) rfl
  have Fk_Scheme_bars : FunD K "bars" "Scheme.bars" (defArgs sSBa) (defBody sSBa) (defScope sSBa) [] [] (ma K (ga K "Scheme") "bars") fd_Scheme_bars := Fk_Scheme_bars
  have F_Scheme_bars : Fun K "bars" "Scheme.bars" sSBa (ma K (ga K "Scheme") "bars") fd_Scheme_bars := fun_of Fk_Scheme_bars
  have b_Scheme_bars := F_Scheme_bars.binds (ps := ["self"]) fun _ _ _ _ _ _ us hl => match us, hl with | [_], _ => rfl
  have t_abs := free_ok X G (ft 90 (f := .free "abs") rfl)
  have t_int := free_ok X G (ft 91 (f := .free "int") rfl)
  have t_len := free_ok X G (ft 92 (f := .free "len") rfl)
  have t_range := free_ok X G (ft 93 (f := .free "range") rfl)
  have t_all := free_ok X G (ft 94 (f := .free "all") rfl)
  have t_tuple := free_ok X G (ft 95 (f := .free "tuple") rfl)
  have t_enumerate := free_ok X G (ft 96 (f := .free "enumerate") rfl)
  have t_isinstance := free_ok X G (ft 97 (f := .free "isinstance") rfl)
  have t_ValueError := free_ok X G (ft 98 (f := .free "ValueError") rfl)
  have t_list := free_ok X G (ft 99 (f := .free "list") rfl)
  have t_str := free_ok X G (ft 100 (f := .free "str") rfl)
  have t_sum := free_ok X G (ft 101 (f := .free "sum") rfl)
  have e := hfa.symm.trans g_law
  cases e
  have T : TxB mg := ⟨t_abs, t_int, t_len, t_range, t_all, t_tuple, t_enumerate, t_isinstance, t_ValueError⟩
  have TN : TxN mg := ⟨str_ok X G (ft 102 rfl), str_ok X G (ft 103 rfl), int_ok X G (ft 104 rfl)⟩
  have TS : TxS mg := ⟨int_ok X G (ft 105 rfl), int_ok X G (ft 106 rfl), int_ok X G (ft 107 rfl), int_ok X G (ft 108 rfl)⟩
  have TP : TxP mg := ⟨int_ok X G (ft 109 rfl), int_ok X G (ft 110 rfl)⟩
  obtain ⟨dW0, FW⟩ := c.def_ 63 (d := dWho) rfl
  have FW : FunD K "__init__" "WhoError.__init__" (defArgs sW0) (defBody sW0) (defScope sW0) [.str (PySem.Str.ofString "whoerror")] [] (ma K (ga K "WhoError") "__init__") dW0 := FW
  obtain ⟨ds, hds, bW⟩ := FW.binds1 (ps := ["self", "kind"]) 2 1 (by simp) (by rfl) (fun T kV doc pm an cdv ct us its hu hi => match us, hu, its, hi with | [_, _], _, [_], _ => ⟨_, rfl, rfl⟩)
  cases hds
  have ww := whoB_ok qw
  have TW : WhoT K mg (ga K "WhoError") (ma K (ga K "WhoError") "__init__") dW0 := ⟨g_WhoError, ww.1, ww.2, FW.kp, bW⟩
  have E0 := errB_ok (x := "BadCount") qe0 g_BadCount
  have E1 := errB_ok (x := "NoName") qe1 g_NoName
  have E2 := errB_ok (x := "Twice") qe2 g_Twice
  have E3 := errB_ok (x := "NoSort") qe3 g_NoSort
  have E4 := errB_ok (x := "Upward") qe4 g_Upward
  have E5 := errB_ok (x := "NoWord") qe5 g_NoWord
  have E6 := errB_ok (x := "NoRule") qe6 g_NoRule
  have E7 := errB_ok (x := "NoBar") qe7 g_NoBar
  have E8 := errB_ok (x := "NoMaking") qe8 g_NoMaking
  obtain ⟨fM, iMf⟩ := ba fM
  obtain ⟨fR, iRf⟩ := ba fR
  obtain ⟨fB, iBf⟩ := ba fB
  have TE : TxE K mg (clsC K) (ga K "WhoError") := ⟨g_BadCount, g_Twice, g_NoSort, g_Upward, g_NoWord, g_NoRule, g_NoBar, g_NoMaking, g_WhoError, fun i hi ni => match i, hi, ni with
    | 0, _, _ => kitB_ok (C := clsC K) qk0 E0.2.2.1
    | 2, _, _ => kitB_ok (C := clsC K) qk2 E2.2.2.1
    | 3, _, _ => kitB_ok (C := clsC K) qk3 E3.2.2.1
    | 4, _, _ => kitB_ok (C := clsC K) qk4 E4.2.2.1
    | 5, _, _ => kitB_ok (C := clsC K) qk5 E5.2.2.1
    | 6, _, _ => kitB_ok (C := clsC K) qk6 E6.2.2.1
    | 7, _, _ => kitB_ok (C := clsC K) qk7 E7.2.2.1
    | 8, _, _ => kitB_ok (C := clsC K) qk8 E8.2.2.1
    | 1, _, ni => absurd rfl ni
    | n + 9, hi, _ => absurd hi (by omega), fun i hi => match i, hi with
    | 0, _ => E0.2.1
    | 1, _ => E1.2.1
    | 2, _ => E2.2.1
    | 3, _ => E3.2.1
    | 4, _ => E4.2.1
    | 5, _ => E5.2.1
    | 6, _ => E6.2.1
    | 7, _ => E7.2.1
    | 8, _ => E8.2.1
    | n + 9, hi => absurd hi (by omega), E0.1.nf, eqO_ok qn, E2.1.nf, E3.1.nf, E4.1.nf, eqO_ok qm, E5.1.nf, E6.1.nf, E7.1.nf, E8.1.nf, eqO_ok qm2⟩
  have TC : TxSch K mg (ga K "Scheme") (ma K (ga K "Scheme") "__init__") := ⟨cls_Scheme, na_Scheme_own_sorts, na_Scheme_own_words, na_Scheme_own_makings, na_Scheme_own_rules, na_Scheme_own_bars, g_Scheme, mk_Scheme⟩
  have TB : TxBar K mg (ga K "Bar") (ma K (ga K "Bar") "__init__") := ⟨cls_Bar, na_Bar_name, na_Bar_variables, na_Bar_conditions, g_Bar, mk_Bar⟩
  have TR : TxRul K mg (ga K "Rule") (ma K (ga K "Rule") "__init__") := ⟨cls_Rule, na_Rule_name, na_Rule_variables, na_Rule_conditions, na_Rule_gives, na_Rule_by, g_Rule, mk_Rule⟩
  have TM : TxMak K mg (ga K "Making") (ma K (ga K "Making") "__init__") := ⟨cls_Making, na_Making_maker, na_Making_made, na_Making_down, na_Making_up, g_Making, mk_Making⟩
  obtain ⟨dSi, FSi⟩ := c.def_ 64 (d := dSch) rfl
  have FSi : FunD K "__init__" "Scheme.__init__" (defArgs sSch) (defBody sSch) (defScope sSch) [.non, .non, .non] [] (ma K (ga K "Scheme") "__init__") dSi := FSi
  obtain ⟨dss, hdss, bSi⟩ := FSi.binds1 (ps := ["self", "sorts", "words", "makings", "rules", "bars"]) 6 3 (by simp) (by rfl) (fun T kV doc pm an cdv ct us its hu hi => match us, hu, its, hi with | [_, _, _, _, _, _], _, [_, _, _], _ => ⟨_, rfl, rfl⟩)
  cases hdss
  refine ⟨_, fun s v => FLb s [v] rfl, fun base _ _ => ?_⟩
  have GW : FnOk P w K mg base CX0 1 _ dW0 ["self", "kind"] (spWI K) := ok_who FW
  have GI0 : FnOk P w K mg base CX0 2 _ _ ["self", "what", "count"] (spEC (ga K "BadCount")) := ok_badcount F_BadCount___init__ E0.1 (eqO_ok qn) TW GW
  have GI1 : FnOk P w K mg base CX0 2 _ _ ["self", "name"] (spE1 (ga K "NoName") "name" "noname") := ok_noname F_NoName___init__ E1.1 TW GW
  have GI2 : FnOk P w K mg base CX0 2 _ _ ["self", "name"] (spE1 (ga K "Twice") "name" "twice") := ok_twice F_Twice___init__ E2.1 TW GW
  have GI3 : FnOk P w K mg base CX0 2 _ _ ["self", "name"] (spE1 (ga K "NoSort") "name" "nosort") := ok_nosort F_NoSort___init__ E3.1 TW GW
  have GI4 : FnOk P w K mg base CX0 2 _ _ ["self", "maker", "made"] (spEU (ga K "Upward")) := ok_upw F_Upward___init__ E4.1 (eqO_ok qm) TW GW
  have GI5 : FnOk P w K mg base CX0 2 _ _ ["self", "name"] (spE1 (ga K "NoWord") "name" "noword") := ok_noword F_NoWord___init__ E5.1 TW GW
  have GI6 : FnOk P w K mg base CX0 2 _ _ ["self", "name"] (spE1 (ga K "NoRule") "name" "norule") := ok_norule F_NoRule___init__ E6.1 TW GW
  have GI7 : FnOk P w K mg base CX0 2 _ _ ["self", "name"] (spE1 (ga K "NoBar") "name" "nobar") := ok_nobar F_NoBar___init__ E7.1 TW GW
  have GI8 : FnOk P w K mg base CX0 2 _ _ ["self", "maker", "made"] (spEM (ga K "NoMaking")) := ok_nomaking F_NoMaking___init__ E8.1 (eqO_ok qm2) TW GW
  have GIs : FnOk P w K mg base CX0 1 _ _ ["text"] spName := ok_name F_is_name T TN
  have GRN0 : FnOk P w K mg base (L2.CX P w) 4 _ _ ["texts"] (spRN K (clsC K 1)) := ok_rn F_refuse_no_name D_is_name GIs E1.1 b_NoName___init__ GI1
  have GRT0 : FnOk P w K mg base CX0 2 _ _ ["names"] (spFT K) := ok_rt F_refuse_twice T D_first_twice
  have GCP : FnOk P w K mg base (L2.CX P w) 5 _ _ ["name", "variables", "conditions", "given", "hands"] (spCP K (clsC K 1)) := ok_cp F_check_pattern T TP D_refuse_count D_refuse_no_name D_texts_of_pattern D_refuse_twice D_refuse_no_variable D_ends_of D_refuse_loose D_refuse_apart GRN0 GRT0
  have GB : FnOk P w K mg base (L2.CX P w) 6 _ _ ["self", "name", "variables", "conditions"] (spBar K (clsC K 1) (ga K "Bar")) := ok_bar F_Bar___init__ T TB D_tuple_of_tuples D_check_pattern GCP
  have GR : FnOk P w K mg base (L2.CX P w) 6 _ _ ["self", "name", "variables", "conditions", "gives", "by"] (spRul K (clsC K 1) (ga K "Rule")) := ok_rul F_Rule___init__ T TR D_tuple_of_tuples D_check_pattern GCP
  have GM : FnOk P w K mg base (L2.CX P w) 5 _ _ ["self", "maker", "made", "down", "up"] (spMak K (clsC K 1) (ga K "Making")) := ok_mak F_Making___init__ T TM D_refuse_no_name D_refuse_twice GRN0 GRT0
  have GRC : FnOk P w K mg base (L2N.CX P w) 4 _ _ ["what", "count", "least", "most"] (spRC2 (clsC K)) := ok_rc2 F_refuse_count E0.1 b_BadCount___init__ GI0
  have GRN : FnOk P w K mg base (L2N.CX P w) 4 _ _ ["texts"] (spRN2 K (clsC K)) := ok_rn2 F_refuse_no_name D_is_name GIs E1.1 b_NoName___init__ GI1
  have GRT : FnOk P w K mg base (L2N.CX P w) 4 _ _ ["names"] (spRT2 K (clsC K)) := ok_rt2 F_refuse_twice T D_first_twice E2.1 b_Twice___init__ GI2
  have GRM : FnOk P w K mg base (L2N.CX P w) 4 _ _ ["makings"] (spRM2 K (clsC K) (ga K "Making")) := ok_rm2 F_refuse_makings_twice T TM D_first_twice E2.1 b_Twice___init__ GI2
  have GNS : FnOk P w K mg base (L2N.CX P w) 4 _ _ ["sorts", "makings", "patterns"] (spNS2 K (clsC K) (ga K "Making")) := ok_ns2 F_refuse_no_sort TM E3.1 b_NoSort___init__ GI3
  have GRU : FnOk P w K mg base (L2N.CX P w) 4 _ _ ["sorts", "makings"] (spRU2 K (clsC K) (ga K "Making")) := ok_ru2 F_refuse_upward TM E4.1 b_Upward___init__ GI4
  have GNW : FnOk P w K mg base (L2N.CX P w) 4 _ _ ["words", "makings", "rules", "bars"] (spNW2 K (clsC K) (ga K "Making") (ga K "Rule") (ga K "Bar")) := ok_nw2 F_refuse_no_word TM TR TB E5.1 b_NoWord___init__ GI5
  have GCS : FnOk P w K mg base (L2N.CX P w) 5 _ _ ["sorts", "words", "makings", "rules", "bars"] (spCS2 K (clsC K) (ga K "Making") (ga K "Rule") (ga K "Bar")) := ok_cs2 F_check_scheme T TS TM TR TB ⟨D_refuse_count, D_refuse_no_name, D_refuse_twice, D_refuse_makings_twice, D_refuse_no_sort, D_refuse_upward, D_refuse_no_word, GRC, GRN, GRT, GRM, GNS, GRU, GNW⟩
  have GS : FnOk P w K mg base (L2N.CX P w) 6 _ dSi ["self", "sorts", "words", "makings", "rules", "bars"] (spSch K (clsC K) (ga K "Scheme") (ga K "Making") (ga K "Rule") (ga K "Bar")) := ok_sch FSi t_list TC D_own_list D_check_scheme GCS
  have GNm : FnOk P w K mg base CX0 2 _ _ ["_law_s", "_law_taken"] spNam := ok_nam F__law_name T t_str D__law_digit
  have GN : FnOk P w K mg base CX0 3 _ _ ["_law_s", "_law_many"] spNms := ok_nms F__law_names T D__law_name GNm
  have tM := insB_ok iM cls_Making
  have tR := insB_ok iR cls_Rule
  have tB := insB_ok iB cls_Bar
  have GME : FnOk P w K mg base CX0 1 _ _ ["self", "other"] (spME K (ga K "Making")) := ok_me F_Making___eq__ T TM tM.2
  have GRE : FnOk P w K mg base CX0 1 _ _ ["self", "other"] (spRE K (ga K "Rule")) := ok_re F_Rule___eq__ T TR tR.2
  have GBE : FnOk P w K mg base CX0 1 _ _ ["self", "other"] (spBE K (ga K "Bar")) := ok_be F_Bar___eq__ T TB tB.2
  have W7 : Kw7 P w K mg base (ga K "Making") (ga K "Rule") (ga K "Bar") _ _ _ _ _ _ := ⟨tM.1, tR.1, tB.1, eqO_ok fM, eqO_ok fR, eqO_ok fB, iMf, iRf, iBf, nM, nR, nB, GME, GRE, GBE, b_Making___eq__, b_Rule___eq__, b_Bar___eq__⟩
  have MT : Mth P w K mg base (clsC K) (ga K "Scheme") (ga K "Making") (ga K "Rule") (ga K "Bar") _ _ _ _ _ _ _ _ _ _ _ _ := ⟨m_Scheme_with_rule, b_Scheme_with_rule, ok_swr F_Scheme_with_rule TC bSi GS, m_Scheme_with_bar, b_Scheme_with_bar, ok_swb F_Scheme_with_bar TC bSi GS, m_Scheme_with_making, b_Scheme_with_making, ok_swm F_Scheme_with_making TC bSi GS,
    m_Scheme_without_rule, b_Scheme_without_rule, ok_sxr F_Scheme_without_rule T TC TR bSi E6.1 b_NoRule___init__ GI6 GS, m_Scheme_without_bar, b_Scheme_without_bar, ok_sxb F_Scheme_without_bar T TC TB bSi E7.1 b_NoBar___init__ GI7 GS, m_Scheme_without_making, b_Scheme_without_making, ok_sxm F_Scheme_without_making T TC TM bSi E8.1 b_NoMaking___init__ GI8 GS⟩
  have GRl : FnOk P w K mg base CX0 8 _ _ ["_law_part"] (spLrl K (ga K "Rule")) := ok_lrl (C := clsC K) F__law_rule TR b_Rule___init__ GR
  have GBr : FnOk P w K mg base CX0 8 _ _ ["_law_part"] (spLbr K (ga K "Bar")) := ok_lbr (C := clsC K) F__law_bar TB b_Bar___init__ GB
  have GMk : FnOk P w K mg base CX0 7 _ _ ["_law_part"] (spLmk K (ga K "Making")) := ok_lmk (C := clsC K) F__law_making t_list TM b_Making___init__ GM
  have GCh : FnOk P w K mg base CX0 4 _ _ ["_law_s", "_law_m"] spLch := ok_lch F__law_change T D__law_digit D__law_sort D__law_word D__law_pattern D__law_pattern_due D__law_making_due
  have GDn : FnOk P w K mg base (L2N.CX P w) 9 _ _ ["_law_scheme", "_law_deed", "_law_part"] (spLdn K (clsC K) (ga K "Scheme") (ga K "Making") (ga K "Rule") (ga K "Bar")) := ok_ldn F__law_done TC MT D__law_rule GRl D__law_bar GBr D__law_making GMk
  have GRt : FnOk P w K mg base CX0 9 _ _ ["_law_scheme", "_law_m"] (spLrt K (ga K "Scheme") (ga K "Making") (ga K "Rule") (ga K "Bar")) := ok_lrt F__law_right TC W7 D__law_rule GRl D__law_bar GBr D__law_making GMk m_Scheme_sorts b_Scheme_sorts (ok_sor F_Scheme_sorts t_list TC) m_Scheme_words b_Scheme_words (ok_wor F_Scheme_words t_list TC) m_Scheme_makings b_Scheme_makings (ok_smk F_Scheme_makings t_list TC) m_Scheme_rules b_Scheme_rules (ok_sru F_Scheme_rules t_list TC) m_Scheme_bars b_Scheme_bars (ok_sba F_Scheme_bars t_list TC)
  have GTl : FnEN P w K mg base 1 _ _ ["_law_e"] (spTld (clsC K)) := ok_tld F__law_told T t_sum TE
  exact ok_law F_law T t_list TE TC D__law_cell_at D__law_state D__law_digit D__law_names GN D__law_rule GRl D__law_bar GBr D__law_change GCh D__law_behind D__law_done GDn D__law_right GRt D__law_told GTl bSi GS
end Wm

open PySem PySem.W PySem.Calls PyProof.Rows
set_option maxRecDepth 100000 in
set_option maxHeartbeats 0 in
theorem PySem.Challenge.cw_whomay_k07_schemes_changed_holds : PySem.Challenge.rw_whomay_k07_schemes_changed.Holds := by
  w_on; o_law
  refine HandSHeadRun.head_any (r := OpenLaw.row PySem.Challenge.rw_whomay_k07_schemes_changed) (q := view (OpenLaw.row PySem.Challenge.rw_whomay_k07_schemes_changed).prog [72]) (H := Wm.hkW) (ob := Wm.obW) (M := 20000) (loose := Wm.loW) (d := HandSHeadRun.topDef (OpenLaw.row PySem.Challenge.rw_whomay_k07_schemes_changed).prog 72) (kwd := []) Wm.obW_eq
    (by kernel_rfl) (fun s => by kernel_rfl) Wm.runW (by kernel_rfl) (by kernel_rfl) (by kernel_rfl) (by rfl) (by first | assumption | decide +kernel) (by decide +kernel) ⟨rfl, rfl, rfl, rfl, rfl, by decide +kernel⟩ ?hw ?hc
  case hw => w_witness2
  case hc =>
    refine L2.walk_ofE (l := PySem.Challenge.rw_whomay_k07_schemes_changed) (n := 63) (k := 10) (x := "_law_script") (CX := L2.CX0) rfl (by decide) (by kernel_rfl) ⟨rfl, by decide, by decide⟩ ?F (fun _ _ _ _ z => z)
    intro w mg fa h Y G hmg0
    obtain ⟨K, KX, c⟩ := Y
    have hmg : mg ("law" : PySem.Str) = some (.ref fa) := by
      have e : (HandSHeadRun.topDef (OpenLaw.row PySem.Challenge.rw_whomay_k07_schemes_changed).prog 72).name = ("law" : PySem.Str) := by kernel_rfl
      rw [← e]
      exact hmg0
    obtain ⟨fd, hb, hF⟩ := Wm.facts (P := (PySem.Challenge.rw_whomay_k07_schemes_changed).prog) (w := w) KX G hmg c
    exact ⟨K, fd, Wm.spLaw K, KX, hb, fun H a ns hl _ hS => ⟨a, ns, rfl, hS, hl, fun _ => rfl⟩, hF⟩
