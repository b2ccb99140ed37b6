import PyProof.Rows.All
import Wide.All
import OpenK.AllK
import Wide.FinOn
import HandS.ForMost
import HandS.ForExc
import HandS.Walk
import HandS.Star
import HandS.Style
import HandS.TupAny
import HandS.ExcInit
import HandS.ExcIs
import HandS.ExcField
import HandS.Defaults
import HandS.Wide
import HandS.ClsMeth
import KE.KExcIs
import KE.GoesEnum
import HandS.FStr
import KE.KCallOwn
import HandS.OwnEq
import HandS.IsInst
import HandS.Deep
import HandS.HotCalls
import PyProof.SumWalkG
import PyProof.Rows.SumAny
import HandS.Conv
import KE.SortData
import KE.KDictList
import HandS.DictTup
import PyProof.DictMoreH
import HandS.ExcInitHot
import HandS.WordsExc
import HandS.ExcOwn
import HandS.MakeKwOnly
import HandS.MakeKw
import PyProof.NeKinds
import PyProof.EqAt
import PyProof.EqKinds
import HandS.TryOnly
import HandS.Words
import KE.KStateDown
import HandS.Head0
import HandS.Head1
import HandS.Head2
import HandS.HeadEnd
import HandS.HeadHook1
import HandS.HeadHook2
import PySem.Challenge.RW_whomay_k06_schemes_told
set_option Elab.async false
set_option linter.all false
set_option maxRecDepth 100000
set_option maxHeartbeats 4000000
namespace Wm
open PySem L2
def top (i : Nat) : Stmt := PySem.Challenge.pw_whomay_k06_schemes_told.main.body.getD i (.Pass ⟨0, 0, 0, 0⟩)
abbrev sState : Stmt := top 54
abbrev sDigit : Stmt := top 55
abbrev sW0 : Stmt := inClass (top 2) 0
abbrev sN0 : Stmt := inClass (top 3) 0
abbrev sName : Stmt := top 18
abbrev sRN : Stmt := top 19
abbrev sFT : Stmt := top 20
abbrev sRT : Stmt := top 21
abbrev sRC : Stmt := top 22
abbrev sTT : Stmt := top 38
abbrev sEO : Stmt := top 39
abbrev sTP : Stmt := top 40
abbrev sRV : Stmt := top 41
abbrev sRL : Stmt := top 42
abbrev sRA : Stmt := top 43
abbrev sCP : Stmt := top 44
abbrev sBar : Stmt := inClass (top 49) 0
abbrev sRul : Stmt := inClass (top 50) 0
abbrev sRE : Stmt := inClass (top 50) 1
abbrev sBE : Stmt := inClass (top 49) 1
abbrev sNam : Stmt := top 56
abbrev sNms : Stmt := top 57
abbrev sMak : Stmt := inClass (top 51) 0
abbrev sOL : Stmt := top 28
abbrev sRMT : Stmt := top 29
abbrev sRNS : Stmt := top 30
abbrev sRU : Stmt := top 31
abbrev sRNW : Stmt := top 32
abbrev sCS : Stmt := top 33
abbrev sSch : Stmt := inClass (top 34) 0
abbrev sSMk : Stmt := inClass (top 34) 3
abbrev sSRu : Stmt := inClass (top 34) 4
abbrev sSBa : Stmt := inClass (top 34) 5
abbrev sSor : Stmt := inClass (top 34) 1
abbrev sWor : Stmt := inClass (top 34) 2
abbrev sRle : Stmt := top 58
abbrev sMkg : Stmt := top 59
abbrev sMdl : Stmt := top 60
abbrev sNR : Stmt := inClass (top 12) 0
abbrev sSR1 : Stmt := inClass (top 34) 6
abbrev sSB1 : Stmt := inClass (top 34) 7
abbrev sNB : Stmt := inClass (top 13) 0
abbrev sBrs : Stmt := top 61
abbrev sAsk : Stmt := top 62
abbrev sCel : Stmt := top 53
abbrev sLaw : Stmt := top 63
end Wm
/-! a head by one run: what is asked of the written part is one Bool of one's own -/
namespace Wm
open PySem PySem.Spec PyProof.Rows L2 He ClX
def obsM (ck : PySem.W.Frag → Bool) (fn : List DefD) (K : PySem.W.Frag) : AlD := (ck K && fn.all fun d => d.ok K, fn.map fun d => fnW K d.at_)
def SaysM (ck : PySem.W.Frag → Bool) (fn : List DefD) (K : PySem.W.Frag) : Prop := obsM ck fn K = valD fn
/-- what the module's names, and what the C code keeps, reach in n steps -/
def asM (g : Addr → Option Obj) : Nat → List Addr
  | 0 => [mainGlobals, cStatics]
  | n + 1 => growD g (asM g n)
def obsMG (n : Nat) (ck : PySem.W.Frag → Bool) (fn : List DefD) (g : Addr → Option Obj) : AlD := obsM ck fn (frG g (asM g n))
def hookM (n : Nat) (ck : PySem.W.Frag → Bool) (fn : List DefD) : PySem.W.Hook where
  α := AlD
  obs := fun s => obsMG n ck fn s.heap.get?
  val := fun _ => valD fn
  says := fun _ h => ∃ K : PySem.W.Frag, K.In h ∧ SaysM ck fn K
  of := fun _ _ e => ⟨_, frG_in, e⟩
  keeps := fun _ _ _ ⟨K, hK, c⟩ k => ⟨K, PySem.W.Frag.In.keeps hK k, c⟩
theorem obsMG_eq {n : Nat} {ck : PySem.W.Frag → Bool} {fn : List DefD} {g : Addr → Option Obj} {s : Shared} (h : ∀ a, g a = s.heap.get? a) : obsMG n ck fn g = (hookM n ck fn).obs s := by
  have e : g = s.heap.get? := funext h
  rw [e] <;> rfl
section
variable {ck : PySem.W.Frag → Bool} {fn : List DefD} {K : PySem.W.Frag}
theorem SaysM.says (c : SaysM ck fn K) : ck K = true := (ba (show (ck K && fn.all fun d => d.ok K) = true from congrArg (fun z : AlD => z.1) c)).1
theorem SaysM.def_ (c : SaysM ck fn K) (i : Nat) {d : DefD} (h : fn[i]? = some d := by rfl) : ∃ fd, FunD K d.name d.qual d.params d.body d.scope (d.dvs K) (d.kws K) (fAd K d.at_) fd := by
  have c2 := (ba (show (ck K && fn.all fun d => d.ok K) = true from congrArg (fun z : AlD => z.1) c)).2
  have e : fn.map (fun d => fnW K d.at_) = fn.map DefD.val := congrArg (fun z : AlD => z.2) c
  have e2 : (fn.map fun d => fnW K d.at_)[i]? = (fn.map DefD.val)[i]? := by rw [e]
  rw [List.getElem?_map, List.getElem?_map, h] at e2
  exact DefD.funD (Option.some.inj e2) (List.all_eq_true.mp c2 d (List.mem_of_getElem? h))
end
/-- a def without defaults -/
theorem fun_of {K : PySem.W.Frag} {x q : Str} {st : Stmt} {f : Addr} {fd : FuncData} (F : FunD K x q (defArgs st) (defBody st) (defScope st) [] [] f fd) : Fun K x q st f fd := by
  obtain ⟨oc, od, dV, kV, doc, pm, an, cdv, ct, osl, rfl, l, c, d, _⟩ := F.ex
  have e : dV = .none := by
    rcases d with ⟨_, e⟩ | ⟨n, _⟩
    · exact e
    · exact absurd rfl n
  subst e
  exact ⟨⟨oc, od, kV, doc, pm, an, cdv, ct, osl, rfl, l, c⟩, F.kp⟩
/-- an error class whose objects are made by an __init__ of its own -/
def excB (K : PySem.W.Frag) (C : Addr) : Bool := match K.lookup C with
  | some ⟨.type "type", _, .cls cd, sl⟩ => (match cd.mro, sl.toList with
    | .ref C' :: bm, [_, _, _, _, some (.builtin n), _] => C' == C && (n == "ValueError.__new__" && (!cd.hasDel && (cd.hasDict && PySem.HandSPX.refsVE bm)))
    | _, _ => false)
  | _ => false
theorem excB_ok {K : PySem.W.Frag} {C : Addr} (q : excB K C = true) : ∃ nm q N bs bm sn sub ab col dd k0 k1 k2 k3 k5, K.lookup C = some (excClassObj nm q C N bs bm true sn sub ab col dd k0 k1 k2 k3 k5 "ValueError.__new__") ∧ PySem.HandSPX.refsVE bm = true := by
  unfold excB at q
  split at q
  · rename_i dd cd sl ho
    split at q
    · rename_i C' bm k0 k1 k2 k3 n k5 hm hs
      simp only [Bool.and_eq_true, beq_iff_eq, Bool.not_eq_true'] at q
      obtain ⟨rfl, rfl, hdel, hdi, ht⟩ := q
      obtain ⟨nm, bs, mro, ns, qn, hd, sn, sub, ab, col, del⟩ := cd
      dsimp only at hm hdel hdi
      subst hm hdel hdi
      have hsl : sl = #[k0, k1, k2, k3, some (.builtin "ValueError.__new__"), k5] := by
        obtain ⟨l⟩ := sl
        simp only at hs
        rw [hs]
      subst hsl
      exact ⟨nm, qn, ns, bs, bm, sn, sub, ab, col, dd, k0, k1, k2, k3, k5, ho, ht⟩
    · cases q
  · cases q
/-- WhoError, whose __init__ the others call -/
def whoB (K : PySem.W.Frag) (W : Addr) : Bool := PySem.W.readsIn K W (.type "type") && (eqO (PySem.W.specialIn K (.ref W) "__getattribute__") (some (some (.builtin "type.__getattribute__"))) && (match PySem.W.findCls K (.ref W) (.type "type") "__init__" with
  | some (.val (.ref a)) => decide (a = ma K W "__init__")
  | _ => false))
theorem whoB_ok {K : PySem.W.Frag} {W : Addr} (h : whoB K W = true) : CRead K W (.type "type") ∧ PySem.W.findCls K (.ref W) (.type "type") "__init__" = some (.val (.ref (ma K W "__init__"))) := by
  unfold whoB at h
  obtain ⟨h1, h⟩ := ba h
  obtain ⟨h2, h3⟩ := ba h
  refine ⟨⟨h1, eqO_ok h2⟩, ?_⟩
  split at h3
  · rename_i a e
    rw [e, of_decide_eq_true h3]
  · cases h3
end Wm
/-! the reached fragment, gone through once: what was seen is kept as bits of a number -/
namespace Wm
open PySem PySem.Spec PyProof.Rows L2 He ClX
noncomputable def pushB (as : List Addr) : Nat → List Addr → Nat × List Addr := List.rec (motive := fun _ => Nat → List Addr → Nat × List Addr) (fun v acc => (v, acc)) (fun a _ ih v acc => Bool.rec (motive := fun _ => Nat × List Addr) (ih (Nat.lor v (Nat.shiftLeft 1 a)) (a :: acc)) (ih v acc) (Nat.beq (Nat.mod (Nat.shiftRight v a) 2) 1)) as
noncomputable def lvB (g : Addr → Option Obj) (n : Nat) : List Addr → Nat → List Addr := Nat.rec (motive := fun _ => List Addr → Nat → List Addr) (fun fr _ => fr) (fun _ ih fr v => fr ++ (match pushB (fr.flatMap fun a => match g a with
  | some o => refsD o
  | none => []) v [] with
  | (v', nf) => ih nf v')) n
noncomputable def asB (g : Addr → Option Obj) (n : Nat) : List Addr := lvB g n [mainGlobals, cStatics] (Nat.lor (Nat.shiftLeft 1 mainGlobals) (Nat.shiftLeft 1 cStatics))
noncomputable def obsBG (n : Nat) (ck : PySem.W.Frag → Bool) (fn : List DefD) (g : Addr → Option Obj) : AlD := obsM ck fn (frG g (asB g n))
noncomputable def hookB (n : Nat) (ck : PySem.W.Frag → Bool) (fn : List DefD) : PySem.W.Hook where
  α := AlD
  obs := fun s => obsBG n ck fn s.heap.get?
  val := fun _ => valD fn
  says := fun _ h => ∃ K : PySem.W.Frag, K.In h ∧ SaysM ck fn K
  of := fun _ _ e => ⟨_, frG_in, e⟩
  keeps := fun _ _ _ ⟨K, hK, c⟩ k => ⟨K, PySem.W.Frag.In.keeps hK k, c⟩
theorem obsBG_eq {n : Nat} {ck : PySem.W.Frag → Bool} {fn : List DefD} {g : Addr → Option Obj} {s : Shared} (h : ∀ a, g a = s.heap.get? a) : obsBG n ck fn g = (hookB n ck fn).obs s := by
  have e : g = s.heap.get? := funext h
  rw [e] <;> rfl
end Wm
/-! the run's equation in two: what is looked at behind the top, and the facts, each by a run of its own -/
namespace Wm
open PySem PySem.W PySem.Calls PyProof.Rows HandSHeadRun
noncomputable def RunA (r : OpenRow) (q : Program) (M : Nat) (loose : List PySem.Str) (w : World) : Prop :=
  ∀ os : OsState, (endF (stepQ (denQ tabQ) r.prog w) M r.prog w os).map (fun s => (looksF r.prog (boot_heap w.params) s.abs, seenQ q loose (importedModules r.prog.main.body) (fun s => xlAt q [] s && recOk r.toRowW.records s) s.abs)) = some (true, openGood q loose)
noncomputable def RunB (r : OpenRow) (H : Hook) (ob : SharedT → H.α) (M : Nat) (w : World) : Prop :=
  ∀ os : OsState, (endF (stepQ (denQ tabQ) r.prog w) M r.prog w os).map ob = some (H.val w)
theorem runEq_of {r : OpenRow} {q : Program} {H : Hook} {ob : SharedT → H.α} {M : Nat} {loose : List PySem.Str} {w : World} (a : RunA r q M loose w) (b : RunB r H ob M w) : RunEq r q H ob M loose w := fun os => by
  have a := a os
  have b := b os
  revert a b
  generalize endF (stepQ (denQ tabQ) r.prog w) M r.prog w os = z
  cases z with
  | none =>
    intro a
    cases a
  | some s =>
    intro a b
    have e1 := Option.some.inj a
    have e2 : ob s = H.val w := Option.some.inj b
    obtain ⟨e3, e4⟩ := Prod.mk.inj e1
    show some (_, _, _) = _
    rw [e2]
    exact congrArg some (Prod.ext e3 (Prod.ext e4 rfl))
end Wm
namespace Wm
open PySem L2 He ClX StX
/-- what is asked of an error class of one field -/
def errB (K : PySem.W.Frag) (C fI : Addr) (f : Str) : Bool :=
  eqO (PySem.W.findIn K (.ref C) "__setattr__") (some (some (.builtin "object.__setattr__"))) && (decide (PySem.W.subIn K (.ref C) (.type "BaseException") = some true) && (decide (PySem.W.typeIn K (.ref C) = some (.type "type")) && (PySem.W.keepIn K (.ref C) &&
  (decide (PySem.W.typeIn K (.ref fI) = some (.type "function")) && (eqO (PySem.W.findIn K (.ref C) "kind") (some none) && (eqO (PySem.W.findIn K (.ref C) f) (some none) && (eqO (PySem.W.findIn K (.ref C) "__getattribute__") (some (some (.builtin "BaseException.__getattribute__"))) &&
  (eqO (PySem.W.findIn K (.ref C) "__getattr__") (some none) && (PySem.W.hasDictIn K C && (eqO (PySem.W.findIn K (.ref C) "__class__") (some (some (.builtin "object.__class__"))) && (decide (PySem.W.mroIn K C (.type "object") = some true) &&
  (eqO (PySem.W.findIn K (.ref C) "__init__") (some (some (.ref fI))) && (excB K C && (decide (PySem.W.exmOne K (.ref C) (.ref C) = some true) && (eqO (PySem.W.specialIn K (.builtin "object.__class__") "__get__") (some (some (.builtin "getset_descriptor.__get__"))) && decide (PySem.W.takesIn K (.builtin "object.__class__") = some true))))))))))))))))
def strKB (es : Array DictEntry) : Bool := es.toList.all fun e => match e.key with | .str _ _ => true | _ => false
/-- a class with an __eq__ of its own and no __ne__ -/
def eqneB (K : PySem.W.Frag) (C f : Addr) : Bool := match K.lookup C with
  | some ⟨.type "type", _, .cls cd, sl⟩ => (match cd.mro, sl.toList, K.lookup cd.ns, K.lookup f with
    | [.ref C', .type "object"], [_, _, _, _, some (.builtin _), _], some ⟨_, _, .dict es _, _⟩, some of => C' == C && (!cd.hasDel && (strKB es && (decide (nsFind es "__eq__" = some (.ref f)) && (decide (nsFind es "__ne__" = none) && decide (of.cls = .type "function")))))
    | _, _, _, _ => false)
  | _ => false
def insB (K : PySem.W.Frag) (C : Addr) : Bool := eqO (PySem.W.findIn K (.ref C) "__class__") (some (some (.builtin "object.__class__"))) && (decide (PySem.W.mroIn K C (.type "object") = some true) && (eqO (PySem.W.specialIn K (.builtin "object.__class__") "__get__") (some (some (.builtin "getset_descriptor.__get__"))) && (decide (PySem.W.takesIn K (.builtin "object.__class__") = some true) && decide (PySem.W.kitOne K (.ref C) (.ref C) = some true))))
def factL : List Fa := [.glo "WhoError", .glo "NoName", .glo "NoRule", .glo "NoBar", .glo "is_name", .glo "refuse_no_name", .glo "first_twice", .glo "refuse_twice", .glo "refuse_count", .glo "own_list", .glo "refuse_makings_twice", .glo "refuse_no_sort", .glo "refuse_upward", .glo "refuse_no_word", .glo "check_scheme", .glo "tuple_of_tuples", .glo "ends_of", .glo "texts_of_pattern", .glo "refuse_no_variable", .glo "refuse_loose", .glo "refuse_apart", .glo "check_pattern", .glo "_law_cell_at", .glo "_law_state", .glo "_law_digit", .glo "_law_name", .glo "_law_names", .glo "_law_rule", .glo "_law_making", .glo "_law_model", .glo "_law_bars", .glo "_law_asked", .glo "law", .glo "Scheme", .cls "Scheme", .noat "Scheme" "own_sorts", .noat "Scheme" "own_words", .noat "Scheme" "own_makings", .noat "Scheme" "own_rules", .noat "Scheme" "own_bars", .mkr "Scheme", .glo "Bar", .cls "Bar", .noat "Bar" "name", .noat "Bar" "variables", .noat "Bar" "conditions", .mkr "Bar", .glo "Rule", .cls "Rule", .noat "Rule" "name", .noat "Rule" "variables", .noat "Rule" "conditions", .noat "Rule" "gives", .noat "Rule" "by", .mkr "Rule", .glo "Making", .cls "Making", .noat "Making" "maker", .noat "Making" "made", .noat "Making" "down", .noat "Making" "up", .mkr "Making", .meth "Bar" "__eq__", .meth "Rule" "__eq__", .meth "Scheme" "sorts", .meth "Scheme" "words", .meth "Scheme" "makings", .meth "Scheme" "rules", .meth "Scheme" "bars", .meth "Scheme" "rule", .meth "Scheme" "bar", .free "abs", .free "int", .free "len", .free "range", .free "all", .free "tuple", .free "enumerate", .free "isinstance", .free "ValueError", .free "list", .free "str", .free "min", .str "LETTERS" "abcdefghijklmnopqrstuvwxyz", .str "FIGURES" "0123456789", .int "LONGEST_NAME" 12, .int "MOST_SORTS" 4, .int "MOST_WORDS" 5, .int "MOST_RULES" 8, .int "MOST_BARS" 4, .int "MOST_VARIABLES" 4, .int "MOST_CONDITIONS" 3]
def ck (K : PySem.W.Frag) : Bool := factL.all (fun f => f.ok K) && (whoB K (ga K "WhoError") && (errB K (ga K "NoName") (ma K (ga K "NoName") "__init__") "name" && (errB K (ga K "NoRule") (ma K (ga K "NoRule") "__init__") "name" && (errB K (ga K "NoBar") (ma K (ga K "NoBar") "__init__") "name" && (decide (PySem.W.kitOne K (.ref (ga K "NoRule")) (.ref (ga K "WhoError")) = some true) && (decide (PySem.W.kitOne K (.ref (ga K "NoRule")) (.ref (ga K "NoBar")) = some false) && (decide (PySem.W.kitOne K (.ref (ga K "NoBar")) (.ref (ga K "WhoError")) = some true) && (decide (PySem.W.kitOne K (.ref (ga K "NoBar")) (.ref (ga K "NoRule")) = some false) && (eqneB K (ga K "Rule") (ma K (ga K "Rule") "__eq__") && (eqneB K (ga K "Bar") (ma K (ga K "Bar") "__eq__") && (insB K (ga K "Rule") && (insB K (ga K "Bar")))))))))))))
def d_is_name : DefD := ⟨("is_name", none), "is_name", "is_name", defArgs sName, defBody sName, defScope sName, [], []⟩
def d_refuse_no_name : DefD := ⟨("refuse_no_name", none), "refuse_no_name", "refuse_no_name", defArgs sRN, defBody sRN, defScope sRN, [], []⟩
def d_first_twice : DefD := ⟨("first_twice", none), "first_twice", "first_twice", defArgs sFT, defBody sFT, defScope sFT, [], []⟩
def d_refuse_twice : DefD := ⟨("refuse_twice", none), "refuse_twice", "refuse_twice", defArgs sRT, defBody sRT, defScope sRT, [], []⟩
def d_refuse_count : DefD := ⟨("refuse_count", none), "refuse_count", "refuse_count", defArgs sRC, defBody sRC, defScope sRC, [], []⟩
def d_own_list : DefD := ⟨("own_list", none), "own_list", "own_list", defArgs sOL, defBody sOL, defScope sOL, [], []⟩
def d_refuse_makings_twice : DefD := ⟨("refuse_makings_twice", none), "refuse_makings_twice", "refuse_makings_twice", defArgs sRMT, defBody sRMT, defScope sRMT, [], []⟩
def d_refuse_no_sort : DefD := ⟨("refuse_no_sort", none), "refuse_no_sort", "refuse_no_sort", defArgs sRNS, defBody sRNS, defScope sRNS, [], []⟩
def d_refuse_upward : DefD := ⟨("refuse_upward", none), "refuse_upward", "refuse_upward", defArgs sRU, defBody sRU, defScope sRU, [], []⟩
def d_refuse_no_word : DefD := ⟨("refuse_no_word", none), "refuse_no_word", "refuse_no_word", defArgs sRNW, defBody sRNW, defScope sRNW, [], []⟩
def d_check_scheme : DefD := ⟨("check_scheme", none), "check_scheme", "check_scheme", defArgs sCS, defBody sCS, defScope sCS, [], []⟩
def d_tuple_of_tuples : DefD := ⟨("tuple_of_tuples", none), "tuple_of_tuples", "tuple_of_tuples", defArgs sTT, defBody sTT, defScope sTT, [], []⟩
def d_ends_of : DefD := ⟨("ends_of", none), "ends_of", "ends_of", defArgs sEO, defBody sEO, defScope sEO, [], []⟩
def d_texts_of_pattern : DefD := ⟨("texts_of_pattern", none), "texts_of_pattern", "texts_of_pattern", defArgs sTP, defBody sTP, defScope sTP, [], []⟩
def d_refuse_no_variable : DefD := ⟨("refuse_no_variable", none), "refuse_no_variable", "refuse_no_variable", defArgs sRV, defBody sRV, defScope sRV, [], []⟩
def d_refuse_loose : DefD := ⟨("refuse_loose", none), "refuse_loose", "refuse_loose", defArgs sRL, defBody sRL, defScope sRL, [], []⟩
def d_refuse_apart : DefD := ⟨("refuse_apart", none), "refuse_apart", "refuse_apart", defArgs sRA, defBody sRA, defScope sRA, [], []⟩
def d_check_pattern : DefD := ⟨("check_pattern", none), "check_pattern", "check_pattern", defArgs sCP, defBody sCP, defScope sCP, [], []⟩
def d__law_cell_at : DefD := ⟨("_law_cell_at", none), "_law_cell_at", "_law_cell_at", defArgs sCel, defBody sCel, defScope sCel, [], []⟩
def d__law_state : DefD := ⟨("_law_state", none), "_law_state", "_law_state", defArgs sState, defBody sState, defScope sState, [], []⟩
def d__law_digit : DefD := ⟨("_law_digit", none), "_law_digit", "_law_digit", defArgs sDigit, defBody sDigit, defScope sDigit, [], []⟩
def d__law_name : DefD := ⟨("_law_name", none), "_law_name", "_law_name", defArgs sNam, defBody sNam, defScope sNam, [], []⟩
def d__law_names : DefD := ⟨("_law_names", none), "_law_names", "_law_names", defArgs sNms, defBody sNms, defScope sNms, [], []⟩
def d__law_rule : DefD := ⟨("_law_rule", none), "_law_rule", "_law_rule", defArgs sRle, defBody sRle, defScope sRle, [], []⟩
def d__law_making : DefD := ⟨("_law_making", none), "_law_making", "_law_making", defArgs sMkg, defBody sMkg, defScope sMkg, [], []⟩
def d__law_model : DefD := ⟨("_law_model", none), "_law_model", "_law_model", defArgs sMdl, defBody sMdl, defScope sMdl, [], []⟩
def d__law_bars : DefD := ⟨("_law_bars", none), "_law_bars", "_law_bars", defArgs sBrs, defBody sBrs, defScope sBrs, [], []⟩
def d__law_asked : DefD := ⟨("_law_asked", none), "_law_asked", "_law_asked", defArgs sAsk, defBody sAsk, defScope sAsk, [], []⟩
def d_law : DefD := ⟨("law", none), "law", "law", defArgs sLaw, defBody sLaw, defScope sLaw, [], []⟩
def d_NoName___init__ : DefD := ⟨("NoName", some "__init__"), "__init__", "NoName.__init__", defArgs sN0, defBody sN0, defScope sN0, [], []⟩
def d_NoRule___init__ : DefD := ⟨("NoRule", some "__init__"), "__init__", "NoRule.__init__", defArgs sNR, defBody sNR, defScope sNR, [], []⟩
def d_NoBar___init__ : DefD := ⟨("NoBar", some "__init__"), "__init__", "NoBar.__init__", defArgs sNB, defBody sNB, defScope sNB, [], []⟩
def d_Bar___init__ : DefD := ⟨("Bar", some "__init__"), "__init__", "Bar.__init__", defArgs sBar, defBody sBar, defScope sBar, [], []⟩
def d_Rule___init__ : DefD := ⟨("Rule", some "__init__"), "__init__", "Rule.__init__", defArgs sRul, defBody sRul, defScope sRul, [], []⟩
def d_Making___init__ : DefD := ⟨("Making", some "__init__"), "__init__", "Making.__init__", defArgs sMak, defBody sMak, defScope sMak, [], []⟩
def d_Bar___eq__ : DefD := ⟨("Bar", some "__eq__"), "__eq__", "Bar.__eq__", defArgs sBE, defBody sBE, defScope sBE, [], []⟩
def d_Rule___eq__ : DefD := ⟨("Rule", some "__eq__"), "__eq__", "Rule.__eq__", defArgs sRE, defBody sRE, defScope sRE, [], []⟩
def d_Scheme_sorts : DefD := ⟨("Scheme", some "sorts"), "sorts", "Scheme.sorts", defArgs sSor, defBody sSor, defScope sSor, [], []⟩
def d_Scheme_words : DefD := ⟨("Scheme", some "words"), "words", "Scheme.words", defArgs sWor, defBody sWor, defScope sWor, [], []⟩
def d_Scheme_makings : DefD := ⟨("Scheme", some "makings"), "makings", "Scheme.makings", defArgs sSMk, defBody sSMk, defScope sSMk, [], []⟩
def d_Scheme_rules : DefD := ⟨("Scheme", some "rules"), "rules", "Scheme.rules", defArgs sSRu, defBody sSRu, defScope sSRu, [], []⟩
def d_Scheme_bars : DefD := ⟨("Scheme", some "bars"), "bars", "Scheme.bars", defArgs sSBa, defBody sSBa, defScope sSBa, [], []⟩
def d_Scheme_rule : DefD := ⟨("Scheme", some "rule"), "rule", "Scheme.rule", defArgs sSR1, defBody sSR1, defScope sSR1, [], []⟩
def d_Scheme_bar : DefD := ⟨("Scheme", some "bar"), "bar", "Scheme.bar", defArgs sSB1, defBody sSB1, defScope sSB1, [], []⟩
def dWho : DefD := ⟨("WhoError", some "__init__"), "__init__", "WhoError.__init__", defArgs sW0, defBody sW0, defScope sW0, [.str "whoerror"], []⟩
def dSch : DefD := ⟨("Scheme", some "__init__"), "__init__", "Scheme.__init__", defArgs sSch, defBody sSch, defScope sSch, [.non, .non, .non], []⟩
def fnL : List DefD := [d_is_name, d_refuse_no_name, d_first_twice, d_refuse_twice, d_refuse_count, d_own_list, d_refuse_makings_twice, d_refuse_no_sort, d_refuse_upward, d_refuse_no_word, d_check_scheme, d_tuple_of_tuples, d_ends_of, d_texts_of_pattern, d_refuse_no_variable, d_refuse_loose, d_refuse_apart, d_check_pattern, d__law_cell_at, d__law_state, d__law_digit, d__law_name, d__law_names, d__law_rule, d__law_making, d__law_model, d__law_bars, d__law_asked, d_law, d_NoName___init__, d_NoRule___init__, d_NoBar___init__, d_Bar___init__, d_Rule___init__, d_Making___init__, d_Bar___eq__, d_Rule___eq__, d_Scheme_sorts, d_Scheme_words, d_Scheme_makings, d_Scheme_rules, d_Scheme_bars, d_Scheme_rule, d_Scheme_bar, dWho, dSch]
end Wm
set_option maxHeartbeats 0
namespace Wm
open PySem PySem.W PySem.Calls PyProof.Rows
abbrev RW : OpenRow := OpenLaw.row PySem.Challenge.rw_whomay_k06_schemes_told
noncomputable abbrev hkW : Hook := hookB 4 ck fnL
noncomputable def obW (s : SharedT) : He.AlD := obsBG 4 ck fnL (HandSHeadRun.getT s)
theorem obW_eq (s : SharedT) : obW s = hkW.obs s.abs := obsBG_eq (HandSHeadRun.getT_eq s)
def lo0 : List PySem.Str := ["_wall", "WhoError", "NoName", "BadCount", "Twice", "NoVariable", "Loose", "Apart", "NoSort", "Upward", "NoWord", "NoRule", "NoBar", "LETTERS", "FIGURES", "LONGEST_NAME", "is_name", "refuse_no_name", "first_twice", "refuse_twice", "refuse_count", "MOST_SORTS", "MOST_WORDS", "MOST_RULES", "MOST_BARS", "own_list", "refuse_makings_twice", "refuse_no_sort", "refuse_upward", "refuse_no_word"]
def lo1 : List PySem.Str := ["check_scheme", "Scheme", "MOST_VARIABLES", "MOST_CONDITIONS", "tuple_of_tuples", "ends_of", "texts_of_pattern", "refuse_no_variable", "refuse_loose", "refuse_apart", "check_pattern", "variable_part", "pattern_parts", "rule_parts", "making_parts", "Bar", "Rule", "Making", "_law_cell_at", "_law_state", "_law_digit", "_law_name", "_law_names", "_law_rule", "_law_making", "_law_model", "_law_bars", "_law_asked"]
def loW : List PySem.Str := lo0 ++ lo1
theorem runWA (w : World) : RunA RW (view RW.prog [63]) 20000 loW w := by
  intro os
  kernel_rfl
theorem runWB (w : World) : RunB RW hkW obW 20000 w := by
  intro os
  kernel_rfl
theorem runW (w : World) : HandSHeadRun.RunEq RW (view RW.prog [63]) hkW obW 20000 loW w := runEq_of (runWA w) (runWB w)
end Wm
namespace Wm
open PySem L2
/-- the digits' state at p -/
def StOk (H : Hp) (p : Addr) : Prop := ∃ a b c : Int, H p = some (.lst [.int a, .int b, .int c]) ∧ 0 ≤ a ∧ 0 ≤ b ∧ b ≤ 2147483636 ∧ 0 ≤ c ∧ c < 2147483648
/-- all that was tracked is as it was, but at p -/
def But (p : Addr) (H H' : Hp) : Prop := ∀ q o, q ≠ p → H q = some o → H' q = some o
theorem But.refl (p : Addr) (H : Hp) : But p H H := fun _ _ _ h => h
theorem But.trans {p : Addr} {H H1 H2 : Hp} (a : But p H H1) (b : But p H1 H2) : But p H H2 := fun q o n h => b q o n (a q o n h)
theorem But.upd {p : Addr} {H : Hp} {o : HO} : But p H (upd H p o) := fun q o n h => by rw [upd_ne n]; exact h
theorem Same.but {p : Addr} {H H1 : Hp} (a : Same H H1) : But p H H1 := fun q o _ h => a q o h
theorem Same.upd {p : Addr} {H : Hp} {o : HO} (n : H p = none) : Same H (upd H p o) := fun q o h => by rw [upd_ne (ne_of_none h n)]; exact h
theorem But.same {p : Addr} {H0 H H1 : Hp} (n : H0 p = none) (a : Same H0 H) (b : But p H H1) : Same H0 H1 := fun q o h => b q o (ne_of_none h n) (a q o h)
def spState : Sp := fun vs H Q _ => ∃ i : Int, vs = [.int i] ∧ ∀ p H', H p = none → Same H H' → StOk H' p → Q (.ref p) H'
def spDigit : Sp := fun vs H Q _ => ∃ (p : Addr) (n : Int), vs = [.ref p, .int n] ∧ StOk H p ∧ 0 < n ∧ n < 1073741824 ∧ ∀ (d : Int) H', 0 ≤ d → d < n → But p H H' → StOk H' p → Q (.int d) H'
structure TxB (mg : Str → Option Value) : Prop where
  abs : mg "abs" = none
  int : mg "int" = none
  len : mg "len" = none
  range : mg "range" = none
  all : mg "all" = none
  tuple : mg "tuple" = none
  enumerate : mg "enumerate" = none
  isinstance : mg "isinstance" = none
  ve : mg "ValueError" = none
section
variable {P : Program} {w : World} {K : PySem.W.Frag} {mg : Str → Option Value} {base : Heap}
theorem scState : FnScope ["_law_cell"] ["_law_cell"] (defScope sState) := ⟨rfl, rfl, rfl, by decide +kernel, rfl, by decide +kernel, by decide +kernel⟩
theorem ok_state {f : Addr} {fd : FuncData} (F : Fun K "_law_state" "_law_state" sState f fd) (T : TxB mg) : FnOk P w K mg base CX0 1 f fd ["_law_cell"] spState := by
  refine F.ok scState (fun vs H Q E h => ?_) (fun cdv A outer s H vs Q E hr h => ?_)
  · obtain ⟨i, rfl, _⟩ := h
    rfl
  · obtain ⟨i, rfl, k⟩ := h
    refine ⟨_, pss_cons (ps_set (i := 0) scState.nd rfl (Or.inl rfl) (pe_callB call_abs (by rfl) T.abs (by decide +kernel) (pa_cons (pv 0) pa_nil)))
      (pss_one (ps_ret (pe_lst (pa_cons (pe_op op_mul (pv 0) (pe_callTy call_int1 (by rfl) T.int (by decide +kernel) (pa_cons (pe_cmpR op_ge (pv 0) (pe_op op_pow pe_int pe_int) (nomark _)) pa_nil)))
        (pa_cons (pe_op op_add (pe_op op_mod (pv 0) pe_int) pe_int) (pa_cons (pe_op op_mod (pv 0) pe_int) pa_nil)))))), ?_⟩
    refine ⟨_, rfl, _, rfl, ?_⟩
    generalize hj : (if i < 0 then -i else i) = j
    have hj0 : 0 ≤ j := by rw [← hj]; split <;> omega
    refine ⟨_, rfl, _, rfl, _, _, rfl, rfl, ⟨by decide, by decide, by decide⟩, _, _, rfl, rfl, .inr ⟨_, rfl, ?_⟩⟩
    refine ⟨_, _, rfl, rfl, .inr ⟨?_, ?_⟩, _, rfl, _, _, rfl, rfl, (by show (0 : Int) < 2147483629; decide), _, _, rfl, rfl, _, rfl, _, _, rfl, rfl, (by show (0 : Int) < 2147483587; decide), (by show 3 ≤ sizeLine; decide), fun p hp => ?_⟩
    · split <;> decide
    · split <;> decide
    · refine k p _ hp (Same.upd hp) ⟨_, _, _, upd_same, ?_, ?_, ?_, ?_, ?_⟩
      · split
        · omega
        · omega
      · have := Int.emod_nonneg j (show (2147483629 : Int) ≠ 0 by decide); omega
      · have := Int.emod_lt_of_pos j (show (0 : Int) < 2147483629 by decide); omega
      · exact Int.emod_nonneg j (by decide)
      · have := Int.emod_lt_of_pos j (show (0 : Int) < 2147483587 by decide); omega
theorem scDigit : FnScope ["_law_state_here", "_law_base", "_law_found", "_law_more"] ["_law_state_here", "_law_base"] (defScope sDigit) := ⟨rfl, rfl, rfl, by decide +kernel, rfl, by decide +kernel, by decide +kernel⟩
theorem ok_digit {f : Addr} {fd : FuncData} (F : Fun K "_law_digit" "_law_digit" sDigit f fd) : FnOk P w K mg base CX0 1 f fd ["_law_state_here", "_law_base"] spDigit := by
  refine F.ok scDigit (fun vs H Q E h => ?_) (fun cdv A outer s H vs Q E hr h => ?_)
  · obtain ⟨p, n, rfl, _⟩ := h
    rfl
  · obtain ⟨p, n, rfl, ⟨a, b, c, hp, ha, hb, hb2, hc, hc2⟩, hn, hn2, k⟩ := h
    refine ⟨_, pss_cons (ps_if (pt_cmpR op_gt (pe_ix ix_list (pv 0) pe_int (fun _ _ => rfl)) pe_int (nomark _))
        (pss_cons (ps_set (i := 2) scDigit.nd rfl (Or.inl rfl) (pe_op op_mod (pe_ix ix_list (pv 0) pe_int (fun _ _ => rfl)) (pv 1)))
          (pss_cons (ps_asg (pe_op op_fdiv (pe_ix ix_list (pv 0) pe_int (fun _ _ => rfl)) (pv 1)) (pg_sub (pv 0) pe_int set_list)) (pss_one (ps_ret (pv 2))))) pss_nil)
      (pss_cons (ps_set (i := 3) scDigit.nd rfl (Or.inl rfl) (pe_op op_mul (pe_ix ix_list (pv 0) pe_int (fun _ _ => rfl)) (pe_op op_add (pe_op op_fdiv (pe_ix ix_list (pv 0) pe_int (fun _ _ => rfl)) pe_int) pe_int)))
      (pss_cons (ps_asg (pe_op op_add (pe_op op_mod (pe_op op_add (pv 3) (pe_ix ix_list (pv 0) pe_int (fun _ _ => rfl))) pe_int) pe_int) (pg_sub (pv 0) pe_int set_list))
      (pss_one (ps_ret (pe_op op_mod (pe_op op_fdiv (pe_ix ix_list (pv 0) pe_int (fun _ _ => rfl)) pe_int) (pv 1)))))), ?_⟩
    refine ⟨_, rfl, p, _, _, _, rfl, rfl, SqL.of hp, atI_nat (j := 0) rfl, _, _, rfl, rfl, _, rfl, ?_⟩
    refine ite2 (fun h0 => ?_) (fun h0 => ?_)
    · refine ⟨_, rfl, p, _, _, _, rfl, rfl, SqL.of hp, atI_nat (j := 0) rfl, _, rfl, _, _, rfl, rfl, hn, ?_⟩
      refine ⟨_, rfl, p, _, _, _, rfl, rfl, SqL.of hp, atI_nat (j := 0) rfl, _, rfl, _, _, rfl, rfl, ⟨hn, hn2⟩, _, rfl, p, _, _, 0, rfl, rfl, hp, rfl, _, rfl, ?_⟩
      refine k _ _ (Int.emod_nonneg a (by omega)) (Int.emod_lt_of_pos a hn) But.upd ⟨_, _, _, upd_same, ?_, hb, hb2, hc, hc2⟩
      exact Int.ediv_nonneg ha (by omega)
    · refine ⟨_, rfl, p, _, _, _, rfl, rfl, SqL.of hp, atI_nat (j := 1) rfl, _, rfl, p, _, _, _, rfl, rfl, SqL.of hp, atI_nat (j := 1) rfl, _, _, rfl, rfl, ⟨by decide, by decide⟩, _, _, rfl, rfl, _, _, rfl, rfl, .inl ⟨?_, ?_⟩, ?_⟩
      · omega
      · omega
      refine ⟨_, rfl, _, rfl, p, _, _, _, rfl, rfl, SqL.of hp, atI_nat (j := 2) rfl, _, _, rfl, rfl, _, _, rfl, rfl, (by show (0 : Int) < 2147483629; decide), _, _, rfl, rfl, _, rfl, p, _, _, 1, rfl, rfl, hp, rfl, ?_⟩
      generalize hm : (b * (b / 1009 + 69621) + c) % 2147483629 = m
      have hm0 : 0 ≤ m := by rw [← hm]; exact Int.emod_nonneg _ (by decide)
      have hm1 : m < 2147483629 := by rw [← hm]; exact Int.emod_lt_of_pos _ (by decide)
      refine ⟨_, rfl, p, _, _, _, rfl, rfl, SqL.of upd_same, atI_nat (j := 1) rfl, _, _, rfl, rfl, ⟨by decide, by decide⟩, _, rfl, _, _, rfl, rfl, hn, ?_⟩
      exact k _ _ (Int.emod_nonneg _ (by omega)) (Int.emod_lt_of_pos _ hn) But.upd ⟨_, _, _, upd_same, ha, by omega, by omega, hc, hc2⟩
end
end Wm
namespace Wm
open PySem L2
/-- a def of the module's top -/
structure Dn (K : PySem.W.Frag) (mg : Str → Option Value) (x : Str) (st : Stmt) (ps : List Str) (f : Addr) (fd : FuncData) : Prop where
  F : Fun K x x st f fd
  g : mg x = some (.ref f)
  b : Binds K fd ps []
theorem str_at (z : Str) {i : Int} (h0 : 0 ≤ i) (h1 : i < z.length) : ∃ c, z.cps[i.toNat]? = some c := by
  have h : i.toNat < z.cps.size := by
    have e : z.length = z.cps.size := rfl
    omega
  exact ⟨z.cps[i.toNat], Array.getElem?_eq_getElem h⟩
/-- every sign is one of unicode's -/
def okS (z : Str) : Prop := ∀ c ∈ z.cps.toList, c < 1114112
theorem okS_one {c : Nat} (h : c < 1114112) : okS ⟨#[c]⟩ := fun d hd => by
  have e : d = c := by simpa using hd
  rw [e]
  exact h
theorem okS_app {a b : Str} (ha : okS a) (hb : okS b) : okS (a ++ b) := fun c hc => by
  have e : (a ++ b).cps.toList = a.cps.toList ++ b.cps.toList := by
    show (a.cps ++ b.cps).toList = _
    simp
  rw [e] at hc
  rcases List.mem_append.mp hc with h | h
  · exact ha c h
  · exact hb c h
theorem rdItem {z : Str} {i : Int} {n : Nat} {H : Hp} {Q : VK} (hz : z.length = n) (h0 : 0 ≤ i) (h1 : i < n) (hn : n < 1000000) (h : ∀ c, z.cps.toList[i.toNat]? = some c → Q (.str ⟨#[c]⟩) H) : rIxS (.str z) (.int i) H Q := by
  have h2 : i < z.length := by rw [hz]; exact h1
  obtain ⟨c, hc⟩ := str_at z h0 h2
  have hl : z.cps.toList[i.toNat]? = some c := by simpa using hc
  have e : i = ((i.toNat : Nat) : Int) := by omega
  refine ⟨z, i, c, rfl, rfl, by rw [hz]; exact Nat.le_trans (Nat.le_of_lt hn) (by decide), ?_, h c hl⟩
  rw [e]
  exact atI_nat hl
theorem abcOk : ∀ c ∈ (PySem.Str.ofString "abcdefghijklmnopqrstuvwxyz0123456789").cps.toList, c < 1114112 := by decide +kernel
theorem abc36 : (PySem.Str.ofString "abcdefghijklmnopqrstuvwxyz0123456789").length = 36 := by decide +kernel
theorem len_app (a b : Str) : (a ++ b).length = a.length + b.length := by
  show (a.cps ++ b.cps).size = a.cps.size + b.cps.size
  exact Array.size_append
theorem len_one (c : Nat) : (⟨#[c]⟩ : Str).length = 1 := rfl
def spSign : Sp := fun vs H Q _ => ∃ i : Int, vs = [.int i] ∧ ∀ c, c < 1114112 → Q (.str ⟨#[c]⟩) H
def spPlain : Sp := fun vs H Q _ => ∃ (p : Addr) (n : Int), vs = [.ref p, .int n] ∧ StOk H p ∧ 1 ≤ n ∧ n ≤ 15 ∧ ∀ (z : Str) H', z.length ≤ 15 → okS z → But p H H' → StOk H' p → Q (.str z) H'
def spText : Sp := fun vs H Q _ => ∃ (p : Addr), vs = [.ref p] ∧ StOk H p ∧ ∀ (z : Str) H', z.length ≤ 40 → okS z → But p H H' → StOk H' p → Q (.str z) H'
section
variable {P : Program} {w : World} {K : PySem.W.Frag} {mg : Str → Option Value} {base : Heap}
end
end Wm
namespace Wm
open PySem L2
theorem strs_at {zs : List Str} {n : Nat} (h : ∀ z ∈ zs, z.length ≤ n) (ho : ∀ z ∈ zs, ∀ c ∈ z.cps.toList, c < 1114112) {j : Nat} (hj : j < zs.length) : ∃ z, (zs.map V.str)[j]? = some (.str z) ∧ z.length ≤ n ∧ okS z :=
  ⟨zs[j], by simp [hj], h _ (List.getElem_mem hj), ho _ (List.getElem_mem hj)⟩
theorem okS_cut {z : Str} (h : okS z) (lo hi : Option Int) : okS (cutS z lo hi) := fun c hc => by
  have hc' : c ∈ (z.cps.toList.drop (HT.sIx z.length 0 lo)).take (HT.sIx z.length z.length hi - HT.sIx z.length 0 lo) := hc
  exact h c (List.mem_of_mem_drop (List.mem_of_mem_take hc'))
theorem okS_join {a : Str} {ys : List Str} (ha : okS a) (h : ∀ y ∈ ys, okS y) : okS (Txt.join a ys) := by
  have e : Txt.join a ys = Str.join a ys := StrLaws.glued_eq_join a ys
  rw [e]
  clear e
  induction ys with
  | nil => exact fun c hc => (List.not_mem_nil (show c ∈ ([] : List Nat) from hc)).elim
  | cons y r ih =>
    cases r with
    | nil => exact h y List.mem_cons_self
    | cons z r =>
      show okS (y ++ a ++ Str.join a (z :: r))
      exact okS_app (okS_app (h y List.mem_cons_self) ha) (ih fun x hx => h x (List.mem_cons_of_mem _ hx))
theorem rdList {K : PySem.W.Frag} {p : Addr} {xs : List V} {i : Int} {j : Nat} {v : V} {H : Hp} {Q : VK} (hp : H p = some (.lst xs)) (e : i = (j : Int)) (hv : xs[j]? = some v) (h : Q v H) : rIxL K (.ref p) (.int i) H Q :=
  ⟨p, xs, i, v, rfl, rfl, SqL.of hp, at_of e hv, h⟩
theorem But.free {p D : Addr} {H H' : Hp} (b : But p H H') (n : D ≠ p) (h : H' D = none) : H D = none := by
  cases e : H D with
  | none => rfl
  | some o =>
    rw [b D o n e] at h
    cases h
theorem sum_ones : ∀ {ys : List Str}, (∀ y ∈ ys, y.length = 1) → (ys.map (·.length)).sum = ys.length
  | [], _ => rfl
  | y :: ys, h => by
    rw [List.map_cons, List.sum_cons, List.length_cons, h y List.mem_cons_self, sum_ones fun z hz => h z (List.mem_cons_of_mem _ hz)]
    omega
theorem join_len (a : Str) (ys : List Str) : (Txt.join a ys).length ≤ (ys.map (·.length)).sum + ys.length * a.length := by
  show (Builtin.Str.glued a ys).length ≤ _
  rw [StrLaws.glued_eq_join]
  exact StrLaws.join_length_le a ys
section
variable {P : Program} {w : World} {K : PySem.W.Frag} {mg : Str → Option Value} {base : Heap}
end
end Wm
namespace Wm
open PySem PySem.Spec PyProof.Rows L2 ClX
section
variable {X : Cx} {CX : CXT} {k : Nat} {C f : Addr} {fd : FuncData} {ps : List Str} {sp : Sp} {E : XK} {e : Expr} {es : List Expr} {t : TA} {x m : Str} {p1 p2 pos : Pos} {ds : List Value} {dvs : List V}
/-- C.f(e, ..), f a def of the class C -/
theorem pe_clsFn {pl : Sem Bool} {mc : Value} (hg : Gl X x) (hm : X.mg x = some (.ref C)) (r : CRead X.K C mc) (ht : PySem.W.findCls X.K (.ref C) mc m = some (.val (.ref f))) (hk : PySem.W.keepIn X.K (.ref f) = true) (F : FnOk X.prog X.w X.K X.mg X.base CX k f fd ps sp)
    (hr : Room k X.A) (hb : Binds X.K fd ps ds) (hd : Vals dvs ds) (hx : Passes CX X E) (ha : PA X (e :: es) t)
    (hc : eval (.Call (.Attribute (.Name x p1) m p2) (e :: es) [] pos) X.env = (do
      let ov ← eval (.Name x p1) X.env
      standAt p2.atName
      let (f, first) ← holding [ov] (getMethod ov m pl)
      callWith pos f first (backTo pos (starEach (e :: es) X.env)) (backToKw pos (keywordEach [] X.env))) := by rfl)
    (hdb : (x == ("__debug__" : Str)) = false := by decide) (he : starEach (e :: es) X.env = (false, eval e X.env) :: starEach es X.env := by rfl) (hpl : (backTo pos (starEach es X.env)).any (·.1) = false := by rfl) :
    PE X (.Call (.Attribute (.Name x p1) m p2) (e :: es) [] pos) (tCall sp dvs E t) := by
  refine ⟨fun pins s σ H Q I h => ?_⟩
  refine PySem.W.methodCall_KW (ld_glob I hg hm ?_ hdb) hc
  refine PySem.W.method_cls I.kIn r.ga (PySem.W.cls_value I.kIn r.rd ht rfl ?_)
  show wpAny _ _ (callWith pos (Value.ref f) [] (backTo pos (starEach (e :: es) X.env)) []) _ _ _
  refine PySem.W.callWith_K (h₀ := X.base) I.ok.mod.kin hk (thn (ha.run pos pins _ σ H _ (I.tok _) h) fun us s1 ⟨vs, H1, I1, r1, q⟩ => ⟨I1.kIn, ?_⟩) he hpl
  exact run_fn F hr hb hd hx I1 r1 q
/-- xs + ys, both to be read -/
def rCatR (K : PySem.W.Frag) : R2 := fun x y H Q => ∃ l b xs zs, x = .ref l ∧ y = .ref b ∧ SqL K H l xs ∧ SqL K H b zs ∧ xs.length + zs.length ≤ sizeLine ∧ ∀ p, H p = none → Q (.ref p) (upd H p (.lst (xs ++ zs)))
theorem op_catR : OpR X (binaryOp .Add) (rCatR X.K) := by
  intro pins s σ H x y v u Q I rx ry h
  obtain ⟨l, b, xs, zs, rfl, rfl, hH, hB, hz, q⟩ := h
  cases rx
  cases ry
  obtain ⟨its, r, e, hl⟩ := I.list hH
  obtain ⟨its2, r2, e2, hl2⟩ := I.list hB
  have l1 := r.length
  have l2 := r2.length
  obtain ⟨⟨cls, dd, data, sl⟩, ho, hc, n, hd⟩ := e.isList
  obtain ⟨⟨cls2, dd2, data2, sl2⟩, ho2, hc2, n2, hd2⟩ := e2.isList
  simp only at hc hd hc2 hd2
  subst hc hd hc2 hd2
  refine concat_meets ⟨_, ho, rfl⟩ ⟨_, ho2, rfl⟩ noFill_list_add seq_list_add PySem.F.slot_list_add PySem.F.entry_list_add (PySem.F.args_list_add_2 _ _) (list_addW l b its.toArray its2.toArray n n2 dd dd2 sl sl2 (by rw [List.size_toArray, List.size_toArray]; omega)) ⟨ho, ho2, ?_⟩
  have ea : its.toArray ++ its2.toArray = (its ++ its2).toArray := by simp
  rw [ea]
  exact ⟨.ref _, _, I.lnew (t' := s.toks) (r.append r2) (by rw [List.length_append]; omega), rfl, q _ I.fresh⟩
end
end Wm
namespace Wm
open PySem PySem.Spec PyProof.Rows L2 ClX
/-- isinstance(e, c) in an except suite, e the exception that it holds (its class D, its dict at dd) -/
def rIsX (K : PySem.W.Frag) (D a dd : Addr) : List V → Hp → VK → Prop := fun xs H Q => ∃ (c : V) (cv : Value) (b : Bool) (fs : List (Str × V)), xs = [.ref a, c] ∧ H dd = some (.xd fs) ∧ (∀ u, RelV c u → u = cv) ∧ PySem.W.kitOne K (.ref D) cv = some b ∧ Q (.bl b) H
theorem call_isX {X : Cx} {a D dd : Addr} {oe : Obj} {pn : List (Addr × Obj)} (C : ExcC X.K D) (hz : Zc (.ref D) (some dd) oe) (hf : ∃ vs, oe.data = .fields vs) : CallR (X.suite a ((a, oe) :: pn)) (.builtin "isinstance") (rIsX X.K D a dd) := by
  intro pins s σ H xs us Q I r h
  obtain ⟨c, cv, b, fs, rfl, hdd, hcv, e, q⟩ := h
  cases r with
  | cons rx rr =>
    cases rr with
    | cons rt rr =>
      cases rr
      cases rx
      have ec := hcv _ rt
      subst ec
      obtain ⟨hget, _⟩ := I.pin (a, oe) (List.mem_append.mpr (.inl List.mem_cons_self))
      obtain ⟨vs, hv⟩ := hf
      have hx : ObjOk X.prog X.w H s.heap dd (.xd fs) := I.hok dd _ hdd
      obtain ⟨mA, hns, hr⟩ := hx
      obtain ⟨od, ho, hl⟩ := lookIn_ns hns
      have J : PySem.W.InstAt s.heap a oe D (some od) := ⟨hget, hz.1, by unfold PySem.W.notCls; rw [hv] <;> rfl, by rw [hz.2]; exact ho⟩
      have hcl : (PySem.W.clsIn X.K D).isSome = true := by
        obtain ⟨cd, hc, _⟩ := PySem.W.any_some C.hd
        rw [hc]
        rfl
      exact PySem.W.kia_one (PySem.W.kitx_exc hcl C.hg C.hk C.hs C.ha C.hn C.ht C.hm) I.kIn J e (fun z => nomatch z) fun tk => ⟨.bl b, H, I.kept (t' := tk) fun _ _ z => z, rfl, q⟩
/-! ### errors of one field -/
def spWI (K : PySem.W.Frag) : Sp := fun vs H Q _ => ∃ (a C : Addr) (v : V), vs = [.ref a, v] ∧ OexC K C ∧ PySem.W.findIn K (.ref C) "kind" = some none ∧ H a = some (exo a C none) ∧ ∀ dx, H dx = none → dx ≠ a → Q .non (upd (upd H dx (exd dx [("kind", v)])) a (exo a C (some dx)))
/-- the dict of an error of one field -/
def ef1 (f kd : Str) (v : V) : List (Str × V) := [(f, v), ("kind", .str kd)]
def spE1 (C : Addr) (f kd : Str) : Sp := fun vs H Q _ => ∃ (a : Addr) (v : V), vs = [.ref a, v] ∧ H a = some (exo a C none) ∧ ∀ dx H', H dx = none → dx ≠ a → (∀ b o, b ≠ a → H b = some o → H' b = some o) → H' a = some (exo a C (some dx)) → H' dx = some (exd dx (ef1 f kd v)) → Q .non H'
/-- what is known of WhoError -/
structure WhoT (K : PySem.W.Frag) (mg : Str → Option Value) (W f0 : Addr) (fd0 : FuncData) : Prop where
  g : mg "WhoError" = some (.ref W)
  r : CRead K W (.type "type")
  m : PySem.W.findCls K (.ref W) (.type "type") "__init__" = some (.val (.ref f0))
  k : PySem.W.keepIn K (.ref f0) = true
  b : Binds K fd0 ["self", "kind"] []
/-- what is known of an error class of one field -/
structure ErrT (K : PySem.W.Frag) (mg : Str → Option Value) (x f : Str) (C fI : Addr) : Prop where
  o : OexC K C
  g : mg x = some (.ref C)
  iC : PySem.W.findIn K (.ref C) "__init__" = some (some (.ref fI))
  tI : PySem.W.typeIn K (.ref fI) = some (.type "function")
  nk : PySem.W.findIn K (.ref C) "kind" = some none
  nf : PySem.W.findIn K (.ref C) f = some none
end Wm
namespace Wm
open PySem L2
section
variable {P : Program} {w : World} {K : PySem.W.Frag} {mg : Str → Option Value} {base : Heap}
theorem scW0 : FnScope ["self", "kind"] ["self", "kind"] (defScope sW0) := ⟨rfl, rfl, rfl, by decide +kernel, rfl, by decide +kernel, by decide +kernel⟩
theorem ok_who {f : Addr} {fd : FuncData} {dvs : List V} (F : FunD K "__init__" "WhoError.__init__" (defArgs sW0) (defBody sW0) (defScope sW0) dvs [] f fd) : FnOk P w K mg base CX0 1 f fd ["self", "kind"] (spWI K) := by
  refine F.ok scW0 (fun vs H Q E h => ?_) (fun cdv A outer s H vs Q E hr h => ?_)
  · obtain ⟨a, C, v, rfl, _⟩ := h
    rfl
  · obtain ⟨a, C, v, rfl, o, nk, ha, k⟩ := h
    refine ⟨_, pss_one (ps_ost (pv 0) (pv 1)), ?_⟩
    exact ⟨_, rfl, _, rfl, a, C, rfl, o, nk, .inl ⟨ha, fun dx n ne => k dx n ne⟩⟩
theorem scN0 : FnScope ["self", "name"] ["self", "name"] (defScope sN0) := ⟨rfl, rfl, rfl, by decide +kernel, rfl, by decide +kernel, by decide +kernel⟩
theorem ok_noname {f C f0 W : Addr} {fd fd0 : FuncData} (F : Fun K "__init__" "NoName.__init__" sN0 f fd) (T : ErrT K mg "NoName" "name" C f) (TW : WhoT K mg W f0 fd0) (G0 : FnOk P w K mg base CX0 1 f0 fd0 ["self", "kind"] (spWI K)) :
    FnOk P w K mg base CX0 2 f fd ["self", "name"] (spE1 C "name" "noname") := by
  refine F.ok scN0 (fun vs H Q E h => ?_) (fun cdv A outer s H vs Q E hr h => ?_)
  · obtain ⟨a, v, rfl, _⟩ := h
    rfl
  · obtain ⟨a, v, rfl, ha, k⟩ := h
    refine ⟨_, pss_cons (ps_expr (pe_clsFn rfl TW.g TW.r TW.m TW.k G0 hr TW.b .nil pass0 (pa_cons (pv 0) (pa_cons pe_str pa_nil)))) (pss_one (ps_ost (pv 0) (pv 1))), ?_⟩
    refine ⟨_, rfl, a, C, _, rfl, T.o, T.nk, ha, fun dx n ne => ?_⟩
    refine ⟨_, rfl, _, rfl, a, C, rfl, T.o, T.nf, .inr ⟨dx, _, upd_same, Eq.trans (upd_ne ne) upd_same, by decide, ?_⟩⟩
    refine k dx _ n ne (fun b o nb e => ?_) ?_ upd_same
    · have nd : b ≠ dx := ne_of_none e n
      rw [upd_ne nd, upd_ne nb, upd_ne nd]
      exact e
    · rw [upd_ne ne.symm, upd_same]
end
end Wm
namespace Wm
open PySem L2
/-! ### names -/
def LET : List Nat := (PySem.Str.ofString "abcdefghijklmnopqrstuvwxyz").cps.toList
def FIG : List Nat := (PySem.Str.ofString "0123456789").cps.toList
def okc (c : Nat) : Bool := decide (c ∈ LET) || decide (c ∈ FIG)
def first (l : List Nat) : Bool := match l with
  | [] => false
  | c :: _ => decide (c ∈ LET)
def isNm (z : Str) : Bool := decide (1 ≤ z.length) && (decide (z.length ≤ 12) && (first z.cps.toList && z.cps.toList.all okc))
theorem alnum : (PySem.Str.ofString "abcdefghijklmnopqrstuvwxyz0123456789").cps.toList = LET ++ FIG := by decide +kernel
theorem let_fig : ∀ c ∈ LET, ¬ c ∈ FIG := by decide +kernel
theorem okc_alnum (c : Nat) : decide (c ∈ (PySem.Str.ofString "abcdefghijklmnopqrstuvwxyz0123456789").cps.toList) = okc c := by
  rw [alnum]
  unfold okc
  by_cases h : c ∈ LET <;> by_cases h2 : c ∈ FIG <;> simp [h, h2]
theorem len_eq (z : Str) : z.length = z.cps.toList.length := by
  show z.cps.size = _
  simp
theorem isNm_small {z : Str} (h : z.length < 1 ∨ 12 < z.length) : isNm z = false := by
  unfold isNm
  rcases h with h | h
  · rw [decide_eq_false (by omega)]
    rfl
  · rw [decide_eq_false (p := z.length ≤ 12) (by omega)]
    simp
theorem isNm_first {z : Str} {c : Nat} (h1 : z.cps.toList[0]? = some c) (hc : ¬ c ∈ LET) : isNm z = false := by
  unfold isNm
  have e : first z.cps.toList = false := by
    cases q : z.cps.toList with
    | nil => rfl
    | cons d r =>
      rw [q] at h1
      have e : d = c := Option.some.inj h1
      rw [e]
      exact decide_eq_false hc
  rw [e]
  simp
theorem isNm_all {z : Str} {c : Nat} (h0 : ¬ z.length < 1) (h12 : ¬ 12 < z.length) (h1 : z.cps.toList[0]? = some c) (hc : c ∈ LET) : isNm z = z.cps.toList.all okc := by
  unfold isNm
  have e : first z.cps.toList = true := by
    cases q : z.cps.toList with
    | nil =>
      rw [q] at h1
      cases h1
    | cons d r =>
      rw [q] at h1
      have e : d = c := Option.some.inj h1
      rw [e]
      exact decide_eq_true hc
  rw [e, decide_eq_true (by omega), decide_eq_true (by omega)]
  rfl
theorem isNm_fig {z : Str} {c : Nat} (h1 : z.cps.toList[0]? = some c) (hc : c ∈ FIG) : isNm z = false := isNm_first h1 fun h => let_fig c h hc
theorem isNm_all2 {z : Str} {c : Nat} (h0 : ¬ z.length < 1) (h12 : ¬ 12 < z.length) (h1 : z.cps.toList[0]? = some c) (hc : ¬ c ∈ FIG) : isNm z = z.cps.toList.all okc := by
  by_cases h : c ∈ LET
  · exact isNm_all h0 h12 h1 h
  · rw [isNm_first h1 h]
    have hm : c ∈ z.cps.toList := List.mem_of_getElem? h1
    have e : okc c = false := by
      unfold okc
      rw [decide_eq_false h, decide_eq_false hc]
      rfl
    symm
    rw [List.all_eq_false]
    exact ⟨c, hm, by rw [e]; decide⟩
theorem all_map {l : List Nat} {f : Nat → Bool} : (l.map f).all id = l.all f := by
  induction l with
  | nil => rfl
  | cons a r ih => rw [List.map_cons, List.all_cons, List.all_cons, ih]; rfl
def spName : Sp := fun vs H Q _ => ∃ z : Str, vs = [.str z] ∧ z.length ≤ 1000 ∧ ∀ H', Same H H' → Q (.bl (isNm z)) H'
/-- the constants of names.py -/
structure TxN (mg : Str → Option Value) : Prop where
  lets : ∃ t, mg "LETTERS" = some (.str (PySem.Str.ofString "abcdefghijklmnopqrstuvwxyz") t)
  figs : ∃ t, mg "FIGURES" = some (.str (PySem.Str.ofString "0123456789") t)
  long : ∃ t, mg "LONGEST_NAME" = some (.int 12 t)
/-- the reading of [f(sign) for sign in text] -/
theorem lc_signs {z : Str} {f : Nat → Bool} {g : TG} {te : TE} {vs : List Nat} {σ : St} {H1 : Hp} {D : Addr} {Qd : Hp → Prop} (hz : z.length ≤ 1000) (hD : H1 D = none)
    (he : ∀ (c : Nat) (H : Hp) (Q : St → Hp → Prop), (∀ σ2, wipe σ2 vs = wipe σ vs → (∀ Q2 : VK, Q2 (.bl (f c)) H → te σ2 H Q2) → Q σ2 H) → g (.str ⟨#[c]⟩) (wipe σ vs) H Q)
    (hd : ∀ H, Same H1 H → H D = some (.lst ((z.cps.toList.map f).map V.bl)) → Qd H) :
    ∃ W : Nat → Nat → Hp → Prop, (∃ m, W 0 m (upd H1 D (.lst []))) ∧ ∀ i m H, W i m H →
      ((Its z).stop i H ∧ Qd H) ∨ ((Its z).go i H ∧ ∃ Nx : Hp → Prop, (∀ H', Nx H' → ∃ m', m' < m ∧ W (i + 1) m' H') ∧ ∀ x H', (Its z).yld i H x H' → g x (wipe σ vs) H' fun σ2 H2 => wipe σ2 vs = wipe σ vs ∧ tYes σ2 H2 fun b H3 =>
        if b = true then te σ2 H3 fun y H4 => ∃ acc, H4 D = some (.lst acc) ∧ acc.length < sizeLine ∧ Nx (upd H4 D (.lst (acc ++ [y]))) else Nx H3) := by
  refine lc_it (walk_str (z := z)) (fun i H' => Same H1 H' ∧ H' D = some (.lst (((z.cps.toList.take i).map f).map V.bl))) ⟨Same.upd hD, upd_same⟩ (fun _ _ _ _ => True.intro) ?_ ?_
  · rintro i x H H' hi ⟨hS, hl⟩ ⟨rfl, c, hc, rfl⟩
    refine he c H' _ fun σ2 hw hq => ⟨hw, hq _ ?_⟩
    refine ⟨_, hl, ?_, ?_, ?_⟩
    · rw [List.length_map, List.length_map, List.length_take]
      have e := len_eq z
      exact Nat.lt_of_le_of_lt (show _ ≤ 1000 by omega) (by decide)
    · intro b o h
      have nb : b ≠ D := ne_of_none h hD
      rw [upd_ne nb]
      exact hS b o h
    · rw [upd_same]
      have e : z.cps.toList[i]? = some c := by simpa using hc
      have hlt : i < z.cps.toList.length := (List.getElem?_eq_some_iff.mp e).1
      rw [List.take_add_one, e, List.map_append, List.map_append]
      rfl
  · rintro H ⟨hS, hl⟩
    refine hd H hS ?_
    rw [hl, List.take_of_length_le (by simp)]
section
variable {P : Program} {w : World} {K : PySem.W.Frag} {mg : Str → Option Value} {base : Heap}
theorem scName : FnScope ["text", "sign"] ["text"] (defScope sName) := ⟨rfl, rfl, rfl, by decide +kernel, rfl, by decide +kernel, by decide +kernel⟩
theorem ok_name {f : Addr} {fd : FuncData} (F : Fun K "is_name" "is_name" sName f fd) (T : TxB mg) (TN : TxN mg) : FnOk P w K mg base CX0 1 f fd ["text"] spName := by
  obtain ⟨t1, hlet⟩ := TN.lets
  obtain ⟨t2, hfig⟩ := TN.figs
  obtain ⟨t3, hlong⟩ := TN.long
  refine F.ok scName (fun vs H Q E h => ?_) (fun cdv A outer s H vs Q E hr h => ?_)
  · obtain ⟨z, rfl, _⟩ := h
    rfl
  · obtain ⟨z, rfl, hz, k⟩ := h
    have hzl : z.length ≤ sizeLine := Nat.le_trans hz (by decide)
    refine ⟨_, (pss_cons (ps_if (PW.pt (pw_or (pt_cmpR op_lt (pe_callB call_len_str (by rfl) T.len (by decide +kernel) (pa_cons (pv 0) pa_nil)) pe_int (nomark _)) (pw_or1 (pt_cmpR op_gt (pe_callB call_len_str (by rfl) T.len (by decide +kernel) (pa_cons (pv 0) pa_nil)) (pe_glob (v := .int 12) (by rfl) hlong ⟨_, rfl⟩) (nomark _))))) (pss_one (ps_ret pe_bl)) pss_nil)
      (pss_cons (ps_if (pt_cmpR op_notIn_sign (pe_ix ix_str (pv 0) pe_int (fun _ _ => rfl)) (pe_glob (v := .str (PySem.Str.ofString "abcdefghijklmnopqrstuvwxyz")) (by rfl) hlet ⟨_, rfl⟩) (by rfl)) (pss_one (ps_ret pe_bl)) pss_nil)
      (pss_one (ps_ret (pe_callB (cr_all rfl) (by rfl) T.all (by decide +kernel) (pa_cons (pe_lc (own := [("sign", 1)]) (g := gName 1) rfl scName.nd (pi_str (pv 0)) (blkOk_by (N := ["text", "sign"]) (sc := defScope sName) (by decide +kernel)) (fun _ _ _ _ _ => (pg_name (i := 1) scName.nd rfl (Or.inl rfl))) (fun _ _ _ _ _ => pts_nil) (fun _ _ _ _ _ => (pe_or (pe_cmpR op_in_sign (pv 1) (pe_glob (v := .str (PySem.Str.ofString "abcdefghijklmnopqrstuvwxyz")) (by rfl) hlet ⟨_, rfl⟩) (by rfl)) (pe_one (pe_cmpR op_in_sign (pv 1) (pe_glob (v := .str (PySem.Str.ofString "0123456789")) (by rfl) hfig ⟨_, rfl⟩) (by rfl)))))) pa_nil)))))), ?_⟩
    refine ⟨_, rfl, z, rfl, hzl, _, _, rfl, rfl, _, rfl, ?_⟩
    refine ite2 (fun h1 => ?_) (fun h1 => ?_)
    · have h1' : (z.length : Int) < 1 := of_decide_eq_true h1
      refine iteT ?_
      have e : isNm z = false := isNm_small (.inl (by omega))
      have q := k H (Same.refl H)
      rw [e] at q
      exact q
    refine ⟨_, rfl, z, rfl, hzl, _, _, rfl, rfl, _, rfl, ?_⟩
    refine ite2 (fun h2 => ?_) (fun h2 => ?_)
    · have h2' : (12 : Int) < z.length := of_decide_eq_true h2
      have e : isNm z = false := isNm_small (.inr (by omega))
      have q := k H (Same.refl H)
      rw [e] at q
      exact q
    have h1' : ¬ z.length < 1 := fun x => h1 (decide_eq_true (by omega))
    have h2' : ¬ 12 < z.length := fun x => h2 (decide_eq_true (by omega))
    refine ⟨_, rfl, ?_⟩
    dsimp only [tC]
    refine rdItem (n := z.length) rfl (by decide) (by omega) (by omega) fun c hc => ?_
    refine ⟨c, _, rfl, rfl, _, rfl, ?_⟩
    refine ite2 (fun h3 => ?_) (fun h3 => ?_)
    · have h3' : ¬ c ∈ LET := fun x => by
        rw [show decide (c ∈ (PySem.Str.ofString "abcdefghijklmnopqrstuvwxyz").cps.toList) = true from decide_eq_true x] at h3
        cases h3
      have q := k H (Same.refl H)
      rw [isNm_first hc h3'] at q
      exact q
    have h3' : c ∈ LET := by
      by_cases x : c ∈ LET
      · exact x
      · rw [show decide (c ∈ (PySem.Str.ofString "abcdefghijklmnopqrstuvwxyz").cps.toList) = false from decide_eq_false x] at h3
        exact absurd rfl h3
    refine ⟨_, rfl, z, rfl, fun D hD => ?_⟩
    refine lc_signs (z := z) (f := okc) hz hD (fun c H Q q => ?_) fun H' hS hl => ?_
    · refine q _ rfl fun Q2 q2 => ?_
      refine ⟨_, rfl, c, _, rfl, rfl, _, rfl, ?_⟩
      unfold okc at q2
      refine ite2 (fun h => ?_) (fun h => ?_)
      · have h' : decide (c ∈ LET) = true := h
        rw [h'] at q2
        exact q2
      · have h' : decide (c ∈ LET) = false := Bool.eq_false_iff.mpr h
        rw [h'] at q2
        exact ⟨_, rfl, c, _, rfl, rfl, q2⟩
    · refine ⟨D, _, rfl, SqL.of hl, ?_⟩
      have q := k H' hS
      rw [isNm_all h1' h2' hc h3', ← all_map] at q
      exact q
end
end Wm
namespace Wm
open PySem L2
theorem mk1 {C : Addr} {f kd : Str} {v : V} {H : Hp} {Q : XK} (k : ∀ d H', H d = none → Same H H' → H' d = some (.xd (ef1 f kd v)) → Q (.ref C) (some d) H') :
    [v].length ≤ 1000 ∧ ∀ a, H a = none → spE1 C f kd (.ref a :: ([v] ++ [])) (upd H a (exo a C none)) (fun u H2 => u = .non ∧ ∃ (d : Addr) (fs : List (Str × V)), H2 a = some (exo a C (some d)) ∧ H2 d = some (exd d fs) ∧ H d = none ∧ Q (.ref C) (some d) (upd (del H2 a) d (.xd fs))) (fun _ _ _ => False) := by
  refine ⟨by show 1 ≤ 1000; decide, fun a na => ⟨a, v, rfl, upd_same, fun dx H' n ne kp ha hd => ⟨rfl, dx, _, ha, hd, ?_, ?_⟩⟩⟩
  · rw [upd_ne ne] at n
    exact n
  · rw [upd_ne ne] at n
    refine k dx _ n (fun b o e => ?_) upd_same
    have nb : b ≠ a := ne_of_none e na
    rw [upd_ne (ne_of_none e n), del_ne nb]
    exact kp b o nb (by rw [upd_ne nb]; exact e)
/-- what is due of the first text that is no name -/
def DueN (C : Addr) (zs : List Str) (H : Hp) (Q : VK) (E : XK) : Prop := match zs.find? (fun z => !isNm z) with
  | none => ∀ H', Same H H' → Q .non H'
  | some z => ∀ d H', H d = none → Same H H' → H' d = some (.xd (ef1 "name" "noname" (.str z))) → E (.ref C) (some d) H'
def spRN (K : PySem.W.Frag) (C : Addr) : Sp := fun vs H Q E => ∃ (l : Addr) (zs : List Str), vs = [.ref l] ∧ SqL K H l (zs.map V.str) ∧ zs.length ≤ 1000 ∧ (∀ z ∈ zs, z.length ≤ 1000) ∧ DueN C zs H Q E
theorem find_none_take {zs : List Str} {i : Nat} {z : Str} {p : Str → Bool} (h : ∀ y ∈ zs.take i, p y = false) (e : zs[i]? = some z) (hz : p z = true) : zs.find? p = some z := by
  have hlt : i < zs.length := (List.getElem?_eq_some_iff.mp e).1
  have e2 : zs = zs.take i ++ z :: zs.drop (i + 1) := by
    have q := List.take_append_drop i zs
    have q2 := List.drop_eq_getElem_cons hlt
    have q3 : zs[i] = z := (List.getElem?_eq_some_iff.mp e).2
    rw [q2, q3] at q
    exact q.symm
  rw [e2, List.find?_append]
  have n : (zs.take i).find? p = none := by
    rw [List.find?_eq_none]
    intro y hy
    rw [h y hy]
    decide
  rw [n]
  simp [hz]
section
variable {P : Program} {w : World} {K : PySem.W.Frag} {mg : Str → Option Value} {base : Heap}
theorem scRN : FnScope ["texts", "text"] ["texts"] (defScope sRN) := ⟨rfl, rfl, rfl, by decide +kernel, rfl, by decide +kernel, by decide +kernel⟩
theorem ok_rn {f fN C fI : Addr} {fd fdN fdI : FuncData} (F : Fun K "refuse_no_name" "refuse_no_name" sRN f fd) (D : Dn K mg "is_name" sName ["text"] fN fdN) (GN : FnOk P w K mg base CX0 1 fN fdN ["text"] spName) (TE : ErrT K mg "NoName" "name" C fI) (bI : Binds K fdI ["self", "name"] [])
    (GI : FnOk P w K mg base CX0 2 fI fdI ["self", "name"] (spE1 C "name" "noname")) : FnOk P w K mg base (L2.CX P w) 4 f fd ["texts"] (spRN K C) := by
  refine F.okX scRN (fun vs H Q E h => ?_) (fun cdv A outer s H vs Q E hr h => ?_)
  · obtain ⟨l, zs, rfl, _⟩ := h
    rfl
  · obtain ⟨l, zs, rfl, hl, hn, hz, k⟩ := h
    have hr1 : Room 1 _ := hr.mono (by decide)
    refine ⟨_, (pss_one (ps_for (passes_of rfl) rfl (pi_list (pv 0)) (pg_name (i := 1) scRN.nd rfl (Or.inl rfl)) (pss_one (ps_if (pt_not (pt_val (pe_call GN hr1 rfl D.g D.F.kp D.b .nil pass0 (pa_cons (pv 1) pa_nil)))) (pss_one (ps_raise rfl (takes_of rfl rfl rfl rfl) (pmk_oex TE.o TE.iC TE.tI GI hr bI .nil pass0 rfl TE.g (pa_cons (pv 1) pa_nil)))) pss_nil)))), ?_⟩
    refine ⟨_, rfl, l, rfl, ⟨_, hl⟩, for_list (K := K) (a := l) (xs := zs.map V.str) (fun i σ H' => ∃ v, σ = [some (.ref l), v] ∧ Same H H' ∧ ∀ y ∈ zs.take i, (!isNm y) = false) ⟨none, rfl, Same.refl H, fun y hy => (List.not_mem_nil hy).elim⟩
      (fun i σ H' _ ⟨_, _, hS, _⟩ => hS.seq hl) ?_ ?_⟩
    · rintro i y σ H' hi ⟨v, rfl, hS, hno⟩
      obtain ⟨z, hzi, rfl⟩ : ∃ z, zs[i]? = some z ∧ y = V.str z := by
        rw [List.getElem?_map] at hi
        cases e : zs[i]? with
        | none =>
          rw [e] at hi
          cases hi
        | some z =>
          rw [e] at hi
          exact ⟨z, rfl, (Option.some.inj hi).symm⟩
      refine ⟨_, rfl, z, rfl, hz z (List.mem_of_getElem? hzi), fun H2 hS2 => ⟨_, rfl, ?_⟩⟩
      refine ite2 (fun h => ?_) (fun h => ?_)
      · refine ⟨_, rfl, ?_⟩
        have e := find_none_take hno hzi h
        unfold DueN at k
        rw [e] at k
        refine mk1 fun d H3 hd hS3 hx => k d H3 (hS.free (hS2.free hd)) (hS.trans (hS2.trans hS3)) hx
      · refine ⟨_, rfl, hS.trans hS2, fun y hy => ?_⟩
        rw [List.take_add_one, hzi] at hy
        rcases List.mem_append.mp hy with hy | hy
        · exact hno y hy
        · have e : y = z := by simpa using hy
          rw [e]
          exact Bool.eq_false_iff.mpr h
    · rintro σ H' ⟨v, rfl, hS, hno⟩
      have e : zs.find? (fun z => !isNm z) = none := by
        rw [List.find?_eq_none]
        intro y hy
        rw [List.length_map, List.take_length] at hno
        rw [hno y hy]
        decide
      unfold DueN at k
      rw [e] at k
      exact k H' hS
end
end Wm
namespace Wm
open PySem PySem.Spec PyProof.Rows L2
/-- enumerate(v): its two new cells -/
theorem meets_enum1 {v : Value} {o : Obj} {H : Heap → Prop} (B : Begins v o H) :
    Meets (Builtin.«enumerate.__new__» ⟨[.type "enumerate", v], []⟩) (fun _ R s => H s.heap ∧
      R (.ok (.ret (.ref (s.heap.push o).objs.size))) { s with heap := (s.heap.push o).push { cls := .type "enumerate", data := .fields #[.none, .bool false, .ref s.heap.objs.size, rawInt 0, .none, .none] } }) :=
  .of_wp fun prog w A R s hh => by
    obtain ⟨hp, g, d, tk, os⟩ := s
    obtain ⟨h1, h⟩ := hh
    have hsub := sub_enumerate
    have q1 : ∀ {A' : Around} {E : Value → Shared → Prop} {Q : Value → Shared → Prop}, Q (.ref hp.objs.size) ⟨hp.push o, g, d, tk, os⟩ → wpAny (model prog w) A' (pyIter v) Q E ⟨hp, g, d, tk, os⟩ := fun q => B.iter prog w _ _ ⟨hp, g, d, tk, os⟩ _ h1 q
    wp_walk using q1
    refine wpAny_stack_any fun stk => wpAny_pure ?_
    split
    · rename_i c _ _ _ _ _
      cases (c == Value.type "enumerate") <;> (wp_walk using q1; exact ⟨_, rfl, h⟩)
    · wp_walk using q1
      exact ⟨_, rfl, h⟩
theorem call_enum_tup {prog : Program} {w : World} {A : Around} {E : Value → Shared → Prop} {s : Shared} {t : Addr} {items : Array Value} {Q : Value → Shared → Prop} (hL : s.heap.IsTuple t items)
    (h : ∀ h', IsEnum h' (s.heap.objs.size + 1) s.heap.objs.size 0 .none → h'.IsTupleIter s.heap.objs.size t 0 → (∀ b o, s.heap.get? b = some o → h'.get? b = some o) → Q (.ref (s.heap.objs.size + 1)) { s with heap := h' }) :
    wpAny (model prog w) A (call (.type "enumerate") [.ref t]) Q E s := by
  refine callType_new F.called_enumerate (by decide) (F.typeCall_enumerate_1 _) (F.newCall_enumerate_1 _) (fun obj => F.args_object_init_2 obj _) F.entry_enumerate_new (meets_enum1 (begins_tuple t items)) ⟨hL, ?_⟩
  generalize ho : ({ cls := .type "tuple_iterator", data := .fields #[.ref t, .int 0 0] } : Obj) = o
  have hz : (s.heap.push o).objs.size = s.heap.objs.size + 1 := Heap.size_push ..
  show _ ∧ _
  rw [hz]
  generalize he : ({ cls := .type "enumerate", data := .fields #[.none, .bool false, .ref s.heap.objs.size, rawInt 0, .none, .none] } : Obj) = eo
  have h2 : ((s.heap.push o).push eo).get? (s.heap.objs.size + 1) = some eo := by
    have q := Heap.get?_push_size (s.heap.push o) (o := eo) (by rw [← he]; rfl)
    rw [hz] at q
    exact q
  have h3 : ((s.heap.push o).push eo).get? s.heap.objs.size = some o := Heap.get?_push_of_some _ (Heap.get?_push_size _ (by rw [← ho]; rfl))
  refine ⟨⟨_, h2, by rw [← he]⟩, h _ ?_ ⟨o, h3, by rw [← ho], by rw [← ho]; rfl⟩ fun b o x => Heap.get?_push_of_some _ (Heap.get?_push_of_some _ x)⟩
  show ((s.heap.push o).push eo).get? (s.heap.objs.size + 1) = some _
  rw [h2, ← he]
/-- the tuple at a, each item in a new pair -/
def IteT (K : PySem.W.Frag) (a : Addr) (xs : List V) : It :=
  ⟨fun i H => SqT K H a xs ∧ i < xs.length, fun i H v H' => ∃ T x, v = .ref T ∧ H T = none ∧ H' = upd H T (.tup [.int (i : Nat), x]) ∧ xs[i]? = some x, fun i H => SqT K H a xs ∧ i = xs.length⟩
theorem turn_enumT {P : Program} {w : World} {K : PySem.W.Frag} {elts : List Expr} {kk : Nat} {tpos : Pos} {xs : List V} (a e it : Addr) (his : List Value) :
    Turn P w K (.Tuple elts kk tpos) (IteT K a xs) [e, it] e (fun i h => (∃ old, IsEnum h e it ((i : Nat) : Int) old) ∧ h.IsTupleIter it a i ∧ e ≠ it ∧ a ≠ it ∧ a ≠ e) where
  mem := by simp
  obj := fun i h st b hb => by
    obtain ⟨⟨old, he⟩, ⟨o, ho, hc, hd⟩, _⟩ := st
    rcases (show b = e ∨ b = it by simpa using hb) with z | z
    · rw [z]
      exact ⟨_, he, fun v q => nomatch q⟩
    · rw [z]
      exact ⟨o, ho, fun v q => by rw [hd] at q; cases q⟩
  keep := fun i h h' st k => let ⟨⟨old, he⟩, hi, hne⟩ := st; ⟨⟨old, k e (by simp) _ he⟩, hi.at fun o q => k it (by simp) o q, hne⟩
  item := by
    intro X hP hw hK hc i pins s σ H E I hf st hg
    subst hP hw hK
    obtain ⟨⟨old, he⟩, hit, hne, nai, nae⟩ := st
    obtain ⟨hq, hlt⟩ := hg
    obtain ⟨its, rv, p, hz⟩ := I.tuple hq
    have hlen := rv.length
    have hel : e < s.heap.objs.size := Heap.lt_size he
    have hil : it < s.heap.objs.size := by obtain ⟨_, q, _⟩ := hit; exact Heap.lt_size q
    have D : Draws X.prog X.w X.A.in1 it [it, a] its.toArray.size (fun i v => its.toArray[i]? = some v) (fun i h => h.IsTupleIter it a i ∧ h.IsTuple a its.toArray) := Draws.tuple (A := X.A.in1) (show X.A.in1.handled = none from I.ok.hd hc) it a nai its.toArray
    refine wpAny_pyNext_enum_itemC D he ⟨hit, p⟩ (by rw [List.size_toArray]; omega) hne (by simp [hne, Ne.symm nae]) fun u h' tk hu ho hst' hT hsz hk => ?_
    have hu' : its[i]? = some u := by simpa using hu
    obtain ⟨x, hx, ru⟩ : ∃ x, xs[i]? = some x ∧ RelV x u := by
      obtain ⟨u2, h2, r2⟩ := rv.get (List.getElem?_eq_getElem hlt)
      rw [hu'] at h2
      cases h2
      exact ⟨_, List.getElem?_eq_getElem hlt, r2⟩
    refine ⟨_, rfl, wpAny_letOwnedTupleGo_enum (s := { s with heap := h', toks := tk + 1 }) ho fun h'' he' sb => ?_⟩
    have hT2 : h''.get? s.heap.objs.size = some { cls := .type "tuple", data := .seq #[.int i tk, u] } := (sb.2 _ (Nat.ne_of_gt hel)).trans hT
    have new : ObjOk X.prog X.w (upd H s.heap.objs.size (.tup [.int (i : Nat), x])) h'' s.heap.objs.size (.tup [.int (i : Nat), x]) := ⟨by show 2 ≤ sizeLine; decide, [.int i tk, u], .cons ⟨_, rfl⟩ (.cons ru .nil), ⟨_, hT2, rfl, _, rfl⟩⟩
    have I1 : Inv X pins σ (upd H s.heap.objs.size (.tup [.int (i : Nat), x])) { s with heap := h'', toks := tk + 1 } :=
      I.turnedNew (ch := [e, it]) (fun b ob hb q => (sb.2 b (fun z => hb (by simp [z]))).trans (hk b ob (fun z => hb (by simp [z])) (fun z => hb (by simp [z])) q)) hf (Nat.le_refl _) new
    refine ⟨.ref s.heap.objs.size, _, I1, rfl, ⟨_, x, rfl, I.hok.fresh (Nat.le_refl _), rfl, hx⟩, ⟨⟨u, ?_⟩, hst'.1.at fun o q => (sb.2 it (Ne.symm hne)).trans q, hne, nai, nae⟩, fun b hb => ?_⟩
    · have e1 : ((i + 1 : Nat) : Int) = (i : Int) + 1 := by omega
      rw [e1]
      exact he'
    · have hb' : b < s.heap.objs.size := by
        rcases (show b = e ∨ b = it by simpa using hb) with z | z
        · rw [z]; exact hel
        · rw [z]; exact hil
      rw [upd_ne (Nat.ne_of_lt hb')]
      exact (hf b hb).1
  done := by
    intro X hP hw hK hc i pins s σ H E I hf st hg
    subst hP hw hK
    obtain ⟨⟨old, he⟩, hit, hne, nai, nae⟩ := st
    obtain ⟨hq, hi⟩ := hg
    obtain ⟨its, rv, p, hz⟩ := I.tuple hq
    have hlen := rv.length
    obtain ⟨f0, f1, f2, f3, f4, f5⟩ := hf it (by simp)
    have D : Draws X.prog X.w X.A.in1 it [it, a] its.toArray.size (fun i v => its.toArray[i]? = some v) (fun i h => h.IsTupleIter it a i ∧ h.IsTuple a its.toArray) := Draws.tuple (A := X.A.in1) (show X.A.in1.handled = none from I.ok.hd hc) it a nai its.toArray
    have en : i = its.toArray.size := by rw [List.size_toArray]; omega
    rw [en] at he hit
    exact wpAny_pyNext_enum_endD D he ⟨hit, p⟩ fun h' eb => ⟨rfl, I.turned (t' := s.toks) (fun b o hb q => eb b o hb q) f0 f1 f3 f4 f5⟩
  self := fun A i s Q E st h => let ⟨⟨_, he⟩, _⟩ := st; wpAny_pyIter_enum he h
def iEnumT (K : PySem.W.Frag) (ta : TA) : TI := fun σ H R => ta σ H fun vs H1 => ∃ a xs, vs = [.ref a] ∧ SqT K H1 a xs ∧ R (IteT K a xs) H1
theorem pi_enumT {X : Cx} {e : Expr} {ta : TA} {p pos tpos : Pos} {elts : List Expr} {kk : Nat} (hg : Gl X "enumerate") (hm : X.mg "enumerate" = none) (ha : PA X [e] ta) (hs : starEach [e] X.env = [(false, eval e X.env)] := by rfl) :
    PI X (.Tuple elts kk tpos) (.Call (.Name "enumerate" p) [e] [] pos) (iEnumT X.K ta) := by
  refine ⟨fun pins s σ H R I h => ?_⟩
  refine Call_ (ld_blt I hg hm boot_enumerate (PyProof.Rows.callWith_type1 (thn (ha.run pos pins s σ H _ I h) fun us s1 ⟨vs, H1, I1, r1, a, xs, ex, hq, q⟩ => ?_) hs rfl))
  subst ex
  cases r1 with
  | cons r rr =>
    cases rr
    cases r
    obtain ⟨its, rv, p', hz⟩ := I1.tuple hq
    have hal : a < s1.heap.objs.size := by obtain ⟨_, z, _⟩ := p'; exact Heap.lt_size z
    refine call_enum_tup (items := its.toArray) p' fun h' he hit hk => wpAny_pyIter_enum he ?_
    have I2 : Inv X pins σ H1 { s1 with heap := h' } := I1.kept (t' := s1.toks) hk
    refine ⟨s1.heap.objs.size + 1, [s1.heap.objs.size + 1, s1.heap.objs.size], _, _, H1, rfl, I2, turn_enumT a (s1.heap.objs.size + 1) s1.heap.objs.size its, ⟨⟨.none, he⟩, hit, Nat.succ_ne_self _, Nat.ne_of_lt hal, Nat.ne_of_lt (Nat.lt_succ_of_lt hal)⟩, fun b hb => ?_, q⟩
    have hle : s1.heap.objs.size ≤ b := by
      rcases (show b = s1.heap.objs.size + 1 ∨ b = s1.heap.objs.size by simpa using hb) with z | z
      · rw [z]; exact Nat.le_add_right _ _
      · rw [z]; exact Nat.le_refl _
    exact I1.fpOk hle (I1.hok.fresh hle)
theorem walk_enumT {K : PySem.W.Frag} {a : Addr} {xs : List V} : Walk (IteT K a xs) xs.length (fun H => SqT K H a xs) (YPair (fun i => some (.int (i : Nat))) (fun i => xs[i]?)) := by
  refine ⟨fun i _ hi q => ⟨q, hi⟩, fun _ q => ⟨q, rfl⟩, fun i H v H' _ q y => ?_⟩
  obtain ⟨T, x, h1, h2, h3, h4⟩ := y
  exact ⟨T, .int (i : Nat), x, h1, h2, h3, rfl, h4⟩
end Wm
namespace Wm
open PySem L2
/-- the outer walk of a comprehension of two clauses -/
theorem lc2_it {J : It} {n : Nat} {G : Hp → Prop} {Y : Nat → Hp → V → Hp → Prop} (w : Walk J n G Y) {g : TG} {vs : List Nat} {σ : St} {H1 : Hp} {D : Addr} {Qd : Hp → Prop} {inner : St → Hp → (Hp → Prop) → Prop} (Pv : Nat → Hp → Prop) (h0 : Pv 0 (upd H1 D (.lst []))) (hG : ∀ i H, i ≤ n → Pv i H → G H)
    (hs : ∀ i x H H', i < n → Pv i H → Y i H x H' → g x (wipe σ vs) H' fun σ2 H2 => wipe σ2 vs = wipe σ vs ∧ inner σ2 H2 (Pv (i + 1))) (hd : ∀ H, Pv n H → Qd H) :
    ∃ W : Nat → Nat → Hp → Prop, (∃ m, W 0 m (upd H1 D (.lst []))) ∧ ∀ i m H, W i m H →
      (J.stop i H ∧ Qd H) ∨ (J.go i H ∧ ∃ Nx : Hp → Prop, (∀ H', Nx H' → ∃ m', m' < m ∧ W (i + 1) m' H') ∧ ∀ x H', J.yld i H x H' → g x (wipe σ vs) H' fun σ2 H2 => wipe σ2 vs = wipe σ vs ∧ inner σ2 H2 Nx) := by
  refine ⟨fun i m H => m = n - i ∧ i ≤ n ∧ Pv i H, ⟨n, by simp, Nat.zero_le _, h0⟩, ?_⟩
  rintro i m H ⟨rfl, hi, p⟩
  have q := hG i H hi p
  by_cases hlt : i < n
  · exact .inr ⟨w.goes i H hlt q, Pv (i + 1), fun H' p' => ⟨n - (i + 1), by omega, rfl, hlt, p'⟩, fun x H' y => hs i x H H' hlt p (w.yields i H x H' hlt q y)⟩
  · have e : i = n := by omega
    subst e
    exact .inl ⟨w.stops H q, hd H p⟩
/-- the inner one -/
theorem lc1_it {J : It} {n : Nat} {G : Hp → Prop} {Y : Nat → Hp → V → Hp → Prop} (w : Walk J n G Y) {g : TG} {te : TE} {vs : List Nat} {σ : St} {H4 : Hp} {D : Addr} {Nx : Hp → Prop} (Pv : Nat → Hp → Prop) (h0 : Pv 0 H4) (hG : ∀ i H, i ≤ n → Pv i H → G H)
    (hs : ∀ i x H H', i < n → Pv i H → Y i H x H' → g x (wipe σ vs) H' fun σ3 H5 => wipe σ3 vs = wipe σ vs ∧ te σ3 H5 fun y H7 => ∃ acc, H7 D = some (.lst acc) ∧ acc.length < sizeLine ∧ Pv (i + 1) (upd H7 D (.lst (acc ++ [y])))) (hd : ∀ H, Pv n H → Nx H) :
    ∃ W1 : Nat → Nat → Hp → Prop, (∃ m, W1 0 m H4) ∧ ∀ j k H, W1 j k H →
      (J.stop j H ∧ Nx H) ∨ (J.go j H ∧ ∃ Nx1 : Hp → Prop, (∀ H', Nx1 H' → ∃ k', k' < k ∧ W1 (j + 1) k' H') ∧ ∀ x H', J.yld j H x H' → g x (wipe σ vs) H' fun σ3 H5 => wipe σ3 vs = wipe σ vs ∧ tYes σ3 H5 fun b H6 =>
        if b = true then te σ3 H6 fun y H7 => ∃ acc, H7 D = some (.lst acc) ∧ acc.length < sizeLine ∧ Nx1 (upd H7 D (.lst (acc ++ [y]))) else Nx1 H6) := by
  refine ⟨fun i m H => m = n - i ∧ i ≤ n ∧ Pv i H, ⟨n, by simp, Nat.zero_le _, h0⟩, ?_⟩
  rintro i m H ⟨rfl, hi, p⟩
  have q := hG i H hi p
  by_cases hlt : i < n
  · exact .inr ⟨w.goes i H hlt q, Pv (i + 1), fun H' p' => ⟨n - (i + 1), by omega, rfl, hlt, p'⟩, fun x H' y => hs i x H H' hlt p (w.yields i H x H' hlt q y)⟩
  · have e : i = n := by omega
    subst e
    exact .inl ⟨w.stops H q, hd H p⟩
/-- tuple(x) of a list or a tuple -/
def rTupOf (K : PySem.W.Frag) : List V → Hp → VK → Prop := fun xs H Q => ∃ p ys, xs = [.ref p] ∧ ((SqL K H p ys ∧ ∀ l, H l = none → Q (.ref l) (upd H l (.tup ys))) ∨ (SqT K H p ys ∧ Q (.ref p) H))
theorem call_tupN {X : Cx} : CallR X (.type "tuple") (rTupOf X.K) := call_tuple_of
theorem same_seqT {K : PySem.W.Frag} {H H' : Hp} {a : Addr} {xs : List V} (e : Same H H') (h : SqT K H a xs) : SqT K H' a xs := by
  rcases h with (h | ⟨o, h⟩) | h
  · exact .inl (.inl (e _ _ h))
  · exact .inl (.inr ⟨o, e _ _ h⟩)
  · exact .inr h
/-- to be read as a list or a tuple -/
def Sq (K : PySem.W.Frag) (H : Hp) (a : Addr) (xs : List V) : Prop := SqL K H a xs ∨ SqT K H a xs
theorem same_sq {K : PySem.W.Frag} {H H' : Hp} {a : Addr} {xs : List V} (e : Same H H') (h : Sq K H a xs) : Sq K H' a xs := h.imp (fun h => e.seq h) (fun h => same_seqT e h)
theorem cut_take (xs : List V) (i : Nat) : cutV xs none (some (i : Int)) = xs.take i := by
  unfold cutV
  rw [HT.sIx_none, HT.sIx_nat, List.drop_zero, Nat.sub_zero]
  by_cases h : i ≤ xs.length
  · rw [Nat.min_eq_left h]
  · rw [Nat.min_eq_right (by omega), List.take_length, List.take_of_length_le (by omega)]
theorem all_take {xs : List V} (h : xs.all flatV = true) (i : Nat) : (xs.take i).all flatV = true := by
  rw [List.all_eq_true] at h ⊢
  exact fun x hx => h x (List.mem_of_mem_take hx)
end Wm
namespace Wm
open PySem L2
/-- no item stands ahead of itself -/
def NoTw (xs : List V) : Prop := ∀ (i : Nat) (x : V), xs[i]? = some x → inV x (xs.take i) = false
def spFT (K : PySem.W.Frag) : Sp := fun vs H Q _ => ∃ (l : Addr) (xs : List V), vs = [.ref l] ∧ Sq K H l xs ∧ xs.all flatV = true ∧ NoTw xs ∧ ∀ H', Same H H' → Q .non H'
def spRC : Sp := fun vs H Q _ => ∃ (z : V) (c lo hi : Int), vs = [z, .int c, .int lo, .int hi] ∧ lo ≤ c ∧ c ≤ hi ∧ Q .non H
section
variable {P : Program} {w : World} {K : PySem.W.Frag} {mg : Str → Option Value} {base : Heap}
theorem scRC : FnScope ["what", "count", "least", "most"] ["what", "count", "least", "most"] (defScope sRC) := ⟨rfl, rfl, rfl, by decide +kernel, rfl, by decide +kernel, by decide +kernel⟩
theorem ok_rc {f : Addr} {fd : FuncData} (F : Fun K "refuse_count" "refuse_count" sRC f fd) : FnOk P w K mg base CX0 1 f fd ["what", "count", "least", "most"] spRC := by
  refine F.ok scRC (fun vs H Q E h => ?_) (fun cdv A outer s H vs Q E hr h => ?_)
  · obtain ⟨z, c, lo, hi, rfl, _⟩ := h
    rfl
  · obtain ⟨z, c, lo, hi, rfl, h1, h2, k⟩ := h
    refine ⟨_, (pss_one (ps_if (PW.pt (pw_or (pt_cmpR op_lt (pv 1) (pv 2) (nomark _)) (pw_or1 (pt_cmpR op_gt (pv 1) (pv 3) (nomark _))))) (pss_one ps_never) pss_nil)), ?_⟩
    refine ⟨_, rfl, _, rfl, _, _, rfl, rfl, _, rfl, ?_⟩
    refine ite2 (fun h => absurd (of_decide_eq_true h) (by omega)) (fun _ => ?_)
    refine ⟨_, rfl, _, rfl, _, _, rfl, rfl, _, rfl, ?_⟩
    exact ite2 (fun h => absurd (of_decide_eq_true h) (by omega)) (fun _ => k)
theorem scFT : FnScope ["row", "place", "part"] ["row"] (defScope sFT) := ⟨rfl, rfl, rfl, by decide +kernel, rfl, by decide +kernel, by decide +kernel⟩
theorem ok_ft {f : Addr} {fd : FuncData} (F : Fun K "first_twice" "first_twice" sFT f fd) (T : TxB mg) : FnOk P w K mg base CX0 1 f fd ["row"] (spFT K) := by
  refine F.ok scFT (fun vs H Q E h => ?_) (fun cdv A outer s H vs Q E hr h => ?_)
  · obtain ⟨l, xs, rfl, _⟩ := h
    rfl
  · obtain ⟨l, xs, rfl, hl, hf, hno, k⟩ := h
    rcases hl with hl | hl
    · refine ⟨_, (pss_cons (ps_for PassesOwn.never rfl (pi_enum rfl T.enumerate (pa_cons (pv 0) pa_nil)) (pg_tup rfl (pgs_cons (pg_name (i := 1) scFT.nd rfl (Or.inl rfl)) (pgs_cons (pg_name (i := 2) scFT.nd rfl (Or.inl rfl)) pgs_nil))) (pss_one (ps_if (pt_cmpR op_in_seq (pv 2) (pe_slice sl_list (pv 0) po_none (po_some (pv 1))) (by rfl)) (pss_one (ps_ret (pv 1))) pss_nil)))
      (pss_one (ps_ret pe_non))), ?_⟩
      refine ⟨_, rfl, l, xs, rfl, hl, for_it walk_enum (fun i σ H' => (∃ u v, σ = [some (.ref l), u, v]) ∧ Same H H') ⟨⟨none, none, rfl⟩, Same.refl H⟩ (fun i σ H' _ p => p.2.seq hl) ?_ ?_⟩
      · rintro i x σ H1 H2 hi ⟨⟨u, v, rfl⟩, hS⟩ ⟨t, y, z, rfl, ht, rfl, e1, e2⟩
        cases e1
        refine ⟨t, _, rfl, SqT.of upd_same, rfl, _, _, rfl, _, _, rfl, rfl, ?_⟩
        have S2 := hS.trans (Same.upd (o := .tup [.int (i : Nat), z]) ht)
        refine ⟨_, rfl, _, rfl, _, rfl, _, rfl, l, xs, rfl, S2.seq hl, fun p hp => ?_⟩
        refine ⟨p, _, rfl, .inl (SqL.of upd_same), ?_, ?_, _, rfl, ?_⟩
        · exact List.all_eq_true.mp hf _ (List.mem_of_getElem? e2)
        · show (cutV xs none (some (i : Int))).all flatV = true
          rw [cut_take]
          exact all_take hf i
        · have e : inV z (cutV xs none (some (i : Int))) = false := by
            rw [cut_take]
            exact hno i z e2
          show if inV z (cutV xs none (some (i : Int))) = true then _ else _
          rw [e]
          exact iteF ⟨⟨_, _, rfl⟩, S2.trans (Same.upd hp)⟩
      · rintro σ H' ⟨_, hS⟩
        exact k H' hS
    · refine ⟨_, (pss_cons (ps_for PassesOwn.never rfl (pi_enumT rfl T.enumerate (pa_cons (pv 0) pa_nil)) (pg_tup rfl (pgs_cons (pg_name (i := 1) scFT.nd rfl (Or.inl rfl)) (pgs_cons (pg_name (i := 2) scFT.nd rfl (Or.inl rfl)) pgs_nil))) (pss_one (ps_if (pt_cmpR op_in_seq (pv 2) (pe_slice sl_tupA (pv 0) po_none (po_some (pv 1))) (by rfl)) (pss_one (ps_ret (pv 1))) pss_nil)))
      (pss_one (ps_ret pe_non))), ?_⟩
      refine ⟨_, rfl, l, xs, rfl, hl, for_it walk_enumT (fun i σ H' => (∃ u v, σ = [some (.ref l), u, v]) ∧ Same H H') ⟨⟨none, none, rfl⟩, Same.refl H⟩ (fun i σ H' _ p => same_seqT p.2 hl) ?_ ?_⟩
      · rintro i x σ H1 H2 hi ⟨⟨u, v, rfl⟩, hS⟩ ⟨t, y, z, rfl, ht, rfl, e1, e2⟩
        cases e1
        refine ⟨t, _, rfl, SqT.of upd_same, rfl, _, _, rfl, _, _, rfl, rfl, ?_⟩
        have S2 := hS.trans (Same.upd (o := .tup [.int (i : Nat), z]) ht)
        refine ⟨_, rfl, _, rfl, _, rfl, _, rfl, l, xs, rfl, same_seqT S2 hl, fun h => ?_, fun h p hp => ?_⟩
        · have en : xs.take i = xs := by
            rw [HT.sIx_nat] at h
            exact List.take_of_length_le (by omega)
          have e : inV z xs = false := by
            have q := hno i z e2
            rw [en] at q
            exact q
          refine ⟨l, xs, rfl, .inr (same_seqT S2 hl), List.all_eq_true.mp hf _ (List.mem_of_getElem? e2), hf, _, rfl, ?_⟩
          show if inV z xs = true then _ else _
          rw [e]
          exact iteF ⟨⟨_, _, rfl⟩, S2⟩
        · refine ⟨p, _, rfl, .inr (SqT.of upd_same), List.all_eq_true.mp hf _ (List.mem_of_getElem? e2), ?_, _, rfl, ?_⟩
          · show (cutV xs none (some (i : Int))).all flatV = true
            rw [cut_take]
            exact all_take hf i
          · have e : inV z (cutV xs none (some (i : Int))) = false := by
              rw [cut_take]
              exact hno i z e2
            show if inV z (cutV xs none (some (i : Int))) = true then _ else _
            rw [e]
            exact iteF ⟨⟨_, _, rfl⟩, S2.trans (Same.upd hp)⟩
      · rintro σ H' ⟨_, hS⟩
        exact k H' hS
theorem scRT : FnScope ["names", "place"] ["names"] (defScope sRT) := ⟨rfl, rfl, rfl, by decide +kernel, rfl, by decide +kernel, by decide +kernel⟩
theorem ok_rt {f fF : Addr} {fd fdF : FuncData} (F : Fun K "refuse_twice" "refuse_twice" sRT f fd) (T : TxB mg) (D : Dn K mg "first_twice" sFT ["row"] fF fdF) : FnOk P w K mg base CX0 2 f fd ["names"] (spFT K) := by
  have G : FnOk P w K mg base CX0 1 fF fdF ["row"] (spFT K) := ok_ft D.F T
  refine F.ok scRT (fun vs H Q E h => ?_) (fun cdv A outer s H vs Q E hr h => ?_)
  · obtain ⟨l, xs, rfl, _⟩ := h
    rfl
  · obtain ⟨l, xs, rfl, hl, hf, hno, k⟩ := h
    refine ⟨_, (pss_cons (ps_set (i := 1) scRT.nd rfl (Or.inl rfl) (pe_call G hr rfl D.g D.F.kp D.b .nil pass0 (pa_cons (pv 0) pa_nil)))
      (pss_one (ps_if (pt_cmp (pc_notN (pv 1))) (pss_one ps_never) pss_nil))), ?_⟩
    refine ⟨_, rfl, l, xs, rfl, hl, hf, hno, fun H' hS => ?_⟩
    refine ⟨_, rfl, _, rfl, ?_⟩
    exact iteF (k H' hS)
end
end Wm
namespace Wm
open PySem L2
/-- the tuples at the addresses -/
def RowsAt (K : PySem.W.Frag) (H : Hp) : List Addr → List (List V) → Prop
  | [], [] => True
  | p :: ps, r :: rs => SqT K H p r ∧ RowsAt K H ps rs
  | _, _ => False
theorem RowsAt.same {K : PySem.W.Frag} {H H' : Hp} (e : Same H H') : ∀ {ps : List Addr} {rs : List (List V)}, RowsAt K H ps rs → RowsAt K H' ps rs
  | [], [], _ => True.intro
  | _ :: _, _ :: _, h => ⟨same_seqT e h.1, RowsAt.same e h.2⟩
  | [], _ :: _, h => h.elim
  | _ :: _, [], h => h.elim
theorem RowsAt.len {K : PySem.W.Frag} {H : Hp} : ∀ {ps : List Addr} {rs : List (List V)}, RowsAt K H ps rs → ps.length = rs.length
  | [], [], _ => rfl
  | _ :: _, _ :: _, h => congrArg Nat.succ (RowsAt.len h.2)
  | [], _ :: _, h => h.elim
  | _ :: _, [], h => h.elim
theorem RowsAt.get {K : PySem.W.Frag} {H : Hp} : ∀ {ps : List Addr} {rs : List (List V)} {i : Nat} {p : Addr}, RowsAt K H ps rs → ps[i]? = some p → ∃ r, rs[i]? = some r ∧ SqT K H p r
  | [], [], i, p, _, e => by simp at e
  | _ :: _, r :: _, 0, p, h, e => by
    have e' := Option.some.inj e
    subst e'
    exact ⟨r, rfl, h.1⟩
  | _ :: ps, _ :: rs, i + 1, p, h, e => by
    obtain ⟨r, h1, h2⟩ := RowsAt.get (i := i) h.2 (by simpa using e)
    exact ⟨r, by simpa using h1, h2⟩
  | [], _ :: _, _, _, h, _ => h.elim
  | _ :: _, [], _, _, h, _ => h.elim
theorem RowsAt.append {K : PySem.W.Frag} {H : Hp} : ∀ {ps qs : List Addr} {rs us : List (List V)}, RowsAt K H ps rs → RowsAt K H qs us → RowsAt K H (ps ++ qs) (rs ++ us)
  | [], _, [], _, _, h => h
  | _ :: _, _, _ :: _, _, h, g => ⟨h.1, RowsAt.append h.2 g⟩
  | [], _, _ :: _, _, h, _ => h.elim
  | _ :: _, _, [], _, h, _ => h.elim
theorem RowsAt.take {K : PySem.W.Frag} {H : Hp} : ∀ {ps : List Addr} {rs : List (List V)} (n : Nat), RowsAt K H ps rs → RowsAt K H (ps.take n) (rs.take n)
  | _, _, 0, _ => True.intro
  | [], [], _ + 1, _ => True.intro
  | _ :: _, _ :: _, n + 1, h => ⟨h.1, RowsAt.take n h.2⟩
  | [], _ :: _, _ + 1, h => h.elim
  | _ :: _, [], _ + 1, h => h.elim
theorem map_ref_get {ps : List Addr} {i : Nat} {x : V} (h : (ps.map V.ref)[i]? = some x) : ∃ p, ps[i]? = some p ∧ x = .ref p := by
  rw [List.getElem?_map] at h
  cases e : ps[i]? with
  | none =>
    rw [e] at h
    cases h
  | some p =>
    rw [e] at h
    exact ⟨p, rfl, (Option.some.inj h).symm⟩
theorem map_str_get {ps : List Str} {i : Nat} {x : V} (h : (ps.map V.str)[i]? = some x) : ∃ p, ps[i]? = some p ∧ x = .str p := by
  rw [List.getElem?_map] at h
  cases e : ps[i]? with
  | none =>
    rw [e] at h
    cases h
  | some p =>
    rw [e] at h
    exact ⟨p, rfl, (Option.some.inj h).symm⟩
abbrev Tri := Str × Str × Str
def triV (t : Tri) : List V := [.str t.1, .str t.2.1, .str t.2.2]
def endsL (ts : List Tri) : List Str := ts.flatMap fun t => [t.1, t.2.2]
theorem endsL_take {ts : List Tri} {i : Nat} {t : Tri} (h : ts[i]? = some t) : endsL (ts.take (i + 1)) = endsL (ts.take i) ++ [t.1, t.2.2] := by
  unfold endsL
  rw [List.take_add_one, h, List.flatMap_append]
  rfl
theorem endsL_len (ts : List Tri) : (endsL ts).length = 2 * ts.length := by
  induction ts with
  | nil => rfl
  | cons t r ih =>
    have e : (endsL (t :: r)).length = 2 + (endsL r).length := by
      show ([t.1, t.2.2] ++ endsL r).length = _
      rw [List.length_append]
      rfl
    have e2 : (t :: r).length = r.length + 1 := rfl
    omega
theorem tri_get {ts : List Tri} {i : Nat} {r : List V} (h : (ts.map triV)[i]? = some r) : ∃ t, ts[i]? = some t ∧ r = triV t := by
  rw [List.getElem?_map] at h
  cases e : ts[i]? with
  | none =>
    rw [e] at h
    cases h
  | some p =>
    rw [e] at h
    exact ⟨p, rfl, (Option.some.inj h).symm⟩
def spTT (K : PySem.W.Frag) : Sp := fun vs H Q _ => ∃ (l : Addr) (ps : List Addr) (rs : List (List V)), vs = [.ref l] ∧ SqL K H l (ps.map V.ref) ∧ RowsAt K H ps rs ∧ ps.length ≤ 1000 ∧ ∀ t H', H t = none → Same H H' → H' t = some (.tup (ps.map V.ref)) → Q (.ref t) H'
def spEO (K : PySem.W.Frag) : Sp := fun vs H Q _ => ∃ (l : Addr) (ps : List Addr) (ts : List Tri), vs = [.ref l] ∧ Sq K H l (ps.map V.ref) ∧ RowsAt K H ps (ts.map triV) ∧ ps.length ≤ 1000 ∧ ∀ d H', H d = none → Same H H' → H' d = some (.lst ((endsL ts).map V.str)) → Q (.ref d) H'
section
variable {P : Program} {w : World} {K : PySem.W.Frag} {mg : Str → Option Value} {base : Heap}
theorem scTT : FnScope ["rows", "row"] ["rows"] (defScope sTT) := ⟨rfl, rfl, rfl, by decide +kernel, rfl, by decide +kernel, by decide +kernel⟩
theorem ok_tt {f : Addr} {fd : FuncData} (F : Fun K "tuple_of_tuples" "tuple_of_tuples" sTT f fd) (T : TxB mg) : FnOk P w K mg base CX0 1 f fd ["rows"] (spTT K) := by
  refine F.ok scTT (fun vs H Q E h => ?_) (fun cdv A outer s H vs Q E hr h => ?_)
  · obtain ⟨l, ps, rs, rfl, _⟩ := h
    rfl
  · obtain ⟨l, ps, rs, rfl, hl, hrs, hn, k⟩ := h
    refine ⟨_, (pss_one (ps_ret (pe_callTy call_tupN (by rfl) T.tuple (by decide +kernel) (pa_cons (pe_lc (own := [("row", 1)]) (g := gName 1) (te := tCB (rTupOf K) (tCons (tVar 1) tNil)) rfl scTT.nd (pi_list (pv 0)) (blkOk_by (N := ["rows", "row"]) (sc := defScope sTT) (by decide +kernel)) (fun _ _ _ _ _ => (pg_name (i := 1) scTT.nd rfl (Or.inl rfl))) (fun _ _ _ _ _ => pts_nil) (fun _ _ _ _ _ => (pe_callTy call_tupN (by rfl) T.tuple (by decide +kernel) (pa_cons (pv 1) pa_nil)))) pa_nil)))), ?_⟩
    refine ⟨_, rfl, l, rfl, ⟨_, hl⟩, fun D hD => ?_⟩
    refine lc_it walk_list (fun i H' => Same H H' ∧ H' D = some (.lst ((ps.take i).map V.ref))) ⟨Same.upd hD, upd_same⟩ (fun i H' _ p => p.1.seq hl) ?_ ?_
    · rintro i x H1 H2 hi ⟨hS, hd⟩ ⟨rfl, hx⟩
      obtain ⟨p, hp, rfl⟩ := map_ref_get hx
      obtain ⟨r, _, hr'⟩ := hrs.get hp
      refine ⟨rfl, ?_⟩
      refine ⟨_, rfl, p, r, rfl, .inr ⟨same_seqT hS hr', _, hd, ?_, ?_, ?_⟩⟩
      · rw [List.length_map, List.length_take]
        exact Nat.lt_of_le_of_lt (show _ ≤ 1000 by omega) (by decide)
      · intro b o h
        rw [upd_ne (ne_of_none h hD)]
        exact hS b o h
      · rw [upd_same, List.take_add_one, hp, List.map_append]
        rfl
    · rintro H' ⟨hS, hd⟩
      rw [List.length_map, List.take_length] at hd
      exact ⟨D, _, rfl, .inl ⟨SqL.of hd, fun t ht => k t _ (hS.free ht) (hS.trans (Same.upd ht)) upd_same⟩⟩
theorem scEO : FnScope ["triples", "x", "word", "y", "end"] ["triples"] (defScope sEO) := ⟨rfl, rfl, rfl, by decide +kernel, rfl, by decide +kernel, by decide +kernel⟩
theorem ok_eo {f : Addr} {fd : FuncData} (F : Fun K "ends_of" "ends_of" sEO f fd) : FnOk P w K mg base CX0 1 f fd ["triples"] (spEO K) := by
  refine F.ok scEO (fun vs H Q E h => ?_) (fun cdv A outer s H vs Q E hr h => ?_)
  · obtain ⟨l, ps, ts, rfl, _⟩ := h
    rfl
  · obtain ⟨l, ps, ts, rfl, hl, hrs, hn, k⟩ := h
    have hlen := hrs.len
    rw [List.length_map] at hlen
    rcases hl with hl | hl
    · refine ⟨_, (pss_one (ps_ret (pe_lc2 (own := [("x", 1), ("word", 2), ("y", 3), ("end", 4)]) (vs1 := [4]) (g := gTup K 3 (gCons (gName 1) (gCons (gName 2) (gCons (gName 3) gNil)))) (g1 := gName 4) (wi1 := iTup K (tTup (tCons (tVar 1) (tCons (tVar 3) tNil)))) rfl scEO.nd (pi_list (pv 0)) (blkOk_by (N := ["triples", "x", "word", "y", "end"]) (sc := defScope sEO) (by decide +kernel)) (by decide) (fun _ _ _ _ _ => (pg_tup rfl (pgs_cons (pg_name (i := 1) scEO.nd rfl (Or.inl rfl)) (pgs_cons (pg_name (i := 2) scEO.nd rfl (Or.inl rfl)) (pgs_cons (pg_name (i := 3) scEO.nd rfl (Or.inl rfl)) pgs_nil))))) (fun _ _ _ _ _ => pts_nil) (fun _ _ _ _ _ => (pi_tup (pe_tup (pa_cons (pv 1) (pa_cons (pv 3) pa_nil))))) (fun _ _ _ _ _ => (pg_name (i := 4) scEO.nd rfl (Or.inl rfl))) (fun _ _ _ _ _ => pts_nil) (fun _ _ _ _ _ => (pv 4))))), ?_⟩
      refine ⟨_, rfl, l, rfl, ⟨_, hl⟩, fun D hD => ?_⟩
      refine lc2_it walk_list (fun i H' => Same H H' ∧ H' D = some (.lst ((endsL (ts.take i)).map V.str))) ⟨Same.upd hD, upd_same⟩ (fun i H' _ p => p.1.seq hl) ?_ ?_
      · rintro i x H1 H2 hi ⟨hS, hd⟩ ⟨rfl, hx⟩
        obtain ⟨p, hp, rfl⟩ := map_ref_get hx
        obtain ⟨r, hr1, hr'⟩ := hrs.get hp
        obtain ⟨t, ht, rfl⟩ := tri_get hr1
        refine ⟨p, _, rfl, same_seqT hS hr', rfl, _, _, rfl, _, _, rfl, _, _, rfl, rfl, rfl, ?_⟩
        refine ⟨_, rfl, _, rfl, by show 2 ≤ sizeLine; decide, fun q hq => ⟨q, rfl, ⟨_, SqT.of upd_same⟩, ?_⟩⟩
        have nDq : D ≠ q := ne_of_none hd hq
        refine lc1_it walk_tup (fun j H' => Same H H' ∧ SqT K H' q [.str t.1, .str t.2.2] ∧ H' D = some (.lst ((endsL (ts.take i) ++ [t.1, t.2.2].take j).map V.str))) ⟨hS.trans (Same.upd hq), SqT.of upd_same, ?_⟩ (fun _ _ _ p => p.2.1) ?_ ?_
        · rw [upd_ne nDq, hd, List.take_zero, List.append_nil]
        · rintro j y H3 H4 hj ⟨hS3, hq3, hd3⟩ ⟨rfl, hy⟩
          refine ⟨rfl, _, rfl, _, hd3, ?_, ?_, ?_, ?_⟩
          · rw [List.length_map, List.length_append, endsL_len, List.length_take, List.length_take]
            have l2 : [t.1, t.2.2].length = 2 := rfl
            exact Nat.lt_of_le_of_lt (show _ ≤ 4000 by omega) (by decide)
          · intro b o h
            rw [upd_ne (ne_of_none h hD)]
            exact hS3 b o h
          · rcases hq3 with (h | ⟨o, h⟩) | h
            · exact .inl (.inl (by rw [upd_ne (ne_of h hd3 (by intro z; cases z))]; exact h))
            · exact .inl (.inr ⟨o, by rw [upd_ne (ne_of h hd3 (by intro z; cases z))]; exact h⟩)
            · exact .inr h
          · have hy' : ([t.1, t.2.2].map V.str)[j]? = some y := hy
            obtain ⟨z, hz, rfl⟩ := map_str_get hy'
            have e : ∀ l : List Str, (l ++ (some z).toList).map V.str = l.map V.str ++ [V.str z] := fun l => by
              rw [List.map_append]
              rfl
            rw [upd_same, List.take_add_one, hz, ← List.append_assoc, e]
        · rintro H3 ⟨hS3, hq3, hd3⟩
          refine ⟨hS3, ?_⟩
          rw [hd3, endsL_take ht]
          rfl
      · rintro H' ⟨hS, hd⟩
        refine k D H' hD hS ?_
        rw [hd, List.length_map, List.take_of_length_le (by omega)]
    · refine ⟨_, (pss_one (ps_ret (pe_lc2 (own := [("x", 1), ("word", 2), ("y", 3), ("end", 4)]) (vs1 := [4]) (g := gTup K 3 (gCons (gName 1) (gCons (gName 2) (gCons (gName 3) gNil)))) (g1 := gName 4) (wi1 := iTup K (tTup (tCons (tVar 1) (tCons (tVar 3) tNil)))) rfl scEO.nd (pi_tup (pv 0)) (blkOk_by (N := ["triples", "x", "word", "y", "end"]) (sc := defScope sEO) (by decide +kernel)) (by decide) (fun _ _ _ _ _ => (pg_tup rfl (pgs_cons (pg_name (i := 1) scEO.nd rfl (Or.inl rfl)) (pgs_cons (pg_name (i := 2) scEO.nd rfl (Or.inl rfl)) (pgs_cons (pg_name (i := 3) scEO.nd rfl (Or.inl rfl)) pgs_nil))))) (fun _ _ _ _ _ => pts_nil) (fun _ _ _ _ _ => (pi_tup (pe_tup (pa_cons (pv 1) (pa_cons (pv 3) pa_nil))))) (fun _ _ _ _ _ => (pg_name (i := 4) scEO.nd rfl (Or.inl rfl))) (fun _ _ _ _ _ => pts_nil) (fun _ _ _ _ _ => (pv 4))))), ?_⟩
      refine ⟨_, rfl, l, rfl, ⟨_, hl⟩, fun D hD => ?_⟩
      refine lc2_it walk_tup (fun i H' => Same H H' ∧ H' D = some (.lst ((endsL (ts.take i)).map V.str))) ⟨Same.upd hD, upd_same⟩ (fun i H' _ p => same_seqT p.1 hl) ?_ ?_
      · rintro i x H1 H2 hi ⟨hS, hd⟩ ⟨rfl, hx⟩
        obtain ⟨p, hp, rfl⟩ := map_ref_get hx
        obtain ⟨r, hr1, hr'⟩ := hrs.get hp
        obtain ⟨t, ht, rfl⟩ := tri_get hr1
        refine ⟨p, _, rfl, same_seqT hS hr', rfl, _, _, rfl, _, _, rfl, _, _, rfl, rfl, rfl, ?_⟩
        refine ⟨_, rfl, _, rfl, by show 2 ≤ sizeLine; decide, fun q hq => ⟨q, rfl, ⟨_, SqT.of upd_same⟩, ?_⟩⟩
        have nDq : D ≠ q := ne_of_none hd hq
        refine lc1_it walk_tup (fun j H' => Same H H' ∧ SqT K H' q [.str t.1, .str t.2.2] ∧ H' D = some (.lst ((endsL (ts.take i) ++ [t.1, t.2.2].take j).map V.str))) ⟨hS.trans (Same.upd hq), SqT.of upd_same, ?_⟩ (fun _ _ _ p => p.2.1) ?_ ?_
        · rw [upd_ne nDq, hd, List.take_zero, List.append_nil]
        · rintro j y H3 H4 hj ⟨hS3, hq3, hd3⟩ ⟨rfl, hy⟩
          refine ⟨rfl, _, rfl, _, hd3, ?_, ?_, ?_, ?_⟩
          · rw [List.length_map, List.length_append, endsL_len, List.length_take, List.length_take]
            have l2 : [t.1, t.2.2].length = 2 := rfl
            exact Nat.lt_of_le_of_lt (show _ ≤ 4000 by omega) (by decide)
          · intro b o h
            rw [upd_ne (ne_of_none h hD)]
            exact hS3 b o h
          · rcases hq3 with (h | ⟨o, h⟩) | h
            · exact .inl (.inl (by rw [upd_ne (ne_of h hd3 (by intro z; cases z))]; exact h))
            · exact .inl (.inr ⟨o, by rw [upd_ne (ne_of h hd3 (by intro z; cases z))]; exact h⟩)
            · exact .inr h
          · have hy' : ([t.1, t.2.2].map V.str)[j]? = some y := hy
            obtain ⟨z, hz, rfl⟩ := map_str_get hy'
            have e : ∀ l : List Str, (l ++ (some z).toList).map V.str = l.map V.str ++ [V.str z] := fun l => by
              rw [List.map_append]
              rfl
            rw [upd_same, List.take_add_one, hz, ← List.append_assoc, e]
        · rintro H3 ⟨hS3, hq3, hd3⟩
          refine ⟨hS3, ?_⟩
          rw [hd3, endsL_take ht]
          rfl
      · rintro H' ⟨hS, hd⟩
        refine k D H' hD hS ?_
        rw [hd, List.length_map, List.take_of_length_le (by omega)]
end
end Wm
namespace Wm
open PySem L2
abbrev Var := Str × Option Str
def sortV : Option Str → V
  | none => .non
  | some s => .str s
def varV (v : Var) : List V := [.str v.1, sortV v.2]
def varT (v : Var) : List Str := v.1 :: v.2.toList
def textsL (nm : Str) (vars : List Var) (ts : List Tri) : List Str := (nm :: vars.flatMap varT) ++ ts.map (·.2.1)
theorem flat_take {vars : List Var} {i : Nat} {v : Var} (h : vars[i]? = some v) : (vars.take (i + 1)).flatMap varT = (vars.take i).flatMap varT ++ varT v := by
  rw [List.take_add_one, h, List.flatMap_append]
  simp
theorem var_get {vars : List Var} {i : Nat} {r : List V} (h : (vars.map varV)[i]? = some r) : ∃ t, vars[i]? = some t ∧ r = varV t := by
  rw [List.getElem?_map] at h
  cases e : vars[i]? with
  | none =>
    rw [e] at h
    cases h
  | some p =>
    rw [e] at h
    exact ⟨p, rfl, (Option.some.inj h).symm⟩
theorem inV_str {z : Str} {ns : List Str} : inV (.str z) (ns.map V.str) = decide (z ∈ ns) := by
  unfold inV
  induction ns with
  | nil => rfl
  | cons a r ih =>
    rw [List.map_cons, List.any_cons, ih]
    show (a == z || _) = _
    by_cases h : a = z
    · subst h
      simp
    · have h2 : ¬ z = a := fun q => h q.symm
      by_cases h3 : z ∈ r <;> simp [h, h2, h3]
theorem flat_strs (ns : List Str) : (ns.map V.str).all flatV = true := by
  rw [List.all_eq_true]
  intro x hx
  obtain ⟨z, _, rfl⟩ := List.mem_map.mp hx
  rfl
def spTP (K : PySem.W.Frag) : Sp := fun vs H Q _ => ∃ (nm : Str) (a b : Addr) (ps qs : List Addr) (vars : List Var) (ts : List Tri), vs = [.str nm, .ref a, .ref b] ∧ SqT K H a (ps.map V.ref) ∧ RowsAt K H ps (vars.map varV) ∧ SqL K H b (qs.map V.ref) ∧ RowsAt K H qs (ts.map triV) ∧
  ps.length ≤ 1000 ∧ qs.length ≤ 1000 ∧ ∀ d H', H d = none → Same H H' → H' d = some (.lst ((textsL nm vars ts).map V.str)) → Q (.ref d) H'
def spRV (K : PySem.W.Frag) : Sp := fun vs H Q _ => ∃ (a b : Addr) (ns zs : List Str), vs = [.ref a, .ref b] ∧ SqL K H a (ns.map V.str) ∧ SqL K H b (zs.map V.str) ∧ (∀ z ∈ zs, z ∈ ns) ∧ ∀ H', Same H H' → Q .non H'
def spRL (K : PySem.W.Frag) : Sp := fun vs H Q _ => ∃ (a b : Addr) (ns : List Str) (ps : List Addr) (ts : List Tri), vs = [.ref a, .ref b] ∧ SqL K H a (ns.map V.str) ∧ SqT K H b (ps.map V.ref) ∧ RowsAt K H ps (ts.map triV) ∧ ps.length ≤ 1000 ∧ (∀ z ∈ ns, z ∈ endsL ts) ∧ ∀ H', Same H H' → Q .non H'
def Hangs (ts : List Tri) : Prop := ∀ (i : Nat) (t : Tri), 0 < i → ts[i]? = some t → t.1 ∈ endsL (ts.take i) ∨ t.2.2 ∈ endsL (ts.take i)
def spRA (K : PySem.W.Frag) : Sp := fun vs H Q _ => ∃ (b : Addr) (ps : List Addr) (ts : List Tri), vs = [.ref b] ∧ SqT K H b (ps.map V.ref) ∧ RowsAt K H ps (ts.map triV) ∧ ps.length ≤ 1000 ∧ Hangs ts ∧ ∀ H', Same H H' → Q .non H'
section
variable {P : Program} {w : World} {K : PySem.W.Frag} {mg : Str → Option Value} {base : Heap}
theorem scTP : FnScope ["name", "variables", "triples", "texts", "variable", "sort", "x", "word", "y"] ["name", "variables", "triples"] (defScope sTP) := ⟨rfl, rfl, rfl, by decide +kernel, rfl, by decide +kernel, by decide +kernel⟩
theorem ok_tp {f : Addr} {fd : FuncData} (F : Fun K "texts_of_pattern" "texts_of_pattern" sTP f fd) : FnOk P w K mg base CX0 1 f fd ["name", "variables", "triples"] (spTP K) := by
  refine F.ok scTP (fun vs H Q E h => ?_) (fun cdv A outer s H vs Q E hr h => ?_)
  · obtain ⟨nm, a, b, ps, qs, vars, ts, rfl, _⟩ := h
    rfl
  · obtain ⟨nm, a, b, ps, qs, vars, ts, rfl, ha, hva, hb, htr, hn, hn2, k⟩ := h
    have hlen := hva.len
    rw [List.length_map] at hlen
    have hlen2 := htr.len
    rw [List.length_map] at hlen2
    have fl : ∀ i, ((vars.take i).flatMap varT).length ≤ 2 * vars.length := fun i => by
      have e : ∀ l : List Var, (l.flatMap varT).length ≤ 2 * l.length := fun l => by
        induction l with
        | nil => exact Nat.le_refl _
        | cons v r ih =>
          have e : ((v :: r).flatMap varT).length = (varT v).length + (r.flatMap varT).length := by
            rw [List.flatMap_cons, List.length_append]
          have e2 : (varT v).length ≤ 2 := by
            unfold varT
            cases v.2 <;> simp
          have e3 : (v :: r).length = r.length + 1 := rfl
          omega
      have q := e (vars.take i)
      rw [List.length_take] at q
      omega
    refine ⟨_, (pss_cons (ps_set (i := 3) scTP.nd rfl (Or.inl rfl) (pe_lst (pa_cons (pv 0) pa_nil)))
      (pss_cons (ps_for PassesOwn.never rfl (pi_tup (pv 1)) (pg_tup rfl (pgs_cons (pg_name (i := 4) scTP.nd rfl (Or.inl rfl)) (pgs_cons (pg_name (i := 5) scTP.nd rfl (Or.inl rfl)) pgs_nil))) (pss_cons (ps_expr (pe_bm PySem.F.plainAttrs_list PySem.F.slot_list_append PySem.F.type_list_append mt_append (pv 3) (pa_cons (pv 4) pa_nil)))
      (pss_one (ps_if (pt_cmp (pc_notN (pv 5))) (pss_one (ps_expr (pe_bm PySem.F.plainAttrs_list PySem.F.slot_list_append PySem.F.type_list_append mt_append (pv 3) (pa_cons (pv 5) pa_nil)))) pss_nil))))
      (pss_cons (ps_expr (pe_bm PySem.F.plainAttrs_list PySem.F.slot_list_extend PySem.F.type_list_extend mt_extend (pv 3) (pa_cons (pe_lc (own := [("x", 6), ("word", 7), ("y", 8)]) (g := gTup K 3 (gCons (gName 6) (gCons (gName 7) (gCons (gName 8) gNil)))) rfl scTP.nd (pi_list (pv 2)) (blkOk_by (N := ["name", "variables", "triples", "texts", "variable", "sort", "x", "word", "y"]) (sc := defScope sTP) (by decide +kernel)) (fun _ _ _ _ _ => (pg_tup rfl (pgs_cons (pg_name (i := 6) scTP.nd rfl (Or.inl rfl)) (pgs_cons (pg_name (i := 7) scTP.nd rfl (Or.inl rfl)) (pgs_cons (pg_name (i := 8) scTP.nd rfl (Or.inl rfl)) pgs_nil))))) (fun _ _ _ _ _ => pts_nil) (fun _ _ _ _ _ => (pv 7))) pa_nil)))
      (pss_one (ps_ret (pv 3)))))), ?_⟩
    refine ⟨_, rfl, by show 1 ≤ sizeLine; decide, fun d hd => ?_⟩
    have S0 : Same H (upd H d (.lst [.str nm])) := Same.upd hd
    refine ⟨_, rfl, a, rfl, ⟨_, same_seqT S0 ha⟩, for_it walk_tup (fun i σ H' => (∃ u v, σ = [some (.str nm), some (.ref a), some (.ref b), some (.ref d), u, v, none, none, none]) ∧ Same H H' ∧ H' d = some (.lst ((nm :: (vars.take i).flatMap varT).map V.str)))
      ⟨⟨none, none, rfl⟩, S0, upd_same⟩ (fun i σ H' _ p => same_seqT p.2.1 ha) ?_ ?_⟩
    · rintro i x σ H1 H2 hi ⟨⟨u, v, rfl⟩, hS, hl⟩ ⟨rfl, hx⟩
      obtain ⟨p, hp, rfl⟩ := map_ref_get hx
      obtain ⟨r, hr1, hr'⟩ := hva.get hp
      obtain ⟨⟨n, so⟩, ht, rfl⟩ := var_get hr1
      have fi := fl i
      refine ⟨p, _, rfl, same_seqT hS hr', rfl, _, _, rfl, _, _, rfl, rfl, ?_⟩
      refine ⟨_, rfl, .inl ⟨rfl, _, SqL.of hl⟩, _, rfl, d, _, _, rfl, rfl, hl, ?_, ?_⟩
      · rw [List.length_map, List.length_cons]
        exact Nat.lt_of_le_of_lt (show _ ≤ 4000 by omega) (by decide)
      have S1 : Same H (upd H2 d (.lst ((nm :: (vars.take i).flatMap varT).map V.str ++ [.str n]))) := fun b' o h => by
        rw [upd_ne (ne_of_none h hd)]
        exact hS b' o h
      refine ⟨_, rfl, _, rfl, ?_⟩
      cases so with
      | none =>
        refine iteF ⟨⟨_, _, rfl⟩, S1, ?_⟩
        rw [upd_same, flat_take ht]
        have e : (nm :: ((vars.take i).flatMap varT ++ varT (n, none))) = (nm :: (vars.take i).flatMap varT) ++ [n] := rfl
        rw [e, List.map_append]
        rfl
      | some so =>
        refine iteT ?_
        refine ⟨_, rfl, .inl ⟨rfl, _, SqL.of upd_same⟩, _, rfl, d, _, _, rfl, rfl, upd_same, ?_, ?_⟩
        · rw [List.length_append, List.length_map, List.length_cons, List.length_singleton]
          exact Nat.lt_of_le_of_lt (show _ ≤ 4000 by omega) (by decide)
        · refine ⟨⟨_, _, rfl⟩, fun b' o h => ?_, ?_⟩
          · rw [upd_ne (ne_of_none h hd)]
            exact S1 b' o h
          · rw [upd_same, flat_take ht]
            have e : (nm :: ((vars.take i).flatMap varT ++ varT (n, some so))) = (nm :: (vars.take i).flatMap varT) ++ [n, so] := rfl
            rw [e, List.map_append, List.append_assoc]
            rfl
    · rintro σ H1 ⟨⟨u, v, rfl⟩, hS, hl⟩
      rw [List.length_map, List.take_of_length_le (by omega)] at hl
      have fi := fl vars.length
      rw [List.take_length] at fi
      refine ⟨_, rfl, .inl ⟨rfl, _, SqL.of hl⟩, _, rfl, b, rfl, ⟨_, hS.seq hb⟩, fun D hD => ?_⟩
      have nDd : D ≠ d := (ne_of_none hl hD).symm
      refine lc_it walk_list (fun i H' => Same H H' ∧ H' d = some (.lst ((nm :: vars.flatMap varT).map V.str)) ∧ H' D = some (.lst (((ts.take i).map (·.2.1)).map V.str))) ⟨hS.trans (Same.upd hD), by rw [upd_ne nDd.symm]; exact hl, upd_same⟩ (fun i H' _ p => p.1.seq hb) ?_ ?_
      · rintro i x H2 H3 hi ⟨hS2, hl2, hD2⟩ ⟨rfl, hx⟩
        obtain ⟨p, hp, rfl⟩ := map_ref_get hx
        obtain ⟨r, hr1, hr'⟩ := htr.get hp
        obtain ⟨t, ht, rfl⟩ := tri_get hr1
        refine ⟨p, _, rfl, same_seqT hS2 hr', rfl, _, _, rfl, _, _, rfl, _, _, rfl, rfl, rfl, ?_⟩
        refine ⟨_, rfl, _, hD2, ?_, ?_, ?_, ?_⟩
        · rw [List.length_map, List.length_map, List.length_take]
          exact Nat.lt_of_le_of_lt (show _ ≤ 1000 by omega) (by decide)
        · intro b' o h
          rw [upd_ne (ne_of_none h (hS.free hD))]
          exact hS2 b' o h
        · rw [upd_ne nDd.symm]
          exact hl2
        · rw [upd_same, List.take_add_one, ht, List.map_append, List.map_append]
          rfl
      · rintro H2 ⟨hS2, hl2, hD2⟩
        rw [List.length_map, List.take_of_length_le (by omega)] at hD2
        refine ⟨d, D, _, _, rfl, rfl, hl2, hD2, ?_, ?_⟩
        · rw [List.length_map, List.length_map, List.length_map, List.length_cons]
          exact Nat.le_trans (show _ ≤ 4000 by omega) (by decide)
        · refine ⟨_, rfl, ?_⟩
          refine k d _ hd (fun b' o h => ?_) ?_
          · rw [upd_ne (ne_of_none h hd)]
            exact hS2 b' o h
          · rw [upd_same]
            unfold textsL
            rw [List.map_append]
theorem scRV : FnScope ["names", "texts", "text"] ["names", "texts"] (defScope sRV) := ⟨rfl, rfl, rfl, by decide +kernel, rfl, by decide +kernel, by decide +kernel⟩
theorem ok_rv {f : Addr} {fd : FuncData} (F : Fun K "refuse_no_variable" "refuse_no_variable" sRV f fd) : FnOk P w K mg base CX0 1 f fd ["names", "texts"] (spRV K) := by
  refine F.ok scRV (fun vs H Q E h => ?_) (fun cdv A outer s H vs Q E hr h => ?_)
  · obtain ⟨a, b, ns, zs, rfl, _⟩ := h
    rfl
  · obtain ⟨a, b, ns, zs, rfl, ha, hb, hin, k⟩ := h
    refine ⟨_, (pss_one (ps_for PassesOwn.never rfl (pi_list (pv 1)) (pg_name (i := 2) scRV.nd rfl (Or.inl rfl)) (pss_one (ps_if (pt_cmpR op_notIn_seq (pv 2) (pv 0) (by rfl)) (pss_one ps_never) pss_nil)))), ?_⟩
    refine ⟨_, rfl, b, rfl, ⟨_, hb⟩, for_list (K := K) (a := b) (xs := zs.map V.str) (fun i σ H' => (∃ v, σ = [some (.ref a), some (.ref b), v]) ∧ H' = H) ⟨⟨none, rfl⟩, rfl⟩ (fun i σ H' _ p => by rw [p.2]; exact hb) ?_ ?_⟩
    · rintro i y σ H' hi ⟨⟨v, rfl⟩, rfl⟩
      obtain ⟨z, hz, rfl⟩ := map_str_get hi
      refine ⟨_, rfl, _, rfl, a, _, rfl, .inl ha, rfl, flat_strs ns, _, rfl, ?_⟩
      show if (!inV (.str z) (ns.map V.str)) = true then _ else _
      rw [inV_str, decide_eq_true (hin z (List.mem_of_getElem? hz))]
      exact iteF ⟨⟨_, rfl⟩, rfl⟩
    · rintro σ H' ⟨_, rfl⟩
      exact k H' (Same.refl H')
theorem scRL : FnScope ["names", "conditions", "tied", "name"] ["names", "conditions"] (defScope sRL) := ⟨rfl, rfl, rfl, by decide +kernel, rfl, by decide +kernel, by decide +kernel⟩
theorem ok_rl {f fE : Addr} {fd fdE : FuncData} (F : Fun K "refuse_loose" "refuse_loose" sRL f fd) (D : Dn K mg "ends_of" sEO ["triples"] fE fdE) : FnOk P w K mg base CX0 2 f fd ["names", "conditions"] (spRL K) := by
  have G : FnOk P w K mg base CX0 1 fE fdE ["triples"] (spEO K) := ok_eo D.F
  refine F.ok scRL (fun vs H Q E h => ?_) (fun cdv A outer s H vs Q E hr h => ?_)
  · obtain ⟨a, b, ns, ps, ts, rfl, _⟩ := h
    rfl
  · obtain ⟨a, b, ns, ps, ts, rfl, ha, hb, htr, hn, hin, k⟩ := h
    refine ⟨_, (pss_cons (ps_set (i := 2) scRL.nd rfl (Or.inl rfl) (pe_call G hr rfl D.g D.F.kp D.b .nil pass0 (pa_cons (pv 1) pa_nil)))
      (pss_one (ps_for PassesOwn.never rfl (pi_list (pv 0)) (pg_name (i := 3) scRL.nd rfl (Or.inl rfl)) (pss_one (ps_if (pt_cmpR op_notIn_seq (pv 3) (pv 2) (by rfl)) (pss_one ps_never) pss_nil))))), ?_⟩
    refine ⟨_, rfl, b, ps, ts, rfl, .inr hb, htr, hn, fun d H1 hd hS hl => ?_⟩
    refine ⟨_, rfl, a, rfl, ⟨_, hS.seq ha⟩, for_list (K := K) (a := a) (xs := ns.map V.str) (fun i σ H' => (∃ v, σ = [some (.ref a), some (.ref b), some (.ref d), v]) ∧ H' = H1) ⟨⟨none, rfl⟩, rfl⟩ (fun i σ H' _ p => by rw [p.2]; exact hS.seq ha) ?_ ?_⟩
    · rintro i y σ H' hi ⟨⟨v, rfl⟩, rfl⟩
      obtain ⟨z, hz, rfl⟩ := map_str_get hi
      refine ⟨_, rfl, _, rfl, d, _, rfl, .inl (SqL.of hl), rfl, flat_strs _, _, rfl, ?_⟩
      show if (!inV (.str z) ((endsL ts).map V.str)) = true then _ else _
      rw [inV_str, decide_eq_true (hin z (List.mem_of_getElem? hz))]
      exact iteF ⟨⟨_, rfl⟩, rfl⟩
    · rintro σ H' ⟨_, rfl⟩
      exact k H' hS
theorem scRA : FnScope ["conditions", "place", "x", "word", "y", "ahead"] ["conditions"] (defScope sRA) := ⟨rfl, rfl, rfl, by decide +kernel, rfl, by decide +kernel, by decide +kernel⟩
theorem ok_ra {f fE : Addr} {fd fdE : FuncData} (F : Fun K "refuse_apart" "refuse_apart" sRA f fd) (T : TxB mg) (D : Dn K mg "ends_of" sEO ["triples"] fE fdE) : FnOk P w K mg base CX0 2 f fd ["conditions"] (spRA K) := by
  have G : FnOk P w K mg base CX0 1 fE fdE ["triples"] (spEO K) := ok_eo D.F
  refine F.ok scRA (fun vs H Q E h => ?_) (fun cdv A outer s H vs Q E hr h => ?_)
  · obtain ⟨b, ps, ts, rfl, _⟩ := h
    rfl
  · obtain ⟨b, ps, ts, rfl, hb, htr, hn, hh, k⟩ := h
    have hlen := htr.len
    rw [List.length_map] at hlen
    refine ⟨_, (pss_one (ps_for PassesOwn.never rfl (pi_enumT rfl T.enumerate (pa_cons (pv 0) pa_nil)) (pg_tup rfl (pgs_cons (pg_name (i := 1) scRA.nd rfl (Or.inl rfl)) (pgs_cons (pg_tup rfl (pgs_cons (pg_name (i := 2) scRA.nd rfl (Or.inl rfl)) (pgs_cons (pg_name (i := 3) scRA.nd rfl (Or.inl rfl)) (pgs_cons (pg_name (i := 4) scRA.nd rfl (Or.inl rfl)) pgs_nil)))) pgs_nil))) (pss_cons (ps_set (i := 5) scRA.nd rfl (Or.inl rfl) (pe_call G hr rfl D.g D.F.kp D.b .nil pass0 (pa_cons (pe_slice sl_tupA (pv 0) po_none (po_some (pv 1))) pa_nil)))
      (pss_one (ps_if (PW.pt (pw_and (pt_cmpR op_gt (pv 1) pe_int (nomark _)) (pw_and (pt_cmpR op_notIn_seq (pv 2) (pv 5) (by rfl)) (pw_and1 (pt_cmpR op_notIn_seq (pv 4) (pv 5) (by rfl)))))) (pss_one ps_never) pss_nil))))), ?_⟩
    refine ⟨_, rfl, b, _, rfl, hb, for_it walk_enumT (fun i σ H' => (∃ u v x y z, σ = [some (.ref b), u, v, x, y, z]) ∧ Same H H') ⟨⟨none, none, none, none, none, rfl⟩, Same.refl H⟩ (fun i σ H' _ p => same_seqT p.2 hb) ?_ ?_⟩
    · rintro i x σ H1 H2 hi ⟨⟨u, v, x1, x2, x3, rfl⟩, hS⟩ ⟨q, y, z, rfl, hq, rfl, e1, e2⟩
      cases e1
      obtain ⟨p, hp, rfl⟩ := map_ref_get e2
      obtain ⟨r, hr1, hr'⟩ := htr.get hp
      obtain ⟨t, ht, rfl⟩ := tri_get hr1
      have S2 := hS.trans (Same.upd (o := .tup [.int (i : Nat), .ref p]) hq)
      have hi' : i < ps.length := by rw [List.length_map] at hi; exact hi
      refine ⟨q, _, rfl, SqT.of upd_same, rfl, _, _, rfl, _, _, rfl, ⟨p, _, rfl, same_seqT S2 hr', rfl, _, _, rfl, _, _, rfl, _, _, rfl, rfl, rfl, ?_⟩⟩
      refine ⟨_, rfl, _, rfl, _, rfl, b, _, rfl, same_seqT S2 hb, fun h => ?_, fun _ c hc => ?_⟩
      · exfalso
        rw [HT.sIx_nat, List.length_map] at h
        omega
      have S3 := S2.trans (Same.upd (o := .tup (cutV (ps.map V.ref) none (some (i : Int)))) hc)
      have hcut : cutV (ps.map V.ref) none (some (i : Int)) = (ps.take i).map V.ref := by rw [cut_take, List.map_take]
      refine ⟨c, ps.take i, ts.take i, rfl, .inr (SqT.of (by rw [upd_same, hcut])), ?_, by rw [List.length_take]; omega, fun d H3 hd hS3 hl => ?_⟩
      · rw [List.map_take]
        exact (htr.take i).same S3
      refine ⟨_, rfl, _, _, rfl, rfl, _, rfl, ?_⟩
      refine ite2 (fun h0 => ?_) (fun _ => ?_)
      · have h0' : (0 : Int) < (i : Int) := of_decide_eq_true h0
        refine ⟨_, rfl, _, rfl, d, _, rfl, .inl (SqL.of hl), rfl, flat_strs _, _, rfl, ?_⟩
        show if (!inV (.str t.1) ((endsL (ts.take i)).map V.str)) = true then _ else _
        rw [inV_str]
        by_cases m1 : t.1 ∈ endsL (ts.take i)
        · rw [decide_eq_true m1]
          exact iteF (iteF ⟨⟨_, _, _, _, _, rfl⟩, S3.trans hS3⟩)
        · rw [decide_eq_false m1]
          refine iteT ?_
          refine ⟨_, rfl, _, rfl, d, _, rfl, .inl (SqL.of hl), rfl, flat_strs _, _, rfl, ?_⟩
          show if (!inV (.str t.2.2) ((endsL (ts.take i)).map V.str)) = true then _ else _
          have m2 : t.2.2 ∈ endsL (ts.take i) := (hh i t (by omega) ht).resolve_left m1
          rw [inV_str, decide_eq_true m2]
          exact iteF ⟨⟨_, _, _, _, _, rfl⟩, S3.trans hS3⟩
      · exact iteF ⟨⟨_, _, _, _, _, rfl⟩, S3.trans hS3⟩
    · rintro σ H' ⟨_, hS⟩
      exact k H' hS
end
end Wm
namespace Wm
open PySem L2 StX
structure TxP (mg : Str → Option Value) : Prop where
  mv : ∃ t, mg "MOST_VARIABLES" = some (.int 4 t)
  mc : ∃ t, mg "MOST_CONDITIONS" = some (.int 3 t)
theorem DueN.mono {C : Addr} {zs : List Str} {H H1 : Hp} {Q : VK} {E : XK} (hS : Same H H1) (h : DueN C zs H Q E) : DueN C zs H1 Q E := by
  unfold DueN at h ⊢
  split
  · rename_i e
    rw [e] at h
    exact fun H' h1 => h H' (hS.trans h1)
  · rename_i z e
    rw [e] at h
    exact fun d H' h0 h1 h2 => h d H' (hS.free h0) (hS.trans h1) h2
theorem DueN.next {C : Addr} {zs : List Str} {H H1 : Hp} {Q Q' : VK} {E : XK} (h : DueN C zs H Q E) (hS : Same H H1) (r : zs.find? (fun z => !isNm z) = none → ∀ H', Same H1 H' → Q' .non H') : DueN C zs H1 Q' E := by
  have h' := DueN.mono hS h
  unfold DueN at h' ⊢
  cases e : zs.find? (fun z => !isNm z) with
  | none => exact r e
  | some z =>
    rw [e] at h'
    exact h'
theorem flat_len (l : List Var) : (l.flatMap varT).length ≤ 2 * l.length := by
  induction l with
  | nil => exact Nat.le_refl _
  | cons v r ih =>
    have e : ((v :: r).flatMap varT).length = (varT v).length + (r.flatMap varT).length := by
      rw [List.flatMap_cons, List.length_append]
    have e2 : (varT v).length ≤ 2 := by
      unfold varT
      cases v.2 <;> simp
    have e3 : (v :: r).length = r.length + 1 := rfl
    omega
/-- a pattern of which nothing but a text that is no name is to be refused -/
structure PatOk (vars : List Var) (cs gs : List Tri) (hs : List Str) : Prop where
  v1 : 1 ≤ vars.length
  v4 : vars.length ≤ 4
  c1 : 1 ≤ cs.length
  c3 : cs.length ≤ 3
  g3 : gs.length ≤ 1
  h3 : hs.length ≤ 1
  tw : NoTw ((vars.map (·.1)).map V.str)
  en : ∀ z ∈ endsL (cs ++ gs) ++ hs, z ∈ vars.map (·.1)
  lo : ∀ z ∈ vars.map (·.1), z ∈ endsL cs
  ap : Hangs cs
def spCP (K : PySem.W.Frag) (C : Addr) : Sp := fun vs H Q E => ∃ (nm : Str) (a b g h : Addr) (ps qs us : List Addr) (vars : List Var) (cs gs : List Tri) (hs : List Str), vs = [.str nm, .ref a, .ref b, .ref g, .ref h] ∧ SqT K H a (ps.map V.ref) ∧ RowsAt K H ps (vars.map varV) ∧
  SqT K H b (qs.map V.ref) ∧ RowsAt K H qs (cs.map triV) ∧ SqL K H g (us.map V.ref) ∧ RowsAt K H us (gs.map triV) ∧ SqL K H h (hs.map V.str) ∧ PatOk vars cs gs hs ∧ (∀ z ∈ textsL nm vars (cs ++ gs), z.length ≤ 1000) ∧ DueN C (textsL nm vars (cs ++ gs)) H Q E
section
variable {P : Program} {w : World} {K : PySem.W.Frag} {mg : Str → Option Value} {base : Heap}
theorem scCP : FnScope ["name", "variables", "conditions", "given", "hands", "triples", "names", "variable", "sort"] ["name", "variables", "conditions", "given", "hands"] (defScope sCP) := ⟨rfl, rfl, rfl, by decide +kernel, rfl, by decide +kernel, by decide +kernel⟩
theorem ok_cp {f fRC fRN fTP fRT fRV fEO fRL fRA C : Addr} {fd dRC dRN dTP dRT dRV dEO dRL dRA : FuncData} (F : Fun K "check_pattern" "check_pattern" sCP f fd) (T : TxB mg) (TP : TxP mg)
    (RC : Dn K mg "refuse_count" sRC ["what", "count", "least", "most"] fRC dRC) (RN : Dn K mg "refuse_no_name" sRN ["texts"] fRN dRN) (TX : Dn K mg "texts_of_pattern" sTP ["name", "variables", "triples"] fTP dTP) (RT : Dn K mg "refuse_twice" sRT ["names"] fRT dRT)
    (RV : Dn K mg "refuse_no_variable" sRV ["names", "texts"] fRV dRV) (EO : Dn K mg "ends_of" sEO ["triples"] fEO dEO) (RL : Dn K mg "refuse_loose" sRL ["names", "conditions"] fRL dRL) (RA : Dn K mg "refuse_apart" sRA ["conditions"] fRA dRA)
    (GRN : FnOk P w K mg base (L2.CX P w) 4 fRN dRN ["texts"] (spRN K C)) (GRT : FnOk P w K mg base CX0 2 fRT dRT ["names"] (spFT K)) :
    FnOk P w K mg base (L2.CX P w) 5 f fd ["name", "variables", "conditions", "given", "hands"] (spCP K C) := by
  have GRC : FnOk P w K mg base CX0 1 fRC dRC _ spRC := ok_rc RC.F
  have GTX : FnOk P w K mg base CX0 1 fTP dTP _ (spTP K) := ok_tp TX.F
  have GRV : FnOk P w K mg base CX0 1 fRV dRV _ (spRV K) := ok_rv RV.F
  have GEO : FnOk P w K mg base CX0 1 fEO dEO _ (spEO K) := ok_eo EO.F
  have GRL : FnOk P w K mg base CX0 2 fRL dRL _ (spRL K) := ok_rl RL.F EO
  have GRA : FnOk P w K mg base CX0 2 fRA dRA _ (spRA K) := ok_ra RA.F T EO
  obtain ⟨t1, hmv⟩ := TP.mv
  obtain ⟨t2, hmc⟩ := TP.mc
  refine F.okX scCP (fun vs H Q E h => ?_) (fun cdv A outer s H vs Q E hr h => ?_)
  · obtain ⟨nm, a, b, g, h, ps, qs, us, vars, cs, gs, hs, rfl, _⟩ := h
    rfl
  · obtain ⟨nm, a, b, g, h, ps, qs, us, vars, cs, gs, hs, rfl, ha, hva, hb, hcs, hg, hgs, hh, ok, hz, k⟩ := h
    have hr1 : Room 1 _ := hr.mono (by decide)
    have hr2 : Room 2 _ := hr.mono (by decide)
    have l1 := hva.len
    have l2 := hcs.len
    have l3 := hgs.len
    rw [List.length_map] at l1 l2 l3
    have o1 := ok.v4
    have o2 := ok.c3
    have o3 := ok.g3
    have o4 := ok.v1
    have o5 := ok.c1
    have o6 := ok.h3
    refine ⟨_, (pss_cons (ps_expr (pe_call GRC hr1 rfl RC.g RC.F.kp RC.b .nil pass0 (pa_cons pe_str (pa_cons (pe_callB call_len_seq (by rfl) T.len (by decide +kernel) (pa_cons (pv 1) pa_nil)) (pa_cons pe_int (pa_cons (pe_glob (v := .int 4) (by rfl) hmv ⟨_, rfl⟩) pa_nil))))))
      (pss_cons (ps_expr (pe_call GRC hr1 rfl RC.g RC.F.kp RC.b .nil pass0 (pa_cons pe_str (pa_cons (pe_callB call_len_seq (by rfl) T.len (by decide +kernel) (pa_cons (pv 2) pa_nil)) (pa_cons pe_int (pa_cons (pe_glob (v := .int 3) (by rfl) hmc ⟨_, rfl⟩) pa_nil))))))
      (pss_cons (ps_set (i := 5) scCP.nd rfl (Or.inl rfl) (pe_lst (pa_star (pv 2) (pa_star (pv 3) pa_nil))))
      (pss_cons (ps_expr (pe_call GRN hr rfl RN.g RN.F.kp RN.b .nil (passes_call (takes_of rfl rfl rfl rfl) (fun _ _ _ _ h => h)) (pa_cons (pe_call GTX hr1 rfl TX.g TX.F.kp TX.b .nil pass0 (pa_cons (pv 0) (pa_cons (pv 1) (pa_cons (pv 5) pa_nil)))) pa_nil)))
      (pss_cons (ps_setLc (i := 6) (own := [("variable", 7), ("sort", 8)]) (g := gTup K 2 (gCons (gName 7) (gCons (gName 8) gNil))) rfl scCP.nd rfl rfl (sw_true rfl rfl rfl (by decide +kernel)) (pi_tup (pv 1)) (blkOk_by (N := ["name", "variables", "conditions", "given", "hands", "triples", "names", "variable", "sort"]) (sc := defScope sCP) (by decide +kernel)) (fun _ _ _ _ _ => (pg_tup rfl (pgs_cons (pg_name (i := 7) scCP.nd rfl (Or.inl rfl)) (pgs_cons (pg_name (i := 8) scCP.nd rfl (Or.inl rfl)) pgs_nil)))) (fun _ _ _ _ _ => pts_nil) (fun _ _ _ _ _ => (pv 7)))
      (pss_cons (ps_expr (pe_call GRT hr2 rfl RT.g RT.F.kp RT.b .nil pass0 (pa_cons (pv 6) pa_nil)))
      (pss_cons (ps_expr (pe_call GRV hr1 rfl RV.g RV.F.kp RV.b .nil pass0 (pa_cons (pv 6) (pa_cons (pe_lst (pa_star (pe_call GEO hr1 rfl EO.g EO.F.kp EO.b .nil pass0 (pa_cons (pv 5) pa_nil)) (pa_star (pv 4) pa_nil))) pa_nil))))
      (pss_cons (ps_expr (pe_call GRL hr2 rfl RL.g RL.F.kp RL.b .nil pass0 (pa_cons (pv 6) (pa_cons (pv 2) pa_nil))))
      (pss_one (ps_expr (pe_call GRA hr2 rfl RA.g RA.F.kp RA.b .nil pass0 (pa_cons (pv 2) pa_nil)))))))))))), ?_⟩
    refine ⟨_, rfl, a, _, rfl, .inr ha, _, _, _, _, rfl, ?_, ?_, ?_⟩
    · rw [List.length_map]; omega
    · rw [List.length_map]; omega
    refine ⟨_, rfl, b, _, rfl, .inr hb, _, _, _, _, rfl, ?_, ?_, ?_⟩
    · rw [List.length_map]; omega
    · rw [List.length_map]; omega
    -- triples = [*conditions, *given]
    refine ⟨_, rfl, b, _, rfl, .inl hb, _, rfl, g, _, rfl, .inr hg, ?_, fun tr htr => ?_⟩
    · show (qs.map V.ref ++ (us.map V.ref ++ [])).length ≤ sizeLine
      rw [List.append_nil, List.length_append, List.length_map, List.length_map]
      exact Nat.le_trans (show _ ≤ 1000 by omega) (by decide)
    have etr : qs.map V.ref ++ (us.map V.ref ++ []) = (qs ++ us).map V.ref := by rw [List.append_nil, List.map_append]
    have S1 : Same H (upd H tr (.lst (qs.map V.ref ++ (us.map V.ref ++ [])))) := Same.upd htr
    refine ⟨_, rfl, _, rfl, _, rfl, nm, a, tr, ps, qs ++ us, vars, cs ++ gs, rfl, same_seqT S1 ha, hva.same S1, SqL.of (by rw [upd_same, etr]), ?_, by omega, by rw [List.length_append]; omega, fun d H2 hd hS2 hl => ?_⟩
    · rw [List.map_append]
      exact (hcs.append hgs).same S1
    have S2 := S1.trans hS2
    refine ⟨d, _, rfl, SqL.of hl, ?_, hz, ?_⟩
    · unfold textsL
      have e : ∀ l : List Var, (l.flatMap varT).length ≤ 2 * l.length := flat_len
      have e2 := e vars
      rw [List.length_append, List.length_cons, List.length_map, List.length_append]
      omega
    refine DueN.next k S2 fun hn H3 hS3 => ?_
    have S3 := S2.trans hS3
    -- names = [variable for variable, sort in variables]
    refine ⟨_, rfl, a, rfl, ⟨_, same_seqT S3 ha⟩, fun D hD => ?_⟩
    refine lc_it walk_tup (fun i H' => Same H3 H' ∧ H' D = some (.lst (((vars.take i).map (·.1)).map V.str))) ⟨Same.upd hD, upd_same⟩ (fun i H' _ p => same_seqT (S3.trans p.1) ha) ?_ ?_
    · rintro i x H4 H5 hi ⟨hS4, hD4⟩ ⟨rfl, hx⟩
      obtain ⟨p, hp, rfl⟩ := map_ref_get hx
      obtain ⟨r, hr1', hr'⟩ := hva.get hp
      obtain ⟨⟨n, so⟩, ht, rfl⟩ := var_get hr1'
      refine ⟨p, _, rfl, same_seqT (S3.trans hS4) hr', rfl, _, _, rfl, _, _, rfl, rfl, rfl, ?_⟩
      refine ⟨_, rfl, _, hD4, ?_, ?_, ?_⟩
      · rw [List.length_map, List.length_map, List.length_take]
        exact Nat.lt_of_le_of_lt (show _ ≤ 1000 by omega) (by decide)
      · intro b' o h
        rw [upd_ne (ne_of_none h hD)]
        exact hS4 b' o h
      · rw [upd_same, List.take_add_one, ht, List.map_append, List.map_append]
        rfl
    rintro H4 ⟨hS4, hD4⟩
    rw [List.length_map, List.take_of_length_le (by omega)] at hD4
    have S4 := S3.trans hS4
    have tr4 : H4 tr = some (.lst ((qs ++ us).map V.ref)) := by
      have q : (upd H tr (.lst (qs.map V.ref ++ (us.map V.ref ++ [])))) tr = some (.lst ((qs ++ us).map V.ref)) := by rw [upd_same, etr]
      exact hS4 _ _ (hS3 _ _ (hS2 _ _ q))
    -- refuse_twice(names)
    refine ⟨_, rfl, D, _, rfl, .inl (SqL.of hD4), flat_strs _, ok.tw, fun H5 hS5 => ?_⟩
    have S5 := S4.trans hS5
    -- refuse_no_variable(names, [*ends_of(triples), *hands])
    refine ⟨_, rfl, _, rfl, tr, qs ++ us, cs ++ gs, rfl, .inl (SqL.of (hS5 _ _ tr4)), ?_, by rw [List.length_append]; omega, fun e H6 he hS6 hl6 => ?_⟩
    · rw [List.map_append]
      exact (hcs.append hgs).same S5
    have S6 := S5.trans hS6
    refine ⟨e, _, rfl, .inr (SqL.of hl6), _, rfl, h, _, rfl, .inr (S6.seq hh), ?_, fun l hl => ?_⟩
    · rw [List.length_append, List.length_map, endsL_len, List.length_append, List.append_nil, List.length_map]
      exact Nat.le_trans (show _ ≤ 1000 by omega) (by decide)
    refine ⟨D, l, _, endsL (cs ++ gs) ++ hs, rfl, SqL.of (Same.upd hl _ _ (hS6 _ _ (hS5 _ _ hD4))), SqL.of ?_, ok.en, fun H7 hS7 => ?_⟩
    · rw [upd_same, List.append_nil, List.map_append]
    have S7 := S6.trans ((Same.upd hl).trans hS7)
    have D7 := hS7 _ _ (Same.upd hl _ _ (hS6 _ _ (hS5 _ _ hD4)))
    -- refuse_loose(names, conditions)
    refine ⟨_, rfl, _, rfl, D, b, _, qs, cs, rfl, SqL.of D7, same_seqT S7 hb, hcs.same S7, by omega, ok.lo, fun H8 hS8 => ?_⟩
    have S8 := S7.trans hS8
    -- refuse_apart(conditions)
    refine ⟨_, rfl, b, qs, cs, rfl, same_seqT S8 hb, hcs.same S8, by omega, ok.ap, fun H9 hS9 => ?_⟩
    unfold DueN at k
    rw [hn] at k
    exact k H9 (S8.trans hS9)
end
end Wm
namespace Wm
open PySem L2 StX
def barF (nm : Str) (t1 t2 : Addr) : List (Str × V) := putF "conditions" (.ref t2) (putF "variables" (.ref t1) (putF "name" (.str nm) []))
theorem ne1 : ¬ (("variables" : Str) = "conditions") := by decide +kernel
theorem ne2 : ¬ (("name" : Str) = "conditions") := by decide +kernel
theorem ne3 : ¬ (("name" : Str) = "variables") := by decide +kernel
theorem barF_name (nm : Str) (t1 t2 : Addr) : (barF nm t1 t2).lookup ("name" : Str) = some (.str nm) := by
  unfold barF
  rw [lookup_putF, if_neg ne2, lookup_putF, if_neg ne3, lookup_putF, if_pos rfl]
theorem barF_vars (nm : Str) (t1 t2 : Addr) : (barF nm t1 t2).lookup ("variables" : Str) = some (.ref t1) := by
  unfold barF
  rw [lookup_putF, if_neg ne1, lookup_putF, if_pos rfl]
theorem barF_cond (nm : Str) (t1 t2 : Addr) : (barF nm t1 t2).lookup ("conditions" : Str) = some (.ref t2) := by
  unfold barF
  rw [lookup_putF, if_pos rfl]
theorem putF_len (f : Str) (v : V) : ∀ fs : List (Str × V), (putF f v fs).length ≤ fs.length + 1
  | [] => Nat.le_refl _
  | (g, x) :: r => by
    unfold putF
    split
    · exact Nat.le_succ _
    · have := putF_len f v r
      simp only [List.length_cons]
      omega
/-- what the making of an object that may be refused by a text is to bring; H0: what stood ahead of it -/
def DueM (C : Addr) (zs : List Str) (H0 : Hp) (ok : Hp → Prop) (E : XK) : Prop := match zs.find? (fun z => !isNm z) with
  | none => ∀ H', Same H0 H' → ok H'
  | some z => ∀ d H', H0 d = none → Same H0 H' → H' d = some (.xd (ef1 "name" "noname" (.str z))) → E (.ref C) (some d) H'
theorem DueM.toN {C : Addr} {zs : List Str} {H0 H1 : Hp} {ok : Hp → Prop} {Q : VK} {E : XK} (h : DueM C zs H0 ok E) (hS : Same H0 H1) (r : zs.find? (fun z => !isNm z) = none → ∀ H', Same H1 H' → Q .non H') : DueN C zs H1 Q E := by
  unfold DueM at h
  unfold DueN
  cases e : zs.find? (fun z => !isNm z) with
  | none => exact r e
  | some z =>
    rw [e] at h
    exact fun d H' h0 h1 h2 => h d H' (hS.free h0) (hS.trans h1) h2
structure TxBar (K : PySem.W.Frag) (mg : Str → Option Value) (B fB : Addr) : Prop where
  cl : Cls K B
  nn : NoAttr K B "name"
  nv : NoAttr K B "variables"
  nc : NoAttr K B "conditions"
  g : mg "Bar" = some (.ref B)
  m : Mk K B fB
def spBar (K : PySem.W.Frag) (C B : Addr) : Sp := fun vs H Q E => ∃ (H0 : Hp) (x dx l1 l2 : Addr) (nm : Str) (ps qs : List Addr) (vars : List Var) (cs : List Tri), vs = [.ref x, .str nm, .ref l1, .ref l2] ∧ Same H0 H ∧ H0 x = none ∧ H x = some (.ins B dx []) ∧
  SqL K H0 l1 (ps.map V.ref) ∧ RowsAt K H0 ps (vars.map varV) ∧ SqL K H0 l2 (qs.map V.ref) ∧ RowsAt K H0 qs (cs.map triV) ∧ PatOk vars cs [] [] ∧ (∀ z ∈ textsL nm vars cs, z.length ≤ 1000) ∧
  DueM C (textsL nm vars cs) H0 (fun H' => ∀ t1 t2, H' x = some (.ins B dx (barF nm t1 t2)) → H' t1 = some (.tup (ps.map V.ref)) → H' t2 = some (.tup (qs.map V.ref)) → Q .non H') E
section
variable {P : Program} {w : World} {K : PySem.W.Frag} {mg : Str → Option Value} {base : Heap}
theorem scBar : FnScope ["self", "name", "variables", "conditions"] ["self", "name", "variables", "conditions"] (defScope sBar) := ⟨rfl, rfl, rfl, by decide +kernel, rfl, by decide +kernel, by decide +kernel⟩
theorem ok_bar {f fTT fCP C B : Addr} {fd dTT dCP : FuncData} (F : Fun K "__init__" "Bar.__init__" sBar f fd) (T : TxB mg) (TB : TxBar K mg B f) (TT : Dn K mg "tuple_of_tuples" sTT ["rows"] fTT dTT)
    (CP : Dn K mg "check_pattern" sCP ["name", "variables", "conditions", "given", "hands"] fCP dCP) (GCP : FnOk P w K mg base (L2.CX P w) 5 fCP dCP ["name", "variables", "conditions", "given", "hands"] (spCP K C)) :
    FnOk P w K mg base (L2.CX P w) 6 f fd ["self", "name", "variables", "conditions"] (spBar K C B) := by
  have GTT : FnOk P w K mg base CX0 1 fTT dTT _ (spTT K) := ok_tt TT.F T
  refine F.okX scBar (fun vs H Q E h => ?_) (fun cdv A outer s H vs Q E hr h => ?_)
  · obtain ⟨H0, x, dx, l1, l2, nm, ps, qs, vars, cs, rfl, _⟩ := h
    rfl
  · obtain ⟨H0, x, dx, l1, l2, nm, ps, qs, vars, cs, rfl, S0, x0, hx, h1, hv, h2, hc, ok, hz, k⟩ := h
    have hr1 : Room 1 _ := hr.mono (by decide)
    have b1 := hv.len
    have b2 := hc.len
    rw [List.length_map] at b1 b2
    have o1 := ok.v4
    have o2 := ok.c3
    refine ⟨_, (pss_cons (ps_fld (pv 0) (pv 1) rfl)
      (pss_cons (ps_fld (pv 0) (pe_call GTT hr1 rfl TT.g TT.F.kp TT.b .nil pass0 (pa_cons (pv 2) pa_nil)) rfl)
      (pss_cons (ps_fld (pv 0) (pe_call GTT hr1 rfl TT.g TT.F.kp TT.b .nil pass0 (pa_cons (pv 3) pa_nil)) rfl)
      (pss_one (ps_expr (pe_call GCP hr rfl CP.g CP.F.kp CP.b .nil (passes_call (takes_of rfl rfl rfl rfl) (fun _ _ _ _ h => h)) (pa_cons (pv 1) (pa_cons (pe_fld (pv 0) rfl) (pa_cons (pe_fld (pv 0) rfl) (pa_cons (pe_lst pa_nil) (pa_cons (pe_lst pa_nil) pa_nil))))))))))), ?_⟩
    -- self.name = name
    refine ⟨_, rfl, _, rfl, x, B, dx, [], rfl, hx, TB.cl, TB.nn, (by show 0 < 1000; decide), ?_⟩
    have Sx : ∀ {H1 : Hp} {o : HO}, Same H0 H1 → Same H0 (upd H1 x o) := fun hs b o e => by
      rw [upd_ne (ne_of_none e x0)]
      exact hs b o e
    have S1 := Sx (o := .ins B dx (putF "name" (.str nm) [])) S0
    -- self.variables = tuple_of_tuples(variables)
    refine ⟨_, rfl, l1, ps, _, rfl, S1.seq h1, hv.same S1, by omega, fun t1 H2 ht1 hS2 hl1 => ?_⟩
    have S2 := S1.trans hS2
    have hx2 := hS2 _ _ (upd_same (H := H) (a := x) (o := .ins B dx (putF "name" (.str nm) [])))
    have n1x : t1 ≠ x := fun z => by
      rw [z, upd_same] at ht1
      cases ht1
    refine ⟨_, rfl, x, B, dx, _, rfl, hx2, TB.cl, TB.nv, Nat.lt_of_le_of_lt (putF_len _ _ _) (by decide), ?_⟩
    have S3 := Sx (o := .ins B dx (putF "variables" (.ref t1) (putF "name" (.str nm) []))) S2
    -- self.conditions = tuple_of_tuples(conditions)
    refine ⟨_, rfl, l2, qs, _, rfl, S3.seq h2, hc.same S3, by omega, fun t2 H4 ht2 hS4 hl2 => ?_⟩
    have S4 := S3.trans hS4
    have hx4 := hS4 _ _ (upd_same (H := H2) (a := x) (o := .ins B dx (putF "variables" (.ref t1) (putF "name" (.str nm) []))))
    have hl1' := hS4 t1 _ (by rw [upd_ne n1x]; exact hl1)
    have n2x : t2 ≠ x := fun z => by
      rw [z, upd_same] at ht2
      cases ht2
    refine ⟨_, rfl, x, B, dx, _, rfl, hx4, TB.cl, TB.nc, Nat.lt_of_le_of_lt (putF_len _ _ _) (Nat.lt_of_le_of_lt (Nat.succ_le_succ (putF_len _ _ _)) (by decide)), ?_⟩
    have S5 := Sx (o := .ins B dx (barF nm t1 t2)) S4
    have hx5 : (upd H4 x (.ins B dx (barF nm t1 t2))) x = some (.ins B dx (barF nm t1 t2)) := upd_same
    have h15 : (upd H4 x (.ins B dx (barF nm t1 t2))) t1 = some (.tup (ps.map V.ref)) := by rw [upd_ne n1x]; exact hl1'
    have h25 : (upd H4 x (.ins B dx (barF nm t1 t2))) t2 = some (.tup (qs.map V.ref)) := by rw [upd_ne n2x]; exact hl2
    -- check_pattern(name, self.variables, self.conditions, [], [])
    refine ⟨_, rfl, _, rfl, x, B, dx, _, _, rfl, hx5, TB.cl, TB.nv, barF_vars _ _ _, _, rfl, x, B, dx, _, _, rfl, hx5, TB.cl, TB.nc, barF_cond _ _ _, Nat.zero_le _, fun g hg => ⟨Nat.zero_le _, fun h hh => ?_⟩⟩
    have S7 : Same (upd H4 x (.ins B dx (barF nm t1 t2))) (upd (upd (upd H4 x (.ins B dx (barF nm t1 t2))) g (.lst [])) h (.lst [])) := (Same.upd hg).trans (Same.upd hh)
    have S57 := S5.trans S7
    have e0 : cs ++ ([] : List Tri) = cs := List.append_nil cs
    refine ⟨nm, t1, t2, g, h, ps, qs, [], vars, cs, [], [], rfl, SqT.of (S7 _ _ h15), hv.same S57, SqT.of (S7 _ _ h25), hc.same S57, SqL.of (Same.upd hh _ _ upd_same), True.intro, SqL.of upd_same, ok, by rw [e0]; exact hz, ?_⟩
    rw [e0]
    refine k.toN S57 fun hn H8 hS8 => ?_
    unfold DueM at k
    rw [hn] at k
    exact k H8 (S57.trans hS8) t1 t2 (hS8 _ _ (S7 _ _ hx5)) (hS8 _ _ (S7 _ _ h15)) (hS8 _ _ (S7 _ _ h25))
end
end Wm
namespace Wm
open PySem L2
/-- str(o), o an instance of the class at C, whose __str__ is the def at f -/
def rStrO (C : Addr) (sp : Sp) : List V → Hp → VK → Prop := fun xs H Q => ∃ (a dx : Addr) (fs : List (Str × V)), xs = [.ref a] ∧ H a = some (.ins C dx fs) ∧ sp [.ref a] H (fun v H' => ∃ z : Str, v = .str z ∧ Q (.str z) H') E0
theorem call_strO {X : Cx} {C f : Addr} {fd : FuncData} {k : Nat} {sp : Sp} (hs : PySem.W.findIn X.K (.ref C) "__str__" = some (some (.ref f))) (hf : PySem.W.isFn X.K (.ref f) = true) (F : FnOk X.prog X.w X.K X.mg X.base CX0 k f fd ["self"] sp) (hr : Room (k + 2) X.A) (hb : Binds X.K fd ["self"] []) :
    CallR X (.type "str") (rStrO C sp) := by
  intro pins s σ H xs us Q I r h
  obtain ⟨a, dx, fs, rfl, ha, h⟩ := h
  cases r with
  | cons rx rr =>
    cases rr
    cases rx
    obtain ⟨mA, ob, _⟩ := ins_get I.hok ha
    obtain ⟨od, J, _⟩ := ob.look
    have hr1 : Room (k + 1) X.A.in1 := hr.in1
    have hr2 : Room k X.A.in1.in1 := hr1.in1
    refine PySem.W.kso_call hr2.units0 I.kIn J hs hf ?_
    have hl : ([Value.ref a] ++ []).length = (["self"] : List Str).length := rfl
    have rv : Vals [V.ref a] [Value.ref a] := .cons rfl .nil
    refine wpAny_call (codeAny_mono (F.run X.A.in1.in1 X.stack s H ⟨[Value.ref a], []⟩ [Value.ref a] [V.ref a] _ E0 hr2 I.env0.in1.in1 (hb s [Value.ref a] I.kIn hl) rv h) fun r s' hq => ?_)
    cases r with
    | error e => exact hq.elim
    | ok fl =>
      cases fl with
      | ret u =>
        obtain ⟨v, H', J', ru, z, rfl, q⟩ := I.after (Q := fun v H' => ∃ z : Str, v = .str z ∧ Q (.str z) H') hq
        obtain ⟨t, rfl⟩ := ru
        exact ⟨.str z, H', J', ⟨t, rfl⟩, q⟩
      | next => exact False.elim hq
      | brk => exact False.elim hq
      | cont => exact False.elim hq
end Wm
namespace Wm
open PySem L2 PySem.W
/-- a == b, a an instance of the class at C, whose __eq__ is the def at f -/
def rEqO (K : Frag) (C : Addr) (sp : Sp) : V → V → Hp → VK → Prop := fun x y H Q => ∃ (a b D dx dy : Addr) (fs gs : List (Str × V)), x = .ref a ∧ y = .ref b ∧ H a = some (.ins C dx fs) ∧ H b = some (.ins D dy gs) ∧ notFirst K C (.ref D) = true ∧
  sp [.ref a, .ref b] H (fun v H' => ∃ t : Bool, v = .bl t ∧ Q (.bl t) H') E0
theorem op_eqO {X : Cx} {C f : Addr} {fd : FuncData} {k : Nat} {sp : Sp} {ps : List Str} (hs : findIn X.K (.ref C) "__eq__" = some (some (.ref f))) (hf : isFn X.K (.ref f) = true) (F : FnOk X.prog X.w X.K X.mg X.base CX0 k f fd ps sp) (hr : Room k X.A) (hb : L2.Binds X.K fd ps []) :
    OpR X (compareOp .Eq) (rEqO X.K C sp) := by
  intro pins s σ H x y v u Q I rx ry h
  obtain ⟨a, b, D, dx, dy, fs, gs, rfl, rfl, ha, hb', nf, h⟩ := h
  cases rx
  cases ry
  obtain ⟨mA, oa, _⟩ := ins_get I.hok ha
  obtain ⟨mB, ob, _⟩ := ins_get I.hok hb'
  obtain ⟨od, J, _⟩ := oa.look
  obtain ⟨od', J', _⟩ := ob.look
  obtain ⟨m, hF⟩ := I.fr
  show wpAny _ _ (richCompare .Eq (.ref a) (.ref b)) _ _ _
  refine cmp_K hr.units0 hF I.ok.mod.kin J (InstAt.type J') nf hs hf ?_
  have rv : Vals [V.ref a, V.ref b] [Value.ref a, Value.ref b] := .cons rfl (.cons rfl .nil)
  have hl : ([Value.ref a, Value.ref b] ++ []).length = ps.length := F.len _ _ _ _ h
  have bd := hb s [Value.ref a, Value.ref b] I.kIn hl
  rw [List.append_nil] at bd
  refine wpAny_call (codeAny_mono (F.run X.A X.stack s H ⟨[Value.ref a, Value.ref b], []⟩ [Value.ref a, Value.ref b] [V.ref a, V.ref b] _ E0 hr I.env0 bd rv h) fun r s' hq => ?_)
  cases r with
  | error e => exact hq.elim
  | ok fl =>
    cases fl with
    | next => exact hq.elim
    | brk => exact hq.elim
    | cont => exact hq.elim
    | ret u =>
      obtain ⟨v, H', I2, rv, t, rfl, q⟩ := I.after hq
      cases rv
      exact ⟨.bl t, H', I2, rfl, q⟩
/-- the class at C has its own __eq__, at f, and no __ne__ -/
structure EqNe (K : Frag) (C f : Addr) : Prop where
  ex : ∃ nm q N bs hdct sn sub ab col dd k0 k1 k2 k3 k5 newId oc od es ep osl of, K.lookup C = some (excClassObj nm q C N bs [.type "object"] hdct sn sub ab col dd k0 k1 k2 k3 k5 newId) ∧
    K.lookup N = some ⟨oc, od, .dict es ep, osl⟩ ∧ StrKeys es ∧ nsFind es "__eq__" = some (.ref f) ∧ nsFind es "__ne__" = none ∧ K.lookup f = some of ∧ of.cls = .type "function"
theorem EqNe.at {K : Frag} {C f x dx : Addr} (e : EqNe K C f) {h : Heap} (X : K.In h) (hx : h.get? x = some (instObj C dx)) : h.OwnEqNoNe x C f "object" [.type "object"] := by
  obtain ⟨nm, q, N, bs, hdct, sn, sub, ab, col, dd, k0, k1, k2, k3, k5, newId, oc, od, es, ep, osl, of, h1, h2, h3, h4, h5, h6, h7⟩ := e.ex
  exact ⟨_, of, nm, q, N, bs, hdct, sn, sub, ab, col, dd, k0, k1, k2, k3, k5, newId, nsFind es, _, hx, rfl, X C _ h1, ⟨_, es, ep, X N _ h2, rfl, h3, fun _ => rfl⟩, h4, X f _ h6, h7, PySem.F.cmp_object.mro, PySem.F.cmp_object.eq.lookup, h5⟩
def rNeO (C : Addr) (sp : Sp) : V → V → Hp → VK → Prop := fun x y H Q => ∃ (a b dx dy : Addr) (fs gs : List (Str × V)), x = .ref a ∧ y = .ref b ∧ H a = some (.ins C dx fs) ∧ H b = some (.ins C dy gs) ∧
  sp [.ref a, .ref b] H (fun v H' => ∃ t : Bool, v = .bl t ∧ Q (.bl !t) H') E0
theorem op_neO {X : Cx} {C f : Addr} {fd : FuncData} {k : Nat} {sp : Sp} {ps : List Str} (hs : EqNe X.K C f) (F : FnOk X.prog X.w X.K X.mg X.base CX0 k f fd ps sp) (hr : Room (k + 1) X.A) (hb : L2.Binds X.K fd ps []) :
    OpR X (compareOp .NotEq) (rNeO C sp) := by
  intro pins s σ H x y v u Q I rx ry h
  obtain ⟨a, b, dx, dy, fs, gs, rfl, rfl, ha, hb', h⟩ := h
  cases rx
  cases ry
  have oa := (I.hok a _ ha).2.2.2.1
  have ob := (I.hok b _ hb').2.2.2.1
  have hr1 : Room k X.A.in1 := hr.in1
  refine compareOp_ne_ownEq PySem.F.cmp_object (hs.at I.kIn oa) ob rfl ?_ ?_
  · exact hr1.units0
  have rv : Vals [V.ref a, V.ref b] [Value.ref a, Value.ref b] := .cons rfl (.cons rfl .nil)
  have hl : ([Value.ref a, Value.ref b] ++ []).length = ps.length := F.len _ _ _ _ h
  have bd := hb s [Value.ref a, Value.ref b] I.kIn hl
  rw [List.append_nil] at bd
  refine wpAny_call (codeAny_mono (F.run X.A.in1 X.stack s H ⟨[Value.ref a, Value.ref b], []⟩ [Value.ref a, Value.ref b] [V.ref a, V.ref b] _ E0 hr1 I.env0.in1 bd rv h) fun r s' hq => ?_)
  cases r with
  | error e => exact hq.elim
  | ok fl =>
    cases fl with
    | next => exact hq.elim
    | brk => exact hq.elim
    | cont => exact hq.elim
    | ret u =>
      obtain ⟨v, H', I2, rv, t, rfl, q⟩ := I.after (Q := fun v H' => ∃ t : Bool, v = .bl t ∧ Q (.bl !t) H') hq
      cases rv
      exact ⟨t, rfl, .bl !t, H', I2, rfl, q⟩
end Wm
namespace Wm
open PySem L2 StX
def rulF (nm : Str) (t1 t2 t3 : Addr) (by_ : Str) : List (Str × V) := putF "by" (.str by_) (putF "gives" (.ref t3) (barF nm t1 t2))
theorem nr1 : ¬ (("gives" : Str) = "by") := by decide +kernel
theorem nr2 : ¬ (("name" : Str) = "by") := by decide +kernel
theorem nr3 : ¬ (("name" : Str) = "gives") := by decide +kernel
theorem nr4 : ¬ (("variables" : Str) = "by") := by decide +kernel
theorem nr5 : ¬ (("variables" : Str) = "gives") := by decide +kernel
theorem nr6 : ¬ (("conditions" : Str) = "by") := by decide +kernel
theorem nr7 : ¬ (("conditions" : Str) = "gives") := by decide +kernel
theorem rulF_name (nm : Str) (t1 t2 t3 : Addr) (b : Str) : (rulF nm t1 t2 t3 b).lookup ("name" : Str) = some (.str nm) := by
  unfold rulF
  rw [lookup_putF, if_neg nr2, lookup_putF, if_neg nr3]
  exact barF_name _ _ _
theorem rulF_vars (nm : Str) (t1 t2 t3 : Addr) (b : Str) : (rulF nm t1 t2 t3 b).lookup ("variables" : Str) = some (.ref t1) := by
  unfold rulF
  rw [lookup_putF, if_neg nr4, lookup_putF, if_neg nr5]
  exact barF_vars _ _ _
theorem rulF_cond (nm : Str) (t1 t2 t3 : Addr) (b : Str) : (rulF nm t1 t2 t3 b).lookup ("conditions" : Str) = some (.ref t2) := by
  unfold rulF
  rw [lookup_putF, if_neg nr6, lookup_putF, if_neg nr7]
  exact barF_cond _ _ _
theorem rulF_gives (nm : Str) (t1 t2 t3 : Addr) (b : Str) : (rulF nm t1 t2 t3 b).lookup ("gives" : Str) = some (.ref t3) := by
  unfold rulF
  rw [lookup_putF, if_neg nr1, lookup_putF, if_pos rfl]
theorem rulF_by (nm : Str) (t1 t2 t3 : Addr) (b : Str) : (rulF nm t1 t2 t3 b).lookup ("by" : Str) = some (.str b) := by
  unfold rulF
  rw [lookup_putF, if_pos rfl]
theorem barF_len (nm : Str) (t1 t2 : Addr) : (barF nm t1 t2).length ≤ 3 := Nat.le_trans (putF_len _ _ _) (Nat.succ_le_succ (Nat.le_trans (putF_len _ _ _) (Nat.succ_le_succ (putF_len _ _ _))))
structure TxRul (K : PySem.W.Frag) (mg : Str → Option Value) (B fB : Addr) : Prop where
  cl : Cls K B
  nn : NoAttr K B "name"
  nv : NoAttr K B "variables"
  nc : NoAttr K B "conditions"
  ng : NoAttr K B "gives"
  nb : NoAttr K B "by"
  g : mg "Rule" = some (.ref B)
  m : Mk K B fB
def spRul (K : PySem.W.Frag) (C B : Addr) : Sp := fun vs H Q E => ∃ (H0 : Hp) (x dx l1 l2 g : Addr) (nm b : Str) (ps qs : List Addr) (vars : List Var) (cs : List Tri) (gt : Tri), vs = [.ref x, .str nm, .ref l1, .ref l2, .ref g, .str b] ∧ Same H0 H ∧ H0 x = none ∧ H x = some (.ins B dx []) ∧
  SqL K H0 l1 (ps.map V.ref) ∧ RowsAt K H0 ps (vars.map varV) ∧ SqL K H0 l2 (qs.map V.ref) ∧ RowsAt K H0 qs (cs.map triV) ∧ H0 g = some (.tup (triV gt)) ∧ PatOk vars cs [gt] [b] ∧ (∀ z ∈ textsL nm vars (cs ++ [gt]), z.length ≤ 1000) ∧
  DueM C (textsL nm vars (cs ++ [gt])) H0 (fun H' => ∀ t1 t2, H' x = some (.ins B dx (rulF nm t1 t2 g b)) → H' t1 = some (.tup (ps.map V.ref)) → H' t2 = some (.tup (qs.map V.ref)) → Q .non H') E
section
variable {P : Program} {w : World} {K : PySem.W.Frag} {mg : Str → Option Value} {base : Heap}
theorem scRul : FnScope ["self", "name", "variables", "conditions", "gives", "by"] ["self", "name", "variables", "conditions", "gives", "by"] (defScope sRul) := ⟨rfl, rfl, rfl, by decide +kernel, rfl, by decide +kernel, by decide +kernel⟩
theorem ok_rul {f fTT fCP C B : Addr} {fd dTT dCP : FuncData} (F : Fun K "__init__" "Rule.__init__" sRul f fd) (T : TxB mg) (TB : TxRul K mg B f) (TT : Dn K mg "tuple_of_tuples" sTT ["rows"] fTT dTT)
    (CP : Dn K mg "check_pattern" sCP ["name", "variables", "conditions", "given", "hands"] fCP dCP) (GCP : FnOk P w K mg base (L2.CX P w) 5 fCP dCP ["name", "variables", "conditions", "given", "hands"] (spCP K C)) :
    FnOk P w K mg base (L2.CX P w) 6 f fd ["self", "name", "variables", "conditions", "gives", "by"] (spRul K C B) := by
  have GTT : FnOk P w K mg base CX0 1 fTT dTT _ (spTT K) := ok_tt TT.F T
  refine F.okX scRul (fun vs H Q E h => ?_) (fun cdv A outer s H vs Q E hr h => ?_)
  · obtain ⟨H0, x, dx, l1, l2, g, nm, b, ps, qs, vars, cs, gt, rfl, _⟩ := h
    rfl
  · obtain ⟨H0, x, dx, l1, l2, g, nm, b, ps, qs, vars, cs, gt, rfl, S0, x0, hx, h1, hv, h2, hc, hg, ok, hz, k⟩ := h
    have hr1 : Room 1 _ := hr.mono (by decide)
    have b1 := hv.len
    have b2 := hc.len
    rw [List.length_map] at b1 b2
    have o1 := ok.v4
    have o2 := ok.c3
    have ngx : g ≠ x := ne_of_none hg x0
    refine ⟨_, (pss_cons (ps_fld (pv 0) (pv 1) rfl)
      (pss_cons (ps_fld (pv 0) (pe_call GTT hr1 rfl TT.g TT.F.kp TT.b .nil pass0 (pa_cons (pv 2) pa_nil)) rfl)
      (pss_cons (ps_fld (pv 0) (pe_call GTT hr1 rfl TT.g TT.F.kp TT.b .nil pass0 (pa_cons (pv 3) pa_nil)) rfl)
      (pss_cons (ps_fld (pv 0) (pe_callTy call_tupN (by rfl) T.tuple (by decide +kernel) (pa_cons (pv 4) pa_nil)) rfl)
      (pss_cons (ps_fld (pv 0) (pv 5) rfl)
      (pss_one (ps_expr (pe_call GCP hr rfl CP.g CP.F.kp CP.b .nil (passes_call (takes_of rfl rfl rfl rfl) (fun _ _ _ _ h => h)) (pa_cons (pv 1) (pa_cons (pe_fld (pv 0) rfl) (pa_cons (pe_fld (pv 0) rfl) (pa_cons (pe_lst (pa_cons (pe_fld (pv 0) rfl) pa_nil)) (pa_cons (pe_lst (pa_cons (pv 5) pa_nil)) pa_nil))))))))))))), ?_⟩
    have Sx : ∀ {H1 : Hp} {o : HO}, Same H0 H1 → Same H0 (upd H1 x o) := fun hs b o e => by
      rw [upd_ne (ne_of_none e x0)]
      exact hs b o e
    refine ⟨_, rfl, _, rfl, x, B, dx, [], rfl, hx, TB.cl, TB.nn, (by show 0 < 1000; decide), ?_⟩
    have S1 := Sx (o := .ins B dx (putF "name" (.str nm) [])) S0
    refine ⟨_, rfl, l1, ps, _, rfl, S1.seq h1, hv.same S1, by omega, fun t1 H2 ht1 hS2 hl1 => ?_⟩
    have S2 := S1.trans hS2
    have hx2 := hS2 _ _ (upd_same (H := H) (a := x) (o := .ins B dx (putF "name" (.str nm) [])))
    have n1x : t1 ≠ x := fun z => by
      rw [z, upd_same] at ht1
      cases ht1
    refine ⟨_, rfl, x, B, dx, _, rfl, hx2, TB.cl, TB.nv, Nat.lt_of_le_of_lt (putF_len _ _ _) (by decide), ?_⟩
    have S3 := Sx (o := .ins B dx (putF "variables" (.ref t1) (putF "name" (.str nm) []))) S2
    refine ⟨_, rfl, l2, qs, _, rfl, S3.seq h2, hc.same S3, by omega, fun t2 H4 ht2 hS4 hl2 => ?_⟩
    have S4 := S3.trans hS4
    have hx4 := hS4 _ _ (upd_same (H := H2) (a := x) (o := .ins B dx (putF "variables" (.ref t1) (putF "name" (.str nm) []))))
    have hl1' := hS4 t1 _ (by rw [upd_ne n1x]; exact hl1)
    have n2x : t2 ≠ x := fun z => by
      rw [z, upd_same] at ht2
      cases ht2
    refine ⟨_, rfl, x, B, dx, _, rfl, hx4, TB.cl, TB.nc, Nat.lt_of_le_of_lt (putF_len _ _ _) (Nat.lt_of_le_of_lt (Nat.succ_le_succ (putF_len _ _ _)) (by decide)), ?_⟩
    have S5 := Sx (o := .ins B dx (barF nm t1 t2)) S4
    -- self.gives = tuple(gives); self.by = by
    refine ⟨_, rfl, g, _, rfl, .inr ⟨SqT.of (S5 _ _ hg), ?_⟩⟩
    refine ⟨_, rfl, x, B, dx, _, rfl, upd_same, TB.cl, TB.ng, Nat.lt_of_le_of_lt (barF_len nm t1 t2) (by decide), ?_⟩
    refine ⟨_, rfl, _, rfl, x, B, dx, _, rfl, upd_same, TB.cl, TB.nb, Nat.lt_of_le_of_lt (Nat.le_trans (putF_len _ _ _) (Nat.succ_le_succ (barF_len nm t1 t2))) (by decide), ?_⟩
    rw [upd_upd, upd_upd]
    show _
    generalize hH6 : upd H4 x (.ins B dx (putF "by" (.str b) (putF "gives" (.ref g) (putF "conditions" (.ref t2) (putF "variables" (.ref t1) (putF "name" (.str nm) [])))))) = H6
    have S6 : Same H0 H6 := by
      rw [← hH6]
      exact Sx S4
    have hx6 : H6 x = some (.ins B dx (rulF nm t1 t2 g b)) := by rw [← hH6, upd_same]; rfl
    have h16 : H6 t1 = some (.tup (ps.map V.ref)) := by rw [← hH6, upd_ne n1x]; exact hl1'
    have h26 : H6 t2 = some (.tup (qs.map V.ref)) := by rw [← hH6, upd_ne n2x]; exact hl2
    -- check_pattern(name, self.variables, self.conditions, [self.gives], [by])
    refine ⟨_, rfl, _, rfl, x, B, dx, _, _, rfl, hx6, TB.cl, TB.nv, rulF_vars _ _ _ _ _, _, rfl, x, B, dx, _, _, rfl, hx6, TB.cl, TB.nc, rulF_cond _ _ _ _ _, _, rfl, x, B, dx, _, _, rfl, hx6, TB.cl, TB.ng, rulF_gives _ _ _ _ _, by show 1 ≤ sizeLine; decide, fun gl hgl => ⟨_, rfl, by show 1 ≤ sizeLine; decide, fun h hh => ?_⟩⟩
    have S7 : Same H6 (upd (upd H6 gl (.lst [.ref g])) h (.lst [.str b])) := (Same.upd hgl).trans (Same.upd hh)
    have S67 := S6.trans S7
    refine ⟨nm, t1, t2, gl, h, ps, qs, [g], vars, cs, [gt], [b], rfl, SqT.of (S7 _ _ h16), hv.same S67, SqT.of (S7 _ _ h26), hc.same S67, SqL.of (Same.upd hh _ _ upd_same), ⟨SqT.of (S67 _ _ hg), True.intro⟩, SqL.of upd_same, ok, hz, ?_⟩
    refine k.toN S67 fun hn H8 hS8 => ?_
    unfold DueM at k
    rw [hn] at k
    exact k H8 (S67.trans hS8) t1 t2 (hS8 _ _ (S7 _ _ hx6)) (hS8 _ _ (S7 _ _ h16)) (hS8 _ _ (S7 _ _ h26))
end
end Wm
namespace Wm
open PySem L2 StX
def sortD : Option Str → PyData
  | none => .none
  | some s => .str s
def varD (v : Var) : List PyData := [.str v.1, sortD v.2]
def triD (t : Tri) : List PyData := [.str t.1, .str t.2.1, .str t.2.2]
def rowsD (rs : List (List PyData)) : PyData := .tuple (rs.map PyData.tuple)
theorem dp_var {K : PySem.W.Frag} {H : Hp} (v : Var) : DpAll K H (varV v) (varD v) := by
  obtain ⟨n, s⟩ := v
  cases s with
  | none => exact .cons (.str _) (.cons .non .nil)
  | some s => exact .cons (.str _) (.cons (.str _) .nil)
theorem dp_tri {K : PySem.W.Frag} {H : Hp} (t : Tri) : DpAll K H (triV t) (triD t) := .cons (.str _) (.cons (.str _) (.cons (.str _) .nil))
theorem dp_rows {K : PySem.W.Frag} {H : Hp} {α : Type} {f : α → List V} {g : α → List PyData} (h : ∀ a, DpAll K H (f a) (g a)) : ∀ {ps : List Addr} {xs : List α}, RowsAt K H ps (xs.map f) → DpAll K H (ps.map V.ref) ((xs.map g).map PyData.tuple)
  | [], [], _ => .nil
  | _ :: _, x :: _, r => .cons (.tup r.1 (h x)) (dp_rows h r.2)
  | [], _ :: _, r => r.elim
  | _ :: _, [], r => r.elim
/-- the parts that rules and bars have alike, as they stand at t1 and t2 -/
structure RowsD (K : PySem.W.Frag) (H : Hp) (t1 t2 : Addr) (vars : List Var) (cs : List Tri) : Prop where
  ex : ∃ ps qs : List Addr, SqT K H t1 (ps.map V.ref) ∧ RowsAt K H ps (vars.map varV) ∧ SqT K H t2 (qs.map V.ref) ∧ RowsAt K H qs (cs.map triV)
  s1 : SeqAt.shaped (rowsD (vars.map varD)) = true
  s2 : SeqAt.shaped (rowsD (cs.map triD)) = true
theorem RowsD.d1 {K : PySem.W.Frag} {H : Hp} {t1 t2 : Addr} {vars : List Var} {cs : List Tri} (h : RowsD K H t1 t2 vars cs) : Dp K H (.ref t1) (rowsD (vars.map varD)) := by
  obtain ⟨ps, qs, a, b, _⟩ := h.ex
  exact .tup a (dp_rows dp_var b)
theorem RowsD.d2 {K : PySem.W.Frag} {H : Hp} {t1 t2 : Addr} {vars : List Var} {cs : List Tri} (h : RowsD K H t1 t2 vars cs) : Dp K H (.ref t2) (rowsD (cs.map triD)) := by
  obtain ⟨ps, qs, _, _, a, b⟩ := h.ex
  exact .tup a (dp_rows dp_tri b)
def sameB (nm : Str) (vars : List Var) (cs : List Tri) (nm' : Str) (vars' : List Var) (cs' : List Tri) : Bool := decide (nm = nm') && (PyData.eqv (rowsD (vars.map varD)) (rowsD (vars'.map varD)) && PyData.eqv (rowsD (cs.map triD)) (rowsD (cs'.map triD)))
def spBE (K : PySem.W.Frag) (B : Addr) : Sp := fun vs H Q _ => ∃ (x y : Addr), vs = [.ref x, .ref y] ∧
  ((∃ (dx dy t1 t2 s1 s2 : Addr) (nm nm' : Str) (vars vars' : List Var) (cs cs' : List Tri), H x = some (.ins B dx (barF nm t1 t2)) ∧ H y = some (.ins B dy (barF nm' s1 s2)) ∧ TyX K H (.ref y) (.ref B) ∧ RowsD K H t1 t2 vars cs ∧ RowsD K H s1 s2 vars' cs' ∧ Q (.bl (sameB nm vars cs nm' vars' cs')) H) ∨
   (∃ D, TyX K H (.ref y) (.ref D) ∧ PySem.W.kitOne K (.ref D) (.ref B) = some false ∧ Q (.bl false) H))
def sameR (nm : Str) (vars : List Var) (cs : List Tri) (g : Tri) (b : Str) (nm' : Str) (vars' : List Var) (cs' : List Tri) (g' : Tri) (b' : Str) : Bool := decide (nm = nm') && (PyData.eqv (rowsD (vars.map varD)) (rowsD (vars'.map varD)) && (PyData.eqv (rowsD (cs.map triD)) (rowsD (cs'.map triD)) && (PyData.eqv (.tuple (triD g)) (.tuple (triD g')) && decide (b = b'))))
def spRE (K : PySem.W.Frag) (B : Addr) : Sp := fun vs H Q _ => ∃ (x y : Addr), vs = [.ref x, .ref y] ∧
  ((∃ (dx dy t1 t2 t3 s1 s2 s3 : Addr) (nm nm' b b' : Str) (vars vars' : List Var) (cs cs' : List Tri) (g g' : Tri), H x = some (.ins B dx (rulF nm t1 t2 t3 b)) ∧ H y = some (.ins B dy (rulF nm' s1 s2 s3 b')) ∧ TyX K H (.ref y) (.ref B) ∧ RowsD K H t1 t2 vars cs ∧ RowsD K H s1 s2 vars' cs' ∧ SqT K H t3 (triV g) ∧ SqT K H s3 (triV g') ∧
      SeqAt.shaped (.tuple (triD g)) = true ∧ SeqAt.shaped (.tuple (triD g')) = true ∧ Q (.bl (sameR nm vars cs g b nm' vars' cs' g' b')) H) ∨
   (∃ D, TyX K H (.ref y) (.ref D) ∧ PySem.W.kitOne K (.ref D) (.ref B) = some false ∧ Q (.bl false) H))
section
variable {P : Program} {w : World} {K : PySem.W.Frag} {mg : Str → Option Value} {base : Heap}
theorem scBE : FnScope ["self", "other"] ["self", "other"] (defScope sBE) := ⟨rfl, rfl, rfl, by decide +kernel, rfl, by decide +kernel, by decide +kernel⟩
theorem ok_be {f fB B : Addr} {fd : FuncData} (F : Fun K "__eq__" "Bar.__eq__" sBE f fd) (T : TxB mg) (TB : TxBar K mg B fB) (kk : PySem.W.kitOne K (.ref B) (.ref B) = some true) : FnOk P w K mg base CX0 1 f fd ["self", "other"] (spBE K B) := by
  refine F.ok scBE (fun vs H Q E h => ?_) (fun cdv A outer s H vs Q E hr h => ?_)
  · obtain ⟨x, y, rfl, _⟩ := h
    rfl
  · obtain ⟨x, y, rfl, h⟩ := h
    refine ⟨_, (pss_one (ps_ret (pe_and (pe_callB call_isi (by rfl) T.isinstance (by decide +kernel) (pa_cons (pv 1) (pa_cons (pe_glob (v := .ref B) (by rfl) TB.g rfl) pa_nil)))
      (pe_and (pe_cmpR op_eq (pe_fld (pv 0) rfl) (pe_fld (pv 1) rfl) (nomark _))
      (pe_and (pe_cmpR (op_eqD hr.units) (pe_fld (pv 0) rfl) (pe_fld (pv 1) rfl) (nomark _))
      (pe_one (pe_cmpR (op_eqD hr.units) (pe_fld (pv 0) rfl) (pe_fld (pv 1) rfl) (nomark _)))))))), ?_⟩
    refine ⟨_, rfl, ?_⟩
    rcases h with ⟨dx, dy, t1, t2, s1, s2, nm, nm', vars, vars', cs, cs', hx, hy, ty, r, r', q⟩ | ⟨D, ty, kf, q⟩
    · refine ⟨_, _, _, _, _, rfl, .own B, ty, kk, true, rfl, ?_⟩
      refine iteT ?_
      refine ⟨_, rfl, x, B, dx, _, _, rfl, hx, TB.cl, TB.nn, barF_name _ _ _, _, rfl, y, B, dy, _, _, rfl, hy, TB.cl, TB.nn, barF_name _ _ _, rfl, _, rfl, ?_⟩
      unfold sameB at q
      refine ite2 (fun c => ?_) (fun c => ?_)
      rotate_left
      · have e : ¬ nm = nm' := fun e => c (by rw [e]; exact decide_eq_true rfl)
        rw [decide_eq_false e, Bool.false_and] at q
        exact q
      have e1 : nm = nm' := V.str.inj (of_decide_eq_true c)
      rw [decide_eq_true e1, Bool.true_and] at q
      refine ⟨_, rfl, x, B, dx, _, _, rfl, hx, TB.cl, TB.nv, barF_vars _ _ _, _, rfl, y, B, dy, _, _, rfl, hy, TB.cl, TB.nv, barF_vars _ _ _, _, _, r.d1, r'.d1, r.s1, r'.s1, _, rfl, ?_⟩
      refine ite2 (fun c => ?_) (fun c => ?_)
      rotate_left
      · rw [Bool.eq_false_iff.mpr c, Bool.false_and] at q
        exact q
      rw [c, Bool.true_and] at q
      exact ⟨_, rfl, x, B, dx, _, _, rfl, hx, TB.cl, TB.nc, barF_cond _ _ _, _, rfl, y, B, dy, _, _, rfl, hy, TB.cl, TB.nc, barF_cond _ _ _, _, _, r.d2, r'.d2, r.s2, r'.s2, q⟩
    · refine ⟨_, _, _, _, _, rfl, .own B, ty, kf, false, rfl, ?_⟩
      exact iteF q
theorem scRE : FnScope ["self", "other"] ["self", "other"] (defScope sRE) := ⟨rfl, rfl, rfl, by decide +kernel, rfl, by decide +kernel, by decide +kernel⟩
theorem ok_re {f fB B : Addr} {fd : FuncData} (F : Fun K "__eq__" "Rule.__eq__" sRE f fd) (T : TxB mg) (TB : TxRul K mg B fB) (kk : PySem.W.kitOne K (.ref B) (.ref B) = some true) : FnOk P w K mg base CX0 1 f fd ["self", "other"] (spRE K B) := by
  refine F.ok scRE (fun vs H Q E h => ?_) (fun cdv A outer s H vs Q E hr h => ?_)
  · obtain ⟨x, y, rfl, _⟩ := h
    rfl
  · obtain ⟨x, y, rfl, h⟩ := h
    refine ⟨_, (pss_one (ps_ret (pe_and (pe_callB call_isi (by rfl) T.isinstance (by decide +kernel) (pa_cons (pv 1) (pa_cons (pe_glob (v := .ref B) (by rfl) TB.g rfl) pa_nil)))
      (pe_and (pe_cmpR op_eq (pe_fld (pv 0) rfl) (pe_fld (pv 1) rfl) (nomark _))
      (pe_and (pe_cmpR (op_eqD hr.units) (pe_fld (pv 0) rfl) (pe_fld (pv 1) rfl) (nomark _))
      (pe_and (pe_cmpR (op_eqD hr.units) (pe_fld (pv 0) rfl) (pe_fld (pv 1) rfl) (nomark _))
      (pe_and (pe_cmpR (op_eqD hr.units) (pe_fld (pv 0) rfl) (pe_fld (pv 1) rfl) (nomark _))
      (pe_one (pe_cmpR op_eq (pe_fld (pv 0) rfl) (pe_fld (pv 1) rfl) (nomark _)))))))))), ?_⟩
    refine ⟨_, rfl, ?_⟩
    rcases h with ⟨dx, dy, t1, t2, t3, s1, s2, s3, nm, nm', b, b', vars, vars', cs, cs', g, g', hx, hy, ty, r, r', h3, h3', sg, sg', q⟩ | ⟨D, ty, kf, q⟩
    · refine ⟨_, _, _, _, _, rfl, .own B, ty, kk, true, rfl, ?_⟩
      refine iteT ?_
      refine ⟨_, rfl, x, B, dx, _, _, rfl, hx, TB.cl, TB.nn, rulF_name _ _ _ _ _, _, rfl, y, B, dy, _, _, rfl, hy, TB.cl, TB.nn, rulF_name _ _ _ _ _, rfl, _, rfl, ?_⟩
      unfold sameR at q
      refine ite2 (fun c => ?_) (fun c => ?_)
      rotate_left
      · have e : ¬ nm = nm' := fun e => c (by rw [e]; exact decide_eq_true rfl)
        rw [decide_eq_false e, Bool.false_and] at q
        exact q
      have e1 : nm = nm' := V.str.inj (of_decide_eq_true c)
      rw [decide_eq_true e1, Bool.true_and] at q
      refine ⟨_, rfl, x, B, dx, _, _, rfl, hx, TB.cl, TB.nv, rulF_vars _ _ _ _ _, _, rfl, y, B, dy, _, _, rfl, hy, TB.cl, TB.nv, rulF_vars _ _ _ _ _, _, _, r.d1, r'.d1, r.s1, r'.s1, _, rfl, ?_⟩
      refine ite2 (fun c => ?_) (fun c => ?_)
      rotate_left
      · rw [Bool.eq_false_iff.mpr c, Bool.false_and] at q
        exact q
      rw [c, Bool.true_and] at q
      refine ⟨_, rfl, x, B, dx, _, _, rfl, hx, TB.cl, TB.nc, rulF_cond _ _ _ _ _, _, rfl, y, B, dy, _, _, rfl, hy, TB.cl, TB.nc, rulF_cond _ _ _ _ _, _, _, r.d2, r'.d2, r.s2, r'.s2, _, rfl, ?_⟩
      refine ite2 (fun c => ?_) (fun c => ?_)
      rotate_left
      · rw [Bool.eq_false_iff.mpr c, Bool.false_and] at q
        exact q
      rw [c, Bool.true_and] at q
      refine ⟨_, rfl, x, B, dx, _, _, rfl, hx, TB.cl, TB.ng, rulF_gives _ _ _ _ _, _, rfl, y, B, dy, _, _, rfl, hy, TB.cl, TB.ng, rulF_gives _ _ _ _ _, _, _, .tup h3 (dp_tri g), .tup h3' (dp_tri g'), sg, sg', _, rfl, ?_⟩
      refine ite2 (fun c => ?_) (fun c => ?_)
      rotate_left
      · rw [Bool.eq_false_iff.mpr c, Bool.false_and] at q
        exact q
      rw [c, Bool.true_and] at q
      refine ⟨_, rfl, x, B, dx, _, _, rfl, hx, TB.cl, TB.nb, rulF_by _ _ _ _ _, _, rfl, y, B, dy, _, _, rfl, hy, TB.cl, TB.nb, rulF_by _ _ _ _ _, rfl, ?_⟩
      have eb : decide (V.str b = V.str b') = decide (b = b') := decide_eq_decide.mpr ⟨V.str.inj, fun e => by rw [e]⟩
      rw [eb]
      exact q
    · refine ⟨_, _, _, _, _, rfl, .own B, ty, kf, false, rfl, ?_⟩
      exact iteF q
end
end Wm
/-! names as the laws draw them: texts of at most six signs -/
namespace Wm
open PySem L2
def lowC (c : Nat) : Prop := 97 ≤ c ∧ c ≤ 122
def figC (c : Nat) : Prop := 48 ≤ c ∧ c ≤ 57
/-- a text of small letters and figures, the first a letter -/
def NmP (z : Str) : Prop := ∃ c cs, z.cps.toList = c :: cs ∧ lowC c ∧ ∀ d ∈ cs, lowC d ∨ figC d
theorem toList_app (a b : Str) : (a ++ b).cps.toList = a.cps.toList ++ b.cps.toList := by
  show (a.cps ++ b.cps).toList = _
  simp
theorem NmP.app {a b : Str} (h : NmP a) (hb : ∀ d ∈ b.cps.toList, lowC d ∨ figC d) : NmP (a ++ b) := by
  obtain ⟨c, cs, e, l, r⟩ := h
  refine ⟨c, cs ++ b.cps.toList, by rw [toList_app, e]; rfl, l, fun d hd => ?_⟩
  rcases List.mem_append.mp hd with h | h
  · exact r d h
  · exact hb d h
theorem NmP.one {c : Nat} (h : lowC c) : NmP ⟨#[c]⟩ := ⟨c, [], rfl, h, fun _ z => nomatch z⟩
theorem NmP.ok {z : Str} (h : NmP z) : ∀ c ∈ z.cps.toList, c < 1114112 := by
  obtain ⟨c, cs, e, l, r⟩ := h
  intro d hd
  rw [e] at hd
  rcases List.mem_cons.mp hd with h | h
  · rw [h]
    exact Nat.lt_of_le_of_lt l.2 (by decide)
  · rcases r d h with q | q
    · exact Nat.lt_of_le_of_lt q.2 (by decide)
    · exact Nat.lt_of_le_of_lt q.2 (by decide)
def ABC36 : Str := PySem.Str.ofString "abcdefghijklmnopqrstuvwxyz0123456789"
theorem abc36_len : ABC36.length = 36 := by decide +kernel
theorem abc_low {i : Nat} {c : Nat} (hi : i < 26) (h : ABC36.cps.toList[i]? = some c) : lowC c := by
  have q : ∀ j : Fin 26, ∀ d ∈ ABC36.cps.toList[j.1]?, 97 ≤ d ∧ d ≤ 122 := by decide +kernel
  exact q ⟨i, hi⟩ c (by rw [h]; exact rfl)
theorem abc_any {i : Nat} {c : Nat} (h : ABC36.cps.toList[i]? = some c) : lowC c ∨ figC c := by
  have q : ∀ d ∈ ABC36.cps.toList, (97 ≤ d ∧ d ≤ 122) ∨ (48 ≤ d ∧ d ≤ 57) := by decide +kernel
  exact q c (List.mem_of_getElem? h)
/-- the text of a number -/
def numS (n : Nat) : Str := PySem.Str.ofString (toString (n : Int))
def numB (n : Nat) : Bool := (numS n).cps.toList.all (fun d => decide (48 ≤ d ∧ d ≤ 57)) && (decide ((numS n).length ≤ 2) && decide (1 ≤ (numS n).length))
theorem num_all : ∀ n : Fin 70, numB n.1 = true := by decide +kernel
theorem num_inj0 : ∀ n m : Fin 70, (numS n.1).cps.toList = (numS m.1).cps.toList → n = m := by decide +kernel
theorem num_sign {n : Nat} (h : n < 70) : (∀ d ∈ (numS n).cps.toList, lowC d ∨ figC d) ∧ (numS n).length ≤ 2 ∧ 1 ≤ (numS n).length := by
  obtain ⟨a, b⟩ := Bool.and_eq_true_iff.mp (num_all ⟨n, h⟩)
  obtain ⟨b, c⟩ := Bool.and_eq_true_iff.mp b
  refine ⟨fun d hd => .inr ?_, of_decide_eq_true b, of_decide_eq_true c⟩
  have q := List.all_eq_true.mp a d hd
  exact of_decide_eq_true (p := 48 ≤ d ∧ d ≤ 57) q
theorem num_inj {n m : Nat} (hn : n < 70) (hm : m < 70) (h : numS n = numS m) : n = m := congrArg Fin.val (num_inj0 ⟨n, hn⟩ ⟨m, hm⟩ (by rw [h]))
/-- the tries for a name: the word, then the word with 1, 2 .. -/
def tryS (z : Str) : Nat → Str
  | 0 => z
  | n + 1 => z ++ numS (n + 1)
theorem app_inj {a b c : Str} (h : a ++ b = a ++ c) : b = c := by
  have e := congrArg (fun z : Str => z.cps.toList) h
  simp only [toList_app] at e
  have q := List.append_cancel_left e
  cases b; cases c
  simp only at q
  congr
  exact Array.toList_inj.mp q
theorem try_inj {z : Str} {n m : Nat} (hn : n < 70) (hm : m < 70) (h : tryS z n = tryS z m) : n = m := by
  have key : ∀ k, k + 1 < 70 → z ≠ z ++ numS (k + 1) := fun k hk e => by
    have l := congrArg (fun z : Str => z.cps.toList.length) e
    simp only [toList_app, List.length_append] at l
    have q := (num_sign hk).2.2
    have q' : 1 ≤ (numS (k + 1)).cps.toList.length := by simpa [PySem.Str.length] using q
    omega
  cases n with
  | zero =>
    cases m with
    | zero => rfl
    | succ m => exact (key m hm h).elim
  | succ n =>
    cases m with
    | zero => exact (key n hn h.symm).elim
    | succ m => exact num_inj hn hm (app_inj h)
theorem holes {α : Type} [BEq α] [LawfulBEq α] {f : Nat → α} : ∀ {n : Nat} {l : List α}, (∀ i j, i < n → j < n → f i = f j → i = j) → (∀ i, i < n → f i ∈ l) → n ≤ l.length
  | 0, _, _, _ => Nat.zero_le _
  | n + 1, l, inj, h => by
    have hm := h n (Nat.lt_succ_self n)
    have q := holes (n := n) (l := l.erase (f n)) (fun i j hi hj => inj i j (by omega) (by omega)) (fun i hi => by
      refine (List.mem_erase_of_ne fun e => ?_).mpr (h i (by omega))
      have := inj i n (by omega) (by omega) e
      omega)
    rw [List.length_erase_of_mem hm] at q
    have := List.length_pos_of_mem hm
    omega
theorem try_end {z : Str} {taken : List Str} {n : Nat} (ht : taken.length ≤ 60) (h : ∀ i, i < n → tryS z i ∈ taken) (hn : n ≤ 61) : n ≤ taken.length :=
  holes (f := tryS z) (fun i j hi hj e => try_inj (by omega) (by omega) e) h
theorem inV_strs {z : Str} {ns : List Str} : inV (.str z) (ns.map V.str) = decide (z ∈ ns) := by
  unfold inV
  rw [List.any_map]
  induction ns with
  | nil => simp
  | cons a r ih =>
    rw [List.any_cons, ih]
    have e : eqV (.str a) (.str z) = decide (a = z) := by
      unfold eqV
      by_cases h : a = z
      · simp [h]
      · simp [h]
    show (eqV (.str a) (.str z) || _) = _
    rw [e]
    by_cases h : a = z
    · simp [h]
    · have h' : ¬ z = a := fun x => h x.symm
      simp [h, h']
end Wm
namespace Wm
open PySem L2
theorem StOk.upd {p d : Addr} {H : Hp} {o : HO} (n : d ≠ p) (h : StOk H p) : StOk (L2.upd H d o) p := by
  obtain ⟨a, b, c, e, r⟩ := h
  exact ⟨a, b, c, by rw [upd_ne n.symm]; exact e, r⟩
theorem StOk.same {p : Addr} {H H' : Hp} (e : Same H H') (h : StOk H p) : StOk H' p := by
  obtain ⟨a, b, c, q, r⟩ := h
  exact ⟨a, b, c, e _ _ q, r⟩
theorem st_free {p d : Addr} {H : Hp} (h : StOk H p) (n : H d = none) : d ≠ p := by
  obtain ⟨a, b, c, e, _⟩ := h
  exact fun z => by
    rw [z, e] at n
    cases n
theorem but_new {p d : Addr} {H H1 : Hp} {o : HO} (b : But p H H1) (n : d ≠ p) (h0 : H d = none) : But p H (L2.upd H1 d o) := fun q u nq e => by
  rw [upd_ne (ne_of_none e h0)]
  exact b q u nq e
theorem flats (ns : List Str) : (ns.map V.str).all flatV = true := by
  induction ns with
  | nil => rfl
  | cons a r ih => rw [List.map_cons, List.all_cons, ih]; rfl
def spNam : Sp := fun vs H Q _ => ∃ (p ln : Addr) (taken : List Str), vs = [.ref p, .ref ln] ∧ StOk H p ∧ ln ≠ p ∧ H ln = some (.lst (taken.map V.str)) ∧ taken.length ≤ 60 ∧
  ∀ (z : Str) H', NmP z → z.length ≤ 6 → z ∉ taken → But p H H' → StOk H' p → Q (.str z) H'
def spNms : Sp := fun vs H Q _ => ∃ (p : Addr) (n : Int), vs = [.ref p, .int n] ∧ StOk H p ∧ 0 ≤ n ∧ n ≤ 60 ∧
  ∀ (zs : List Str) d H', H d = none → d ≠ p → But p H H' → StOk H' p → H' d = some (.lst (zs.map V.str)) → zs.length = n.toNat → zs.Nodup → (∀ z ∈ zs, NmP z ∧ z.length ≤ 6) → Q (.ref d) H'
/-- how many tries are left -/
def mu7 (σ : L2.St) : Nat := match (σ[7]? : Option (Option V)) with
  | some (some (V.int n)) => 100 - n.toNat
  | _ => 0
theorem log_small {n : Nat} (h : n ≤ 100) : ((n : Int) + 1).natAbs.log2 < 1920 := by
  have e : ((n : Int) + 1).natAbs = n + 1 := by omega
  rw [e]
  have q : (n + 1).log2 ≤ n + 1 := Nat.log2_le_self _
  omega
theorem try_nm {z : Str} (h : NmP z) (hl : z.length ≤ 4) {n : Nat} (hn : n ≤ 60) : NmP (tryS z n) ∧ (tryS z n).length ≤ 6 := by
  cases n with
  | zero => exact ⟨h, by show z.length ≤ 6; omega⟩
  | succ n =>
    have q := num_sign (n := n + 1) (by omega)
    refine ⟨h.app q.1, ?_⟩
    show (z ++ numS (n + 1)).length ≤ 6
    rw [len_app]
    omega
section
variable {P : Program} {w : World} {K : PySem.W.Frag} {mg : Str → Option Value} {base : Heap}
theorem scNam : FnScope ["_law_s", "_law_taken", "_law_some", "_law_kind", "_law_word", "_law_k", "_law_found", "_law_n"] ["_law_s", "_law_taken"] (defScope sNam) := ⟨rfl, rfl, rfl, by decide +kernel, rfl, by decide +kernel, by decide +kernel⟩
theorem ok_nam {f fg : Addr} {fd fdg : FuncData} (F : Fun K "_law_name" "_law_name" sNam f fd) (T : TxB mg) (tstr : mg "str" = none) (D : Dn K mg "_law_digit" sDigit ["_law_state_here", "_law_base"] fg fdg) : FnOk P w K mg base CX0 2 f fd ["_law_s", "_law_taken"] spNam := by
  have G : FnOk P w K mg base CX0 1 fg fdg ["_law_state_here", "_law_base"] spDigit := ok_digit D.F
  refine F.ok scNam (fun vs H Q E h => ?_) (fun cdv A outer s H vs Q E hr h => ?_)
  · obtain ⟨p, ln, tk, rfl, _⟩ := h
    rfl
  · obtain ⟨p, ln, taken, rfl, hS, nlp, hT, hl, k⟩ := h
    refine ⟨_, (pss_cons (ps_set (i := 2) scNam.nd rfl (Or.inl rfl) pe_str)
      (pss_cons (ps_set (i := 3) scNam.nd rfl (Or.inl rfl) (pe_call G hr rfl D.g D.F.kp D.b .nil pass0 (pa_cons (pv 0) (pa_cons pe_int pa_nil))))
      (pss_cons (ps_set (i := 4) scNam.nd rfl (Or.inl rfl) (pe_ix ix_str (pv 2) (pe_call G hr rfl D.g D.F.kp D.b .nil pass0 (pa_cons (pv 0) (pa_cons pe_int pa_nil))) (fun _ _ => rfl)))
      (pss_cons (ps_for PassesOwn.never rfl (pi_range1 rfl T.range (pa_cons (pe_call G hr rfl D.g D.F.kp D.b .nil pass0 (pa_cons (pv 0) (pa_cons pe_int pa_nil))) pa_nil)) (pg_name (i := 5) scNam.nd rfl (Or.inl rfl)) (pss_one (ps_set (i := 4) scNam.nd rfl (Or.inl rfl) (pe_op op_add_str (pv 4) (pe_ix ix_str (pv 2) (pe_call G hr rfl D.g D.F.kp D.b .nil pass0 (pa_cons (pv 0) (pa_cons pe_int pa_nil))) (fun _ _ => rfl))))))
      (pss_cons (ps_if (pt_cmpR op_eq (pv 3) pe_int (nomark _)) (pss_one (ps_set (i := 4) scNam.nd rfl (Or.inl rfl) (pe_ix ix_list (pe_lst (pa_cons pe_str (pa_cons pe_str (pa_cons pe_str (pa_cons pe_str pa_nil))))) (pe_call G hr rfl D.g D.F.kp D.b .nil pass0 (pa_cons (pv 0) (pa_cons pe_int pa_nil))) (fun _ _ => rfl)))) pss_nil)
      (pss_cons (ps_set (i := 6) scNam.nd rfl (Or.inl rfl) (pv 4))
      (pss_cons (ps_set (i := 7) scNam.nd rfl (Or.inl rfl) pe_int)
      (pss_cons (ps_while PassesOwn.never (pt_cmpR op_in_seq (pv 6) (pv 1) (by rfl)) (pss_cons (ps_set (i := 7) scNam.nd rfl (Or.inl rfl) (pe_op op_add (pv 7) pe_int))
      (pss_one (ps_set (i := 6) scNam.nd rfl (Or.inl rfl) (pe_op op_add_str (pv 4) (pe_callTy call_str_int (by rfl) tstr (by decide +kernel) (pa_cons (pv 7) pa_nil)))))))
      (pss_one (ps_ret (pv 6))))))))))), ?_⟩
    refine ⟨_, rfl, p, _, rfl, hS, by decide, by decide, fun d1 H1 a1 b1 B1 S1 => ?_⟩
    refine ⟨_, rfl, _, rfl, p, _, rfl, S1, by decide, by decide, fun d2 H2 a2 b2 B2 S2 => ?_⟩
    refine rdItem abc36_len a2 (by omega) (by decide) fun c hc => ?_
    have hc' : lowC c := abc_low (by omega) hc
    refine ⟨_, rfl, p, _, rfl, S2, by decide, by decide, fun d3 H3 a3 b3 B3 S3 => ?_⟩
    refine ⟨d3, rfl, by omega, by omega, ?_⟩
    refine for_range (n := d3.toNat) (fun i σ H' => ∃ (z : Str) (v : Option V), σ = [some (.ref p), some (.ref ln), some (.str ABC36), some (.int d1), some (.str z), v, none, none] ∧ z.length ≤ i + 1 ∧ NmP z ∧ But p H H' ∧ StOk H' p)
      ⟨⟨#[c]⟩, none, rfl, Nat.le_refl _, NmP.one hc', (B1.trans B2).trans B3, S3⟩ ?_ ?_
    · rintro i σ H' hi ⟨z, v, rfl, hz, hp, B, S⟩
      refine ⟨_, rfl, _, rfl, _, rfl, p, _, rfl, S, by decide, by decide, fun d5 H5 a5 b5 B5 S5 => ?_⟩
      refine rdItem abc36_len a5 (by omega) (by decide) fun c hc => ?_
      refine ⟨_, _, rfl, rfl, ?_, ?_⟩
      · rw [len_one]
        exact Nat.le_trans (show z.length + 1 ≤ 100 by omega) (by decide)
      · refine ⟨_, _, rfl, ?_, hp.app (fun d hd => ?_), B.trans B5, S5⟩
        · rw [len_app, len_one]
          omega
        · have e : d = c := by simpa using hd
          rw [e]
          exact abc_any hc
    · rintro σ H4 ⟨z, v, rfl, hz, hp, B, S⟩
      refine ⟨_, rfl, rfl, _, rfl, ?_⟩
      refine ite2 (fun _ => ?_) (fun _ => ?_)
      · refine ⟨by show 4 ≤ sizeLine; decide, fun l nl => ?_⟩
        have nlq := st_free S nl
        refine ⟨_, rfl, p, _, rfl, S.upd nlq, by decide, by decide, fun d6 H6 a6 b6 B6 S6 => ?_⟩
        have hq : ∀ z ∈ (["m1", "m2", "m3", "m10"] : List Str), (∃ c cs, z.cps.toList = c :: cs ∧ (97 ≤ c ∧ c ≤ 122) ∧ ∀ d ∈ cs, (97 ≤ d ∧ d ≤ 122) ∨ (48 ≤ d ∧ d ≤ 57)) ∧ z.length ≤ 4 := by
          intro z hz
          rcases List.mem_cons.mp hz with e | hz
          · rw [e]; exact ⟨⟨109, [49], by decide +kernel, by decide, by decide⟩, by decide +kernel⟩
          rcases List.mem_cons.mp hz with e | hz
          · rw [e]; exact ⟨⟨109, [50], by decide +kernel, by decide, by decide⟩, by decide +kernel⟩
          rcases List.mem_cons.mp hz with e | hz
          · rw [e]; exact ⟨⟨109, [51], by decide +kernel, by decide, by decide⟩, by decide +kernel⟩
          rcases List.mem_cons.mp hz with e | hz
          · rw [e]; exact ⟨⟨109, [49, 48], by decide +kernel, by decide, by decide⟩, by decide +kernel⟩
          cases hz
        have hj : d6.toNat < (["m1", "m2", "m3", "m10"] : List Str).length := by show _ < 4; omega
        refine rdList (B6 l _ nlq upd_same) (j := d6.toNat) (v := .str ((["m1", "m2", "m3", "m10"] : List Str)[d6.toNat])) (by omega) ?_ ?_
        · have e : ((["m1", "m2", "m3", "m10"] : List Str).map V.str)[d6.toNat]? = some (.str ((["m1", "m2", "m3", "m10"] : List Str)[d6.toNat])) := by
            rw [List.getElem?_map, List.getElem?_eq_getElem hj]
            rfl
          exact e
        · have hh := hq _ (List.getElem_mem hj)
          generalize (["m1", "m2", "m3", "m10"] : List Str)[d6.toNat] = zz at hh
          have hzz : NmP zz := hh.1
          have hzl : zz.length ≤ 4 := hh.2
          have BB : But p H H6 := (but_new B nlq ((B.free nlq nl))).trans B6
          have SS : StOk H6 p := S6
          clear hh hq hj B6 S6 B S hz hp nl
          revert zz
          intro zz hzz hzl
          refine ⟨_, rfl, ?_⟩
          have hTT : H6 ln = some (.lst (taken.map V.str)) := BB ln _ nlp hT
          refine while_by (fun σ H' => H' = H6 ∧ ∃ n : Nat, σ = [some (.ref p), some (.ref ln), some (.str ABC36), some (.int d1), some (.str zz), v, some (.str (tryS zz n)), some (.int (n : Int))] ∧ n ≤ 60 ∧ ∀ i, i < n → tryS zz i ∈ taken) (fun σ _ => mu7 σ)
            ⟨rfl, 0, rfl, Nat.zero_le _, fun i hi => absurd hi (Nat.not_lt_zero i)⟩ ?_ ?_
          · rintro σ H' ⟨rfl, n, rfl, hn, hall⟩
            refine ⟨_, rfl, _, rfl, ln, _, rfl, .inl (SqL.of hTT), rfl, flats taken, _, rfl, ?_⟩
            show if inV (.str (tryS zz n)) (taken.map V.str) = true then _ else _
            rw [inV_strs]
            by_cases hm : tryS zz n ∈ taken
            · rw [decide_eq_true hm]
              refine iteT ?_
              have hall' : ∀ i, i < n + 1 → tryS zz i ∈ taken := fun i hi => by
                by_cases e : i = n
                · rw [e]
                  exact hm
                · exact hall i (by omega)
              have hle := try_end hl hall' (by omega)
              refine ⟨_, rfl, _, _, rfl, rfl, ?_⟩
              refine ⟨_, rfl, _, rfl, _, rfl, log_small (by omega), _, _, rfl, rfl, ?_, ?_⟩
              · have q := num_sign (n := n + 1) (by omega)
                exact Nat.le_trans (show zz.length + (numS (n + 1)).length ≤ 100 by omega) (by decide)
              · refine ⟨⟨rfl, n + 1, rfl, by omega, hall'⟩, ?_⟩
                show 100 - ((n : Int) + 1).toNat < 100 - (n : Int).toNat
                omega
            · rw [decide_eq_false hm]
              refine iteF ?_
              exact ⟨_, rfl, k _ _ (try_nm hzz hzl hn).1 (try_nm hzz hzl hn).2 hm BB SS⟩
          · intro σ H' Q1 Q2 f h
            obtain ⟨x, e1, y, e2, p', xs, e3, a, b, c, bb, e4, q⟩ := h
            exact ⟨x, e1, y, e2, p', xs, e3, a, b, c, bb, e4, f _ _ q⟩
      · have hzz : NmP z := hp
        have hzl : z.length ≤ 4 := by omega
        have BB : But p H H4 := B
        have SS : StOk H4 p := S
        refine ⟨_, rfl, ?_⟩
        have hTT : H4 ln = some (.lst (taken.map V.str)) := BB ln _ nlp hT
        refine while_by (fun σ H' => H' = H4 ∧ ∃ n : Nat, σ = [some (.ref p), some (.ref ln), some (.str ABC36), some (.int d1), some (.str z), v, some (.str (tryS z n)), some (.int (n : Int))] ∧ n ≤ 60 ∧ ∀ i, i < n → tryS z i ∈ taken) (fun σ _ => mu7 σ)
          ⟨rfl, 0, rfl, Nat.zero_le _, fun i hi => absurd hi (Nat.not_lt_zero i)⟩ ?_ ?_
        · rintro σ H' ⟨rfl, n, rfl, hn, hall⟩
          refine ⟨_, rfl, _, rfl, ln, _, rfl, .inl (SqL.of hTT), rfl, flats taken, _, rfl, ?_⟩
          show if inV (.str (tryS z n)) (taken.map V.str) = true then _ else _
          rw [inV_strs]
          by_cases hm : tryS z n ∈ taken
          · rw [decide_eq_true hm]
            refine iteT ?_
            have hall' : ∀ i, i < n + 1 → tryS z i ∈ taken := fun i hi => by
              by_cases e : i = n
              · rw [e]
                exact hm
              · exact hall i (by omega)
            have hle := try_end hl hall' (by omega)
            refine ⟨_, rfl, _, _, rfl, rfl, ?_⟩
            refine ⟨_, rfl, _, rfl, _, rfl, log_small (by omega), _, _, rfl, rfl, ?_, ?_⟩
            · have q := num_sign (n := n + 1) (by omega)
              exact Nat.le_trans (show z.length + (numS (n + 1)).length ≤ 100 by omega) (by decide)
            · refine ⟨⟨rfl, n + 1, rfl, by omega, hall'⟩, ?_⟩
              show 100 - ((n : Int) + 1).toNat < 100 - (n : Int).toNat
              omega
          · rw [decide_eq_false hm]
            refine iteF ?_
            exact ⟨_, rfl, k _ _ (try_nm hzz hzl hn).1 (try_nm hzz hzl hn).2 hm BB SS⟩
        · intro σ H' Q1 Q2 f h
          obtain ⟨x, e1, y, e2, p', xs, e3, a, b, c, bb, e4, q⟩ := h
          exact ⟨x, e1, y, e2, p', xs, e3, a, b, c, bb, e4, f _ _ q⟩
theorem scNms : FnScope ["_law_s", "_law_many", "_law_found", "_law_k"] ["_law_s", "_law_many"] (defScope sNms) := ⟨rfl, rfl, rfl, by decide +kernel, rfl, by decide +kernel, by decide +kernel⟩
theorem ok_nms {f fL : Addr} {fd dL : FuncData} (F : Fun K "_law_names" "_law_names" sNms f fd) (T : TxB mg) (D : Dn K mg "_law_name" sNam ["_law_s", "_law_taken"] fL dL) (G : FnOk P w K mg base CX0 2 fL dL ["_law_s", "_law_taken"] spNam) : FnOk P w K mg base CX0 3 f fd ["_law_s", "_law_many"] spNms := by
  refine F.ok scNms (fun vs H Q E h => ?_) (fun cdv A outer s H vs Q E hr h => ?_)
  · obtain ⟨p, n, rfl, _⟩ := h
    rfl
  · obtain ⟨p, n, rfl, hS, n0, n6, k⟩ := h
    refine ⟨_, (pss_cons (ps_set (i := 2) scNms.nd rfl (Or.inl rfl) (pe_lst pa_nil))
      (pss_cons (ps_for PassesOwn.never rfl (pi_range1 rfl T.range (pa_cons (pv 1) pa_nil)) (pg_name (i := 3) scNms.nd rfl (Or.inl rfl)) (pss_one (ps_expr (pe_bm PySem.F.plainAttrs_list PySem.F.slot_list_append PySem.F.type_list_append mt_append (pv 2) (pa_cons (pe_call G hr rfl D.g D.F.kp D.b .nil pass0 (pa_cons (pv 0) (pa_cons (pv 2) pa_nil))) pa_nil)))))
      (pss_one (ps_ret (pv 2))))), ?_⟩
    refine ⟨Nat.zero_le _, fun d hd => ?_⟩
    have ndp := st_free hS hd
    refine ⟨_, rfl, n, rfl, by omega, by omega, ?_⟩
    refine for_range (n := n.toNat) (fun i σ H' => (∃ u, σ = [some (.ref p), some (.int n), some (.ref d), u]) ∧ ∃ zs : List Str, H' d = some (.lst (zs.map V.str)) ∧ zs.Nodup ∧ (∀ z ∈ zs, NmP z ∧ z.length ≤ 6) ∧ zs.length = i ∧ But p H H' ∧ StOk H' p)
      ⟨⟨none, rfl⟩, [], upd_same, List.nodup_nil, fun z hz => (List.not_mem_nil hz).elim, rfl, but_new (But.refl p H) ndp hd, hS.upd ndp⟩ ?_ ?_
    · rintro i σ H1 hi ⟨⟨u, rfl⟩, zs, hl, nd, nm, len, B, S⟩
      refine ⟨_, rfl, .inl ⟨rfl, _, SqL.of hl⟩, _, rfl, _, rfl, p, d, zs, rfl, S, ndp, hl, by omega, fun z H2 hz hz6 hm B2 S2 => ?_⟩
      have hl2 := B2 d _ ndp hl
      refine ⟨d, _, _, rfl, rfl, hl2, ?_, ?_⟩
      · rw [List.length_map]
        exact Nat.lt_of_le_of_lt (show _ ≤ 1000 by omega) (by decide)
      · refine ⟨⟨_, rfl⟩, zs ++ [z], ?_, ?_, ?_, ?_, but_new (B.trans B2) ndp hd, S2.upd ndp⟩
        · rw [upd_same, List.map_append]
          rfl
        · rw [List.nodup_append]
          exact ⟨nd, (by simp : [z].Nodup), fun a ha b hb e => by
            have eb : b = z := by simpa using hb
            rw [e, eb] at ha
            exact hm ha⟩
        · intro y hy
          rcases List.mem_append.mp hy with hy | hy
          · exact nm y hy
          · rw [List.mem_singleton.mp hy]
            exact ⟨hz, hz6⟩
        · rw [List.length_append, List.length_singleton]
          omega
    · rintro σ H1 ⟨⟨u, rfl⟩, zs, hl, nd, nm, len, B, S⟩
      exact ⟨_, rfl, k zs d H1 hd ndp B S hl len nd nm⟩
end
end Wm
namespace Wm
open PySem L2 StX
def makF (mk md : Str) (t1 t2 : Addr) : List (Str × V) := putF "up" (.ref t2) (putF "down" (.ref t1) (putF "made" (.str md) (putF "maker" (.str mk) [])))
theorem nm1 : ¬ (("maker" : Str) = "up") := by decide +kernel
theorem nm2 : ¬ (("maker" : Str) = "down") := by decide +kernel
theorem nm3 : ¬ (("maker" : Str) = "made") := by decide +kernel
theorem nm4 : ¬ (("made" : Str) = "up") := by decide +kernel
theorem nm5 : ¬ (("made" : Str) = "down") := by decide +kernel
theorem nm6 : ¬ (("down" : Str) = "up") := by decide +kernel
theorem makF_maker (mk md : Str) (t1 t2 : Addr) : (makF mk md t1 t2).lookup ("maker" : Str) = some (.str mk) := by
  unfold makF
  rw [lookup_putF, if_neg nm1, lookup_putF, if_neg nm2, lookup_putF, if_neg nm3, lookup_putF, if_pos rfl]
theorem makF_made (mk md : Str) (t1 t2 : Addr) : (makF mk md t1 t2).lookup ("made" : Str) = some (.str md) := by
  unfold makF
  rw [lookup_putF, if_neg nm4, lookup_putF, if_neg nm5, lookup_putF, if_pos rfl]
theorem makF_down (mk md : Str) (t1 t2 : Addr) : (makF mk md t1 t2).lookup ("down" : Str) = some (.ref t1) := by
  unfold makF
  rw [lookup_putF, if_neg nm6, lookup_putF, if_pos rfl]
theorem makF_up (mk md : Str) (t1 t2 : Addr) : (makF mk md t1 t2).lookup ("up" : Str) = some (.ref t2) := by
  unfold makF
  rw [lookup_putF, if_pos rfl]
structure TxMak (K : PySem.W.Frag) (mg : Str → Option Value) (B fB : Addr) : Prop where
  cl : Cls K B
  nk : NoAttr K B "maker"
  nd : NoAttr K B "made"
  nw : NoAttr K B "down"
  nu : NoAttr K B "up"
  g : mg "Making" = some (.ref B)
  m : Mk K B fB
def spMak (K : PySem.W.Frag) (C B : Addr) : Sp := fun vs H Q E => ∃ (H0 : Hp) (x dx l1 l2 : Addr) (mk md : Str) (ds us : List Str), vs = [.ref x, .str mk, .str md, .ref l1, .ref l2] ∧ Same H0 H ∧ H0 x = none ∧ H x = some (.ins B dx []) ∧
  SqL K H0 l1 (ds.map V.str) ∧ SqL K H0 l2 (us.map V.str) ∧ ds.length ≤ 100 ∧ us.length ≤ 100 ∧ NoTw (ds.map V.str) ∧ NoTw (us.map V.str) ∧ (∀ z ∈ mk :: md :: (ds ++ us), z.length ≤ 1000) ∧
  DueM C (mk :: md :: (ds ++ us)) H0 (fun H' => ∀ t1 t2, H' x = some (.ins B dx (makF mk md t1 t2)) → H' t1 = some (.tup (ds.map V.str)) → H' t2 = some (.tup (us.map V.str)) → Q .non H') E
section
variable {P : Program} {w : World} {K : PySem.W.Frag} {mg : Str → Option Value} {base : Heap}
theorem scMak : FnScope ["self", "maker", "made", "down", "up"] ["self", "maker", "made", "down", "up"] (defScope sMak) := ⟨rfl, rfl, rfl, by decide +kernel, rfl, by decide +kernel, by decide +kernel⟩
theorem ok_mak {f fRN fRT C B : Addr} {fd dRN dRT : FuncData} (F : Fun K "__init__" "Making.__init__" sMak f fd) (T : TxB mg) (TM : TxMak K mg B f) (RN : Dn K mg "refuse_no_name" sRN ["texts"] fRN dRN) (RT : Dn K mg "refuse_twice" sRT ["names"] fRT dRT)
    (GRN : FnOk P w K mg base (L2.CX P w) 4 fRN dRN ["texts"] (spRN K C)) (GRT : FnOk P w K mg base CX0 2 fRT dRT ["names"] (spFT K)) : FnOk P w K mg base (L2.CX P w) 5 f fd ["self", "maker", "made", "down", "up"] (spMak K C B) := by
  refine F.okX scMak (fun vs H Q E h => ?_) (fun cdv A outer s H vs Q E hr h => ?_)
  · obtain ⟨H0, x, dx, l1, l2, mk, md, ds, us, rfl, _⟩ := h
    rfl
  · obtain ⟨H0, x, dx, l1, l2, mk, md, ds, us, rfl, S0, x0, hx, h1, h2, n1, n2, w1, w2, hz, k⟩ := h
    have hr2 : Room 2 _ := hr.mono (by decide)
    have Sx : ∀ {H1 : Hp} {o : HO}, Same H0 H1 → Same H0 (upd H1 x o) := fun hs b o e => by
      rw [upd_ne (ne_of_none e x0)]
      exact hs b o e
    refine ⟨_, (pss_cons (ps_fld (pv 0) (pv 1) rfl)
      (pss_cons (ps_fld (pv 0) (pv 2) rfl)
      (pss_cons (ps_fld (pv 0) (pe_callTy call_tupN (by rfl) T.tuple (by decide +kernel) (pa_cons (pv 3) pa_nil)) rfl)
      (pss_cons (ps_fld (pv 0) (pe_callTy call_tupN (by rfl) T.tuple (by decide +kernel) (pa_cons (pv 4) pa_nil)) rfl)
      (pss_cons (ps_expr (pe_call GRN hr rfl RN.g RN.F.kp RN.b .nil (passes_call (takes_of rfl rfl rfl rfl) (fun _ _ _ _ h => h)) (pa_cons (pe_lst (pa_cons (pv 1) (pa_cons (pv 2) (pa_star (pe_fld (pv 0) rfl) (pa_star (pe_fld (pv 0) rfl) pa_nil))))) pa_nil)))
      (pss_cons (ps_expr (pe_call GRT hr2 rfl RT.g RT.F.kp RT.b .nil pass0 (pa_cons (pe_fld (pv 0) rfl) pa_nil)))
      (pss_one (ps_expr (pe_call GRT hr2 rfl RT.g RT.F.kp RT.b .nil pass0 (pa_cons (pe_fld (pv 0) rfl) pa_nil)))))))))), ?_⟩
    refine ⟨_, rfl, _, rfl, x, B, dx, [], rfl, hx, TM.cl, TM.nk, (by show 0 < 1000; decide), ?_⟩
    have S1 := Sx (o := .ins B dx (putF "maker" (.str mk) [])) S0
    refine ⟨_, rfl, _, rfl, x, B, dx, _, rfl, upd_same, TM.cl, TM.nd, Nat.lt_of_le_of_lt (putF_len _ _ _) (by decide), ?_⟩
    rw [upd_upd]
    have S2 := Sx (o := .ins B dx (putF "made" (.str md) (putF "maker" (.str mk) []))) S0
    have few2 : (putF "made" (.str md) (putF "maker" (.str mk) [])).length ≤ 10 := Nat.le_trans (putF_len _ _ _) (Nat.le_trans (Nat.succ_le_succ (putF_len _ _ _)) (by decide))
    -- self.down = tuple(down)
    refine ⟨_, rfl, l1, _, rfl, .inl ⟨S2.seq h1, fun t1 ht1 => ?_⟩⟩
    have n1x : t1 ≠ x := fun z => by
      rw [z, upd_same] at ht1
      cases ht1
    refine ⟨_, rfl, x, B, dx, _, rfl, Eq.trans (upd_ne n1x.symm) upd_same, TM.cl, TM.nw, Nat.lt_of_le_of_lt few2 (by decide), ?_⟩
    generalize hH3 : upd (upd (upd H x (.ins B dx (putF "made" (.str md) (putF "maker" (.str mk) [])))) t1 (.tup (ds.map V.str))) x (.ins B dx (putF "down" (.ref t1) (putF "made" (.str md) (putF "maker" (.str mk) [])))) = H3
    have S3 : Same H0 H3 := by
      rw [← hH3]
      exact Sx (S2.trans (Same.upd ht1))
    have hx3 : H3 x = some (.ins B dx (putF "down" (.ref t1) (putF "made" (.str md) (putF "maker" (.str mk) [])))) := by rw [← hH3, upd_same]
    have h13 : H3 t1 = some (.tup (ds.map V.str)) := by rw [← hH3, upd_ne n1x, upd_same]
    -- self.up = tuple(up)
    refine ⟨_, rfl, l2, _, rfl, .inl ⟨S3.seq h2, fun t2 ht2 => ?_⟩⟩
    have n2x : t2 ≠ x := (ne_of_none hx3 ht2).symm
    have n21 : t2 ≠ t1 := (ne_of_none h13 ht2).symm
    refine ⟨_, rfl, x, B, dx, _, rfl, Eq.trans (upd_ne n2x.symm) hx3, TM.cl, TM.nu, Nat.lt_of_le_of_lt (Nat.le_trans (putF_len _ _ _) (Nat.succ_le_succ few2)) (by decide), ?_⟩
    show _
    generalize hH4 : upd (upd H3 t2 (.tup (us.map V.str))) x (.ins B dx (putF "up" (.ref t2) (putF "down" (.ref t1) (putF "made" (.str md) (putF "maker" (.str mk) []))))) = H4
    have S4 : Same H0 H4 := by
      rw [← hH4]
      exact Sx (S3.trans (Same.upd ht2))
    have hx4 : H4 x = some (.ins B dx (makF mk md t1 t2)) := by rw [← hH4, upd_same]; rfl
    have h14 : H4 t1 = some (.tup (ds.map V.str)) := by rw [← hH4, upd_ne n1x, upd_ne n21.symm]; exact h13
    have h24 : H4 t2 = some (.tup (us.map V.str)) := by rw [← hH4, upd_ne n2x, upd_same]
    -- refuse_no_name([maker, made, *self.down, *self.up])
    refine ⟨_, rfl, _, rfl, _, rfl, x, B, dx, _, _, rfl, hx4, TM.cl, TM.nw, makF_down _ _ _ _, t1, _, rfl, .inl (SqT.of h14), _, rfl, x, B, dx, _, _, rfl, hx4, TM.cl, TM.nu, makF_up _ _ _ _, t2, _, rfl, .inl (SqT.of h24), ?_, fun l hl => ?_⟩
    · show (V.str mk :: V.str md :: (ds.map V.str ++ (us.map V.str ++ []))).length ≤ sizeLine
      rw [List.append_nil, List.length_cons, List.length_cons, List.length_append, List.length_map, List.length_map]
      exact Nat.le_trans (show _ ≤ 1000 by omega) (by decide)
    have el : V.str mk :: V.str md :: (ds.map V.str ++ (us.map V.str ++ [])) = (mk :: md :: (ds ++ us)).map V.str := by
      rw [List.append_nil, List.map_cons, List.map_cons, List.map_append]
    have S5 := S4.trans (Same.upd (o := .lst (V.str mk :: V.str md :: (ds.map V.str ++ (us.map V.str ++ [])))) hl)
    refine ⟨l, mk :: md :: (ds ++ us), rfl, SqL.of (by rw [upd_same, ← el]), ?_, hz, ?_⟩
    · rw [List.length_cons, List.length_cons, List.length_append]
      omega
    refine k.toN S5 fun hn H6 hS6 => ?_
    have hx6 := hS6 _ _ (Same.upd (o := .lst (V.str mk :: V.str md :: (ds.map V.str ++ (us.map V.str ++ [])))) hl _ _ hx4)
    have h16 := hS6 _ _ (Same.upd (o := .lst (V.str mk :: V.str md :: (ds.map V.str ++ (us.map V.str ++ [])))) hl _ _ h14)
    have h26 := hS6 _ _ (Same.upd (o := .lst (V.str mk :: V.str md :: (ds.map V.str ++ (us.map V.str ++ [])))) hl _ _ h24)
    refine ⟨_, rfl, x, B, dx, _, _, rfl, hx6, TM.cl, TM.nw, makF_down _ _ _ _, t1, _, rfl, .inr (SqT.of h16), flat_strs _, w1, fun H7 hS7 => ?_⟩
    refine ⟨_, rfl, x, B, dx, _, _, rfl, hS7 _ _ hx6, TM.cl, TM.nu, makF_up _ _ _ _, t2, _, rfl, .inr (SqT.of (hS7 _ _ h26)), flat_strs _, w2, fun H8 hS8 => ?_⟩
    unfold DueM at k
    rw [hn] at k
    exact k H8 (S5.trans (hS6.trans (hS7.trans hS8))) t1 t2 (hS8 _ _ (hS7 _ _ hx6)) (hS8 _ _ (hS7 _ _ h16)) (hS8 _ _ (hS7 _ _ h26))
end
end Wm
namespace Wm
open PySem L2 StX
theorem strOk_of {z : Str} (h : okS z) : PyData.strOk z = true := by
  unfold PyData.strOk
  rw [Array.all_eq_true_iff_forall_mem]
  intro c hc
  exact decide_eq_true (h c (by simpa using hc))
/-! ### rows of objects -/
def AllAt {α : Type} (R : Addr → α → Prop) : List Addr → List α → Prop
  | [], [] => True
  | a :: as, x :: xs => R a x ∧ AllAt R as xs
  | _, _ => False
theorem AllAt.imp {α : Type} {R R' : Addr → α → Prop} (h : ∀ a x, R a x → R' a x) : ∀ {as : List Addr} {xs : List α}, AllAt R as xs → AllAt R' as xs
  | [], [], _ => True.intro
  | _ :: _, _ :: _, q => ⟨h _ _ q.1, AllAt.imp h q.2⟩
  | [], _ :: _, q => q.elim
  | _ :: _, [], q => q.elim
theorem AllAt.len {α : Type} {R : Addr → α → Prop} : ∀ {as : List Addr} {xs : List α}, AllAt R as xs → as.length = xs.length
  | [], [], _ => rfl
  | _ :: _, _ :: _, q => congrArg (· + 1) (AllAt.len q.2)
  | [], _ :: _, q => q.elim
  | _ :: _, [], q => q.elim
theorem AllAt.get {α : Type} {R : Addr → α → Prop} : ∀ {as : List Addr} {xs : List α} {j : Nat} {y : V}, AllAt R as xs → (as.map V.ref)[j]? = some y → ∃ a x, y = .ref a ∧ xs[j]? = some x ∧ R a x
  | a :: as, x :: xs, 0, y, h, e => ⟨a, x, (Option.some.inj e).symm, rfl, h.1⟩
  | a :: as, x :: xs, j + 1, y, h, e => by
    obtain ⟨a', x', p, q, r⟩ := AllAt.get (j := j) h.2 (by simpa using e)
    exact ⟨a', x', p, by simpa using q, r⟩
  | [], _, _, _, _, e => by simp at e
  | _ :: _, [], _, _, h, _ => h.elim
theorem AllAt.append {α : Type} {R : Addr → α → Prop} : ∀ {as bs : List Addr} {xs ys : List α}, AllAt R as xs → AllAt R bs ys → AllAt R (as ++ bs) (xs ++ ys)
  | [], _, [], _, _, q => q
  | _ :: _, _, _ :: _, _, h, q => ⟨h.1, AllAt.append h.2 q⟩
  | [], _, _ :: _, _, h, _ => h.elim
  | _ :: _, _, [], _, h, _ => h.elim
structure MkD where
  mr : Str
  md : Str
  dn : List Str
  up : List Str
structure PtD where
  nm : Str
  vars : List Var
  cs : List Tri
structure RlD where
  p : PtD
  g : Tri
  bh : Str
def MkAt (K : PySem.W.Frag) (B : Addr) (H : Hp) (a : Addr) (m : MkD) : Prop := ∃ d t1 t2, H a = some (.ins B d (makF m.mr m.md t1 t2)) ∧ SqT K H t1 (m.dn.map V.str) ∧ SqT K H t2 (m.up.map V.str)
def BrAt (K : PySem.W.Frag) (B : Addr) (H : Hp) (a : Addr) (b : PtD) : Prop := ∃ d t1 t2 ps qs, H a = some (.ins B d (barF b.nm t1 t2)) ∧ SqT K H t1 (ps.map V.ref) ∧ RowsAt K H ps (b.vars.map varV) ∧ SqT K H t2 (qs.map V.ref) ∧ RowsAt K H qs (b.cs.map triV)
def RlAt (K : PySem.W.Frag) (B : Addr) (H : Hp) (a : Addr) (r : RlD) : Prop := ∃ d t1 t2 t3 ps qs, H a = some (.ins B d (rulF r.p.nm t1 t2 t3 r.bh)) ∧ SqT K H t1 (ps.map V.ref) ∧ RowsAt K H ps (r.p.vars.map varV) ∧ SqT K H t2 (qs.map V.ref) ∧ RowsAt K H qs (r.p.cs.map triV) ∧ SqT K H t3 (triV r.g)
theorem MkAt.same {K : PySem.W.Frag} {B : Addr} {H H' : Hp} {a : Addr} {m : MkD} (s : Same H H') (h : MkAt K B H a m) : MkAt K B H' a m := by
  obtain ⟨d, t1, t2, x, y, z⟩ := h
  exact ⟨d, t1, t2, s _ _ x, same_seqT s y, same_seqT s z⟩
theorem BrAt.same {K : PySem.W.Frag} {B : Addr} {H H' : Hp} {a : Addr} {b : PtD} (s : Same H H') (h : BrAt K B H a b) : BrAt K B H' a b := by
  obtain ⟨d, t1, t2, ps, qs, x, y, z, u, v⟩ := h
  exact ⟨d, t1, t2, ps, qs, s _ _ x, same_seqT s y, z.same s, same_seqT s u, v.same s⟩
theorem RlAt.same {K : PySem.W.Frag} {B : Addr} {H H' : Hp} {a : Addr} {r : RlD} (s : Same H H') (h : RlAt K B H a r) : RlAt K B H' a r := by
  obtain ⟨d, t1, t2, t3, ps, qs, x, y, z, u, v, w⟩ := h
  exact ⟨d, t1, t2, t3, ps, qs, s _ _ x, same_seqT s y, z.same s, same_seqT s u, v.same s, same_seqT s w⟩
/-! ### pairs that do not stand twice -/
def prV (p : Str × Str) : List V := [.str p.1, .str p.2]
def prD (p : Str × Str) : PyData := .tuple [.str p.1, .str p.2]
theorem prD_eqv (a b : Str × Str) : PyData.eqv (prD a) (prD b) = decide (a = b) := by
  obtain ⟨a1, a2⟩ := a
  obtain ⟨b1, b2⟩ := b
  simp only [prD, PyData.eqv, PyData.eqvAll, Prod.mk.injEq]
  by_cases h1 : a1 = b1 <;> by_cases h2 : a2 = b2 <;> simp [h1, h2]
theorem u65 {k : Nat} {A : Around} (r : Room k A) : A.units + 65 < cLine := by
  have := r.un
  omega
theorem prs_dp {K : PySem.W.Frag} {H : Hp} : ∀ {qs : List Addr} {ps : List (Str × Str)}, RowsAt K H qs (ps.map prV) → DpAll K H (qs.map V.ref) (ps.map prD)
  | [], [], _ => .nil
  | _ :: _, _ :: _, h => .cons (.tup h.1 (.cons (.str _) (.cons (.str _) .nil))) (prs_dp h.2)
  | [], _ :: _, h => h.elim
  | _ :: _, [], h => h.elim
theorem prs_sh : ∀ {ps : List (Str × Str)}, (∀ p ∈ ps, okS p.1 ∧ okS p.2) → PyData.canLayAll0 (ps.map prD) = true ∧ PyData.depthAll (ps.map prD) ≤ 2
  | [], _ => by simp [PyData.canLayAll0, PyData.depthAll]
  | p :: r, h => by
    obtain ⟨a, b⟩ := h p List.mem_cons_self
    obtain ⟨h2, h3⟩ := prs_sh (ps := r) fun y hy => h y (List.mem_cons_of_mem _ hy)
    have sa := strOk_of a
    have sb := strOk_of b
    have e : (prD p).canLay0 = true := by simp [prD, PyData.canLay0, PyData.canLayAll0, sa, sb]
    have d : (prD p).depth ≤ 2 := by simp [prD, PyData.depth, PyData.depthAll]
    refine ⟨by simp only [List.map_cons, PyData.canLayAll0, e, h2, Bool.and_self], ?_⟩
    simp only [List.map_cons, PyData.depthAll]
    omega
theorem rows_imp {K : PySem.W.Frag} {H H' : Hp} (s : ∀ {q : Addr} {xs : List V}, SqT K H q xs → SqT K H' q xs) : ∀ {ps : List Addr} {rs : List (List V)}, RowsAt K H ps rs → RowsAt K H' ps rs
  | [], [], _ => True.intro
  | _ :: _, _ :: _, h => ⟨s h.1, rows_imp s h.2⟩
  | [], _ :: _, h => h.elim
  | _ :: _, [], h => h.elim
def spFT2 (K : PySem.W.Frag) : Sp := fun vs H Q _ => ∃ (l : Addr) (qs : List Addr) (ps : List (Str × Str)), vs = [.ref l] ∧ SqL K H l (qs.map V.ref) ∧ RowsAt K H qs (ps.map prV) ∧ ps.Nodup ∧ (∀ p ∈ ps, okS p.1 ∧ okS p.2) ∧ ∀ H', Same H H' → Q .non H'
def spRMT (K : PySem.W.Frag) (B : Addr) : Sp := fun vs H Q _ => ∃ (m : Addr) (as : List Addr) (ms : List MkD), vs = [.ref m] ∧ SqL K H m (as.map V.ref) ∧ AllAt (MkAt K B H) as ms ∧ ms.length ≤ 1000 ∧ (ms.map fun x => (x.mr, x.md)).Nodup ∧ (∀ x ∈ ms, okS x.mr ∧ okS x.md) ∧ ∀ H', Same H H' → Q .non H'
section
variable {P : Program} {w : World} {K : PySem.W.Frag} {mg : Str → Option Value} {base : Heap}
theorem ok_ft2 {f : Addr} {fd : FuncData} (F : Fun K "first_twice" "first_twice" sFT f fd) (T : TxB mg) : FnOk P w K mg base CX0 1 f fd ["row"] (spFT2 K) := by
  refine F.ok scFT (fun vs H Q E h => ?_) (fun cdv A outer s H vs Q E hr h => ?_)
  · obtain ⟨l, qs, ps, rfl, _⟩ := h
    rfl
  · obtain ⟨l, qs, ps, rfl, hl, hq, hnd, hok, k⟩ := h
    refine ⟨_, (pss_cons (ps_for PassesOwn.never rfl (pi_enum rfl T.enumerate (pa_cons (pv 0) pa_nil)) (pg_tup rfl (pgs_cons (pg_name (i := 1) scFT.nd rfl (Or.inl rfl)) (pgs_cons (pg_name (i := 2) scFT.nd rfl (Or.inl rfl)) pgs_nil))) (pss_one (ps_if (pt_cmpR (op_inD (u65 hr)) (pv 2) (pe_slice sl_list (pv 0) po_none (po_some (pv 1))) (by rfl)) (pss_one (ps_ret (pv 1))) pss_nil)))
      (pss_one (ps_ret pe_non))), ?_⟩
    refine ⟨_, rfl, l, _, rfl, hl, for_it walk_enum (fun i σ H' => (∃ u v, σ = [some (.ref l), u, v]) ∧ Same H H') ⟨⟨none, none, rfl⟩, Same.refl H⟩ (fun i σ H' _ p => p.2.seq hl) ?_ ?_⟩
    · rintro i x σ H1 H2 hi ⟨⟨u, v, rfl⟩, hS⟩ ⟨t, y, z, rfl, ht, rfl, e1, e2⟩
      cases e1
      refine ⟨t, _, rfl, SqT.of upd_same, rfl, _, _, rfl, _, _, rfl, rfl, ?_⟩
      have S2 := hS.trans (Same.upd (o := .tup [.int (i : Nat), z]) ht)
      have e2 : (qs.map V.ref)[i]? = some z := e2
      rw [List.getElem?_map] at e2
      obtain ⟨q, hqi, rfl⟩ := Option.map_eq_some_iff.mp e2
      obtain ⟨r, hri, hqt⟩ := hq.get hqi
      rw [List.getElem?_map] at hri
      obtain ⟨p, hpi, rfl⟩ := Option.map_eq_some_iff.mp hri
      refine ⟨_, rfl, _, rfl, _, rfl, _, rfl, l, _, rfl, S2.seq hl, fun c hc => ?_⟩
      rw [show cutV (qs.map V.ref) none (some (i : Int)) = (qs.take i).map V.ref by rw [cut_take, List.map_take]]
      have S3 := S2.trans (Same.upd (o := .lst ((qs.take i).map V.ref)) hc)
      have hrow : RowsAt K (upd (upd H1 t (.tup [.int (i : Nat), .ref q])) c (.lst ((qs.take i).map V.ref))) (qs.take i) ((ps.take i).map prV) := by
        have e := (hq.same S3).take i
        rw [← List.map_take] at e
        exact e
      obtain ⟨l1, l2⟩ := prs_sh (ps := ps.take i) fun p hp => hok p (List.mem_of_mem_take hp)
      have shl : SeqAt.shaped (.list ((ps.take i).map prD)) = true := by
        generalize (ps.take i).map prD = X at l1 l2
        simp [SeqAt.shaped, PyData.canLay0, PyData.depth, l1]
        omega
      have shp : SeqAt.shaped (prD p) = true := by
        obtain ⟨a, b⟩ := hok p (List.mem_of_getElem? hpi)
        have sa := strOk_of a
        have sb := strOk_of b
        simp [prD, SeqAt.shaped, PyData.canLay0, PyData.canLayAll0, PyData.depth, PyData.depthAll, sa, sb]
      refine ⟨prD p, _, .tup (same_seqT S3 hqt) (.cons (.str _) (.cons (.str _) .nil)), .lst (SqL.of upd_same) (prs_dp hrow), shp, shl, _, rfl, ?_⟩
      have no : ((ps.take i).map prD).any (fun z => PyData.eqv z (prD p)) = false := by
        rw [List.any_map, List.any_eq_false]
        intro y hy
        show ¬ PyData.eqv (prD y) (prD p) = true
        rw [prD_eqv]
        intro e
        have e := of_decide_eq_true e
        subst e
        obtain ⟨j, hj⟩ := List.mem_iff_getElem?.mp hy
        have hlt : j < i := by
          have q := (List.getElem?_eq_some_iff.mp hj).1
          rw [List.length_take] at q
          omega
        rw [List.getElem?_take_of_lt hlt] at hj
        have hjl := (List.getElem?_eq_some_iff.mp hj).1
        have hil := (List.getElem?_eq_some_iff.mp hpi).1
        exact (List.pairwise_iff_getElem.mp hnd) j i hjl hil hlt ((List.getElem?_eq_some_iff.mp hj).2.trans (List.getElem?_eq_some_iff.mp hpi).2.symm)
      rw [no]
      exact iteF ⟨⟨_, _, rfl⟩, S3⟩
    · rintro σ H' ⟨_, hS⟩
      exact k H' hS
theorem scRMT : FnScope ["makings", "pairs", "place", "making"] ["makings"] (defScope sRMT) := ⟨rfl, rfl, rfl, by decide +kernel, rfl, by decide +kernel, by decide +kernel⟩
theorem ok_rmt {f fF B fB : Addr} {fd fdF : FuncData} (F : Fun K "refuse_makings_twice" "refuse_makings_twice" sRMT f fd) (T : TxB mg) (TM : TxMak K mg B fB) (D : Dn K mg "first_twice" sFT ["row"] fF fdF) : FnOk P w K mg base CX0 2 f fd ["makings"] (spRMT K B) := by
  have G : FnOk P w K mg base CX0 1 fF fdF ["row"] (spFT2 K) := ok_ft2 D.F T
  refine F.ok scRMT (fun vs H Q E h => ?_) (fun cdv A outer s H vs Q E hr h => ?_)
  · obtain ⟨m, as, ms, rfl, _⟩ := h
    rfl
  · obtain ⟨m, as, ms, rfl, hm, hms, hl, hnd, hok, k⟩ := h
    refine ⟨_, (pss_cons (ps_setLc (i := 1) (own := [("making", 3)]) (g := gName 3) (te := tTup (tCons (tFld K (tVar 3) "maker") (tCons (tFld K (tVar 3) "made") tNil))) rfl scRMT.nd rfl rfl (sw_true rfl rfl rfl (by decide +kernel)) (pi_list (pv 0)) (blkOk_by (N := ["makings", "pairs", "place", "making"]) (sc := defScope sRMT) (by decide +kernel)) (fun _ _ _ _ _ => (pg_name (i := 3) scRMT.nd rfl (Or.inl rfl))) (fun _ _ _ _ _ => pts_nil) (fun _ _ _ _ _ => (pe_tup (pa_cons (pe_fld (pv 3) rfl) (pa_cons (pe_fld (pv 3) rfl) pa_nil)))))
      (pss_cons (ps_set (i := 2) scRMT.nd rfl (Or.inl rfl) (pe_call G hr rfl D.g D.F.kp D.b .nil pass0 (pa_cons (pv 1) pa_nil)))
      (pss_one (ps_if (pt_cmp (pc_notN (pv 2))) (pss_one ps_never) pss_nil)))), ?_⟩
    refine ⟨_, rfl, m, rfl, ⟨_, hm⟩, fun D' hD => ?_⟩
    refine lc_list (K := K) (a := m) (xs := as.map V.ref) (fun i H' => Same H H' ∧ ∃ qs : List Addr, H' D' = some (.lst (qs.map V.ref)) ∧ qs.length = i ∧ RowsAt K H' qs (((ms.map fun x => (x.mr, x.md)).take i).map prV)) ⟨Same.upd hD, [], upd_same, rfl, True.intro⟩ (fun i H' _ p => p.1.seq hm) ?_ ?_
    · rintro i x H' hi ⟨hS, qs, hq, hql, hrow⟩
      obtain ⟨a, y, rfl, hy, hat⟩ := hms.get hi
      obtain ⟨d, t1, t2, ha, _, _⟩ := MkAt.same hS hat
      refine ⟨rfl, ?_⟩
      refine ⟨_, rfl, a, B, d, _, _, rfl, ha, TM.cl, TM.nk, makF_maker _ _ _ _, ?_⟩
      refine ⟨_, rfl, a, B, d, _, _, rfl, ha, TM.cl, TM.nd, makF_made _ _ _ _, ?_⟩
      refine ⟨by show 2 ≤ sizeLine; decide, fun t ht => ?_⟩
      have nt : t ≠ D' := (ne_of_none hq ht).symm
      have il : i < ms.length := (List.getElem?_eq_some_iff.mp hy).1
      refine ⟨_, Same.upd ht _ _ hq, ?_, ?_, qs ++ [t], ?_, ?_, ?_⟩
      · rw [List.length_map]
        exact Nat.lt_of_le_of_lt (show qs.length ≤ 1000 by omega) (by decide)
      · intro b o h
        rw [upd_ne (ne_of_none h hD)]
        exact Same.upd ht _ _ (hS b o h)
      · rw [upd_same, List.map_append]
        rfl
      · rw [List.length_append, List.length_singleton]
        omega
      · rw [List.take_add_one, List.getElem?_map, hy, List.map_append]
        have B' : But D' (upd H' t (.tup [.str y.mr, .str y.md])) (upd (upd H' t (.tup [.str y.mr, .str y.md])) D' (.lst (qs.map V.ref ++ [.ref t]))) := But.upd
        have keep : ∀ {q : Addr} {xs : List V}, SqT K (upd H' t (.tup [.str y.mr, .str y.md])) q xs → SqT K (upd (upd H' t (.tup [.str y.mr, .str y.md])) D' (.lst (qs.map V.ref ++ [.ref t]))) q xs := fun {q xs} h => by
          have hp : (upd H' t (.tup [.str y.mr, .str y.md])) D' = some (.lst (qs.map V.ref)) := Same.upd ht _ _ hq
          rcases h with (h | ⟨u, h⟩) | h
          · exact .inl (.inl (B' _ _ (ne_of h hp (by intro z; cases z)) h))
          · exact .inl (.inr ⟨u, B' _ _ (ne_of h hp (by intro z; cases z)) h⟩)
          · exact .inr h
        have r1 : RowsAt K (upd H' t (.tup [.str y.mr, .str y.md])) (qs ++ [t]) (((ms.map fun x => (x.mr, x.md)).take i).map prV ++ [prV (y.mr, y.md)]) := (hrow.same (Same.upd ht)).append ⟨SqT.of upd_same, True.intro⟩
        exact rows_imp keep r1
    · rintro H' ⟨hS, qs, hq, hql, hrow⟩
      rw [List.length_map, hms.len] at hql
      rw [List.length_map, hms.len, List.take_of_length_le (by rw [List.length_map]; exact Nat.le_refl _)] at hrow
      dsimp only [List.set_cons_succ, List.set_cons_zero]
      refine ⟨_, rfl, D', qs, _, rfl, SqL.of hq, hrow, hnd, fun p hp => ?_, fun H2 S2 => ?_⟩
      · obtain ⟨x, hx, rfl⟩ := List.mem_map.mp hp
        exact hok x hx
      · refine ⟨_, rfl, _, rfl, ?_⟩
        exact iteF (k _ (hS.trans S2))
end
end Wm
namespace Wm
open PySem L2 StX
/-- what a pattern's variables are, be it a rule or a bar -/
def PvAt (K : PySem.W.Frag) (H : Hp) (a : Addr) (vars : List Var) : Prop := ∃ C d fs t1 ps, H a = some (.ins C d fs) ∧ Cls K C ∧ NoAttr K C "variables" ∧ fs.lookup ("variables" : Str) = some (.ref t1) ∧ SqT K H t1 (ps.map V.ref) ∧ RowsAt K H ps (vars.map varV)
theorem PvAt.same {K : PySem.W.Frag} {H H' : Hp} {a : Addr} {v : List Var} (s : Same H H') (h : PvAt K H a v) : PvAt K H' a v := by
  obtain ⟨C, d, fs, t1, ps, a1, a2, a3, a4, a5, a6⟩ := h
  exact ⟨C, d, fs, t1, ps, s _ _ a1, a2, a3, a4, same_seqT s a5, a6.same s⟩
def spRNS (K : PySem.W.Frag) (B : Addr) : Sp := fun vs H Q _ => ∃ (s m p : Addr) (ss : List Str) (as bs : List Addr) (ms : List MkD) (vv : List (List Var)), vs = [.ref s, .ref m, .ref p] ∧ SqL K H s (ss.map V.str) ∧ SqL K H m (as.map V.ref) ∧ AllAt (MkAt K B H) as ms ∧ SqL K H p (bs.map V.ref) ∧ AllAt (PvAt K H) bs vv ∧ ms.length ≤ 1000 ∧ vv.length ≤ 1000 ∧ (∀ v ∈ vv, v.length ≤ 4) ∧ (∀ x ∈ ms, x.mr ∈ ss ∧ x.md ∈ ss) ∧ (∀ v ∈ vv, ∀ y ∈ v, ∀ z, y.2 = some z → z ∈ ss) ∧ ∀ H', Same H H' → Q .non H'
def spRU (K : PySem.W.Frag) (B : Addr) : Sp := fun vs H Q _ => ∃ (s m : Addr) (ss : List Str) (as : List Addr) (ms : List MkD), vs = [.ref s, .ref m] ∧ SqL K H s (ss.map V.str) ∧ SqL K H m (as.map V.ref) ∧ AllAt (MkAt K B H) as ms ∧ ss.Nodup ∧ (∀ x ∈ ms, ∃ i j : Nat, i < j ∧ ss[i]? = some x.mr ∧ ss[j]? = some x.md) ∧ Q .non H
theorem flat_of (zs : List Str) : (zs.map V.str).all flatV = true := by
  rw [List.all_map]
  exact List.all_eq_true.mpr fun _ _ => rfl
theorem idx_first {ss : List Str} {i m : Nat} {x z : Str} (nd : ss.Nodup) (hi : ss[i]? = some x) (hm : m < i) (hz : ss[m]? = some z) : eqV (.str z) (.str x) = false := by
  have hne : z ≠ x := fun e => by
    subst e
    have a := List.getElem?_eq_some_iff.mp hi
    have b := List.getElem?_eq_some_iff.mp hz
    exact (List.pairwise_iff_getElem.mp nd) m i b.1 a.1 hm (b.2.trans a.2.symm)
  unfold eqV
  simp [hne]
section
variable {P : Program} {w : World} {K : PySem.W.Frag} {mg : Str → Option Value} {base : Heap}
theorem scRU : FnScope ["sorts", "makings", "making"] ["sorts", "makings"] (defScope sRU) := ⟨rfl, rfl, rfl, by decide +kernel, rfl, by decide +kernel, by decide +kernel⟩
theorem ok_ru {f B fB : Addr} {fd : FuncData} (F : Fun K "refuse_upward" "refuse_upward" sRU f fd) (TM : TxMak K mg B fB) : FnOk P w K mg base CX0 1 f fd ["sorts", "makings"] (spRU K B) := by
  refine F.ok scRU (fun vs H Q E h => ?_) (fun cdv A outer s H vs Q E hr h => ?_)
  · obtain ⟨s, m, ss, as, ms, rfl, _⟩ := h
    rfl
  · obtain ⟨s, m, ss, as, ms, rfl, hs, hm, hms, nd, hx, k⟩ := h
    refine ⟨_, (pss_one (ps_for PassesOwn.never rfl (pi_list (pv 1)) (pg_name (i := 2) scRU.nd rfl (Or.inl rfl)) (pss_one (ps_if (pt_cmpR op_le (pe_bm PySem.F.plainAttrs_list PySem.F.slot_list_index PySem.F.type_list_index mt_index (pv 0) (pa_cons (pe_fld (pv 2) rfl) pa_nil)) (pe_bm PySem.F.plainAttrs_list PySem.F.slot_list_index PySem.F.type_list_index mt_index (pv 0) (pa_cons (pe_fld (pv 2) rfl) pa_nil)) (nomark _)) (pss_one ps_never) pss_nil)))), ?_⟩
    refine ⟨_, rfl, m, rfl, ⟨_, hm⟩, for_list (K := K) (a := m) (xs := as.map V.ref) (fun i σ H' => (∃ v, σ = [some (.ref s), some (.ref m), v]) ∧ H' = H) ⟨⟨none, rfl⟩, rfl⟩ (fun i σ H' _ p => by rw [p.2]; exact hm) ?_ (fun σ H' p => by rw [p.2]; exact k)⟩
    rintro i y σ H' hi ⟨⟨v, rfl⟩, rfl⟩
    obtain ⟨a, x, rfl, hxi, hat⟩ := hms.get hi
    obtain ⟨d, t1, t2, ha, _, _⟩ := hat
    obtain ⟨p, q, hpq, hp, hq⟩ := hx x (List.mem_of_getElem? hxi)
    have gp : (ss.map V.str)[p]? = some (.str x.mr) := by rw [List.getElem?_map, hp]; rfl
    have gq : (ss.map V.str)[q]? = some (.str x.md) := by rw [List.getElem?_map, hq]; rfl
    have first : ∀ {n : Nat} {z0 : Str}, ss[n]? = some z0 → ∀ (m : Nat) (z' : V), m < n → (ss.map V.str)[m]? = some z' → eqV z' (.str z0) = false := fun {n z0} hn m z' hm hz => by
      rw [List.getElem?_map] at hz
      obtain ⟨z, hz2, rfl⟩ := Option.map_eq_some_iff.mp hz
      exact idx_first nd hn hm hz2
    dsimp only [gName, List.set_cons_succ, List.set_cons_zero]
    refine ⟨_, rfl, .inl ⟨rfl, _, hs⟩, _, rfl, a, B, d, _, _, rfl, ha, TM.cl, TM.nd, makF_made _ _ _ _, ?_⟩
    refine ⟨s, _, .str x.md, q, .str x.md, rfl, rfl, hs, rfl, flat_of ss, gq, by unfold eqV; simp, first hq, ?_⟩
    refine ⟨_, rfl, .inl ⟨rfl, _, hs⟩, _, rfl, a, B, d, _, _, rfl, ha, TM.cl, TM.nk, makF_maker _ _ _ _, ?_⟩
    refine ⟨s, _, .str x.mr, p, .str x.mr, rfl, rfl, hs, rfl, flat_of ss, gp, by unfold eqV; simp, first hp, ?_⟩
    refine ⟨_, _, rfl, rfl, _, rfl, ?_⟩
    exact ite2 (fun z => absurd (of_decide_eq_true z) (by omega)) (fun _ => ⟨⟨_, rfl⟩, rfl⟩)
theorem scRNS : FnScope ["sorts", "makings", "patterns", "asked", "making", "pattern", "name", "variable", "sort"] ["sorts", "makings", "patterns"] (defScope sRNS) := ⟨rfl, rfl, rfl, by decide +kernel, rfl, by decide +kernel, by decide +kernel⟩
theorem ok_rns {f B fB : Addr} {fd : FuncData} (F : Fun K "refuse_no_sort" "refuse_no_sort" sRNS f fd) (TM : TxMak K mg B fB) : FnOk P w K mg base CX0 1 f fd ["sorts", "makings", "patterns"] (spRNS K B) := by
  refine F.ok scRNS (fun vs H Q E h => ?_) (fun cdv A outer s H vs Q E hr h => ?_)
  · obtain ⟨s, m, p, ss, as, bs, ms, vv, rfl, _⟩ := h
    rfl
  · obtain ⟨s, m, p, ss, as, bs, ms, vv, rfl, hs, hm, hms, hp, hvv, ml, vl, v4, hx, hy, k⟩ := h
    refine ⟨_, (pss_cons (ps_set (i := 3) scRNS.nd rfl (Or.inl rfl) (pe_lst pa_nil))
      (pss_cons (ps_for PassesOwn.never rfl (pi_list (pv 1)) (pg_name (i := 4) scRNS.nd rfl (Or.inl rfl)) (pss_one (ps_expr (pe_bm PySem.F.plainAttrs_list PySem.F.slot_list_extend PySem.F.type_list_extend mt_extend (pv 3) (pa_cons (pe_lst (pa_cons (pe_fld (pv 4) rfl) (pa_cons (pe_fld (pv 4) rfl) pa_nil))) pa_nil)))))
      (pss_cons (ps_for PassesOwn.never rfl (pi_list (pv 2)) (pg_name (i := 5) scRNS.nd rfl (Or.inl rfl)) (pss_one (ps_expr (pe_bm PySem.F.plainAttrs_list PySem.F.slot_list_extend PySem.F.type_list_extend mt_extend (pv 3) (pa_cons (pe_lc (own := [("variable", 7), ("sort", 8)]) (g := gTup K 2 (gCons (gName 7) (gCons (gName 8) gNil))) rfl scRNS.nd (pi_tup (pe_fld (pv 5) rfl)) (blkOk_by (N := ["sorts", "makings", "patterns", "asked", "making", "pattern", "name", "variable", "sort"]) (sc := defScope sRNS) (by decide +kernel)) (fun _ _ _ _ _ => (pg_tup rfl (pgs_cons (pg_name (i := 7) scRNS.nd rfl (Or.inl rfl)) (pgs_cons (pg_name (i := 8) scRNS.nd rfl (Or.inl rfl)) pgs_nil)))) (fun _ _ _ _ _ => (pts_one (pt_cmp (pc_notN (pv 8))))) (fun _ _ _ _ _ => (pv 8))) pa_nil)))))
      (pss_one (ps_for PassesOwn.never rfl (pi_list (pv 3)) (pg_name (i := 6) scRNS.nd rfl (Or.inl rfl)) (pss_one (ps_if (pt_cmpR op_notIn_seq (pv 6) (pv 0) (by rfl)) (pss_one ps_never) pss_nil))))))), ?_⟩
    refine ⟨Nat.zero_le _, fun d hd => ?_⟩
    dsimp only [List.set_cons_succ, List.set_cons_zero]
    have Sd : ∀ {H1 : Hp} {o : HO}, Same H H1 → Same H (upd H1 d o) := fun hs b o e => by
      rw [upd_ne (ne_of_none e hd)]
      exact hs b o e
    have S0 : Same H (upd H d (.lst [])) := Same.upd hd
    refine ⟨_, rfl, m, rfl, ⟨_, S0.seq hm⟩, for_list (K := K) (a := m) (xs := as.map V.ref) (fun i σ H' => (∃ v, σ = [some (.ref s), some (.ref m), some (.ref p), some (.ref d), v, none, none, none, none]) ∧ Same H H' ∧ ∃ zs : List Str, H' d = some (.lst (zs.map V.str)) ∧ zs.length ≤ 2 * i ∧ ∀ z ∈ zs, z ∈ ss) ⟨⟨none, rfl⟩, S0, [], upd_same, Nat.le_refl _, fun z hz => (List.not_mem_nil hz).elim⟩ (fun i σ H' _ p => p.2.1.seq hm) ?_ ?_⟩
    · rintro i y σ H' hi ⟨⟨v, rfl⟩, hS, zs, hz, zl, zo⟩
      obtain ⟨a, x, rfl, hxi, hat⟩ := hms.get hi
      obtain ⟨d', t1, t2, ha, _, _⟩ := MkAt.same hS hat
      have il : i < ms.length := (List.getElem?_eq_some_iff.mp hxi).1
      have ox := hx x (List.mem_of_getElem? hxi)
      dsimp only [gName, List.set_cons_succ, List.set_cons_zero]
      refine ⟨_, rfl, .inl ⟨rfl, _, SqL.of hz⟩, _, rfl, a, B, d', _, _, rfl, ha, TM.cl, TM.nk, makF_maker _ _ _ _, _, rfl, a, B, d', _, _, rfl, ha, TM.cl, TM.nd, makF_made _ _ _ _, by show 2 ≤ sizeLine; decide, fun l2 nl2 => ?_⟩
      refine ⟨d, l2, _, _, rfl, rfl, Same.upd nl2 _ _ hz, upd_same, ?_, ⟨_, rfl⟩, Sd (hS.trans (Same.upd nl2)), zs ++ [x.mr, x.md], ?_, ?_, ?_⟩
      · rw [List.length_map]
        exact Nat.le_trans (show zs.length + 2 ≤ 10000 by omega) (by decide)
      · rw [upd_same, List.map_append]
        rfl
      · rw [List.length_append]
        show zs.length + 2 ≤ _
        omega
      · intro z hzm
        rcases List.mem_append.mp hzm with q | q
        · exact zo z q
        · rcases List.mem_cons.mp q with e | q
          · rw [e]; exact ox.1
          · rw [List.mem_singleton.mp q]; exact ox.2
    rintro σ H1 ⟨⟨v, rfl⟩, hS1, zs, hz, zl, zo⟩
    rw [List.length_map, hms.len] at zl
    refine ⟨_, rfl, p, rfl, ⟨_, hS1.seq hp⟩, for_list (K := K) (a := p) (xs := bs.map V.ref) (fun i σ H' => (∃ v u, σ = [some (.ref s), some (.ref m), some (.ref p), some (.ref d), v, u, none, none, none]) ∧ Same H H' ∧ ∃ zs : List Str, H' d = some (.lst (zs.map V.str)) ∧ zs.length ≤ 2 * ms.length + 4 * i ∧ ∀ z ∈ zs, z ∈ ss) ⟨⟨_, none, rfl⟩, hS1, zs, hz, by omega, zo⟩ (fun i σ H' _ p => p.2.1.seq hp) ?_ ?_⟩
    · rintro i y σ H' hi ⟨⟨v, u, rfl⟩, hS, zs, hz, zl, zo⟩
      obtain ⟨a, x, rfl, hxi, hat⟩ := hvv.get hi
      obtain ⟨C, d', fs, t1, ps, ha, hc, hn, hlk, ht, hrow⟩ := PvAt.same hS hat
      have il : i < vv.length := (List.getElem?_eq_some_iff.mp hxi).1
      have xm := List.mem_of_getElem? hxi
      have x4 := v4 x xm
      dsimp only [gName, List.set_cons_succ, List.set_cons_zero]
      refine ⟨_, rfl, .inl ⟨rfl, _, SqL.of hz⟩, _, rfl, a, C, d', _, _, rfl, ha, hc, hn, hlk, t1, rfl, ⟨_, ht⟩, fun D hD => ?_⟩
      have ndD : d ≠ D := ne_of_none hz hD
      refine lc_it walk_tup (fun j G => Same H' G ∧ ∃ us : List Str, G D = some (.lst (us.map V.str)) ∧ us.length ≤ j ∧ ∀ z ∈ us, z ∈ ss) ⟨Same.upd hD, [], upd_same, Nat.le_refl _, fun z hz => (List.not_mem_nil hz).elim⟩ (fun j G _ p => same_seqT p.1 ht) ?_ ?_
      · rintro j x' G G' hj ⟨hSG, us, hu, ul, uo⟩ ⟨rfl, hxj⟩
        obtain ⟨q, hqj, rfl⟩ := map_ref_get hxj
        obtain ⟨r, hrj, hqr⟩ := hrow.get hqj
        obtain ⟨⟨n, so⟩, hvj, rfl⟩ := var_get hrj
        have jl : j < x.length := (List.getElem?_eq_some_iff.mp hvj).1
        refine ⟨q, _, rfl, same_seqT hSG hqr, rfl, _, _, rfl, _, _, rfl, rfl, rfl, ?_⟩
        cases so with
        | none =>
          refine ⟨_, rfl, _, rfl, ?_⟩
          refine iteF ?_
          exact ⟨hSG, us, hu, by omega, uo⟩
        | some z =>
          refine ⟨_, rfl, _, rfl, ?_⟩
          refine iteT ?_
          refine ⟨_, rfl, _, hu, ?_, ?_, us ++ [z], ?_, ?_, ?_⟩
          · rw [List.length_map]
            exact Nat.lt_of_le_of_lt (show us.length ≤ 100 by omega) (by decide)
          · intro b o h
            rw [upd_ne (ne_of_none h hD)]
            exact hSG b o h
          · rw [upd_same, List.map_append]
            rfl
          · rw [List.length_append, List.length_singleton]
            omega
          · intro y hyy
            rcases List.mem_append.mp hyy with q | q
            · exact uo y q
            · rw [List.mem_singleton.mp q]
              exact hy x xm (n, some z) (List.mem_of_getElem? hvj) z rfl
      · rintro G ⟨hSG, us, hu, ul, uo⟩
        have ul4 : us.length ≤ 4 := by
          rw [List.length_map, hrow.len, List.length_map] at ul
          omega
        refine ⟨d, D, _, _, rfl, rfl, hSG _ _ hz, hu, ?_, ⟨_, _, rfl⟩, Sd (hS.trans hSG), zs ++ us, ?_, ?_, ?_⟩
        · rw [List.length_map, List.length_map]
          exact Nat.le_trans (show zs.length + us.length ≤ 10000 by omega) (by decide)
        · rw [upd_same, List.map_append]
        · rw [List.length_append]
          omega
        · intro z hzm
          rcases List.mem_append.mp hzm with q | q
          · exact zo z q
          · exact uo z q
    rintro σ H2 ⟨⟨v, u, rfl⟩, hS2, zs, hz, zl, zo⟩
    refine ⟨_, rfl, d, rfl, ⟨_, SqL.of hz⟩, for_list (K := K) (a := d) (xs := zs.map V.str) (fun i σ H' => (∃ v u t, σ = [some (.ref s), some (.ref m), some (.ref p), some (.ref d), v, u, t, none, none]) ∧ H' = H2) ⟨⟨_, _, none, rfl⟩, rfl⟩ (fun i σ H' _ p => by rw [p.2]; exact SqL.of hz) ?_ (fun σ H' p => by rw [p.2]; exact k _ hS2)⟩
    rintro i y σ H' hi ⟨⟨v, u, t, rfl⟩, rfl⟩
    rw [List.getElem?_map] at hi
    obtain ⟨z, hzi, rfl⟩ := Option.map_eq_some_iff.mp hi
    dsimp only [gName, List.set_cons_succ, List.set_cons_zero]
    refine ⟨_, rfl, _, rfl, s, _, rfl, .inl (hS2.seq hs), rfl, flat_of ss, _, rfl, ?_⟩
    show if (!inV (.str z) (ss.map V.str)) = true then _ else _
    rw [inV_strs, decide_eq_true (zo z (List.mem_of_getElem? hzi))]
    exact iteF ⟨⟨_, _, _, rfl⟩, rfl⟩
end
end Wm
namespace Wm
open PySem L2 StX
def spRNW (K : PySem.W.Frag) (MB RB BB : Addr) : Sp := fun vs H Q _ => ∃ (w m r b : Addr) (ws : List Str) (as bs cs : List Addr) (ms : List MkD) (rs : List RlD) (ps : List PtD), vs = [.ref w, .ref m, .ref r, .ref b] ∧ SqL K H w (ws.map V.str) ∧ SqL K H m (as.map V.ref) ∧ AllAt (MkAt K MB H) as ms ∧ SqL K H r (bs.map V.ref) ∧ AllAt (RlAt K RB H) bs rs ∧ SqL K H b (cs.map V.ref) ∧ AllAt (BrAt K BB H) cs ps ∧
  ms.length ≤ 1000 ∧ rs.length ≤ 1000 ∧ ps.length ≤ 1000 ∧ (∀ x ∈ ms, x.dn.length ≤ 100 ∧ x.up.length ≤ 100) ∧ (∀ x ∈ rs, x.p.cs.length ≤ 3) ∧ (∀ x ∈ ps, x.cs.length ≤ 3) ∧ (∀ x ∈ ms, (∀ z ∈ x.dn, z ∈ ws) ∧ ∀ z ∈ x.up, z ∈ ws) ∧ (∀ x ∈ rs, (∀ t ∈ x.p.cs, t.2.1 ∈ ws) ∧ x.g.2.1 ∈ ws) ∧ (∀ x ∈ ps, ∀ t ∈ x.cs, t.2.1 ∈ ws) ∧ ∀ H', Same H H' → Q .non H'
section
variable {P : Program} {w : World} {K : PySem.W.Frag} {mg : Str → Option Value} {base : Heap}
theorem scRNW : FnScope ["words", "makings", "rules", "bars", "asked", "making", "rule", "bar", "name", "x", "word", "y"] ["words", "makings", "rules", "bars"] (defScope sRNW) := ⟨rfl, rfl, rfl, by decide +kernel, rfl, by decide +kernel, by decide +kernel⟩
theorem ok_rnw {f MB fM RB fR BB fB : Addr} {fd : FuncData} (F : Fun K "refuse_no_word" "refuse_no_word" sRNW f fd) (TM : TxMak K mg MB fM) (TR : TxRul K mg RB fR) (TB : TxBar K mg BB fB) : FnOk P w K mg base CX0 1 f fd ["words", "makings", "rules", "bars"] (spRNW K MB RB BB) := by
  refine F.ok scRNW (fun vs H Q E h => ?_) (fun cdv A outer s H vs Q E hr h => ?_)
  · obtain ⟨w, m, r, b, ws, as, bs, cs, ms, rs, ps, rfl, _⟩ := h
    rfl
  · obtain ⟨w, m, r, b, ws, as, bs, cs, ms, rs, ps, rfl, hw, hm, hms, hr', hrs, hb, hps, ml, rl, pl, m1, r1, p1, mo, ro, po, k⟩ := h
    refine ⟨_, (pss_cons (ps_set (i := 4) scRNW.nd rfl (Or.inl rfl) (pe_lst pa_nil))
      (pss_cons (ps_for PassesOwn.never rfl (pi_list (pv 1)) (pg_name (i := 5) scRNW.nd rfl (Or.inl rfl)) (pss_one (ps_expr (pe_bm PySem.F.plainAttrs_list PySem.F.slot_list_extend PySem.F.type_list_extend mt_extend (pv 4) (pa_cons (pe_lst (pa_star (pe_fld (pv 5) rfl) (pa_star (pe_fld (pv 5) rfl) pa_nil))) pa_nil)))))
      (pss_cons (ps_for PassesOwn.never rfl (pi_list (pv 2)) (pg_name (i := 6) scRNW.nd rfl (Or.inl rfl)) (pss_one (ps_expr (pe_bm PySem.F.plainAttrs_list PySem.F.slot_list_extend PySem.F.type_list_extend mt_extend (pv 4) (pa_cons (pe_lc (own := [("x", 9), ("word", 10), ("y", 11)]) (g := gTup K 3 (gCons (gName 9) (gCons (gName 10) (gCons (gName 11) gNil)))) rfl scRNW.nd (pi_list (pe_lst (pa_star (pe_fld (pv 6) rfl) (pa_cons (pe_fld (pv 6) rfl) pa_nil)))) (blkOk_by (N := ["words", "makings", "rules", "bars", "asked", "making", "rule", "bar", "name", "x", "word", "y"]) (sc := defScope sRNW) (by decide +kernel)) (fun _ _ _ _ _ => (pg_tup rfl (pgs_cons (pg_name (i := 9) scRNW.nd rfl (Or.inl rfl)) (pgs_cons (pg_name (i := 10) scRNW.nd rfl (Or.inl rfl)) (pgs_cons (pg_name (i := 11) scRNW.nd rfl (Or.inl rfl)) pgs_nil))))) (fun _ _ _ _ _ => pts_nil) (fun _ _ _ _ _ => (pv 10))) pa_nil)))))
      (pss_cons (ps_for PassesOwn.never rfl (pi_list (pv 3)) (pg_name (i := 7) scRNW.nd rfl (Or.inl rfl)) (pss_one (ps_expr (pe_bm PySem.F.plainAttrs_list PySem.F.slot_list_extend PySem.F.type_list_extend mt_extend (pv 4) (pa_cons (pe_lc (own := [("x", 9), ("word", 10), ("y", 11)]) (g := gTup K 3 (gCons (gName 9) (gCons (gName 10) (gCons (gName 11) gNil)))) rfl scRNW.nd (pi_tup (pe_fld (pv 7) rfl)) (blkOk_by (N := ["words", "makings", "rules", "bars", "asked", "making", "rule", "bar", "name", "x", "word", "y"]) (sc := defScope sRNW) (by decide +kernel)) (fun _ _ _ _ _ => (pg_tup rfl (pgs_cons (pg_name (i := 9) scRNW.nd rfl (Or.inl rfl)) (pgs_cons (pg_name (i := 10) scRNW.nd rfl (Or.inl rfl)) (pgs_cons (pg_name (i := 11) scRNW.nd rfl (Or.inl rfl)) pgs_nil))))) (fun _ _ _ _ _ => pts_nil) (fun _ _ _ _ _ => (pv 10))) pa_nil)))))
      (pss_one (ps_for PassesOwn.never rfl (pi_list (pv 4)) (pg_name (i := 8) scRNW.nd rfl (Or.inl rfl)) (pss_one (ps_if (pt_cmpR op_notIn_seq (pv 8) (pv 0) (by rfl)) (pss_one ps_never) pss_nil)))))))), ?_⟩
    refine ⟨Nat.zero_le _, fun d hd => ?_⟩
    dsimp only [List.set_cons_succ, List.set_cons_zero]
    have Sd : ∀ {H1 : Hp} {o : HO}, Same H H1 → Same H (upd H1 d o) := fun hs b o e => by
      rw [upd_ne (ne_of_none e hd)]
      exact hs b o e
    have S0 : Same H (upd H d (.lst [])) := Same.upd hd
    -- the words of the makings
    refine ⟨_, rfl, m, rfl, ⟨_, S0.seq hm⟩, for_list (K := K) (a := m) (xs := as.map V.ref) (fun i σ H' => (∃ v, σ = [some (.ref w), some (.ref m), some (.ref r), some (.ref b), some (.ref d), v, none, none, none, none, none, none]) ∧ Same H H' ∧ ∃ zs : List Str, H' d = some (.lst (zs.map V.str)) ∧ zs.length ≤ 200 * i ∧ ∀ z ∈ zs, z ∈ ws) ⟨⟨none, rfl⟩, S0, [], upd_same, Nat.le_refl _, fun z hz => (List.not_mem_nil hz).elim⟩ (fun i σ H' _ p => p.2.1.seq hm) ?_ ?_⟩
    · rintro i y σ H' hi ⟨⟨v, rfl⟩, hS, zs, hz, zl, zo⟩
      obtain ⟨a, x, rfl, hxi, hat⟩ := hms.get hi
      obtain ⟨d', t1, t2, ha, ht1, ht2⟩ := MkAt.same hS hat
      have il : i < ms.length := (List.getElem?_eq_some_iff.mp hxi).1
      have xm := List.mem_of_getElem? hxi
      have x1 := m1 x xm
      have xo := mo x xm
      dsimp only [gName, List.set_cons_succ, List.set_cons_zero]
      refine ⟨_, rfl, .inl ⟨rfl, _, SqL.of hz⟩, _, rfl, a, MB, d', _, _, rfl, ha, TM.cl, TM.nw, makF_down _ _ _ _, t1, _, rfl, .inl ht1, _, rfl, a, MB, d', _, _, rfl, ha, TM.cl, TM.nu, makF_up _ _ _ _, t2, _, rfl, .inl ht2, ?_⟩
      show (x.dn.map V.str ++ (x.up.map V.str ++ [])).length ≤ sizeLine ∧ _
      rw [show (x.dn.map V.str ++ (x.up.map V.str ++ [])) = (x.dn ++ x.up).map V.str by rw [List.append_nil, List.map_append]]
      refine ⟨Nat.le_trans (show _ ≤ 1000 by rw [List.length_map, List.length_append]; omega) (by decide), fun l2 nl2 => ?_⟩
      refine ⟨d, l2, _, _, rfl, rfl, Same.upd nl2 _ _ hz, upd_same, ?_, ⟨_, rfl⟩, Sd (hS.trans (Same.upd nl2)), zs ++ (x.dn ++ x.up), ?_, ?_, ?_⟩
      · rw [List.length_map, List.length_map, List.length_append]
        exact Nat.le_trans (show _ ≤ 1000000 by omega) (by decide)
      · rw [upd_same]
        simp
      · rw [List.length_append, List.length_append]
        omega
      · intro z hzm
        rcases List.mem_append.mp hzm with q | q
        · exact zo z q
        · rcases List.mem_append.mp q with q | q
          · exact xo.1 z q
          · exact xo.2 z q
    rintro σ H1 ⟨⟨v, rfl⟩, hS1, zs, hz, zl, zo⟩
    rw [List.length_map, hms.len] at zl
    -- those of the rules
    refine ⟨_, rfl, r, rfl, ⟨_, hS1.seq hr'⟩, for_list (K := K) (a := r) (xs := bs.map V.ref) (fun i σ H' => (∃ v u, σ = [some (.ref w), some (.ref m), some (.ref r), some (.ref b), some (.ref d), v, u, none, none, none, none, none]) ∧ Same H H' ∧ ∃ zs : List Str, H' d = some (.lst (zs.map V.str)) ∧ zs.length ≤ 200 * ms.length + 4 * i ∧ ∀ z ∈ zs, z ∈ ws) ⟨⟨_, none, rfl⟩, hS1, zs, hz, by omega, zo⟩ (fun i σ H' _ p => p.2.1.seq hr') ?_ ?_⟩
    · rintro i y σ H' hi ⟨⟨v, u, rfl⟩, hS, zs, hz, zl, zo⟩
      obtain ⟨a, x, rfl, hxi, hat⟩ := hrs.get hi
      obtain ⟨d', t1, t2, t3, us, qs, ha, ht1, hu, ht2, hq, ht3⟩ := RlAt.same hS hat
      have il : i < rs.length := (List.getElem?_eq_some_iff.mp hxi).1
      have xm := List.mem_of_getElem? hxi
      have x1 := r1 x xm
      have xo := ro x xm
      have ql : qs.length = x.p.cs.length := by rw [hq.len, List.length_map]
      dsimp only [gName, List.set_cons_succ, List.set_cons_zero]
      refine ⟨_, rfl, .inl ⟨rfl, _, SqL.of hz⟩, _, rfl, a, RB, d', _, _, rfl, ha, TR.cl, TR.nc, rulF_cond _ _ _ _ _, t2, _, rfl, .inl ht2, _, rfl, a, RB, d', _, _, rfl, ha, TR.cl, TR.ng, rulF_gives _ _ _ _ _, ?_⟩
      show (qs.map V.ref ++ [V.ref t3]).length ≤ sizeLine ∧ _
      rw [show (qs.map V.ref ++ [V.ref t3]) = (qs ++ [t3]).map V.ref by rw [List.map_append]; rfl]
      refine ⟨Nat.le_trans (show _ ≤ 1000 by rw [List.length_map, List.length_append, List.length_singleton]; omega) (by decide), fun l2 nl2 => ?_⟩
      have S2 : Same H' (upd H' l2 (.lst ((qs ++ [t3]).map V.ref))) := Same.upd nl2
      have e2 : (upd H' l2 (.lst ((qs ++ [t3]).map V.ref))) l2 = some (.lst ((qs ++ [t3]).map V.ref)) := upd_same
      have rows : RowsAt K (upd H' l2 (.lst ((qs ++ [t3]).map V.ref))) (qs ++ [t3]) ((x.p.cs ++ [x.g]).map triV) := by
        have e : (x.p.cs ++ [x.g]).map triV = x.p.cs.map triV ++ [triV x.g] := by rw [List.map_append]; rfl
        rw [e]
        exact (hq.same S2).append (show RowsAt K _ [t3] [triV x.g] from ⟨same_seqT S2 ht3, True.intro⟩)
      generalize upd H' l2 (.lst ((qs ++ [t3]).map V.ref)) = G2 at S2 e2 rows
      refine ⟨l2, rfl, ⟨_, SqL.of e2⟩, fun D hD => ?_⟩
      refine lc_it walk_list (fun j G => Same G2 G ∧ G D = some (.lst ((((x.p.cs ++ [x.g]).take j).map (·.2.1)).map V.str))) ⟨Same.upd hD, upd_same⟩ (fun j G _ p => p.1.seq (SqL.of e2)) ?_ ?_
      · rintro j x' G G' hj ⟨hSG, hu'⟩ ⟨rfl, hxj⟩
        obtain ⟨q, hqj, rfl⟩ := map_ref_get hxj
        obtain ⟨rr, hrj, hqr⟩ := rows.get hqj
        obtain ⟨t, htj, rfl⟩ := tri_get hrj
        have jl : j < (x.p.cs ++ [x.g]).length := (List.getElem?_eq_some_iff.mp htj).1
        refine ⟨q, _, rfl, same_seqT hSG hqr, rfl, _, _, rfl, _, _, rfl, _, _, rfl, rfl, rfl, ?_⟩
        refine ⟨_, rfl, _, hu', ?_, ?_, ?_⟩
        · rw [List.length_map, List.length_map, List.length_take]
          rw [List.length_append, List.length_singleton] at jl ⊢
          exact Nat.lt_of_le_of_lt (show _ ≤ 100 by omega) (by decide)
        · intro b o h
          rw [upd_ne (ne_of_none h hD)]
          exact hSG b o h
        · rw [upd_same, List.take_add_one, htj, List.map_append, List.map_append]
          rfl
      · rintro G ⟨hSG, hu'⟩
        rw [List.length_map, rows.len, List.length_map, List.take_length] at hu'
        have hzG := hSG _ _ (S2 _ _ hz)
        refine ⟨d, D, _, _, rfl, rfl, hzG, hu', ?_, ⟨_, _, rfl⟩, Sd ((hS.trans S2).trans hSG), zs ++ (x.p.cs ++ [x.g]).map (·.2.1), ?_, ?_, ?_⟩
        · rw [List.length_map, List.length_map, List.length_map, List.length_append, List.length_singleton]
          exact Nat.le_trans (show _ ≤ 1000000 by omega) (by decide)
        · rw [upd_same]
          simp
        · rw [List.length_append, List.length_map, List.length_append, List.length_singleton]
          omega
        · intro z hzm
          rcases List.mem_append.mp hzm with q | q
          · exact zo z q
          · obtain ⟨t, ht, rfl⟩ := List.mem_map.mp q
            rcases List.mem_append.mp ht with q | q
            · exact xo.1 t q
            · rw [List.mem_singleton.mp q]
              exact xo.2
    rintro σ H2 ⟨⟨v, u, rfl⟩, hS2, zs, hz, zl, zo⟩
    rw [List.length_map, hrs.len] at zl
    -- those of the bars
    refine ⟨_, rfl, b, rfl, ⟨_, hS2.seq hb⟩, for_list (K := K) (a := b) (xs := cs.map V.ref) (fun i σ H' => (∃ v u t, σ = [some (.ref w), some (.ref m), some (.ref r), some (.ref b), some (.ref d), v, u, t, none, none, none, none]) ∧ Same H H' ∧ ∃ zs : List Str, H' d = some (.lst (zs.map V.str)) ∧ zs.length ≤ 200 * ms.length + 4 * rs.length + 4 * i ∧ ∀ z ∈ zs, z ∈ ws) ⟨⟨_, _, none, rfl⟩, hS2, zs, hz, by omega, zo⟩ (fun i σ H' _ p => p.2.1.seq hb) ?_ ?_⟩
    · rintro i y σ H' hi ⟨⟨v, u, t, rfl⟩, hS, zs, hz, zl, zo⟩
      obtain ⟨a, x, rfl, hxi, hat⟩ := hps.get hi
      obtain ⟨d', t1, t2, us, qs, ha, ht1, hu, ht2, hq⟩ := BrAt.same hS hat
      have il : i < ps.length := (List.getElem?_eq_some_iff.mp hxi).1
      have xm := List.mem_of_getElem? hxi
      have x1 := p1 x xm
      have xo := po x xm
      dsimp only [gName, List.set_cons_succ, List.set_cons_zero]
      refine ⟨_, rfl, .inl ⟨rfl, _, SqL.of hz⟩, _, rfl, a, BB, d', _, _, rfl, ha, TB.cl, TB.nc, barF_cond _ _ _, t2, rfl, ⟨_, ht2⟩, fun D hD => ?_⟩
      refine lc_it walk_tup (fun j G => Same H' G ∧ G D = some (.lst (((x.cs.take j).map (·.2.1)).map V.str))) ⟨Same.upd hD, upd_same⟩ (fun j G _ p => same_seqT p.1 ht2) ?_ ?_
      · rintro j x' G G' hj ⟨hSG, hu'⟩ ⟨rfl, hxj⟩
        obtain ⟨q, hqj, rfl⟩ := map_ref_get hxj
        obtain ⟨rr, hrj, hqr⟩ := hq.get hqj
        obtain ⟨t, htj, rfl⟩ := tri_get hrj
        have jl : j < x.cs.length := (List.getElem?_eq_some_iff.mp htj).1
        refine ⟨q, _, rfl, same_seqT hSG hqr, rfl, _, _, rfl, _, _, rfl, _, _, rfl, rfl, rfl, ?_⟩
        refine ⟨_, rfl, _, hu', ?_, ?_, ?_⟩
        · rw [List.length_map, List.length_map, List.length_take]
          exact Nat.lt_of_le_of_lt (show _ ≤ 100 by omega) (by decide)
        · intro b o h
          rw [upd_ne (ne_of_none h hD)]
          exact hSG b o h
        · rw [upd_same, List.take_add_one, htj, List.map_append, List.map_append]
          rfl
      · rintro G ⟨hSG, hu'⟩
        rw [List.length_map, hq.len, List.length_map, List.take_length] at hu'
        refine ⟨d, D, _, _, rfl, rfl, hSG _ _ hz, hu', ?_, ⟨_, _, _, rfl⟩, Sd (hS.trans hSG), zs ++ x.cs.map (·.2.1), ?_, ?_, ?_⟩
        · rw [List.length_map, List.length_map, List.length_map]
          exact Nat.le_trans (show _ ≤ 1000000 by omega) (by decide)
        · rw [upd_same, List.map_append]
        · rw [List.length_append, List.length_map]
          omega
        · intro z hzm
          rcases List.mem_append.mp hzm with q | q
          · exact zo z q
          · obtain ⟨t, ht, rfl⟩ := List.mem_map.mp q
            exact xo t ht
    rintro σ H3 ⟨⟨v, u, t, rfl⟩, hS3, zs, hz, zl, zo⟩
    refine ⟨_, rfl, d, rfl, ⟨_, SqL.of hz⟩, for_list (K := K) (a := d) (xs := zs.map V.str) (fun i σ H' => (∃ v u t n, σ = [some (.ref w), some (.ref m), some (.ref r), some (.ref b), some (.ref d), v, u, t, n, none, none, none]) ∧ H' = H3) ⟨⟨_, _, _, none, rfl⟩, rfl⟩ (fun i σ H' _ p => by rw [p.2]; exact SqL.of hz) ?_ (fun σ H' p => by rw [p.2]; exact k _ hS3)⟩
    rintro i y σ H' hi ⟨⟨v, u, t, n, rfl⟩, rfl⟩
    rw [List.getElem?_map] at hi
    obtain ⟨z, hzi, rfl⟩ := Option.map_eq_some_iff.mp hi
    dsimp only [gName, List.set_cons_succ, List.set_cons_zero]
    refine ⟨_, rfl, _, rfl, w, _, rfl, .inl (hS3.seq hw), rfl, flat_of ws, _, rfl, ?_⟩
    show if (!inV (.str z) (ws.map V.str)) = true then _ else _
    rw [inV_strs, decide_eq_true (zo z (List.mem_of_getElem? hzi))]
    exact iteF ⟨⟨_, _, _, _, rfl⟩, rfl⟩
end
end Wm
namespace Wm
open PySem L2 StX
/-- names in a row, of which the program refuses none -/
structure Row (zs : List Str) : Prop where
  nm : ∀ z ∈ zs, isNm z = true ∧ z.length ≤ 12
  nd : zs.Nodup
theorem Row.noTw {zs : List Str} (h : Row zs) : NoTw (zs.map V.str) := fun i x e => by
  rw [List.getElem?_map] at e
  obtain ⟨z, ez, rfl⟩ := Option.map_eq_some_iff.mp e
  rw [← List.map_take, inV_strs]
  refine decide_eq_false fun hm => ?_
  obtain ⟨j, hj⟩ := List.mem_iff_getElem?.mp hm
  have hlt : j < i := by
    have q := (List.getElem?_eq_some_iff.mp hj).1
    rw [List.length_take] at q
    omega
  rw [List.getElem?_take_of_lt hlt] at hj
  have hil := (List.getElem?_eq_some_iff.mp ez).1
  have e1 := (List.getElem?_eq_some_iff.mp ez).2
  have hjl := (List.getElem?_eq_some_iff.mp hj).1
  have e2 := (List.getElem?_eq_some_iff.mp hj).2
  exact (List.pairwise_iff_getElem.mp h.nd) j i hjl hil hlt (e2.trans e1.symm)
structure TxS (mg : Str → Option Value) : Prop where
  so : ∃ t, mg "MOST_SORTS" = some (.int 4 t)
  wo : ∃ t, mg "MOST_WORDS" = some (.int 5 t)
  ru : ∃ t, mg "MOST_RULES" = some (.int 8 t)
  ba : ∃ t, mg "MOST_BARS" = some (.int 4 t)
def spRNv (K : PySem.W.Frag) : Sp := fun vs H Q _ => ∃ (l : Addr) (zs : List Str), vs = [.ref l] ∧ SqL K H l (zs.map V.str) ∧ (∀ z ∈ zs, isNm z = true ∧ z.length ≤ 12) ∧ ∀ H', Same H H' → Q .non H'
/-- a scheme that is refused by nothing -/
structure SchOk (ss ws : List Str) (ms : List MkD) (rs : List RlD) (ps : List PtD) : Prop where
  sr : Row ss
  wr : Row ws
  s1 : 1 ≤ ss.length
  s4 : ss.length ≤ 4
  w1 : 1 ≤ ws.length
  w5 : ws.length ≤ 5
  m9 : ms.length ≤ 1000
  r8 : rs.length ≤ 8
  b4 : ps.length ≤ 4
  mt : (ms.map fun x => (x.mr, x.md)).Nodup
  rn : (rs.map (·.p.nm)).Nodup
  bn : (ps.map (·.nm)).Nodup
  so : ∀ z ∈ ss, okS z
  mo : ∀ x ∈ ms, x.mr ∈ ss ∧ x.md ∈ ss
  mu : ∀ x ∈ ms, ∃ i j : Nat, i < j ∧ ss[i]? = some x.mr ∧ ss[j]? = some x.md
  ml : ∀ x ∈ ms, x.dn.length ≤ 100 ∧ x.up.length ≤ 100
  mw : ∀ x ∈ ms, (∀ z ∈ x.dn, z ∈ ws) ∧ ∀ z ∈ x.up, z ∈ ws
  rv : ∀ x ∈ rs, x.p.vars.length ≤ 4 ∧ x.p.cs.length ≤ 3 ∧ (∀ y ∈ x.p.vars, ∀ z, y.2 = some z → z ∈ ss) ∧ (∀ t ∈ x.p.cs, t.2.1 ∈ ws) ∧ x.g.2.1 ∈ ws
  bv : ∀ x ∈ ps, x.vars.length ≤ 4 ∧ x.cs.length ≤ 3 ∧ (∀ y ∈ x.vars, ∀ z, y.2 = some z → z ∈ ss) ∧ ∀ t ∈ x.cs, t.2.1 ∈ ws
def spOL (K : PySem.W.Frag) : Sp := fun vs H Q _ => ∃ x : V, vs = [x] ∧ ((x = .non ∧ ∀ d, H d = none → Q (.ref d) (upd H d (.lst []))) ∨ ∃ (l : Addr) (xs : List V), x = .ref l ∧ SqL K H l xs ∧ ∀ d, H d = none → Q (.ref d) (upd H d (.lst xs)))
def spCS (K : PySem.W.Frag) (MB RB BB : Addr) : Sp := fun vs H Q _ => ∃ (s w m r b : Addr) (ss ws : List Str) (as bs cs : List Addr) (ms : List MkD) (rs : List RlD) (ps : List PtD), vs = [.ref s, .ref w, .ref m, .ref r, .ref b] ∧ SqL K H s (ss.map V.str) ∧ SqL K H w (ws.map V.str) ∧ SqL K H m (as.map V.ref) ∧ AllAt (MkAt K MB H) as ms ∧ SqL K H r (bs.map V.ref) ∧ AllAt (RlAt K RB H) bs rs ∧ SqL K H b (cs.map V.ref) ∧ AllAt (BrAt K BB H) cs ps ∧ SchOk ss ws ms rs ps ∧ ∀ H', Same H H' → Q .non H'
theorem noTw_of {zs : List Str} (h : zs.Nodup) : NoTw (zs.map V.str) := fun i x e => by
  rw [List.getElem?_map] at e
  obtain ⟨z, ez, rfl⟩ := Option.map_eq_some_iff.mp e
  rw [← List.map_take, inV_strs]
  refine decide_eq_false fun hm => ?_
  obtain ⟨j, hj⟩ := List.mem_iff_getElem?.mp hm
  have hlt : j < i := by
    have q := (List.getElem?_eq_some_iff.mp hj).1
    rw [List.length_take] at q
    omega
  rw [List.getElem?_take_of_lt hlt] at hj
  have hil := (List.getElem?_eq_some_iff.mp ez).1
  have hjl := (List.getElem?_eq_some_iff.mp hj).1
  exact (List.pairwise_iff_getElem.mp h) j i hjl hil hlt ((List.getElem?_eq_some_iff.mp hj).2.trans (List.getElem?_eq_some_iff.mp ez).2.symm)
theorem RlAt.pv {K : PySem.W.Frag} {mg : Str → Option Value} {RB fR : Addr} {H : Hp} {a : Addr} {x : RlD} (T : TxRul K mg RB fR) (h : RlAt K RB H a x) : PvAt K H a x.p.vars := by
  obtain ⟨d, t1, t2, t3, ps, qs, a1, a2, a3, _⟩ := h
  exact ⟨RB, d, _, t1, ps, a1, T.cl, T.nv, rulF_vars _ _ _ _ _, a2, a3⟩
theorem BrAt.pv {K : PySem.W.Frag} {mg : Str → Option Value} {BB fB : Addr} {H : Hp} {a : Addr} {x : PtD} (T : TxBar K mg BB fB) (h : BrAt K BB H a x) : PvAt K H a x.vars := by
  obtain ⟨d, t1, t2, ps, qs, a1, a2, a3, _⟩ := h
  exact ⟨BB, d, _, t1, ps, a1, T.cl, T.nv, barF_vars _ _ _, a2, a3⟩
theorem AllAt.map {α β : Type} {R : Addr → β → Prop} {f : α → β} : ∀ {as : List Addr} {xs : List α}, AllAt (fun a x => R a (f x)) as xs → AllAt R as (xs.map f)
  | [], [], _ => True.intro
  | _ :: _, _ :: _, q => ⟨q.1, AllAt.map q.2⟩
  | [], _ :: _, q => q.elim
  | _ :: _, [], q => q.elim
section
variable {P : Program} {w : World} {K : PySem.W.Frag} {mg : Str → Option Value} {base : Heap}
theorem ok_rnv {f fN : Addr} {fd fdN : FuncData} (F : Fun K "refuse_no_name" "refuse_no_name" sRN f fd) (D : Dn K mg "is_name" sName ["text"] fN fdN) (GN : FnOk P w K mg base CX0 1 fN fdN ["text"] spName) : FnOk P w K mg base CX0 2 f fd ["texts"] (spRNv K) := by
  refine F.ok scRN (fun vs H Q E h => ?_) (fun cdv A outer s H vs Q E hr h => ?_)
  · obtain ⟨l, zs, rfl, _⟩ := h
    rfl
  · obtain ⟨l, zs, rfl, hl, hn, k⟩ := h
    refine ⟨_, (pss_one (ps_for PassesOwn.never rfl (pi_list (pv 0)) (pg_name (i := 1) scRN.nd rfl (Or.inl rfl)) (pss_one (ps_if (pt_not (pt_val (pe_call GN hr rfl D.g D.F.kp D.b .nil pass0 (pa_cons (pv 1) pa_nil)))) (pss_one ps_never) pss_nil)))), ?_⟩
    refine ⟨_, rfl, l, rfl, ⟨_, hl⟩, for_list (K := K) (a := l) (xs := zs.map V.str) (fun i σ H' => (∃ v, σ = [some (.ref l), v]) ∧ Same H H') ⟨⟨none, rfl⟩, Same.refl H⟩ (fun i σ H' _ p => p.2.seq hl) ?_ (fun σ H' p => k H' p.2)⟩
    rintro i y σ H' hi ⟨⟨v, rfl⟩, hS⟩
    rw [List.getElem?_map] at hi
    obtain ⟨z, hz, rfl⟩ := Option.map_eq_some_iff.mp hi
    have hq := hn z (List.mem_of_getElem? hz)
    refine ⟨_, rfl, z, rfl, Nat.le_trans hq.2 (by decide), fun H2 hS2 => ⟨_, rfl, ?_⟩⟩
    rw [hq.1]
    exact iteF ⟨⟨_, rfl⟩, hS.trans hS2⟩
theorem scOL : FnScope ["rows"] ["rows"] (defScope sOL) := ⟨rfl, rfl, rfl, by decide +kernel, rfl, by decide +kernel, by decide +kernel⟩
theorem ok_ol {f : Addr} {fd : FuncData} (F : Fun K "own_list" "own_list" sOL f fd) (tl : mg "list" = none) : FnOk P w K mg base CX0 1 f fd ["rows"] (spOL K) := by
  refine F.ok scOL (fun vs H Q E h => ?_) (fun cdv A outer s H vs Q E hr h => ?_)
  · obtain ⟨x, rfl, _⟩ := h
    rfl
  · obtain ⟨x, rfl, h⟩ := h
    refine ⟨_, (pss_cons (ps_if (pt_cmp (pc_isN (pv 0))) (pss_one (ps_ret (pe_lst pa_nil))) pss_nil)
      (pss_one (ps_ret (pe_callTy call_list_of (by rfl) tl (by decide +kernel) (pa_cons (pv 0) pa_nil))))), ?_⟩
    refine ⟨_, rfl, _, rfl, ?_⟩
    rcases h with ⟨rfl, k⟩ | ⟨l, xs, rfl, hl, k⟩
    · exact iteT ⟨Nat.zero_le _, fun d hd => k d hd⟩
    · exact iteF ⟨_, rfl, l, _, rfl, .inl hl, fun d hd => k d hd⟩
theorem scCS : FnScope ["sorts", "words", "makings", "rules", "bars", "rule", "bar"] ["sorts", "words", "makings", "rules", "bars"] (defScope sCS) := ⟨rfl, rfl, rfl, by decide +kernel, rfl, by decide +kernel, by decide +kernel⟩
theorem ok_cs {f fRC fRN fRT fRM fNS fRU fNW fF MB fM RB fR BB fB : Addr} {fd dRC dRN dRT dRM dNS dRU dNW dF : FuncData} (F : Fun K "check_scheme" "check_scheme" sCS f fd) (T : TxB mg) (TS : TxS mg) (TM : TxMak K mg MB fM) (TR : TxRul K mg RB fR) (TB : TxBar K mg BB fB)
    (DC : Dn K mg "refuse_count" sRC ["what", "count", "least", "most"] fRC dRC) (DN : Dn K mg "refuse_no_name" sRN ["texts"] fRN dRN) (DT : Dn K mg "refuse_twice" sRT ["names"] fRT dRT) (DM : Dn K mg "refuse_makings_twice" sRMT ["makings"] fRM dRM) (DS : Dn K mg "refuse_no_sort" sRNS ["sorts", "makings", "patterns"] fNS dNS) (DU : Dn K mg "refuse_upward" sRU ["sorts", "makings"] fRU dRU) (DW : Dn K mg "refuse_no_word" sRNW ["words", "makings", "rules", "bars"] fNW dNW) (DF : Dn K mg "first_twice" sFT ["row"] fF dF)
    (GN : FnOk P w K mg base CX0 2 fRN dRN ["texts"] (spRNv K)) (GT : FnOk P w K mg base CX0 2 fRT dRT ["names"] (spFT K)) : FnOk P w K mg base CX0 3 f fd ["sorts", "words", "makings", "rules", "bars"] (spCS K MB RB BB) := by
  have GC : FnOk P w K mg base CX0 1 fRC dRC _ spRC := ok_rc DC.F
  have GM : FnOk P w K mg base CX0 2 fRM dRM _ (spRMT K MB) := ok_rmt DM.F T TM DF
  have GS : FnOk P w K mg base CX0 1 fNS dNS _ (spRNS K MB) := ok_rns DS.F TM
  have GU : FnOk P w K mg base CX0 1 fRU dRU _ (spRU K MB) := ok_ru DU.F TM
  have GW : FnOk P w K mg base CX0 1 fNW dNW _ (spRNW K MB RB BB) := ok_rnw DW.F TM TR TB
  refine F.ok scCS (fun vs H Q E h => ?_) (fun cdv A outer s H vs Q E hr h => ?_)
  · obtain ⟨s, w, m, r, b, ss, ws, as, bs, cs, ms, rs, ps, rfl, _⟩ := h
    rfl
  · obtain ⟨s, w, m, r, b, ss, ws, as, bs, cs, ms, rs, ps, rfl, hs, hw, hm, hms, hr', hrs, hb, hps, ok, k⟩ := h
    have hr1 : Room 1 _ := hr.mono (by decide)
    obtain ⟨t1, g1⟩ := TS.so
    obtain ⟨t2, g2⟩ := TS.wo
    obtain ⟨t3, g3⟩ := TS.ru
    obtain ⟨t4, g4⟩ := TS.ba
    have sl1 := ok.s1
    have sl4 := ok.s4
    have wl1 := ok.w1
    have wl5 := ok.w5
    have rl8 := ok.r8
    have bl4 := ok.b4
    have lr := hrs.len
    have lb := hps.len
    refine ⟨_, (pss_cons (ps_expr (pe_call GC hr1 rfl DC.g DC.F.kp DC.b .nil pass0 (pa_cons pe_str (pa_cons (pe_callB call_len_seq (by rfl) T.len (by decide +kernel) (pa_cons (pv 0) pa_nil)) (pa_cons pe_int (pa_cons (pe_glob (v := .int 4) rfl g1 ⟨t1, rfl⟩) pa_nil))))))
      (pss_cons (ps_expr (pe_call GC hr1 rfl DC.g DC.F.kp DC.b .nil pass0 (pa_cons pe_str (pa_cons (pe_callB call_len_seq (by rfl) T.len (by decide +kernel) (pa_cons (pv 1) pa_nil)) (pa_cons pe_int (pa_cons (pe_glob (v := .int 5) rfl g2 ⟨t2, rfl⟩) pa_nil))))))
      (pss_cons (ps_expr (pe_call GC hr1 rfl DC.g DC.F.kp DC.b .nil pass0 (pa_cons pe_str (pa_cons (pe_callB call_len_seq (by rfl) T.len (by decide +kernel) (pa_cons (pv 3) pa_nil)) (pa_cons pe_int (pa_cons (pe_glob (v := .int 8) rfl g3 ⟨t3, rfl⟩) pa_nil))))))
      (pss_cons (ps_expr (pe_call GC hr1 rfl DC.g DC.F.kp DC.b .nil pass0 (pa_cons pe_str (pa_cons (pe_callB call_len_seq (by rfl) T.len (by decide +kernel) (pa_cons (pv 4) pa_nil)) (pa_cons pe_int (pa_cons (pe_glob (v := .int 4) rfl g4 ⟨t4, rfl⟩) pa_nil))))))
      (pss_cons (ps_expr (pe_call GN hr rfl DN.g DN.F.kp DN.b .nil pass0 (pa_cons (pv 0) pa_nil)))
      (pss_cons (ps_expr (pe_call GN hr rfl DN.g DN.F.kp DN.b .nil pass0 (pa_cons (pv 1) pa_nil)))
      (pss_cons (ps_expr (pe_call GT hr rfl DT.g DT.F.kp DT.b .nil pass0 (pa_cons (pv 0) pa_nil)))
      (pss_cons (ps_expr (pe_call GT hr rfl DT.g DT.F.kp DT.b .nil pass0 (pa_cons (pv 1) pa_nil)))
      (pss_cons (ps_expr (pe_call GM hr rfl DM.g DM.F.kp DM.b .nil pass0 (pa_cons (pv 2) pa_nil)))
      (pss_cons (ps_expr (pe_call GT hr rfl DT.g DT.F.kp DT.b .nil pass0 (pa_cons (pe_lc (own := [("rule", 5)]) (g := gName 5) (te := tFld K (tVar 5) "name") rfl scCS.nd (pi_list (pv 3)) (blkOk_by (N := ["sorts", "words", "makings", "rules", "bars", "rule", "bar"]) (sc := defScope sCS) (by decide +kernel)) (fun _ _ _ _ _ => (pg_name (i := 5) scCS.nd rfl (Or.inl rfl))) (fun _ _ _ _ _ => pts_nil) (fun _ _ _ _ _ => (pe_fld (pv 5) rfl))) pa_nil)))
      (pss_cons (ps_expr (pe_call GT hr rfl DT.g DT.F.kp DT.b .nil pass0 (pa_cons (pe_lc (own := [("bar", 6)]) (g := gName 6) (te := tFld K (tVar 6) "name") rfl scCS.nd (pi_list (pv 4)) (blkOk_by (N := ["sorts", "words", "makings", "rules", "bars", "rule", "bar"]) (sc := defScope sCS) (by decide +kernel)) (fun _ _ _ _ _ => (pg_name (i := 6) scCS.nd rfl (Or.inl rfl))) (fun _ _ _ _ _ => pts_nil) (fun _ _ _ _ _ => (pe_fld (pv 6) rfl))) pa_nil)))
      (pss_cons (ps_expr (pe_call GS hr1 rfl DS.g DS.F.kp DS.b .nil pass0 (pa_cons (pv 0) (pa_cons (pv 2) (pa_cons (pe_lst (pa_star (pv 3) (pa_star (pv 4) pa_nil))) pa_nil)))))
      (pss_cons (ps_expr (pe_call GU hr1 rfl DU.g DU.F.kp DU.b .nil pass0 (pa_cons (pv 0) (pa_cons (pv 2) pa_nil))))
      (pss_one (ps_expr (pe_call GW hr1 rfl DW.g DW.F.kp DW.b .nil pass0 (pa_cons (pv 1) (pa_cons (pv 2) (pa_cons (pv 3) (pa_cons (pv 4) pa_nil)))))))))))))))))))), ?_⟩
    refine ⟨_, rfl, s, _, rfl, .inl hs, _, _, _, _, rfl, by rw [List.length_map]; omega, by rw [List.length_map]; omega, ?_⟩
    refine ⟨_, rfl, w, _, rfl, .inl hw, _, _, _, _, rfl, by rw [List.length_map]; omega, by rw [List.length_map]; omega, ?_⟩
    refine ⟨_, rfl, r, _, rfl, .inl hr', _, _, _, _, rfl, by rw [List.length_map]; omega, by rw [List.length_map]; omega, ?_⟩
    refine ⟨_, rfl, b, _, rfl, .inl hb, _, _, _, _, rfl, by rw [List.length_map]; omega, by rw [List.length_map]; omega, ?_⟩
    refine ⟨_, rfl, s, ss, rfl, hs, ok.sr.nm, fun H1 S1 => ?_⟩
    refine ⟨_, rfl, w, ws, rfl, S1.seq hw, ok.wr.nm, fun H2 S2 => ?_⟩
    have S12 := S1.trans S2
    refine ⟨_, rfl, s, _, rfl, .inl (S12.seq hs), flat_of ss, ok.sr.noTw, fun H3 S3 => ?_⟩
    have S13 := S12.trans S3
    refine ⟨_, rfl, w, _, rfl, .inl (S13.seq hw), flat_of ws, ok.wr.noTw, fun H4 S4 => ?_⟩
    have S14 := S13.trans S4
    refine ⟨_, rfl, m, as, ms, rfl, S14.seq hm, hms.imp fun _ _ q => q.same S14, ok.m9, ok.mt, fun x hx => ⟨ok.so _ (ok.mo x hx).1, ok.so _ (ok.mo x hx).2⟩, fun H5 S5 => ?_⟩
    have S15 := S14.trans S5
    -- names of the rules
    refine ⟨_, rfl, r, rfl, ⟨_, S15.seq hr'⟩, fun D hD => ?_⟩
    refine lc_list (K := K) (a := r) (xs := bs.map V.ref) (fun i H' => Same H5 H' ∧ H' D = some (.lst (((rs.take i).map (·.p.nm)).map V.str))) ⟨Same.upd hD, upd_same⟩ (fun i H' _ p => (S15.trans p.1).seq hr') ?_ ?_
    · rintro i x H' hi ⟨hS, hl⟩
      obtain ⟨a, y, rfl, hy, hat⟩ := hrs.get hi
      obtain ⟨d, t1, t2, t3, us, qs, ha, _⟩ := RlAt.same (S15.trans hS) hat
      have il : i < rs.length := (List.getElem?_eq_some_iff.mp hy).1
      refine ⟨rfl, ?_⟩
      refine ⟨_, rfl, a, RB, d, _, _, rfl, ha, TR.cl, TR.nn, rulF_name _ _ _ _ _, _, hl, ?_, ?_, ?_⟩
      · rw [List.length_map, List.length_map, List.length_take]
        exact Nat.lt_of_le_of_lt (show _ ≤ 100 by omega) (by decide)
      · intro b o h
        rw [upd_ne (ne_of_none h hD)]
        exact hS b o h
      · rw [upd_same, List.take_add_one, hy, List.map_append, List.map_append]
        rfl
    rintro H6 ⟨S6, hl6⟩
    rw [List.length_map, lr, List.take_length] at hl6
    refine ⟨D, _, rfl, .inl (SqL.of hl6), flat_of _, noTw_of ok.rn, fun H7 S7 => ?_⟩
    have S17 := (S15.trans S6).trans S7
    -- names of the bars
    refine ⟨_, rfl, b, rfl, ⟨_, S17.seq hb⟩, fun D2 hD2 => ?_⟩
    refine lc_list (K := K) (a := b) (xs := cs.map V.ref) (fun i H' => Same H7 H' ∧ H' D2 = some (.lst (((ps.take i).map (·.nm)).map V.str))) ⟨Same.upd hD2, upd_same⟩ (fun i H' _ p => (S17.trans p.1).seq hb) ?_ ?_
    · rintro i x H' hi ⟨hS, hl⟩
      obtain ⟨a, y, rfl, hy, hat⟩ := hps.get hi
      obtain ⟨d, t1, t2, us, qs, ha, _⟩ := BrAt.same (S17.trans hS) hat
      have il : i < ps.length := (List.getElem?_eq_some_iff.mp hy).1
      refine ⟨rfl, ?_⟩
      refine ⟨_, rfl, a, BB, d, _, _, rfl, ha, TB.cl, TB.nn, barF_name _ _ _, _, hl, ?_, ?_, ?_⟩
      · rw [List.length_map, List.length_map, List.length_take]
        exact Nat.lt_of_le_of_lt (show _ ≤ 100 by omega) (by decide)
      · intro b o h
        rw [upd_ne (ne_of_none h hD2)]
        exact hS b o h
      · rw [upd_same, List.take_add_one, hy, List.map_append, List.map_append]
        rfl
    rintro H8 ⟨S8, hl8⟩
    rw [List.length_map, lb, List.take_length] at hl8
    refine ⟨D2, _, rfl, .inl (SqL.of hl8), flat_of _, noTw_of ok.bn, fun H9 S9 => ?_⟩
    have S19 := (S17.trans S8).trans S9
    -- sorts
    refine ⟨_, rfl, _, rfl, _, rfl, r, _, rfl, .inr (S19.seq hr'), _, rfl, b, _, rfl, .inr (S19.seq hb), ?_⟩
    show (bs.map V.ref ++ (cs.map V.ref ++ [])).length ≤ sizeLine ∧ _
    rw [show (bs.map V.ref ++ (cs.map V.ref ++ [])) = (bs ++ cs).map V.ref by rw [List.append_nil, List.map_append]]
    refine ⟨Nat.le_trans (show _ ≤ 1000 by rw [List.length_map, List.length_append]; omega) (by decide), fun q hq => ?_⟩
    have Sq : Same H9 (upd H9 q (.lst ((bs ++ cs).map V.ref))) := Same.upd hq
    have eq : (upd H9 q (.lst ((bs ++ cs).map V.ref))) q = some (.lst ((bs ++ cs).map V.ref)) := upd_same
    generalize upd H9 q (.lst ((bs ++ cs).map V.ref)) = Hq at Sq eq
    have S1q := S19.trans Sq
    have pvs : AllAt (PvAt K Hq) (bs ++ cs) (rs.map (·.p.vars) ++ ps.map (·.vars)) := (AllAt.map (f := fun x : RlD => x.p.vars) (hrs.imp fun _ _ z => (z.same S1q).pv TR)).append (AllAt.map (f := fun x : PtD => x.vars) (hps.imp fun _ _ z => (z.same S1q).pv TB))
    refine ⟨s, m, q, ss, as, bs ++ cs, ms, _, rfl, S1q.seq hs, S1q.seq hm, hms.imp fun _ _ z => z.same S1q, SqL.of eq, pvs, ok.m9, ?_, ?_, ok.mo, ?_, fun HA SA => ?_⟩
    · rw [List.length_append, List.length_map, List.length_map]
      omega
    · intro v hv
      rcases List.mem_append.mp hv with z | z
      · obtain ⟨x, hx, rfl⟩ := List.mem_map.mp z
        exact (ok.rv x hx).1
      · obtain ⟨x, hx, rfl⟩ := List.mem_map.mp z
        exact (ok.bv x hx).1
    · intro v hv
      rcases List.mem_append.mp hv with z | z
      · obtain ⟨x, hx, rfl⟩ := List.mem_map.mp z
        exact (ok.rv x hx).2.2.1
      · obtain ⟨x, hx, rfl⟩ := List.mem_map.mp z
        exact (ok.bv x hx).2.2.1
    have S1A := S1q.trans SA
    refine ⟨_, rfl, _, rfl, s, m, ss, as, ms, rfl, S1A.seq hs, S1A.seq hm, hms.imp fun _ _ z => z.same S1A, ok.sr.nd, ok.mu, ?_⟩
    exact ⟨_, rfl, _, rfl, _, rfl, _, rfl, w, m, r, b, ws, as, bs, cs, ms, rs, ps, rfl, S1A.seq hw, S1A.seq hm, hms.imp fun _ _ z => z.same S1A, S1A.seq hr', hrs.imp fun _ _ z => z.same S1A, S1A.seq hb, hps.imp fun _ _ z => z.same S1A, ok.m9, by omega, by omega, ok.ml, fun x hx => (ok.rv x hx).2.1, fun x hx => (ok.bv x hx).2.1, ok.mw, fun x hx => (ok.rv x hx).2.2.2, fun x hx => (ok.bv x hx).2.2.2, fun HB SB => k _ (S1A.trans SB)⟩
end
end Wm
namespace Wm
open PySem L2 StX
def schF (l1 l2 l3 l4 l5 : Addr) : List (Str × V) := putF "own_bars" (.ref l5) (putF "own_rules" (.ref l4) (putF "own_makings" (.ref l3) (putF "own_words" (.ref l2) (putF "own_sorts" (.ref l1) []))))
theorem lookF {f : Str} {v : V} {fs : List (Str × V)} : (putF f v fs).lookup f = some v := by rw [lookup_putF, if_pos rfl]
theorem lookN {f g : Str} {v : V} {fs : List (Str × V)} (h : ¬ g = f) : (putF f v fs).lookup g = fs.lookup g := by rw [lookup_putF, if_neg h]
theorem schF_so (l1 l2 l3 l4 l5 : Addr) : (schF l1 l2 l3 l4 l5).lookup ("own_sorts" : Str) = some (.ref l1) := by
  unfold schF
  rw [lookN (by decide +kernel), lookN (by decide +kernel), lookN (by decide +kernel), lookN (by decide +kernel), lookF]
theorem schF_wo (l1 l2 l3 l4 l5 : Addr) : (schF l1 l2 l3 l4 l5).lookup ("own_words" : Str) = some (.ref l2) := by
  unfold schF
  rw [lookN (by decide +kernel), lookN (by decide +kernel), lookN (by decide +kernel), lookF]
theorem schF_mk (l1 l2 l3 l4 l5 : Addr) : (schF l1 l2 l3 l4 l5).lookup ("own_makings" : Str) = some (.ref l3) := by
  unfold schF
  rw [lookN (by decide +kernel), lookN (by decide +kernel), lookF]
theorem schF_ru (l1 l2 l3 l4 l5 : Addr) : (schF l1 l2 l3 l4 l5).lookup ("own_rules" : Str) = some (.ref l4) := by
  unfold schF
  rw [lookN (by decide +kernel), lookF]
theorem schF_ba (l1 l2 l3 l4 l5 : Addr) : (schF l1 l2 l3 l4 l5).lookup ("own_bars" : Str) = some (.ref l5) := by
  unfold schF
  rw [lookF]
/-- no other field -/
theorem schF_no {g : Str} (h1 : ¬ g = "own_bars") (h2 : ¬ g = "own_rules") (h3 : ¬ g = "own_makings") (h4 : ¬ g = "own_words") (h5 : ¬ g = "own_sorts") (l1 l2 l3 l4 l5 : Addr) : (schF l1 l2 l3 l4 l5).lookup g = none := by
  unfold schF
  rw [lookN h1, lookN h2, lookN h3, lookN h4, lookN h5]
  rfl
structure TxSch (K : PySem.W.Frag) (mg : Str → Option Value) (S fS : Addr) : Prop where
  cl : Cls K S
  n1 : NoAttr K S "own_sorts"
  n2 : NoAttr K S "own_words"
  n3 : NoAttr K S "own_makings"
  n4 : NoAttr K S "own_rules"
  n5 : NoAttr K S "own_bars"
  g : mg "Scheme" = some (.ref S)
  m : Mk K S fS
/-- a scheme at x, of these sorts, words, makings, rules, bars -/
def SchG (S : Addr) (H : Hp) (x : Addr) (ss ws : List Str) (as bs cs : List Addr) : Prop := ∃ dx l1 l2 l3 l4 l5, H x = some (.ins S dx (schF l1 l2 l3 l4 l5)) ∧ H l1 = some (.lst (ss.map V.str)) ∧ H l2 = some (.lst (ws.map V.str)) ∧ H l3 = some (.lst (as.map V.ref)) ∧ H l4 = some (.lst (bs.map V.ref)) ∧ H l5 = some (.lst (cs.map V.ref))
theorem SchG.same {S : Addr} {H H' : Hp} {x : Addr} {ss ws : List Str} {as bs cs : List Addr} (s : Same H H') (h : SchG S H x ss ws as bs cs) : SchG S H' x ss ws as bs cs := by
  obtain ⟨dx, l1, l2, l3, l4, l5, h0, h1, h2, h3, h4, h5⟩ := h
  exact ⟨dx, l1, l2, l3, l4, l5, s _ _ h0, s _ _ h1, s _ _ h2, s _ _ h3, s _ _ h4, s _ _ h5⟩
/-- its own lists are new -/
def SchF (S : Addr) (H0 H : Hp) (x : Addr) (ss ws : List Str) (as bs cs : List Addr) : Prop := ∃ dx l1 l2 l3 l4 l5, (H0 l1 = none ∧ H0 l2 = none ∧ H0 l3 = none ∧ H0 l4 = none ∧ H0 l5 = none) ∧ H x = some (.ins S dx (schF l1 l2 l3 l4 l5)) ∧ H l1 = some (.lst (ss.map V.str)) ∧ H l2 = some (.lst (ws.map V.str)) ∧ H l3 = some (.lst (as.map V.ref)) ∧ H l4 = some (.lst (bs.map V.ref)) ∧ H l5 = some (.lst (cs.map V.ref))
/-- what is handed in for a list that may be left out -/
def Own (K : PySem.W.Frag) (H : Hp) (v : V) (xs : List V) : Prop := (v = .non ∧ xs = []) ∨ ∃ l, v = .ref l ∧ SqL K H l xs
theorem Own.same {K : PySem.W.Frag} {H H' : Hp} {v : V} {xs : List V} (s : Same H H') (h : Own K H v xs) : Own K H' v xs := by
  rcases h with h | ⟨l, e, h⟩
  · exact .inl h
  · exact .inr ⟨l, e, s.seq h⟩
def spOL2 (K : PySem.W.Frag) : Sp := fun vs H Q _ => ∃ (x : V) (xs : List V), vs = [x] ∧ Own K H x xs ∧ ∀ d, H d = none → Q (.ref d) (upd H d (.lst xs))
/-- the parts of a whole scheme stand -/
structure Parts (K : PySem.W.Frag) (MB RB BB : Addr) (H : Hp) (as bs cs : List Addr) (ms : List MkD) (rs : List RlD) (ps : List PtD) : Prop where
  am : AllAt (MkAt K MB H) as ms
  ar : AllAt (RlAt K RB H) bs rs
  ab : AllAt (BrAt K BB H) cs ps
theorem Parts.same {K : PySem.W.Frag} {MB RB BB : Addr} {H H' : Hp} {as bs cs : List Addr} {ms : List MkD} {rs : List RlD} {ps : List PtD} (s : Same H H') (h : Parts K MB RB BB H as bs cs ms rs ps) : Parts K MB RB BB H' as bs cs ms rs ps :=
  ⟨h.am.imp fun _ _ q => q.same s, h.ar.imp fun _ _ q => q.same s, h.ab.imp fun _ _ q => q.same s⟩
def spSch (K : PySem.W.Frag) (S MB RB BB : Addr) : Sp := fun vs H Q _ => ∃ (H0 : Hp) (x dx s w : Addr) (vm vr vb : V) (ss ws : List Str) (as bs cs : List Addr) (ms : List MkD) (rs : List RlD) (ps : List PtD), vs = [.ref x, .ref s, .ref w, vm, vr, vb] ∧ Same H0 H ∧ H0 x = none ∧ H x = some (.ins S dx []) ∧ SqL K H0 s (ss.map V.str) ∧ SqL K H0 w (ws.map V.str) ∧
  Own K H0 vm (as.map V.ref) ∧ Own K H0 vr (bs.map V.ref) ∧ Own K H0 vb (cs.map V.ref) ∧ Parts K MB RB BB H0 as bs cs ms rs ps ∧ SchOk ss ws ms rs ps ∧ ∀ H', Same H0 H' → SchF S H0 H' x ss ws as bs cs → Q .non H'
/-- all but x stands -/
def Keep (x : Addr) (H H' : Hp) : Prop := ∀ a o, a ≠ x → H a = some o → H' a = some o
theorem fstep {H0 H : Hp} {x l S dx : Addr} {fs : List (Str × V)} {f : Str} {xs : List V} (S0 : Same H0 H) (x0 : H0 x = none) (hx : H x = some (.ins S dx fs)) (hl : H l = none) :
    l ≠ x ∧ (upd H l (.lst xs)) x = some (.ins S dx fs) ∧ ∃ H', H' = upd (upd H l (.lst xs)) x (.ins S dx (putF f (.ref l) fs)) ∧ Same H0 H' ∧ H' l = some (.lst xs) ∧ H' x = some (.ins S dx (putF f (.ref l) fs)) ∧ Keep x H H' := by
  have n : l ≠ x := fun z => by
    rw [z, hx] at hl
    cases hl
  refine ⟨n, (upd_ne n.symm).trans hx, _, rfl, ?_, (upd_ne n).trans upd_same, upd_same, ?_⟩
  · intro b o e
    rw [upd_ne (ne_of_none e x0), upd_ne (ne_of_none (S0 b o e) hl)]
    exact S0 b o e
  · intro a o na e
    rw [upd_ne na, upd_ne (ne_of_none e hl)]
    exact e
section
variable {P : Program} {w : World} {K : PySem.W.Frag} {mg : Str → Option Value} {base : Heap}
theorem ok_ol2 {f : Addr} {fd : FuncData} (F : Fun K "own_list" "own_list" sOL f fd) (tl : mg "list" = none) : FnOk P w K mg base CX0 1 f fd ["rows"] (spOL2 K) := by
  refine F.ok scOL (fun vs H Q E h => ?_) (fun cdv A outer s H vs Q E hr h => ?_)
  · obtain ⟨x, xs, rfl, _⟩ := h
    rfl
  · obtain ⟨x, xs, rfl, h, k⟩ := h
    refine ⟨_, (pss_cons (ps_if (pt_cmp (pc_isN (pv 0))) (pss_one (ps_ret (pe_lst pa_nil))) pss_nil)
      (pss_one (ps_ret (pe_callTy call_list_of (by rfl) tl (by decide +kernel) (pa_cons (pv 0) pa_nil))))), ?_⟩
    refine ⟨_, rfl, _, rfl, ?_⟩
    rcases h with ⟨rfl, rfl⟩ | ⟨l, rfl, hl⟩
    · exact iteT ⟨Nat.zero_le _, fun d hd => k d hd⟩
    · exact iteF ⟨_, rfl, l, _, rfl, .inl hl, fun d hd => k d hd⟩
theorem scSch : FnScope ["self", "sorts", "words", "makings", "rules", "bars"] ["self", "sorts", "words", "makings", "rules", "bars"] (defScope sSch) := ⟨rfl, rfl, rfl, by decide +kernel, rfl, by decide +kernel, by decide +kernel⟩
theorem ok_sch {f fO fC S MB RB BB : Addr} {fd dO dC : FuncData} {dvs : List V} (F : FunD K "__init__" "Scheme.__init__" (defArgs sSch) (defBody sSch) (defScope sSch) dvs [] f fd) (tl : mg "list" = none) (TC : TxSch K mg S f) (DO : Dn K mg "own_list" sOL ["rows"] fO dO) (DC : Dn K mg "check_scheme" sCS ["sorts", "words", "makings", "rules", "bars"] fC dC)
    (GC : FnOk P w K mg base CX0 3 fC dC ["sorts", "words", "makings", "rules", "bars"] (spCS K MB RB BB)) : FnOk P w K mg base CX0 4 f fd ["self", "sorts", "words", "makings", "rules", "bars"] (spSch K S MB RB BB) := by
  have GO : FnOk P w K mg base CX0 1 fO dO _ (spOL2 K) := ok_ol2 DO.F tl
  refine F.ok scSch (fun vs H Q E h => ?_) (fun cdv A outer s H vs Q E hr h => ?_)
  · obtain ⟨H0, x, dx, s, w, vm, vr, vb, ss, ws, as, bs, cs, ms, rs, ps, rfl, _⟩ := h
    rfl
  · obtain ⟨H0, x, dx, s, w, vm, vr, vb, ss, ws, as, bs, cs, ms, rs, ps, rfl, S0, x0, hx, hs, hw, hm, hr', hb, pt, ok, k⟩ := h
    have hr1 : Room 1 _ := hr.mono (by decide)
    refine ⟨_, (pss_cons (ps_fld (pv 0) (pe_callTy call_list_of (by rfl) tl (by decide +kernel) (pa_cons (pv 1) pa_nil)) rfl)
      (pss_cons (ps_fld (pv 0) (pe_callTy call_list_of (by rfl) tl (by decide +kernel) (pa_cons (pv 2) pa_nil)) rfl)
      (pss_cons (ps_fld (pv 0) (pe_call GO hr1 rfl DO.g DO.F.kp DO.b .nil pass0 (pa_cons (pv 3) pa_nil)) rfl)
      (pss_cons (ps_fld (pv 0) (pe_call GO hr1 rfl DO.g DO.F.kp DO.b .nil pass0 (pa_cons (pv 4) pa_nil)) rfl)
      (pss_cons (ps_fld (pv 0) (pe_call GO hr1 rfl DO.g DO.F.kp DO.b .nil pass0 (pa_cons (pv 5) pa_nil)) rfl)
      (pss_one (ps_expr (pe_call GC hr rfl DC.g DC.F.kp DC.b .nil pass0 (pa_cons (pe_fld (pv 0) rfl) (pa_cons (pe_fld (pv 0) rfl) (pa_cons (pe_fld (pv 0) rfl) (pa_cons (pe_fld (pv 0) rfl) (pa_cons (pe_fld (pv 0) rfl) pa_nil))))))))))))), ?_⟩
    refine ⟨_, rfl, s, _, rfl, .inl (S0.seq hs), fun l1 h1 => ?_⟩
    obtain ⟨n1, u1, H1, e1, S1, a1, x1, _⟩ := fstep (f := "own_sorts") (xs := ss.map V.str) S0 x0 hx h1
    refine ⟨_, rfl, x, S, dx, _, rfl, u1, TC.cl, TC.n1, by show 0 < 1000; decide, ?_⟩
    rw [← e1]
    have z1 : H0 l1 = none := S0.free h1
    clear e1 u1 h1
    refine ⟨_, rfl, w, _, rfl, .inl (S1.seq hw), fun l2 h2 => ?_⟩
    obtain ⟨n2, u2, H2, e2, S2, a2, x2, k2⟩ := fstep (f := "own_words") (xs := ws.map V.str) S1 x0 x1 h2
    refine ⟨_, rfl, x, S, dx, _, rfl, u2, TC.cl, TC.n2, Nat.lt_of_le_of_lt (putF_len _ _ _) (by decide), ?_⟩
    rw [← e2]
    have z2 : H0 l2 = none := S1.free h2
    clear e2 u2 h2
    have b1 := k2 _ _ n1 a1
    refine ⟨_, rfl, _, _, rfl, hm.same S2, fun l3 h3 => ?_⟩
    obtain ⟨n3, u3, H3, e3, S3, a3, x3, k3⟩ := fstep (f := "own_makings") (xs := as.map V.ref) S2 x0 x2 h3
    refine ⟨_, rfl, x, S, dx, _, rfl, u3, TC.cl, TC.n3, ?_, ?_⟩
    · have q1 := putF_len "own_sorts" (.ref l1) []
      have q2 := putF_len "own_words" (.ref l2) (putF "own_sorts" (.ref l1) [])
      simp only [List.length_nil] at *
      omega
    rw [← e3]
    have z3 : H0 l3 = none := S2.free h3
    clear e3 u3 h3
    have b1 := k3 _ _ n1 b1
    have b2 := k3 _ _ n2 a2
    refine ⟨_, rfl, _, _, rfl, hr'.same S3, fun l4 h4 => ?_⟩
    obtain ⟨n4, u4, H4, e4, S4, a4, x4, k4⟩ := fstep (f := "own_rules") (xs := bs.map V.ref) S3 x0 x3 h4
    refine ⟨_, rfl, x, S, dx, _, rfl, u4, TC.cl, TC.n4, ?_, ?_⟩
    · have q1 := putF_len "own_sorts" (.ref l1) []
      have q2 := putF_len "own_words" (.ref l2) (putF "own_sorts" (.ref l1) [])
      have q3 := putF_len "own_makings" (.ref l3) (putF "own_words" (.ref l2) (putF "own_sorts" (.ref l1) []))
      simp only [List.length_nil] at *
      omega
    rw [← e4]
    have z4 : H0 l4 = none := S3.free h4
    clear e4 u4 h4
    have b1 := k4 _ _ n1 b1
    have b2 := k4 _ _ n2 b2
    have b3 := k4 _ _ n3 a3
    refine ⟨_, rfl, _, _, rfl, hb.same S4, fun l5 h5 => ?_⟩
    obtain ⟨n5, u5, H5, e5, S5, a5, x5, k5⟩ := fstep (f := "own_bars") (xs := cs.map V.ref) S4 x0 x4 h5
    refine ⟨_, rfl, x, S, dx, _, rfl, u5, TC.cl, TC.n5, ?_, ?_⟩
    · have q1 := putF_len "own_sorts" (.ref l1) []
      have q2 := putF_len "own_words" (.ref l2) (putF "own_sorts" (.ref l1) [])
      have q3 := putF_len "own_makings" (.ref l3) (putF "own_words" (.ref l2) (putF "own_sorts" (.ref l1) []))
      have q4 := putF_len "own_rules" (.ref l4) (putF "own_makings" (.ref l3) (putF "own_words" (.ref l2) (putF "own_sorts" (.ref l1) [])))
      simp only [List.length_nil] at *
      omega
    rw [← e5]
    have z5 : H0 l5 = none := S4.free h5
    clear e5 u5 h5
    have b1 := k5 _ _ n1 b1
    have b2 := k5 _ _ n2 b2
    have b3 := k5 _ _ n3 b3
    have b4 := k5 _ _ n4 a4
    have x5 : H5 x = some (.ins S dx (schF l1 l2 l3 l4 l5)) := x5
    have pt5 := pt.same S5
    refine ⟨_, rfl, x, S, dx, _, _, rfl, x5, TC.cl, TC.n1, schF_so _ _ _ _ _, _, rfl, x, S, dx, _, _, rfl, x5, TC.cl, TC.n2, schF_wo _ _ _ _ _, _, rfl, x, S, dx, _, _, rfl, x5, TC.cl, TC.n3, schF_mk _ _ _ _ _, _, rfl, x, S, dx, _, _, rfl, x5, TC.cl, TC.n4, schF_ru _ _ _ _ _, _, rfl, x, S, dx, _, _, rfl, x5, TC.cl, TC.n5, schF_ba _ _ _ _ _, ?_⟩
    exact ⟨l1, l2, l3, l4, l5, ss, ws, as, bs, cs, ms, rs, ps, rfl, SqL.of b1, SqL.of b2, SqL.of b3, pt5.am, SqL.of b4, pt5.ar, SqL.of a5, pt5.ab, ok, fun H6 S6 => k H6 (S5.trans S6) ⟨dx, l1, l2, l3, l4, l5, ⟨z1, z2, z3, z4, z5⟩, S6 _ _ x5, S6 _ _ b1, S6 _ _ b2, S6 _ _ b3, S6 _ _ b4, S6 _ _ a5⟩⟩
/-! ### lists told -/
def spSMk (S : Addr) : Sp := fun vs H Q _ => ∃ (x : Addr) (ss ws : List Str) (as bs cs : List Addr), vs = [.ref x] ∧ SchG S H x ss ws as bs cs ∧ ∀ l, H l = none → Q (.ref l) (upd H l (.lst (as.map V.ref)))
def spSRu (S : Addr) : Sp := fun vs H Q _ => ∃ (x : Addr) (ss ws : List Str) (as bs cs : List Addr), vs = [.ref x] ∧ SchG S H x ss ws as bs cs ∧ ∀ l, H l = none → Q (.ref l) (upd H l (.lst (bs.map V.ref)))
def spSBa (S : Addr) : Sp := fun vs H Q _ => ∃ (x : Addr) (ss ws : List Str) (as bs cs : List Addr), vs = [.ref x] ∧ SchG S H x ss ws as bs cs ∧ ∀ l, H l = none → Q (.ref l) (upd H l (.lst (cs.map V.ref)))
theorem scSMk : FnScope ["self"] ["self"] (defScope sSMk) := ⟨rfl, rfl, rfl, by decide +kernel, rfl, by decide +kernel, by decide +kernel⟩
theorem ok_smk {f S fS : Addr} {fd : FuncData} (F : Fun K "makings" "Scheme.makings" sSMk f fd) (tl : mg "list" = none) (TC : TxSch K mg S fS) : FnOk P w K mg base CX0 1 f fd ["self"] (spSMk S) := by
  refine F.ok scSMk (fun vs H Q E h => ?_) (fun cdv A outer s H vs Q E hr h => ?_)
  · obtain ⟨x, ss, ws, as, bs, cs, rfl, _⟩ := h
    rfl
  · obtain ⟨x, ss, ws, as, bs, cs, rfl, ⟨dx, l1, l2, l3, l4, l5, h0, h1, h2, h3, h4, h5⟩, k⟩ := h
    refine ⟨_, (pss_one (ps_ret (pe_callTy call_list_of (by rfl) tl (by decide +kernel) (pa_cons (pe_fld (pv 0) rfl) pa_nil)))), ?_⟩
    exact ⟨_, rfl, x, S, dx, _, _, rfl, h0, TC.cl, TC.n3, schF_mk _ _ _ _ _, l3, _, rfl, .inl (SqL.of h3), fun l hl => k l hl⟩
theorem scSRu : FnScope ["self"] ["self"] (defScope sSRu) := ⟨rfl, rfl, rfl, by decide +kernel, rfl, by decide +kernel, by decide +kernel⟩
theorem ok_sru {f S fS : Addr} {fd : FuncData} (F : Fun K "rules" "Scheme.rules" sSRu f fd) (tl : mg "list" = none) (TC : TxSch K mg S fS) : FnOk P w K mg base CX0 1 f fd ["self"] (spSRu S) := by
  refine F.ok scSRu (fun vs H Q E h => ?_) (fun cdv A outer s H vs Q E hr h => ?_)
  · obtain ⟨x, ss, ws, as, bs, cs, rfl, _⟩ := h
    rfl
  · obtain ⟨x, ss, ws, as, bs, cs, rfl, ⟨dx, l1, l2, l3, l4, l5, h0, h1, h2, h3, h4, h5⟩, k⟩ := h
    refine ⟨_, (pss_one (ps_ret (pe_callTy call_list_of (by rfl) tl (by decide +kernel) (pa_cons (pe_fld (pv 0) rfl) pa_nil)))), ?_⟩
    exact ⟨_, rfl, x, S, dx, _, _, rfl, h0, TC.cl, TC.n4, schF_ru _ _ _ _ _, l4, _, rfl, .inl (SqL.of h4), fun l hl => k l hl⟩
theorem scSBa : FnScope ["self"] ["self"] (defScope sSBa) := ⟨rfl, rfl, rfl, by decide +kernel, rfl, by decide +kernel, by decide +kernel⟩
theorem ok_sba {f S fS : Addr} {fd : FuncData} (F : Fun K "bars" "Scheme.bars" sSBa f fd) (tl : mg "list" = none) (TC : TxSch K mg S fS) : FnOk P w K mg base CX0 1 f fd ["self"] (spSBa S) := by
  refine F.ok scSBa (fun vs H Q E h => ?_) (fun cdv A outer s H vs Q E hr h => ?_)
  · obtain ⟨x, ss, ws, as, bs, cs, rfl, _⟩ := h
    rfl
  · obtain ⟨x, ss, ws, as, bs, cs, rfl, ⟨dx, l1, l2, l3, l4, l5, h0, h1, h2, h3, h4, h5⟩, k⟩ := h
    refine ⟨_, (pss_one (ps_ret (pe_callTy call_list_of (by rfl) tl (by decide +kernel) (pa_cons (pe_fld (pv 0) rfl) pa_nil)))), ?_⟩
    exact ⟨_, rfl, x, S, dx, _, _, rfl, h0, TC.cl, TC.n5, schF_ba _ _ _ _ _, l5, _, rfl, .inl (SqL.of h5), fun l hl => k l hl⟩
theorem scSor : FnScope ["self"] ["self"] (defScope sSor) := ⟨rfl, rfl, rfl, by decide +kernel, rfl, by decide +kernel, by decide +kernel⟩
def spSor (S : Addr) : Sp := fun vs H Q _ => ∃ (x : Addr) (ss ws : List Str) (as bs cs : List Addr), vs = [.ref x] ∧ SchG S H x ss ws as bs cs ∧ ∀ l, H l = none → Q (.ref l) (upd H l (.lst (ss.map V.str)))
def spWor (S : Addr) : Sp := fun vs H Q _ => ∃ (x : Addr) (ss ws : List Str) (as bs cs : List Addr), vs = [.ref x] ∧ SchG S H x ss ws as bs cs ∧ ∀ l, H l = none → Q (.ref l) (upd H l (.lst (ws.map V.str)))
theorem ok_sor {f S fS : Addr} {fd : FuncData} (F : Fun K "sorts" "Scheme.sorts" sSor f fd) (tl : mg "list" = none) (TC : TxSch K mg S fS) : FnOk P w K mg base CX0 1 f fd ["self"] (spSor S) := by
  refine F.ok scSor (fun vs H Q E h => ?_) (fun cdv A outer s H vs Q E hr h => ?_)
  · obtain ⟨x, ss, ws, as, bs, cs, rfl, _⟩ := h
    rfl
  · obtain ⟨x, ss, ws, as, bs, cs, rfl, hx, k⟩ := h
    obtain ⟨dx, l1, l2, l3, l4, l5, hx, h1, h2, h3, h4, h5⟩ := hx
    refine ⟨_, (pss_one (ps_ret (pe_callTy call_list_of (by rfl) tl (by decide +kernel) (pa_cons (pe_fld (pv 0) rfl) pa_nil)))), ?_⟩
    exact ⟨_, rfl, x, S, dx, _, _, rfl, hx, TC.cl, TC.n1, schF_so _ _ _ _ _, l1, _, rfl, .inl (SqL.of h1), fun l hl => k l hl⟩
theorem scWor : FnScope ["self"] ["self"] (defScope sWor) := ⟨rfl, rfl, rfl, by decide +kernel, rfl, by decide +kernel, by decide +kernel⟩
theorem ok_wor {f S fS : Addr} {fd : FuncData} (F : Fun K "words" "Scheme.words" sWor f fd) (tl : mg "list" = none) (TC : TxSch K mg S fS) : FnOk P w K mg base CX0 1 f fd ["self"] (spWor S) := by
  refine F.ok scWor (fun vs H Q E h => ?_) (fun cdv A outer s H vs Q E hr h => ?_)
  · obtain ⟨x, ss, ws, as, bs, cs, rfl, _⟩ := h
    rfl
  · obtain ⟨x, ss, ws, as, bs, cs, rfl, hx, k⟩ := h
    obtain ⟨dx, l1, l2, l3, l4, l5, hx, h1, h2, h3, h4, h5⟩ := hx
    refine ⟨_, (pss_one (ps_ret (pe_callTy call_list_of (by rfl) tl (by decide +kernel) (pa_cons (pe_fld (pv 0) rfl) pa_nil)))), ?_⟩
    exact ⟨_, rfl, x, S, dx, _, _, rfl, hx, TC.cl, TC.n2, schF_wo _ _ _ _ _, l2, _, rfl, .inl (SqL.of h2), fun l hl => k l hl⟩
end
end Wm
namespace Wm
open PySem L2 StX
/-! ### what stands but the states of the digits -/
def NotSt (o : HO) : Prop := ∀ x y z : Int, o ≠ .lst [.int x, .int y, .int z]
def Kp (H H' : Hp) : Prop := ∀ a o, NotSt o → H a = some o → H' a = some o
theorem Kp.refl (H : Hp) : Kp H H := fun _ _ _ h => h
theorem Kp.trans {H H1 H2 : Hp} (a : Kp H H1) (b : Kp H1 H2) : Kp H H2 := fun c o n h => b c o n (a c o n h)
theorem Same.kp {H H' : Hp} (s : Same H H') : Kp H H' := fun a o _ h => s a o h
theorem But.kp {p : Addr} {H H' : Hp} (b : But p H H') (s : StOk H p) : Kp H H' := fun a o n h => by
  obtain ⟨x, y, z, e, _⟩ := s
  refine b a o (fun q => ?_) h
  rw [q, e] at h
  exact n x y z (Option.some.inj h).symm
theorem Kp.new {D : Addr} {H H' : Hp} {o : HO} (k : Kp H H') (h : H D = none) : Kp H (upd H' D o) := fun a u n e => by
  rw [upd_ne (ne_of_none e h)]
  exact k a u n e
theorem ns_tup {xs : List V} : NotSt (.tup xs) := fun _ _ _ z => by cases z
theorem ns_dK {xs : List (L2.Key × V)} : NotSt (.dK xs) := fun _ _ _ z => by cases z
theorem ns_dT {xs : List (List L2.Key × V)} : NotSt (.dT xs) := fun _ _ _ z => by cases z
theorem ns_ins {C d : Addr} {fs : List (Str × V)} : NotSt (.ins C d fs) := fun _ _ _ z => by cases z
theorem ns_strs {xs : List Str} : NotSt (.lst (xs.map V.str)) := fun _ _ _ z => by
  cases xs with
  | nil => cases z
  | cons a r =>
    have e := HO.lst.inj z
    rw [List.map_cons] at e
    cases (List.cons.inj e).1
theorem ns_refs {xs : List Addr} : NotSt (.lst (xs.map V.ref)) := fun _ _ _ z => by
  cases xs with
  | nil => cases z
  | cons a r =>
    have e := HO.lst.inj z
    rw [List.map_cons] at e
    cases (List.cons.inj e).1
theorem ns_nil : NotSt (.lst []) := fun _ _ _ z => by cases z
theorem ns_frz {ob : Obj} {u : HO} : NotSt (.frz ob u) := fun _ _ _ z => by cases z
theorem Kp.sqT {K : PySem.W.Frag} {H H' : Hp} {a : Addr} {xs : List V} (e : Kp H H') (h : SqT K H a xs) : SqT K H' a xs := by
  rcases h with (h | ⟨o, h⟩) | h
  · exact .inl (.inl (e _ _ ns_tup h))
  · exact .inl (.inr ⟨o, e _ _ ns_frz h⟩)
  · exact .inr h
theorem Kp.rows {K : PySem.W.Frag} {H H' : Hp} (e : Kp H H') {ps : List Addr} {rs : List (List V)} (h : RowsAt K H ps rs) : RowsAt K H' ps rs := rows_imp (fun q => e.sqT q) h
/-- a list is written: tuples stand -/
theorem sqT_put {K : PySem.W.Frag} {H : Hp} {l a : Addr} {ys : List V} {o : HO} {xs : List V} (hl : H l = some (.lst ys)) (h : SqT K H a xs) : SqT K (upd H l o) a xs := by
  rcases h with (h | ⟨ob, h⟩) | h
  · exact .inl (.inl (by rw [upd_ne (ne_of h hl (by intro z; cases z))]; exact h))
  · exact .inl (.inr ⟨ob, by rw [upd_ne (ne_of h hl (by intro z; cases z))]; exact h⟩)
  · exact .inr h
theorem rows_put {K : PySem.W.Frag} {H : Hp} {l : Addr} {ys : List V} {o : HO} (hl : H l = some (.lst ys)) {ps : List Addr} {rs : List (List V)} (h : RowsAt K H ps rs) : RowsAt K (upd H l o) ps rs := rows_imp (fun q => sqT_put hl q) h
theorem But.ne {p a : Addr} {H : Hp} {o : HO} (s : StOk H p) (h : H a = some o) (n : NotSt o) : a ≠ p := fun q => by
  obtain ⟨x, y, z, e, _⟩ := s
  rw [q, e] at h
  exact n x y z (Option.some.inj h).symm
/-! ### the letters of a rule's variables -/
def ltr (j : Nat) : Str := ⟨#[97 + j]⟩
theorem ltr_inj {i j : Nat} (h : ltr i = ltr j) : i = j := by
  unfold ltr at h
  have e := congrArg (fun z : Str => z.cps[0]?) h
  simp at e
  exact e
abbrev ABCD : Str := PySem.Str.ofString "abcd"
theorem abcd_at : ∀ j : Fin 4, ABCD.cps.toList[j.1]? = some (97 + j.1) := by decide +kernel
theorem abcd_len : ABCD.length = 4 := by decide +kernel
theorem abcd_cps : ABCD.cps.toList = [97, 98, 99, 100] := by decide +kernel
structure CInv (ws : List Str) (mn : Nat) (cs : List Tri) : Prop where
  m1 : 1 ≤ mn
  m4 : mn ≤ 4
  wd : ∀ t ∈ cs, t.2.1 ∈ ws
  en : ∀ z ∈ endsL cs, ∃ j, j < mn ∧ z = ltr j
  al : cs ≠ [] → ∀ j, j < mn → ltr j ∈ endsL cs
  e0 : cs = [] → mn = 1
  ha : Hangs cs
theorem endsL_app (a b : List Tri) : endsL (a ++ b) = endsL a ++ endsL b := by
  unfold endsL
  rw [List.flatMap_append]
theorem CInv.step {ws : List Str} {mn mn' x y : Nat} {cs : List Tri} {w : Str} {t : Tri} (h : CInv ws mn cs) (hx : x < mn) (hy : (mn' = mn ∧ y < mn) ∨ (mn' = mn + 1 ∧ y = mn ∧ mn < 4)) (hw : w ∈ ws) (ht : t = (ltr x, w, ltr y) ∨ t = (ltr y, w, ltr x)) : CInv ws mn' (cs ++ [t]) := by
  have e : endsL (cs ++ [t]) = endsL cs ++ [t.1, t.2.2] := by
    rw [endsL_app]
    rfl
  have hxm : ltr x ∈ [t.1, t.2.2] := by rcases ht with rfl | rfl <;> simp
  have hym : ltr y ∈ [t.1, t.2.2] := by rcases ht with rfl | rfl <;> simp
  have hmm : ∀ z ∈ [t.1, t.2.2], z = ltr x ∨ z = ltr y := fun z hz => by
    rcases ht with rfl | rfl
    · simp at hz
      exact hz
    · simp at hz
      exact hz.symm
  have m1 := h.m1
  have m4 := h.m4
  refine ⟨by omega, by omega, fun u hu => ?_, fun z hz => ?_, fun _ j hj => ?_, fun z => ?_, fun i u hi hu => ?_⟩
  · rcases List.mem_append.mp hu with q | q
    · exact h.wd u q
    · rw [List.mem_singleton.mp q]
      rcases ht with rfl | rfl <;> exact hw
  · rw [e] at hz
    rcases List.mem_append.mp hz with q | q
    · obtain ⟨j, hj, ej⟩ := h.en z q
      exact ⟨j, by omega, ej⟩
    · rcases hmm z q with rfl | rfl
      · exact ⟨x, by omega, rfl⟩
      · exact ⟨y, by omega, rfl⟩
  · rw [e]
    by_cases hc : cs = []
    · have m := h.e0 hc
      by_cases jx : j = x
      · rw [jx]
        exact List.mem_append_right _ hxm
      · have jy : j = y := by omega
        rw [jy]
        exact List.mem_append_right _ hym
    · by_cases jm : j < mn
      · exact List.mem_append_left _ (h.al hc j jm)
      · have jy : j = y := by omega
        rw [jy]
        exact List.mem_append_right _ hym
  · simp at z
  · by_cases hlt : i < cs.length
    · rw [List.getElem?_append_left hlt] at hu
      rw [List.take_append_of_le_length (Nat.le_of_lt hlt)]
      exact h.ha i u hi hu
    · have hl := (List.getElem?_eq_some_iff.mp hu).1
      rw [List.length_append, List.length_singleton] at hl
      have ei : i = cs.length := by omega
      rw [ei, List.getElem?_append_right (Nat.le_refl _)] at hu
      simp at hu
      rw [ei, List.take_append_of_le_length (Nat.le_refl _), List.take_length]
      have hc : cs ≠ [] := fun z => by rw [z] at ei; simp at ei; omega
      have q := h.al hc x hx
      rw [← hu]
      rcases ht with rfl | rfl
      · exact .inl q
      · exact .inr q
theorem CInv.nil (ws : List Str) : CInv ws 1 [] := ⟨Nat.le_refl _, by decide, fun _ h => (List.not_mem_nil h).elim, fun _ h => (List.not_mem_nil h).elim, fun h => (h rfl).elim, fun _ => rfl, fun i u _ h => by simp at h⟩
/-- the letters that the conditions speak of -/
def nmsOf (cs : List Tri) : List Str := ([0, 1, 2, 3].map ltr).filter fun z => decide (z ∈ endsL cs)
theorem ltrs_nd : ([0, 1, 2, 3].map ltr).Nodup := by decide +kernel
theorem nmsOf_nd (cs : List Tri) : (nmsOf cs).Nodup := List.Pairwise.sublist List.filter_sublist ltrs_nd
theorem nmsOf_mem {ws : List Str} {mn : Nat} {cs : List Tri} (h : CInv ws mn cs) {z : Str} : z ∈ nmsOf cs ↔ z ∈ endsL cs := by
  unfold nmsOf
  rw [List.mem_filter, decide_eq_true_eq]
  refine ⟨fun q => q.2, fun q => ⟨?_, q⟩⟩
  obtain ⟨j, hj, rfl⟩ := h.en z q
  have m4 := h.m4
  have hj4 : j ∈ [0, 1, 2, 3] := by
    have : j = 0 ∨ j = 1 ∨ j = 2 ∨ j = 3 := by omega
    simp
    exact this
  exact List.mem_map.mpr ⟨j, hj4, rfl⟩
theorem nmsOf_len (cs : List Tri) : (nmsOf cs).length ≤ 4 := Nat.le_trans (List.length_filter_le _ _) (by decide)
theorem nmsOf_pos {ws : List Str} {mn : Nat} {cs : List Tri} (h : CInv ws mn cs) (hc : cs ≠ []) : 1 ≤ (nmsOf cs).length := by
  have q := (nmsOf_mem h).mpr (h.al hc 0 (by have := h.m1; omega))
  exact List.length_pos_of_mem q
theorem ltrs_nm : ∀ z ∈ [0, 1, 2, 3].map ltr, isNm z = true ∧ z.length ≤ 12 ∧ z.cps.toList.all (fun c => decide (c < 1114112)) = true := by decide +kernel
theorem nmsOf_ok {cs : List Tri} {z : Str} (h : z ∈ nmsOf cs) : isNm z = true ∧ z.length ≤ 12 ∧ okS z := by
  have q := ltrs_nm z (List.mem_filter.mp h).1
  refine ⟨q.1, q.2.1, fun c hc => ?_⟩
  exact of_decide_eq_true (List.all_eq_true.mp q.2.2 c hc)
/-! ### a rule and a making as the law draws them -/
structure RuleOk (ss ws : List Str) (r : RlD) : Prop where
  pt : PatOk r.p.vars r.p.cs [r.g] [r.bh]
  vn : ∀ v ∈ r.p.vars, isNm v.1 = true ∧ v.1.length ≤ 12 ∧ okS v.1
  vs : ∀ v ∈ r.p.vars, ∀ z, v.2 = some z → z ∈ ss
  cw : ∀ t ∈ r.p.cs, t.2.1 ∈ ws
  gw : r.g.2.1 ∈ ws
def MRul (K : PySem.W.Frag) (H : Hp) (a : Addr) (r : RlD) : Prop := ∃ lv lc g ps qs, H a = some (.tup [.str r.p.nm, .ref lv, .ref lc, .ref g, .str r.bh]) ∧ H lv = some (.lst (ps.map V.ref)) ∧ RowsAt K H ps (r.p.vars.map varV) ∧ H lc = some (.lst (qs.map V.ref)) ∧ RowsAt K H qs (r.p.cs.map triV) ∧ H g = some (.tup (triV r.g))
theorem MRul.kp {K : PySem.W.Frag} {H H' : Hp} {a : Addr} {r : RlD} (k : Kp H H') (h : MRul K H a r) : MRul K H' a r := by
  obtain ⟨lv, lc, g, ps, qs, h1, h2, h3, h4, h5, h6⟩ := h
  exact ⟨lv, lc, g, ps, qs, k _ _ ns_tup h1, k _ _ ns_refs h2, k.rows h3, k _ _ ns_refs h4, k.rows h5, k _ _ ns_tup h6⟩
/-- none of its lists is D -/
def MRulN (K : PySem.W.Frag) (H : Hp) (D a : Addr) (r : RlD) : Prop := ∃ lv lc g ps qs, lv ≠ D ∧ lc ≠ D ∧ H a = some (.tup [.str r.p.nm, .ref lv, .ref lc, .ref g, .str r.bh]) ∧ H lv = some (.lst (ps.map V.ref)) ∧ RowsAt K H ps (r.p.vars.map varV) ∧ H lc = some (.lst (qs.map V.ref)) ∧ RowsAt K H qs (r.p.cs.map triV) ∧ H g = some (.tup (triV r.g))
theorem MRulN.weak {K : PySem.W.Frag} {H : Hp} {D a : Addr} {r : RlD} (h : MRulN K H D a r) : MRul K H a r := by
  obtain ⟨lv, lc, g, ps, qs, _, _, h⟩ := h
  exact ⟨lv, lc, g, ps, qs, h⟩
theorem MRulN.kp {K : PySem.W.Frag} {H H' : Hp} {D a : Addr} {r : RlD} (k : Kp H H') (h : MRulN K H D a r) : MRulN K H' D a r := by
  obtain ⟨lv, lc, g, ps, qs, n1, n2, h1, h2, h3, h4, h5, h6⟩ := h
  exact ⟨lv, lc, g, ps, qs, n1, n2, k _ _ ns_tup h1, k _ _ ns_refs h2, k.rows h3, k _ _ ns_refs h4, k.rows h5, k _ _ ns_tup h6⟩
theorem MRulN.put {K : PySem.W.Frag} {H : Hp} {D a : Addr} {r : RlD} {xs : List V} {o : HO} (hD : H D = some (.lst xs)) (h : MRulN K H D a r) : MRulN K (upd H D o) D a r := by
  obtain ⟨lv, lc, g, ps, qs, n1, n2, h1, h2, h3, h4, h5, h6⟩ := h
  exact ⟨lv, lc, g, ps, qs, n1, n2, (upd_ne (ne_of h1 hD (by intro z; cases z))).trans h1, (upd_ne n1).trans h2, rows_put hD h3, (upd_ne n2).trans h4, rows_put hD h5, (upd_ne (ne_of h6 hD (by intro z; cases z))).trans h6⟩
def MMak (H : Hp) (a : Addr) (m : MkD) : Prop := ∃ ld lu, H a = some (.tup [.str m.mr, .str m.md, .ref ld, .ref lu]) ∧ H ld = some (.lst (m.dn.map V.str)) ∧ H lu = some (.lst (m.up.map V.str))
theorem MMak.kp {H H' : Hp} {a : Addr} {m : MkD} (k : Kp H H') (h : MMak H a m) : MMak H' a m := by
  obtain ⟨ld, lu, h1, h2, h3⟩ := h
  exact ⟨ld, lu, k _ _ ns_tup h1, k _ _ ns_strs h2, k _ _ ns_strs h3⟩
def MMakN (H : Hp) (D a : Addr) (m : MkD) : Prop := ∃ ld lu, ld ≠ D ∧ lu ≠ D ∧ H a = some (.tup [.str m.mr, .str m.md, .ref ld, .ref lu]) ∧ H ld = some (.lst (m.dn.map V.str)) ∧ H lu = some (.lst (m.up.map V.str))
theorem MMakN.weak {H : Hp} {D a : Addr} {m : MkD} (h : MMakN H D a m) : MMak H a m := by
  obtain ⟨ld, lu, _, _, h⟩ := h
  exact ⟨ld, lu, h⟩
theorem MMakN.kp {H H' : Hp} {D a : Addr} {m : MkD} (k : Kp H H') (h : MMakN H D a m) : MMakN H' D a m := by
  obtain ⟨ld, lu, n1, n2, h1, h2, h3⟩ := h
  exact ⟨ld, lu, n1, n2, k _ _ ns_tup h1, k _ _ ns_strs h2, k _ _ ns_strs h3⟩
theorem MMakN.put {H : Hp} {D a : Addr} {m : MkD} {xs : List V} {o : HO} (hD : H D = some (.lst xs)) (h : MMakN H D a m) : MMakN (upd H D o) D a m := by
  obtain ⟨ld, lu, n1, n2, h1, h2, h3⟩ := h
  exact ⟨ld, lu, n1, n2, (upd_ne (ne_of h1 hD (by intro z; cases z))).trans h1, (upd_ne n1).trans h2, (upd_ne n2).trans h3⟩
end Wm
namespace Wm
open PySem L2 StX
abbrev scCmp : Scope := { kind := .function, names := [(".0", .local), ("_law_one", .local), ("_law_conditions", .cell)], isGenerator := false, isCoroutine := false }
theorem str_get {ws : List Str} {d : Int} (h0 : 0 ≤ d) (h1 : d < ((ws.map V.str).length : Int)) : ∃ w, w ∈ ws ∧ (ws.map V.str)[d.toNat]? = some (.str w) := by
  rw [List.length_map] at h1
  have hlt : d.toNat < ws.length := by omega
  refine ⟨ws[d.toNat], List.getElem_mem hlt, ?_⟩
  rw [List.getElem?_map, List.getElem?_eq_getElem hlt]
  rfl
theorem cut1 {a R : TS} {D : Ends} {σ : L2.St} {H : Hp} (Good : L2.St → Hp → Prop) (fin : ∀ σ' H', Good σ' H' → R D σ' H') (h : ∀ R' : TS, (∀ σ' H', Good σ' H' → R' D σ' H') → tSeq a R' D σ H) : tSeq a R D σ H := h R fin
theorem abcd_get {j c : Nat} (hj : j < 4) (h : ABCD.cps.toList[j]? = some c) : (⟨#[c]⟩ : Str) = ltr j := by
  have q := abcd_at ⟨j, hj⟩
  rw [q] at h
  cases h
  rfl
theorem sort_get {ss : List Str} {d : Int} (h0 : 0 ≤ d) (h1 : d < 2 * ((ss.map V.str).length : Int)) : ∃ o : Option Str, ((ss.map V.str) ++ (List.replicate ((ss.map V.str).length : Int).toNat [V.non]).flatten)[d.toNat]? = some (sortV o) ∧ ∀ z, o = some z → z ∈ ss := by
  rw [List.length_map] at h1 ⊢
  by_cases hd : d.toNat < ss.length
  · refine ⟨some ss[d.toNat], ?_, fun z e => by cases e; exact List.getElem_mem hd⟩
    rw [List.getElem?_append_left (by rw [List.length_map]; exact hd), List.getElem?_map, List.getElem?_eq_getElem hd]
    rfl
  · refine ⟨none, ?_, fun z e => by cases e⟩
    rw [List.getElem?_append_right (by rw [List.length_map]; omega), List.length_map, Int.toNat_natCast]
    have e : (List.replicate ss.length [V.non]).flatten = List.replicate ss.length V.non := by
      induction ss.length with
      | zero => rfl
      | succ n ih => rw [List.replicate_succ, List.replicate_succ, List.flatten_cons, ih]; rfl
    rw [e, List.getElem?_replicate, if_pos (by omega)]
    rfl
theorem ends_mem {cs : List Tri} {z : Str} : z ∈ cs.map (·.1) ++ cs.map (·.2.2) ↔ z ∈ endsL cs := by
  unfold endsL
  simp only [List.mem_append, List.mem_map, List.mem_flatMap, List.mem_cons, List.not_mem_nil, or_false]
  constructor
  · rintro (⟨t, ht, rfl⟩ | ⟨t, ht, rfl⟩)
    · exact ⟨t, ht, .inl rfl⟩
    · exact ⟨t, ht, .inr rfl⟩
  · rintro ⟨t, ht, rfl | rfl⟩
    · exact .inl ⟨t, ht, rfl⟩
    · exact .inr ⟨t, ht, rfl⟩
def spRle (K : PySem.W.Frag) : Sp := fun vs H Q _ => ∃ (p m : Addr) (nm : Str) (kvs : List (L2.Key × V)) (lw ls : Addr) (ws ss : List Str), vs = [.ref p, .ref m, .str nm] ∧ StOk H p ∧ H m = some (.dK kvs) ∧ valV kvs (Sum.inr "words") = some (.ref lw) ∧ H lw = some (.lst (ws.map V.str)) ∧ valV kvs (Sum.inr "sorts") = some (.ref ls) ∧ H ls = some (.lst (ss.map V.str)) ∧ 1 ≤ ws.length ∧ ws.length ≤ 60 ∧ 1 ≤ ss.length ∧ ss.length ≤ 60 ∧
  ∀ t (r : RlD) H', r.p.nm = nm → RuleOk ss ws r → H t = none → But p H H' → StOk H' p → (∀ D o, H D = some o → MRulN K H' D t r) → Q (.ref t) H'
section
variable {P : Program} {w : World} {K : PySem.W.Frag} {mg : Str → Option Value} {base : Heap}
theorem scRle : FnScope ["_law_s", "_law_m", "_law_name_here", "_law_count", "_law_many", "_law_conditions", "_law_k", "_law_x", "_law_y", "_law_ends", "_law_turned", "_law_word", "_law_one", "_law_names_here", "_law_variables", "_law_kind", "_law_gives"] ["_law_s", "_law_m", "_law_name_here"] (defScope sRle) := ⟨rfl, rfl, rfl, by decide +kernel, rfl, by decide +kernel, by decide +kernel⟩
theorem ok_rle {f fG : Addr} {fd dG : FuncData} (F : Fun K "_law_rule" "_law_rule" sRle f fd) (T : TxB mg) (hmin : mg "min" = none) (DG : Dn K mg "_law_digit" sDigit ["_law_state_here", "_law_base"] fG dG) : FnOk P w K mg base CX0 2 f fd ["_law_s", "_law_m", "_law_name_here"] (spRle K) := by
  have GG : FnOk P w K mg base CX0 1 fG dG _ spDigit := ok_digit DG.F
  refine F.ok scRle (fun vs H Q E h => ?_) (fun cdv A outer s H vs Q E hr h => ?_)
  · obtain ⟨p, m, nm, kvs, lw, ls, ws, ss, rfl, _⟩ := h
    rfl
  · obtain ⟨p, m, nm, kvs, lw, ls, ws, ss, rfl, hS, hm, hgw, hw, hgs, hs, w1, w9, s1, s9, k⟩ := h
    have hr1 : Room 1 _ := hr
    have hu := hu_of hr
    refine ⟨_, (pss_cons (ps_set (i := 3) scRle.nd rfl (Or.inl rfl) (pe_op op_add (pe_op op_add pe_int (pe_op op_fdiv (pe_call GG hr1 rfl DG.g DG.F.kp DG.b .nil pass0 (pa_cons (pv 0) (pa_cons pe_int pa_nil))) pe_int)) (pe_callTy call_int1 (by rfl) T.int (by decide +kernel) (pa_cons (pe_cmpR op_eq (pe_call GG hr1 rfl DG.g DG.F.kp DG.b .nil pass0 (pa_cons (pv 0) (pa_cons pe_int pa_nil))) pe_int (nomark _)) pa_nil))))
      (pss_cons (ps_set (i := 4) scRle.nd rfl (Or.inl rfl) pe_int)
      (pss_cons (ps_set (i := 5) scRle.nd rfl (Or.inr rfl) (pe_lst pa_nil))
      (pss_cons (ps_for PassesOwn.never rfl (pi_range1 rfl T.range (pa_cons (pe_callB (call_min2 rfl) (by rfl) hmin (by decide +kernel) (pa_cons (pv 3) (pa_cons pe_int pa_nil))) pa_nil)) (pg_name (i := 6) scRle.nd rfl (Or.inl rfl)) (pss_cons (ps_set (i := 7) scRle.nd rfl (Or.inl rfl) (pe_call GG hr1 rfl DG.g DG.F.kp DG.b .nil pass0 (pa_cons (pv 0) (pa_cons (pv 4) pa_nil))))
      (pss_cons (ps_set (i := 8) scRle.nd rfl (Or.inl rfl) (pe_call GG hr1 rfl DG.g DG.F.kp DG.b .nil pass0 (pa_cons (pv 0) (pa_cons pe_int pa_nil))))
      (pss_cons (ps_if (PW.pt (pw_and (pt_cmpR op_ge (pv 8) (pv 4) (nomark _)) (pw_and1 (pt_cmpR op_lt (pv 4) pe_int (nomark _))))) (pss_cons (ps_set (i := 8) scRle.nd rfl (Or.inl rfl) (pv 4))
      (pss_one (ps_set (i := 4) scRle.nd rfl (Or.inl rfl) (pe_op op_add (pv 4) pe_int)))) pss_nil)
      (pss_cons (ps_set (i := 9) scRle.nd rfl (Or.inl rfl) (pe_lst (pa_cons (pe_ix ix_str pe_str (pv 7) (fun _ _ => rfl)) (pa_cons (pe_ix ix_str pe_str (pe_op op_mod (pv 8) (pv 4)) (fun _ _ => rfl)) pa_nil))))
      (pss_cons (ps_set (i := 10) scRle.nd rfl (Or.inl rfl) (pe_call GG hr1 rfl DG.g DG.F.kp DG.b .nil pass0 (pa_cons (pv 0) (pa_cons pe_int pa_nil))))
      (pss_cons (ps_set (i := 11) scRle.nd rfl (Or.inl rfl) (pe_ix ix_list (pe_dget hu (pv 1) pe_str (fun _ _ => rfl)) (pe_call GG hr1 rfl DG.g DG.F.kp DG.b .nil pass0 (pa_cons (pv 0) (pa_cons (pe_callB call_len_seq (by rfl) T.len (by decide +kernel) (pa_cons (pe_dget hu (pv 1) pe_str (fun _ _ => rfl)) pa_nil)) pa_nil))) (fun _ _ => rfl)))
      (pss_one (ps_expr (pe_bm PySem.F.plainAttrs_list PySem.F.slot_list_append PySem.F.type_list_append mt_append (pv 5) (pa_cons (pe_tup (pa_cons (pe_ix ix_list (pv 9) (pv 10) (fun _ _ => rfl)) (pa_cons (pv 11) (pa_cons (pe_ix ix_list (pv 9) (pe_op op_sub pe_int (pv 10)) (fun _ _ => rfl)) pa_nil)))) pa_nil)))))))))))
      (pss_cons (ps_setLc (i := 13) (own := [("_law_one", 12)]) (g := gName 12) (tt := tTest (tOp (rIn K false) (tVar 12) (tOp rCat (tLc (iList K (tVar 5)) (gTup K 3 (gCons (gName 7) (gCons (gName 11) (gCons (gName 8) gNil)))) tYes (tVar 7) [7, 11, 8]) (tLc (iList K (tVar 5)) (gTup K 3 (gCons (gName 7) (gCons (gName 11) (gCons (gName 8) gNil)))) tYes (tVar 8) [7, 11, 8])))) (te := tVar 12) rfl scRle.nd rfl rfl (sw_true rfl rfl rfl (by decide +kernel)) (pi_str pe_str) (blkOk_by (N := ["_law_s", "_law_m", "_law_name_here", "_law_count", "_law_many", "_law_conditions", "_law_k", "_law_x", "_law_y", "_law_ends", "_law_turned", "_law_word", "_law_one", "_law_names_here", "_law_variables", "_law_kind", "_law_gives"]) (sc := defScope sRle) (by decide +kernel)) (fun _ _ _ _ _ => (pg_name (i := 12) scRle.nd rfl (Or.inl rfl))) (fun _ _ _ _ _ => (pts_one (pt_cmpR op_in_seq (pv 12) (pe_op op_cat (pe_lc (own := [("_law_x", 7), ("_law_word", 11), ("_law_y", 8)]) (g := gTup K 3 (gCons (gName 7) (gCons (gName 11) (gCons (gName 8) gNil)))) (wi := iList K (tVar 5)) (tt := tYes) (te := tVar 7) rfl scRle.nd (pi_list (pv 5)) (blkOk_by (N := ["_law_s", "_law_m", "_law_name_here", "_law_count", "_law_many", "_law_conditions", "_law_k", "_law_x", "_law_y", "_law_ends", "_law_turned", "_law_word", "_law_one", "_law_names_here", "_law_variables", "_law_kind", "_law_gives"]) (sc := scCmp) (by decide +kernel)) (fun _ _ _ _ _ => (pg_tup rfl (pgs_cons (pg_name (i := 7) scRle.nd rfl (Or.inl rfl)) (pgs_cons (pg_name (i := 11) scRle.nd rfl (Or.inl rfl)) (pgs_cons (pg_name (i := 8) scRle.nd rfl (Or.inl rfl)) pgs_nil))))) (fun _ _ _ _ _ => pts_nil) (fun _ _ _ _ _ => (pv 7))) (pe_lc (own := [("_law_x", 7), ("_law_word", 11), ("_law_y", 8)]) (g := gTup K 3 (gCons (gName 7) (gCons (gName 11) (gCons (gName 8) gNil)))) (wi := iList K (tVar 5)) (tt := tYes) (te := tVar 8) rfl scRle.nd (pi_list (pv 5)) (blkOk_by (N := ["_law_s", "_law_m", "_law_name_here", "_law_count", "_law_many", "_law_conditions", "_law_k", "_law_x", "_law_y", "_law_ends", "_law_turned", "_law_word", "_law_one", "_law_names_here", "_law_variables", "_law_kind", "_law_gives"]) (sc := scCmp) (by decide +kernel)) (fun _ _ _ _ _ => (pg_tup rfl (pgs_cons (pg_name (i := 7) scRle.nd rfl (Or.inl rfl)) (pgs_cons (pg_name (i := 11) scRle.nd rfl (Or.inl rfl)) (pgs_cons (pg_name (i := 8) scRle.nd rfl (Or.inl rfl)) pgs_nil))))) (fun _ _ _ _ _ => pts_nil) (fun _ _ _ _ _ => (pv 8)))) (by rfl)))) (fun _ _ _ _ _ => (pv 12)))
      (pss_cons (ps_set (i := 14) scRle.nd rfl (Or.inl rfl) (pe_lst pa_nil))
      (pss_cons (ps_for PassesOwn.never rfl (pi_list (pv 13)) (pg_name (i := 12) scRle.nd rfl (Or.inl rfl)) (pss_cons (ps_set (i := 15) scRle.nd rfl (Or.inl rfl) (pe_call GG hr1 rfl DG.g DG.F.kp DG.b .nil pass0 (pa_cons (pv 0) (pa_cons (pe_op op_mul pe_int (pe_callB call_len_seq (by rfl) T.len (by decide +kernel) (pa_cons (pe_dget hu (pv 1) pe_str (fun _ _ => rfl)) pa_nil))) pa_nil))))
      (pss_one (ps_expr (pe_bm PySem.F.plainAttrs_list PySem.F.slot_list_append PySem.F.type_list_append mt_append (pv 14) (pa_cons (pe_tup (pa_cons (pv 12) (pa_cons (pe_ix ix_list (pe_op op_cat (pe_dget hu (pv 1) pe_str (fun _ _ => rfl)) (pe_op op_rep (pe_lst (pa_cons pe_non pa_nil)) (pe_callB call_len_seq (by rfl) T.len (by decide +kernel) (pa_cons (pe_dget hu (pv 1) pe_str (fun _ _ => rfl)) pa_nil)))) (pv 15) (fun _ _ => rfl)) pa_nil))) pa_nil))))))
      (pss_cons (ps_set (i := 11) scRle.nd rfl (Or.inl rfl) (pe_ix ix_list (pe_dget hu (pv 1) pe_str (fun _ _ => rfl)) (pe_call GG hr1 rfl DG.g DG.F.kp DG.b .nil pass0 (pa_cons (pv 0) (pa_cons (pe_callB call_len_seq (by rfl) T.len (by decide +kernel) (pa_cons (pe_dget hu (pv 1) pe_str (fun _ _ => rfl)) pa_nil)) pa_nil))) (fun _ _ => rfl)))
      (pss_cons (ps_set (i := 16) scRle.nd rfl (Or.inl rfl) (pe_tup (pa_cons (pe_ix ix_list (pv 13) (pe_call GG hr1 rfl DG.g DG.F.kp DG.b .nil pass0 (pa_cons (pv 0) (pa_cons (pe_callB call_len_seq (by rfl) T.len (by decide +kernel) (pa_cons (pv 13) pa_nil)) pa_nil))) (fun _ _ => rfl)) (pa_cons (pv 11) (pa_cons (pe_ix ix_list (pv 13) (pe_call GG hr1 rfl DG.g DG.F.kp DG.b .nil pass0 (pa_cons (pv 0) (pa_cons (pe_callB call_len_seq (by rfl) T.len (by decide +kernel) (pa_cons (pv 13) pa_nil)) pa_nil))) (fun _ _ => rfl)) pa_nil)))))
      (pss_one (ps_ret (pe_tup (pa_cons (pv 2) (pa_cons (pv 14) (pa_cons (pv 5) (pa_cons (pv 16) (pa_cons (pe_ix ix_list (pv 13) (pe_call GG hr1 rfl DG.g DG.F.kp DG.b .nil pass0 (pa_cons (pv 0) (pa_cons (pe_callB call_len_seq (by rfl) T.len (by decide +kernel) (pa_cons (pv 13) pa_nil)) pa_nil))) (fun _ _ => rfl)) pa_nil))))))))))))))))), ?_⟩
    have dgw : ∀ {H' : Hp}, H' m = some (.dK kvs) → DGet H' m (.str "words") (some (.ref lw)) := fun {H'} h => hgw ▸ DGet.k (k := Sum.inr "words") h
    have dgs : ∀ {H' : Hp}, H' m = some (.dK kvs) → DGet H' m (.str "sorts") (some (.ref ls)) := fun {H'} h => hgs ▸ DGet.k (k := Sum.inr "sorts") h
    have wlen : ((ws.map V.str).length : Int) = ws.length := by rw [List.length_map]
    refine ⟨_, rfl, p, 5, rfl, hS, by decide, by decide, fun d1 H1 a1 b1 B1 S1 => ⟨_, _, rfl, rfl, ⟨by decide, by decide⟩, _, _, rfl, rfl, _, rfl, p, 8, rfl, S1, by decide, by decide, fun d2 H2 a2 b2 B2 S2 => ⟨rfl, .inr ⟨_, rfl, _, _, rfl, rfl, ?_⟩⟩⟩⟩
    dsimp only [List.set_cons_succ, List.set_cons_zero]
    generalize hc : (1 + d1 / 2 + if decide (V.int d2 = V.int 7) = true then (1 : Int) else 0) = c
    have c1 : 1 ≤ c ∧ c ≤ 4 := by
      rw [← hc]
      have q1 : 0 ≤ d1 / 2 := Int.ediv_nonneg a1 (by decide)
      have q2 : d1 / 2 ≤ 2 := by omega
      split <;> omega
    clear hc
    refine ⟨Nat.zero_le _, fun lc hlc => ?_⟩
    dsimp only [List.set_cons_succ, List.set_cons_zero]
    have B12 := B1.trans B2
    have nlp : lc ≠ p := st_free S2 hlc
    have lc0 : H lc = none := B12.free nlp hlc
    refine ⟨_, rfl, _, _, rfl, _, rfl, by split <;> omega, by split <;> omega, ?_⟩
    generalize hn : (if (3 : Int) < c then 3 else c) = n
    have n13 : 1 ≤ n ∧ n ≤ 3 := by
      rw [← hn]
      split <;> omega
    refine for_range (n := n.toNat) (fun i σ H' => ∃ (mn : Nat) (cs : List Tri) (qs : List Addr) (u6 u7 u8 u9 u10 u11 : Option V), σ = [some (.ref p), some (.ref m), some (.str nm), some (.int c), some (.int mn), some (.ref lc), u6, u7, u8, u9, u10, u11, none, none, none, none, none] ∧
      H' lc = some (.lst (qs.map V.ref)) ∧ RowsAt K H' qs (cs.map triV) ∧ CInv ws mn cs ∧ cs.length = i ∧ But p H H' ∧ StOk H' p) ⟨1, [], [], none, none, none, none, none, none, rfl, upd_same, True.intro, CInv.nil ws, rfl, but_new B12 nlp lc0, S2.upd nlp⟩ ?_ ?_
    · rintro i σ H3 hi ⟨mn, cs, qs, u6, u7, u8, u9, u10, u11, rfl, hl, hrow, ci, len, B, S⟩
      have m1 := ci.m1
      have m4 := ci.m4
      refine ⟨_, rfl, _, rfl, p, mn, rfl, S, by omega, by omega, fun x H4 x0 x1 B4 S4 => ?_⟩
      dsimp only [gName, List.set_cons_succ, List.set_cons_zero]
      refine ⟨_, rfl, p, 5, rfl, S4, by decide, by decide, fun y H5 y0 y1 B5 S5 => ?_⟩
      dsimp only [gName, List.set_cons_succ, List.set_cons_zero]
      have B5' := (B.trans B4).trans B5
      have kp5 := (B4.kp S).trans (B5.kp S4)
      refine cut1 (fun σ' H' => ∃ (mn' y2 : Nat) (yv : Int) (v6 : Option V), σ' = [some (.ref p), some (.ref m), some (.str nm), some (.int c), some (.int mn'), some (.ref lc), v6, some (.int x), some (.int yv), u9, u10, u11, none, none, none, none, none] ∧ H' = H5 ∧ yv % (mn' : Int) = y2 ∧ ((mn' = mn ∧ y2 < mn) ∨ (mn' = mn + 1 ∧ y2 = mn ∧ mn < 4))) ?_ (fun R' fin => ?_)
      · rintro σ' H' ⟨mn', y2, yv, v6, rfl, rfl, ey, hy⟩
        have xe : x = ((x.toNat : Nat) : Int) := by omega
        refine ⟨_, rfl, rdItem abcd_len x0 (by omega) (by decide) fun e1 he1 => ⟨_, rfl, _, rfl, _, _, rfl, rfl, by omega, rdItem abcd_len (by omega) (by omega) (by decide) fun e2 he2 => ⟨by show 2 ≤ sizeLine; decide, fun le hle => ?_⟩⟩⟩
        dsimp only [gName, List.set_cons_succ, List.set_cons_zero]
        rw [abcd_get (by omega) he1] at *
        rw [ey, Int.toNat_natCast] at he2
        rw [abcd_get (by omega) he2] at *
        have S6a : Same H' (upd H' le (.lst [.str (ltr x.toNat), .str (ltr y2)])) := Same.upd hle
        have e6 : (upd H' le (.lst [.str (ltr x.toNat), .str (ltr y2)])) le = some (.lst ([ltr x.toNat, ltr y2].map V.str)) := upd_same
        have nle : le ≠ p := st_free S5 hle
        have le0 : H le = none := B5'.free nle hle
        have S6 : StOk (upd H' le (.lst [.str (ltr x.toNat), .str (ltr y2)])) p := S5.upd nle
        have B6 : But p H (upd H' le (.lst [.str (ltr x.toNat), .str (ltr y2)])) := but_new B5' nle le0
        generalize upd H' le (.lst [.str (ltr x.toNat), .str (ltr y2)]) = H6 at S6a e6 S6 B6
        refine ⟨_, rfl, p, 2, rfl, S6, by decide, by decide, fun tn H7 t0 t1 B7 S7 => ?_⟩
        dsimp only [gName, List.set_cons_succ, List.set_cons_zero]
        have kp7 := (kp5.trans (Same.kp S6a)).trans (B7.kp S6)
        have B7' := B6.trans B7
        have nmp : m ≠ p := But.ne hS hm ns_dK
        have nwp : lw ≠ p := But.ne hS hw ns_strs
        have hm7 := B7' _ _ nmp hm
        have hw7 := B7' _ _ nwp hw
        refine ⟨_, rfl, m, _, rfl, dgw hm7, _, rfl, _, rfl, m, _, rfl, dgw hm7, lw, _, rfl, .inl (SqL.of hw7), p, _, rfl, S7, by rw [wlen]; omega, by rw [wlen]; omega, fun dw H8 w0 w1' B8 S8 => ?_⟩
        obtain ⟨wd, hwd, ewd⟩ := str_get w0 w1'
        have B8' := B7'.trans B8
        refine rdList (B8' _ _ nwp hw) (j := dw.toNat) (by omega) ewd ?_
        dsimp only [gName, List.set_cons_succ, List.set_cons_zero]
        have kp8 := kp7.trans (B8.kp S7)
        have hl8 := kp8 _ _ ns_refs hl
        have hrow8 := kp8.rows hrow
        have e8 : H8 le = some (.lst ([ltr x.toNat, ltr y2].map V.str)) := (B7.kp S6).trans (B8.kp S7) _ _ ns_strs e6
        obtain ⟨z1, z2, g1, g2, hz⟩ : ∃ z1 z2 : Str, ([ltr x.toNat, ltr y2].map V.str)[tn.toNat]? = some (.str z1) ∧ ([ltr x.toNat, ltr y2].map V.str)[(1 - tn).toNat]? = some (.str z2) ∧ ((z1, wd, z2) = (ltr x.toNat, wd, ltr y2) ∨ (z1, wd, z2) = (ltr y2, wd, ltr x.toNat)) := by
          rcases (by omega : tn = 0 ∨ tn = 1) with rfl | rfl
          · exact ⟨_, _, rfl, rfl, .inl rfl⟩
          · exact ⟨_, _, rfl, rfl, .inr rfl⟩
        refine ⟨_, rfl, .inl ⟨rfl, _, SqL.of hl8⟩, _, rfl, _, rfl, rdList e8 (j := tn.toNat) (by omega) g1 ⟨_, rfl, _, rfl, _, rfl, _, _, rfl, rfl, rdList e8 (j := (1 - tn).toNat) (by omega) g2 ⟨by show 3 ≤ sizeLine; decide, fun tt htt => ?_⟩⟩⟩
        have S9 : Same H8 (upd H8 tt (.tup [.str z1, .str wd, .str z2])) := Same.upd htt
        have e9 : (upd H8 tt (.tup [.str z1, .str wd, .str z2])) tt = some (.tup (triV (z1, wd, z2))) := upd_same
        have ntp : tt ≠ p := st_free S8 htt
        have tt0 : H tt = none := B8'.free ntp htt
        have st9 : StOk (upd H8 tt (.tup [.str z1, .str wd, .str z2])) p := S8.upd ntp
        have B9 : But p H (upd H8 tt (.tup [.str z1, .str wd, .str z2])) := but_new B8' ntp tt0
        generalize upd H8 tt (.tup [.str z1, .str wd, .str z2]) = H9 at S9 e9 st9 B9
        have hl9 := S9 _ _ hl8
        refine ⟨lc, _, _, rfl, rfl, hl9, ?_, ?_⟩
        · have q := hrow.len
          rw [List.length_map] at q ⊢
          exact Nat.lt_of_le_of_lt (show _ ≤ 1000 by omega) (by decide)
        · refine ⟨mn', cs ++ [(z1, wd, z2)], qs ++ [tt], _, _, _, _, _, _, rfl, ?_, ?_, ci.step (x := x.toNat) (by omega) hy hwd hz, ?_, but_new B9 nlp lc0, st9.upd nlp⟩
          · rw [upd_same, List.map_append]
            rfl
          · rw [List.map_append]
            exact RowsAt.append (rows_put hl9 (hrow8.same S9)) ⟨sqT_put hl9 (SqT.of e9), True.intro⟩
          · rw [List.length_append, List.length_singleton, len]
      · refine ⟨_, rfl, _, rfl, _, _, rfl, rfl, _, rfl, ?_⟩
        refine ite2 (fun hq => ?_) (fun hq => ?_)
        · refine ⟨_, rfl, _, _, rfl, rfl, _, rfl, ?_⟩
          refine ite2 (fun hq2 => ?_) (fun hq2 => ?_)
          · refine ⟨_, rfl, ?_⟩
            dsimp only [gName, List.set_cons_succ, List.set_cons_zero]
            refine ⟨_, rfl, _, _, rfl, rfl, ?_⟩
            dsimp only [gName, List.set_cons_succ, List.set_cons_zero]
            have h4 : (mn : Int) < 4 := of_decide_eq_true hq2
            refine fin _ _ ⟨mn + 1, mn, _, _, rfl, rfl, ?_, .inr ⟨rfl, rfl, by omega⟩⟩
            exact Int.emod_eq_of_lt (by omega) (by omega)
          · exact fin _ _ ⟨mn, (y % (mn : Int)).toNat, y, _, rfl, rfl, by have := Int.emod_nonneg y (show (mn : Int) ≠ 0 by omega); omega, .inl ⟨rfl, by have := Int.emod_lt_of_pos y (show (0 : Int) < mn by omega); omega⟩⟩
        · exact fin _ _ ⟨mn, (y % (mn : Int)).toNat, y, _, rfl, rfl, by have := Int.emod_nonneg y (show (mn : Int) ≠ 0 by omega); omega, .inl ⟨rfl, by have := Int.emod_lt_of_pos y (show (0 : Int) < mn by omega); omega⟩⟩
    rintro σ H3 ⟨mn, cs, qs, u6, u7, u8, u9, u10, u11, rfl, hl, hrow, ci, len, B, S⟩
    have cne : cs ≠ [] := fun z => by rw [z] at len; simp at len; omega
    have cs3 : cs.length ≤ 3 := by omega
    have qcl : qs.length = cs.length := by
      have q := hrow.len
      rw [List.length_map] at q
      exact q
    refine ⟨_, rfl, fun ln hln => ?_⟩
    have nnp : ln ≠ p := st_free S hln
    have ln0 : H ln = none := B.free nnp hln
    refine lc_it (walk_str (z := ABCD)) (fun i H' => Same H3 H' ∧ H' ln = some (.lst (((([0, 1, 2, 3].map ltr).take i).filter fun z => decide (z ∈ endsL cs)).map V.str))) ⟨Same.upd hln, upd_same⟩ (fun _ _ _ _ => True.intro) ?_ ?_
    · rintro i x H4 H4' hi ⟨hS4, hd4⟩ ⟨rfl, e, he, rfl⟩
      have hi4 : i < 4 := hi
      have hez : (⟨#[e]⟩ : Str) = ltr i := abcd_get hi4 (by simpa using he)
      have hl4 := hS4 _ _ hl
      have hrow4 := hrow.same hS4
      have nlc : lc ≠ ln := ne_of_none hl hln
      refine ⟨rfl, _, rfl, _, rfl, lc, rfl, ⟨_, SqL.of hl4⟩, fun D1 hD1 => ?_⟩
      refine lc_list (K := K) (a := lc) (xs := qs.map V.ref) (fun j H' => Same H4' H' ∧ H' D1 = some (.lst (((cs.take j).map (·.1)).map V.str))) ⟨Same.upd hD1, upd_same⟩ (fun j H' _ p => SqL.of (p.1 _ _ hl4)) ?_ ?_
      · rintro j x H5 hx ⟨hS5, hd5⟩
        obtain ⟨q, hq, rfl⟩ := map_ref_get hx
        obtain ⟨r, hr1, hr'⟩ := hrow4.get hq
        obtain ⟨t, ht, rfl⟩ := tri_get hr1
        refine ⟨q, _, rfl, same_seqT hS5 hr', rfl, _, _, rfl, _, _, rfl, _, _, rfl, rfl, rfl, _, rfl, _, hd5, ?_, ?_, ?_⟩
        · rw [List.length_map, List.length_map, List.length_take]
          exact Nat.lt_of_le_of_lt (show _ ≤ 1000 by omega) (by decide)
        · exact fun b o e => by rw [upd_ne (ne_of_none e hD1)]; exact hS5 b o e
        · rw [upd_same, List.take_add_one, ht, List.map_append, List.map_append]
          rfl
      rintro H5 ⟨hS5, hd5⟩
      rw [List.length_map, qcl, List.take_length] at hd5
      have hl5 := hS5 _ _ hl4
      have hrow5 := hrow4.same hS5
      refine ⟨_, rfl, lc, rfl, ⟨_, SqL.of hl5⟩, fun D2 hD2 => ?_⟩
      refine lc_list (K := K) (a := lc) (xs := qs.map V.ref) (fun j H' => Same H5 H' ∧ H' D2 = some (.lst (((cs.take j).map (·.2.2)).map V.str))) ⟨Same.upd hD2, upd_same⟩ (fun j H' _ p => SqL.of (p.1 _ _ hl5)) ?_ ?_
      · rintro j x H6 hx ⟨hS6, hd6⟩
        obtain ⟨q, hq, rfl⟩ := map_ref_get hx
        obtain ⟨r, hr1, hr'⟩ := hrow5.get hq
        obtain ⟨t, ht, rfl⟩ := tri_get hr1
        refine ⟨q, _, rfl, same_seqT hS6 hr', rfl, _, _, rfl, _, _, rfl, _, _, rfl, rfl, rfl, _, rfl, _, hd6, ?_, ?_, ?_⟩
        · rw [List.length_map, List.length_map, List.length_take]
          exact Nat.lt_of_le_of_lt (show _ ≤ 1000 by omega) (by decide)
        · exact fun b o e => by rw [upd_ne (ne_of_none e hD2)]; exact hS6 b o e
        · rw [upd_same, List.take_add_one, ht, List.map_append, List.map_append]
          rfl
      rintro H6 ⟨hS6, hd6⟩
      rw [List.length_map, qcl, List.take_length] at hd6
      refine ⟨D1, D2, _, _, rfl, rfl, hS6 _ _ hd5, hd6, ?_, fun D3 hD3 => ?_⟩
      · rw [List.length_map, List.length_map, List.length_map, List.length_map]
        exact Nat.le_trans (show _ ≤ 1000 by omega) (by decide)
      have hS7 : Same H4' (upd H6 D3 (.lst (((cs.map (·.1)).map V.str) ++ ((cs.map (·.2.2)).map V.str)))) := (hS5.trans hS6).trans (Same.upd hD3)
      refine ⟨D3, _, rfl, .inl (SqL.of upd_same), rfl, ?_, ?_⟩
      · rw [← List.map_append]
        exact flats _
      rw [← List.map_append] at hS7 ⊢
      have hD7 : H4' ln = some _ := hd4
      generalize upd H6 D3 (.lst ((cs.map (·.1) ++ cs.map (·.2.2)).map V.str)) = H7 at hS7
      have hd7 := hS7 _ _ hd4
      have e3 : (if false = true then !inV (.str ⟨#[e]⟩) ((cs.map (·.1) ++ cs.map (·.2.2)).map V.str) else inV (.str ⟨#[e]⟩) ((cs.map (·.1) ++ cs.map (·.2.2)).map V.str)) = decide (ltr i ∈ endsL cs) := by
        rw [if_neg (by decide), inV_strs, hez]
        exact decide_eq_decide.mpr ends_mem
      refine ⟨_, rfl, ?_⟩
      rw [e3]
      have et : (([0, 1, 2, 3].map ltr).take (i + 1)) = (([0, 1, 2, 3].map ltr).take i) ++ [ltr i] := by
        rw [List.take_add_one]
        congr 1
        rcases (by omega : i = 0 ∨ i = 1 ∨ i = 2 ∨ i = 3) with rfl | rfl | rfl | rfl <;> rfl
      by_cases hm4 : ltr i ∈ endsL cs
      · rw [decide_eq_true hm4]
        refine iteT ⟨_, rfl, _, hd7, ?_, ?_, ?_⟩
        · rw [List.length_map]
          exact Nat.lt_of_le_of_lt (Nat.le_trans (List.length_filter_le _ _) (show _ ≤ 1000 by rw [List.length_take]; omega)) (by decide)
        · exact fun b o e => by rw [upd_ne (ne_of_none e hln)]; exact hS7 b o (hS4 b o e)
        · rw [upd_same, et, List.filter_append, List.filter_cons, if_pos (decide_eq_true hm4), List.filter_nil, List.map_append, hez]
          rfl
      · rw [decide_eq_false hm4]
        refine iteF ⟨hS4.trans hS7, ?_⟩
        rw [hd7, et, List.filter_append, List.filter_cons, if_neg (by rw [decide_eq_false hm4]; decide), List.filter_nil, List.append_nil]
    rintro H4 ⟨hS4, hd4⟩
    have hd4 : H4 ln = some (.lst ((nmsOf cs).map V.str)) := hd4
    dsimp only [gName, List.set_cons_succ, List.set_cons_zero]
    have B4 : But p H H4 := fun q o n e => hS4 _ _ (B q o n e)
    have S4 := S.same hS4
    have hl4 := hS4 _ _ hl
    have hrow4 := hrow.same hS4
    have nl := nmsOf_len cs
    have n1 := nmsOf_pos ci cne
    refine ⟨Nat.zero_le _, fun lv hlv => ?_⟩
    dsimp only [gName, List.set_cons_succ, List.set_cons_zero]
    have nvp : lv ≠ p := st_free S4 hlv
    have lv0 : H lv = none := B4.free nvp hlv
    have nvn : ln ≠ lv := ne_of_none hd4 hlv
    have nvc : lc ≠ lv := ne_of_none hl4 hlv
    have nmp : m ≠ p := But.ne hS hm ns_dK
    have nwp : lw ≠ p := But.ne hS hw ns_strs
    have nsp : ls ≠ p := But.ne hS hs ns_strs
    refine ⟨_, rfl, ln, rfl, ⟨_, SqL.of ((upd_ne nvn).trans hd4)⟩, for_list (K := K) (a := ln) (xs := (nmsOf cs).map V.str) (fun i σ H' => ∃ (u12 u15 : Option V) (vs : List Var) (ps : List Addr), σ = [some (.ref p), some (.ref m), some (.str nm), some (.int c), some (.int mn), some (.ref lc), u6, u7, u8, u9, u10, u11, u12, some (.ref ln), some (.ref lv), u15, none] ∧
      H' ln = some (.lst ((nmsOf cs).map V.str)) ∧ H' lv = some (.lst (ps.map V.ref)) ∧ RowsAt K H' ps (vs.map varV) ∧ vs.map (·.1) = (nmsOf cs).take i ∧ (∀ v ∈ vs, ∀ z, v.2 = some z → z ∈ ss) ∧ But p H H' ∧ StOk H' p ∧ H' lc = some (.lst (qs.map V.ref)) ∧ RowsAt K H' qs (cs.map triV))
      ⟨_, _, [], [], rfl, (upd_ne nvn).trans hd4, upd_same, True.intro, rfl, fun _ h => (List.not_mem_nil h).elim, but_new B4 nvp lv0, S4.upd nvp, (upd_ne nvc).trans hl4, hrow4.same (Same.upd hlv)⟩ (fun i σ H' _ ⟨_, _, _, _, _, h, _⟩ => SqL.of h) ?_ ?_⟩
    · rintro i x σ H5 hx ⟨u12, u15, vs, ps, rfl, hn5, hv5, hr5, ev, hvs, B5, S5, hl5, hrow5⟩
      obtain ⟨z, hz, rfl⟩ := map_str_get hx
      dsimp only [gName, List.set_cons_succ, List.set_cons_zero]
      have slen : ((ss.map V.str).length : Int) = ss.length := by rw [List.length_map]
      have hm5 := B5 _ _ nmp hm
      refine ⟨_, rfl, _, rfl, m, _, rfl, dgs hm5, ls, _, rfl, .inl (SqL.of (B5 _ _ nsp hs)), _, _, rfl, rfl, .inl ⟨by decide, by decide⟩, p, _, rfl, S5, by rw [slen]; omega, by rw [slen]; omega, fun kd H6 k0 k1 B6 S6 => ?_⟩
      dsimp only [gName, List.set_cons_succ, List.set_cons_zero]
      have B6' := B5.trans B6
      have kp6 := B6.kp S5
      have hm6 := B6' _ _ nmp hm
      have hs6 := B6' _ _ nsp hs
      have hv6 := kp6 _ _ ns_refs hv5
      obtain ⟨o, eo, ho⟩ := sort_get k0 k1
      refine ⟨_, rfl, .inl ⟨rfl, _, SqL.of hv6⟩, _, rfl, _, rfl, m, _, rfl, dgs hm6, by show 1 ≤ sizeLine; decide, fun l1 hl1 => ?_⟩
      have T1 : Same H6 (upd H6 l1 (.lst [.non])) := Same.upd hl1
      refine ⟨_, rfl, m, _, rfl, dgs (T1 _ _ hm6), ls, _, rfl, .inl (SqL.of (T1 _ _ hs6)), l1, _, _, rfl, rfl, upd_same, by rw [slen]; omega, by rw [slen]; omega, ?_, fun l2 hl2 => ?_⟩
      · rw [List.length_map]
        show 1 * _ ≤ sizeLine
        rw [Int.toNat_natCast]
        exact Nat.le_trans (show _ ≤ 1000 by omega) (by decide)
      have T2 := Same.upd (o := .lst (List.replicate ((ss.map V.str).length : Int).toNat [V.non]).flatten) hl2
      refine ⟨ls, l2, _, _, rfl, rfl, T2 _ _ (T1 _ _ hs6), upd_same, ?_, fun l3 hl3 => ?_⟩
      · rw [List.length_flatten, List.map_replicate, List.sum_replicate_nat, List.length_map, Int.toNat_natCast]
        exact Nat.le_trans (show _ ≤ 1000 by simp; omega) (by decide)
      have T3 := Same.upd (o := .lst ((ss.map V.str) ++ (List.replicate ((ss.map V.str).length : Int).toNat [V.non]).flatten)) hl3
      refine ⟨_, rfl, rdList upd_same (j := kd.toNat) (by omega) eo ⟨by show 2 ≤ sizeLine; decide, fun tt htt => ?_⟩⟩
      have T4 := Same.upd (o := .tup [.str z, sortV o]) htt
      have e7 : (upd (upd (upd (upd H6 l1 (.lst [.non])) l2 (.lst (List.replicate ((ss.map V.str).length : Int).toNat [V.non]).flatten)) l3 (.lst ((ss.map V.str) ++ (List.replicate ((ss.map V.str).length : Int).toNat [V.non]).flatten))) tt (.tup [.str z, sortV o])) tt = some (.tup (varV (z, o))) := upd_same
      have T14 := ((T1.trans T2).trans T3).trans T4
      generalize (upd (upd (upd (upd H6 l1 (.lst [.non])) l2 (.lst (List.replicate ((ss.map V.str).length : Int).toNat [V.non]).flatten)) l3 (.lst ((ss.map V.str) ++ (List.replicate ((ss.map V.str).length : Int).toNat [V.non]).flatten))) tt (.tup [.str z, sortV o])) = H7 at T14 e7
      have hv7 := T14 _ _ hv6
      have B7 : But p H H7 := fun q o n e => T14 _ _ (B6' q o n e)
      have zi : i < (nmsOf cs).length := (List.getElem?_eq_some_iff.mp hz).1
      have vl : vs.length = i := by
        have q := congrArg List.length ev
        rw [List.length_map, List.length_take] at q
        omega
      refine ⟨lv, _, _, rfl, rfl, hv7, ?_, ?_⟩
      · have q := hr5.len
        rw [List.length_map] at q ⊢
        exact Nat.lt_of_le_of_lt (show _ ≤ 1000 by omega) (by decide)
      refine ⟨_, _, vs ++ [(z, o)], ps ++ [tt], rfl, ?_, ?_, ?_, ?_, ?_, but_new B7 nvp lv0, (S6.same T14).upd nvp, ?_, ?_⟩
      · rw [upd_ne nvn]
        exact T14 _ _ (kp6 _ _ ns_strs hn5)
      · rw [upd_same, List.map_append]
        rfl
      · rw [List.map_append]
        exact RowsAt.append (rows_put hv7 ((kp6.rows hr5).same T14)) ⟨sqT_put hv7 (SqT.of e7), True.intro⟩
      · rw [List.map_append, ev, List.take_add_one, hz]
        rfl
      · intro v hv y ey
        rcases List.mem_append.mp hv with q | q
        · exact hvs v q y ey
        · rw [List.mem_singleton.mp q] at ey
          exact ho y ey
      · rw [upd_ne nvc]
        exact T14 _ _ (kp6 _ _ ns_refs hl5)
      · exact rows_put hv7 ((kp6.rows hrow5).same T14)
    rintro σ H5 ⟨u12, u15, vs, ps, rfl, hn5, hv5, hr5, ev, hvs, B5, S5, hl5, hrow5⟩
    rw [List.length_map, List.take_length] at ev
    have hm5 := B5 _ _ nmp hm
    have hw5 := B5 _ _ nwp hw
    refine ⟨_, rfl, m, _, rfl, dgw hm5, _, rfl, _, rfl, m, _, rfl, dgw hm5, lw, _, rfl, .inl (SqL.of hw5), p, _, rfl, S5, by rw [wlen]; omega, by rw [wlen]; omega, fun dw H6 w0 w1' B6 S6 => ?_⟩
    obtain ⟨wd, hwd, ewd⟩ := str_get w0 w1'
    refine rdList (B6 _ _ nwp hw5) (j := dw.toNat) (by omega) ewd ?_
    dsimp only [gName, List.set_cons_succ, List.set_cons_zero]
    have nlen : (((nmsOf cs).map V.str).length : Int) = (nmsOf cs).length := by rw [List.length_map]
    have kp6 := B6.kp S5
    have hn6 := kp6 _ _ ns_strs hn5
    refine ⟨_, rfl, _, rfl, _, rfl, ln, _, rfl, .inl (SqL.of hn6), p, _, rfl, S6, by rw [nlen]; omega, by rw [nlen]; omega, fun da H7 a0 a1 B7 S7 => ?_⟩
    obtain ⟨za, hza, eza⟩ := str_get a0 a1
    have kp7 := B7.kp S6
    have hn7 := kp7 _ _ ns_strs hn6
    refine rdList hn7 (j := da.toNat) (by omega) eza ⟨_, rfl, _, rfl, _, rfl, _, rfl, ln, _, rfl, .inl (SqL.of hn7), p, _, rfl, S7, by rw [nlen]; omega, by rw [nlen]; omega, fun db H8 b0 b1 B8 S8 => ?_⟩
    obtain ⟨zb, hzb, ezb⟩ := str_get b0 b1
    have kp8 := B8.kp S7
    have hn8 := kp8 _ _ ns_strs hn7
    refine rdList hn8 (j := db.toNat) (by omega) ezb ⟨by show 3 ≤ sizeLine; decide, fun tg htg => ?_⟩
    dsimp only [gName, List.set_cons_succ, List.set_cons_zero]
    have B8' := ((B5.trans B6).trans B7).trans B8
    have T9 : Same H8 (upd H8 tg (.tup [.str za, .str wd, .str zb])) := Same.upd htg
    have e9 : (upd H8 tg (.tup [.str za, .str wd, .str zb])) tg = some (.tup (triV (za, wd, zb))) := upd_same
    generalize upd H8 tg (.tup [.str za, .str wd, .str zb]) = H9 at T9 e9
    have hn9 := T9 _ _ hn8
    have S9 := S8.same T9
    have B9 : But p H H9 := fun q o n e => T9 _ _ (B8' q o n e)
    refine ⟨_, rfl, _, rfl, _, rfl, _, rfl, _, rfl, _, rfl, _, rfl, ln, _, rfl, .inl (SqL.of hn9), p, _, rfl, S9, by rw [nlen]; omega, by rw [nlen]; omega, fun dc H10 c0 c1' B10 S10 => ?_⟩
    obtain ⟨zc, hzc, ezc⟩ := str_get c0 c1'
    have kp10 := B10.kp S9
    refine rdList (kp10 _ _ ns_strs hn9) (j := dc.toNat) (by omega) ezc ⟨by show 5 ≤ sizeLine; decide, fun t ht => ?_⟩
    have kpA := ((kp6.trans kp7).trans kp8).trans ((Same.kp T9).trans kp10)
    have B10' := B9.trans B10
    have ntp : t ≠ p := st_free S10 ht
    have t0 : H t = none := B10'.free ntp ht
    have T11 : Same H10 (upd H10 t (.tup [.str nm, .ref lv, .ref lc, .ref tg, .str zc])) := Same.upd ht
    have kpB := kpA.trans (Same.kp T11)
    refine k t ⟨⟨nm, vs, cs⟩, (za, wd, zb), zc⟩ _ rfl ?_ t0 (but_new B10' ntp t0) (S10.upd ntp) fun D o hD => ⟨lv, lc, tg, ps, qs, (ne_of_none hD lv0).symm, (ne_of_none hD lc0).symm, upd_same, kpB _ _ ns_refs hv5, kpB.rows hr5, kpB _ _ ns_refs hl5, kpB.rows hrow5, T11 _ _ (kp10 _ _ ns_tup e9)⟩
    have vl : vs.length = (nmsOf cs).length := by rw [← ev, List.length_map]
    have cl : 1 ≤ cs.length := List.length_pos_iff.mpr cne
    refine ⟨⟨by show 1 ≤ vs.length; omega, by show vs.length ≤ 4; omega, cl, cs3, Nat.le_refl _, Nat.le_refl _, ?_, fun z hz => ?_, fun z hz => ?_, ci.ha⟩, fun v hv => ?_, hvs, ci.wd, hwd⟩
    · show NoTw ((vs.map (·.1)).map V.str)
      rw [ev]
      exact noTw_of (nmsOf_nd cs)
    · show z ∈ vs.map (·.1)
      rw [ev]
      have hz : z ∈ endsL (cs ++ [(za, wd, zb)]) ++ [zc] := hz
      rw [endsL_app] at hz
      rcases List.mem_append.mp hz with hz | hz
      · rcases List.mem_append.mp hz with hz | hz
        · exact (nmsOf_mem ci).mpr hz
        · have hz : z ∈ [za, zb] := hz
          simp at hz
          rcases hz with rfl | rfl
          · exact hza
          · exact hzb
      · rw [List.mem_singleton.mp hz]
        exact hzc
    · have hz : z ∈ vs.map (·.1) := hz
      rw [ev] at hz
      exact (nmsOf_mem ci).mp hz
    · exact nmsOf_ok (cs := cs) (by rw [← ev]; exact List.mem_map_of_mem hv)
end
end Wm
namespace Wm
open PySem L2 StX
def spMkg : Sp := fun vs H Q _ => ∃ (p m : Addr) (a b : Str) (kvs : List (L2.Key × V)) (lw : Addr) (ws : List Str), vs = [.ref p, .ref m, .str a, .str b] ∧ StOk H p ∧ H m = some (.dK kvs) ∧ valV kvs (Sum.inr "words") = some (.ref lw) ∧ H lw = some (.lst (ws.map V.str)) ∧ ws.length ≤ 60 ∧
  ∀ t ds us H', ds.Sublist ws → us.Sublist ws → H t = none → But p H H' → StOk H' p → (∀ D o, H D = some o → MMakN H' D t ⟨a, b, ds, us⟩) → Q (.ref t) H'
section
variable {P : Program} {w : World} {K : PySem.W.Frag} {mg : Str → Option Value} {base : Heap}
theorem scMkg : FnScope ["_law_s", "_law_m", "_law_maker", "_law_made", "_law_down", "_law_up", "_law_word"] ["_law_s", "_law_m", "_law_maker", "_law_made"] (defScope sMkg) := ⟨rfl, rfl, rfl, by decide +kernel, rfl, by decide +kernel, by decide +kernel⟩
theorem ok_mkg {f fG : Addr} {fd dG : FuncData} (F : Fun K "_law_making" "_law_making" sMkg f fd) (DG : Dn K mg "_law_digit" sDigit ["_law_state_here", "_law_base"] fG dG) : FnOk P w K mg base CX0 2 f fd ["_law_s", "_law_m", "_law_maker", "_law_made"] spMkg := by
  have GG : FnOk P w K mg base CX0 1 fG dG _ spDigit := ok_digit DG.F
  refine F.ok scMkg (fun vs H Q E h => ?_) (fun cdv A outer s H vs Q E hr h => ?_)
  · obtain ⟨p, m, a, b, kvs, lw, ws, rfl, _⟩ := h
    rfl
  · obtain ⟨p, m, a, b, kvs, lw, ws, rfl, hS, hm, hgw, hw, w9, k⟩ := h
    have hr1 : Room 1 _ := hr
    have hu := hu_of hr
    refine ⟨_, (pss_cons (ps_setLc (i := 4) (own := [("_law_word", 6)]) (g := gName 6) (tt := tTest (tOp rEq (tCall spDigit [] E0 (tCons (tVar 0) (tCons (tC (.int 2)) tNil))) (tC (.int 1)))) (te := tVar 6) rfl scMkg.nd rfl rfl (sw_true rfl rfl rfl (by decide +kernel)) (pi_list (pe_dget hu (pv 1) pe_str (fun _ _ => rfl))) (blkOk_by (N := ["_law_s", "_law_m", "_law_maker", "_law_made", "_law_down", "_law_up", "_law_word"]) (sc := defScope sMkg) (by decide +kernel)) (fun _ _ _ _ _ => (pg_name (i := 6) scMkg.nd rfl (Or.inl rfl))) (fun _ _ _ _ _ => (pts_one (pt_cmpR op_eq (pe_call GG hr1 rfl DG.g DG.F.kp DG.b .nil pass0 (pa_cons (pv 0) (pa_cons pe_int pa_nil))) pe_int (nomark _)))) (fun _ _ _ _ _ => (pv 6)))
      (pss_cons (ps_setLc (i := 5) (own := [("_law_word", 6)]) (g := gName 6) (tt := tTest (tOp rEq (tCall spDigit [] E0 (tCons (tVar 0) (tCons (tC (.int 3)) tNil))) (tC (.int 1)))) (te := tVar 6) rfl scMkg.nd rfl rfl (sw_true rfl rfl rfl (by decide +kernel)) (pi_list (pe_dget hu (pv 1) pe_str (fun _ _ => rfl))) (blkOk_by (N := ["_law_s", "_law_m", "_law_maker", "_law_made", "_law_down", "_law_up", "_law_word"]) (sc := defScope sMkg) (by decide +kernel)) (fun _ _ _ _ _ => (pg_name (i := 6) scMkg.nd rfl (Or.inl rfl))) (fun _ _ _ _ _ => (pts_one (pt_cmpR op_eq (pe_call GG hr1 rfl DG.g DG.F.kp DG.b .nil pass0 (pa_cons (pv 0) (pa_cons pe_int pa_nil))) pe_int (nomark _)))) (fun _ _ _ _ _ => (pv 6)))
      (pss_one (ps_ret (pe_tup (pa_cons (pv 2) (pa_cons (pv 3) (pa_cons (pv 4) (pa_cons (pv 5) pa_nil))))))))), ?_⟩
    have dgw : ∀ {H' : Hp}, H' m = some (.dK kvs) → DGet H' m (.str "words") (some (.ref lw)) := fun {H'} h => hgw ▸ DGet.k (k := Sum.inr "words") h
    have nmp : m ≠ p := But.ne hS hm ns_dK
    have nwp : lw ≠ p := But.ne hS hw ns_strs
    have grow : ∀ {i : Nat} {z : Str} {ds : List Str}, ws[i]? = some z → ds.Sublist (ws.take i) → (ds ++ [z]).Sublist (ws.take (i + 1)) ∧ ds.Sublist (ws.take (i + 1)) := fun {i z ds} hz hd => by
      rw [List.take_add_one, hz]
      exact ⟨hd.append (List.Sublist.refl _), hd.trans (List.sublist_append_left _ _)⟩
    refine ⟨_, rfl, m, _, rfl, dgw hm, lw, rfl, ⟨_, SqL.of hw⟩, fun D hD => ?_⟩
    have nDp : D ≠ p := st_free hS hD
    refine lc_list (K := K) (a := lw) (xs := ws.map V.str) (fun i H' => ∃ ds : List Str, ds.Sublist (ws.take i) ∧ H' D = some (.lst (ds.map V.str)) ∧ But p H H' ∧ StOk H' p) ⟨[], List.Sublist.refl _, upd_same, but_new (But.refl p H) nDp hD, hS.upd nDp⟩ (fun i H' _ ⟨ds, _, _, B, _⟩ => SqL.of (B _ _ nwp hw)) ?_ ?_
    · rintro i x H1 hx ⟨ds, sb, hd, B, S⟩
      obtain ⟨z, hz, rfl⟩ := map_str_get hx
      obtain ⟨g1, g2⟩ := grow hz sb
      refine ⟨rfl, _, rfl, p, 2, rfl, S, by decide, by decide, fun d2 H2 d0 d1 B2 S2 => ⟨rfl, _, rfl, ?_⟩⟩
      have hd2 := B2 _ _ nDp hd
      refine ite2 (fun _ => ⟨_, rfl, _, hd2, ?_, ds ++ [z], g1, ?_, but_new (B.trans B2) nDp hD, S2.upd nDp⟩) (fun _ => ⟨ds, g2, hd2, B.trans B2, S2⟩)
      · have q := sb.length_le
        rw [List.length_take] at q
        rw [List.length_map]
        exact Nat.lt_of_le_of_lt (show _ ≤ 1000 by omega) (by decide)
      · rw [upd_same, List.map_append]
        rfl
    rintro H1 ⟨ds, sb, hd, B, S⟩
    rw [List.length_map, List.take_length] at sb
    dsimp only [gName, List.set_cons_succ, List.set_cons_zero]
    refine ⟨_, rfl, m, _, rfl, dgw (B _ _ nmp hm), lw, rfl, ⟨_, SqL.of (B _ _ nwp hw)⟩, fun D2 hD2 => ?_⟩
    have nDp2 : D2 ≠ p := st_free S hD2
    have nDD : D ≠ D2 := ne_of_none hd hD2
    have D20 : H D2 = none := B.free nDp2 hD2
    refine lc_list (K := K) (a := lw) (xs := ws.map V.str) (fun i H' => H' D = some (.lst (ds.map V.str)) ∧ ∃ us : List Str, us.Sublist (ws.take i) ∧ H' D2 = some (.lst (us.map V.str)) ∧ But p H H' ∧ StOk H' p) ⟨(upd_ne nDD).trans hd, [], List.Sublist.refl _, upd_same, but_new B nDp2 D20, S.upd nDp2⟩ (fun i H' _ ⟨_, us, _, _, B, _⟩ => SqL.of (B _ _ nwp hw)) ?_ ?_
    · rintro i x H1 hx ⟨hdd, us, sb, hd, B, S⟩
      obtain ⟨z, hz, rfl⟩ := map_str_get hx
      obtain ⟨g1, g2⟩ := grow hz sb
      refine ⟨rfl, _, rfl, p, 3, rfl, S, by decide, by decide, fun d2 H2 d0 d1 B2 S2 => ⟨rfl, _, rfl, ?_⟩⟩
      have hd2 := B2 _ _ nDp2 hd
      refine ite2 (fun _ => ⟨_, rfl, _, hd2, ?_, (upd_ne nDD).trans (B2 _ _ nDp hdd), us ++ [z], g1, ?_, but_new (B.trans B2) nDp2 D20, S2.upd nDp2⟩) (fun _ => ⟨B2 _ _ nDp hdd, us, g2, hd2, B.trans B2, S2⟩)
      · have q := sb.length_le
        rw [List.length_take] at q
        rw [List.length_map]
        exact Nat.lt_of_le_of_lt (show _ ≤ 1000 by omega) (by decide)
      · rw [upd_same, List.map_append]
        rfl
    rintro H2 ⟨hdd, us, sb2, hd2, B2, S2⟩
    rw [List.length_map, List.take_length] at sb2
    dsimp only [gName, List.set_cons_succ, List.set_cons_zero]
    refine ⟨_, rfl, _, rfl, _, rfl, _, rfl, by show 4 ≤ sizeLine; decide, fun t ht => ?_⟩
    have ntp : t ≠ p := st_free S2 ht
    have t0 : H t = none := B2.free ntp ht
    exact k t ds us _ sb sb2 t0 (but_new B2 ntp t0) (S2.upd ntp) fun D3 o hD3 => ⟨D, D2, (ne_of_none hD3 hD).symm, (ne_of_none hD3 D20).symm, upd_same, (Same.upd ht) _ _ hdd, (Same.upd ht) _ _ hd2⟩
end
end Wm
namespace Wm
open PySem L2 StX
theorem cut_drop (xs : List V) (i : Nat) : cutV xs (some (i : Int)) none = xs.drop i := by
  unfold cutV
  rw [HT.sIx_none, HT.sIx_nat]
  by_cases h : i ≤ xs.length
  · rw [Nat.min_eq_left h, List.take_of_length_le (by rw [List.length_drop]; omega)]
  · rw [Nat.min_eq_right (by omega), List.drop_of_length_le (Nat.le_refl _), List.drop_of_length_le (by omega)]
    simp
abbrev kS : L2.Key := Sum.inr "sorts"
abbrev kW : L2.Key := Sum.inr "words"
abbrev kM : L2.Key := Sum.inr "makings"
abbrev kR : L2.Key := Sum.inr "rules"
theorem kSW : ¬ kS = kW := by decide +kernel
theorem kSM : ¬ kS = kM := by decide +kernel
theorem kWM : ¬ kW = kM := by decide +kernel
theorem kSR : ¬ kS = kR := by decide +kernel
theorem kWR : ¬ kW = kR := by decide +kernel
theorem kMR : ¬ kM = kR := by decide +kernel
def md1 (l1 : Addr) : List (L2.Key × V) := [(kS, .ref l1)]
def md2 (l1 l2 : Addr) : List (L2.Key × V) := [(kS, .ref l1), (kW, .ref l2)]
def md3 (l1 l2 l3 : Addr) : List (L2.Key × V) := [(kS, .ref l1), (kW, .ref l2), (kM, .ref l3)]
def md4 (l1 l2 l3 l4 : Addr) : List (L2.Key × V) := [(kS, .ref l1), (kW, .ref l2), (kM, .ref l3), (kR, .ref l4)]
theorem put12 (l1 l2 : Addr) : putK (md1 l1) kW (.ref l2) = md2 l1 l2 := putK_new _ ((valV_neg kSW).trans valV_nil)
theorem put23 (l1 l2 l3 : Addr) : putK (md2 l1 l2) kM (.ref l3) = md3 l1 l2 l3 := putK_new _ ((valV_neg kSM).trans ((valV_neg kWM).trans valV_nil))
theorem put34 (l1 l2 l3 l4 : Addr) : putK (md3 l1 l2 l3) kR (.ref l4) = md4 l1 l2 l3 l4 := putK_new _ ((valV_neg kSR).trans ((valV_neg kWR).trans ((valV_neg kMR).trans valV_nil)))
theorem md3_s (l1 l2 l3 : Addr) : valV (md3 l1 l2 l3) kS = some (.ref l1) := valV_pos rfl
theorem md3_w (l1 l2 l3 : Addr) : valV (md3 l1 l2 l3) kW = some (.ref l2) := (valV_neg kSW).trans (valV_pos rfl)
theorem md3_m (l1 l2 l3 : Addr) : valV (md3 l1 l2 l3) kM = some (.ref l3) := (valV_neg kSM).trans ((valV_neg kWM).trans (valV_pos rfl))
theorem md4_s (l1 l2 l3 l4 : Addr) : valV (md4 l1 l2 l3 l4) kS = some (.ref l1) := valV_pos rfl
theorem md4_w (l1 l2 l3 l4 : Addr) : valV (md4 l1 l2 l3 l4) kW = some (.ref l2) := (valV_neg kSW).trans (valV_pos rfl)
theorem md4_m (l1 l2 l3 l4 : Addr) : valV (md4 l1 l2 l3 l4) kM = some (.ref l3) := (valV_neg kSM).trans ((valV_neg kWM).trans (valV_pos rfl))
theorem md4_r (l1 l2 l3 l4 : Addr) : valV (md4 l1 l2 l3 l4) kR = some (.ref l4) := (valV_neg kSR).trans ((valV_neg kWR).trans ((valV_neg kMR).trans (valV_pos rfl)))
/-- names as the law draws them -/
structure Drawn (zs : List Str) : Prop where
  nd : zs.Nodup
  nm : ∀ z ∈ zs, NmP z ∧ z.length ≤ 6
/-- makings as far as they are drawn -/
structure MksInv (ss ws : List Str) (k j : Nat) (ms : List MkD) : Prop where
  nd : (ms.map fun x => (x.mr, x.md)).Nodup
  at_ : ∀ x ∈ ms, ∃ i i' : Nat, i < i' ∧ ss[i]? = some x.mr ∧ ss[i']? = some x.md ∧ (i < k ∨ (i = k ∧ i' < k + 1 + j))
  sb : ∀ x ∈ ms, x.dn.Sublist ws ∧ x.up.Sublist ws
  ln : ms.length ≤ k * 10 + j
theorem MksInv.nil (ss ws : List Str) : MksInv ss ws 0 0 [] := ⟨List.nodup_nil, fun _ h => (List.not_mem_nil h).elim, fun _ h => (List.not_mem_nil h).elim, Nat.le_refl _⟩
theorem MksInv.skip {ss ws : List Str} {k j : Nat} {ms : List MkD} (h : MksInv ss ws k j ms) : MksInv ss ws k (j + 1) ms :=
  ⟨h.nd, fun x hx => by
    obtain ⟨i, i', a, b, c, d⟩ := h.at_ x hx
    exact ⟨i, i', a, b, c, by omega⟩, h.sb, by have := h.ln; omega⟩
theorem MksInv.next {ss ws : List Str} {k j : Nat} {ms : List MkD} (h : MksInv ss ws k j ms) (hj : j ≤ 10) : MksInv ss ws (k + 1) 0 ms :=
  ⟨h.nd, fun x hx => by
    obtain ⟨i, i', a, b, c, d⟩ := h.at_ x hx
    exact ⟨i, i', a, b, c, by omega⟩, h.sb, by have := h.ln; omega⟩
theorem idx_uniq {ss : List Str} (nd : ss.Nodup) {i j : Nat} {z : Str} (hi : ss[i]? = some z) (hj : ss[j]? = some z) : i = j := by
  obtain ⟨li, ei⟩ := List.getElem?_eq_some_iff.mp hi
  obtain ⟨lj, ej⟩ := List.getElem?_eq_some_iff.mp hj
  rcases Nat.lt_trichotomy i j with q | q | q
  · exact absurd (ei.trans ej.symm) ((List.pairwise_iff_getElem.mp nd) i j li lj q)
  · exact q
  · exact absurd (ej.trans ei.symm) ((List.pairwise_iff_getElem.mp nd) j i lj li q)
theorem MksInv.more {ss ws : List Str} {k j : Nat} {ms : List MkD} {a b : Str} {ds us : List Str} (h : MksInv ss ws k j ms) (ns : ss.Nodup) (ha : ss[k]? = some a) (hb : ss[k + 1 + j]? = some b) (hd : ds.Sublist ws) (hu : us.Sublist ws) : MksInv ss ws k (j + 1) (ms ++ [⟨a, b, ds, us⟩]) := by
  refine ⟨?_, fun x hx => ?_, fun x hx => ?_, ?_⟩
  · rw [List.map_append, List.nodup_append]
    refine ⟨h.nd, by simp, fun u hu v hv e => ?_⟩
    obtain ⟨x, hx, rfl⟩ := List.mem_map.mp hu
    have hv : v = (a, b) := by simpa using hv
    rw [hv] at e
    obtain ⟨i, i', q1, q2, q3, q4⟩ := h.at_ x hx
    have e1 : x.mr = a := congrArg Prod.fst e
    have e2 : x.md = b := congrArg Prod.snd e
    rw [e1] at q2
    rw [e2] at q3
    have r1 := idx_uniq ns q2 ha
    have r2 := idx_uniq ns q3 hb
    omega
  · rcases List.mem_append.mp hx with q | q
    · obtain ⟨i, i', a, b, c, d⟩ := h.at_ x q
      exact ⟨i, i', a, b, c, by omega⟩
    · rw [List.mem_singleton.mp q]
      exact ⟨k, k + 1 + j, by omega, ha, hb, .inr ⟨rfl, by omega⟩⟩
  · rcases List.mem_append.mp hx with q | q
    · exact h.sb x q
    · rw [List.mem_singleton.mp q]
      exact ⟨hd, hu⟩
  · rw [List.length_append, List.length_singleton]
    have := h.ln
    omega
/-- a model as the law draws it -/
structure MdlOk (ss ws : List Str) (ms : List MkD) (rs : List RlD) : Prop where
  sd : Drawn ss
  wd : Drawn ws
  s1 : 1 ≤ ss.length
  s4 : ss.length ≤ 4
  w1 : 1 ≤ ws.length
  w3 : ws.length ≤ 3
  mi : MksInv ss ws ss.length 0 ms
  rd : Drawn (rs.map (·.p.nm))
  r1 : 1 ≤ rs.length
  r8 : rs.length ≤ 8
  rk : ∀ r ∈ rs, RuleOk ss ws r
def MdAt (K : PySem.W.Frag) (H : Hp) (d : Addr) (ss ws : List Str) (ms : List MkD) (rs : List RlD) : Prop := ∃ l1 l2 l3 l4 as bs, H d = some (.dK (md4 l1 l2 l3 l4)) ∧ H l1 = some (.lst (ss.map V.str)) ∧ H l2 = some (.lst (ws.map V.str)) ∧ H l3 = some (.lst (as.map V.ref)) ∧ AllAt (MMak H) as ms ∧ H l4 = some (.lst (bs.map V.ref)) ∧ AllAt (MRul K H) bs rs
theorem MdAt.kp {K : PySem.W.Frag} {H H' : Hp} {d : Addr} {ss ws : List Str} {ms : List MkD} {rs : List RlD} (k : Kp H H') (h : MdAt K H d ss ws ms rs) : MdAt K H' d ss ws ms rs := by
  obtain ⟨l1, l2, l3, l4, as, bs, h0, h1, h2, h3, h4, h5, h6⟩ := h
  exact ⟨l1, l2, l3, l4, as, bs, k _ _ ns_dK h0, k _ _ ns_strs h1, k _ _ ns_strs h2, k _ _ ns_refs h3, h4.imp fun _ _ q => q.kp k, k _ _ ns_refs h5, h6.imp fun _ _ q => q.kp k⟩
def spMdl (K : PySem.W.Frag) : Sp := fun vs H Q _ => ∃ (p : Addr) (nr mo : Int), vs = [.ref p, .int nr, .int mo] ∧ StOk H p ∧ 1 ≤ nr ∧ nr ≤ 8 ∧ 1 ≤ mo ∧ mo ≤ 4 ∧
  ∀ d H' ss ws ms rs, MdlOk ss ws ms rs → H d = none → But p H H' → StOk H' p → MdAt K H' d ss ws ms rs → Q (.ref d) H'
/-- lists of the model, while it is drawn -/
structure MI (H0 H : Hp) (p d l1 l2 l3 : Addr) (ss ws : List Str) (as : List Addr) (ms : List MkD) : Prop where
  hd : H d = some (.dK (md3 l1 l2 l3))
  h1 : H l1 = some (.lst (ss.map V.str))
  h2 : H l2 = some (.lst (ws.map V.str))
  h3 : H l3 = some (.lst (as.map V.ref))
  am : AllAt (MMakN H l3) as ms
  b : But p H0 H
  s : StOk H p
theorem MI.step {H0 H H' : Hp} {p d l1 l2 l3 : Addr} {ss ws : List Str} {as : List Addr} {ms : List MkD} (h : MI H0 H p d l1 l2 l3 ss ws as ms) (B : But p H H') (S : StOk H' p) : MI H0 H' p d l1 l2 l3 ss ws as ms := by
  have k := B.kp h.s
  exact ⟨k _ _ ns_dK h.hd, k _ _ ns_strs h.h1, k _ _ ns_strs h.h2, k _ _ ns_refs h.h3, h.am.imp fun _ _ q => q.kp k, h.b.trans B, S⟩
section
variable {P : Program} {w : World} {K : PySem.W.Frag} {mg : Str → Option Value} {base : Heap}
theorem scMdl : FnScope ["_law_s", "_law_rules", "_law_most", "_law_m", "_law_k", "_law_made", "_law_name_here"] ["_law_s", "_law_rules", "_law_most"] (defScope sMdl) := ⟨rfl, rfl, rfl, by decide +kernel, rfl, by decide +kernel, by decide +kernel⟩
theorem ok_mdl {f fG fN fR fM : Addr} {fd dG dN dR dM : FuncData} (F : Fun K "_law_model" "_law_model" sMdl f fd) (T : TxB mg) (DG : Dn K mg "_law_digit" sDigit ["_law_state_here", "_law_base"] fG dG) (DN : Dn K mg "_law_names" sNms ["_law_s", "_law_many"] fN dN) (GN : FnOk P w K mg base CX0 3 fN dN ["_law_s", "_law_many"] spNms)
    (DR : Dn K mg "_law_rule" sRle ["_law_s", "_law_m", "_law_name_here"] fR dR) (GR : FnOk P w K mg base CX0 2 fR dR ["_law_s", "_law_m", "_law_name_here"] (spRle K)) (DM : Dn K mg "_law_making" sMkg ["_law_s", "_law_m", "_law_maker", "_law_made"] fM dM) (GM : FnOk P w K mg base CX0 2 fM dM ["_law_s", "_law_m", "_law_maker", "_law_made"] spMkg) :
    FnOk P w K mg base CX0 4 f fd ["_law_s", "_law_rules", "_law_most"] (spMdl K) := by
  have GG : FnOk P w K mg base CX0 1 fG dG _ spDigit := ok_digit DG.F
  refine F.ok scMdl (fun vs H Q E h => ?_) (fun cdv A outer s H vs Q E hr h => ?_)
  · obtain ⟨p, nr, mo, rfl, _⟩ := h
    rfl
  · obtain ⟨p, nr, mo, rfl, hS, nr1, nr8, mo1, mo4, k⟩ := h
    have hr1 : Room 1 _ := hr.mono (by decide)
    have hr2 : Room 2 _ := hr.mono (by decide)
    have hr3 : Room 3 _ := hr
    have hu := hu_of hr
    refine ⟨_, (pss_cons (ps_set (i := 3) scMdl.nd rfl (Or.inr rfl) (pe_disp (pps_cons pe_str (pe_call GN hr3 rfl DN.g DN.F.kp DN.b .nil pass0 (pa_cons (pv 0) (pa_cons (pe_op op_add pe_int (pe_call GG hr1 rfl DG.g DG.F.kp DG.b .nil pass0 (pa_cons (pv 0) (pa_cons (pv 2) pa_nil)))) pa_nil))) pps_nil) (by rfl) (by rfl) (fun z => by cases z) (by decide)))
      (pss_cons (ps_dput hu (pv 3) pe_str (pe_call GN hr3 rfl DN.g DN.F.kp DN.b .nil pass0 (pa_cons (pv 0) (pa_cons (pe_op op_add pe_int (pe_call GG hr1 rfl DG.g DG.F.kp DG.b .nil pass0 (pa_cons (pv 0) (pa_cons pe_int pa_nil)))) pa_nil))) rfl)
      (pss_cons (ps_dput hu (pv 3) pe_str (pe_lst pa_nil) rfl)
      (pss_cons (ps_for PassesOwn.never rfl (pi_range1 rfl T.range (pa_cons (pe_callB call_len_seq (by rfl) T.len (by decide +kernel) (pa_cons (pe_dget hu (pv 3) pe_str (fun _ _ => rfl)) pa_nil)) pa_nil)) (pg_name (i := 4) scMdl.nd rfl (Or.inl rfl)) (pss_one (ps_for PassesOwn.never rfl (pi_list (pe_slice sl_list (pe_dget hu (pv 3) pe_str (fun _ _ => rfl)) (po_some (pe_op op_add (pv 4) pe_int)) po_none)) (pg_name (i := 5) scMdl.nd rfl (Or.inl rfl)) (pss_one (ps_if (pt_cmpR op_eq (pe_call GG hr1 rfl DG.g DG.F.kp DG.b .nil pass0 (pa_cons (pv 0) (pa_cons pe_int pa_nil))) pe_int (nomark _)) (pss_one (ps_expr (pe_bm PySem.F.plainAttrs_list PySem.F.slot_list_append PySem.F.type_list_append mt_append (pe_dget hu (pv 3) pe_str (fun _ _ => rfl)) (pa_cons (pe_call GM hr2 rfl DM.g DM.F.kp DM.b .nil pass0 (pa_cons (pv 0) (pa_cons (pv 3) (pa_cons (pe_ix ix_list (pe_dget hu (pv 3) pe_str (fun _ _ => rfl)) (pv 4) (fun _ _ => rfl)) (pa_cons (pv 5) pa_nil))))) pa_nil)))) pss_nil)))))
      (pss_cons (ps_dput hu (pv 3) pe_str (pe_lc (own := [("_law_name_here", 6)]) (g := gName 6) (tt := tYes) (te := tCall (spRle K) [] E0 (tCons (tVar 0) (tCons (tVar 3) (tCons (tVar 6) tNil)))) rfl scMdl.nd (pi_list (pe_call GN hr3 rfl DN.g DN.F.kp DN.b .nil pass0 (pa_cons (pv 0) (pa_cons (pe_op op_add pe_int (pe_call GG hr1 rfl DG.g DG.F.kp DG.b .nil pass0 (pa_cons (pv 0) (pa_cons (pv 1) pa_nil)))) pa_nil)))) (blkOk_by (N := ["_law_s", "_law_rules", "_law_most", "_law_m", "_law_k", "_law_made", "_law_name_here"]) (sc := defScope sMdl) (by decide +kernel)) (fun _ _ _ _ _ => (pg_name (i := 6) scMdl.nd rfl (Or.inl rfl))) (fun _ _ _ _ _ => pts_nil) (fun _ _ _ _ _ => (pe_call GR hr2 rfl DR.g DR.F.kp DR.b .nil pass0 (pa_cons (pv 0) (pa_cons (pv 3) (pa_cons (pv 6) pa_nil)))))) rfl)
      (pss_one (ps_ret (pv 3)))))))), ?_⟩
    intro d hd
    have ndp : d ≠ p := st_free hS hd
    have S0 : StOk (upd H d (.dK [])) p := hS.upd ndp
    have B0 : But p H (upd H d (.dK [])) := but_new (But.refl p H) ndp hd
    have e0 : (upd H d (.dK [])) d = some (.dK []) := upd_same
    generalize upd H d (.dK []) = H0 at S0 B0 e0
    refine ⟨_, rfl, _, rfl, _, rfl, p, mo, rfl, S0, by omega, by omega, fun d1 H1 a1 b1 B1 S1 => ⟨_, _, rfl, rfl, p, 1 + d1, rfl, S1, by omega, by omega, fun ss l1 H2 n1 p1 B2 S2 h12 sl snd snm => ?_⟩⟩
    have B2' := (B0.trans B1).trans B2
    have e2 : H2 d = some (.dK []) := B2 _ _ ndp (B1 _ _ ndp e0)
    refine ⟨e2, [(kS, .ref l1)], rfl, by show 1 ≤ 15; decide, ?_⟩
    have n1p : l1 ≠ p := p1
    have l10 : H l1 = none := (B0.trans B1).free n1p n1
    have em : mergeK [] [(kS, V.ref l1)] = md1 l1 := rfl
    rw [em]
    have S3 : StOk (upd H2 d (.dK (md1 l1))) p := S2.upd ndp
    have B3 : But p H (upd H2 d (.dK (md1 l1))) := but_new B2' ndp hd
    have e3 : (upd H2 d (.dK (md1 l1))) d = some (.dK (md1 l1)) := upd_same
    have h13 : (upd H2 d (.dK (md1 l1))) l1 = some (.lst (ss.map V.str)) := (upd_ne (ne_of h12 e2 (by intro z; cases z))).trans h12
    generalize upd H2 d (.dK (md1 l1)) = H3 at S3 B3 e3 h13
    dsimp only [gName, List.set_cons_succ, List.set_cons_zero]
    refine ⟨_, rfl, _, rfl, p, 3, rfl, S3, by decide, by decide, fun d2 H4 a2 b2 B4 S4 => ⟨_, _, rfl, rfl, p, 1 + d2, rfl, S4, by omega, by omega, fun ws l2 H5 n2 n2p B5 S5 h25 wl wnd wnm => ?_⟩⟩
    have l20 : H l2 = none := (B3.trans B4).free n2p n2
    have B5' := (B3.trans B4).trans B5
    have e5 : H5 d = some (.dK (md1 l1)) := B5 _ _ ndp (B4 _ _ ndp e3)
    have h15 := B5 _ _ n1p (B4 _ _ n1p h13)
    refine ⟨_, rfl, d, _, rfl, DPut.k (k := kW) e5 (by show 1 < sizeLine; decide), ?_⟩
    rw [put12]
    have S6 : StOk (upd H5 d (.dK (md2 l1 l2))) p := S5.upd ndp
    have B6 : But p H (upd H5 d (.dK (md2 l1 l2))) := but_new B5' ndp hd
    have e6 : (upd H5 d (.dK (md2 l1 l2))) d = some (.dK (md2 l1 l2)) := upd_same
    have h16 : (upd H5 d (.dK (md2 l1 l2))) l1 = some (.lst (ss.map V.str)) := (upd_ne (ne_of h15 e5 (by intro z; cases z))).trans h15
    have h26 : (upd H5 d (.dK (md2 l1 l2))) l2 = some (.lst (ws.map V.str)) := (upd_ne (ne_of h25 e5 (by intro z; cases z))).trans h25
    generalize upd H5 d (.dK (md2 l1 l2)) = H6 at S6 B6 e6 h16 h26
    refine ⟨Nat.zero_le _, fun l3 hl3 => ?_⟩
    have N13 : l1 ≠ l3 := ne_of_none h16 hl3
    have N23 : l2 ≠ l3 := ne_of_none h26 hl3
    have n3p : l3 ≠ p := st_free S6 hl3
    have l30 : H l3 = none := B6.free n3p hl3
    have S7 : StOk (upd H6 l3 (.lst [])) p := S6.upd n3p
    have B7 : But p H (upd H6 l3 (.lst [])) := but_new B6 n3p l30
    have T7 : Same H6 (upd H6 l3 (.lst [])) := Same.upd hl3
    have e7 := T7 _ _ e6
    refine ⟨_, rfl, d, _, rfl, DPut.k (k := kM) e7 (by show 2 < sizeLine; decide), ?_⟩
    rw [put23]
    have M0 : MI H (upd (upd H6 l3 (.lst [])) d (.dK (md3 l1 l2 l3))) p d l1 l2 l3 ss ws [] [] := by
      have nd3 : l3 ≠ d := (ne_of_none e6 hl3).symm
      refine ⟨upd_same, (upd_ne (ne_of (T7 _ _ h16) e7 (by intro z; cases z))).trans (T7 _ _ h16), (upd_ne (ne_of (T7 _ _ h26) e7 (by intro z; cases z))).trans (T7 _ _ h26), (upd_ne nd3).trans upd_same, True.intro, but_new B7 ndp hd, S7.upd ndp⟩
    generalize upd (upd H6 l3 (.lst [])) d (.dK (md3 l1 l2 l3)) = H8 at M0
    clear S7 B7 T7 e7 S6 B6 e6 h16 h26 hl3 S5 B5 B5' h25 h15 e5 S4 B4 S3 B3 e3 h13 em n2
    have sl4 : ss.length ≤ 4 := by omega
    have sl1 : 1 ≤ ss.length := by omega
    have wl3 : ws.length ≤ 3 := by omega
    have wl1 : 1 ≤ ws.length := by omega
    have dgS : ∀ {H' : Hp}, H' d = some (.dK (md3 l1 l2 l3)) → DGet H' d (.str "sorts") (some (.ref l1)) := fun {H'} h => md3_s l1 l2 l3 ▸ DGet.k (k := kS) h
    have dgM : ∀ {H' : Hp}, H' d = some (.dK (md3 l1 l2 l3)) → DGet H' d (.str "makings") (some (.ref l3)) := fun {H'} h => md3_m l1 l2 l3 ▸ DGet.k (k := kM) h
    refine ⟨_, rfl, d, _, rfl, dgS M0.hd, l1, _, rfl, .inl (SqL.of M0.h1), _, rfl, by omega, by rw [List.length_map]; omega, ?_⟩
    refine for_range (n := (((ss.map V.str).length : Nat) : Int).toNat) (fun i σ H' => ∃ (u4 u5 : Option V) (as : List Addr) (ms : List MkD), σ = [some (.ref p), some (.int nr), some (.int mo), some (.ref d), u4, u5, none] ∧ MI H H' p d l1 l2 l3 ss ws as ms ∧ MksInv ss ws i 0 ms) ⟨_, _, [], [], rfl, M0, MksInv.nil ss ws⟩ ?_ ?_
    · rintro i σ H' hi ⟨u4, u5, as, ms, rfl, M, mi⟩
      rw [List.length_map, Int.toNat_natCast] at hi
      dsimp only [gName, List.set_cons_succ, List.set_cons_zero]
      refine ⟨_, rfl, d, _, rfl, dgS M.hd, _, rfl, _, _, rfl, rfl, _, rfl, l1, _, rfl, SqL.of M.h1, fun l hl => ?_⟩
      have ec : cutV (ss.map V.str) (some (0 + (i : Int) + 1)) none = (ss.drop (i + 1)).map V.str := by
        have q : (0 + (i : Int) + 1) = ((i + 1 : Nat) : Int) := by omega
        rw [q, cut_drop, List.map_drop]
      rw [ec]
      have nlp : l ≠ p := st_free M.s hl
      have l0 : H l = none := M.b.free nlp hl
      have T : Same H' (upd H' l (.lst ((ss.drop (i + 1)).map V.str))) := Same.upd hl
      have M1 := M.step (Same.but T) (M.s.upd nlp)
      have e1 : (upd H' l (.lst ((ss.drop (i + 1)).map V.str))) l = some (.lst ((ss.drop (i + 1)).map V.str)) := upd_same
      generalize upd H' l (.lst ((ss.drop (i + 1)).map V.str)) = H1' at M1 e1
      have nl3 : l ≠ l3 := (ne_of_none M.h3 hl).symm
      have nl1 : l ≠ l1 := (ne_of_none M.h1 hl).symm
      have nld : l ≠ d := (ne_of_none M.hd hl).symm
      refine ⟨l, rfl, ⟨_, SqL.of e1⟩, for_list (K := K) (a := l) (xs := (ss.drop (i + 1)).map V.str) (fun j σ H' => ∃ (u5 : Option V) (as : List Addr) (ms : List MkD), σ = [some (.ref p), some (.int nr), some (.int mo), some (.ref d), some (.int (0 + (i : Int))), u5, none] ∧ MI H H' p d l1 l2 l3 ss ws as ms ∧ MksInv ss ws i j ms ∧ H' l = some (.lst ((ss.drop (i + 1)).map V.str))) ⟨_, as, ms, rfl, M1, mi, e1⟩ (fun j σ H' _ ⟨_, _, _, _, _, _, h⟩ => SqL.of h) ?_ ?_⟩
      · rintro j x σ H2 hx ⟨u5, as, ms, rfl, M2, mi2, e2⟩
        obtain ⟨z, hz, rfl⟩ := map_str_get hx
        have hj : j < (ss.drop (i + 1)).length := (List.getElem?_eq_some_iff.mp hz).1
        rw [List.length_drop] at hj
        rw [List.getElem?_drop] at hz
        dsimp only [gName, List.set_cons_succ, List.set_cons_zero]
        refine ⟨_, rfl, p, 2, rfl, M2.s, by decide, by decide, fun d3 H3 a3 b3 B3 S3 => ⟨rfl, _, rfl, ?_⟩⟩
        have M3 := M2.step B3 S3
        have e3 := (B3.kp M2.s) _ _ ns_strs e2
        refine ite2 (fun _ => ?_) (fun _ => ⟨_, as, ms, rfl, M3, mi2.skip, e3⟩)
        obtain ⟨y, hy⟩ : ∃ y, ss[i]? = some y := ⟨_, List.getElem?_eq_getElem (by omega)⟩
        have hy' : (ss.map V.str)[i]? = some (.str y) := by rw [List.getElem?_map, hy]; rfl
        refine ⟨_, rfl, d, _, rfl, dgM M3.hd, .inl ⟨rfl, _, SqL.of M3.h3⟩, _, rfl, _, rfl, _, rfl, d, _, rfl, dgS M3.hd, _, rfl, rdList M3.h1 (j := i) (by omega) hy' ⟨_, rfl, p, d, y, z, md3 l1 l2 l3, l2, ws, rfl, S3, M3.hd, md3_w l1 l2 l3, M3.h2, by omega, fun t ds us H4 sd su t0 B4 S4 hmk => ?_⟩⟩
        have M4 := M3.step B4 S4
        have e4 := (B4.kp S3) _ _ ns_strs e3
        refine ⟨l3, _, _, rfl, rfl, M4.h3, ?_, ?_⟩
        · rw [List.length_map, M4.am.len]
          have := mi2.ln
          exact Nat.lt_of_le_of_lt (show _ ≤ 1000 by omega) (by decide)
        · refine ⟨_, as ++ [t], ms ++ [⟨y, z, ds, us⟩], rfl, ⟨(upd_ne (ne_of M4.hd M4.h3 (by intro z; cases z))).trans M4.hd, ?_, ?_, ?_, ?_, but_new M4.b n3p l30, M4.s.upd n3p⟩, mi2.more snd hy hz sd su, (upd_ne nl3).trans e4⟩
          · exact (upd_ne N13).trans M4.h1
          · exact (upd_ne N23).trans M4.h2
          · rw [upd_same, List.map_append]
            rfl
          · exact AllAt.append (M4.am.imp fun _ _ q => q.put M4.h3) ⟨(hmk l3 _ M3.h3).put M4.h3, True.intro⟩
      · rintro σ H2 ⟨u5, as, ms, rfl, M2, mi2, e2⟩
        rw [List.length_map, List.length_drop] at mi2
        exact ⟨_, _, as, ms, rfl, M2, mi2.next (by omega)⟩
    rintro σ H9 ⟨u4, u5, as, ms, rfl, M9, mi9⟩
    rw [List.length_map, Int.toNat_natCast] at mi9
    refine ⟨_, rfl, _, rfl, _, rfl, p, nr, rfl, M9.s, by omega, by omega, fun d4 H10 a4 b4 B10 S10 => ⟨_, _, rfl, rfl, p, 1 + d4, rfl, S10, by omega, by omega, fun rn lr H11 nr0 nrp B11 S11 hr11 rl rnd rnm => ?_⟩⟩
    have M11 := (M9.step B10 S10).step B11 S11
    refine ⟨lr, rfl, ⟨_, SqL.of hr11⟩, fun D hD => ?_⟩
    have nDp : D ≠ p := st_free S11 hD
    have D0 : H D = none := M11.b.free nDp hD
    have nrD : lr ≠ D := ne_of_none hr11 hD
    refine lc_list (K := K) (a := lr) (xs := rn.map V.str) (fun i H' => Kp H11 H' ∧ But p H H' ∧ StOk H' p ∧ ∃ (bs : List Addr) (rs : List RlD), H' D = some (.lst (bs.map V.ref)) ∧ AllAt (MRulN K H' D) bs rs ∧ rs.map (·.p.nm) = rn.take i ∧ ∀ r ∈ rs, RuleOk ss ws r) ⟨(Kp.refl H11).new hD, but_new M11.b nDp D0, S11.upd nDp, [], [], upd_same, True.intro, rfl, fun _ h => (List.not_mem_nil h).elim⟩ (fun i H' _ h => SqL.of (h.1 _ _ ns_strs hr11)) ?_ ?_
    · rintro i x H1 hx ⟨K1, B1, S1, bs, rs, hD1, ab, er, ro⟩
      obtain ⟨z, hz, rfl⟩ := map_str_get hx
      have hi : i < rn.length := (List.getElem?_eq_some_iff.mp hz).1
      refine ⟨rfl, _, rfl, _, rfl, _, rfl, p, d, z, md3 l1 l2 l3, l2, l1, ws, ss, rfl, S1, K1 _ _ ns_dK M11.hd, md3_w l1 l2 l3, K1 _ _ ns_strs M11.h2, md3_s l1 l2 l3, K1 _ _ ns_strs M11.h1, by omega, by omega, by omega, by omega, fun t r H2 en rok t0 B2 S2 hrl => ?_⟩
      have k2 := B2.kp S1
      have hD2 := k2 _ _ ns_refs hD1
      have rlen : rs.length = i := by
        have q := congrArg List.length er
        rw [List.length_map, List.length_take] at q
        omega
      refine ⟨_, hD2, ?_, (K1.trans k2).new hD, but_new (B1.trans B2) nDp D0, S2.upd nDp, bs ++ [t], rs ++ [r], ?_, ?_, ?_, ?_⟩
      · rw [List.length_map, ab.len]
        exact Nat.lt_of_le_of_lt (show _ ≤ 1000 by omega) (by decide)
      · rw [upd_same, List.map_append]
        rfl
      · exact AllAt.append (ab.imp fun _ _ q => (q.kp k2).put hD2) ⟨(hrl D _ hD1).put hD2, True.intro⟩
      · rw [List.map_append, er, List.take_add_one, hz, ← en]
        rfl
      · intro u hu
        rcases List.mem_append.mp hu with q | q
        · exact ro u q
        · rw [List.mem_singleton.mp q]
          exact rok
    rintro H12 ⟨K1, B1, S1, bs, rs, hD1, ab, er, ro⟩
    rw [List.length_map, List.take_length] at er
    have rlen : rs.length = rn.length := by rw [← er, List.length_map]
    have hd12 := K1 _ _ ns_dK M11.hd
    refine ⟨_, rfl, d, _, rfl, DPut.k (k := kR) hd12 (by show 3 < sizeLine; decide), ?_⟩
    rw [put34]
    refine ⟨_, rfl, ?_⟩
    have am12 := M11.am.imp fun _ _ q => q.kp K1
    have U : ∀ {a : Addr} {xs : List V}, H12 a = some (.lst xs) → (upd H12 d (.dK (md4 l1 l2 l3 D))) a = some (.lst xs) := fun h => (upd_ne (ne_of h hd12 (by intro z; cases z))).trans h
    have Ut : ∀ {a : Addr} {xs : List V}, H12 a = some (.tup xs) → (upd H12 d (.dK (md4 l1 l2 l3 D))) a = some (.tup xs) := fun h => (upd_ne (ne_of h hd12 (by intro z; cases z))).trans h
    have Us : ∀ {a : Addr} {xs : List V}, SqT K H12 a xs → SqT K (upd H12 d (.dK (md4 l1 l2 l3 D))) a xs := fun h => by
      rcases h with (h | ⟨ob, h⟩) | h
      · exact .inl (.inl (Ut h))
      · exact .inl (.inr ⟨ob, (upd_ne (ne_of h hd12 (by intro z; cases z))).trans h⟩)
      · exact .inr h
    refine k d _ ss ws ms rs ⟨⟨snd, snm⟩, ⟨wnd, wnm⟩, sl1, sl4, wl1, wl3, mi9, ⟨by rw [er]; exact rnd, by rw [er]; exact rnm⟩, by omega, by omega, ro⟩ hd (but_new B1 ndp hd) (S1.upd ndp) ⟨l1, l2, l3, D, as, bs, upd_same, U (K1 _ _ ns_strs M11.h1), U (K1 _ _ ns_strs M11.h2), U (K1 _ _ ns_refs M11.h3), am12.imp fun _ _ q => ?_, U hD1, ab.imp fun _ _ q => ?_⟩
    · obtain ⟨ld, lu, _, _, q1, q2, q3⟩ := q
      exact ⟨ld, lu, Ut q1, U q2, U q3⟩
    · obtain ⟨lv, lc, g, ps, qs, _, _, q1, q2, q3, q4, q5, q6⟩ := q
      exact ⟨lv, lc, g, ps, qs, Ut q1, U q2, rows_imp Us q3, U q4, rows_imp Us q5, Ut q6⟩
end
end Wm
namespace Wm
open PySem L2 StX
theorem low_let : ∀ c : Fin 123, 97 ≤ c.1 → c.1 ∈ LET := by decide +kernel
theorem fig_fig : ∀ c : Fin 58, 48 ≤ c.1 → c.1 ∈ FIG := by decide +kernel
theorem nm_is {z : Str} (h : NmP z) (hl : z.length ≤ 12) : isNm z = true := by
  obtain ⟨c, cs, e, l, r⟩ := h
  have ol : ∀ d, lowC d → d ∈ LET := fun d q => low_let ⟨d, Nat.lt_succ_of_le q.2⟩ q.1
  have of' : ∀ d, figC d → d ∈ FIG := fun d q => fig_fig ⟨d, Nat.lt_succ_of_le q.2⟩ q.1
  have hlen : z.length = (c :: cs).length := by
    rw [← e]
    exact (Array.length_toList).symm
  unfold isNm
  rw [e]
  have a1 : (c :: cs).all okc = true := by
    rw [List.all_eq_true]
    intro d hd
    unfold okc
    rcases List.mem_cons.mp hd with h | h
    · rw [h, decide_eq_true (ol c l)]
      rfl
    · rcases r d h with q | q
      · rw [decide_eq_true (ol d q)]
        rfl
      · rw [decide_eq_true (of' d q), Bool.or_true]
  have a2 : first (c :: cs) = true := by
    unfold first
    exact decide_eq_true (ol c l)
  rw [a1, a2, decide_eq_true hl]
  simp [hlen]

theorem same_make {H : Hp} {x dx C : Addr} (nx : H x = none) (ndx : H dx = none) : Same H (upd (upd H dx (.own x)) x (.ins C dx [])) := fun b o e => by
  rw [upd_ne (ne_of_none e nx), upd_ne (ne_of_none e ndx)]
  exact e
theorem dueM_all {C : Addr} {zs : List Str} {H0 : Hp} {ok : Hp → Prop} {E : XK} (h : ∀ z ∈ zs, isNm z = true) (k : ∀ H', Same H0 H' → ok H') : DueM C zs H0 ok E := by
  unfold DueM
  have e : zs.find? (fun z => !isNm z) = none := by
    rw [List.find?_eq_none]
    intro z hz
    rw [h z hz]
    decide
  rw [e]
  exact k
theorem rul_new {K : PySem.W.Frag} {C RB : Addr} {H : Hp} {l1 l2 g : Addr} {nm b : Str} {ps qs : List Addr} {vars : List Var} {cs : List Tri} {gt : Tri} {R : Addr → Hp → Prop} {E : XK} (h1 : SqL K H l1 (ps.map V.ref)) (r1 : RowsAt K H ps (vars.map varV)) (h2 : SqL K H l2 (qs.map V.ref)) (r2 : RowsAt K H qs (cs.map triV)) (hg : H g = some (.tup (triV gt)))
    (ok : PatOk vars cs [gt] [b]) (hn : ∀ z ∈ textsL nm vars (cs ++ [gt]), isNm z = true ∧ z.length ≤ 12) (k : ∀ x H', H x = none → Same H H' → RlAt K RB H' x ⟨⟨nm, vars, cs⟩, gt, b⟩ → R x H') :
    ∀ x dx, H x = none → H dx = none → dx ≠ x → spRul K C RB [.ref x, .str nm, .ref l1, .ref l2, .ref g, .str b] (upd (upd H dx (.own x)) x (.ins RB dx [])) (fun v H3 => v = .non ∧ R x H3) E := fun x dx hx hd ne => by
  refine ⟨H, x, dx, l1, l2, g, nm, b, ps, qs, vars, cs, gt, rfl, same_make hx hd, hx, upd_same, h1, r1, h2, r2, hg, ok, fun z hz => Nat.le_trans (hn z hz).2 (by decide), dueM_all (fun z hz => (hn z hz).1) fun H' S' t1 t2 a1 a2 a3 => ⟨rfl, ?_⟩⟩
  exact k x H' hx S' ⟨dx, t1, t2, g, ps, qs, a1, SqT.of a2, r1.same S', SqT.of a3, r2.same S', SqT.of (S' _ _ hg)⟩
theorem mak_new {K : PySem.W.Frag} {C MB : Addr} {H : Hp} {l1 l2 : Addr} {mk md : Str} {ds us : List Str} {R : Addr → Hp → Prop} {E : XK} (h1 : SqL K H l1 (ds.map V.str)) (h2 : SqL K H l2 (us.map V.str)) (n1 : ds.length ≤ 100) (n2 : us.length ≤ 100) (w1 : NoTw (ds.map V.str)) (w2 : NoTw (us.map V.str))
    (hn : ∀ z ∈ mk :: md :: (ds ++ us), isNm z = true ∧ z.length ≤ 12) (k : ∀ x H', H x = none → Same H H' → MkAt K MB H' x ⟨mk, md, ds, us⟩ → R x H') :
    ∀ x dx, H x = none → H dx = none → dx ≠ x → spMak K C MB [.ref x, .str mk, .str md, .ref l1, .ref l2] (upd (upd H dx (.own x)) x (.ins MB dx [])) (fun v H3 => v = .non ∧ R x H3) E := fun x dx hx hd ne => by
  refine ⟨H, x, dx, l1, l2, mk, md, ds, us, rfl, same_make hx hd, hx, upd_same, h1, h2, n1, n2, w1, w2, fun z hz => Nat.le_trans (hn z hz).2 (by decide), dueM_all (fun z hz => (hn z hz).1) fun H' S' t1 t2 a1 a2 a3 => ⟨rfl, ?_⟩⟩
  exact k x H' hx S' ⟨dx, t1, t2, a1, SqT.of a2, SqT.of a3⟩
theorem MkAt.put {K : PySem.W.Frag} {B D : Addr} {H : Hp} {a : Addr} {m : MkD} {xs : List V} {o : HO} (hD : H D = some (.lst xs)) (h : MkAt K B H a m) : MkAt K B (upd H D o) a m := by
  obtain ⟨d, t1, t2, h0, h1, h2⟩ := h
  exact ⟨d, t1, t2, (upd_ne (ne_of h0 hD (by intro z; cases z))).trans h0, sqT_put hD h1, sqT_put hD h2⟩
theorem RlAt.put {K : PySem.W.Frag} {B D : Addr} {H : Hp} {a : Addr} {r : RlD} {xs : List V} {o : HO} (hD : H D = some (.lst xs)) (h : RlAt K B H a r) : RlAt K B (upd H D o) a r := by
  obtain ⟨d, t1, t2, t3, ps, qs, h0, h1, h2, h3, h4, h5⟩ := h
  exact ⟨d, t1, t2, t3, ps, qs, (upd_ne (ne_of h0 hD (by intro z; cases z))).trans h0, sqT_put hD h1, rows_put hD h2, sqT_put hD h3, rows_put hD h4, sqT_put hD h5⟩
theorem Drawn.is {zs : List Str} (h : Drawn zs) {z : Str} (hz : z ∈ zs) : isNm z = true ∧ z.length ≤ 12 := ⟨nm_is (h.nm z hz).1 (Nat.le_trans (h.nm z hz).2 (by decide)), Nat.le_trans (h.nm z hz).2 (by decide)⟩
theorem Drawn.ok {zs : List Str} (h : Drawn zs) {z : Str} (hz : z ∈ zs) : okS z := (h.nm z hz).1.ok
theorem MdlOk.sch {ss ws : List Str} {ms : List MkD} {rs : List RlD} (h : MdlOk ss ws ms rs) : SchOk ss ws ms rs [] := by
  have w3 := h.w3
  have s4 := h.s4
  have ln := h.mi.ln
  refine ⟨⟨fun z hz => h.sd.is hz, h.sd.nd⟩, ⟨fun z hz => h.wd.is hz, h.wd.nd⟩, h.s1, h.s4, h.w1, by omega, by omega, h.r8, by show 0 ≤ 4; decide, h.mi.nd, h.rd.nd, List.nodup_nil, fun z hz => h.sd.ok hz, fun x hx => ?_, fun x hx => ?_, fun x hx => ?_, fun x hx => ?_, fun x hx => ?_, fun x hx => (List.not_mem_nil hx).elim⟩
  · obtain ⟨i, j, _, a, b, _⟩ := h.mi.at_ x hx
    exact ⟨List.mem_of_getElem? a, List.mem_of_getElem? b⟩
  · obtain ⟨i, j, l, a, b, _⟩ := h.mi.at_ x hx
    exact ⟨i, j, l, a, b⟩
  · obtain ⟨a, b⟩ := h.mi.sb x hx
    exact ⟨Nat.le_trans a.length_le (by omega), Nat.le_trans b.length_le (by omega)⟩
  · obtain ⟨a, b⟩ := h.mi.sb x hx
    exact ⟨fun z hz => a.subset hz, fun z hz => b.subset hz⟩
  · have q := h.rk x hx
    exact ⟨q.pt.v4, q.pt.c3, q.vs, q.cw, q.gw⟩
theorem MdlOk.mkTexts {ss ws : List Str} {ms : List MkD} {rs : List RlD} (h : MdlOk ss ws ms rs) {x : MkD} (hx : x ∈ ms) : ∀ z ∈ x.mr :: x.md :: (x.dn ++ x.up), isNm z = true ∧ z.length ≤ 12 := fun z hz => by
  obtain ⟨i, j, _, a, b, _⟩ := h.mi.at_ x hx
  obtain ⟨u, v⟩ := h.mi.sb x hx
  rcases List.mem_cons.mp hz with rfl | hz
  · exact h.sd.is (List.mem_of_getElem? a)
  · rcases List.mem_cons.mp hz with rfl | hz
    · exact h.sd.is (List.mem_of_getElem? b)
    · rcases List.mem_append.mp hz with hz | hz
      · exact h.wd.is (u.subset hz)
      · exact h.wd.is (v.subset hz)
theorem MdlOk.rlTexts {ss ws : List Str} {ms : List MkD} {rs : List RlD} (h : MdlOk ss ws ms rs) {r : RlD} (hr : r ∈ rs) : ∀ z ∈ textsL r.p.nm r.p.vars (r.p.cs ++ [r.g]), isNm z = true ∧ z.length ≤ 12 := fun z hz => by
  have q := h.rk r hr
  unfold textsL at hz
  rcases List.mem_append.mp hz with hz | hz
  · rcases List.mem_cons.mp hz with rfl | hz
    · exact h.rd.is (List.mem_map_of_mem hr)
    · obtain ⟨v, hv, hz⟩ := List.mem_flatMap.mp hz
      unfold varT at hz
      rcases List.mem_cons.mp hz with rfl | hz
      · exact ⟨(q.vn v hv).1, (q.vn v hv).2.1⟩
      · exact h.sd.is (q.vs v hv z (Option.mem_toList.mp hz))
  · obtain ⟨t, ht, rfl⟩ := List.mem_map.mp hz
    rcases List.mem_append.mp ht with ht | ht
    · exact h.wd.is (q.cw t ht)
    · rw [List.mem_singleton.mp ht]
      exact h.wd.is q.gw
end Wm
/-! lists walked to their end while an error is handled: sum, comprehensions -/
namespace Wm
open PySem PySem.Spec PyProof.Rows L2 HotX
section
variable {prog : Program} {w : World} {A : Around} {E : Value → Shared → Prop} {s : Shared}
/-- a list iterator at its end: the StopIteration gets the handled error as its context, nothing else is touched -/
theorem next_end_hot {it l x1 : Addr} {i : Nat} {items : Array Value} {Q : Option Value → Shared → Prop} (hot : HotAt A x1 s.heap) (hne : x1 ≠ it) (hit : s.heap.IsListIter it l i) (hl : s.heap.IsList l items) (hx : items[i]? = none)
    (hQ : ∀ h', Heap.ExtBut it s.heap h' → Q none { s with heap := h' }) : wpAny (model prog w) A (pyNext (.ref it)) Q E s := by
  obtain ⟨hh, o1, vs1, g1, f1, c1⟩ := hot
  obtain ⟨oi, gi, ci, di⟩ := id hit
  obtain ⟨ol, gl, _, nl, dl⟩ := hl
  have slot := slot_listiter_next
  unfold pyNext
  refine wpAny_bind (wpAny_attempt (wpAny_callSpecial?_slot (name := Str.ofString "__next__") hit.typeIs slot (wpAny_call_entry slot hit.typeIs entry_listiter_next ?_ (args_listiter_next _))))
  have rd0 : ∀ {Q' : Value → Shared → Prop} {E'} {A'}, Q' (.ref l) s → wpAny (model prog w) A' (field (.ref it) 0) Q' E' s := fun q => wpAny_field gi di (x := .ref l) rfl q
  have rd1 : ∀ {Q' : Value → Shared → Prop} {E'} {A'}, Q' (.int i 0) s → wpAny (model prog w) A' (field (.ref it) 1) Q' E' s := fun q => wpAny_field gi di (x := .int i 0) rfl q
  show wpAny _ _ (field (.ref it) 0 >>= _) _ _ s
  refine wpAny_bind (rd0 ?_)
  show wpAny _ _ (if (Value.ref l == Value.none) = true then _ else _) _ _ s
  rw [if_neg (show ¬ ((Value.ref l == Value.none) = true) from Bool.false_ne_true)]
  show wpAny _ _ (field (.ref it) 1 >>= _) _ _ s
  refine wpAny_bind (rd1 ?_)
  show wpAny _ _ (seqItems? (.ref l) >>= _) _ _ s
  refine wpAny_bind (wpAny_seqItems gl dl ?_)
  simp only [Int.toNat_natCast, hx]
  refine wpAny_bind (wpAny_rule (wpAny_bind (wpAny_setField gi di (by simp) ?_)))
  show wpAny _ _ (newExc (.type "StopIteration") [] >>= _) _ _ _
  refine wpAny_bind ?_
  simp only [newExc, newTuple]
  refine wpAny_bind (wpAny_newObj_type ?_ (by size_fits))
  refine wpAny_bind (m := firstArgMember _ _) (wpAny_of_eq (a := Value.none) (by first | rfl | (simp only [firstArgMember]; rfl)) ?_)
  refine wpAny_newObj_type ?_ (by size_fits)
  refine raiseNew_hot ⟨hh, o1, vs1, (((Heap.SameBut.update ..).extBut.push _).push _) x1 o1 hne g1, f1, c1⟩ (Nat.ne_of_lt (Heap.lt_size (((Heap.SameBut.update ..).extBut.push _) x1 o1 hne g1))) (Heap.get?_push_size _ rfl) rfl (by first | (simp; done) | (simp; omega) | (simp only [Array.size_append]; simp; omega)) ?_
  refine wpAny_bind (wpAny_isInstance (T := "StopIteration") (b := true) ⟨_, Heap.get?_update_self _ (Heap.get?_push_size _ rfl) rfl, rfl⟩ isSubtype_stop ?_)
  refine wpAny_pure (hQ _ fun b o nb e => ?_)
  rw [Heap.get?_update_other _ _ (Nat.ne_of_gt (Heap.lt_size (((Heap.SameBut.update ..).extBut.push _) b o nb e)))]
  exact (((Heap.SameBut.update ..).extBut.push _).push _) b o nb e
/-- the walk over a list, the handled error's object kept in sight -/
theorem walks_hot {x1 : Addr} {o1 : Obj} {v1 : Array Value} (hh : A.handled = some (.ref x1)) (d1 : o1.data = .fields v1) (c1 : v1[2]? = some .none) (I ax : Addr) (hne : ax ≠ I) (hx : x1 ≠ I) (items : Array Value) :
    Walks prog w A I [I, ax, x1] [I] items.size (fun i v => items[i]? = some v) (fun i h => h.IsListIter I ax i ∧ h.IsList ax items ∧ h.get? x1 = some o1) where
  sub := fun b hb => by
    rw [List.mem_singleton.mp hb]
    exact List.mem_cons_self
  frame := fun i h h' ⟨a, b, c⟩ k => ⟨a.at fun o e => k I (by simp) o e, b.at fun o e => k ax (by simp) o e, k x1 (by simp) o1 c⟩
  item := fun i s Q E hi ⟨a, b, c⟩ q => by
    refine wpAny_pyNext_list_item a b (Array.getElem?_eq_getElem hi) fun h' a' sb => ?_
    exact q _ h' s.toks (Array.getElem?_eq_getElem hi) ⟨a', b.at fun o e => (sb.2 ax hne).trans e, (sb.2 x1 hx).trans c⟩ fun y o ny e => (sb.2 y (fun z => ny (by rw [z]; exact List.mem_cons_self))).trans e
  done := fun s Q E ⟨a, b, c⟩ q => next_end_hot ⟨hh, o1, v1, c, d1, c1⟩ hx a b (Array.getElem?_eq_none (Nat.le_refl _)) fun h' eb => q h' s.toks fun y o ny e => eb y o (fun z => ny (by rw [z]; exact List.mem_cons_self)) e
  self := fun i s Q E ⟨a, _, _⟩ q => wpAny_pyIter_listiter a q
theorem sum_hot {l x1 : Addr} {o1 : Obj} {v1 : Array Value} {its : List Value} {ns : List Int} {Q : Value → Shared → Prop} (hh : A.handled = some (.ref x1)) (g1 : s.heap.get? x1 = some o1) (d1 : o1.data = .fields v1) (c1 : v1[2]? = some .none) (hl : s.heap.IsList l its.toArray) (hi : IntsAre its ns)
    (h : ∀ h' tk t', (∀ b o, s.heap.get? b = some o → h'.get? b = some o) → Q (.int ns.sum t') { s with heap := h', toks := tk }) : wpAny (model prog w) A (call (.builtin "sum") [.ref l]) Q E s := by
  obtain ⟨xs, e⟩ := hi.allInts.items
  have hn : numsOf (intItems xs).toList = ns := by rw [← e]; exact hi.numsOf
  rw [nums_intItems] at hn
  rw [e] at hl
  refine call_sum_walkG (iter_intList hl fun s2 e2 st fpl hlI => ?_)
  subst e2
  have hx : x1 ≠ s.heap.objs.size := Nat.ne_of_lt (Heap.lt_size g1)
  refine ⟨_, _, _, _, _, _, numAt xs, rfl, walks_hot (A := A.in1) hh d1 c1 _ l hlI hx (intItems xs), ⟨st.1, st.2, Heap.get?_push_of_some _ g1⟩, fun b hb => ?_, (fun _ _ => intItems_at), fun h' tk t' hk => ?_⟩
  · rcases List.mem_cons.mp hb with z | hb
    · exact fpl b (by rw [z]; simp)
    rcases List.mem_cons.mp hb with z | hb
    · exact fpl b (by rw [z]; simp)
    · rw [List.mem_singleton.mp hb]
      exact Heap.lt_size (Heap.get?_push_of_some _ g1)
  · have q := h h' tk t' (old_kept hk)
    have e3 : preSum (numAt xs) (intItems xs).size = ns.sum := by
      rw [preSum_eq, List.take_of_length_le (by simp [intItems]), hn]
    rw [e3]
    exact q
end
section
variable {X : Cx} {a : Addr} {oe : Obj} {vf : Array Value} {pn : List (Addr × Obj)}
theorem cr_sumH (hf : oe.data = .fields vf) (hn : vf[2]? = some .none) : CallR (X.suite a ((a, oe) :: pn)) (.builtin "sum") (rSum X.K) := by
  intro pins s σ H vs us Q I r h
  obtain ⟨l, ns, rfl, hs, q⟩ := h
  obtain ⟨its, rv, hl, _⟩ := I.list hs
  have P1 := I.pin (a, oe) (List.mem_append_left _ (List.mem_cons_self ..))
  rw [Vals.ref1 r]
  exact sum_hot (x1 := a) rfl P1.1 hf hn hl.isList rv.ints fun h' tk t' hk => ⟨.int _, H, I.kept hk, ⟨_, rfl⟩, q⟩
end
end Wm
/-! [elt for target in a list], no tests, while an error is handled -/
namespace Wm
open PySem PySem.Spec PyProof.Rows L2 HotX
/-- W i: what holds ahead of the turn i -/
def tLcH (K : PySem.W.Frag) (tl : TE) (g : TG) (te : TE) (vs : List Nat) : TE := fun σ H Q => tl σ H fun v H1 => ∃ (l : Addr) (xs : List V), v = .ref l ∧ SqL K H1 l xs ∧ ∀ D, H1 D = none → ∃ W : Nat → Hp → Prop, W 0 (upd H1 D (.lst [])) ∧ (∀ i H', W i H' → SqL K H' l xs) ∧
  (∀ i x H', xs[i]? = some x → W i H' → g x (wipe σ vs) H' fun σ2 H2 => wipe σ2 vs = wipe σ vs ∧ te σ2 H2 fun y H4 => ∃ acc, H4 D = some (.lst acc) ∧ acc.length < sizeLine ∧ W (i + 1) (upd H4 D (.lst (acc ++ [y])))) ∧ ∀ H', W xs.length H' → Q (.ref D) H'
section
variable {X : Cx} {a : Addr} {oe : Obj} {vf : Array Value}
theorem pe_lcH {elt tg l : Expr} {scope : Scope} {own : List (Str × Nat)} {pos : Pos} {tl : TE} {g : TG} {te : TE} (hA : X.A.handled = some (.ref a)) (hpn : (a, oe) ∈ X.pn) (hf : oe.data = .fields vf) (hn : vf[2]? = some .none) (hN : X.N.Nodup) (hl : PE X l tl) (ok : BlkOk X.N X.env.scope scope own)
    (hg : ∀ (s : Shared) (H : Hp) (C : Addr) (cl : List (Str × Addr)) (fp : List Addr), PG (X.blk s H scope (compEnvC scope cl C X.env) fp) tg g)
    (he : ∀ (s : Shared) (H : Hp) (C : Addr) (cl : List (Str × Addr)) (fp : List Addr), PE (X.blk s H scope (compEnvC scope cl C X.env) fp) elt te) (hs : ∀ x, foldedSetIterable l X.env x = pure x := by intro _; rfl) :
    PE X (.ListComp elt [⟨tg, l, [], 0⟩] scope pos) (tLcH X.K tl g te (own.map (·.2))) := by
  refine ⟨fun pins s σ H Q I h => ?_⟩
  rw [eval_ListComp]
  have cells : ∀ y ∈ scope.names, y.2 = .free → ∃ c, X.env.cells.lookup y.1 = some c := fun y hy e => (ok.free y hy e).elim (fun k => I.ok.has _ (.inl k)) (fun k => I.ok.has _ (.inr k))
  refine wpAny_comprehension_free (use := none) rfl hs (closure_ok cells) ok.kind (fun y hy e => by rw [ok.uniq y hy, e]) (thn (hl.run pins s σ H _ I h) fun v s1 ⟨x, H1, I1, r1, q1⟩ => ?_)
  obtain ⟨la, xs, rfl, hq, q⟩ := q1
  cases r1
  obtain ⟨its, rv, p, hz⟩ := I1.list hq
  refine wpAny_pyIter_list p.isList ?_
  -- the iterator, the new list, the block
  generalize hit : s1.heap.objs.size = it
  have itn : H1 it = none := I1.hok.fresh (Nat.le_of_eq hit)
  have I2 : Inv X pins σ H1 { s1 with heap := s1.heap.push { cls := .type "list_iterator", data := .fields #[.ref la, .int 0 0] } } := I1.kept (t' := s1.toks) fun b o e => Heap.get?_push_of_some _ e
  have st2 : ({ s1 with heap := s1.heap.push { cls := .type "list_iterator", data := .fields #[.ref la, .int 0 0] } } : Shared).heap.IsListIter it la 0 := by
    rw [← hit]
    exact ⟨_, Heap.get?_push_size _ rfl, rfl, rfl⟩
  have fp2 : FpOk X pins H1 it := I1.fpOk (Nat.le_of_eq hit) itn
  generalize hs2 : ({ s1 with heap := s1.heap.push { cls := .type "list_iterator", data := .fields #[.ref la, .int 0 0] } } : Shared) = s2 at I2 st2 ⊢
  refine wpAny_newObj_type (newEnv_comp ?_) (by show 0 ≤ sizeLine; decide)
  generalize hD : s2.heap.objs.size = D
  have Dn : H1 D = none := I2.hok.fresh (Nat.le_of_eq hD)
  have itD : it ≠ D := fun z => by
    obtain ⟨o, e, _⟩ := st2
    exact absurd (Heap.lt_size e) (by rw [z, ← hD]; exact Nat.lt_irrefl _)
  obtain ⟨W, w0, wq, step, fin⟩ := q D Dn
  have I3 : Inv X pins σ (upd H1 D (.lst [])) { s2 with heap := s2.heap.push { cls := .type "list", data := .seq ([] : List Value).toArray } } := by
    refine I2.laid (t' := s2.toks) (fun b o e => Heap.get?_push_of_some _ e) (Nat.le_of_eq hD) ⟨Nat.zero_le _, [], 0, .nil, ?_⟩
    rw [← hD]
    exact Heap.get?_push_size _ rfl
  have st3 : ({ s2 with heap := s2.heap.push { cls := .type "list", data := .seq ([] : List Value).toArray } } : Shared).heap.IsListIter it la 0 := st2.at fun o e => Heap.get?_push_of_some _ e
  generalize ({ s2 with heap := s2.heap.push { cls := .type "list", data := .seq ([] : List Value).toArray } } : Shared) = s3 at I3 st3 ⊢
  generalize hH3 : upd H1 D (.lst []) = H3 at I3 w0
  have it3 : H3 it = none := by rw [← hH3, upd_ne itD]; exact itn
  have fp3 : ∀ b ∈ [it], FpOk X pins H3 b ∧ b < s3.heap.objs.size := fun b hb => by
    rw [List.mem_singleton.mp hb]
    obtain ⟨o, e, _⟩ := st3
    exact ⟨⟨it3, fp2.2⟩, Heap.lt_size e⟩
  have I4 := block_start I3 ok hN fp3
  have pg := hg s3 H3 s3.heap.objs.size (cellsFrom (s3.heap.objs.size + 1) scope.names (cloFrom X.env.cells scope.names [])) [it]
  have pe := he s3 H3 s3.heap.objs.size (cellsFrom (s3.heap.objs.size + 1) scope.names (cloFrom X.env.cells scope.names [])) [it]
  have P3 := I3.pin (a, oe) (List.mem_append_left _ hpn)
  have aS : a ∉ frs X.stack := fun z => (List.mem_cons.mp (I3.stkSub a z)).elim P3.2.2.1 P3.2.2.2.1
  have aI : a ≠ it := fun z => fp2.2.2.2.2.2 (a, oe) (List.mem_append_left _ hpn) z
  show codeAny _ _ (.compStart (.ListComp elt [⟨tg, l, [], 0⟩] scope pos) 0 (.ref it) (.ref D) (compEnvC scope (cellsFrom (s3.heap.objs.size + 1) scope.names (cloFrom X.env.cells scope.names [])) s3.heap.objs.size X.env)) _ { s3 with heap := pushCells (s3.heap.push { cls := .type "dict", data := .dict #[] }) scope.names }
  generalize hce : compEnvC scope (cellsFrom (s3.heap.objs.size + 1) scope.names (cloFrom X.env.cells scope.names [])) s3.heap.objs.size X.env = ce at I4 pg pe ⊢
  have cL : ce.locals = s3.heap.objs.size := by subst hce; rfl
  have st4 : ({ s3 with heap := pushCells (s3.heap.push { cls := .type "dict", data := .dict #[] }) scope.names } : Shared).heap.IsListIter it la 0 := st3.at fun o e => pushCells_keeps _ _ _ _ (Heap.get?_push_of_some _ e)
  generalize ({ s3 with heap := pushCells (s3.heap.push { cls := .type "dict", data := .dict #[] }) scope.names } : Shared) = s4 at I4 st4 ⊢
  -- the iterator stands apart in every state of the block
  have apart : ∀ {σ' : L2.St} {H' : Hp} {s' : Shared}, Inv (X.blk s3 H3 scope ce [it]) [] σ' H' s' → H' it = none → FpOk (X.blk s3 H3 scope ce [it]) [] H' it := fun {σ' H' s'} I' z =>
    have m : it ∈ [it] := List.mem_cons_self
    ⟨z, (I'.ok.exf it m).1, I'.ok.exfs it m, .inl m, fun y c e => (I'.ok.exf it m).2 y c e, fun p hp => (List.not_mem_nil (show p ∈ ([] : List (Addr × Obj)) from hp)).elim⟩
  have loop : codeAny (model X.prog X.w) X.A (.compLoop (.ListComp elt [⟨tg, l, [], 0⟩] scope pos) 0 (.ref it) (.ref D) ce) (compPost (model X.prog X.w) X.A X.xe none (EP X pins σ Q) (.ref D) s3.heap.objs.size) s4 := by
    refine compLoop_any (fun n s' => ∃ i H', i + n = xs.length ∧ Inv (X.blk s3 H3 scope ce [it]) [] (wipe σ (own.map (·.2))) H' s' ∧ s'.heap.IsListIter it la i ∧ H' it = none ∧ W i H') ?_ xs.length ⟨0, H3, Nat.zero_add _, I4, st4, it3, w0⟩
    rintro n s5 ⟨i, H5, hi, I5, st5, n5, w5⟩
    obtain ⟨its5, rv5, p5, _⟩ := I5.list (wq i H5 w5)
    have hl5 := rv5.length
    have F5 := apart I5 n5
    obtain ⟨f0, f1, f2, f3, f4, f5⟩ := F5
    cases n with
    | zero =>
      have hot : HotAt X.A a s5.heap := ⟨hA, oe, vf, I5.base.keep a oe P3.1 P3.2.1 aS (fun z => aI (List.mem_singleton.mp z)), hf, hn⟩
      refine next_end_hot hot aI st5 p5.isList (by simp; omega) fun h' eb => ?_
      have I6 : Inv (X.blk s3 H3 scope ce [it]) [] (wipe σ (own.map (·.2))) H5 { s5 with heap := h' } := I5.turned (t' := s5.toks) (fun b o hb e => eb b o hb e) f0 f1 f3 f4 f5
      have I7 : Inv X pins σ H5 { s5 with heap := h' } := I3.call' (ch := [it]) I6.os I6.base I6.hok I6.bare fun b hb => ⟨(fp3 b hb).1.2.2.2.1, (fp3 b hb).1.2.1, (fp3 b hb).1.2.2.2.2.1, (fp3 b hb).1.2.2.2.2.2⟩
      have nC : H5 s3.heap.objs.size = none := by
        rw [← cL]
        exact I6.free
      obtain ⟨m, hm, _⟩ := I6.loc
      have hm : ({ s5 with heap := h' } : Shared).heap.Ns ce.locals m := hm
      rw [cL] at hm
      obtain ⟨k0, k1, k2, k3, k4, k5⟩ := I3.fpOk (Nat.le_refl _) nC
      refine ⟨m, hm, fun h'' sb => ⟨.ref D, H5, I7.turned (t' := s5.toks) (fun b o hb e => (sb.2 b hb).trans e) k0 k1 k3 k4 k5, rfl, fin H5 ?_⟩⟩
      have e : i = xs.length := by omega
      rw [← e]
      exact w5
    | succ n =>
      have hlt : i < xs.length := by omega
      obtain ⟨u, hu, ru⟩ := rv5.get (List.getElem?_eq_getElem hlt)
      refine wpAny_pyNext_list_item st5 p5.isList (x := u) (by simpa using hu) fun h' st6 sb => ?_
      have I6 : Inv (X.blk s3 H3 scope ce [it]) [] (wipe σ (own.map (·.2))) H5 { s5 with heap := h' } := I5.turned (t' := s5.toks) (fun b o hb e => (sb.2 b hb).trans e) f0 f1 f3 f4 f5
      obtain ⟨o6, e6, c6, d6⟩ := id st6
      refine go_of (s := { s5 with heap := h' }) e6 c6 d6 (by decide) ?_
      have I6' := I6.pinned (fp := [it]) (fun b hb => by rw [List.mem_singleton.mp hb]; exact apart I6 n5) (fun b hb => by rw [List.mem_singleton.mp hb]; exact ⟨o6, e6, fun v z => by rw [d6] at z; cases z⟩)
      refine thnF (pg.run _ _ _ H5 _ u _ I6' ru (step i _ H5 (List.getElem?_eq_getElem hlt) w5)) fun _ s8 ⟨σ8, H8, I8, hw8, q8⟩ => ?_
      refine wpAny_tests_nil ?_
      simp only [if_true]
      refine thnF (pe.run _ s8 σ8 H8 _ I8 q8) fun z s10 ⟨yv, H10, I10, r10, acc, hD10, hz10, nx⟩ => ?_
      refine app_ok (X := X.blk s3 H3 scope ce [it]) I10 hD10 hz10 r10 fun s11 I11 => ?_
      have pin := I11.pin (it, o6) (List.mem_append_right _ (List.mem_append_right _ (mem_pinsAt List.mem_cons_self e6)))
      refine ⟨n, Nat.lt_succ_self n, i + 1, _, by omega, (I11.unpinned (pins := [])).weak (by rw [← hw8, wipe_length]) (fun j v e => ?_), st6.at fun o e => ?_, pin.2.1, nx⟩
      · rw [← hw8] at e
        exact (wipe_some e).1
      · rw [e6] at e
        cases e
        exact pin.1
  exact codeAny_compStart_list loop (wpAny_pyIter_listiter st4 loop)
end
end Wm
/-! sorted of triples of texts, as a list and as the keys of a dict -/
namespace Wm
open PySem PySem.Spec PyProof.Rows L2
def triD3 (t : Str × Str × Str) : PyData := .tuple [.str t.1, .str t.2.1, .str t.2.2]
def triV3 (t : Str × Str × Str) : List V := [.str t.1, .str t.2.1, .str t.2.2]
/-- the triples in their order -/
def sortT (ts : List (Str × Str × Str)) : List (Str × Str × Str) := ts.mergeSort (PySem.W.dataLe false triD3)
def TrisAt (K : PySem.W.Frag) (H : Hp) : List Addr → List (Str × Str × Str) → Prop
  | [], [] => True
  | p :: ps, t :: ts => SqT K H p (triV3 t) ∧ TrisAt K H ps ts
  | [], _ :: _ => False
  | _ :: _, [] => False
theorem TrisAt.len {K : PySem.W.Frag} {H : Hp} : ∀ {ps : List Addr} {ts : List (Str × Str × Str)}, TrisAt K H ps ts → ps.length = ts.length
  | [], [], _ => rfl
  | _ :: _, _ :: _, h => by rw [List.length_cons, List.length_cons, TrisAt.len h.2]
  | [], _ :: _, h => h.elim
  | _ :: _, [], h => h.elim
theorem TrisAt.same {K : PySem.W.Frag} {H H' : Hp} (e : ∀ {a : Addr} {xs : List V}, SqT K H a xs → SqT K H' a xs) : ∀ {ps : List Addr} {ts : List (Str × Str × Str)}, TrisAt K H ps ts → TrisAt K H' ps ts
  | [], [], _ => True.intro
  | _ :: _, _ :: _, h => ⟨e h.1, TrisAt.same e h.2⟩
  | [], _ :: _, h => h.elim
  | _ :: _, [], h => h.elim
/-- a value that is a triple -/
def isTri (K : PySem.W.Frag) (H : Hp) (u : Value) (t : Str × Str × Str) : Prop := ∃ p, u = .ref p ∧ SqT K H p (triV3 t)
theorem tris_each {K : PySem.W.Frag} {H : Hp} : ∀ {ps : List Addr} {ts : List (Str × Str × Str)} {us : List Value}, TrisAt K H ps ts → Vals (ps.map V.ref) us → PySem.W.EachIs (isTri K H) us ts
  | [], [], _, _, r => by
    cases r
    exact .nil
  | p :: ps, t :: ts, _, h, r => by
    cases r with
    | cons r1 r2 =>
      cases r1
      exact .cons ⟨p, rfl, h.1⟩ (tris_each h.2 r2)
  | [], _ :: _, _, h, _ => h.elim
  | _ :: _, [], _, h, _ => h.elim
theorem each_tris {K : PySem.W.Frag} {H : Hp} : ∀ {us : List Value} {ts : List (Str × Str × Str)}, PySem.W.EachIs (isTri K H) us ts → ∃ qs : List Addr, TrisAt K H qs ts ∧ Vals (qs.map V.ref) us
  | _, _, .nil => ⟨[], True.intro, .nil⟩
  | _, _, .cons h r => by
    obtain ⟨p, rfl, hp⟩ := h
    obtain ⟨qs, hq, hv⟩ := each_tris r
    exact ⟨p :: qs, ⟨hp, hq⟩, .cons rfl hv⟩
theorem tri_dp {K : PySem.W.Frag} {H : Hp} {p : Addr} {t : Str × Str × Str} (h : SqT K H p (triV3 t)) : Dp K H (.ref p) (triD3 t) := .tup h (.cons (.str _) (.cons (.str _) (.cons (.str _) .nil)))
theorem tri_depth (t : Str × Str × Str) : (triD3 t).depth ≤ 2 := by
  simp [triD3, PyData.depth, PyData.depthAll]
section
variable {X : Cx} {pins : List (Addr × Obj)} {σ : L2.St} {H : Hp} {s : Shared}
theorem tri_reads (I : Inv X pins σ H s) : ∀ {us : List Value} {ts : List (Str × Str × Str)}, PySem.W.EachIs (isTri X.K H) us ts → PySem.W.EachIs (fun v b => ∃ as, Reads s.heap v (triD3 b) as) us ts
  | _, _, .nil => .nil
  | _, _, .cons h r => by
    obtain ⟨p, rfl, hp⟩ := h
    exact .cons (Dp.reads I _ _ _ (tri_dp hp) rfl) (tri_reads I r)
theorem tri_alike (ts : List (Str × Str × Str)) : PySem.W.AllAlike (ts.map triD3) := PySem.W.AllAlike.of fun b b' => by
  simp [triD3, PySem.W.alike, PySem.W.alikeAll]
theorem tri_sortable (ts : List (Str × Str × Str)) : PySem.W.Sortable (ts.map triD3) := PySem.W.Sortable.tuples fun b => ⟨_, _, rfl⟩
theorem sortT_len (ts : List (Str × Str × Str)) : (sortT ts).length = ts.length := List.length_mergeSort _
/-- sorted(xs) -/
def rSortTL (K : PySem.W.Frag) : List V → Hp → VK → Prop := fun vs H Q => ∃ (a : Addr) (ps : List Addr) (ts : List (Str × Str × Str)), vs = [.ref a] ∧ SqL K H a (ps.map V.ref) ∧ TrisAt K H ps ts ∧
  ∀ (qs : List Addr) (p : Addr), TrisAt K H qs (sortT ts) → H p = none → Q (.ref p) (upd H p (.lst (qs.map V.ref)))
theorem cr_sortTL (hu : X.A.units + 64 < cLine) : CallR X (.builtin "sorted") (rSortTL X.K) := by
  intro pins s σ H xs us Q I r h
  obtain ⟨a, ps, ts, rfl, hs, ht, q⟩ := h
  obtain ⟨its, rv, hl, hz⟩ := I.list hs
  obtain ⟨u, rfl, ru⟩ := vals1 r
  obtain rfl : u = Value.ref a := ru
  have he := tris_each ht rv
  have hlen : ts.length ≤ sizeLine := by
    rw [← ht.len]
    rw [List.length_map] at hz
    exact hz
  refine PySem.W.sorted_data (bs := ts) (enc := triD3) (R := isTri X.K H) hl.isList he (tri_reads I he) (tri_alike ts) (tri_sortable ts) hlen (fun b _ => by have := tri_depth b; omega) fun out ho hout => ?_
  obtain ⟨qs, hq, hv⟩ := each_tris hout
  obtain ⟨e, hat⟩ := sortedAll_at s.heap its out.toArray
  have hle : s.heap.objs.size ≤ s.heap.objs.size + 1 := Nat.le_succ _
  refine ⟨.ref (s.heap.objs.size + 1), upd H (s.heap.objs.size + 1) (.lst (qs.map V.ref)), I.laid (t' := s.toks) (fun b o z => sortedAll_old z) hle ⟨?_, out, e, hv, hat⟩, rfl, q qs _ hq (I.hok.fresh hle)⟩
  rw [List.length_map, hq.len, List.length_mergeSort]
  exact hlen
def triK (t : Str × Str × Str) : List L2.Key := [Sum.inr t.1, Sum.inr t.2.1, Sum.inr t.2.2]
/-- sorted(d), d a dict whose keys are triples -/
def rSortTD (K : PySem.W.Frag) : List V → Hp → VK → Prop := fun vs H Q => ∃ (a : Addr) (kvs : List (List L2.Key × V)) (ts : List (Str × Str × Str)), vs = [.ref a] ∧ H a = some (.dT kvs) ∧ kvs.map (·.1) = ts.map triK ∧
  ∀ (qs : List Addr) (p : Addr), TrisAt K H qs (sortT ts) → H p = none → Q (.ref p) (upd H p (.lst (qs.map V.ref)))
theorem keys_tris {K : PySem.W.Frag} {H : Hp} : ∀ {kvs : List (List L2.Key × V)} {bs : List Addr} {ts : List (Str × Str × Str)}, IsKeys H kvs bs → kvs.map (·.1) = ts.map triK → TrisAt K H bs ts
  | [], _, ts, h, e => by
    cases h
    cases ts with
    | nil => exact True.intro
    | cons t r => cases e
  | kv :: kvs, _, ts, h, e => by
    cases h with
    | cons h1 h2 =>
      cases ts with
      | nil => cases e
      | cons t r =>
        have e1 : kv.1 = triK t := (List.cons.inj e).1
        rw [e1] at h1
        exact ⟨SqT.of h1, keys_tris h2 (List.cons.inj e).2⟩
theorem cr_sortTD (hc : X.calm = true) (hu : X.A.units + 64 < cLine) : CallR X (.builtin "sorted") (rSortTD X.K) := by
  intro pins s σ H xs us Q I r h
  obtain ⟨d, kvs, ts, rfl, hd, hk, q⟩ := h
  obtain ⟨u, rfl, ru⟩ := vals1 r
  obtain rfl : u = Value.ref d := ru
  obtain ⟨z, hs, ks, pr, o, es, ep, ho, hx, hdt, he, hn⟩ := (show ObjOk X.prog X.w H s.heap d (.dT kvs) from I.hok d _ hd)
  have l1 : es.size = ks.length := size_of_entries he
  have l2 : kvs.length = ks.length := Paired.length pr
  have l3 : ts.length = kvs.length := by
    have e := congrArg List.length hk
    rw [List.length_map, List.length_map] at e
    exact e.symm
  have hT : TrisAt X.K H (ks.map fun x => x.2.1) ts := keys_tris (isKeys_of pr) hk
  refine Calls.call_function_entry kind_sorted plain_sorted entry_sorted (args_sorted1 _) ?_
  unfold Builtin.«sorted»
  refine wpAny_bind (m := checkCount "sorted" 1 1 _) (wpAny_pure ?_)
  refine wpAny_bind (PySem.W.kdu_collect (A := X.A.in1) (kdl_raw hs hx hdt) (I.ok.hd hc) ho (by omega) fun h' tk acc kp it => ?_)
  have ea : acc.toList = (ks.map fun x => x.2.1).map Value.ref := by
    apply List.ext_getElem?
    intro j
    have hl : acc.toList.length = ks.length := by rw [Array.length_toList, it.1]; exact l1
    rw [List.getElem?_map, List.getElem?_map]
    cases hb : ks[j]? with
    | none =>
      have := List.getElem?_eq_none_iff.mp hb
      rw [List.getElem?_eq_none (by omega)]
      rfl
    | some b =>
      have hj : j < acc.toList.length := by rw [hl]; exact (List.getElem?_eq_some_iff.mp hb).1
      have e1 := List.getElem?_eq_getElem hj
      obtain ⟨en, hen, hv⟩ := it.2 j _ (by rw [← Array.getElem?_toList]; exact e1)
      have qe := entry_at he j
      rw [hen, hb] at qe
      have e2 : en = entryOfKey (tupleKind (mixKind X.prog X.w)) b := Option.some.inj qe
      rw [e1, hv, e2]
      rfl
  have I1 : Inv X pins σ H { s with heap := h', toks := tk } := I.kept (t' := tk) kp
  have rv : Vals ((ks.map fun x => x.2.1).map V.ref) acc.toList := by rw [ea]; exact vals_refs _
  have each := tris_each hT rv
  have alen : acc.toList.length ≤ sizeLine := by
    rw [Array.length_toList, it.1]
    omega
  refine wpAny_bind (wpAny_newList ?_ alen)
  have hoL : (h'.push (seqObj "list" acc.toList.toArray 0)).get? h'.objs.size = some (seqObj "list" acc.toList.toArray 0) := Heap.get?_push_size _ rfl
  show wpAny _ _ _ _ _ { s with heap := h'.push (seqObj "list" acc.toList.toArray 0), toks := tk }
  have er : PySem.W.EachIs (fun v b => ∃ as, Reads (PySem.W.sortingHeap (h'.push (seqObj "list" acc.toList.toArray 0)) h'.objs.size acc.toList) v (triD3 b) as) acc.toList ts :=
    (tri_reads I1 each).mono fun _ _ ⟨as, rr⟩ => ⟨as, Reads.keeps (fun b o zz => PySem.W.sortingHeap_old (Nat.ne_of_lt (Heap.lt_size zz)) (Heap.get?_push_of_some _ zz)) rr⟩
  refine wpAny_bind (wpAny_holding (wpAny_call_entry slot_list_sort ⟨_, hoL, rfl⟩ entry_list_sort
    (PySem.W.list_sort_vals (s := { s with heap := h'.push (seqObj "list" acc.toList.toArray 0), toks := tk }) hoL
      (PySem.W.SortsAt.data (A := X.A.in1.in1) (s := { s with heap := PySem.W.sortingHeap (h'.push (seqObj "list" acc.toList.toArray 0)) h'.objs.size acc.toList, toks := tk }) (PySem.W.each_map (R := fun v d => ∃ as, Reads (PySem.W.sortingHeap (h'.push (seqObj "list" acc.toList.toArray 0)) h'.objs.size acc.toList) v d as) triD3 er) (tri_alike ts) (tri_sortable ts) (PySem.W.bound_map fun b _ => by
        have := tri_depth b
        have e2 : X.A.in1.in1.units ≤ X.A.units + 2 := Nat.le_refl _
        omega)) alen ⟨_, rfl, ?_⟩)
    (args_list_sort _)))
  have hout := PySem.W.sortVals_data (R := isTri X.K H) false each er (tri_alike ts)
  obtain ⟨qs, hq, hv⟩ := each_tris hout
  obtain ⟨e, hat⟩ := sortedHeap_at (vs := acc.toList) (out := (PySem.W.sortVals _ false acc.toList acc.toList).toArray) hoL
  refine wpAny_pure ⟨_, rfl, .ref h'.objs.size, upd H h'.objs.size (.lst (qs.map V.ref)), I1.laid (t' := tk) (fun b o zz => ?_) (Nat.le_refl _) ⟨?_, _, e, hv, hat⟩, rfl, q qs _ hq (I1.hok.fresh (Nat.le_refl _))⟩
  · have lt := Heap.lt_size zz
    have lt2 : b < (h'.push (seqObj "list" acc.toList.toArray 0)).objs.size := Heap.lt_size (Heap.get?_push_of_some _ zz)
    rw [sortedHeap_old (Nat.ne_of_lt lt) lt2]
    exact Heap.get?_push_of_some _ zz
  · rw [List.length_map, hq.len, List.length_mergeSort]
    omega
end
end Wm
/-! del d[t], d.pop(t): keys that are tuples -/
namespace Wm
open PySem PySem.Spec PyProof.Rows L2 L2.DX
section
variable {X : Cx} {pins : List (Addr × Obj)} {σ : L2.St} {H : Hp} {s : Shared} {a b : Addr} {kvs : List (List L2.Key × V)} {k : List L2.Key} {o i e : Expr} {td ty : TE} {tpos pos apos cpos : Pos}
theorem at_of {H : Hp} {kvs : List (List L2.Key × V)} {xs : List (List L2.Key × Addr × Value)} {v : V} (rel : KT H kvs xs) (ev : valV kvs k = some v) : ∃ p, atKey xs k = some p ∧ RelV v p.2 := by
  have r := rel.val k
  rw [ev] at r
  cases h : atKey xs k with
  | none =>
    rw [h] at r
    exact (show False from r).elim
  | some p =>
    rw [h] at r
    exact ⟨p, rfl, r⟩
theorem inv_drop {h' : Heap} {tk : Nat} {xs : List (List L2.Key × Addr × Value)} (I : Inv X pins σ H s) (ha : H a = some (.dT kvs)) (z : kvs.length ≤ sizeLine) (hd : (a == sysModules) = false) (rel : KT H kvs xs)
    (dd : h'.DictOfH (tupleKind (mixKind X.prog X.w)) a (withoutH xs k)) (hs : Heap.SameBut a s.heap h') : Inv X pins σ (upd H a (.dT (dropK kvs k))) { s with heap := h', toks := tk } := by
  obtain ⟨o, es, ep, hq, h2, h3, h4, _, h5⟩ := dd
  exact d_write I (by rw [ha]; exact True.intro) hs ⟨o, hq⟩ ⟨Nat.le_trans (dropK_le kvs k) z, hd, _, (KT_drop k rel).keeps (fun c ys ec => (by rw [upd_ne (ne_of ec ha (fun z => nomatch z))]; exact ec)), o, es, ep, hq, h2, h3, h4, h5⟩
def sDDelT (td ty : TE) : TS := fun D σ H => td σ H fun x H1 => ty σ H1 fun y H2 => ∃ a kvs k b, x = .ref a ∧ y = .ref b ∧ H2 a = some (.dT kvs) ∧ H2 b = some (.tup (k.map kV)) ∧ (valV kvs k).isSome = true ∧ D.nx σ (upd H2 a (.dT (dropK kvs k)))
theorem ps_ddelT (hu : X.A.units + 1 < cLine) (ho : PE X o td) (hi : PE X i ty) : PS X (.Delete [.Subscript o i tpos] pos) (sDDelT td ty) := by
  refine ⟨fun pins s σ H D I h => ?_⟩
  refine wpAny_Delete (wpAny_deleteEach_cons (wpAny_delete_Subscript (thn (ho.run pins s σ H _ I h) fun u s1 ⟨x, H1, I1, rx, q1⟩ => thn (hi.run pins s1 σ H1 _ I1 q1) fun iv s2 ⟨y, H2, I2, ry, a, kvs, k, b, ex, ey, ea, eb, l, q2⟩ => ?_)))
  subst ex ey
  obtain rfl : u = Value.ref a := rx
  obtain rfl : iv = Value.ref b := ry
  obtain ⟨z, hd, xs, rel, dd⟩ := dt_of I2.hok ea
  obtain ⟨v, ev⟩ := Option.isSome_iff_exists.mp l
  obtain ⟨p, hp, _⟩ := at_of rel ev
  exact wpAny_delItem_heap (hsz := by rw [← Paired.length rel]; exact z) (knd := tupleKind (mixKind X.prog X.w)) (tupleKind_room_in1 hu) (key_of I2.hok eb) hd dd hp fun h' hm' hs => wpAny_deleteEach_nil ⟨σ, _, inv_drop I2 ea z hd rel hm' hs, q2⟩
def tDPopT1 (td ty : TE) : TE := fun σ H Q => td σ H fun x H1 => ∃ a, x = .ref a ∧ IsD H1 a ∧ ty σ H1 fun y H2 => ∃ kvs k b v, y = .ref b ∧ H2 a = some (.dT kvs) ∧ H2 b = some (.tup (k.map kV)) ∧ valV kvs k = some v ∧ Q v (upd H2 a (.dT (dropK kvs k)))
theorem pe_dpopT1 (hu : X.A.units + 1 < cLine) (ho : PE X o td) (he : PE X e ty) (m : M1 X o "pop" apos e cpos) : PE X (.Call (.Attribute o "pop" apos) [e] [] cpos) (tDPopT1 td ty) := by
  refine ⟨fun pins s σ H Q I h => ?_⟩
  refine wpAny_Call_method m.base m.few m.line PySem.F.plainAttrs_dict PySem.F.slot_dict_pop PySem.F.type_dict_pop (thn (ho.run pins s σ H _ I h) fun u s1 ⟨x, H1, I1, rx, a, ex, d, q1⟩ => ?_)
  subst ex
  obtain rfl : u = Value.ref a := rx
  obtain ⟨t1, t2, _⟩ := isD_at I1 d
  refine ⟨t1, t2, ?_⟩
  rw [m.trees]
  refine Calls.callWith_builtin rfl (Calls.evalArgs_plain (Calls.spliced_cons (thn (he.run pins s1 σ H1 _ I1 q1) fun iv s2 ⟨y, H2, I2, ry, kvs, k, b, v, ey, ea, eb, ev, q2⟩ => Calls.spliced_nil ?_)))
  subst ey
  obtain rfl : iv = Value.ref b := ry
  obtain ⟨z, hd, xs, rel, dd⟩ := dt_of I2.hok ea
  obtain ⟨p, hp, rp⟩ := at_of rel ev
  exact call_pop_heap (more := []) (hsz := by rw [← Paired.length rel]; exact z) (knd := tupleKind (mixKind X.prog X.w)) (.inl rfl) (PySem.F.args_dict_pop_2 _ _) (tupleKind_room_in1 hu) (key_of I2.hok eb) hd dd hp fun h' hm' hs => ⟨v, _, inv_drop I2 ea z hd rel hm' hs, rp, q2⟩
end
end Wm
namespace Wm
open L2 PySem PySem.W
/-- a def to which a caught error is handed within the suite that caught it -/
structure FnE (P : Program) (w : World) (K : Frag) (mg : Str → Option Value) (base : Heap) (k : Nat) (f : Addr) (fd : FuncData) (ps : List Str)
    (sp : Addr → Value → Option Addr → Sp) : Prop where
  len : ∀ a cls d vs H Q E, sp a cls d vs H Q E → vs.length = ps.length
  run : ∀ (A : Around) (outer : List Env) (s : Shared) (H : Hp) (args : Args) (us : List Value) (vs : List V) (Q : VK) (E : XK) (a : Addr) (oe : Obj) (cls : Value) (d : Option Addr),
    L2H.RoomH k A → A.handled = some (.ref a) → Zc cls d oe → (∃ vs, oe.data = .fields vs) → L2H.PinOk outer H s (a, oe) → Env0 P w K mg base A outer s H →
    BindsTo s fd args (ps.zip us) → Vals vs us → sp a cls d vs H Q E → codeAny (model P w) A (.call (.ref f) args) (CR CX0 outer P w H s Q E) s
theorem mark_self {A : Around} {a : Addr} (h : A.handled = some (.ref a)) : A.mark (some (.ref a)) = A := by
  cases A
  simp only at h
  subst h
  rfl
theorem fn_ofE {P : Program} {w : World} {K : Frag} {mg : Str → Option Value} {base : Heap} {k : Nat} {f : Addr} {name qual : Str} {params : Arguments} {body : List Stmt} {scope : Scope}
    {dV kV doc pm cdv ct oc : Value} {an od : Option Addr} {osl : Array (Option Value)} {N ps : List Str} {sp : Addr → Value → Option Addr → Sp}
    (lk : List.lookup f K = some { cls := oc, dict := od, data := .func (fnOf name qual params body scope dV kV doc pm an cdv ct), slots := osl })
    (hcd : codeIn K cdv qual = true) (S : FnScope N ps scope)
    (len : ∀ a cls d vs H Q E, sp a cls d vs H Q E → vs.length = ps.length)
    (hbody : ∀ (A : Around) (outer : List Env) (s : Shared) (H : Hp) (vs : List V) (Q : VK) (E : XK) (a : Addr) (oe : Obj) (cls : Value) (d : Option Addr),
      Zc cls d oe → (∃ vs, oe.data = .fields vs) → L2H.RoomH k (A.deeper (PyProof.Rows.envOfC qual scope s.heap.objs.size f cdv)) → sp a cls d vs H Q E →
      ∃ t, PSs ((cxOf CX0 P w K mg base N qual scope f cdv A outer s H E).suite a [(a, oe)]) body t ∧ t { nx := fun _ H' => Q .non H', rt := Q } (L2.start N vs) H) :
    FnE P w K mg base (k + 1) f (fnOf name qual params body scope dV kV doc pm an cdv ct) ps sp where
  len := len
  run := by
    intro A outer s H args us vs Q E a oe cls d hr hh hz hf hpin e0 hb r hsp
    have KX := Frag.In.keeps e0.mod.kin fun b o e => (e0.bs b o e).1
    have lim := Heap.NoLimit.keeps e0.mod.nolimit fun b o e => (e0.bs b o e).1
    refine codeAny_call_function hr.depth (KX f _ lk) rfl S.co S.gen rfl (codeRec_of KX hcd) (hb _ A.in1 _ _ (wpAny_newFunctionEnv_cells S.kind ?_ ?_))
    · rintro ⟨n, v⟩ hy
      rcases S.par n (List.of_mem_zip hy).1 with q | q
      · exact Or.inl q
      · exact Or.inr ⟨q, cellsFrom_some scope.names (s.heap.objs.size + 1) [] (Or.inl q)⟩
    · intro env he s1 x
      subst he
      refine ⟨Heap.NoLimit.keeps lim x.toInCall.keep, codeAny_func ?_⟩
      obtain ⟨t, ht, hq⟩ := hbody A outer s H vs Q E a oe cls d hz hf (L2H.RoomH.deeper hr _) hsp
      have I := L2H.inv_startH (CX := CX0) (E := E) S hpin e0 (len _ _ _ _ _ _ _ hsp) r x
      have hm : (A.deeper (PyProof.Rows.envOfC qual scope s.heap.objs.size f cdv)).mark (some (.ref a)) = A.deeper (PyProof.Rows.envOfC qual scope s.heap.objs.size f cdv) := mark_self hh
      have o := I.ok
      have I2 : Inv ((cxOf CX0 P w K mg base N qual scope f cdv A outer s H E).suite a [(a, oe)]) [] (L2.start N vs) H s1 :=
        ⟨⟨o.mod, o.kind, o.glob, o.blt, o.above, o.inj, o.has, o.cab, (fun h => by cases h), o.frames, o.stk, o.exf, o.bs, o.bsz, o.noex, o.exfs, o.funs, o.frf⟩,
          I.os, I.bare, I.base, I.loc, I.cell, I.free, I.freeC, I.pin, I.hok, I.len⟩
      have go := ht.run [] s1 (L2.start N vs) H { nx := fun _ H' => Q .non H', rt := Q } I2 hq
      dsimp only [Cx.suite, cxOf] at go
      rw [hm] at go
      refine wpAny_mono go (fun fl s' hs => ?_) fun e s' hs => hs.elim
      cases fl with
      | next =>
        obtain ⟨σ', H', J, q⟩ := hs
        exact ⟨.non, H', J.os, J.bare, J.base, J.hok, rfl, q⟩
      | brk =>
        obtain ⟨_, _, _, q⟩ := hs
        exact q.elim
      | cont =>
        obtain ⟨_, _, _, q⟩ := hs
        exact q.elim
      | ret u =>
        obtain ⟨v, σ', H', J, rv, q⟩ := hs
        exact ⟨v, H', J.os, J.bare, J.base, J.hok, rv, q⟩
theorem FunE_ok {P : Program} {w : World} {K : Frag} {mg : Str → Option Value} {base : Heap} {x qual : Str} {st : Stmt} {f : Addr} {fd : FuncData} {N ps : List Str} {k : Nat} {sp : Addr → Value → Option Addr → Sp}
    (F : Fun K x qual st f fd) (S : FnScope N ps (defScope st))
    (len : ∀ a cls d vs H Q E, sp a cls d vs H Q E → vs.length = ps.length)
    (hbody : ∀ (cdv : Value) (A : Around) (outer : List Env) (s : Shared) (H : Hp) (vs : List V) (Q : VK) (E : XK) (a : Addr) (oe : Obj) (cls : Value) (d : Option Addr),
      Zc cls d oe → (∃ vs, oe.data = .fields vs) → L2H.RoomH k (A.deeper (PyProof.Rows.envOfC qual (defScope st) s.heap.objs.size f cdv)) → sp a cls d vs H Q E →
      ∃ t, PSs ((cxOf CX0 P w K mg base N qual (defScope st) f cdv A outer s H E).suite a [(a, oe)]) (defBody st) t ∧ t { nx := fun _ H' => Q .non H', rt := Q } (L2.start N vs) H) :
    FnE P w K mg base (k + 1) f fd ps sp := by
  obtain ⟨oc, od, kV, doc, pm, an, cdv, ct, osl, rfl, lk, hcd⟩ := F.ex
  exact fn_ofE lk hcd S len fun A outer s H vs Q E a oe cls d hz hf hr hsp => hbody cdv A outer s H vs Q E a oe cls d hz hf hr hsp
/-- the call f(e, ..) of such a def within the suite -/
def tCallE (sp : Sp) (t : TA) : TE := fun σ H Q => t σ H fun vs H1 => sp vs H1 Q (fun _ _ _ => False)
theorem pe_callE {X : Cx} {k : Nat} {f : Addr} {fd : FuncData} {ps : List Str} {sp : Addr → Value → Option Addr → Sp} {a : Addr} {oe : Obj} {cls : Value} {d : Option Addr} {pn : List (Addr × Obj)}
    {x : Str} {q pos : Pos} {e : Expr} {es : List Expr} {t : TA}
    (F : FnE X.prog X.w X.K X.mg X.base k f fd ps sp) (hr : L2H.RoomH k X.A) (hz : Zc cls d oe) (hf : ∃ vs, oe.data = .fields vs) (hg : Gl X x) (hm : X.mg x = some (.ref f))
    (hk : keepIn X.K (.ref f) = true) (hb : L2.Binds X.K fd ps []) (ha : PA (X.suite a ((a, oe) :: pn)) (e :: es) t)
    (hdb : (x == Str.ofString "__debug__") = false := by rfl) (he : starEach (e :: es) X.env = (false, eval e X.env) :: starEach es X.env := by rfl)
    (hpl : ((backTo pos (starEach es X.env)).any fun x => x.1) = false := by rfl) :
    PE (X.suite a ((a, oe) :: pn)) (.Call (.Name x q) (e :: es) [] pos) (tCallE (sp a cls d) t) where
  run := by
    intro pins s σ H Q I h
    refine wpAny_Call_Name_kw (ld_glob I hg hm (callWith_K I.ok.mod.kin hk (thn (ha.run pos pins s σ H _ I h) ?_) he hpl) hdb)
    rintro us s1 ⟨vs, H1, I1, r, h1⟩
    refine ⟨I1.kIn, ?_⟩
    have P1 := I1.pin (a, oe) (List.mem_append_left _ (List.mem_cons_self ..))
    have hp : L2H.PinOk X.stack H1 s1 (a, oe) := ⟨P1.1, P1.2.1, fun hx => (List.mem_cons.mp (I1.stkSub a hx)).elim P1.2.2.1 P1.2.2.2.1, P1.2.2.2.2⟩
    have hl : (us ++ []).length = ps.length := by rw [List.append_nil, ← r.length]; exact F.len _ _ _ _ _ _ _ h1
    have b := hb s1 us I1.kIn hl
    rw [List.append_nil] at b
    have hr2 : L2H.RoomH k (X.suite a ((a, oe) :: pn)).A := ⟨hr.dp, hr.un⟩
    refine wpAny_call (codeAny_mono (F.run (X.suite a ((a, oe) :: pn)).A X.stack s1 H1 ⟨us, []⟩ us vs Q _ a oe cls d hr2 rfl hz hf hp I1.env0 b r h1) fun r s' hq => ?_)
    cases r with
    | error e => exact hq.elim
    | ok fl =>
      cases fl with
      | next => exact hq.elim
      | brk => exact hq.elim
      | cont => exact hq.elim
      | ret u => exact I1.after hq
end Wm
/-! own errors whose context is known to be None, from raise to the suite that hands them on -/
namespace Wm
open PySem PySem.Spec PyProof.Rows L2
section
variable {X : Cx} {e : Expr} {es : List Expr} {ta : TA} {p pos : Pos}
/-- an own error made: its context is None -/
theorem pmkN_oex {CX : CXT} {x : Str} {C fI : Addr} {k : Nat} {fd : FuncData} {ps : List Str} {sp : Sp} (T : OexC X.K C) (iC : PySem.W.findIn X.K (.ref C) "__init__" = some (some (.ref fI))) (tI : PySem.W.typeIn X.K (.ref fI) = some (.type "function"))
    (G : FnOk X.prog X.w X.K X.mg X.base CX k fI fd ps sp) (hr : Room (k + 1) X.A) (hb : L2.Binds X.K fd ps []) (hx : Passes CX X (fun _ _ _ => False)) (hg : Gl X x) (hm : X.mg x = some (.ref C)) (ha : PA X (e :: es) ta)
    (hdb : (x == ("__debug__" : Str)) = false := by decide) (he : starEach (e :: es) X.env = (false, eval e X.env) :: starEach es X.env := by rfl) (hpl : (backTo pos (starEach es X.env)).any (·.1) = false := by rfl) :
    L2N.PMk X (.Call (.Name x p) (e :: es) [] pos) (tMkO C sp [] ta) := by
  intro pins s σ H Q I h
  obtain ⟨nm, q, N, bs, bm, sn, sub, ab, col, dd, k0, k1, k2, k3, k5, hC, hbm⟩ := T.cls
  refine wpAny_Call_Name_kw (ld_glob I hg hm (PySem.W.callWith_K (h₀ := X.base) I.ok.mod.kin T.kC (thn (ha.run pos pins s σ H _ I h) ?_) he hpl) hdb)
  rintro us ⟨hp, g, dr, tk, os⟩ ⟨vs, H1, I1, r1, hz, q1⟩
  refine ⟨I1.kIn, ?_⟩
  generalize hA : hp.objs.size + 1 = A1 at *
  have le : hp.objs.size ≤ A1 := by omega
  have fr : H1 A1 = none := I1.hok.fresh le
  have hq := q1 A1 fr
  rw [List.append_nil] at hq
  have kp : ∀ b o, hp.get? b = some o → ((hp.push (PySem.W.kdv_tup us)).push (PySem.HandSPX.excO C hp.objs.size)).get? b = some o := fun b o z => Heap.get?_push_of_some _ (Heap.get?_push_of_some _ z)
  have new : ((hp.push (PySem.W.kdv_tup us)).push (PySem.HandSPX.excO C hp.objs.size)).get? A1 = some (PySem.HandSPX.excO C hp.objs.size) := by
    rw [← hA]
    heap_get
  have I2 : Inv X pins σ (upd H1 A1 (exo A1 C none)) ⟨(hp.push (PySem.W.kdv_tup us)).push (PySem.HandSPX.excO C hp.objs.size), g, dr, tk, os⟩ := I1.laid (t' := tk) (a := A1) (o := exo A1 C none) kp le (exo_ok new)
  have r2 : Vals (V.ref A1 :: vs) (Value.ref A1 :: us) := .cons rfl r1
  have ln : (Value.ref A1 :: us ++ []).length = ps.length := by
    rw [List.append_nil, ← r2.length]
    exact G.len _ _ _ _ hq
  have b2 := hb _ (Value.ref A1 :: us) I2.kIn ln
  rw [List.append_nil] at b2
  have big : us.length ≤ sizeLine := by
    rw [← Paired.length r1, sizeLine_eq]
    omega
  subst hA
  refine wpAny_call (PySem.HandSPX.call_own F.excBase_ValueError (fun Y => PySem.HandSPX.refsVE_contains Y bm hbm) (I1.kIn _ _ hC) (PySem.W.looks_findIn I1.kIn iC) (fun self => PySem.W.bind_fn I1.kIn self tI) big
    (codeAny_mono (G.run _ X.stack _ _ _ _ _ _ (fun _ _ _ => False) (hr.make C us []) (I2.env0.make C us []) b2 r2 hq) fun r s' hq' => ?_))
  cases r with
  | error er => exact hx pins σ _ _ er s' I2 hq'
  | ok fl =>
    cases fl with
    | next => exact hq'.elim
    | brk => exact hq'.elim
    | cont => exact hq'.elim
    | ret u =>
      obtain ⟨v, H2, os2, bare2, un2, hok2, rv, rfl, d, fs, ea, ed, hd1, q2⟩ := hq'
      obtain ⟨h2, g2, d2, t2, os'⟩ := s'
      obtain ⟨t0, W, J, kW, ge, hoe, na⟩ := mk_end0 (d2 := d2) (t2 := t2) I1 le kp un2 hok2 os2 bare2 ea ed hd1
      refine ⟨rv, hp.objs.size + 1, _, _, ⟨W, g2, d2, t2, os'⟩, _, .ref C, some d, rfl, J, kW, ge, hoe, ⟨rfl, rfl, fun vs hv => ?_⟩, rfl, rfl, na, rfl, bare2, raises_own T.exC T.tyC, q2⟩
      cases hv
      rfl
end
section
variable {P : Program} {w : World} {K : PySem.W.Frag} {mg : Str → Option Value} {base : Heap}
theorem okN {x qual : Str} {st : Stmt} {f : Addr} {fd : FuncData} {N ps : List Str} {k : Nat} {sp : Sp} (F : Fun K x qual st f fd) (S : FnScope N ps (defScope st)) (len : ∀ vs H Q E, sp vs H Q E → vs.length = ps.length)
    (hbody : ∀ (cdv : Value) (A : Around) (outer : List Env) (s : Shared) (H : Hp) (vs : List V) (Q : VK) (E : XK), Room k (A.deeper (envOfC qual (defScope st) s.heap.objs.size f cdv)) → sp vs H Q E →
      ∃ t, PSs (cxOf (L2N.CX P w) P w K mg base N qual (defScope st) f cdv A outer s H E) (defBody st) t ∧ t { nx := fun _ H' => Q .non H', rt := Q } (L2.start N vs) H) : FnOk P w K mg base (L2N.CX P w) (k + 1) f fd ps sp := by
  obtain ⟨oc, od, kV, doc, pm, an, cdv, ct, osl, rfl, lk, hcd⟩ := F.ex
  exact fn_of lk hcd S len fun A outer s H vs Q E hr hsp => hbody cdv A outer s H vs Q E hr hsp
end
/-- around a body nothing is let out -/
theorem takesN0 {X : Cx} : L2N.Takes X (fun _ _ _ _ => False) := fun _ _ x => by
  obtain ⟨_, _, _, _, _, _, _, _, _, _, _, _, _, _, _, _, z⟩ := x
  exact z.elim
end Wm
namespace Wm
open PySem L2
def fndR (rs : List RlD) (z : Str) : Option RlD := rs.find? fun r => decide (r.p.nm = z)
def spSR1 (K : PySem.W.Frag) (S RB C : Addr) : Sp := fun vs H Q E => ∃ (x : Addr) (z : Str) (ss ws : List Str) (as bs cs : List Addr) (rs : List RlD), vs = [.ref x, .str z] ∧ SchG S H x ss ws as bs cs ∧ AllAt (RlAt K RB H) bs rs ∧ match fndR rs z with
  | some r => ∀ a, RlAt K RB H a r → Q (.ref a) H
  | none => ∀ d H', H d = none → Same H H' → H' d = some (.xd (ef1 "name" "norule" (.str z))) → E (.ref C) (some d) H'
def fndB (rs : List PtD) (z : Str) : Option PtD := rs.find? fun r => decide (r.nm = z)
def spSB1 (K : PySem.W.Frag) (S RB C : Addr) : Sp := fun vs H Q E => ∃ (x : Addr) (z : Str) (ss ws : List Str) (as bs cs : List Addr) (rs : List PtD), vs = [.ref x, .str z] ∧ SchG S H x ss ws as bs cs ∧ AllAt (BrAt K RB H) cs rs ∧ match fndB rs z with
  | some r => ∀ a, BrAt K RB H a r → Q (.ref a) H
  | none => ∀ d H', H d = none → Same H H' → H' d = some (.xd (ef1 "name" "nobar" (.str z))) → E (.ref C) (some d) H'
section
variable {P : Program} {w : World} {K : PySem.W.Frag} {mg : Str → Option Value} {base : Heap}
theorem scNR : FnScope ["self", "name"] ["self", "name"] (defScope sNR) := ⟨rfl, rfl, rfl, by decide +kernel, rfl, by decide +kernel, by decide +kernel⟩
theorem ok_norule {f C f0 W : Addr} {fd fd0 : FuncData} (F : Fun K "__init__" "NoRule.__init__" sNR f fd) (T : ErrT K mg "NoRule" "name" C f) (TW : WhoT K mg W f0 fd0) (G0 : FnOk P w K mg base CX0 1 f0 fd0 ["self", "kind"] (spWI K)) :
    FnOk P w K mg base CX0 2 f fd ["self", "name"] (spE1 C "name" "norule") := by
  refine F.ok scNR (fun vs H Q E h => ?_) (fun cdv A outer s H vs Q E hr h => ?_)
  · obtain ⟨a, v, rfl, _⟩ := h
    rfl
  · obtain ⟨a, v, rfl, ha, k⟩ := h
    refine ⟨_, pss_cons (ps_expr (pe_clsFn rfl TW.g TW.r TW.m TW.k G0 hr TW.b .nil pass0 (pa_cons (pv 0) (pa_cons pe_str pa_nil)))) (pss_one (ps_ost (pv 0) (pv 1))), ?_⟩
    refine ⟨_, rfl, a, C, _, rfl, T.o, T.nk, ha, fun dx n ne => ?_⟩
    refine ⟨_, rfl, _, rfl, a, C, rfl, T.o, T.nf, .inr ⟨dx, _, upd_same, Eq.trans (upd_ne ne) upd_same, by decide, ?_⟩⟩
    refine k dx _ n ne (fun b o nb e => ?_) ?_ upd_same
    · have nd : b ≠ dx := ne_of_none e n
      rw [upd_ne nd, upd_ne nb, upd_ne nd]
      exact e
    · rw [upd_ne ne.symm, upd_same]
theorem scSR1 : FnScope ["self", "name", "rule"] ["self", "name"] (defScope sSR1) := ⟨rfl, rfl, rfl, by decide +kernel, rfl, by decide +kernel, by decide +kernel⟩
theorem ok_sr1 {f S fS RB fR C fI : Addr} {fd fdI : FuncData} (F : Fun K "rule" "Scheme.rule" sSR1 f fd) (TC : TxSch K mg S fS) (TR : TxRul K mg RB fR) (TE : ErrT K mg "NoRule" "name" C fI) (bI : Binds K fdI ["self", "name"] []) (GI : FnOk P w K mg base CX0 2 fI fdI ["self", "name"] (spE1 C "name" "norule")) : FnOk P w K mg base (L2.CX P w) 4 f fd ["self", "name"] (spSR1 K S RB C) := by
  refine F.okX scSR1 (fun vs H Q E h => ?_) (fun cdv A outer s H vs Q E hr h => ?_)
  · obtain ⟨x, z, ss, ws, as, bs, cs, rs, rfl, _⟩ := h
    rfl
  · obtain ⟨x, z, ss, ws, as, bs, cs, rs, rfl, ⟨dx, l1, l2, l3, l4, l5, h0, h1, h2, h3, h4, h5⟩, hat, q⟩ := h
    have hr3 : Room 3 _ := hr
    refine ⟨_, (pss_cons (ps_for (passes_of rfl) rfl (pi_list (pe_fld (pv 0) rfl)) (pg_name (i := 2) scSR1.nd rfl (Or.inl rfl)) (pss_one (ps_if (pt_cmpR op_eq (pe_fld (pv 2) rfl) (pv 1) (nomark _)) (pss_one (ps_ret (pv 2))) pss_nil)))
      (pss_one (ps_raise rfl (takes_of rfl rfl rfl rfl) (pmk_oex TE.o TE.iC TE.tI GI hr3 bI .nil pass0 rfl TE.g (pa_cons (pv 1) pa_nil))))), ?_⟩
    refine ⟨_, rfl, x, S, dx, _, _, rfl, h0, TC.cl, TC.n4, schF_ru _ _ _ _ _, l4, rfl, ⟨_, SqL.of h4⟩, for_list (K := K) (a := l4) (xs := bs.map V.ref) (fun i σ H' => H' = H ∧ (∃ v, σ = [some (.ref x), some (.str z), v]) ∧ ∀ y ∈ rs.take i, y.p.nm ≠ z) ⟨rfl, ⟨_, rfl⟩, fun y hy => by simp at hy⟩ (fun i σ H' _ p => by rw [p.1]; exact SqL.of h4) ?_ ?_⟩
    · rintro i v σ H' hi ⟨rfl, ⟨u, rfl⟩, hno⟩
      obtain ⟨b, m, rfl, hm, hq⟩ := hat.get hi
      have hq' := hq
      obtain ⟨d, t1, t2, t3, us, qs, hb, _⟩ := hq'
      refine ⟨_, rfl, b, RB, d, _, _, rfl, hb, TR.cl, TR.nn, rulF_name _ _ _ _ _, _, rfl, rfl, _, rfl, ite2 (fun hc => ?_) (fun hc => ?_)⟩
      · have hc : m.p.nm = z := V.str.inj (of_decide_eq_true hc)
        have hf : fndR rs z = some m := by
          unfold fndR
          rw [List.find?_eq_some_iff_getElem]
          obtain ⟨hil, em⟩ := List.getElem?_eq_some_iff.mp hm
          refine ⟨decide_eq_true hc, i, hil, em, fun j hj => ?_⟩
          have q := hno (rs[j]) (List.mem_take_iff_getElem.mpr ⟨j, by omega, rfl⟩)
          rw [decide_eq_false q]
          rfl
        rw [hf] at q
        exact ⟨_, rfl, q b hq⟩
      · have hc : ¬ m.p.nm = z := fun e => hc (decide_eq_true (by rw [e]))
        refine ⟨rfl, ⟨_, rfl⟩, fun y hy => ?_⟩
        rw [List.take_add_one, hm] at hy
        rcases List.mem_append.mp hy with q | q
        · exact hno y q
        · simp at q
          rw [q]
          exact hc
    · rintro σ H' ⟨rfl, ⟨v, rfl⟩, hno⟩
      rw [List.length_map, hat.len, List.take_length] at hno
      have hf : fndR rs z = none := List.find?_eq_none.mpr fun y hy => by
        rw [decide_eq_false (hno y hy)]
        decide
      rw [hf] at q
      exact ⟨_, rfl, mk1 q⟩
theorem scNB : FnScope ["self", "name"] ["self", "name"] (defScope sNB) := ⟨rfl, rfl, rfl, by decide +kernel, rfl, by decide +kernel, by decide +kernel⟩
theorem ok_nobar {f C f0 W : Addr} {fd fd0 : FuncData} (F : Fun K "__init__" "NoBar.__init__" sNB f fd) (T : ErrT K mg "NoBar" "name" C f) (TW : WhoT K mg W f0 fd0) (G0 : FnOk P w K mg base CX0 1 f0 fd0 ["self", "kind"] (spWI K)) :
    FnOk P w K mg base CX0 2 f fd ["self", "name"] (spE1 C "name" "nobar") := by
  refine F.ok scNB (fun vs H Q E h => ?_) (fun cdv A outer s H vs Q E hr h => ?_)
  · obtain ⟨a, v, rfl, _⟩ := h
    rfl
  · obtain ⟨a, v, rfl, ha, k⟩ := h
    refine ⟨_, pss_cons (ps_expr (pe_clsFn rfl TW.g TW.r TW.m TW.k G0 hr TW.b .nil pass0 (pa_cons (pv 0) (pa_cons pe_str pa_nil)))) (pss_one (ps_ost (pv 0) (pv 1))), ?_⟩
    refine ⟨_, rfl, a, C, _, rfl, T.o, T.nk, ha, fun dx n ne => ?_⟩
    refine ⟨_, rfl, _, rfl, a, C, rfl, T.o, T.nf, .inr ⟨dx, _, upd_same, Eq.trans (upd_ne ne) upd_same, by decide, ?_⟩⟩
    refine k dx _ n ne (fun b o nb e => ?_) ?_ upd_same
    · have nd : b ≠ dx := ne_of_none e n
      rw [upd_ne nd, upd_ne nb, upd_ne nd]
      exact e
    · rw [upd_ne ne.symm, upd_same]
theorem scSB1 : FnScope ["self", "name", "bar"] ["self", "name"] (defScope sSB1) := ⟨rfl, rfl, rfl, by decide +kernel, rfl, by decide +kernel, by decide +kernel⟩
theorem ok_sb1 {f S fS RB fR C fI : Addr} {fd fdI : FuncData} (F : Fun K "bar" "Scheme.bar" sSB1 f fd) (TC : TxSch K mg S fS) (TR : TxBar K mg RB fR) (TE : ErrT K mg "NoBar" "name" C fI) (bI : Binds K fdI ["self", "name"] []) (GI : FnOk P w K mg base CX0 2 fI fdI ["self", "name"] (spE1 C "name" "nobar")) : FnOk P w K mg base (L2.CX P w) 4 f fd ["self", "name"] (spSB1 K S RB C) := by
  refine F.okX scSB1 (fun vs H Q E h => ?_) (fun cdv A outer s H vs Q E hr h => ?_)
  · obtain ⟨x, z, ss, ws, as, bs, cs, rs, rfl, _⟩ := h
    rfl
  · obtain ⟨x, z, ss, ws, as, bs, cs, rs, rfl, ⟨dx, l1, l2, l3, l4, l5, h0, h1, h2, h3, h4, h5⟩, hat, q⟩ := h
    have hr3 : Room 3 _ := hr
    refine ⟨_, (pss_cons (ps_for (passes_of rfl) rfl (pi_list (pe_fld (pv 0) rfl)) (pg_name (i := 2) scSB1.nd rfl (Or.inl rfl)) (pss_one (ps_if (pt_cmpR op_eq (pe_fld (pv 2) rfl) (pv 1) (nomark _)) (pss_one (ps_ret (pv 2))) pss_nil)))
      (pss_one (ps_raise rfl (takes_of rfl rfl rfl rfl) (pmk_oex TE.o TE.iC TE.tI GI hr3 bI .nil pass0 rfl TE.g (pa_cons (pv 1) pa_nil))))), ?_⟩
    refine ⟨_, rfl, x, S, dx, _, _, rfl, h0, TC.cl, TC.n5, schF_ba _ _ _ _ _, l5, rfl, ⟨_, SqL.of h5⟩, for_list (K := K) (a := l5) (xs := cs.map V.ref) (fun i σ H' => H' = H ∧ (∃ v, σ = [some (.ref x), some (.str z), v]) ∧ ∀ y ∈ rs.take i, y.nm ≠ z) ⟨rfl, ⟨_, rfl⟩, fun y hy => by simp at hy⟩ (fun i σ H' _ p => by rw [p.1]; exact SqL.of h5) ?_ ?_⟩
    · rintro i v σ H' hi ⟨rfl, ⟨u, rfl⟩, hno⟩
      obtain ⟨b, m, rfl, hm, hq⟩ := hat.get hi
      have hq' := hq
      obtain ⟨d, t1, t2, us, qs, hb, _⟩ := hq'
      refine ⟨_, rfl, b, RB, d, _, _, rfl, hb, TR.cl, TR.nn, barF_name _ _ _, _, rfl, rfl, _, rfl, ite2 (fun hc => ?_) (fun hc => ?_)⟩
      · have hc : m.nm = z := V.str.inj (of_decide_eq_true hc)
        have hf : fndB rs z = some m := by
          unfold fndB
          rw [List.find?_eq_some_iff_getElem]
          obtain ⟨hil, em⟩ := List.getElem?_eq_some_iff.mp hm
          refine ⟨decide_eq_true hc, i, hil, em, fun j hj => ?_⟩
          have q := hno (rs[j]) (List.mem_take_iff_getElem.mpr ⟨j, by omega, rfl⟩)
          rw [decide_eq_false q]
          rfl
        rw [hf] at q
        exact ⟨_, rfl, q b hq⟩
      · have hc : ¬ m.nm = z := fun e => hc (decide_eq_true (by rw [e]))
        refine ⟨rfl, ⟨_, rfl⟩, fun y hy => ?_⟩
        rw [List.take_add_one, hm] at hy
        rcases List.mem_append.mp hy with q | q
        · exact hno y q
        · simp at q
          rw [q]
          exact hc
    · rintro σ H' ⟨rfl, ⟨v, rfl⟩, hno⟩
      rw [List.length_map, hat.len, List.take_length] at hno
      have hf : fndB rs z = none := List.find?_eq_none.mpr fun y hy => by
        rw [decide_eq_false (hno y hy)]
        decide
      rw [hf] at q
      exact ⟨_, rfl, mk1 q⟩
end
end Wm
/-! methods called within a try, by place and by name -/
namespace Wm
open PySem PySem.Spec PyProof.Rows L2
def tMethZ (C : Addr) (m : Str) (sp : Sp) (E : L2.St → XK) (ta : TE) (t : TA) : TE := fun σ H Q => ta σ H fun x H1 => ∃ a dx fs, x = .ref a ∧ H1 a = some (.ins C dx fs) ∧ fs.lookup m = none ∧ t σ H1 fun vs H2 => sp (x :: vs) H2 Q (E σ)
section
variable {X : Cx} {CX : CXT} {k : Nat} {f C : Addr} {fd : FuncData} {ps : List Str} {sp : Sp} {E : L2.St → XK} {m : Str} {pos apos kpos : Pos} {e o : Expr} {es : List Expr} {ta te : TE} {t : TA}
theorem pe_methZ {pl : Sem Bool} (he : PE X o ta) (c : Cls X.K C) (hm : Meth X.K C m f) (F : FnOk X.prog X.w X.K X.mg X.base CX k f fd ps sp) (hr : Room k X.A) (hb : Binds X.K fd ps []) (hx : ∀ σ, PassesAt CX X σ (E σ)) (ha : PA X (e :: es) t)
    (hst : starEach (e :: es) X.env = (false, eval e X.env) :: starEach es X.env := by rfl) (hpl : (backTo pos (starEach es X.env)).any (·.1) = false := by rfl)
    (ht : eval (.Call (.Attribute o m apos) (e :: es) [] pos) X.env = (do
      let ov ← eval o X.env
      standAt apos.atName
      let (f, first) ← holding [ov] (getMethod ov m pl)
      callWith pos f first (backTo pos (starEach (e :: es) X.env)) (backToKw pos (keywordEach [] X.env))) := by rfl) :
    PE X (.Call (.Attribute o m apos) (e :: es) [] pos) (tMethZ C m sp E ta t) := by
  refine ⟨fun pins s σ H Q I h => ?_⟩
  refine PySem.W.methodCall_KW (pl := pl) (thn (he.run pins s σ H _ I h) fun u s1 hh => ?_) ht
  obtain ⟨x, H1, I1, rx, a, dx, fs, ex, ea, l, q⟩ := hh
  subst ex
  obtain rfl : u = Value.ref a := rx
  refine getmeth_ok I1 ea c hm l ?_
  refine PySem.W.callWith_K (first := [.ref a]) (h₀ := X.base) I.ok.mod.kin hm.kp (thn (ha.run pos pins s1 σ H1 _ I1 q) fun us s2 hh => ?_) hst hpl
  obtain ⟨vs, H2, I2, r, q2⟩ := hh
  exact ⟨I2.kIn, run_fnS (us := .ref a :: us) (vs := .ref a :: vs) F hr hb (hx σ) I2 (.cons rfl r) q2⟩
/-- how one keyword is bound behind the object itself -/
def KwOne (K : PySem.W.Frag) (fd : FuncData) (ps : List Str) (x : Str) : Prop := ∀ (s : Shared) (u v : Value), K.In s.heap → BindsTo s fd ⟨[u], [(x, v)]⟩ (ps.zip [u, v])
/-- o.m(x=e) -/
theorem pe_methKZ {pl : Sem Bool} {x : Str} (ho : PE X o ta) (c : Cls X.K C) (hm : Meth X.K C m f) (F : FnOk X.prog X.w X.K X.mg X.base CX k f fd ps sp) (hr : Room k X.A) (hb : KwOne X.K fd ps x) (hx : ∀ σ, PassesAt CX X σ (E σ)) (he : PE X e te)
    (ht : eval (.Call (.Attribute o m apos) [] [⟨some x, e, kpos⟩] pos) X.env = (do
      let ov ← eval o X.env
      standAt apos.atName
      let (f, first) ← holding [ov] (getMethod ov m pl)
      callWith pos f first (backTo pos (starEach [] X.env)) (backToKw pos (keywordEach [⟨some x, e, kpos⟩] X.env))) := by rfl)
    (hall : (backToKw pos (keywordEach [⟨some x, e, kpos⟩] X.env)).all (·.1.isSome) = true := by rfl) (hks : (backToKw pos (keywordEach [⟨some x, e, kpos⟩] X.env)).filterMap (·.1) = [x] := by rfl) (hpl : ((backTo pos (starEach [] X.env)).any (·.1) || (backToKw pos (keywordEach [⟨some x, e, kpos⟩] X.env)).any (·.1.isNone)) = false := by rfl) (hps : ps.length = 2 := by rfl) :
    PE X (.Call (.Attribute o m apos) [] [⟨some x, e, kpos⟩] pos) (tMethZ C m sp E ta (tCons te tNil)) := by
  refine ⟨fun pins s σ H Q I h => ?_⟩
  refine PySem.W.methodCall_KW (pl := pl) (thn (ho.run pins s σ H _ I h) fun u s1 hh => ?_) ht
  obtain ⟨y, H1, I1, rx, a, dx, fs, ex, ea, l, q⟩ := hh
  subst ex
  obtain rfl : u = Value.ref a := rx
  refine getmeth_ok I1 ea c hm l ?_
  have hkw : PK X [⟨some x, e, kpos⟩] (tCons te tNil) := pk_cons he pk_nil
  refine PySem.W.callWith_KW0 (first := [.ref a]) (h₀ := X.base) I.ok.mod.kin hm.kp hall (thn (hkw.run pos pins s1 σ H1 _ I1 q) fun ws s2 hh => ?_) hpl
  obtain ⟨zs, H2, I2, rz, q2⟩ := hh
  refine ⟨I2.kIn, ?_⟩
  rw [hks]
  have hl := F.len _ _ _ _ q2
  cases rz with
  | nil =>
    rw [hps] at hl
    simp at hl
  | @cons v0 u0 vr ur r1 r2 =>
    cases r2 with
    | cons _ _ =>
      rw [hps] at hl
      simp at hl
    | nil =>
      have rv : Vals [V.ref a, v0] [Value.ref a, u0] := .cons rfl (.cons r1 .nil)
      refine wpAny_call (codeAny_mono (F.run X.A X.stack s2 H2 ⟨[Value.ref a], [(x, u0)]⟩ [Value.ref a, u0] [V.ref a, v0] Q (E σ) hr I2.env0 (hb s2 _ u0 I2.kIn) rv q2) fun r s' hq => ?_)
      cases r with
      | error er => exact hx σ pins H2 s2 er s' I2 hq
      | ok fl =>
        cases fl with
        | ret u => exact I2.after hq
        | next => exact False.elim hq
        | brk => exact False.elim hq
        | cont => exact False.elim hq
end
end Wm
/-! methods called by several names; != of two lists that hold the very same objects; what keywords bind -/
namespace Wm
open PySem PySem.Spec PyProof.Rows L2
def tMethK (C : Addr) (m : Str) (n : Nat) (sp : Sp) (gV : List V → List V → List V) (E : L2.St → XK) (ta : TE) (tk : TA) : TE := fun σ H Q => ta σ H fun x H1 => ∃ a dx fs, x = .ref a ∧ H1 a = some (.ins C dx fs) ∧ fs.lookup m = none ∧ tk σ H1 fun zs H2 => zs.length = n ∧ sp (gV [x] zs) H2 Q (E σ)
section
variable {X : Cx} {CX : CXT} {k : Nat} {f C : Addr} {fd : FuncData} {ps ks : List Str} {sp : Sp} {E : L2.St → XK} {m : Str} {pos apos : Pos} {o : Expr} {kws : List Keyword} {ta : TE} {tk : TA} {g : List Value → List Value → List Value} {gV : List V → List V → List V}
/-- o.m(k = v, ..) -/
theorem pe_methKN {pl : Sem Bool} (ho : PE X o ta) (c : Cls X.K C) (hm : Meth X.K C m f) (F : FnOk X.prog X.w X.K X.mg X.base CX k f fd ps sp) (hr : Room k X.A) (hb : KBn X.K fd ps 1 ks g gV) (hx : ∀ σ, PassesAt CX X σ (E σ)) (hkw : PK X kws tk)
    (ht : eval (.Call (.Attribute o m apos) [] kws pos) X.env = (do
      let ov ← eval o X.env
      standAt apos.atName
      let (f, first) ← holding [ov] (getMethod ov m pl)
      callWith pos f first (backTo pos (starEach [] X.env)) (backToKw pos (keywordEach kws X.env))) := by rfl)
    (hall : (backToKw pos (keywordEach kws X.env)).all (·.1.isSome) = true := by rfl) (hks : (backToKw pos (keywordEach kws X.env)).filterMap (·.1) = ks := by rfl) (hpl : ((backTo pos (starEach [] X.env)).any (·.1) || (backToKw pos (keywordEach kws X.env)).any (·.1.isNone)) = false := by rfl) :
    PE X (.Call (.Attribute o m apos) [] kws pos) (tMethK C m ks.length sp gV E ta tk) := by
  refine ⟨fun pins s σ H Q I h => ?_⟩
  refine PySem.W.methodCall_KW (pl := pl) (thn (ho.run pins s σ H _ I h) fun u s1 hh => ?_) ht
  obtain ⟨y, H1, I1, rx, a, dx, fs, ex, ea, l, q⟩ := hh
  subst ex
  obtain rfl : u = Value.ref a := rx
  refine getmeth_ok I1 ea c hm l ?_
  refine PySem.W.callWith_KW0 (first := [.ref a]) (h₀ := X.base) I.ok.mod.kin hm.kp hall (thn (hkw.run pos pins s1 σ H1 _ I1 q) fun ws s2 hh => ?_) hpl
  obtain ⟨zs, H2, I2, rz, l2, q2⟩ := hh
  refine ⟨I2.kIn, ?_⟩
  rw [hks]
  have rv : Vals (gV [V.ref a] zs) (g [Value.ref a] ws) := hb.rel (.cons rfl .nil) rz
  refine wpAny_call (codeAny_mono (F.run X.A X.stack s2 H2 ⟨[Value.ref a], ks.zip ws⟩ (g [Value.ref a] ws) (gV [V.ref a] zs) Q (E σ) hr I2.env0 (hb.to s2 [Value.ref a] ws I2.kIn rfl (rz.length.symm.trans l2)) rv q2) fun r s' hq => ?_)
  cases r with
  | error er => exact hx σ pins H2 s2 er s' I2 hq
  | ok fl =>
    cases fl with
    | ret u => exact I2.after hq
    | next => exact False.elim hq
    | brk => exact False.elim hq
    | cont => exact False.elim hq
end
theorem pass0At {X : Cx} {E : L2.St → XK} : ∀ σ, PassesAt CX0 X σ (E σ) := fun _ _ _ _ _ _ _ h => h.elim
theorem vals_refs : ∀ {as : List Addr} {us : List Value}, Vals (as.map V.ref) us → us = as.map Value.ref
  | [], _, .nil => rfl
  | a :: as, _, .cons h r => by
    have e := vals_refs (as := as) r
    cases h
    rw [e]
    rfl
/-- a != b, two lists that hold the very same objects -/
def rNeS : R2 := fun x y H Q => ∃ (a b : Addr) (as : List Addr), x = .ref a ∧ y = .ref b ∧ H a = some (.lst (as.map V.ref)) ∧ H b = some (.lst (as.map V.ref)) ∧ Q (.bl false) H
theorem op_neS {X : Cx} (hu : X.A.units < cLine) : OpR X (compareOp .NotEq) rNeS := by
  intro pins s σ H x y v u Q I rx ry h
  obtain ⟨a, b, as, rfl, rfl, ha, hb, q⟩ := h
  cases rx
  cases ry
  obtain ⟨z, its, k, r, e⟩ := I.hok a _ ha
  obtain ⟨z2, its2, k2, r2, e2⟩ := I.hok b _ hb
  have h1 := vals_refs r
  have h2 := vals_refs r2
  subst h1
  subst h2
  have hr := SeqAt.RcNeAt.lists (A := X.A) (s := s) (l := a) (b := b) (items := (as.map Value.ref).toArray) (items2 := (as.map Value.ref).toArray) (e := fun _ => true) ⟨_, e, rfl, _, rfl⟩ ⟨_, e2, rfl, _, rfl⟩ rfl hu (fun j h1 h2 => SeqAt.EqAt.same _)
  have e3 : (!(List.range (as.map Value.ref).toArray.size).all fun _ => true) = false := by simp
  rw [e3] at hr
  show wpAny _ _ (richCompare .NotEq (.ref a) (.ref b)) _ _ _
  exact hr X.prog X.w X.xe _ ⟨.bl false, H, I, rfl, q⟩
theorem FunD.kb0 {K : PySem.W.Frag} {x qual : Str} {params : Arguments} {body : List Stmt} {scope : Scope} {f : Addr} {fd : FuncData} {ps : List Str} (F : FunD K x qual params body scope [] [] f fd) (n : Nat) (ks : List Str) (g : {α : Type} → List α → List α → List α)
    (hrel : ∀ {vs zs : List V} {us ws : List Value}, Vals vs us → Vals zs ws → Vals (g vs zs) (g us ws))
    (h : ∀ (kV doc pm : Value) (an : Option Addr) (cdv ct : Value) (us ws : List Value), us.length = n → ws.length = ks.length → bindArgs (PySem.W.fnOf x qual params body scope .none kV doc pm an cdv ct) ⟨us, ks.zip ws⟩ = pure (ps.zip (g us ws))) : KBn K fd ps n ks (fun us ws => g us ws) (fun vs zs => g vs zs) := by
  obtain ⟨oc, od, dV, kV, doc, pm, an, cdv, ct, osl, rfl, lk, hcd, hD, hK⟩ := F.ex
  rcases hD with ⟨_, rfl⟩ | ⟨e, _⟩
  · exact ⟨fun s us ws X l1 l2 => .of_eq (h kV doc pm an cdv ct us ws l1 l2), fun r1 r2 => hrel r1 r2⟩
  · exact absurd rfl e
/-! ### orders of what is handed in by name -/
def g1 {α : Type} : List α → List α → List α
  | [x], [a] => [x, a]
  | _, _ => []
def g2 {α : Type} : List α → List α → List α
  | [x], [a, b] => [x, b, a]
  | _, _ => []
def g3 {α : Type} : List α → List α → List α
  | [x], [c, n, v] => [x, n, v, c]
  | _, _ => []
def g4 {α : Type} : List α → List α → List α
  | [x], [u, d, md, mk] => [x, mk, md, d, u]
  | _, _ => []
def g5 {α : Type} : List α → List α → List α
  | [x], [b, g, c, v, n] => [x, n, v, c, g, b]
  | _, _ => []
def g5s {α : Type} : List α → List α → List α
  | [x], [b, r, w, m, s] => [x, s, w, m, r, b]
  | _, _ => []
def g3s {α : Type} : List α → List α → List α → List α
  | [x], [m0, _, b0], [r, s, w] => [x, s, w, m0, r, b0]
  | _, _, _ => []
theorem g1_rel {vs zs : List V} {us ws : List Value} (h1 : Vals vs us) (h2 : Vals zs ws) : Vals (g1 vs zs) (g1 us ws) := by
  rcases h1 with _ | ⟨a, _ | ⟨_, _⟩⟩
  · exact .nil
  · rcases h2 with _ | ⟨b, _ | ⟨_, _⟩⟩
    · exact .nil
    · exact .cons a (.cons b .nil)
    · exact .nil
  · exact .nil
theorem g2_rel {vs zs : List V} {us ws : List Value} (h1 : Vals vs us) (h2 : Vals zs ws) : Vals (g2 vs zs) (g2 us ws) := by
  rcases h1 with _ | ⟨a, _ | ⟨_, _⟩⟩
  · exact .nil
  · rcases h2 with _ | ⟨b, _ | ⟨c, _ | ⟨_, _⟩⟩⟩
    · exact .nil
    · exact .nil
    · exact .cons a (.cons c (.cons b .nil))
    · exact .nil
  · exact .nil
theorem g3_rel {vs zs : List V} {us ws : List Value} (h1 : Vals vs us) (h2 : Vals zs ws) : Vals (g3 vs zs) (g3 us ws) := by
  rcases h1 with _ | ⟨a, _ | ⟨_, _⟩⟩
  · exact .nil
  · rcases h2 with _ | ⟨b, _ | ⟨c, _ | ⟨d, _ | ⟨_, _⟩⟩⟩⟩
    · exact .nil
    · exact .nil
    · exact .nil
    · exact .cons a (.cons c (.cons d (.cons b .nil)))
    · exact .nil
  · exact .nil
theorem g4_rel {vs zs : List V} {us ws : List Value} (h1 : Vals vs us) (h2 : Vals zs ws) : Vals (g4 vs zs) (g4 us ws) := by
  rcases h1 with _ | ⟨a, _ | ⟨_, _⟩⟩
  · exact .nil
  · rcases h2 with _ | ⟨b, _ | ⟨c, _ | ⟨d, _ | ⟨e, _ | ⟨_, _⟩⟩⟩⟩⟩
    · exact .nil
    · exact .nil
    · exact .nil
    · exact .nil
    · exact .cons a (.cons e (.cons d (.cons c (.cons b .nil))))
    · exact .nil
  · exact .nil
theorem g5_rel {vs zs : List V} {us ws : List Value} (h1 : Vals vs us) (h2 : Vals zs ws) : Vals (g5 vs zs) (g5 us ws) := by
  rcases h1 with _ | ⟨a, _ | ⟨_, _⟩⟩
  · exact .nil
  · rcases h2 with _ | ⟨b, _ | ⟨c, _ | ⟨d, _ | ⟨e, _ | ⟨f, _ | ⟨_, _⟩⟩⟩⟩⟩⟩
    · exact .nil
    · exact .nil
    · exact .nil
    · exact .nil
    · exact .nil
    · exact .cons a (.cons f (.cons e (.cons d (.cons c (.cons b .nil)))))
    · exact .nil
  · exact .nil
theorem g5s_rel {vs zs : List V} {us ws : List Value} (h1 : Vals vs us) (h2 : Vals zs ws) : Vals (g5s vs zs) (g5s us ws) := by
  rcases h1 with _ | ⟨a, _ | ⟨_, _⟩⟩
  · exact .nil
  · rcases h2 with _ | ⟨b, _ | ⟨c, _ | ⟨d, _ | ⟨e, _ | ⟨f, _ | ⟨_, _⟩⟩⟩⟩⟩⟩
    · exact .nil
    · exact .nil
    · exact .nil
    · exact .nil
    · exact .nil
    · exact .cons a (.cons f (.cons d (.cons e (.cons c (.cons b .nil)))))
    · exact .nil
  · exact .nil
theorem g3s_rel {vs ds zs : List V} {us its ws : List Value} (h1 : Vals vs us) (h0 : Vals ds its) (h2 : Vals zs ws) : Vals (g3s vs ds zs) (g3s us its ws) := by
  rcases h1 with _ | ⟨a, _ | ⟨_, _⟩⟩
  · exact .nil
  · rcases h0 with _ | ⟨p, _ | ⟨q, _ | ⟨r, _ | ⟨_, _⟩⟩⟩⟩
    · exact .nil
    · exact .nil
    · exact .nil
    · rcases h2 with _ | ⟨b, _ | ⟨c, _ | ⟨d, _ | ⟨_, _⟩⟩⟩⟩
      · exact .nil
      · exact .nil
      · exact .nil
      · exact .cons a (.cons c (.cons d (.cons p (.cons b (.cons r .nil)))))
      · exact .nil
    · exact .nil
  · exact .nil
end Wm
/-! a list held against the empty list; a list of lists held against another of the same contents -/
namespace Wm
open PySem PySem.Spec PyProof.Rows L2
def rNeE : R2 := fun x y H Q => ∃ (a b : Addr) (xs : List V), x = .ref a ∧ y = .ref b ∧ H a = some (.lst xs) ∧ H b = some (.lst []) ∧ Q (.bl (!xs.isEmpty)) H
def rEqE : R2 := fun x y H Q => ∃ (a b : Addr) (xs : List V), x = .ref a ∧ y = .ref b ∧ H a = some (.lst xs) ∧ H b = some (.lst []) ∧ Q (.bl xs.isEmpty) H
theorem vals_len {xs : List V} {us : List Value} (h : Vals xs us) : us.length = xs.length := h.length.symm
theorem op_neE {X : Cx} (hu1 : X.A.units + 1 < cLine) : OpR X (compareOp .NotEq) rNeE := by
  have hu : X.A.units < cLine := by omega
  intro pins s σ H x y v u Q I rx ry h
  obtain ⟨a, b, xs, rfl, rfl, ha, hb, q⟩ := h
  cases rx
  cases ry
  obtain ⟨z, its, k, r, e⟩ := I.hok a _ ha
  obtain ⟨z2, its2, k2, r2, e2⟩ := I.hok b _ hb
  cases r2
  show wpAny _ _ (richCompare .NotEq (.ref a) (.ref b)) _ _ _
  cases xs with
  | nil =>
    cases r
    have hr := SeqAt.RcNeAt.lists (A := X.A) (s := s) (l := a) (b := b) (items := #[]) (items2 := #[]) (e := fun _ => true) ⟨_, e, rfl, _, rfl⟩ ⟨_, e2, rfl, _, rfl⟩ rfl hu (fun j h1 h2 => absurd h1 (by simp))
    exact hr X.prog X.w X.xe _ ⟨.bl false, H, I, rfl, q⟩
  | cons w ws =>
    have hr := SeqAt.RcNeAt.lists_lengths (A := X.A) (s := s) (l := a) (b := b) (items := its.toArray) (items2 := #[]) ⟨_, e, rfl, _, rfl⟩ ⟨_, e2, rfl, _, rfl⟩ (by
      have l := vals_len r
      simp at l
      simp [l]) hu
    exact hr X.prog X.w X.xe _ ⟨.bl true, H, I, rfl, q⟩
theorem op_eqE {X : Cx} (hu1 : X.A.units + 1 < cLine) : OpR X (compareOp .Eq) rEqE := by
  have hu : X.A.units < cLine := by omega
  intro pins s σ H x y v u Q I rx ry h
  obtain ⟨a, b, xs, rfl, rfl, ha, hb, q⟩ := h
  cases rx
  cases ry
  obtain ⟨z, its, k, r, e⟩ := I.hok a _ ha
  obtain ⟨z2, its2, k2, r2, e2⟩ := I.hok b _ hb
  cases r2
  show wpAny _ _ (richCompare .Eq (.ref a) (.ref b)) _ _ _
  cases xs with
  | nil =>
    cases r
    have hr := SeqAt.RcAt.lists (A := X.A) (s := s) (l := a) (b := b) (items := #[]) (items2 := #[]) (e := fun _ => true) ⟨_, e, rfl, _, rfl⟩ ⟨_, e2, rfl, _, rfl⟩ rfl hu (fun j h1 h2 => absurd h1 (by simp))
    exact hr X.prog X.w X.xe _ ⟨.bl true, H, I, rfl, q⟩
  | cons w ws =>
    have hr := SeqAt.RcAt.lists_lengths (A := X.A) (s := s) (l := a) (b := b) (items := its.toArray) (items2 := #[]) ⟨_, e, rfl, _, rfl⟩ ⟨_, e2, rfl, _, rfl⟩ (by
      have l := vals_len r
      simp at l
      simp [l]) hu
    exact hr X.prog X.w X.xe _ ⟨.bl false, H, I, rfl, q⟩
/-! ### lists of lists -/
def fltV (v : V) : Prop := (∃ z, v = .str z) ∨ ∃ a, v = .ref a
theorem eq_flat {A : Around} {s : Shared} {v : V} {u w : Value} (f : fltV v) (r1 : RelV v u) (r2 : RelV v w) : SeqAt.EqAt A s u w true := by
  rcases f with ⟨z, rfl⟩ | ⟨a, rfl⟩
  · obtain ⟨t, rfl⟩ := r1
    obtain ⟨t', rfl⟩ := r2
    have h := SeqAt.EqAt.str_str (A := A) (s := s) z t z t'
    rw [beq_self_eq_true] at h
    exact h
  · cases r1
    cases r2
    exact SeqAt.EqAt.same _
theorem vals_at : ∀ {xs : List V} {us : List Value}, Vals xs us → ∀ (j : Nat) (h1 : j < xs.length) (h2 : j < us.length), RelV xs[j] us[j]
  | _, _, .nil, j, h1, _ => absurd h1 (by simp)
  | _, _, .cons r t, 0, _, _ => r
  | _, _, .cons r t, j + 1, h1, h2 => vals_at t j (by simpa using h1) (by simpa using h2)
theorem eq_lsts {X : Cx} {pins : List (Addr × Obj)} {σ : L2.St} {H : Hp} {s : Shared} {A : Around} (I : Inv X pins σ H s) (hu : A.units < cLine) {p q : Addr} {xs : List V} (hp : H p = some (.lst xs)) (hq : H q = some (.lst xs)) (fl : ∀ v ∈ xs, fltV v) : SeqAt.EqAt A s (.ref p) (.ref q) true := by
  by_cases ne : p = q
  · rw [ne]
    exact SeqAt.EqAt.same _
  · obtain ⟨z, its, k, r, e⟩ := I.hok p _ hp
    obtain ⟨z2, its2, k2, r2, e2⟩ := I.hok q _ hq
    have l1 := vals_len r
    have l2 := vals_len r2
    have hr := SeqAt.RcAt.lists (A := A) (s := s) (l := p) (b := q) (items := its.toArray) (items2 := its2.toArray) (e := fun _ => true) ⟨_, e, rfl, _, rfl⟩ ⟨_, e2, rfl, _, rfl⟩ (by simp [l1, l2]) hu (fun j h1 h2 => by
      have h1' : j < its.length := by simpa using h1
      have h2' : j < its2.length := by simpa using h2
      have hx : j < xs.length := by omega
      have q := eq_flat (A := A.in1) (s := s) (fl _ (List.getElem_mem hx)) (vals_at r j hx h1') (vals_at r2 j hx h2')
      simpa using q)
    have e3 : ((List.range its.toArray.size).all fun _ => true) = true := by simp
    rw [e3] at hr
    exact SeqAt.EqAt.of_refs ne hr
def rNeLL : R2 := fun x y H Q => ∃ (a b : Addr) (as bs : List Addr), x = .ref a ∧ y = .ref b ∧ H a = some (.lst (as.map V.ref)) ∧ H b = some (.lst (bs.map V.ref)) ∧ as.length = bs.length ∧ (∀ (i : Nat) (p q : Addr), as[i]? = some p → bs[i]? = some q → ∃ xs, H p = some (.lst xs) ∧ H q = some (.lst xs) ∧ ∀ v ∈ xs, fltV v) ∧ Q (.bl false) H
theorem op_neLL {X : Cx} (hu : X.A.units + 1 < cLine) : OpR X (compareOp .NotEq) rNeLL := by
  intro pins s σ H x y v u Q I rx ry h
  obtain ⟨a, b, as, bs, rfl, rfl, ha, hb, hl, hi, q⟩ := h
  cases rx
  cases ry
  obtain ⟨z, its, k, r, e⟩ := I.hok a _ ha
  obtain ⟨z2, its2, k2, r2, e2⟩ := I.hok b _ hb
  have h1 := vals_refs r
  have h2 := vals_refs r2
  subst h1
  subst h2
  have hr := SeqAt.RcNeAt.lists (A := X.A) (s := s) (l := a) (b := b) (items := (as.map Value.ref).toArray) (items2 := (bs.map Value.ref).toArray) (e := fun _ => true) ⟨_, e, rfl, _, rfl⟩ ⟨_, e2, rfl, _, rfl⟩ (by simp [hl]) (by omega) (fun j h1 h2 => by
    have h1' : j < as.length := by simpa using h1
    have h2' : j < bs.length := by simpa using h2
    obtain ⟨xs, hp, hq, fl⟩ := hi j as[j] bs[j] (List.getElem?_eq_getElem h1') (List.getElem?_eq_getElem h2')
    have q := eq_lsts (A := X.A.in1) I (by show X.A.units + 1 < cLine; exact hu) hp hq fl
    simpa using q)
  have e3 : (!(List.range (as.map Value.ref).toArray.size).all fun _ => true) = false := by simp
  rw [e3] at hr
  show wpAny _ _ (richCompare .NotEq (.ref a) (.ref b)) _ _ _
  exact hr X.prog X.w X.xe _ ⟨.bl false, H, I, rfl, q⟩
end Wm
namespace Wm
open PySem L2 StX
abbrev scCm2 : Scope := { kind := .function, names := [(".0", .local), ("_law_k", .local), ("_law_found", .cell)], isGenerator := false, isCoroutine := false }
/-! ### bars as the law draws them -/
def MBarN (K : PySem.W.Frag) (H : Hp) (D a : Addr) (b : PtD) : Prop := ∃ lv lc ps qs, lv ≠ D ∧ lc ≠ D ∧ H a = some (.tup [.str b.nm, .ref lv, .ref lc]) ∧ H lv = some (.lst (ps.map V.ref)) ∧ RowsAt K H ps (b.vars.map varV) ∧ H lc = some (.lst (qs.map V.ref)) ∧ RowsAt K H qs (b.cs.map triV)
def MBar (K : PySem.W.Frag) (H : Hp) (a : Addr) (b : PtD) : Prop := ∃ lv lc ps qs, H a = some (.tup [.str b.nm, .ref lv, .ref lc]) ∧ H lv = some (.lst (ps.map V.ref)) ∧ RowsAt K H ps (b.vars.map varV) ∧ H lc = some (.lst (qs.map V.ref)) ∧ RowsAt K H qs (b.cs.map triV)
theorem MBarN.weak {K : PySem.W.Frag} {H : Hp} {D a : Addr} {b : PtD} (h : MBarN K H D a b) : MBar K H a b := by
  obtain ⟨lv, lc, ps, qs, _, _, h⟩ := h
  exact ⟨lv, lc, ps, qs, h⟩
theorem MBarN.kp {K : PySem.W.Frag} {H H' : Hp} {D a : Addr} {b : PtD} (k : Kp H H') (h : MBarN K H D a b) : MBarN K H' D a b := by
  obtain ⟨lv, lc, ps, qs, n1, n2, h1, h2, h3, h4, h5⟩ := h
  exact ⟨lv, lc, ps, qs, n1, n2, k _ _ ns_tup h1, k _ _ ns_refs h2, k.rows h3, k _ _ ns_refs h4, k.rows h5⟩
theorem MBar.kp {K : PySem.W.Frag} {H H' : Hp} {a : Addr} {b : PtD} (k : Kp H H') (h : MBar K H a b) : MBar K H' a b := by
  obtain ⟨lv, lc, ps, qs, h1, h2, h3, h4, h5⟩ := h
  exact ⟨lv, lc, ps, qs, k _ _ ns_tup h1, k _ _ ns_refs h2, k.rows h3, k _ _ ns_refs h4, k.rows h5⟩
theorem MBarN.put {K : PySem.W.Frag} {H : Hp} {D a : Addr} {b : PtD} {xs : List V} {o : HO} (hD : H D = some (.lst xs)) (h : MBarN K H D a b) : MBarN K (upd H D o) D a b := by
  obtain ⟨lv, lc, ps, qs, n1, n2, h1, h2, h3, h4, h5⟩ := h
  exact ⟨lv, lc, ps, qs, n1, n2, (upd_ne (ne_of h1 hD (by intro z; cases z))).trans h1, (upd_ne n1).trans h2, rows_put hD h3, (upd_ne n2).trans h4, rows_put hD h5⟩
structure BarOk (ss ws : List Str) (b : PtD) : Prop where
  pt : PatOk b.vars b.cs [] []
  vn : ∀ v ∈ b.vars, isNm v.1 = true ∧ v.1.length ≤ 12 ∧ okS v.1
  vs : ∀ v ∈ b.vars, ∀ z, v.2 = some z → z ∈ ss
  cw : ∀ t ∈ b.cs, t.2.1 ∈ ws
  nm : NmP b.nm ∧ b.nm.length ≤ 6
theorem PatOk.less {vars : List Var} {cs : List Tri} {g : Tri} {h : Str} (k : PatOk vars cs [g] [h]) : PatOk vars cs [] [] :=
  ⟨k.v1, k.v4, k.c1, k.c3, by show 0 ≤ 1; decide, by show 0 ≤ 1; decide, k.tw, fun z hz => k.en z (by
    rw [List.append_nil, List.append_nil] at hz
    rw [endsL_app]
    exact List.mem_append_left _ (List.mem_append_left _ hz)), k.lo, k.ap⟩
theorem RuleOk.bar {ss ws : List Str} {r : RlD} (h : RuleOk ss ws r) {z : Str} (hz : NmP z ∧ z.length ≤ 6) : BarOk ss ws ⟨z, r.p.vars, r.p.cs⟩ := ⟨h.pt.less, h.vn, h.vs, h.cw, hz⟩
theorem not_all53 {a b c d e : V} : ¬ (HT.sIx [a, b, c, d, e].length 0 none = 0 ∧ HT.sIx [a, b, c, d, e].length [a, b, c, d, e].length (some 3) = [a, b, c, d, e].length) := fun h => absurd (show HT.sIx 5 5 (some 3) = 5 from h.2) (by decide)
theorem not_all31 {a b c : V} : ¬ (HT.sIx [a, b, c].length 0 (some 1) = 0 ∧ HT.sIx [a, b, c].length [a, b, c].length none = [a, b, c].length) := fun h => absurd (show HT.sIx 3 0 (some 1) = 0 from h.1) (by decide)
structure BarsOk (ss ws : List Str) (bs : List PtD) : Prop where
  ok : ∀ b ∈ bs, BarOk ss ws b
  nd : (bs.map (·.nm)).Nodup
  ln : bs.length ≤ 3
def spBrs (K : PySem.W.Frag) : Sp := fun vs H Q _ => ∃ (p m : Addr) (ss ws : List Str) (ms : List MkD) (rs : List RlD), vs = [.ref p, .ref m] ∧ StOk H p ∧ MdAt K H m ss ws ms rs ∧ MdlOk ss ws ms rs ∧
  ∀ l H' as bs, H l = none → But p H H' → StOk H' p → H' l = some (.lst (as.map V.ref)) → AllAt (MBar K H') as bs → BarsOk ss ws bs → Q (.ref l) H'
section
variable {P : Program} {w : World} {K : PySem.W.Frag} {mg : Str → Option Value} {base : Heap}
theorem scBrs : FnScope ["_law_s", "_law_m", "_law_found", "_law_name_here", "_law_rule_here", "_law_k", "_law_one"] ["_law_s", "_law_m"] (defScope sBrs) := ⟨rfl, rfl, rfl, by decide +kernel, rfl, by decide +kernel, by decide +kernel⟩
theorem ok_brs {f fG fN fR : Addr} {fd dG dN dR : FuncData} (F : Fun K "_law_bars" "_law_bars" sBrs f fd) (T : TxB mg) (DG : Dn K mg "_law_digit" sDigit ["_law_state_here", "_law_base"] fG dG) (DN : Dn K mg "_law_names" sNms ["_law_s", "_law_many"] fN dN) (GN : FnOk P w K mg base CX0 3 fN dN ["_law_s", "_law_many"] spNms)
    (DR : Dn K mg "_law_rule" sRle ["_law_s", "_law_m", "_law_name_here"] fR dR) (GR : FnOk P w K mg base CX0 2 fR dR ["_law_s", "_law_m", "_law_name_here"] (spRle K)) :
    FnOk P w K mg base CX0 4 f fd ["_law_s", "_law_m"] (spBrs K) := by
  have GG : FnOk P w K mg base CX0 1 fG dG _ spDigit := ok_digit DG.F
  refine F.ok scBrs (fun vs H Q E h => ?_) (fun cdv A outer s H vs Q E hr h => ?_)
  · obtain ⟨p, m, ss, ws, ms, rs, rfl, _⟩ := h
    rfl
  · obtain ⟨p, m, ss, ws, ms, rs, rfl, hS, hm, ok, k⟩ := h
    have hr1 : Room 1 _ := hr.mono (by decide)
    have hr2 : Room 2 _ := hr.mono (by decide)
    have hr3 : Room 3 _ := hr
    have hu := hu_of hr
    refine ⟨_, (pss_cons (ps_set (i := 2) scBrs.nd rfl (Or.inr rfl) (pe_lst pa_nil))
      (pss_cons (ps_for PassesOwn.never rfl (pi_list (pe_call GN hr3 rfl DN.g DN.F.kp DN.b .nil pass0 (pa_cons (pv 0) (pa_cons (pe_call GG hr1 rfl DG.g DG.F.kp DG.b .nil pass0 (pa_cons (pv 0) (pa_cons pe_int pa_nil))) pa_nil)))) (pg_name (i := 3) scBrs.nd rfl (Or.inl rfl)) (pss_cons (ps_set (i := 4) scBrs.nd rfl (Or.inl rfl) (pe_call GR hr2 rfl DR.g DR.F.kp DR.b .nil pass0 (pa_cons (pv 0) (pa_cons (pv 1) (pa_cons (pv 3) pa_nil)))))
      (pss_one (ps_expr (pe_bm PySem.F.plainAttrs_list PySem.F.slot_list_append PySem.F.type_list_append mt_append (pv 2) (pa_cons (pe_slice sl_tupA (pv 4) po_none (po_some pe_int)) pa_nil))))))
      (pss_cons (ps_if (PW.pt (pw_and (pt_cmpR (op_neE hu) (pv 2) (pe_lst pa_nil) (nomark _)) (pw_and1 (pt_cmpR op_eq (pe_call GG hr1 rfl DG.g DG.F.kp DG.b .nil pass0 (pa_cons (pv 0) (pa_cons pe_int pa_nil))) pe_int (nomark _))))) (pss_one (ps_asg (pe_op op_catA (pe_tup (pa_cons (pe_ix ix_tup (pe_ix ix_list (pe_dget hu (pv 1) pe_str (fun _ _ => rfl)) pe_int (fun _ _ => rfl)) pe_int (fun _ _ => rfl)) pa_nil)) (pe_slice sl_tupA (pe_ix ix_list (pv 2) pe_int (fun _ _ => rfl)) (po_some pe_int) po_none)) (pg_sub (pv 2) pe_int set_list))) pss_nil)
      (pss_one (ps_ret (pe_lc (own := [("_law_k", 5)]) (g := gName 5) (tt := tTest (tOp (rIn K true) (tOp (rIxT K) (tOp (rIxL K) (tVar 2) (tVar 5)) (tC (.int 0))) (tLc (iList K (tSl (rSlL K) (tVar 2) tNoPart (tPart (tVar 5)))) (gName 6) tYes (tOp (rIxT K) (tVar 6) (tC (.int 0))) [6]))) (te := tOp (rIxL K) (tVar 2) (tVar 5)) rfl scBrs.nd (pi_range1 rfl T.range (pa_cons (pe_callB call_len_seq (by rfl) T.len (by decide +kernel) (pa_cons (pv 2) pa_nil)) pa_nil)) (blkOk_by (N := ["_law_s", "_law_m", "_law_found", "_law_name_here", "_law_rule_here", "_law_k", "_law_one"]) (sc := defScope sBrs) (by decide +kernel)) (fun _ _ _ _ _ => (pg_name (i := 5) scBrs.nd rfl (Or.inl rfl))) (fun _ _ _ _ _ => (pts_one (pt_cmpR op_notIn_seq (pe_ix ix_tup (pe_ix ix_list (pv 2) (pv 5) (fun _ _ => rfl)) pe_int (fun _ _ => rfl)) (pe_lc (own := [("_law_one", 6)]) (g := gName 6) (wi := iList K (tSl (rSlL K) (tVar 2) tNoPart (tPart (tVar 5)))) (tt := tYes) (te := tOp (rIxT K) (tVar 6) (tC (.int 0))) rfl scBrs.nd (pi_list (pe_slice sl_list (pv 2) po_none (po_some (pv 5)))) (blkOk_by (N := ["_law_s", "_law_m", "_law_found", "_law_name_here", "_law_rule_here", "_law_k", "_law_one"]) (sc := scCm2) (by decide +kernel)) (fun _ _ _ _ _ => (pg_name (i := 6) scBrs.nd rfl (Or.inl rfl))) (fun _ _ _ _ _ => pts_nil) (fun _ _ _ _ _ => (pe_ix ix_tup (pv 6) pe_int (fun _ _ => rfl)))) (by rfl)))) (fun _ _ _ _ _ => (pe_ix ix_list (pv 2) (pv 5) (fun _ _ => rfl))))))))), ?_⟩
    have hmd := hm
    obtain ⟨l1, l2, l3, l4, as0, bs0, h0, h1, h2, h3, h4, h5, h6⟩ := hm
    refine ⟨Nat.zero_le _, fun D hD => ?_⟩
    dsimp only [gName, List.set_cons_succ, List.set_cons_zero]
    have nDp : D ≠ p := st_free hS hD
    have B0 : But p H (upd H D (.lst [])) := but_new (But.refl p H) nDp hD
    have S0 : StOk (upd H D (.lst [])) p := hS.upd nDp
    have e0 : (upd H D (.lst [])) D = some (.lst []) := upd_same
    generalize upd H D (.lst []) = H0 at B0 S0 e0
    refine ⟨_, rfl, _, rfl, p, 4, rfl, S0, by decide, by decide, fun d1 H1 a1 b1 B1 S1 => ⟨p, d1, rfl, S1, by omega, by omega, fun zs lr H2 n1 n1p B2 S2 h12 zl znd znm => ?_⟩⟩
    have B02 := (B0.trans B1).trans B2
    have k02 := (B1.kp S0).trans (B2.kp S1)
    have e2 : H2 D = some (.lst []) := B2 _ _ nDp (B1 _ _ nDp e0)
    have nlrD : lr ≠ D := fun z => by rw [z, B1 _ _ nDp e0] at n1; cases n1
    have zl3 : zs.length ≤ 3 := by omega
    refine ⟨lr, rfl, ⟨_, SqL.of h12⟩, ?_⟩
    refine for_list (K := K) (a := lr) (xs := zs.map V.str) (fun i σ H' => ∃ (u3 u4 : Option V) (as : List Addr) (bs : List PtD), σ = [some (.ref p), some (.ref m), some (.ref D), u3, u4, none, none] ∧ But p H H' ∧ StOk H' p ∧ H' lr = some (.lst (zs.map V.str)) ∧ H' D = some (.lst (as.map V.ref)) ∧ AllAt (MBarN K H' D) as bs ∧ bs.map (·.nm) = zs.take i ∧ ∀ b ∈ bs, BarOk ss ws b) ⟨_, _, [], [], rfl, B02, S2, h12, e2, True.intro, rfl, fun _ h => (List.not_mem_nil h).elim⟩ (fun i σ H' _ ⟨_, _, _, _, _, _, _, h, _⟩ => SqL.of h) ?_ ?_
    · rintro i x σ H3 hx ⟨u3, u4, as, bs, rfl, B3, S3, hr3', hD3, ab, en, bok⟩
      obtain ⟨z, hz, rfl⟩ := map_str_get hx
      have hi : i < zs.length := (List.getElem?_eq_some_iff.mp hz).1
      dsimp only [gName, List.set_cons_succ, List.set_cons_zero]
      have nmp : m ≠ p := But.ne hS h0 ns_dK
      have nwp : l2 ≠ p := But.ne hS h2 ns_strs
      have nsp : l1 ≠ p := But.ne hS h1 ns_strs
      refine ⟨_, rfl, _, rfl, _, rfl, p, m, z, md4 l1 l2 l3 l4, l2, l1, ws, ss, rfl, S3, B3 _ _ nmp h0, md4_w l1 l2 l3 l4, B3 _ _ nwp h2, md4_s l1 l2 l3 l4, B3 _ _ nsp h1, ok.w1, Nat.le_trans ok.w3 (by decide), ok.s1, Nat.le_trans ok.s4 (by decide), fun t r H4 er rok t0 B4 S4 hrl => ?_⟩
      dsimp only [gName, List.set_cons_succ, List.set_cons_zero]
      have k4 := B4.kp S3
      have hD4 := k4 _ _ ns_refs hD3
      obtain ⟨lv, lc, g, ps, qs, m1, m2, q1, q2, q3, q4, q5, q6⟩ := hrl D _ hD3
      refine ⟨_, rfl, .inl ⟨rfl, _, SqL.of hD4⟩, _, rfl, _, rfl, t, _, rfl, SqT.of q1, fun w => absurd w not_all53, fun _ t3 ht3 => ?_⟩
      rw [show cutV [V.str r.p.nm, .ref lv, .ref lc, .ref g, .str r.bh] none (some 3) = [.str r.p.nm, .ref lv, .ref lc] from rfl]
      have T4 : Same H4 (upd H4 t3 (.tup [.str r.p.nm, .ref lv, .ref lc])) := Same.upd ht3
      have e4 : (upd H4 t3 (.tup [.str r.p.nm, .ref lv, .ref lc])) t3 = some (.tup [.str r.p.nm, .ref lv, .ref lc]) := upd_same
      generalize upd H4 t3 (.tup [.str r.p.nm, .ref lv, .ref lc]) = H5 at T4 e4
      have hD5 := T4 _ _ hD4
      have k5 := k4.trans (Same.kp T4)
      have B5 : But p H H5 := fun q o n e => T4 _ _ ((B3.trans B4) q o n e)
      have bl : bs.length = i := by
        have q := congrArg List.length en
        rw [List.length_map, List.length_take] at q
        omega
      have nr : MBarN K H5 D t3 ⟨z, r.p.vars, r.p.cs⟩ := ⟨lv, lc, ps, qs, m1, m2, by rw [e4, er], T4 _ _ q2, q3.same T4, T4 _ _ q4, q5.same T4⟩
      refine ⟨D, _, _, rfl, rfl, hD5, ?_, ?_⟩
      · rw [List.length_map, ab.len]
        exact Nat.lt_of_le_of_lt (show _ ≤ 1000 by omega) (by decide)
      · refine ⟨_, _, as ++ [t3], bs ++ [⟨z, r.p.vars, r.p.cs⟩], rfl, but_new B5 nDp hD, (S4.same T4).upd nDp, (upd_ne nlrD).trans (k5 _ _ ns_strs hr3'), ?_, ?_, ?_, ?_⟩
        · rw [upd_same, List.map_append]
          rfl
        · exact AllAt.append (ab.imp fun _ _ q => (q.kp k5).put hD5) ⟨nr.put hD5, True.intro⟩
        · rw [List.map_append, en, List.take_add_one, hz]
          rfl
        · intro b hb
          rcases List.mem_append.mp hb with q | q
          · exact bok b q
          · rw [List.mem_singleton.mp q]
            exact rok.bar (znm z (List.mem_of_getElem? hz))
    rintro σ H3 ⟨u3, u4, as, bs, rfl, B3, S3, hr3', hD3, ab, en, bok⟩
    have bl : bs.length ≤ 3 := by
      have q := congrArg List.length en
      rw [List.length_map, List.length_take] at q
      omega
    clear hr3' en
    dsimp only
    refine cut1 (fun σ' H' => ∃ (as : List Addr) (bs : List PtD), σ' = [some (.ref p), some (.ref m), some (.ref D), u3, u4, none, none] ∧ But p H H' ∧ StOk H' p ∧ H' D = some (.lst (as.map V.ref)) ∧ AllAt (MBarN K H' D) as bs ∧ bs.length ≤ 3 ∧ ∀ b ∈ bs, BarOk ss ws b) ?_ (fun R' fin => ?_)
    · rintro σ H4 ⟨as, bs, rfl, B4, S4, hD4, ab, bl, bok⟩
      have al := ab.len
      refine ⟨_, rfl, D, _, rfl, .inl (SqL.of hD4), _, rfl, by omega, by rw [List.length_map]; omega, fun L hL => ?_⟩
      have nLp : L ≠ p := st_free S4 hL
      have nDL : D ≠ L := ne_of_none hD4 hL
      refine lc_range (lo := 0) (n := (((as.map V.ref).length : Nat) : Int).toNat) (fun i H' => Same H4 H' ∧ ∃ (ks : List Addr) (cs : List PtD), H' L = some (.lst (ks.map V.ref)) ∧ AllAt (MBar K H4) ks cs ∧ cs.length ≤ i ∧ (cs.map (·.nm)).Nodup ∧ (∀ b ∈ cs, BarOk ss ws b) ∧ ∀ z ∈ cs.map (·.nm), z ∈ (bs.take i).map (·.nm)) ⟨Same.upd hL, [], [], upd_same, True.intro, Nat.le_refl _, List.nodup_nil, fun _ h => (List.not_mem_nil h).elim, fun _ h => (List.not_mem_nil h).elim⟩ ?_ ?_
      · rintro i H5 hi ⟨S5, ks, cs, hL5, ac, cl, cnd, cok, csub⟩
        rw [List.length_map, Int.toNat_natCast] at hi
        have hD5 := S5 _ _ hD4
        have hk' : (as.map V.ref)[i]? = some (.ref as[i]) := by
          rw [List.getElem?_map, List.getElem?_eq_getElem hi]
          rfl
        obtain ⟨a, b, ea, hb, hat⟩ := ab.get hk'
        have ea : as[i] = a := V.ref.inj ea
        rw [ea] at hk'
        have hat' := hat
        obtain ⟨lv, lc, ps, qs, m1, m2, q1, q2, q3, q4, q5⟩ := hat'
        have q15 := S5 _ _ q1
        have ei : (0 + (i : Int)) = ((i : Nat) : Int) := by omega
        refine ⟨rfl, _, rfl, _, rfl, rdList hD5 (j := i) ei hk' ⟨a, _, 0, _, rfl, rfl, SqT.of q15, atI_nat (j := 0) rfl, _, rfl, _, rfl, _, rfl, D, _, rfl, SqL.of hD5, fun l hl => ?_⟩⟩
        rw [ei, cut_take _ i, ← List.map_take]
        have T5 : Same H5 (upd H5 l (.lst ((as.take i).map V.ref))) := Same.upd hl
        have e5 : (upd H5 l (.lst ((as.take i).map V.ref))) l = some (.lst ((as.take i).map V.ref)) := upd_same
        generalize upd H5 l (.lst ((as.take i).map V.ref)) = H6 at T5 e5
        refine ⟨l, rfl, ⟨_, SqL.of e5⟩, fun M hM => ?_⟩
        refine lc_list (K := K) (a := l) (xs := (as.take i).map V.ref) (fun j H' => Same H6 H' ∧ H' M = some (.lst (((bs.take j).map (·.nm)).map V.str))) ⟨Same.upd hM, upd_same⟩ (fun j H' _ p => SqL.of (p.1 _ _ e5)) ?_ ?_
        · rintro j x H7 hx ⟨S7, hM7⟩
          have hji : j < i := by
            have q := (List.getElem?_eq_some_iff.mp hx).1
            rw [List.length_map, List.length_take] at q
            omega
          have hx' : (as.map V.ref)[j]? = some x := by
            rw [List.map_take, List.getElem?_take_of_lt hji] at hx
            exact hx
          obtain ⟨a', b', rfl, hb', lv', lc', ps', qs', _, _, r1, _⟩ := ab.get hx'
          have r17 := S7 _ _ (T5 _ _ (S5 _ _ r1))
          refine ⟨rfl, _, rfl, a', _, 0, _, rfl, rfl, SqT.of r17, atI_nat (j := 0) rfl, _, hM7, ?_, fun c o e => ?_, ?_⟩
          · rw [List.length_map, List.length_map, List.length_take]
            exact Nat.lt_of_le_of_lt (show _ ≤ 1000 by omega) (by decide)
          · rw [upd_ne (ne_of_none e hM)]
            exact S7 _ _ e
          · rw [upd_same, List.take_add_one, hb', List.map_append, List.map_append]
            rfl
        rintro H7 ⟨S7, hM7⟩
        rw [List.length_map, List.length_take, Nat.min_eq_left (by omega)] at hM7
        refine ⟨M, _, rfl, .inl (SqL.of hM7), rfl, flats _, _, rfl, ?_⟩
        rw [if_pos rfl, inV_strs]
        have S57 := T5.trans S7
        have hL7 := S57 _ _ hL5
        by_cases hin : b.nm ∈ (bs.take i).map (·.nm)
        · rw [decide_eq_true hin]
          refine iteF ⟨S5.trans S57, ks, cs, hL7, ac, by omega, cnd, cok, fun z hz => ?_⟩
          have q := csub z hz
          rw [List.take_add_one, List.map_append]
          exact List.mem_append_left _ q
        · rw [decide_eq_false hin]
          refine iteT ⟨_, rfl, _, rfl, rdList (S57 _ _ hD5) (j := i) rfl hk' ⟨_, hL7, ?_, fun c o e => ?_, ks ++ [a], cs ++ [b], ?_, ?_, ?_, ?_, ?_, ?_⟩⟩
          · rw [List.length_map, ac.len]
            exact Nat.lt_of_le_of_lt (show _ ≤ 1000 by omega) (by decide)
          · rw [upd_ne (ne_of_none e hL)]
            exact S57 _ _ (S5 _ _ e)
          · rw [upd_same, List.map_append]
            rfl
          · exact AllAt.append ac ⟨hat.weak, True.intro⟩
          · rw [List.length_append]
            show _ + 1 ≤ _
            omega
          · rw [List.map_append, List.nodup_append]
            refine ⟨cnd, by simp, fun x hx y hy e => ?_⟩
            have ey : y = b.nm := by simpa using hy
            rw [e, ey] at hx
            exact hin (csub _ hx)
          · intro u hu
            rcases List.mem_append.mp hu with q | q
            · exact cok u q
            · rw [List.mem_singleton.mp q]
              exact bok b (List.mem_of_getElem? hb)
          · intro z hz
            rw [List.take_add_one, List.map_append, hb]
            rw [List.map_append] at hz
            rcases List.mem_append.mp hz with q | q
            · exact List.mem_append_left _ (csub z q)
            · exact List.mem_append_right _ q
      · rintro H5 ⟨S5, ks, cs, hL5, ac, cl, cnd, cok, csub⟩
        rw [List.length_map, Int.toNat_natCast] at cl
        refine k L H5 ks cs (B4.free nLp hL) (fun q o n e => S5 _ _ (B4 q o n e)) (S4.same S5) hL5 (ac.imp fun _ _ q => q.kp (Same.kp S5)) ⟨cok, cnd, by omega⟩
    · refine ⟨_, rfl, Nat.zero_le _, fun e he => ?_⟩
      have T3 : Same H3 (upd H3 e (.lst [])) := Same.upd he
      have e3 : (upd H3 e (.lst [])) e = some (.lst []) := upd_same
      have nep : e ≠ p := st_free S3 he
      have S3' : StOk (upd H3 e (.lst [])) p := S3.upd nep
      generalize upd H3 e (.lst []) = H4 at T3 e3 S3'
      have B4 : But p H H4 := fun q o n e => T3 _ _ (B3 q o n e)
      have hD4 := T3 _ _ hD3
      have ab4 := ab.imp fun _ _ q => q.kp (Same.kp T3)
      refine ⟨D, e, _, rfl, rfl, hD4, e3, _, rfl, ?_⟩
      cases as with
      | nil => exact iteF (iteF (fin _ _ ⟨[], bs, rfl, B4, S3', hD4, ab4, bl, bok⟩))
      | cons a as =>
        refine iteT ⟨_, rfl, p, 3, rfl, S3', by decide, by decide, fun d3 H5 a5 b5 B5 S5 => ⟨rfl, _, rfl, ?_⟩⟩
        have k5 := B5.kp S3'
        have hD5 := k5 _ _ ns_refs hD4
        have ab5 := ab4.imp fun _ _ q => q.kp k5
        have B5' := B4.trans B5
        refine ite2 (fun _ => ?_) (fun _ => fin _ _ ⟨a :: as, bs, rfl, B5', S5, hD5, ab5, bl, bok⟩)
        cases bs with
        | nil => exact absurd ab5 (by intro z; exact z)
        | cons b bs =>
        obtain ⟨hat, ab5'⟩ := ab5
        obtain ⟨lv, lc, ps, qs, m1, m2, q1, q2, q3, q4, q5⟩ := hat
        have nmp : m ≠ p := But.ne hS h0 ns_dK
        have nrp : l4 ≠ p := But.ne hS h5 ns_refs
        have h05 := B5' _ _ nmp h0
        have h55 := B5' _ _ nrp h5
        have dgR : DGet H5 m (.str "rules") (some (.ref l4)) := md4_r l1 l2 l3 l4 ▸ DGet.k (k := kR) h05
        obtain ⟨r0, hr0⟩ : ∃ r0, rs[0]? = some r0 := ⟨_, List.getElem?_eq_getElem (Nat.lt_of_lt_of_le Nat.zero_lt_one ok.r1)⟩
        have hb0 : 0 < bs0.length := by
          rw [h6.len]
          exact Nat.lt_of_lt_of_le Nat.zero_lt_one ok.r1
        have hx0 : (bs0.map V.ref)[0]? = some (.ref bs0[0]) := by
          rw [List.getElem?_map, List.getElem?_eq_getElem hb0]
          rfl
        obtain ⟨a0, r0', ea0, hr0', lv0, lc0, g0, ps0, qs0, t0, _⟩ := h6.get hx0
        have ea0 : bs0[0] = a0 := V.ref.inj ea0
        rw [ea0] at hx0
        have t05 : H5 a0 = _ := B5' _ _ (But.ne hS t0 ns_tup) t0
        refine ⟨_, rfl, m, _, rfl, dgR, l4, _, 0, _, rfl, rfl, SqL.of h55, atI_nat (j := 0) hx0, a0, _, 0, _, rfl, rfl, SqT.of t05, atI_nat (j := 0) rfl, by show 1 ≤ sizeLine; decide, fun t1 ht1 => ?_⟩
        have T5 : Same H5 (upd H5 t1 (.tup [.str r0'.p.nm])) := Same.upd ht1
        have e5 : (upd H5 t1 (.tup [.str r0'.p.nm])) t1 = some (.tup [.str r0'.p.nm]) := upd_same
        have np1 : t1 ≠ p := st_free S5 ht1
        generalize upd H5 t1 (.tup [.str r0'.p.nm]) = H6 at T5 e5
        have hD6 := T5 _ _ hD5
        refine ⟨_, rfl, D, _, 0, _, rfl, rfl, SqL.of hD6, atI_nat (j := 0) rfl, _, rfl, a, _, rfl, SqT.of (T5 _ _ q1), fun w => absurd w not_all31, fun _ t2 ht2 => ?_⟩
        rw [show cutV [V.str b.nm, .ref lv, .ref lc] (some 1) none = [.ref lv, .ref lc] from rfl]
        have T6 : Same H6 (upd H6 t2 (.tup [.ref lv, .ref lc])) := Same.upd ht2
        have e6 : (upd H6 t2 (.tup [.ref lv, .ref lc])) t2 = some (.tup [.ref lv, .ref lc]) := upd_same
        generalize upd H6 t2 (.tup [.ref lv, .ref lc]) = H7 at T6 e6
        refine ⟨t1, t2, _, _, rfl, rfl, SqT.of (T6 _ _ e5), SqT.of e6, by show 3 ≤ sizeLine; decide, fun z => absurd z (by simp), fun _ z => absurd z (by simp), fun _ _ t4 ht4 => ?_⟩
        have T7 : Same H7 (upd H7 t4 (.tup ([.str r0'.p.nm] ++ [.ref lv, .ref lc]))) := Same.upd ht4
        have e7 : (upd H7 t4 (.tup ([.str r0'.p.nm] ++ [.ref lv, .ref lc]))) t4 = some (.tup [.str r0'.p.nm, .ref lv, .ref lc]) := upd_same
        generalize upd H7 t4 (.tup ([.str r0'.p.nm] ++ [.ref lv, .ref lc])) = H8 at T7 e7
        have T58 := (T5.trans T6).trans T7
        have hD8 := T58 _ _ hD5
        have B8 : But p H H8 := fun q o n e => T58 _ _ (B5' q o n e)
        refine ⟨_, rfl, D, _, 0, 0, rfl, rfl, hD8, by simp [ixN], ?_⟩
        have nb : MBarN K H8 D t4 ⟨r0'.p.nm, b.vars, b.cs⟩ := ⟨lv, lc, ps, qs, m1, m2, e7, T58 _ _ q2, q3.same T58, T58 _ _ q4, q5.same T58⟩
        refine fin _ _ ⟨t4 :: as, ⟨r0'.p.nm, b.vars, b.cs⟩ :: bs, rfl, but_new B8 nDp hD, (S5.same T58).upd nDp, upd_same, ⟨nb.put hD8, ab5'.imp fun _ _ q => (q.kp (Same.kp T58)).put hD8⟩, bl, fun u hu => ?_⟩
        rcases List.mem_cons.mp hu with rfl | hu
        · have q := bok b (List.mem_cons_self ..)
          exact ⟨q.pt, q.vn, q.vs, q.cw, ok.rd.nm _ (List.mem_map_of_mem (List.mem_of_getElem? hr0'))⟩
        · exact bok u (List.mem_cons_of_mem _ hu)
end
end Wm
namespace Wm
open PySem L2 StX
def rIsG (K : PySem.W.Frag) (cls : Value) (d : Option Addr) (a : Addr) : List V → Hp → VK → Prop := fun xs H Q => ∃ (D dd : Addr), cls = .ref D ∧ d = some dd ∧ ExcC K D ∧ rIsX K D a dd xs H Q
theorem call_isG {X : Cx} {a : Addr} {cls : Value} {d : Option Addr} {oe : Obj} {pn : List (Addr × Obj)} (hz : Zc cls d oe) (hf : ∃ vs, oe.data = .fields vs) : CallR (X.suite a ((a, oe) :: pn)) (.builtin "isinstance") (rIsG X.K cls d a) := by
  intro pins s σ H xs us Q I r h
  obtain ⟨D, dd, rfl, rfl, C, h⟩ := h
  exact call_isX C hz hf pins s σ H xs us Q I r h
def tSui (K : PySem.W.Frag) (C W O : Addr) (kd : Str) (i : Nat) : Addr → Value → Option Addr → TS := fun a cls d => tAsg (tTup (tCons (tC (.str kd)) (tCons (tXf a cls d C "name" (tVar 13)) (tCons (tCB (rIsG K cls d a) (tCons (tVar 13) (tCons (tC (.ref W)) tNil)))
  (tCons (tCB (rIsG K cls d a) (tCons (tVar 13) (tCons (tC (.ref O)) tNil))) tNil))))) (gName i)
def tTry (K : PySem.W.Frag) (S : Addr) (m : Str) (sp : Sp) (i : Nat) (W : WX) : TS := tAsg (tFld K (tMethZ S m sp (WE W) (tVar 0) (tCons (tVar 10) tNil)) "name") (gName i)
structure TxE (K : PySem.W.Frag) (mg : Str → Option Value) (x : Str) (C W O : Addr) (o : Str) : Prop where
  gC : mg x = some (.ref C)
  gW : mg "WhoError" = some (.ref W)
  gO : mg o = some (.ref O)
  te : PySem.W.exmOne K (.ref C) (.ref C) = some true
  xf : XfC K C
  nf : PySem.W.findIn K (.ref C) "name" = some none
  xc : ExcC K C
  k1 : PySem.W.kitOne K (.ref C) (.ref W) = some true
  k2 : PySem.W.kitOne K (.ref C) (.ref O) = some false
/-! ### shapes -/
theorem eqv_self {d : PyData} (h : SeqAt.shaped d = true) : PyData.eqv d d = true := SeqAt.eqv_refl d (SeqAt.canLay_of_shaped h)
def VarOk (v : Var) : Prop := okS v.1 ∧ ∀ z, v.2 = some z → okS z
def TriOk (t : Tri) : Prop := okS t.1 ∧ okS t.2.1 ∧ okS t.2.2
theorem tups_sh : ∀ {rs : List (List PyData)}, (∀ r ∈ rs, PyData.canLayAll0 r = true ∧ PyData.depthAll r ≤ 1) → PyData.canLayAll0 (rs.map PyData.tuple) = true ∧ PyData.depthAll (rs.map PyData.tuple) ≤ 2
  | [], _ => by simp [PyData.canLayAll0, PyData.depthAll]
  | r :: rs, h => by
    obtain ⟨a, b⟩ := h r List.mem_cons_self
    obtain ⟨h2, h3⟩ := tups_sh (rs := rs) fun y hy => h y (List.mem_cons_of_mem _ hy)
    have e : (PyData.tuple r).canLay0 = true := by simp [PyData.canLay0, a]
    have d : (PyData.tuple r).depth ≤ 2 := by
      simp [PyData.depth]
      omega
    refine ⟨by simp only [List.map_cons, PyData.canLayAll0, e, h2, Bool.and_self], ?_⟩
    simp only [List.map_cons, PyData.depthAll]
    omega
theorem rows_sh {rs : List (List PyData)} (h : ∀ r ∈ rs, PyData.canLayAll0 r = true ∧ PyData.depthAll r ≤ 1) : SeqAt.shaped (rowsD rs) = true := by
  obtain ⟨a, b⟩ := tups_sh h
  unfold rowsD
  generalize rs.map PyData.tuple = X at a b
  simp [SeqAt.shaped, PyData.canLay0, PyData.depth, a]
  omega
theorem var_sh {v : Var} (h : VarOk v) : PyData.canLayAll0 (varD v) = true ∧ PyData.depthAll (varD v) ≤ 1 := by
  obtain ⟨n, s⟩ := v
  have a := strOk_of h.1
  cases s with
  | none => simp [varD, sortD, PyData.canLay0, PyData.canLayAll0, PyData.depth, PyData.depthAll, a]
  | some s =>
    have b := strOk_of (h.2 s rfl)
    simp [varD, sortD, PyData.canLay0, PyData.canLayAll0, PyData.depth, PyData.depthAll, a, b]
theorem tri_sh {t : Tri} (h : TriOk t) : PyData.canLayAll0 (triD t) = true ∧ PyData.depthAll (triD t) ≤ 1 := by
  have a := strOk_of h.1
  have b := strOk_of h.2.1
  have c := strOk_of h.2.2
  simp [triD, PyData.canLay0, PyData.canLayAll0, PyData.depth, PyData.depthAll, a, b, c]
theorem vars_sh {vs : List Var} (h : ∀ v ∈ vs, VarOk v) : SeqAt.shaped (rowsD (vs.map varD)) = true := rows_sh fun r hr => by
  obtain ⟨v, hv, rfl⟩ := List.mem_map.mp hr
  exact var_sh (h v hv)
theorem tris_sh {vs : List Tri} (h : ∀ v ∈ vs, TriOk v) : SeqAt.shaped (rowsD (vs.map triD)) = true := rows_sh fun r hr => by
  obtain ⟨v, hv, rfl⟩ := List.mem_map.mp hr
  exact tri_sh (h v hv)
theorem tri1_sh {t : Tri} (h : TriOk t) : SeqAt.shaped (.tuple (triD t)) = true := by
  obtain ⟨a, b⟩ := tri_sh h
  generalize triD t = X at a b
  simp [SeqAt.shaped, PyData.canLay0, PyData.depth, a]
  omega
theorem sameR_self {nm b : Str} {vars : List Var} {cs : List Tri} {g : Tri} (h1 : SeqAt.shaped (rowsD (vars.map varD)) = true) (h2 : SeqAt.shaped (rowsD (cs.map triD)) = true) (h3 : SeqAt.shaped (.tuple (triD g)) = true) : sameR nm vars cs g b nm vars cs g b = true := by
  unfold sameR
  rw [eqv_self h1, eqv_self h2, eqv_self h3]
  simp
theorem sameB_self {nm : Str} {vars : List Var} {cs : List Tri} (h1 : SeqAt.shaped (rowsD (vars.map varD)) = true) (h2 : SeqAt.shaped (rowsD (cs.map triD)) = true) : sameB nm vars cs nm vars cs = true := by
  unfold sameB
  rw [eqv_self h1, eqv_self h2]
  simp
structure PtS (b : PtD) : Prop where
  vo : ∀ v ∈ b.vars, VarOk v
  co : ∀ t ∈ b.cs, TriOk t
/-! ### what is found, and what is due -/
def IsDu (K : PySem.W.Frag) (H : Hp) (v : V) (kd z : Str) (b : Bool) : Prop := (b = true ∧ v = .str z) ∨ (b = false ∧ ∃ t, v = .ref t ∧ H t = some (.tup [.str kd, .str z, .bl true, .bl false]))
theorem IsDu.same {K : PySem.W.Frag} {H H' : Hp} {v : V} {kd z : Str} {b : Bool} (s : Same H H') (h : IsDu K H v kd z b) : IsDu K H' v kd z b := by
  rcases h with h | ⟨h, t, e, q⟩
  · exact .inl h
  · exact .inr ⟨h, t, e, s _ _ q⟩
def duD (kd z : Str) : Bool → PyData
  | true => .str z
  | false => .tuple [.str kd, .str z, .bool true, .bool false]
theorem IsDu.dp {K : PySem.W.Frag} {H : Hp} {v : V} {kd z : Str} {b : Bool} (h : IsDu K H v kd z b) : Dp K H v (duD kd z b) := by
  rcases h with ⟨rfl, rfl⟩ | ⟨rfl, t, rfl, q⟩
  · exact .str z
  · exact .tup (SqT.of q) (.cons (.str _) (.cons (.str _) (.cons (.bl _) (.cons (.bl _) .nil))))
theorem du_sh {k1 k2 z : Str} (h1 : okS k1) (h2 : okS k2) (hz : okS z) (b1 b2 : Bool) : SeqAt.shaped (.list [duD k1 z b1, duD k2 z b2]) = true := by
  have a := strOk_of h1
  have b := strOk_of h2
  have c := strOk_of hz
  cases b1 <;> cases b2 <;> simp [duD, SeqAt.shaped, PyData.canLay0, PyData.canLayAll0, PyData.depth, PyData.depthAll, a, b, c]
theorem fndR_mem {rs : List RlD} {z : Str} : (fndR rs z).isSome = decide (z ∈ rs.map (·.p.nm)) := by
  rw [Bool.eq_iff_iff, decide_eq_true_eq, List.mem_map]
  unfold fndR
  rw [List.find?_isSome]
  exact ⟨fun ⟨r, hr, q⟩ => ⟨r, hr, of_decide_eq_true q⟩, fun ⟨r, hr, q⟩ => ⟨r, hr, decide_eq_true q⟩⟩
theorem fndB_mem {rs : List PtD} {z : Str} : (fndB rs z).isSome = decide (z ∈ rs.map (·.nm)) := by
  rw [Bool.eq_iff_iff, decide_eq_true_eq, List.mem_map]
  unfold fndB
  rw [List.find?_isSome]
  exact ⟨fun ⟨r, hr, q⟩ => ⟨r, hr, of_decide_eq_true q⟩, fun ⟨r, hr, q⟩ => ⟨r, hr, decide_eq_true q⟩⟩
theorem fnd_nd {α : Type} {f : α → Str} : ∀ {rs : List α} {i : Nat} {r : α}, (rs.map f).Nodup → rs[i]? = some r → rs.find? (fun y => decide (f y = f r)) = some r
  | [], i, r, _, h => by simp at h
  | y :: rs, 0, r, nd, h => by
    have e : y = r := by simpa using h
    rw [e, List.find?_cons, decide_eq_true rfl]
  | y :: rs, i + 1, r, nd, h => by
    have h : rs[i]? = some r := by simpa using h
    rw [List.map_cons, List.nodup_cons] at nd
    have ne : ¬ f y = f r := fun e => nd.1 (by rw [e]; exact List.mem_map_of_mem (List.mem_of_getElem? h))
    rw [List.find?_cons, decide_eq_false ne]
    exact fnd_nd nd.2 h
structure AskOk (ss ws : List Str) (ms : List MkD) (rs : List RlD) (ps : List PtD) (os : List Str) : Prop where
  rn : (rs.map (·.p.nm)).Nodup
  bn : (ps.map (·.nm)).Nodup
  ro : ∀ r ∈ rs, PtS r.p ∧ TriOk r.g
  bo : ∀ b ∈ ps, PtS b
  oo : ∀ z ∈ os, okS z
  l1 : ss.length ≤ 900
  l2 : ws.length ≤ 900
  l3 : ms.length ≤ 900
  l4 : rs.length ≤ 900
  l5 : ps.length ≤ 900
def spAsk (K : PySem.W.Frag) (S MB RB BB : Addr) : Sp := fun vs H Q _ => ∃ (x ll lo a1 a2 a3 a4 a5 : Addr) (ss ws os : List Str) (as bs cs : List Addr) (ms : List MkD) (rs : List RlD) (ps : List PtD), vs = [.ref x, .ref ll, .ref lo] ∧ SchG S H x ss ws as bs cs ∧ Parts K MB RB BB H as bs cs ms rs ps ∧
  H ll = some (.lst ([a1, a2, a3, a4, a5].map V.ref)) ∧ H a1 = some (.lst (ss.map V.str)) ∧ H a2 = some (.lst (ws.map V.str)) ∧ H a3 = some (.lst (as.map V.ref)) ∧ H a4 = some (.lst (bs.map V.ref)) ∧ H a5 = some (.lst (cs.map V.ref)) ∧ H lo = some (.lst (os.map V.str)) ∧ AskOk ss ws ms rs ps os ∧ ∀ H', Same H H' → Q (.bl true) H'
theorem flt_strs (zs : List Str) : ∀ v ∈ zs.map V.str, fltV v := fun v hv => by
  obtain ⟨z, _, rfl⟩ := List.mem_map.mp hv
  exact .inl ⟨z, rfl⟩
theorem flt_refs (zs : List Addr) : ∀ v ∈ zs.map V.ref, fltV v := fun v hv => by
  obtain ⟨z, _, rfl⟩ := List.mem_map.mp hv
  exact .inr ⟨z, rfl⟩
theorem okS_nr : okS ("norule" : Str) := by
  unfold okS
  decide +kernel
theorem okS_nb : okS ("nobar" : Str) := by
  unfold okS
  decide +kernel
theorem seq_c {v : V} {i : Nat} {R : TS} {D : Ends} {σ : L2.St} {H : Hp} (h : R D (σ.set i (some v)) H) : tSeq (tAsg (tC v) (gName i)) R D σ H := h
theorem rul_nm {K : PySem.W.Frag} {B : Addr} {H : Hp} {a : Addr} {r : RlD} (h : RlAt K B H a r) : ∃ d fs, H a = some (.ins B d fs) ∧ fs.lookup ("name" : Str) = some (.str r.p.nm) := by
  obtain ⟨d, t1, t2, t3, ps, qs, h0, _⟩ := h
  exact ⟨d, _, h0, rulF_name _ _ _ _ _⟩
theorem bar_nm {K : PySem.W.Frag} {B : Addr} {H : Hp} {a : Addr} {r : PtD} (h : BrAt K B H a r) : ∃ d fs, H a = some (.ins B d fs) ∧ fs.lookup ("name" : Str) = some (.str r.nm) := by
  obtain ⟨d, t1, t2, ps, qs, h0, _⟩ := h
  exact ⟨d, _, h0, barF_name _ _ _⟩
section
variable {P : Program} {w : World} {K : PySem.W.Frag} {mg : Str → Option Value} {base : Heap}
theorem scAsk : FnScope ["_law_scheme", "_law_lists", "_law_others", "_law_sorts", "_law_words", "_law_makings", "_law_rules", "_law_bars_here", "_law_told", "_law_one", "_law_name_here", "_law_rule_here", "_law_bar", "e", "_law_due"] ["_law_scheme", "_law_lists", "_law_others"] (defScope sAsk) := ⟨rfl, rfl, rfl, by decide +kernel, rfl, by decide +kernel, by decide +kernel⟩
structure Mts (P : Program) (w : World) (K : PySem.W.Frag) (mg : Str → Option Value) (base : Heap) (S MB RB BB CR CB fSo fWo fMk fRu fBa fR1 fB1 fRE fBE : Addr) (dSo dWo dMk dRu dBa dR1 dB1 dRE dBE : FuncData) : Prop where
  mSo : Meth K S "sorts" fSo
  bSo : Binds K dSo ["self"] []
  GSo : FnOk P w K mg base CX0 1 fSo dSo ["self"] (spSor S)
  mWo : Meth K S "words" fWo
  bWo : Binds K dWo ["self"] []
  GWo : FnOk P w K mg base CX0 1 fWo dWo ["self"] (spWor S)
  mMk : Meth K S "makings" fMk
  bMk : Binds K dMk ["self"] []
  GMk : FnOk P w K mg base CX0 1 fMk dMk ["self"] (spSMk S)
  mRu : Meth K S "rules" fRu
  bRu : Binds K dRu ["self"] []
  GRu : FnOk P w K mg base CX0 1 fRu dRu ["self"] (spSRu S)
  mBa : Meth K S "bars" fBa
  bBa : Binds K dBa ["self"] []
  GBa : FnOk P w K mg base CX0 1 fBa dBa ["self"] (spSBa S)
  mR1 : Meth K S "rule" fR1
  bR1 : Binds K dR1 ["self", "name"] []
  GR1 : FnOk P w K mg base (L2.CX P w) 4 fR1 dR1 ["self", "name"] (spSR1 K S RB CR)
  mB1 : Meth K S "bar" fB1
  bB1 : Binds K dB1 ["self", "name"] []
  GB1 : FnOk P w K mg base (L2.CX P w) 4 fB1 dB1 ["self", "name"] (spSB1 K S BB CB)
  tyR : ∀ {H : Hp} {a d : Addr} {fs : List (Str × V)}, H a = some (.ins RB d fs) → TyX K H (.ref a) (.ref RB)
  tyB : ∀ {H : Hp} {a d : Addr} {fs : List (Str × V)}, H a = some (.ins BB d fs) → TyX K H (.ref a) (.ref BB)
  eR : EqNe K RB fRE
  eB : EqNe K BB fBE
  GRE : FnOk P w K mg base CX0 1 fRE dRE ["self", "other"] (spRE K RB)
  GBE : FnOk P w K mg base CX0 1 fBE dBE ["self", "other"] (spBE K BB)
  bRE : Binds K dRE ["self", "other"] []
  bBE : Binds K dBE ["self", "other"] []
theorem ok_ask {f S fS MB RB fR BB fB CR CB W fSo fWo fMk fRu fBa fR1 fB1 fRE fBE : Addr} {fd dSo dWo dMk dRu dBa dR1 dB1 dRE dBE : FuncData} (F : Fun K "_law_asked" "_law_asked" sAsk f fd) (T : TxB mg) (tl : mg "list" = none) (TC : TxSch K mg S fS) (TR : TxRul K mg RB fR) (TB : TxBar K mg BB fB)
    (TER : TxE K mg "NoRule" CR W CB "NoBar") (TEB : TxE K mg "NoBar" CB W CR "NoRule") (M : Mts P w K mg base S MB RB BB CR CB fSo fWo fMk fRu fBa fR1 fB1 fRE fBE dSo dWo dMk dRu dBa dR1 dB1 dRE dBE) :
    FnOk P w K mg base CX0 5 f fd ["_law_scheme", "_law_lists", "_law_others"] (spAsk K S MB RB BB) := by
  obtain ⟨mSo, bSo, GSo, mWo, bWo, GWo, mMk, bMk, GMk, mRu, bRu, GRu, mBa, bBa, GBa, mR1, bR1, GR1, mB1, bB1, GB1, tyR, tyB, eR, eB, GRE, GBE, bRE, bBE⟩ := M
  refine F.ok scAsk (fun vs H Q E h => ?_) (fun cdv A outer s H vs Q E hr h => ?_)
  · obtain ⟨x, ll, lo, a1, a2, a3, a4, a5, ss, ws, os, as, bs, cs, ms, rs, ps, rfl, _⟩ := h
    rfl
  · obtain ⟨x, ll, lo, a1, a2, a3, a4, a5, ss, ws, os, as, bs, cs, ms, rs, ps, rfl, hsc, hpt, hll, h1, h2, h3, h4, h5, hlo, ok, k⟩ := h
    have hr1 : Room 1 _ := hr.mono (by decide)
    have hr2 : Room 2 _ := hr.mono (by decide)
    have hr4 : Room 4 _ := hr
    have hu := hu_of hr
    refine ⟨_, (pss_cons (ps_asg (pv 1) (pg_lst rfl (pgs_cons (pg_name (i := 3) scAsk.nd rfl (Or.inl rfl)) (pgs_cons (pg_name (i := 4) scAsk.nd rfl (Or.inl rfl)) (pgs_cons (pg_name (i := 5) scAsk.nd rfl (Or.inl rfl)) (pgs_cons (pg_name (i := 6) scAsk.nd rfl (Or.inl rfl)) (pgs_cons (pg_name (i := 7) scAsk.nd rfl (Or.inl rfl)) pgs_nil)))))))
      (pss_cons (ps_set (i := 8) scAsk.nd rfl (Or.inl rfl) (pe_lst (pa_cons (pe_meth0 (pv 0) TC.cl mSo GSo hr1 bSo .nil pass0) (pa_cons (pe_meth0 (pv 0) TC.cl mWo GWo hr1 bWo .nil pass0) (pa_cons (pe_meth0 (pv 0) TC.cl mMk GMk hr1 bMk .nil pass0) (pa_cons (pe_meth0 (pv 0) TC.cl mRu GRu hr1 bRu .nil pass0) (pa_cons (pe_meth0 (pv 0) TC.cl mBa GBa hr1 bBa .nil pass0) pa_nil)))))))
      (pss_cons (ps_if (PW.pt (pw_or (pt_cmpR (op_neLL hu) (pv 8) (pv 1) (nomark _)) (pw_or1 (pt_not (pt_val (pe_callB (cr_all rfl) (by rfl) T.all (by decide +kernel) (pa_cons (pe_lc (own := [("_law_one", 9)]) (g := gName 9) (tt := tYes) (te := tCB (rIsi K) (tCons (tVar 9) (tCons (tC (.ty "list")) tNil))) rfl scAsk.nd (pi_list (pv 8)) (blkOk_by (N := ["_law_scheme", "_law_lists", "_law_others", "_law_sorts", "_law_words", "_law_makings", "_law_rules", "_law_bars_here", "_law_told", "_law_one", "_law_name_here", "_law_rule_here", "_law_bar", "e", "_law_due"]) (sc := defScope sAsk) (by decide +kernel)) (fun _ _ _ _ _ => (pg_name (i := 9) scAsk.nd rfl (Or.inl rfl))) (fun _ _ _ _ _ => pts_nil) (fun _ _ _ _ _ => (pe_callB call_isi (by rfl) T.isinstance (by decide +kernel) (pa_cons (pv 9) (pa_cons (pe_bltn (v := .ty "list") (by rfl) tl (by decide +kernel) rfl) pa_nil))))) pa_nil))))))) (pss_one (ps_ret pe_bl)) pss_nil)
      (pss_cons (ps_for PassesOwn.never rfl (pi_list (pv 6)) (pg_name (i := 9) scAsk.nd rfl (Or.inl rfl)) (pss_one (ps_if (pt_cmpR (op_neO eR GRE hr2 bRE) (pe_meth (pv 0) TC.cl mR1 GR1 hr4 bR1 .nil passL (pa_cons (pe_fld (pv 9) rfl) pa_nil)) (pv 9) (nomark _)) (pss_one (ps_ret pe_bl)) pss_nil)))
      (pss_cons (ps_for PassesOwn.never rfl (pi_list (pv 7)) (pg_name (i := 9) scAsk.nd rfl (Or.inl rfl)) (pss_one (ps_if (pt_cmpR (op_neO eB GBE hr2 bBE) (pe_meth (pv 0) TC.cl mB1 GB1 hr4 bB1 .nil passL (pa_cons (pe_fld (pv 9) rfl) pa_nil)) (pv 9) (nomark _)) (pss_one (ps_ret pe_bl)) pss_nil)))
      (pss_cons (ps_for PassesOwn.never rfl (pi_list (pv 2)) (pg_name (i := 10) scAsk.nd rfl (Or.inl rfl)) (pss_cons (ps_set (i := 11) scAsk.nd rfl (Or.inl rfl) pe_non)
      (pss_cons (ps_set (i := 12) scAsk.nd rfl (Or.inl rfl) pe_non)
      (pss_cons (ps_try_as (i := 13) (tb := tTry K S "rule" (spSR1 K S RB CR) 11) (ts := tSui K CR W CB "norule" 11) (Wout := fun _ _ _ _ => False) rfl rfl scAsk.nd rfl rfl ⟨rfl, by decide, Or.inl TER.gC⟩ takes0 (fun W_ pn xe tk _ => (pss_one (ps_set (i := 11) scAsk.nd rfl (Or.inl rfl) (pe_fld (pe_methZ (pv 0) TC.cl mR1 GR1 hr4 bR1 (fun σ => passAt tk σ) (pa_cons (pv 10) pa_nil)) rfl)))) (fun a oe cls d pn hz hf => (pss_one (ps_set (i := 11) scAsk.nd rfl (Or.inl rfl) (by exact (pe_tup (pa_cons pe_str (pa_cons (pe_xf TER.xf TER.nf hz hf (pv 13)) (pa_cons (pe_callB (call_isG hz hf) (by rfl) T.isinstance (by decide +kernel) (pa_cons (pv 13) (pa_cons (pe_glob (v := .ref W) (by rfl) TER.gW rfl) pa_nil))) (pa_cons (pe_callB (call_isG hz hf) (by rfl) T.isinstance (by decide +kernel) (pa_cons (pv 13) (pa_cons (pe_glob (v := .ref CB) (by rfl) TER.gO rfl) pa_nil))) pa_nil))))))))))
      (pss_cons (ps_try_as (i := 13) (tb := tTry K S "bar" (spSB1 K S BB CB) 12) (ts := tSui K CB W CR "nobar" 12) (Wout := fun _ _ _ _ => False) rfl rfl scAsk.nd rfl rfl ⟨rfl, by decide, Or.inl TEB.gC⟩ takes0 (fun W_ pn xe tk _ => (pss_one (ps_set (i := 12) scAsk.nd rfl (Or.inl rfl) (pe_fld (pe_methZ (pv 0) TC.cl mB1 GB1 hr4 bB1 (fun σ => passAt tk σ) (pa_cons (pv 10) pa_nil)) rfl)))) (fun a oe cls d pn hz hf => (pss_one (ps_set (i := 12) scAsk.nd rfl (Or.inl rfl) (by exact (pe_tup (pa_cons pe_str (pa_cons (pe_xf TEB.xf TEB.nf hz hf (pv 13)) (pa_cons (pe_callB (call_isG hz hf) (by rfl) T.isinstance (by decide +kernel) (pa_cons (pv 13) (pa_cons (pe_glob (v := .ref W) (by rfl) TEB.gW rfl) pa_nil))) (pa_cons (pe_callB (call_isG hz hf) (by rfl) T.isinstance (by decide +kernel) (pa_cons (pv 13) (pa_cons (pe_glob (v := .ref CR) (by rfl) TEB.gO rfl) pa_nil))) pa_nil))))))))))
      (pss_cons (ps_set (i := 14) scAsk.nd rfl (Or.inl rfl) (pe_lst (pa_cons (pv 10) (pa_cons (pv 10) pa_nil))))
      (pss_cons (ps_if (pt_cmpR op_notIn_seq (pv 10) (pe_lc (own := [("_law_one", 9)]) (g := gName 9) (tt := tYes) (te := tFld K (tVar 9) "name") rfl scAsk.nd (pi_list (pv 6)) (blkOk_by (N := ["_law_scheme", "_law_lists", "_law_others", "_law_sorts", "_law_words", "_law_makings", "_law_rules", "_law_bars_here", "_law_told", "_law_one", "_law_name_here", "_law_rule_here", "_law_bar", "e", "_law_due"]) (sc := defScope sAsk) (by decide +kernel)) (fun _ _ _ _ _ => (pg_name (i := 9) scAsk.nd rfl (Or.inl rfl))) (fun _ _ _ _ _ => pts_nil) (fun _ _ _ _ _ => (pe_fld (pv 9) rfl))) (by rfl)) (pss_one (ps_asg (pe_tup (pa_cons pe_str (pa_cons (pv 10) (pa_cons pe_bl (pa_cons pe_bl pa_nil))))) (pg_sub (pv 14) pe_int set_list))) pss_nil)
      (pss_cons (ps_if (pt_cmpR op_notIn_seq (pv 10) (pe_lc (own := [("_law_one", 9)]) (g := gName 9) (tt := tYes) (te := tFld K (tVar 9) "name") rfl scAsk.nd (pi_list (pv 7)) (blkOk_by (N := ["_law_scheme", "_law_lists", "_law_others", "_law_sorts", "_law_words", "_law_makings", "_law_rules", "_law_bars_here", "_law_told", "_law_one", "_law_name_here", "_law_rule_here", "_law_bar", "e", "_law_due"]) (sc := defScope sAsk) (by decide +kernel)) (fun _ _ _ _ _ => (pg_name (i := 9) scAsk.nd rfl (Or.inl rfl))) (fun _ _ _ _ _ => pts_nil) (fun _ _ _ _ _ => (pe_fld (pv 9) rfl))) (by rfl)) (pss_one (ps_asg (pe_tup (pa_cons pe_str (pa_cons (pv 10) (pa_cons pe_bl (pa_cons pe_bl pa_nil))))) (pg_sub (pv 14) pe_int set_list))) pss_nil)
      (pss_one (ps_if (pt_cmpR (op_neD hr.units) (pe_lst (pa_cons (pv 11) (pa_cons (pv 12) pa_nil))) (pv 14) (nomark _)) (pss_one (ps_ret pe_bl)) pss_nil))))))))))
      (pss_cons (ps_for PassesOwn.never rfl (pi_list (pv 8)) (pg_name (i := 9) scAsk.nd rfl (Or.inl rfl)) (pss_cons (ps_expr (pe_bm PySem.F.plainAttrs_list PySem.F.slot_list_append PySem.F.type_list_append mt_append (pv 9) (pa_cons pe_str pa_nil)))
      (pss_one (ps_expr (pe_bm0 PySem.F.plainAttrs_list PySem.F.slot_list_reverse PySem.F.type_list_reverse mt_reverse (pv 9))))))
      (pss_one (ps_ret pe_bl))))))))), ?_⟩
    have hsc' := hsc
    obtain ⟨dx, q1, q2, q3, q4, q5, h0, _⟩ := hsc'
    have S0 : Same H H := Same.refl H
    refine ⟨_, rfl, ll, _, rfl, SqL.of hll, rfl, _, _, rfl, _, _, rfl, _, _, rfl, _, _, rfl, _, _, rfl, rfl, ?_⟩
    dsimp only [gName, List.set_cons_succ, List.set_cons_zero]
    refine ⟨_, rfl, x, dx, _, rfl, S0 _ _ h0, schF_no (by decide +kernel) (by decide +kernel) (by decide +kernel) (by decide +kernel) (by decide +kernel) _ _ _ _ _, x, ss, ws, as, bs, cs, rfl, hsc.same S0, fun t1 ht1 => ?_⟩
    have T1 : Same H (upd H t1 (.lst (ss.map V.str))) := Same.upd ht1
    have e1 : (upd H t1 (.lst (ss.map V.str))) t1 = some (.lst (ss.map V.str)) := upd_same
    have f1 : H t1 = none := S0.free ht1
    generalize upd H t1 (.lst (ss.map V.str)) = H1 at T1 e1
    have S1 := S0.trans T1
    refine ⟨_, rfl, x, dx, _, rfl, S1 _ _ h0, schF_no (by decide +kernel) (by decide +kernel) (by decide +kernel) (by decide +kernel) (by decide +kernel) _ _ _ _ _, x, ss, ws, as, bs, cs, rfl, hsc.same S1, fun t2 ht2 => ?_⟩
    have T2 : Same H1 (upd H1 t2 (.lst (ws.map V.str))) := Same.upd ht2
    have e2 : (upd H1 t2 (.lst (ws.map V.str))) t2 = some (.lst (ws.map V.str)) := upd_same
    have f2 : H t2 = none := S1.free ht2
    generalize upd H1 t2 (.lst (ws.map V.str)) = H2 at T2 e2
    have S2 := S1.trans T2
    have e1 := T2 _ _ e1
    refine ⟨_, rfl, x, dx, _, rfl, S2 _ _ h0, schF_no (by decide +kernel) (by decide +kernel) (by decide +kernel) (by decide +kernel) (by decide +kernel) _ _ _ _ _, x, ss, ws, as, bs, cs, rfl, hsc.same S2, fun t3 ht3 => ?_⟩
    have T3 : Same H2 (upd H2 t3 (.lst (as.map V.ref))) := Same.upd ht3
    have e3 : (upd H2 t3 (.lst (as.map V.ref))) t3 = some (.lst (as.map V.ref)) := upd_same
    have f3 : H t3 = none := S2.free ht3
    generalize upd H2 t3 (.lst (as.map V.ref)) = H3 at T3 e3
    have S3 := S2.trans T3
    have e1 := T3 _ _ e1
    have e2 := T3 _ _ e2
    refine ⟨_, rfl, x, dx, _, rfl, S3 _ _ h0, schF_no (by decide +kernel) (by decide +kernel) (by decide +kernel) (by decide +kernel) (by decide +kernel) _ _ _ _ _, x, ss, ws, as, bs, cs, rfl, hsc.same S3, fun t4 ht4 => ?_⟩
    have T4 : Same H3 (upd H3 t4 (.lst (bs.map V.ref))) := Same.upd ht4
    have e4 : (upd H3 t4 (.lst (bs.map V.ref))) t4 = some (.lst (bs.map V.ref)) := upd_same
    have f4 : H t4 = none := S3.free ht4
    generalize upd H3 t4 (.lst (bs.map V.ref)) = H4 at T4 e4
    have S4 := S3.trans T4
    have e1 := T4 _ _ e1
    have e2 := T4 _ _ e2
    have e3 := T4 _ _ e3
    refine ⟨_, rfl, x, dx, _, rfl, S4 _ _ h0, schF_no (by decide +kernel) (by decide +kernel) (by decide +kernel) (by decide +kernel) (by decide +kernel) _ _ _ _ _, x, ss, ws, as, bs, cs, rfl, hsc.same S4, fun t5 ht5 => ?_⟩
    have T5 : Same H4 (upd H4 t5 (.lst (cs.map V.ref))) := Same.upd ht5
    have e5 : (upd H4 t5 (.lst (cs.map V.ref))) t5 = some (.lst (cs.map V.ref)) := upd_same
    have f5 : H t5 = none := S4.free ht5
    generalize upd H4 t5 (.lst (cs.map V.ref)) = H5 at T5 e5
    have S5 := S4.trans T5
    have e1 := T5 _ _ e1
    have e2 := T5 _ _ e2
    have e3 := T5 _ _ e3
    have e4 := T5 _ _ e4
    refine ⟨by show 5 ≤ sizeLine; decide, fun tt htt => ?_⟩
    dsimp only [gName, List.set_cons_succ, List.set_cons_zero]
    have T6 : Same H5 (upd H5 tt (.lst [.ref t1, .ref t2, .ref t3, .ref t4, .ref t5])) := Same.upd htt
    have e6 : (upd H5 tt (.lst [.ref t1, .ref t2, .ref t3, .ref t4, .ref t5])) tt = some (.lst ([t1, t2, t3, t4, t5].map V.ref)) := upd_same
    have f6 : H tt = none := S5.free htt
    have n6 : ∀ l ∈ [t1, t2, t3, t4, t5], l ≠ tt ∧ H l = none := fun l hl => by
      rcases List.mem_cons.mp hl with rfl | hl
      · exact ⟨ne_of_none e1 htt, f1⟩
      rcases List.mem_cons.mp hl with rfl | hl
      · exact ⟨ne_of_none e2 htt, f2⟩
      rcases List.mem_cons.mp hl with rfl | hl
      · exact ⟨ne_of_none e3 htt, f3⟩
      rcases List.mem_cons.mp hl with rfl | hl
      · exact ⟨ne_of_none e4 htt, f4⟩
      rcases List.mem_cons.mp hl with rfl | hl
      · exact ⟨ne_of_none e5 htt, f5⟩
      exact (List.not_mem_nil hl).elim
    generalize upd H5 tt (.lst [.ref t1, .ref t2, .ref t3, .ref t4, .ref t5]) = H6 at T6 e6
    have S6 := S5.trans T6
    have e1 := T6 _ _ e1
    have e2 := T6 _ _ e2
    have e3 := T6 _ _ e3
    have e4 := T6 _ _ e4
    have e5 := T6 _ _ e5
    refine ⟨_, rfl, _, rfl, tt, ll, [t1, t2, t3, t4, t5], [a1, a2, a3, a4, a5], rfl, rfl, e6, S6 _ _ hll, rfl, fun i p q hp hq => ?_, _, rfl, ?_⟩
    · match i, hp, hq with
      | 0, hp, hq =>
        cases hp
        cases hq
        exact ⟨_, e1, S6 _ _ h1, flt_strs _⟩
      | 1, hp, hq =>
        cases hp
        cases hq
        exact ⟨_, e2, S6 _ _ h2, flt_strs _⟩
      | 2, hp, hq =>
        cases hp
        cases hq
        exact ⟨_, e3, S6 _ _ h3, flt_refs _⟩
      | 3, hp, hq =>
        cases hp
        cases hq
        exact ⟨_, e4, S6 _ _ h4, flt_refs _⟩
      | 4, hp, hq =>
        cases hp
        cases hq
        exact ⟨_, e5, S6 _ _ h5, flt_refs _⟩
      | n + 5, hp, hq => simp at hp
    refine iteF ?_
    -- lists, all of them
    refine ⟨_, rfl, tt, rfl, ⟨_, SqL.of e6⟩, fun D hD => ?_⟩
    refine lc_list (K := K) (a := tt) (xs := [t1, t2, t3, t4, t5].map V.ref) (fun i H' => Same H6 H' ∧ H' D = some (.lst ((List.replicate i true).map V.bl))) ⟨Same.upd hD, upd_same⟩ (fun i H' _ h => SqL.of (h.1 _ _ e6)) ?_ ?_
    · rintro i v H7 hv ⟨S7, hD7⟩
      have i5 : i < 5 := (List.getElem?_eq_some_iff.mp hv).1
      have isl : ∃ t xs, v = .ref t ∧ H7 t = some (.lst xs) := by
        match i, hv with
        | 0, hv => cases hv; exact ⟨_, _, rfl, S7 _ _ e1⟩
        | 1, hv => cases hv; exact ⟨_, _, rfl, S7 _ _ e2⟩
        | 2, hv => cases hv; exact ⟨_, _, rfl, S7 _ _ e3⟩
        | 3, hv => cases hv; exact ⟨_, _, rfl, S7 _ _ e4⟩
        | 4, hv => cases hv; exact ⟨_, _, rfl, S7 _ _ e5⟩
        | n + 5, hv => simp at hv
      obtain ⟨t, xs, rfl, ht⟩ := isl
      refine ⟨rfl, _, rfl, _, _, _, _, true, rfl, .ty "list", .base (.lst ht), kit_ty (by decide +kernel), _, hD7, ?_, fun b o e => ?_, ?_⟩
      · rw [List.length_map, List.length_replicate]
        exact Nat.lt_of_le_of_lt (show _ ≤ 1000 by omega) (by decide)
      · rw [upd_ne (ne_of_none e hD)]
        exact S7 _ _ e
      · rw [upd_same, List.replicate_succ', List.map_append]
        rfl
    rintro H7 ⟨S7, hD7⟩
    refine ⟨D, _, rfl, SqL.of hD7, ?_⟩
    refine ⟨_, rfl, ?_⟩
    rw [show ((List.replicate ([t1, t2, t3, t4, t5].map V.ref).length true).all id) = true from rfl]
    refine iteF ?_
    have S07 := S6.trans S7
    have e6 := S7 _ _ e6
    have e1 := S7 _ _ e1
    have e2 := S7 _ _ e2
    have e3 := S7 _ _ e3
    have e4 := S7 _ _ e4
    have e5 := S7 _ _ e5
    have hsc7 := hsc.same S07
    have hpt7 := hpt.same S07
    have h07 := S07 _ _ h0
    have h47 := S07 _ _ h4
    have h57 := S07 _ _ h5
    have hlo7 := S07 _ _ hlo
    have noS : ∀ {g : Str}, ¬ g = "own_bars" → ¬ g = "own_rules" → ¬ g = "own_makings" → ¬ g = "own_words" → ¬ g = "own_sorts" → (schF q1 q2 q3 q4 q5).lookup g = none := fun a b c d e => schF_no a b c d e _ _ _ _ _
    clear T1 T2 T3 T4 T5 T6 S1 S2 S3 S4 S5 ht1 ht2 ht3 ht4 ht5 htt S6 S7 hD7
    -- each rule by its name
    refine ⟨_, rfl, a4, rfl, ⟨_, SqL.of h47⟩, for_list (K := K) (a := a4) (xs := bs.map V.ref) (fun i σ H' => H' = H7 ∧ ∃ u9, σ = [some (.ref x), some (.ref ll), some (.ref lo), some (.ref a1), some (.ref a2), some (.ref a3), some (.ref a4), some (.ref a5), some (.ref tt), u9, none, none, none, none, none]) ⟨rfl, _, rfl⟩ (fun i σ H' _ h => by rw [h.1]; exact SqL.of h47) ?_ ?_⟩
    · rintro i v σ H8 hv ⟨rfl, u9, rfl⟩
      obtain ⟨a, r, rfl, hri, hat⟩ := hpt7.ar.get hv
      have hmem := List.mem_of_getElem? hri
      obtain ⟨po, go⟩ := ok.ro r hmem
      have hf : fndR rs r.p.nm = some r := fnd_nd ok.rn hri
      have hat' := hat
      obtain ⟨d, u1, u2, u3, qs, us, k0, k1, k2, k3, k4, k5⟩ := hat'
      dsimp only [gName, List.set_cons_succ, List.set_cons_zero]
      refine ⟨_, rfl, x, dx, _, rfl, h07, noS (by decide +kernel) (by decide +kernel) (by decide +kernel) (by decide +kernel) (by decide +kernel), _, rfl, a, RB, d, _, _, rfl, k0, TR.cl, TR.nn, rulF_name _ _ _ _ _, x, r.p.nm, ss, ws, as, bs, cs, rs, rfl, hsc7, hpt7.ar, ?_⟩
      rw [hf]
      intro a' hat'
      obtain ⟨d', v1, v2, v3, qs', us', j0, j1, j2, j3, j4, j5⟩ := hat'
      have s1 := vars_sh po.vo
      have s2 := tris_sh po.co
      have s3 := tri1_sh go
      refine ⟨_, rfl, a', a, d', d, _, _, rfl, rfl, j0, k0, a', a, rfl, .inl ⟨d', d, v1, v2, v3, u1, u2, u3, _, _, _, _, r.p.vars, r.p.vars, r.p.cs, r.p.cs, r.g, r.g, j0, k0, tyR k0, ⟨⟨qs', us', j1, j2, j3, j4⟩, s1, s2⟩, ⟨⟨qs, us, k1, k2, k3, k4⟩, s1, s2⟩, j5, k5, s3, s3, _, rfl, ?_⟩⟩
      rw [sameR_self s1 s2 s3]
      exact ⟨_, rfl, iteF ⟨rfl, _, rfl⟩⟩
    rintro σ H8 ⟨e, u9, rfl⟩
    obtain rfl := e.symm
    -- each bar by its name
    refine ⟨_, rfl, a5, rfl, ⟨_, SqL.of h57⟩, for_list (K := K) (a := a5) (xs := cs.map V.ref) (fun i σ H' => H' = H7 ∧ ∃ u9, σ = [some (.ref x), some (.ref ll), some (.ref lo), some (.ref a1), some (.ref a2), some (.ref a3), some (.ref a4), some (.ref a5), some (.ref tt), u9, none, none, none, none, none]) ⟨rfl, _, rfl⟩ (fun i σ H' _ h => by rw [h.1]; exact SqL.of h57) ?_ ?_⟩
    · rintro i v σ H8 hv ⟨rfl, u9, rfl⟩
      obtain ⟨a, r, rfl, hri, hat⟩ := hpt7.ab.get hv
      have hmem := List.mem_of_getElem? hri
      have po := ok.bo r hmem
      have hf : fndB ps r.nm = some r := fnd_nd ok.bn hri
      have hat' := hat
      obtain ⟨d, u1, u2, qs, us, k0, k1, k2, k3, k4⟩ := hat'
      dsimp only [gName, List.set_cons_succ, List.set_cons_zero]
      refine ⟨_, rfl, x, dx, _, rfl, h07, noS (by decide +kernel) (by decide +kernel) (by decide +kernel) (by decide +kernel) (by decide +kernel), _, rfl, a, BB, d, _, _, rfl, k0, TB.cl, TB.nn, barF_name _ _ _, x, r.nm, ss, ws, as, bs, cs, ps, rfl, hsc7, hpt7.ab, ?_⟩
      rw [hf]
      intro a' hat'
      obtain ⟨d', v1, v2, qs', us', j0, j1, j2, j3, j4⟩ := hat'
      have s1 := vars_sh po.vo
      have s2 := tris_sh po.co
      refine ⟨_, rfl, a', a, d', d, _, _, rfl, rfl, j0, k0, a', a, rfl, .inl ⟨d', d, v1, v2, u1, u2, _, _, r.vars, r.vars, r.cs, r.cs, j0, k0, tyB k0, ⟨⟨qs', us', j1, j2, j3, j4⟩, s1, s2⟩, ⟨⟨qs, us, k1, k2, k3, k4⟩, s1, s2⟩, _, rfl, ?_⟩⟩
      rw [sameB_self s1 s2]
      exact ⟨_, rfl, iteF ⟨rfl, _, rfl⟩⟩
    rintro σ H8 ⟨e, u9, rfl⟩
    obtain rfl := e.symm
    -- names, of the scheme and others
    refine ⟨_, rfl, lo, rfl, ⟨_, SqL.of hlo7⟩, for_list (K := K) (a := lo) (xs := os.map V.str) (fun i σ H' => Same H7 H' ∧ ∃ u9 u10 u11 u12 u14, σ = [some (.ref x), some (.ref ll), some (.ref lo), some (.ref a1), some (.ref a2), some (.ref a3), some (.ref a4), some (.ref a5), some (.ref tt), u9, u10, u11, u12, none, u14]) ⟨Same.refl _, _, _, _, _, _, rfl⟩ (fun i σ H' _ h => SqL.of (h.1 _ _ hlo7)) ?_ ?_⟩
    · rintro i v σ H8 hv ⟨S8, u9, u10, u11, u12, u14, rfl⟩
      obtain ⟨z, hz, rfl⟩ := map_str_get hv
      have oz := ok.oo z (List.mem_of_getElem? hz)
      dsimp only [gName, List.set_cons_succ, List.set_cons_zero]
      refine seq_c (seq_c ?_)
      dsimp only [List.set_cons_succ, List.set_cons_zero]
      refine cut1 (fun σ' H' => ∃ X1, σ' = [some (.ref x), some (.ref ll), some (.ref lo), some (.ref a1), some (.ref a2), some (.ref a3), some (.ref a4), some (.ref a5), some (.ref tt), u9, some (.str z), some X1, some .non, none, u14] ∧ Same H8 H' ∧ IsDu K H' X1 "norule" z (fndR rs z).isSome) ?_ (fun R' fin => ?_)
      · rintro σ9 H9 ⟨X1, rfl, S9, i1⟩
        refine cut1 (fun σ' H' => ∃ X2, σ' = [some (.ref x), some (.ref ll), some (.ref lo), some (.ref a1), some (.ref a2), some (.ref a3), some (.ref a4), some (.ref a5), some (.ref tt), u9, some (.str z), some X1, some X2, none, u14] ∧ Same H9 H' ∧ IsDu K H' X2 "nobar" z (fndB ps z).isSome) ?_ (fun R' fin => ?_)
        · rintro σ10 H10 ⟨X2, rfl, S10, i2⟩
          have i1 := i1.same S10
          have S810 := (S8.trans S9).trans S10
          have S0810 := S9.trans S10
          refine ⟨_, rfl, _, rfl, by show 2 ≤ sizeLine; decide, fun dl hdl => ?_⟩
          dsimp only [gName, List.set_cons_succ, List.set_cons_zero]
          have D0 : Same H10 (upd H10 dl (.lst [.str z, .str z])) := Same.upd hdl
          have d0 : (upd H10 dl (.lst [.str z, .str z])) dl = some (.lst [.str z, .str z]) := upd_same
          generalize upd H10 dl (.lst [.str z, .str z]) = H11 at D0 d0
          -- is it a rule's name
          refine cut1 (fun σ' H' => ∃ Y1, σ' = [some (.ref x), some (.ref ll), some (.ref lo), some (.ref a1), some (.ref a2), some (.ref a3), some (.ref a4), some (.ref a5), some (.ref tt), u9, some (.str z), some X1, some X2, none, some (.ref dl)] ∧ Same H10 H' ∧ H' dl = some (.lst [Y1, .str z]) ∧ IsDu K H' Y1 "norule" z (fndR rs z).isSome) ?_ (fun R' fin => ?_)
          · rintro σ12 H12 ⟨Y1, rfl, S12, d12, y1⟩
            refine cut1 (fun σ' H' => ∃ Y2, σ' = [some (.ref x), some (.ref ll), some (.ref lo), some (.ref a1), some (.ref a2), some (.ref a3), some (.ref a4), some (.ref a5), some (.ref tt), u9, some (.str z), some X1, some X2, none, some (.ref dl)] ∧ Same H10 H' ∧ H' dl = some (.lst [Y1, Y2]) ∧ IsDu K H' Y1 "norule" z (fndR rs z).isSome ∧ IsDu K H' Y2 "nobar" z (fndB ps z).isSome) ?_ (fun R' fin => ?_)
            · rintro σ13 H13 ⟨Y2, rfl, S13, d13, y1, y2⟩
              refine ⟨_, rfl, _, rfl, by show 2 ≤ sizeLine; decide, fun l hl => ?_⟩
              have L0 : Same H13 (upd H13 l (.lst [X1, X2])) := Same.upd hl
              have l0 : (upd H13 l (.lst [X1, X2])) l = some (.lst [X1, X2]) := upd_same
              generalize upd H13 l (.lst [X1, X2]) = H14 at L0 l0
              have S14 := S13.trans L0
              have sh := du_sh (k1 := "norule") (k2 := "nobar") (z := z) okS_nr okS_nb oz (fndR rs z).isSome (fndB ps z).isSome
              refine ⟨_, rfl, _, _, .lst (SqL.of l0) (.cons (i1.same S14).dp (.cons (i2.same S14).dp .nil)), .lst (SqL.of (L0 _ _ d13)) (.cons (y1.same L0).dp (.cons (y2.same L0).dp .nil)), sh, sh, _, rfl, ?_⟩
              rw [eqv_self sh]
              exact iteF ⟨(S810.trans S13).trans L0, _, _, _, _, _, rfl⟩
            · refine ⟨_, rfl, _, rfl, a5, rfl, ⟨_, SqL.of (S12 _ _ (S810 _ _ h57))⟩, fun D1 hD1 => ?_⟩
              have pb := (hpt7.same (S810.trans S12)).ab
              refine lc_list (K := K) (a := a5) (xs := cs.map V.ref) (fun j H' => Same H12 H' ∧ H' D1 = some (.lst (((ps.take j).map (·.nm)).map V.str))) ⟨Same.upd hD1, upd_same⟩ (fun j H' _ p => SqL.of (p.1 _ _ (S12 _ _ (S810 _ _ h57)))) ?_ ?_
              · rintro j y H13 hy ⟨S13, hD13⟩
                obtain ⟨a, r, rfl, hri, hat⟩ := pb.get hy
                obtain ⟨d, fs, k0, kn⟩ := bar_nm (hat.same S13)
                refine ⟨rfl, _, rfl, a, BB, d, _, _, rfl, k0, TB.cl, TB.nn, kn, _, hD13, ?_, fun b o e => ?_, ?_⟩
                · have l5 := ok.l5
                  rw [List.length_map, List.length_map, List.length_take]
                  exact Nat.lt_of_le_of_lt (show _ ≤ 1000 by omega) (by decide)
                · rw [upd_ne (ne_of_none e hD1)]
                  exact S13 _ _ e
                · rw [upd_same, List.take_add_one, hri, List.map_append, List.map_append]
                  rfl
              rintro H13 ⟨S13, hD13⟩
              rw [List.length_map, pb.len, List.take_length] at hD13
              refine ⟨D1, _, rfl, .inl (SqL.of hD13), rfl, flats _, _, rfl, ?_⟩
              rw [if_pos rfl, inV_strs, ← fndB_mem]
              cases hq : (fndB ps z).isSome with
              | true => exact iteF (fin _ _ ⟨_, rfl, S12.trans S13, S13 _ _ d12, y1.same S13, .inl ⟨hq, rfl⟩⟩)
              | false =>
                refine iteT ⟨_, rfl, by show 4 ≤ sizeLine; decide, fun t ht => ?_⟩
                have T0 : Same H13 (upd H13 t (.tup [.str "nobar", .str z, .bl true, .bl false])) := Same.upd ht
                have t0 : (upd H13 t (.tup [.str "nobar", .str z, .bl true, .bl false])) t = some (.tup [.str "nobar", .str z, .bl true, .bl false]) := upd_same
                generalize upd H13 t (.tup [.str "nobar", .str z, .bl true, .bl false]) = H14 at T0 t0
                have d14 := T0 _ _ (S13 _ _ d12)
                refine ⟨_, rfl, dl, _, 1, 1, rfl, rfl, d14, by simp [ixN], ?_⟩
                have sm : Same H10 (upd H14 dl (.lst ([Y1, .str z].set 1 (.ref t)))) := fun b o e => by
                  rw [upd_ne (ne_of_none e hdl)]
                  exact T0 _ _ (S13 _ _ (S12 _ _ e))
                refine fin _ _ ⟨.ref t, rfl, sm, upd_same, ?_, .inr ⟨hq, t, rfl, (upd_ne (ne_of t0 d14 (by intro q; cases q))).trans t0⟩⟩
                rcases (y1.same S13).same T0 with q | ⟨q, t', e, r⟩
                · exact .inl q
                · exact .inr ⟨q, t', e, (upd_ne (ne_of r d14 (by intro q; cases q))).trans r⟩
          · refine ⟨_, rfl, _, rfl, a4, rfl, ⟨_, SqL.of (D0 _ _ (S810 _ _ h47))⟩, fun D1 hD1 => ?_⟩
            have pb := (hpt7.same (S810.trans D0)).ar
            refine lc_list (K := K) (a := a4) (xs := bs.map V.ref) (fun j H' => Same H11 H' ∧ H' D1 = some (.lst (((rs.take j).map (·.p.nm)).map V.str))) ⟨Same.upd hD1, upd_same⟩ (fun j H' _ p => SqL.of (p.1 _ _ (D0 _ _ (S810 _ _ h47)))) ?_ ?_
            · rintro j y H13 hy ⟨S13, hD13⟩
              obtain ⟨a, r, rfl, hri, hat⟩ := pb.get hy
              obtain ⟨d, fs, k0, kn⟩ := rul_nm (hat.same S13)
              refine ⟨rfl, _, rfl, a, RB, d, _, _, rfl, k0, TR.cl, TR.nn, kn, _, hD13, ?_, fun b o e => ?_, ?_⟩
              · have l4 := ok.l4
                rw [List.length_map, List.length_map, List.length_take]
                exact Nat.lt_of_le_of_lt (show _ ≤ 1000 by omega) (by decide)
              · rw [upd_ne (ne_of_none e hD1)]
                exact S13 _ _ e
              · rw [upd_same, List.take_add_one, hri, List.map_append, List.map_append]
                rfl
            rintro H13 ⟨S13, hD13⟩
            rw [List.length_map, pb.len, List.take_length] at hD13
            refine ⟨D1, _, rfl, .inl (SqL.of hD13), rfl, flats _, _, rfl, ?_⟩
            rw [if_pos rfl, inV_strs, ← fndR_mem]
            cases hq : (fndR rs z).isSome with
            | true => exact iteF (fin _ _ ⟨_, rfl, D0.trans S13, S13 _ _ d0, .inl ⟨hq, rfl⟩⟩)
            | false =>
              refine iteT ⟨_, rfl, by show 4 ≤ sizeLine; decide, fun t ht => ?_⟩
              have T0 : Same H13 (upd H13 t (.tup [.str "norule", .str z, .bl true, .bl false])) := Same.upd ht
              have t0 : (upd H13 t (.tup [.str "norule", .str z, .bl true, .bl false])) t = some (.tup [.str "norule", .str z, .bl true, .bl false]) := upd_same
              generalize upd H13 t (.tup [.str "norule", .str z, .bl true, .bl false]) = H14 at T0 t0
              have d14 := T0 _ _ (S13 _ _ d0)
              refine ⟨_, rfl, dl, _, 0, 0, rfl, rfl, d14, by simp [ixN], ?_⟩
              have sm : Same H10 (upd H14 dl (.lst ([.str z, .str z].set 0 (.ref t)))) := fun b o e => by
                rw [upd_ne (ne_of_none e hdl)]
                exact T0 _ _ (S13 _ _ (D0 _ _ e))
              exact fin _ _ ⟨.ref t, rfl, sm, upd_same, .inr ⟨hq, t, rfl, (upd_ne (ne_of t0 d14 (by intro q; cases q))).trans t0⟩⟩
        · have S89 := S8.trans S9
          refine ⟨_, rfl, x, dx, _, rfl, S89 _ _ h07, noS (by decide +kernel) (by decide +kernel) (by decide +kernel) (by decide +kernel) (by decide +kernel), _, rfl, x, z, ss, ws, as, bs, cs, ps, rfl, hsc7.same S89, (hpt7.same S89).ab, ?_⟩
          cases hq : fndB ps z with
          | some r =>
            intro a hat
            have hz' : r.nm = z := of_decide_eq_true (List.find?_some (p := fun r : PtD => decide (r.nm = z)) hq)
            obtain ⟨d, fs, k0, kn⟩ := bar_nm hat
            refine ⟨a, BB, d, fs, _, rfl, k0, TB.cl, TB.nn, kn, ?_⟩
            exact fin _ _ ⟨_, rfl, Same.refl _, .inl ⟨by rw [hq]; rfl, by rw [hz']⟩⟩
          | none =>
            intro dd H10 ndd S10 hx10
            refine ⟨true, TEB.te, fun _ a0 _ => ?_, fun q => Bool.noConfusion q⟩
            refine ⟨_, rfl, rfl, rfl, dd, _, _, rfl, hx10, rfl, ?_⟩
            refine ⟨_, rfl, CB, dd, rfl, rfl, TEB.xc, _, _, _, _, rfl, hx10, (fun u r => r), TEB.k1, ?_⟩
            refine ⟨_, rfl, CB, dd, rfl, rfl, TEB.xc, _, _, _, _, rfl, hx10, (fun u r => r), TEB.k2, ?_⟩
            refine ⟨by show 4 ≤ sizeLine; decide, fun q nq => ?_⟩
            exact fin _ _ ⟨.ref q, rfl, S10.trans (Same.upd nq), .inr ⟨by rw [hq]; rfl, q, rfl, upd_same⟩⟩
      · refine ⟨_, rfl, x, dx, _, rfl, S8 _ _ h07, noS (by decide +kernel) (by decide +kernel) (by decide +kernel) (by decide +kernel) (by decide +kernel), _, rfl, x, z, ss, ws, as, bs, cs, rs, rfl, hsc7.same S8, (hpt7.same S8).ar, ?_⟩
        cases hq : fndR rs z with
        | some r =>
          intro a hat
          have hz' : r.p.nm = z := of_decide_eq_true (List.find?_some (p := fun r : RlD => decide (r.p.nm = z)) hq)
          obtain ⟨d, fs, k0, kn⟩ := rul_nm hat
          refine ⟨a, RB, d, fs, _, rfl, k0, TR.cl, TR.nn, kn, ?_⟩
          exact fin _ _ ⟨_, rfl, Same.refl _, .inl ⟨by rw [hq]; rfl, by rw [hz']⟩⟩
        | none =>
          intro dd H10 ndd S10 hx10
          refine ⟨true, TER.te, fun _ a0 _ => ?_, fun q => Bool.noConfusion q⟩
          refine ⟨_, rfl, rfl, rfl, dd, _, _, rfl, hx10, rfl, ?_⟩
          refine ⟨_, rfl, CR, dd, rfl, rfl, TER.xc, _, _, _, _, rfl, hx10, (fun u r => r), TER.k1, ?_⟩
          refine ⟨_, rfl, CR, dd, rfl, rfl, TER.xc, _, _, _, _, rfl, hx10, (fun u r => r), TER.k2, ?_⟩
          refine ⟨by show 4 ≤ sizeLine; decide, fun q nq => ?_⟩
          exact fin _ _ ⟨.ref q, rfl, S10.trans (Same.upd nq), .inr ⟨by rw [hq]; rfl, q, rfl, upd_same⟩⟩
    rintro σ H8 ⟨S8, u9, u10, u11, u12, u14, rfl⟩
    -- the told lists are spoilt
    have S08 := S07.trans S8
    have l1 := ok.l1
    have l2 := ok.l2
    have l3 := ok.l3
    have l4 := ok.l4
    have l5 := ok.l5
    have am := hpt.am.len
    have ar := hpt.ar.len
    have ab := hpt.ab.len
    have all8 : ∀ l ∈ [t1, t2, t3, t4, t5], ∃ xs, H8 l = some (.lst xs) ∧ xs.length ≤ 900 + 0 := fun l hl => by
      rcases List.mem_cons.mp hl with rfl | hl
      · exact ⟨_, S8 _ _ e1, by rw [List.length_map]; omega⟩
      rcases List.mem_cons.mp hl with rfl | hl
      · exact ⟨_, S8 _ _ e2, by rw [List.length_map]; omega⟩
      rcases List.mem_cons.mp hl with rfl | hl
      · exact ⟨_, S8 _ _ e3, by rw [List.length_map]; omega⟩
      rcases List.mem_cons.mp hl with rfl | hl
      · exact ⟨_, S8 _ _ e4, by rw [List.length_map]; omega⟩
      rcases List.mem_cons.mp hl with rfl | hl
      · exact ⟨_, S8 _ _ e5, by rw [List.length_map]; omega⟩
      exact (List.not_mem_nil hl).elim
    have e68 := S8 _ _ e6
    refine ⟨_, rfl, tt, rfl, ⟨_, SqL.of e68⟩, for_list (K := K) (a := tt) (xs := [t1, t2, t3, t4, t5].map V.ref) (fun i σ H' => Same H H' ∧ H' tt = some (.lst ([t1, t2, t3, t4, t5].map V.ref)) ∧ (∀ l ∈ [t1, t2, t3, t4, t5], ∃ xs, H' l = some (.lst xs) ∧ xs.length ≤ 900 + i) ∧ ∃ u9, σ = [some (.ref x), some (.ref ll), some (.ref lo), some (.ref a1), some (.ref a2), some (.ref a3), some (.ref a4), some (.ref a5), some (.ref tt), u9, u10, u11, u12, none, u14]) ⟨S08, e68, all8, _, rfl⟩ (fun i σ H' _ h => SqL.of h.2.1) ?_ ?_⟩
    · rintro i v σ H9 hv ⟨S9, h9, a9, v9, rfl⟩
      obtain ⟨l, hl, rfl⟩ := map_ref_get hv
      have i5 : i < 5 := (List.getElem?_eq_some_iff.mp hl).1
      have hm := List.mem_of_getElem? hl
      obtain ⟨nt, f0⟩ := n6 l hm
      obtain ⟨xs, hx, hlen⟩ := a9 l hm
      dsimp only [gName, List.set_cons_succ, List.set_cons_zero]
      refine ⟨_, rfl, .inl ⟨rfl, _, SqL.of hx⟩, l, _, _, rfl, rfl, hx, Nat.lt_of_le_of_lt (show _ ≤ 1000 by omega) (by decide), ?_⟩
      refine ⟨_, rfl, .inl ⟨rfl, _, SqL.of upd_same⟩, l, _, rfl, rfl, upd_same, ?_⟩
      refine ⟨fun b o e => ?_, ?_, fun m hm' => ?_, _, rfl⟩
      · rw [upd_ne (ne_of_none e f0), upd_ne (ne_of_none e f0)]
        exact S9 b o e
      · rw [upd_ne nt.symm, upd_ne nt.symm]
        exact h9
      · by_cases q : m = l
        · rw [q]
          refine ⟨_, upd_same, ?_⟩
          rw [List.length_reverse, List.length_append]
          show _ + 1 ≤ _
          omega
        · obtain ⟨ys, hy, hyl⟩ := a9 m hm'
          exact ⟨ys, by rw [upd_ne q, upd_ne q]; exact hy, by omega⟩
    rintro σ H9 ⟨S9, _, _, v9, rfl⟩
    exact k H9 S9
end
end Wm
namespace Wm
open PySem L2 StX
def spCel (K : PySem.W.Frag) : Sp := fun vs H Q _ => ∃ (a : Addr) (ns : List Int) (j : Nat), vs = [.ref a, .int j] ∧ SqL K H a (ns.map V.int) ∧ ∀ i : Int, Q (.int i) H
def spLaw (K : PySem.W.Frag) : Sp := fun vs H Q _ => ∃ (a : Addr) (ns : List Int), vs = [.ref a] ∧ SqL K H a (ns.map V.int) ∧ ns.length ≤ 63 ∧ ∀ H', Q (.bl true) H'
theorem MkAt.kp {K : PySem.W.Frag} {B : Addr} {H H' : Hp} {a : Addr} {m : MkD} (k : Kp H H') (h : MkAt K B H a m) : MkAt K B H' a m := by
  obtain ⟨d, t1, t2, h0, h1, h2⟩ := h
  exact ⟨d, t1, t2, k _ _ ns_ins h0, k.sqT h1, k.sqT h2⟩
theorem RlAt.kp {K : PySem.W.Frag} {B : Addr} {H H' : Hp} {a : Addr} {m : RlD} (k : Kp H H') (h : RlAt K B H a m) : RlAt K B H' a m := by
  obtain ⟨d, t1, t2, t3, ps, qs, h0, h1, h2, h3, h4, h5⟩ := h
  exact ⟨d, t1, t2, t3, ps, qs, k _ _ ns_ins h0, k.sqT h1, k.rows h2, k.sqT h3, k.rows h4, k.sqT h5⟩
theorem BrAt.kp {K : PySem.W.Frag} {B : Addr} {H H' : Hp} {a : Addr} {m : PtD} (k : Kp H H') (h : BrAt K B H a m) : BrAt K B H' a m := by
  obtain ⟨d, t1, t2, ps, qs, h0, h1, h2, h3, h4⟩ := h
  exact ⟨d, t1, t2, ps, qs, k _ _ ns_ins h0, k.sqT h1, k.rows h2, k.sqT h3, k.rows h4⟩
theorem BrAt.put {K : PySem.W.Frag} {B D : Addr} {H : Hp} {a : Addr} {r : PtD} {xs : List V} {o : HO} (hD : H D = some (.lst xs)) (h : BrAt K B H a r) : BrAt K B (upd H D o) a r := by
  obtain ⟨d, t1, t2, ps, qs, h0, h1, h2, h3, h4⟩ := h
  exact ⟨d, t1, t2, ps, qs, (upd_ne (ne_of h0 hD (by intro z; cases z))).trans h0, sqT_put hD h1, rows_put hD h2, sqT_put hD h3, rows_put hD h4⟩
theorem Parts.kp {K : PySem.W.Frag} {MB RB BB : Addr} {H H' : Hp} {as bs cs : List Addr} {ms : List MkD} {rs : List RlD} {ps : List PtD} (k : Kp H H') (h : Parts K MB RB BB H as bs cs ms rs ps) : Parts K MB RB BB H' as bs cs ms rs ps :=
  ⟨h.am.imp fun _ _ q => q.kp k, h.ar.imp fun _ _ q => q.kp k, h.ab.imp fun _ _ q => q.kp k⟩
theorem Parts.put {K : PySem.W.Frag} {MB RB BB D : Addr} {H : Hp} {as bs cs : List Addr} {ms : List MkD} {rs : List RlD} {ps : List PtD} {xs : List V} {o : HO} (hD : H D = some (.lst xs)) (h : Parts K MB RB BB H as bs cs ms rs ps) : Parts K MB RB BB (upd H D o) as bs cs ms rs ps :=
  ⟨h.am.imp fun _ _ q => q.put hD, h.ar.imp fun _ _ q => q.put hD, h.ab.imp fun _ _ q => q.put hD⟩
/-- the scheme, its own lists apart from these -/
def SG (S : Addr) (Ls : List Addr) (H : Hp) (x : Addr) (ss ws : List Str) (as bs cs : List Addr) : Prop := ∃ dx q1 q2 q3 q4 q5, (∀ l ∈ Ls, l ∉ [q1, q2, q3, q4, q5]) ∧ H x = some (.ins S dx (schF q1 q2 q3 q4 q5)) ∧ H q1 = some (.lst (ss.map V.str)) ∧ H q2 = some (.lst (ws.map V.str)) ∧ H q3 = some (.lst (as.map V.ref)) ∧ H q4 = some (.lst (bs.map V.ref)) ∧ H q5 = some (.lst (cs.map V.ref))
theorem SG.weak {S : Addr} {Ls : List Addr} {H : Hp} {x : Addr} {ss ws : List Str} {as bs cs : List Addr} (h : SG S Ls H x ss ws as bs cs) : SchG S H x ss ws as bs cs := by
  obtain ⟨dx, q1, q2, q3, q4, q5, _, h⟩ := h
  exact ⟨dx, q1, q2, q3, q4, q5, h⟩
theorem SG.same {S : Addr} {Ls : List Addr} {H H' : Hp} {x : Addr} {ss ws : List Str} {as bs cs : List Addr} (s : Same H H') (h : SG S Ls H x ss ws as bs cs) : SG S Ls H' x ss ws as bs cs := by
  obtain ⟨dx, q1, q2, q3, q4, q5, n, h0, h1, h2, h3, h4, h5⟩ := h
  exact ⟨dx, q1, q2, q3, q4, q5, n, s _ _ h0, s _ _ h1, s _ _ h2, s _ _ h3, s _ _ h4, s _ _ h5⟩
theorem SG.put {S : Addr} {Ls : List Addr} {H : Hp} {x D : Addr} {ss ws : List Str} {as bs cs : List Addr} {xs : List V} {o : HO} (hm : D ∈ Ls) (hD : H D = some (.lst xs)) (h : SG S Ls H x ss ws as bs cs) : SG S Ls (upd H D o) x ss ws as bs cs := by
  obtain ⟨dx, q1, q2, q3, q4, q5, n, h0, h1, h2, h3, h4, h5⟩ := h
  have nn := n D hm
  simp only [List.mem_cons, not_or] at nn
  obtain ⟨n1, n2, n3, n4, n5, _⟩ := nn
  exact ⟨dx, q1, q2, q3, q4, q5, n, (upd_ne (ne_of h0 hD (by intro z; cases z))).trans h0, (upd_ne (Ne.symm n1)).trans h1, (upd_ne (Ne.symm n2)).trans h2, (upd_ne (Ne.symm n3)).trans h3, (upd_ne (Ne.symm n4)).trans h4, (upd_ne (Ne.symm n5)).trans h5⟩
theorem SchF.sg {S : Addr} {Ls : List Addr} {H0 H : Hp} {x : Addr} {ss ws : List Str} {as bs cs : List Addr} (hL : ∀ l ∈ Ls, ∃ xs, H0 l = some (.lst xs)) (h : SchF S H0 H x ss ws as bs cs) : SG S Ls H x ss ws as bs cs := by
  obtain ⟨dx, q1, q2, q3, q4, q5, ⟨z1, z2, z3, z4, z5⟩, h⟩ := h
  refine ⟨dx, q1, q2, q3, q4, q5, fun l hl hm => ?_, h⟩
  obtain ⟨xs, hx⟩ := hL l hl
  simp only [List.mem_cons, List.not_mem_nil, or_false] at hm
  rcases hm with rfl | rfl | rfl | rfl | rfl
  · rw [z1] at hx; cases hx
  · rw [z2] at hx; cases hx
  · rw [z3] at hx; cases hx
  · rw [z4] at hx; cases hx
  · rw [z5] at hx; cases hx
/-- the lists that the law keeps -/
structure LF (Ls : List Addr) (H : Hp) (ll lo a1 a2 a3 a4 a5 : Addr) (ss ws os : List Str) (as bs cs : List Addr) : Prop where
  nl : ∀ l ∈ Ls, l ∉ [ll, lo, a1, a2, a3, a4, a5]
  hl : H ll = some (.lst ([a1, a2, a3, a4, a5].map V.ref))
  h1 : H a1 = some (.lst (ss.map V.str))
  h2 : H a2 = some (.lst (ws.map V.str))
  h3 : H a3 = some (.lst (as.map V.ref))
  h4 : H a4 = some (.lst (bs.map V.ref))
  h5 : H a5 = some (.lst (cs.map V.ref))
  ho : H lo = some (.lst (os.map V.str))
theorem LF.same {Ls : List Addr} {H H' : Hp} {ll lo a1 a2 a3 a4 a5 : Addr} {ss ws os : List Str} {as bs cs : List Addr} (s : Same H H') (h : LF Ls H ll lo a1 a2 a3 a4 a5 ss ws os as bs cs) : LF Ls H' ll lo a1 a2 a3 a4 a5 ss ws os as bs cs :=
  ⟨h.nl, s _ _ h.hl, s _ _ h.h1, s _ _ h.h2, s _ _ h.h3, s _ _ h.h4, s _ _ h.h5, s _ _ h.ho⟩
theorem LF.put {Ls : List Addr} {H : Hp} {D ll lo a1 a2 a3 a4 a5 : Addr} {ss ws os : List Str} {as bs cs : List Addr} {o : HO} (hm : D ∈ Ls) (h : LF Ls H ll lo a1 a2 a3 a4 a5 ss ws os as bs cs) : LF Ls (upd H D o) ll lo a1 a2 a3 a4 a5 ss ws os as bs cs := by
  have nn := h.nl D hm
  simp only [List.mem_cons, not_or] at nn
  obtain ⟨n1, n2, n3, n4, n5, n6, n7, _⟩ := nn
  exact ⟨h.nl, (upd_ne (Ne.symm n1)).trans h.hl, (upd_ne (Ne.symm n3)).trans h.h1, (upd_ne (Ne.symm n4)).trans h.h2, (upd_ne (Ne.symm n5)).trans h.h3, (upd_ne (Ne.symm n6)).trans h.h4, (upd_ne (Ne.symm n7)).trans h.h5, (upd_ne (Ne.symm n2)).trans h.ho⟩
theorem bar_new {K : PySem.W.Frag} {C BB : Addr} {H : Hp} {l1 l2 : Addr} {nm : Str} {ps qs : List Addr} {vars : List Var} {cs : List Tri} {R : Addr → Hp → Prop} {E : XK} (h1 : SqL K H l1 (ps.map V.ref)) (r1 : RowsAt K H ps (vars.map varV)) (h2 : SqL K H l2 (qs.map V.ref)) (r2 : RowsAt K H qs (cs.map triV))
    (ok : PatOk vars cs [] []) (hn : ∀ z ∈ textsL nm vars cs, isNm z = true ∧ z.length ≤ 12) (k : ∀ x H', H x = none → Same H H' → BrAt K BB H' x ⟨nm, vars, cs⟩ → R x H') :
    ∀ x dx, H x = none → H dx = none → dx ≠ x → spBar K C BB [.ref x, .str nm, .ref l1, .ref l2] (upd (upd H dx (.own x)) x (.ins BB dx [])) (fun v H3 => v = .non ∧ R x H3) E := fun x dx hx hd ne => by
  refine ⟨H, x, dx, l1, l2, nm, ps, qs, vars, cs, rfl, same_make hx hd, hx, upd_same, h1, r1, h2, r2, ok, fun z hz => Nat.le_trans (hn z hz).2 (by decide), dueM_all (fun z hz => (hn z hz).1) fun H' S' t1 t2 a1 a2 a3 => ⟨rfl, ?_⟩⟩
  exact k x H' hx S' ⟨dx, t1, t2, ps, qs, a1, SqT.of a2, r1.same S', SqT.of a3, r2.same S'⟩
theorem ends_l {cs : List Tri} {t : Tri} (h : t ∈ cs) : t.1 ∈ endsL cs ∧ t.2.2 ∈ endsL cs := by
  unfold endsL
  exact ⟨List.mem_flatMap.mpr ⟨t, h, by simp⟩, List.mem_flatMap.mpr ⟨t, h, by simp⟩⟩
theorem pts_of {vars : List Var} {cs gs : List Tri} {hs ss ws : List Str} (sd : Drawn ss) (wd : Drawn ws) (pt : PatOk vars cs gs hs) (vn : ∀ v ∈ vars, isNm v.1 = true ∧ v.1.length ≤ 12 ∧ okS v.1) (vs : ∀ v ∈ vars, ∀ z, v.2 = some z → z ∈ ss) (cw : ∀ t ∈ cs ++ gs, t.2.1 ∈ ws) : (∀ v ∈ vars, VarOk v) ∧ ∀ t ∈ cs ++ gs, TriOk t := by
  have en : ∀ z ∈ endsL (cs ++ gs), okS z := fun z hz => by
    obtain ⟨v, hv, rfl⟩ := List.mem_map.mp (pt.en z (List.mem_append_left _ hz))
    exact (vn v hv).2.2
  exact ⟨fun v hv => ⟨(vn v hv).2.2, fun z hz => sd.ok (vs v hv z hz)⟩, fun t ht => ⟨en _ (ends_l ht).1, wd.ok (cw t ht), en _ (ends_l ht).2⟩⟩
theorem RuleOk.pts {ss ws : List Str} {r : RlD} (sd : Drawn ss) (wd : Drawn ws) (h : RuleOk ss ws r) : PtS r.p ∧ TriOk r.g := by
  obtain ⟨a, b⟩ := pts_of sd wd h.pt h.vn h.vs fun t ht => by
    rcases List.mem_append.mp ht with q | q
    · exact h.cw t q
    · rw [List.mem_singleton.mp q]
      exact h.gw
  exact ⟨⟨a, fun t ht => b t (List.mem_append_left _ ht)⟩, b _ (List.mem_append_right _ (List.mem_singleton.mpr rfl))⟩
theorem BarOk.pts {ss ws : List Str} {b : PtD} (sd : Drawn ss) (wd : Drawn ws) (h : BarOk ss ws b) : PtS b := by
  obtain ⟨x, y⟩ := pts_of sd wd h.pt h.vn h.vs fun t ht => by
    rw [List.append_nil] at ht
    exact h.cw t ht
  exact ⟨x, fun t ht => y t (List.mem_append_left _ ht)⟩
theorem MdlOk.schB {ss ws : List Str} {ms : List MkD} {rs : List RlD} {ps : List PtD} (h : MdlOk ss ws ms rs) (b : BarsOk ss ws ps) : SchOk ss ws ms rs ps := by
  have q := h.sch
  have b3 := b.ln
  exact ⟨q.sr, q.wr, q.s1, q.s4, q.w1, q.w5, q.m9, q.r8, by omega, q.mt, q.rn, b.nd, q.so, q.mo, q.mu, q.ml, q.mw, q.rv, fun x hx => ⟨(b.ok x hx).pt.v4, (b.ok x hx).pt.c3, (b.ok x hx).vs, (b.ok x hx).cw⟩⟩
theorem BarOk.texts {ss ws : List Str} {b : PtD} (sd : Drawn ss) (wd : Drawn ws) (h : BarOk ss ws b) : ∀ z ∈ textsL b.nm b.vars b.cs, isNm z = true ∧ z.length ≤ 12 := fun z hz => by
  unfold textsL at hz
  rcases List.mem_append.mp hz with hz | hz
  · rcases List.mem_cons.mp hz with rfl | hz
    · exact ⟨nm_is h.nm.1 (Nat.le_trans h.nm.2 (by decide)), Nat.le_trans h.nm.2 (by decide)⟩
    · obtain ⟨v, hv, hz⟩ := List.mem_flatMap.mp hz
      unfold varT at hz
      rcases List.mem_cons.mp hz with rfl | hz
      · exact ⟨(h.vn v hv).1, (h.vn v hv).2.1⟩
      · exact sd.is (h.vs v hv z (Option.mem_toList.mp hz))
  · obtain ⟨t, ht, rfl⟩ := List.mem_map.mp hz
    exact wd.is (h.cw t ht)
abbrev twoS : List Str := ["", "A b"]
theorem okS_e : okS ("" : Str) := by
  unfold okS
  decide +kernel
theorem okS_ab : okS ("A b" : Str) := by
  unfold okS
  decide +kernel
section
variable {P : Program} {w : World} {K : PySem.W.Frag} {mg : Str → Option Value} {base : Heap}
theorem scCel : FnScope ["_law_script", "_law_k"] ["_law_script", "_law_k"] (defScope sCel) := ⟨rfl, rfl, rfl, by decide +kernel, rfl, by decide +kernel, by decide +kernel⟩
theorem ok_cel {f : Addr} {fd : FuncData} (F : Fun K "_law_cell_at" "_law_cell_at" sCel f fd) (T : TxB mg) : FnOk P w K mg base CX0 1 f fd ["_law_script", "_law_k"] (spCel K) := by
  refine F.ok scCel (fun vs H Q E h => ?_) (fun cdv A outer s H vs Q E hr h => ?_)
  · obtain ⟨a, ns, j, rfl, _⟩ := h
    rfl
  · obtain ⟨a, ns, j, rfl, hS, k⟩ := h
    refine ⟨_, (pss_cons (ps_if (pt_cmpR op_lt (pv 1) (pe_callB call_len_seq (by rfl) T.len (by decide +kernel) (pa_cons (pv 0) pa_nil)) (nomark _)) (pss_one (ps_ret (pe_ix ix_list (pv 0) (pv 1) (fun _ _ => rfl)))) pss_nil)
      (pss_one (ps_ret pe_int))), ?_⟩
    refine ⟨_, rfl, _, rfl, a, _, rfl, .inl hS, _, _, rfl, rfl, _, rfl, ite2 (fun h => ?_) (fun h => ?_)⟩
    · have h1 := of_decide_eq_true h
      rw [List.length_map] at h1
      have hj : j < ns.length := by omega
      refine ⟨_, rfl, _, rfl, a, _, _, .int ns[j], rfl, rfl, hS, atI_nat (j := j) ?_, k _⟩
      rw [List.getElem?_map, List.getElem?_eq_getElem hj]
      rfl
    · exact k 0
theorem scLaw : FnScope ["_law_script", "_law_k", "_law_s", "_law_left_out", "_law_m", "_law_bars_here", "_law_one", "_law_makings", "_law_rules", "_law_lists", "_law_others", "_law_scheme"] ["_law_script"] (defScope sLaw) := ⟨rfl, rfl, rfl, by decide +kernel, rfl, by decide +kernel, by decide +kernel⟩
theorem ok_law {f fC fSt fG fMd fBr fN fAs S fS MB fM RB fR BB fB C : Addr} {fd dC dSt dG dMd dBr dN dAs dS dM dR dB : FuncData} (F : Fun K "law" "law" sLaw f fd) (T : TxB mg) (tl : mg "list" = none) (hmin : mg "min" = none) (TC : TxSch K mg S fS) (TM : TxMak K mg MB fM) (TR : TxRul K mg RB fR) (TB : TxBar K mg BB fB)
    (DC : Dn K mg "_law_cell_at" sCel ["_law_script", "_law_k"] fC dC) (DS : Dn K mg "_law_state" sState ["_law_cell"] fSt dSt) (DG : Dn K mg "_law_digit" sDigit ["_law_state_here", "_law_base"] fG dG)
    (DMd : Dn K mg "_law_model" sMdl ["_law_s", "_law_rules", "_law_most"] fMd dMd) (GMd : FnOk P w K mg base CX0 4 fMd dMd ["_law_s", "_law_rules", "_law_most"] (spMdl K))
    (DBr : Dn K mg "_law_bars" sBrs ["_law_s", "_law_m"] fBr dBr) (GBr : FnOk P w K mg base CX0 4 fBr dBr ["_law_s", "_law_m"] (spBrs K))
    (DN : Dn K mg "_law_names" sNms ["_law_s", "_law_many"] fN dN) (GN : FnOk P w K mg base CX0 3 fN dN ["_law_s", "_law_many"] spNms)
    (DAs : Dn K mg "_law_asked" sAsk ["_law_scheme", "_law_lists", "_law_others"] fAs dAs) (GAs : FnOk P w K mg base CX0 5 fAs dAs ["_law_scheme", "_law_lists", "_law_others"] (spAsk K S MB RB BB))
    (bM : Binds K dM ["self", "maker", "made", "down", "up"] []) (GM : FnOk P w K mg base (L2.CX P w) 5 fM dM ["self", "maker", "made", "down", "up"] (spMak K C MB))
    (bR : Binds K dR ["self", "name", "variables", "conditions", "gives", "by"] []) (GR : FnOk P w K mg base (L2.CX P w) 6 fR dR ["self", "name", "variables", "conditions", "gives", "by"] (spRul K C RB))
    (bB : Binds K dB ["self", "name", "variables", "conditions"] []) (GB : FnOk P w K mg base (L2.CX P w) 6 fB dB ["self", "name", "variables", "conditions"] (spBar K C BB))
    (bS : Binds K dS ["self", "sorts", "words", "makings", "rules", "bars"] []) (GS : FnOk P w K mg base CX0 4 fS dS ["self", "sorts", "words", "makings", "rules", "bars"] (spSch K S MB RB BB)) :
    FnOk P w K mg base CX0 8 f fd ["_law_script"] (spLaw K) := by
  have GC : FnOk P w K mg base CX0 1 fC dC _ (spCel K) := ok_cel DC.F T
  have GSt : FnOk P w K mg base CX0 1 fSt dSt _ spState := ok_state DS.F T
  have GG : FnOk P w K mg base CX0 1 fG dG _ spDigit := ok_digit DG.F
  refine F.ok scLaw (fun vs H Q E h => ?_) (fun cdv A outer s H vs Q E hr h => ?_)
  · obtain ⟨a, ns, rfl, _⟩ := h
    rfl
  · obtain ⟨a, ns, rfl, hA, hlen, kk⟩ := h
    have hr1 : Room 1 _ := hr.mono (by decide)
    have hr3 : Room 3 _ := hr.mono (by decide)
    have hr4 : Room 4 _ := hr.mono (by decide)
    have hr5 : Room 5 _ := hr.mono (by decide)
    have hr6 : Room 6 _ := hr.mono (by decide)
    have hr7 : Room 7 _ := hr
    have hu := hu_of hr
    refine ⟨_, (pss_cons (ps_for PassesOwn.never rfl (pi_range1 rfl T.range (pa_cons (pe_callB (call_min2 rfl) (by rfl) hmin (by decide +kernel) (pa_cons pe_int (pa_cons (pe_op op_add pe_int (pe_callB call_len_seq (by rfl) T.len (by decide +kernel) (pa_cons (pv 0) pa_nil))) pa_nil))) pa_nil)) (pg_name (i := 1) scLaw.nd rfl (Or.inl rfl)) (pss_cons (ps_set (i := 2) scLaw.nd rfl (Or.inl rfl) (pe_call GSt hr1 rfl DS.g DS.F.kp DS.b .nil pass0 (pa_cons (pe_call GC hr1 rfl DC.g DC.F.kp DC.b .nil pass0 (pa_cons (pv 0) (pa_cons (pv 1) pa_nil))) pa_nil)))
      (pss_cons (ps_set (i := 3) scLaw.nd rfl (Or.inl rfl) (pe_call GG hr1 rfl DG.g DG.F.kp DG.b .nil pass0 (pa_cons (pv 2) (pa_cons pe_int pa_nil))))
      (pss_cons (ps_set (i := 4) scLaw.nd rfl (Or.inl rfl) (pe_call GMd hr4 rfl DMd.g DMd.F.kp DMd.b .nil pass0 (pa_cons (pv 2) (pa_cons pe_int (pa_cons pe_int pa_nil)))))
      (pss_cons (ps_setLc (i := 5) (own := [("_law_one", 6)]) (g := gName 6) (tt := tYes) (te := tMake BB (spBar K C BB) [] E0 (tCons (tOp (rIxT K) (tVar 6) (tC (.int 0))) (tCons (tCB (fun xs H Q => ∃ p ys, xs = [V.ref p] ∧ (SqL K H p ys ∨ SqT K H p ys) ∧ ∀ l, H l = none → Q (.ref l) (upd H l (.lst ys))) (tCons (tOp (rIxT K) (tVar 6) (tC (.int 1))) tNil)) (tCons (tCB (fun xs H Q => ∃ p ys, xs = [V.ref p] ∧ (SqL K H p ys ∨ SqT K H p ys) ∧ ∀ l, H l = none → Q (.ref l) (upd H l (.lst ys))) (tCons (tOp (rIxT K) (tVar 6) (tC (.int 2))) tNil)) tNil)))) rfl scLaw.nd rfl rfl (sw_true rfl rfl rfl (by decide +kernel)) (pi_list (pe_call GBr hr4 rfl DBr.g DBr.F.kp DBr.b .nil pass0 (pa_cons (pv 2) (pa_cons (pv 4) pa_nil)))) (blkOk_by (N := ["_law_script", "_law_k", "_law_s", "_law_left_out", "_law_m", "_law_bars_here", "_law_one", "_law_makings", "_law_rules", "_law_lists", "_law_others", "_law_scheme"]) (sc := defScope sLaw) (by decide +kernel)) (fun _ _ _ _ _ => (pg_name (i := 6) scLaw.nd rfl (Or.inl rfl))) (fun _ _ _ _ _ => pts_nil) (fun _ _ _ _ _ => (pe_make TB.m GB hr7 rfl TB.g bB .nil passL (pa_cons (pe_ix ix_tup (pv 6) pe_int (fun _ _ => rfl)) (pa_cons (pe_callTy call_list_of (by rfl) tl (by decide +kernel) (pa_cons (pe_ix ix_tup (pv 6) pe_int (fun _ _ => rfl)) pa_nil)) (pa_cons (pe_callTy call_list_of (by rfl) tl (by decide +kernel) (pa_cons (pe_ix ix_tup (pv 6) pe_int (fun _ _ => rfl)) pa_nil)) pa_nil))))))
      (pss_cons (ps_setLc (i := 7) (own := [("_law_one", 6)]) (g := gName 6) (tt := tYes) (te := tMake MB (spMak K C MB) [] E0 (tCons (tOp (rIxT K) (tVar 6) (tC (.int 0))) (tCons (tOp (rIxT K) (tVar 6) (tC (.int 1))) (tCons (tOp (rIxT K) (tVar 6) (tC (.int 2))) (tCons (tOp (rIxT K) (tVar 6) (tC (.int 3))) tNil))))) rfl scLaw.nd rfl rfl (sw_true rfl rfl rfl (by decide +kernel)) (pi_list (pe_dget hu (pv 4) pe_str (fun _ _ => rfl))) (blkOk_by (N := ["_law_script", "_law_k", "_law_s", "_law_left_out", "_law_m", "_law_bars_here", "_law_one", "_law_makings", "_law_rules", "_law_lists", "_law_others", "_law_scheme"]) (sc := defScope sLaw) (by decide +kernel)) (fun _ _ _ _ _ => (pg_name (i := 6) scLaw.nd rfl (Or.inl rfl))) (fun _ _ _ _ _ => pts_nil) (fun _ _ _ _ _ => (pe_make TM.m GM hr6 rfl TM.g bM .nil passL (pa_cons (pe_ix ix_tup (pv 6) pe_int (fun _ _ => rfl)) (pa_cons (pe_ix ix_tup (pv 6) pe_int (fun _ _ => rfl)) (pa_cons (pe_ix ix_tup (pv 6) pe_int (fun _ _ => rfl)) (pa_cons (pe_ix ix_tup (pv 6) pe_int (fun _ _ => rfl)) pa_nil)))))))
      (pss_cons (ps_setLc (i := 8) (own := [("_law_one", 6)]) (g := gName 6) (tt := tYes) (te := tMake RB (spRul K C RB) [] E0 (tCons (tOp (rIxT K) (tVar 6) (tC (.int 0))) (tCons (tOp (rIxT K) (tVar 6) (tC (.int 1))) (tCons (tOp (rIxT K) (tVar 6) (tC (.int 2))) (tCons (tOp (rIxT K) (tVar 6) (tC (.int 3))) (tCons (tOp (rIxT K) (tVar 6) (tC (.int 4))) tNil)))))) rfl scLaw.nd rfl rfl (sw_true rfl rfl rfl (by decide +kernel)) (pi_list (pe_dget hu (pv 4) pe_str (fun _ _ => rfl))) (blkOk_by (N := ["_law_script", "_law_k", "_law_s", "_law_left_out", "_law_m", "_law_bars_here", "_law_one", "_law_makings", "_law_rules", "_law_lists", "_law_others", "_law_scheme"]) (sc := defScope sLaw) (by decide +kernel)) (fun _ _ _ _ _ => (pg_name (i := 6) scLaw.nd rfl (Or.inl rfl))) (fun _ _ _ _ _ => pts_nil) (fun _ _ _ _ _ => (pe_make TR.m GR hr7 rfl TR.g bR .nil passL (pa_cons (pe_ix ix_tup (pv 6) pe_int (fun _ _ => rfl)) (pa_cons (pe_ix ix_tup (pv 6) pe_int (fun _ _ => rfl)) (pa_cons (pe_ix ix_tup (pv 6) pe_int (fun _ _ => rfl)) (pa_cons (pe_ix ix_tup (pv 6) pe_int (fun _ _ => rfl)) (pa_cons (pe_ix ix_tup (pv 6) pe_int (fun _ _ => rfl)) pa_nil))))))))
      (pss_cons (ps_set (i := 9) scLaw.nd rfl (Or.inl rfl) (pe_lst (pa_cons (pe_callTy call_list_of (by rfl) tl (by decide +kernel) (pa_cons (pe_dget hu (pv 4) pe_str (fun _ _ => rfl)) pa_nil)) (pa_cons (pe_callTy call_list_of (by rfl) tl (by decide +kernel) (pa_cons (pe_dget hu (pv 4) pe_str (fun _ _ => rfl)) pa_nil)) (pa_cons (pe_callTy call_list_of (by rfl) tl (by decide +kernel) (pa_cons (pv 7) pa_nil)) (pa_cons (pe_callTy call_list_of (by rfl) tl (by decide +kernel) (pa_cons (pv 8) pa_nil)) (pa_cons (pe_callTy call_list_of (by rfl) tl (by decide +kernel) (pa_cons (pv 5) pa_nil)) pa_nil)))))))
      (pss_cons (ps_set (i := 10) scLaw.nd rfl (Or.inl rfl) (pe_op op_cat (pe_op op_cat (pe_op op_cat (pe_call GN hr3 rfl DN.g DN.F.kp DN.b .nil pass0 (pa_cons (pv 2) (pa_cons pe_int pa_nil))) (pe_lst (pa_cons pe_str (pa_cons pe_str pa_nil)))) (pe_lc (own := [("_law_one", 6)]) (g := gName 6) (tt := tYes) (te := tFld K (tVar 6) "name") rfl scLaw.nd (pi_list (pv 8)) (blkOk_by (N := ["_law_script", "_law_k", "_law_s", "_law_left_out", "_law_m", "_law_bars_here", "_law_one", "_law_makings", "_law_rules", "_law_lists", "_law_others", "_law_scheme"]) (sc := defScope sLaw) (by decide +kernel)) (fun _ _ _ _ _ => (pg_name (i := 6) scLaw.nd rfl (Or.inl rfl))) (fun _ _ _ _ _ => pts_nil) (fun _ _ _ _ _ => (pe_fld (pv 6) rfl)))) (pe_lc (own := [("_law_one", 6)]) (g := gName 6) (tt := tYes) (te := tFld K (tVar 6) "name") rfl scLaw.nd (pi_list (pv 5)) (blkOk_by (N := ["_law_script", "_law_k", "_law_s", "_law_left_out", "_law_m", "_law_bars_here", "_law_one", "_law_makings", "_law_rules", "_law_lists", "_law_others", "_law_scheme"]) (sc := defScope sLaw) (by decide +kernel)) (fun _ _ _ _ _ => (pg_name (i := 6) scLaw.nd rfl (Or.inl rfl))) (fun _ _ _ _ _ => pts_nil) (fun _ _ _ _ _ => (pe_fld (pv 6) rfl)))))
      (pss_cons (ps_set (i := 11) scLaw.nd rfl (Or.inl rfl) (pe_make TC.m GS hr5 rfl TC.g bS .nil pass0 (pa_cons (pe_dget hu (pv 4) pe_str (fun _ _ => rfl)) (pa_cons (pe_dget hu (pv 4) pe_str (fun _ _ => rfl)) (pa_cons (pv 7) (pa_cons (pv 8) (pa_cons (pv 5) pa_nil)))))))
      (pss_cons (ps_if (PW.pt (pw_and (pt_cmpR (op_eqE hu) (pv 7) (pe_lst pa_nil) (nomark _)) (pw_and1 (pt_cmpR op_eq (pv 3) pe_int (nomark _))))) (pss_one (ps_set (i := 11) scLaw.nd rfl (Or.inl rfl) (pe_make TC.m GS hr5 rfl TC.g bS .nil pass0 (pa_cons (pe_dget hu (pv 4) pe_str (fun _ _ => rfl)) (pa_cons (pe_dget hu (pv 4) pe_str (fun _ _ => rfl)) (pa_cons pe_non (pa_cons (pv 8) (pa_cons (pv 5) pa_nil)))))))) pss_nil)
      (pss_cons (ps_if (PW.pt (pw_and (pt_cmpR (op_eqE hu) (pv 5) (pe_lst pa_nil) (nomark _)) (pw_and1 (pt_cmpR op_eq (pv 3) pe_int (nomark _))))) (pss_one (ps_set (i := 11) scLaw.nd rfl (Or.inl rfl) (pe_make TC.m GS hr5 rfl TC.g bS .nil pass0 (pa_cons (pe_dget hu (pv 4) pe_str (fun _ _ => rfl)) (pa_cons (pe_dget hu (pv 4) pe_str (fun _ _ => rfl)) (pa_cons (pv 7) (pa_cons (pv 8) (pa_cons pe_non pa_nil)))))))) pss_nil)
      (pss_cons (ps_if (pt_not (pt_val (pe_call GAs hr5 rfl DAs.g DAs.F.kp DAs.b .nil pass0 (pa_cons (pv 11) (pa_cons (pv 9) (pa_cons (pv 10) pa_nil)))))) (pss_one (ps_ret pe_bl)) pss_nil)
      (pss_cons (ps_for PassesOwn.never rfl (pi_list (pe_lst (pa_cons (pe_dget hu (pv 4) pe_str (fun _ _ => rfl)) (pa_cons (pe_dget hu (pv 4) pe_str (fun _ _ => rfl)) (pa_cons (pv 7) (pa_cons (pv 8) (pa_cons (pv 5) pa_nil))))))) (pg_name (i := 6) scLaw.nd rfl (Or.inl rfl)) (pss_cons (ps_expr (pe_bm PySem.F.plainAttrs_list PySem.F.slot_list_append PySem.F.type_list_append mt_append (pv 6) (pa_cons pe_str pa_nil)))
      (pss_one (ps_expr (pe_bm0 PySem.F.plainAttrs_list PySem.F.slot_list_reverse PySem.F.type_list_reverse mt_reverse (pv 6))))))
      (pss_one (ps_if (PW.pt (pw_or (pt_not (pt_val (pe_call GAs hr5 rfl DAs.g DAs.F.kp DAs.b .nil pass0 (pa_cons (pv 11) (pa_cons (pv 9) (pa_cons (pv 10) pa_nil)))))) (pw_or1 (pt_not (pt_val (pe_call GAs hr5 rfl DAs.g DAs.F.kp DAs.b .nil pass0 (pa_cons (pv 11) (pa_cons (pv 9) (pa_cons (pv 10) pa_nil))))))))) (pss_one (ps_ret pe_bl)) pss_nil))))))))))))))))
      (pss_one (ps_ret pe_bl))), ?_⟩
    refine ⟨_, rfl, a, _, rfl, .inl hA, _, _, rfl, rfl, _, _, rfl, _, rfl, by split <;> omega, by rw [List.length_map]; split <;> omega, ?_⟩
    refine for_range (n := _) (fun i σ H' => SqL K H' a (ns.map V.int) ∧ ∃ u1 u2 u3 u4 u5 u6 u7 u8 u9 u10 u11, σ = [some (.ref a), u1, u2, u3, u4, u5, u6, u7, u8, u9, u10, u11]) ⟨hA, _, _, _, _, _, _, _, _, _, _, _, rfl⟩ ?_ ?_
    · rintro i σ H0 hi ⟨hA0, u1, u2, u3, u4, u5, u6, u7, u8, u9, u10, u11, rfl⟩
      dsimp only [gName, List.set_cons_succ, List.set_cons_zero]
      refine ⟨_, rfl, _, rfl, a, ns, i, by rw [Int.zero_add]; rfl, hA0, fun ci => ⟨ci, rfl, fun p H1 hp S1 st1 => ?_⟩⟩
      dsimp only [List.set_cons_succ, List.set_cons_zero]
      refine ⟨_, rfl, p, 3, rfl, st1, by decide, by decide, fun lo' H2 g0 g1 B2 st2 => ?_⟩
      dsimp only [List.set_cons_succ, List.set_cons_zero]
      refine ⟨_, rfl, p, 4, 4, rfl, st2, by decide, by decide, by decide, by decide, fun m H3 ss ws ms rs ok m0 B3 st3 md3 => ?_⟩
      dsimp only [List.set_cons_succ, List.set_cons_zero]
      have SA : Same H0 H3 := But.same hp S1 (B2.trans B3)
      refine ⟨_, rfl, _, rfl, p, m, ss, ws, ms, rs, rfl, st3, md3, ok, fun lb H4 xs ps lb0 B4 st4 hlb axs bok => ⟨lb, rfl, ⟨_, SqL.of hlb⟩, fun D5 hD5 => ?_⟩⟩
      have SB : Same H0 H4 := But.same hp SA B4
      refine lc_list (K := K) (a := lb) (xs := xs.map V.ref) (fun i H' => Same H4 H' ∧ ∃ ys : List Addr, H' D5 = some (.lst (ys.map V.ref)) ∧ AllAt (BrAt K BB H') ys (ps.take i)) ⟨Same.upd hD5, [], upd_same, True.intro⟩ (fun i H' _ h => SqL.of (h.1 _ _ hlb)) ?_ ?_
      · rintro j v H5 hv ⟨S5, ys, hy, al⟩
        obtain ⟨b, pt, rfl, hpt, hmb⟩ := axs.get hv
        have hmem : pt ∈ ps := List.mem_of_getElem? hpt
        obtain ⟨lv, lc, us, qs, q1, q2, q3, q4, q5⟩ := hmb.kp (Same.kp S5)
        refine ⟨rfl, ?_⟩
        refine ⟨_, rfl, b, _, 0, _, rfl, rfl, SqT.of q1, atI_nat (j := 0) rfl, _, rfl, b, _, 1, _, rfl, rfl, SqT.of q1, atI_nat (j := 1) rfl, lv, _, rfl, .inl (SqL.of q2), fun lv' hlv => ?_⟩
        have T1 : Same H5 (upd H5 lv' (.lst (us.map V.ref))) := Same.upd hlv
        refine ⟨_, rfl, b, _, 2, _, rfl, rfl, SqT.of (T1 _ _ q1), atI_nat (j := 2) rfl, lc, _, rfl, .inl (SqL.of (T1 _ _ q4)), fun lc' hlc => ?_⟩
        have T2 : Same (upd H5 lv' (.lst (us.map V.ref))) (upd (upd H5 lv' (.lst (us.map V.ref))) lc' (.lst (qs.map V.ref))) := Same.upd hlc
        have e1 := T2 _ _ (upd_same (H := H5) (a := lv') (o := .lst (us.map V.ref)))
        have e2 : (upd (upd H5 lv' (.lst (us.map V.ref))) lc' (.lst (qs.map V.ref))) lc' = some (.lst (qs.map V.ref)) := upd_same
        have T12 := T1.trans T2
        generalize upd (upd H5 lv' (.lst (us.map V.ref))) lc' (.lst (qs.map V.ref)) = H6 at T12 e1 e2
        refine bar_new (SqL.of e1) (q3.same T12) (SqL.of e2) (q5.same T12) (bok.ok pt hmem).pt ((bok.ok pt hmem).texts ok.sd ok.wd) fun x H7 nx S7 hat => ?_
        have hD7 := S7 _ _ (T12 _ _ hy)
        refine ⟨_, hD7, ?_, fun b o e => ?_, ys ++ [x], ?_, ?_⟩
        · have q := al.len
          have b3 := bok.ln
          rw [List.length_take] at q
          rw [List.length_map]
          exact Nat.lt_of_le_of_lt (show _ ≤ 1000 by omega) (by decide)
        · rw [upd_ne (ne_of_none e hD5)]
          exact S7 _ _ (T12 _ _ (S5 _ _ e))
        · rw [upd_same, List.map_append]
          rfl
        · rw [List.take_add_one, hpt]
          exact AllAt.append (al.imp fun _ _ q => ((q.same T12).same S7).put hD7) ⟨hat.put hD7, True.intro⟩
      rintro H5 ⟨S5, cs, hD5', ab5⟩
      rw [List.length_map, axs.len, List.take_length] at ab5
      dsimp only [gName, List.set_cons_succ, List.set_cons_zero]
      -- makings
      have k35 : Kp H3 H5 := (B4.kp st3).trans (Same.kp S5)
      obtain ⟨l1, l2, l3, l4, as0, bs0, h0, h1, h2, h3, h4, h5, h6⟩ := md3.kp k35
      have dgS : ∀ {H' : Hp}, Same H5 H' → DGet H' m (.str "sorts") (some (.ref l1)) := fun {H'} h => md4_s l1 l2 l3 l4 ▸ DGet.k (k := kS) (h _ _ h0)
      have dgW : ∀ {H' : Hp}, Same H5 H' → DGet H' m (.str "words") (some (.ref l2)) := fun {H'} h => md4_w l1 l2 l3 l4 ▸ DGet.k (k := kW) (h _ _ h0)
      have dgM : ∀ {H' : Hp}, Same H5 H' → DGet H' m (.str "makings") (some (.ref l3)) := fun {H'} h => md4_m l1 l2 l3 l4 ▸ DGet.k (k := kM) (h _ _ h0)
      have dgR : ∀ {H' : Hp}, Same H5 H' → DGet H' m (.str "rules") (some (.ref l4)) := fun {H'} h => md4_r l1 l2 l3 l4 ▸ DGet.k (k := kR) (h _ _ h0)
      refine ⟨_, rfl, m, _, rfl, dgM (Same.refl H5), l3, rfl, ⟨_, SqL.of h3⟩, fun D6 hD6 => ?_⟩
      refine lc_list (K := K) (a := l3) (xs := as0.map V.ref) (fun i H' => Same H5 H' ∧ ∃ xs : List Addr, H' D6 = some (.lst (xs.map V.ref)) ∧ AllAt (MkAt K MB H') xs (ms.take i)) ⟨Same.upd hD6, [], upd_same, True.intro⟩ (fun i H' _ h => SqL.of (h.1 _ _ h3)) ?_ ?_
      · rintro j v H6 hv ⟨S6, ys, hy, al⟩
        obtain ⟨b, mk, rfl, hmk, ld, lu, q1, q2, q3⟩ := h4.get hv
        have hmem : mk ∈ ms := List.mem_of_getElem? hmk
        have q1 := S6 _ _ q1
        refine ⟨rfl, ?_⟩
        refine ⟨_, rfl, b, _, 0, _, rfl, rfl, SqT.of q1, atI_nat (j := 0) rfl, _, rfl, b, _, 1, _, rfl, rfl, SqT.of q1, atI_nat (j := 1) rfl, _, rfl, b, _, 2, _, rfl, rfl, SqT.of q1, atI_nat (j := 2) rfl, _, rfl, b, _, 3, _, rfl, rfl, SqT.of q1, atI_nat (j := 3) rfl, ?_⟩
        obtain ⟨sd, su⟩ := ok.mi.sb mk hmem
        have w3 := ok.w3
        refine mak_new (SqL.of (S6 _ _ q2)) (SqL.of (S6 _ _ q3)) (Nat.le_trans sd.length_le (by omega)) (Nat.le_trans su.length_le (by omega)) (noTw_of (List.Pairwise.sublist sd ok.wd.nd)) (noTw_of (List.Pairwise.sublist su ok.wd.nd)) (ok.mkTexts hmem) fun x H7 nx S7 hat => ?_
        have hD7 := S7 _ _ hy
        refine ⟨_, hD7, ?_, fun b o e => ?_, ys ++ [x], ?_, ?_⟩
        · have q := al.len
          have ln := ok.mi.ln
          have s4 := ok.s4
          rw [List.length_take] at q
          rw [List.length_map]
          exact Nat.lt_of_le_of_lt (show _ ≤ 1000 by omega) (by decide)
        · rw [upd_ne (ne_of_none e hD6)]
          exact S7 _ _ (S6 _ _ e)
        · rw [upd_same, List.map_append]
          rfl
        · rw [List.take_add_one, hmk]
          exact AllAt.append (al.imp fun _ _ q => (q.same S7).put hD7) ⟨hat.put hD7, True.intro⟩
      rintro H6 ⟨S6, as, hD6', am6⟩
      rw [List.length_map, h4.len, List.take_length] at am6
      dsimp only [gName, List.set_cons_succ, List.set_cons_zero]
      -- rules
      refine ⟨_, rfl, m, _, rfl, dgR S6, l4, rfl, ⟨_, SqL.of (S6 _ _ h5)⟩, fun D7 hD7 => ?_⟩
      refine lc_list (K := K) (a := l4) (xs := bs0.map V.ref) (fun i H' => Same H6 H' ∧ ∃ xs : List Addr, H' D7 = some (.lst (xs.map V.ref)) ∧ AllAt (RlAt K RB H') xs (rs.take i)) ⟨Same.upd hD7, [], upd_same, True.intro⟩ (fun i H' _ h => SqL.of (h.1 _ _ (S6 _ _ h5))) ?_ ?_
      · rintro j v H7 hv ⟨S7, ys, hy, al⟩
        obtain ⟨b, r, rfl, hrl, lv, lc, g, us, qs, q1, q2, q3, q4, q5, q6⟩ := h6.get hv
        have hmem : r ∈ rs := List.mem_of_getElem? hrl
        have S67 := S6.trans S7
        have q1 := S67 _ _ q1
        refine ⟨rfl, ?_⟩
        refine ⟨_, rfl, b, _, 0, _, rfl, rfl, SqT.of q1, atI_nat (j := 0) rfl, _, rfl, b, _, 1, _, rfl, rfl, SqT.of q1, atI_nat (j := 1) rfl, _, rfl, b, _, 2, _, rfl, rfl, SqT.of q1, atI_nat (j := 2) rfl, _, rfl, b, _, 3, _, rfl, rfl, SqT.of q1, atI_nat (j := 3) rfl, _, rfl, b, _, 4, _, rfl, rfl, SqT.of q1, atI_nat (j := 4) rfl, ?_⟩
        refine rul_new (SqL.of (S67 _ _ q2)) (q3.same S67) (SqL.of (S67 _ _ q4)) (q5.same S67) (S67 _ _ q6) (ok.rk r hmem).pt (ok.rlTexts hmem) fun x H8 nx S8 hat => ?_
        have hD8 := S8 _ _ hy
        refine ⟨_, hD8, ?_, fun b o e => ?_, ys ++ [x], ?_, ?_⟩
        · have q := al.len
          have r8 := ok.r8
          rw [List.length_take] at q
          rw [List.length_map]
          exact Nat.lt_of_le_of_lt (show _ ≤ 1000 by omega) (by decide)
        · rw [upd_ne (ne_of_none e hD7)]
          exact S8 _ _ (S7 _ _ e)
        · rw [upd_same, List.map_append]
          rfl
        · rw [List.take_add_one, hrl]
          exact AllAt.append (al.imp fun _ _ q => (q.same S8).put hD8) ⟨hat.put hD8, True.intro⟩
      rintro H7 ⟨S7, bs, hD7', ar7⟩
      rw [List.length_map, h6.len, List.take_length] at ar7
      dsimp only [gName, List.set_cons_succ, List.set_cons_zero]
      have S57 := S6.trans S7
      have S47 := S5.trans S57
      have pt7 : Parts K MB RB BB H7 as bs cs ms rs ps := ⟨am6.imp fun _ _ q => q.same S7, ar7, ab5.imp fun _ _ q => q.same S57⟩
      have h17 := S57 _ _ h1
      have h27 := S57 _ _ h2
      have hD57 := S57 _ _ hD5'
      have hD67 := S7 _ _ hD6'
      have S07 : Same H0 H7 := SB.trans S47
      have st7 := st4.same S47
      have f5 : H0 D5 = none := SB.free hD5
      have f6 : H0 D6 = none := (SB.trans S5).free hD6
      have f7 : H0 D7 = none := (SB.trans (S5.trans S6)).free hD7
      -- copies of the five lists
      refine ⟨_, rfl, m, _, rfl, dgS S57, l1, _, rfl, .inl (SqL.of h17), fun a1 ha1 => ?_⟩
      have T1 : Same H7 (upd H7 a1 (.lst (ss.map V.str))) := Same.upd ha1
      have e1 : (upd H7 a1 (.lst (ss.map V.str))) a1 = some (.lst (ss.map V.str)) := upd_same
      generalize upd H7 a1 (.lst (ss.map V.str)) = J1 at T1 e1
      refine ⟨_, rfl, m, _, rfl, dgW (S57.trans T1), l2, _, rfl, .inl (SqL.of (T1 _ _ h27)), fun a2 ha2 => ?_⟩
      have T2 : Same J1 (upd J1 a2 (.lst (ws.map V.str))) := Same.upd ha2
      have e2 : (upd J1 a2 (.lst (ws.map V.str))) a2 = some (.lst (ws.map V.str)) := upd_same
      generalize upd J1 a2 (.lst (ws.map V.str)) = J2 at T2 e2
      have U2 := T1.trans T2
      refine ⟨_, rfl, D6, _, rfl, .inl (SqL.of (U2 _ _ hD67)), fun a3 ha3 => ?_⟩
      have T3 : Same J2 (upd J2 a3 (.lst (as.map V.ref))) := Same.upd ha3
      have e3 : (upd J2 a3 (.lst (as.map V.ref))) a3 = some (.lst (as.map V.ref)) := upd_same
      generalize upd J2 a3 (.lst (as.map V.ref)) = J3 at T3 e3
      have U3 := U2.trans T3
      refine ⟨_, rfl, D7, _, rfl, .inl (SqL.of (U3 _ _ hD7')), fun a4 ha4 => ?_⟩
      have T4 : Same J3 (upd J3 a4 (.lst (bs.map V.ref))) := Same.upd ha4
      have e4 : (upd J3 a4 (.lst (bs.map V.ref))) a4 = some (.lst (bs.map V.ref)) := upd_same
      generalize upd J3 a4 (.lst (bs.map V.ref)) = J4 at T4 e4
      have U4 := U3.trans T4
      refine ⟨_, rfl, D5, _, rfl, .inl (SqL.of (U4 _ _ hD57)), fun a5 ha5 => ?_⟩
      have T5 : Same J4 (upd J4 a5 (.lst (cs.map V.ref))) := Same.upd ha5
      have e5 : (upd J4 a5 (.lst (cs.map V.ref))) a5 = some (.lst (cs.map V.ref)) := upd_same
      generalize upd J4 a5 (.lst (cs.map V.ref)) = J5 at T5 e5
      have U5 := U4.trans T5
      refine ⟨by show 5 ≤ sizeLine; decide, fun ll hll => ?_⟩
      dsimp only [gName, List.set_cons_succ, List.set_cons_zero]
      have T6 : Same J5 (upd J5 ll (.lst [.ref a1, .ref a2, .ref a3, .ref a4, .ref a5])) := Same.upd hll
      have e6 : (upd J5 ll (.lst [.ref a1, .ref a2, .ref a3, .ref a4, .ref a5])) ll = some (.lst ([a1, a2, a3, a4, a5].map V.ref)) := upd_same
      generalize upd J5 ll (.lst [.ref a1, .ref a2, .ref a3, .ref a4, .ref a5]) = J6 at T6 e6
      have U6 := U5.trans T6
      -- what stands in H7 is none of the new ones
      have new7 : ∀ {l : Addr} {o : HO}, H7 l = some o → l ∉ [ll, a1, a2, a3, a4, a5] := fun {l o} h hm => by
        simp only [List.mem_cons, List.not_mem_nil, or_false] at hm
        rcases hm with rfl | rfl | rfl | rfl | rfl | rfl
        · rw [U5 _ _ h] at hll; cases hll
        · rw [h] at ha1; cases ha1
        · rw [T1 _ _ h] at ha2; cases ha2
        · rw [U2 _ _ h] at ha3; cases ha3
        · rw [U3 _ _ h] at ha4; cases ha4
        · rw [U4 _ _ h] at ha5; cases ha5
      have st6 := st7.same U6
      -- the names to ask of
      refine ⟨_, rfl, p, 3, rfl, st6, by decide, by decide, fun zs ln J7 n7 n7p B7 st7' hz7 zl znd znm => ?_⟩
      have k67 := B7.kp st6
      refine ⟨by show 2 ≤ sizeLine; decide, fun lq hlq => ?_⟩
      have R1 : Same J7 (upd J7 lq (.lst [.str "", .str "A b"])) := Same.upd hlq
      have r1 : (upd J7 lq (.lst [.str "", .str "A b"])) lq = some (.lst [.str "", .str "A b"]) := upd_same
      generalize upd J7 lq (.lst [.str "", .str "A b"]) = J8 at R1 r1
      have hz8 := R1 _ _ hz7
      refine ⟨ln, lq, _, _, rfl, rfl, hz8, r1, ?_, fun o1 ho1 => ?_⟩
      · rw [List.length_map]
        exact Nat.le_trans (show _ ≤ 1000 by show zs.length + 2 ≤ 1000; omega) (by decide)
      have R2 : Same J8 (upd J8 o1 (.lst (zs.map V.str ++ [.str "", .str "A b"]))) := Same.upd ho1
      have r2 : (upd J8 o1 (.lst (zs.map V.str ++ [.str "", .str "A b"]))) o1 = some (.lst ((zs ++ twoS).map V.str)) := by
        rw [upd_same, List.map_append]
        rfl
      generalize upd J8 o1 (.lst (zs.map V.str ++ [.str "", .str "A b"])) = J9 at R2 r2
      have k79 : Kp H7 J9 := ((Same.kp U6).trans k67).trans (Same.kp (R1.trans R2))
      have pt9 := pt7.kp k79
      have hD79 := k79 _ _ ns_refs hD7'
      have hD59 := k79 _ _ ns_refs hD57
      have hD69 := k79 _ _ ns_refs hD67
      refine ⟨_, rfl, D7, rfl, ⟨_, SqL.of hD79⟩, fun o2 ho2 => ?_⟩
      refine lc_list (K := K) (a := D7) (xs := bs.map V.ref) (fun j H' => Same J9 H' ∧ H' o2 = some (.lst (((rs.take j).map (fun r : RlD => r.p.nm)).map V.str))) ⟨Same.upd ho2, upd_same⟩ (fun j H' _ p => SqL.of (p.1 _ _ hD79)) ?_ ?_
      · rintro j y G hy ⟨SG', hG⟩
        obtain ⟨b, r, rfl, hri, hat⟩ := pt9.ar.get hy
        obtain ⟨d, fs, k0, kn⟩ := rul_nm (hat.same SG')
        refine ⟨rfl, _, rfl, b, RB, d, _, _, rfl, k0, TR.cl, TR.nn, kn, _, hG, ?_, fun c o e => ?_, ?_⟩
        · have r8 := ok.r8
          rw [List.length_map, List.length_map, List.length_take]
          exact Nat.lt_of_le_of_lt (show _ ≤ 1000 by omega) (by decide)
        · rw [upd_ne (ne_of_none e ho2)]
          exact SG' _ _ e
        · rw [upd_same, List.take_add_one, hri, List.map_append, List.map_append]
          rfl
      rintro J10 ⟨R3, r3⟩
      rw [List.length_map, pt9.ar.len, List.take_length] at r3
      refine ⟨o1, o2, _, _, rfl, rfl, R3 _ _ r2, r3, ?_, fun o3 ho3 => ?_⟩
      · rw [List.length_map, List.length_map, List.length_map, List.length_append]
        have r8 := ok.r8
        exact Nat.le_trans (show _ ≤ 1000 by show zs.length + 2 + rs.length ≤ 1000; omega) (by decide)
      have R4 : Same J10 (upd J10 o3 (.lst ((zs ++ twoS).map V.str ++ (rs.map (fun r : RlD => r.p.nm)).map V.str))) := Same.upd ho3
      have r4 : (upd J10 o3 (.lst ((zs ++ twoS).map V.str ++ (rs.map (fun r : RlD => r.p.nm)).map V.str))) o3 = some (.lst ((zs ++ twoS ++ rs.map (fun r : RlD => r.p.nm)).map V.str)) := by
        rw [upd_same, List.map_append (l₁ := zs ++ twoS)]
      generalize upd J10 o3 (.lst ((zs ++ twoS).map V.str ++ (rs.map (fun r : RlD => r.p.nm)).map V.str)) = J11 at R4 r4
      have R34 := R3.trans R4
      have pt11 := pt9.same R34
      have hD511 := R34 _ _ hD59
      refine ⟨_, rfl, D5, rfl, ⟨_, SqL.of hD511⟩, fun o4 ho4 => ?_⟩
      refine lc_list (K := K) (a := D5) (xs := cs.map V.ref) (fun j H' => Same J11 H' ∧ H' o4 = some (.lst (((ps.take j).map (fun b : PtD => b.nm)).map V.str))) ⟨Same.upd ho4, upd_same⟩ (fun j H' _ p => SqL.of (p.1 _ _ hD511)) ?_ ?_
      · rintro j y G hy ⟨SG', hG⟩
        obtain ⟨b, r, rfl, hri, hat⟩ := pt11.ab.get hy
        obtain ⟨d, fs, k0, kn⟩ := bar_nm (hat.same SG')
        refine ⟨rfl, _, rfl, b, BB, d, _, _, rfl, k0, TB.cl, TB.nn, kn, _, hG, ?_, fun c o e => ?_, ?_⟩
        · have b3 := bok.ln
          rw [List.length_map, List.length_map, List.length_take]
          exact Nat.lt_of_le_of_lt (show _ ≤ 1000 by omega) (by decide)
        · rw [upd_ne (ne_of_none e ho4)]
          exact SG' _ _ e
        · rw [upd_same, List.take_add_one, hri, List.map_append, List.map_append]
          rfl
      rintro J12 ⟨R5, r5⟩
      rw [List.length_map, pt11.ab.len, List.take_length] at r5
      refine ⟨o3, o4, _, _, rfl, rfl, R5 _ _ r4, r5, ?_, fun lo hlo => ?_⟩
      · rw [List.length_map, List.length_map, List.length_map, List.length_append, List.length_append, List.length_map]
        have r8 := ok.r8
        have b3 := bok.ln
        exact Nat.le_trans (show _ ≤ 1000 by show zs.length + 2 + rs.length + ps.length ≤ 1000; omega) (by decide)
      dsimp only [gName, List.set_cons_succ, List.set_cons_zero]
      have R6 : Same J12 (upd J12 lo (.lst ((zs ++ twoS ++ rs.map (fun r : RlD => r.p.nm)).map V.str ++ (ps.map (fun b : PtD => b.nm)).map V.str))) := Same.upd hlo
      have r6 : (upd J12 lo (.lst ((zs ++ twoS ++ rs.map (fun r : RlD => r.p.nm)).map V.str ++ (ps.map (fun b : PtD => b.nm)).map V.str))) lo = some (.lst ((zs ++ twoS ++ rs.map (fun r : RlD => r.p.nm) ++ ps.map (fun b : PtD => b.nm)).map V.str)) := by
        rw [upd_same, List.map_append (l₁ := zs ++ twoS ++ rs.map (fun r : RlD => r.p.nm))]
      generalize upd J12 lo (.lst ((zs ++ twoS ++ rs.map (fun r : RlD => r.p.nm)).map V.str ++ (ps.map (fun b : PtD => b.nm)).map V.str)) = J13 at R6 r6
      have R36 := (R34.trans R5).trans R6
      have k13 : Kp H7 J13 := k79.trans (Same.kp R36)
      have pt13 := pt9.same R36
      have ask : AskOk ss ws ms rs ps (zs ++ twoS ++ rs.map (fun r : RlD => r.p.nm) ++ ps.map (fun b : PtD => b.nm)) := by
        have s4 := ok.s4
        have w3 := ok.w3
        have ln := ok.mi.ln
        have r8 := ok.r8
        have b3 := bok.ln
        refine ⟨ok.rd.nd, bok.nd, fun r hr' => (ok.rk r hr').pts ok.sd ok.wd, fun b hb => (bok.ok b hb).pts ok.sd ok.wd, fun z hz => ?_, by omega, by omega, by omega, by omega, by omega⟩
        rcases List.mem_append.mp hz with hz | hz
        · rcases List.mem_append.mp hz with hz | hz
          · rcases List.mem_append.mp hz with hz | hz
            · exact (znm z hz).1.ok
            · rcases List.mem_cons.mp hz with rfl | hz
              · exact okS_e
              · rw [List.mem_singleton.mp hz]
                exact okS_ab
          · exact ok.rd.ok hz
        · obtain ⟨b, hb, rfl⟩ := List.mem_map.mp hz
          exact (bok.ok b hb).nm.1.ok
      generalize zs ++ twoS ++ rs.map (fun r : RlD => r.p.nm) ++ ps.map (fun b : PtD => b.nm) = os at r6 ask
      -- the five lists that are spoilt behind
      have h113 := k13 _ _ ns_strs h17
      have h213 := k13 _ _ ns_strs h27
      have hD513 := k13 _ _ ns_refs hD57
      have hD613 := k13 _ _ ns_refs hD67
      have hD713 := k13 _ _ ns_refs hD7'
      have h013 := k13 _ _ ns_dK (S57 _ _ h0)
      have LL : ∀ l ∈ [l1, l2, D6, D7, D5], ∃ ys, H7 l = some (.lst ys) ∧ J13 l = some (.lst ys) ∧ ys.length ≤ 900 := fun l hl => by
        have s4 := ok.s4
        have w3 := ok.w3
        have ln := ok.mi.ln
        have r8 := ok.r8
        have b3 := bok.ln
        have q1 := pt7.am.len
        have q2 := pt7.ar.len
        have q3 := pt7.ab.len
        simp only [List.mem_cons, List.not_mem_nil, or_false] at hl
        rcases hl with rfl | rfl | rfl | rfl | rfl
        · exact ⟨_, h17, h113, by rw [List.length_map]; omega⟩
        · exact ⟨_, h27, h213, by rw [List.length_map]; omega⟩
        · exact ⟨_, hD67, hD613, by rw [List.length_map]; omega⟩
        · exact ⟨_, hD7', hD713, by rw [List.length_map]; omega⟩
        · exact ⟨_, hD57, hD513, by rw [List.length_map]; omega⟩
      have lf13 : LF [l1, l2, D6, D7, D5] J13 ll lo a1 a2 a3 a4 a5 ss ws os as bs cs := by
        have kk' : Kp J6 J13 := (k67.trans (Same.kp (R1.trans R2))).trans (Same.kp R36)
        have kr : ∀ {b : Addr} {ys : List Addr}, J6 b = some (.lst (ys.map V.ref)) → J13 b = some (.lst (ys.map V.ref)) := fun h => kk' _ _ ns_refs h
        have ks : ∀ {b : Addr} {ys : List Str}, J6 b = some (.lst (ys.map V.str)) → J13 b = some (.lst (ys.map V.str)) := fun h => kk' _ _ ns_strs h
        refine ⟨fun l hl hm => ?_, kr e6, ks (T6 _ _ (T5 _ _ (T4 _ _ (T3 _ _ (T2 _ _ e1))))), ks (T6 _ _ (T5 _ _ (T4 _ _ (T3 _ _ e2)))), kr (T6 _ _ (T5 _ _ (T4 _ _ e3))), kr (T6 _ _ (T5 _ _ e4)), kr (T6 _ _ e5), r6⟩
        obtain ⟨ys, y7, y13, _⟩ := LL l hl
        by_cases q : l = lo
        · have : J12 l = some (.lst ys) := by
            have k12 : Kp H7 J12 := k79.trans (Same.kp (R34.trans R5))
            simp only [List.mem_cons, List.not_mem_nil, or_false] at hl
            rcases hl with rfl | rfl | rfl | rfl | rfl
            · rw [h17] at y7; cases y7; exact k12 _ _ ns_strs h17
            · rw [h27] at y7; cases y7; exact k12 _ _ ns_strs h27
            · rw [hD67] at y7; cases y7; exact k12 _ _ ns_refs hD67
            · rw [hD7'] at y7; cases y7; exact k12 _ _ ns_refs hD7'
            · rw [hD57] at y7; cases y7; exact k12 _ _ ns_refs hD57
          rw [q, hlo] at this
          cases this
        · refine new7 y7 ?_
          simp only [List.mem_cons, List.not_mem_nil, or_false] at hm ⊢
          rcases hm with h | h | h | h | h | h | h
          · exact .inl h
          · exact absurd h q
          · exact .inr (.inl h)
          · exact .inr (.inr (.inl h))
          · exact .inr (.inr (.inr (.inl h)))
          · exact .inr (.inr (.inr (.inr (.inl h))))
          · exact .inr (.inr (.inr (.inr (.inr h))))
      -- the script stays
      have ka : ∀ o, H0 a = some o → J13 a = some o := fun o h => R36 _ _ (R2 _ _ (R1 _ _ (B7 _ _ (ne_of_none h hp) (U6 _ _ (S07 _ _ h)))))
      obtain ⟨PA, pa13, paS, paQ, paU⟩ : ∃ PA : Hp → Prop, PA J13 ∧ (∀ {G G' : Hp}, Same G G' → PA G → PA G') ∧ (∀ {G : Hp}, PA G → SqL K G a (ns.map V.int)) ∧ ∀ {G : Hp} {l : Addr} {o : HO}, l ∈ [l1, l2, D6, D7, D5] → PA G → PA (upd G l o) := by
        have ist : ∀ {zs : List Str}, 1 ≤ zs.length → ns.map V.int = zs.map V.str → False := fun {zs} h e => by
          cases zs with
          | nil => simp at h
          | cons z r =>
            cases ns with
            | nil => simp at e
            | cons n m => simp at e
        rcases hA0 with (h | ⟨ob, h⟩) | h
        · have na : ∀ l ∈ [l1, l2, D6, D7, D5], a ≠ l := fun l hl q => by
            subst q
            have h7 := S07 _ _ h
            simp only [List.mem_cons, List.not_mem_nil, or_false] at hl
            rcases hl with rfl | rfl | rfl | rfl | rfl
            · rw [h17] at h7; exact ist ok.s1 (HO.lst.inj (Option.some.inj h7)).symm
            · rw [h27] at h7; exact ist ok.w1 (HO.lst.inj (Option.some.inj h7)).symm
            · rw [f6] at h; cases h
            · rw [f7] at h; cases h
            · rw [f5] at h; cases h
          exact ⟨fun G => G a = some (.lst (ns.map V.int)), ka _ h, fun s h => s _ _ h, fun h => SqL.of h, fun hl h => (upd_ne (na _ hl)).trans h⟩
        · have na : ∀ l ∈ [l1, l2, D6, D7, D5], a ≠ l := fun l hl q => by
            subst q
            obtain ⟨ys, y7, _⟩ := LL _ hl
            rw [S07 _ _ h] at y7
            cases y7
          exact ⟨fun G => G a = some (.frz ob (.lst (ns.map V.int))), ka _ h, fun s h => s _ _ h, fun h => .inl (.inr ⟨ob, h⟩), fun hl h => (upd_ne (na _ hl)).trans h⟩
        · exact ⟨fun _ => True, True.intro, fun _ _ => True.intro, fun _ => .inr h, fun _ _ => True.intro⟩
      -- schemes
      have dgS' : ∀ {H' : Hp}, Same J13 H' → DGet H' m (.str "sorts") (some (.ref l1)) := fun {H'} h => md4_s l1 l2 l3 l4 ▸ DGet.k (k := kS) (h _ _ h013)
      have dgW' : ∀ {H' : Hp}, Same J13 H' → DGet H' m (.str "words") (some (.ref l2)) := fun {H'} h => md4_w l1 l2 l3 l4 ▸ DGet.k (k := kW) (h _ _ h013)
      have mkS : ∀ {J : Hp} {vm vb : V} {R : Addr → Hp → Prop} {E : XK}, Same J13 J → Own K J vm (as.map V.ref) → Own K J vb (cs.map V.ref) → (∀ x J', Same J J' → SG S [l1, l2, D6, D7, D5] J' x ss ws as bs cs → R x J') →
          ∀ x dx, J x = none → J dx = none → dx ≠ x → spSch K S MB RB BB [.ref x, .ref l1, .ref l2, vm, .ref D7, vb] (upd (upd J dx (.own x)) x (.ins S dx [])) (fun v H2 => v = .non ∧ R x H2) E := fun {J vm vb R E} sJ om ob kR x dx nx ndx ne => by
        refine ⟨J, x, dx, l1, l2, vm, .ref D7, vb, ss, ws, as, bs, cs, ms, rs, ps, rfl, same_make nx ndx, nx, upd_same, SqL.of (sJ _ _ h113), SqL.of (sJ _ _ h213), om, .inr ⟨D7, rfl, SqL.of (sJ _ _ hD713)⟩, ob, pt13.same sJ, ok.schB bok, fun J' sJ' hf => ⟨rfl, kR x J' sJ' (hf.sg fun l hl => ?_)⟩⟩
        obtain ⟨ys, _, y13, _⟩ := LL l hl
        exact ⟨ys, sJ _ _ y13⟩
      have omD : ∀ {J : Hp}, Same J13 J → Own K J (.ref D6) (as.map V.ref) := fun sJ => .inr ⟨D6, rfl, SqL.of (sJ _ _ hD613)⟩
      have obD : ∀ {J : Hp}, Same J13 J → Own K J (.ref D5) (cs.map V.ref) := fun sJ => .inr ⟨D5, rfl, SqL.of (sJ _ _ hD513)⟩
      refine ⟨_, rfl, m, _, rfl, dgS' (Same.refl _), _, rfl, m, _, rfl, dgW' (Same.refl _), _, rfl, _, rfl, _, rfl, mkS (Same.refl _) (omD (Same.refl _)) (obD (Same.refl _)) fun x J14 S14 sg14 => ?_⟩
      dsimp only [gName, List.set_cons_succ, List.set_cons_zero]
      refine cut1 (fun σ' H' => ∃ x', σ' = [some (.ref a), some (.int (0 + (i : Int))), some (.ref p), some (.int lo'), some (.ref m), some (.ref D5), u6, some (.ref D6), some (.ref D7), some (.ref ll), some (.ref lo), some (.ref x')] ∧ Same J13 H' ∧ SG S [l1, l2, D6, D7, D5] H' x' ss ws as bs cs) ?_ (fun R' fin => ?_)
      · rintro σ' J15 ⟨x, rfl, S15, sg15⟩
        refine cut1 (fun σ' H' => ∃ x', σ' = [some (.ref a), some (.int (0 + (i : Int))), some (.ref p), some (.int lo'), some (.ref m), some (.ref D5), u6, some (.ref D6), some (.ref D7), some (.ref ll), some (.ref lo), some (.ref x')] ∧ Same J13 H' ∧ SG S [l1, l2, D6, D7, D5] H' x' ss ws as bs cs) ?_ (fun R' fin => ?_)
        · rintro σ' J16 ⟨x, rfl, S16, sg16⟩
          have lf16 := lf13.same S16
          have pt16 := pt13.same S16
          refine ⟨_, rfl, _, rfl, _, rfl, x, ll, lo, a1, a2, a3, a4, a5, ss, ws, os, as, bs, cs, ms, rs, ps, rfl, sg16.weak, pt16, lf16.hl, lf16.h1, lf16.h2, lf16.h3, lf16.h4, lf16.h5, lf16.ho, ask, fun J17 S17 => ⟨_, rfl, iteF ?_⟩⟩
          have S1317 := S16.trans S17
          refine ⟨_, rfl, m, _, rfl, dgS' S1317, _, rfl, m, _, rfl, dgW' S1317, _, rfl, _, rfl, _, rfl, by show 5 ≤ sizeLine; decide, fun L hL => ?_⟩
          have T18 : Same J17 (upd J17 L (.lst [.ref l1, .ref l2, .ref D6, .ref D7, .ref D5])) := Same.upd hL
          have e18 : (upd J17 L (.lst [.ref l1, .ref l2, .ref D6, .ref D7, .ref D5])) L = some (.lst ([l1, l2, D6, D7, D5].map V.ref)) := upd_same
          generalize upd J17 L (.lst [.ref l1, .ref l2, .ref D6, .ref D7, .ref D5]) = J18 at T18 e18
          have S1318 := S1317.trans T18
          have nL : ∀ l ∈ [l1, l2, D6, D7, D5], l ≠ L := fun l hl q => by
            obtain ⟨ys, _, y13, _⟩ := LL l hl
            rw [q] at y13
            rw [S1317 _ _ y13] at hL
            cases hL
          refine ⟨L, rfl, ⟨_, SqL.of e18⟩, for_list (K := K) (a := L) (xs := [l1, l2, D6, D7, D5].map V.ref) (fun i' σ H' => PA H' ∧ H' L = some (.lst ([l1, l2, D6, D7, D5].map V.ref)) ∧ (∀ l ∈ [l1, l2, D6, D7, D5], ∃ ys, H' l = some (.lst ys) ∧ ys.length ≤ 900 + i') ∧ SG S [l1, l2, D6, D7, D5] H' x ss ws as bs cs ∧ Parts K MB RB BB H' as bs cs ms rs ps ∧ LF [l1, l2, D6, D7, D5] H' ll lo a1 a2 a3 a4 a5 ss ws os as bs cs ∧ ∃ v6, σ = [some (.ref a), some (.int (0 + (i : Int))), some (.ref p), some (.int lo'), some (.ref m), some (.ref D5), v6, some (.ref D6), some (.ref D7), some (.ref ll), some (.ref lo), some (.ref x)]) ⟨paS S1318 pa13, e18, fun l hl => ?_, sg16.same (S17.trans T18), pt13.same S1318, lf13.same S1318, _, rfl⟩ (fun i' σ H' _ h => SqL.of h.2.1) ?_ ?_⟩
          · obtain ⟨ys, _, y13, yl⟩ := LL l hl
            exact ⟨ys, S1318 _ _ y13, by omega⟩
          · rintro i' v σ G hv ⟨pa, hLG, aG, sgG, ptG, lfG, v6, rfl⟩
            obtain ⟨l, hl, rfl⟩ := map_ref_get hv
            have i5 : i' < 5 := (List.getElem?_eq_some_iff.mp hl).1
            have hm := List.mem_of_getElem? hl
            obtain ⟨ys, hy, hyl⟩ := aG l hm
            have nl := nL l hm
            dsimp only [gName, List.set_cons_succ, List.set_cons_zero]
            refine ⟨_, rfl, .inl ⟨rfl, _, SqL.of hy⟩, l, _, _, rfl, rfl, hy, Nat.lt_of_le_of_lt (show _ ≤ 1000 by omega) (by decide), ?_⟩
            have hy1 : (upd G l (.lst (ys ++ [.str "later"]))) l = some (.lst (ys ++ [.str "later"])) := upd_same
            refine ⟨_, rfl, .inl ⟨rfl, _, SqL.of hy1⟩, l, _, rfl, rfl, hy1, ?_⟩
            refine ⟨paU hm (paU hm pa), ?_, fun k hk => ?_, (sgG.put hm hy).put hm hy1, (ptG.put hy).put hy1, (lfG.put hm).put hm, _, rfl⟩
            · rw [upd_ne nl.symm, upd_ne nl.symm]
              exact hLG
            · by_cases q : k = l
              · rw [q]
                refine ⟨_, upd_same, ?_⟩
                rw [List.length_reverse, List.length_append]
                show _ + 1 ≤ _
                omega
              · obtain ⟨zs', hz', hzl'⟩ := aG k hk
                exact ⟨zs', by rw [upd_ne q, upd_ne q]; exact hz', by omega⟩
          rintro σ G ⟨pa, _, _, sgG, ptG, lfG, v6, rfl⟩
          refine ⟨_, rfl, _, rfl, _, rfl, x, ll, lo, a1, a2, a3, a4, a5, ss, ws, os, as, bs, cs, ms, rs, ps, rfl, sgG.weak, ptG, lfG.hl, lfG.h1, lfG.h2, lfG.h3, lfG.h4, lfG.h5, lfG.ho, ask, fun G1 SG1 => ⟨_, rfl, iteF ?_⟩⟩
          have lf1 := lfG.same SG1
          refine ⟨_, rfl, _, rfl, _, rfl, x, ll, lo, a1, a2, a3, a4, a5, ss, ws, os, as, bs, cs, ms, rs, ps, rfl, (sgG.same SG1).weak, ptG.same SG1, lf1.hl, lf1.h1, lf1.h2, lf1.h3, lf1.h4, lf1.h5, lf1.ho, ask, fun G2 SG2 => ⟨_, rfl, iteF ?_⟩⟩
          exact ⟨paQ (paS (SG1.trans SG2) pa), _, _, _, _, _, _, _, _, _, _, _, rfl⟩
        · refine ⟨_, rfl, Nat.zero_le _, fun e he => ?_⟩
          have T16 : Same J15 (upd J15 e (.lst [])) := Same.upd he
          have e16 : (upd J15 e (.lst [])) e = some (.lst []) := upd_same
          generalize upd J15 e (.lst []) = J16 at T16 e16
          have S16 := S15.trans T16
          refine ⟨D5, e, _, rfl, rfl, S16 _ _ hD513, e16, _, rfl, ?_⟩
          cases hcs : cs with
          | cons c cr => exact iteF (iteF (fin _ _ ⟨x, rfl, S16, sg15.same T16⟩))
          | nil =>
            refine iteT ⟨_, rfl, rfl, _, rfl, ite2 (fun _ => ?_) (fun _ => fin _ _ ⟨x, rfl, S16, sg15.same T16⟩)⟩
            refine ⟨_, rfl, m, _, rfl, dgS' S16, _, rfl, m, _, rfl, dgW' S16, _, rfl, _, rfl, mkS S16 (omD S16) (.inl ⟨rfl, by rw [hcs]; rfl⟩) fun x' J17 S17 sg17 => ?_⟩
            exact fin _ _ ⟨x', rfl, S16.trans S17, sg17⟩
      · refine ⟨_, rfl, Nat.zero_le _, fun e he => ?_⟩
        have T16 : Same J14 (upd J14 e (.lst [])) := Same.upd he
        have e16 : (upd J14 e (.lst [])) e = some (.lst []) := upd_same
        generalize upd J14 e (.lst []) = J16 at T16 e16
        have S16 := S14.trans T16
        refine ⟨D6, e, _, rfl, rfl, S16 _ _ hD613, e16, _, rfl, ?_⟩
        cases has : as with
        | cons c cr => exact iteF (iteF (fin _ _ ⟨x, rfl, S16, sg14.same T16⟩))
        | nil =>
          refine iteT ⟨_, rfl, rfl, _, rfl, ite2 (fun _ => ?_) (fun _ => fin _ _ ⟨x, rfl, S16, sg14.same T16⟩)⟩
          refine ⟨_, rfl, m, _, rfl, dgS' S16, _, rfl, m, _, rfl, dgW' S16, _, rfl, _, rfl, mkS S16 (.inl ⟨rfl, by rw [has]; rfl⟩) (obD S16) fun x' J17 S17 sg17 => ?_⟩
          exact fin _ _ ⟨x', rfl, S16.trans S17, sg17⟩
    · rintro σ H0 ⟨S0, u1, u2, u3, u4, u5, u6, u7, u8, u9, u10, u11, rfl⟩
      exact kk H0
end
end Wm
namespace Wm
open PySem L2 He ClX StX
theorem errB_ok {K : PySem.W.Frag} {mg : Str → Option Value} {x f : Str} {C fI : Addr} (h : errB K C fI f = true) (g : mg x = some (.ref C)) : ErrT K mg x f C fI ∧ XfC K C ∧ ExcC K C ∧ PySem.W.exmOne K (.ref C) (.ref C) = some true := by
  unfold errB at h
  obtain ⟨h1, h⟩ := ba h
  obtain ⟨h2, h⟩ := ba h
  obtain ⟨h3, h⟩ := ba h
  obtain ⟨h4, h⟩ := ba h
  obtain ⟨h5, h⟩ := ba h
  obtain ⟨h6, h⟩ := ba h
  obtain ⟨h7, h⟩ := ba h
  obtain ⟨h8, h⟩ := ba h
  obtain ⟨h9, h⟩ := ba h
  obtain ⟨h10, h⟩ := ba h
  obtain ⟨h11, h⟩ := ba h
  obtain ⟨h12, h⟩ := ba h
  obtain ⟨h13, h⟩ := ba h
  obtain ⟨h14, h⟩ := ba h
  obtain ⟨h15, h⟩ := ba h
  obtain ⟨h16, h17⟩ := ba h
  exact ⟨⟨⟨excB_ok h14, eqO_ok h1, of_decide_eq_true h2, of_decide_eq_true h3, h4⟩, g, eqO_ok h13, of_decide_eq_true h5, eqO_ok h6, eqO_ok h7⟩, ⟨eqO_ok h8, eqO_ok h9, of_decide_eq_true h2, h10⟩,
    ⟨eqO_ok h8, eqO_ok h9, of_decide_eq_true h2, h10, eqO_ok h11, eqO_ok h16, of_decide_eq_true h17, of_decide_eq_true h12⟩, of_decide_eq_true h15⟩
theorem strKB_ok {es : Array DictEntry} (h : strKB es = true) : StrKeys es := fun e he => by
  have q := List.all_eq_true.mp h e (by simpa using he)
  cases k : e.key with
  | str n t => exact ⟨n, t, rfl⟩
  | _ =>
    rw [k] at q
    simp at q
theorem eqneB_ok {K : PySem.W.Frag} {C f : Addr} (q : eqneB K C f = true) : EqNe K C f := by
  unfold eqneB at q
  split at q
  · rename_i dd cd sl ho
    split at q
    · rename_i C' k0 k1 k2 k3 n k5 oc od es ep osl of hm hs hN hf
      simp only [Bool.and_eq_true, beq_iff_eq, Bool.not_eq_true'] at q
      obtain ⟨rfl, hdel, h1, h2, h3, h4⟩ := q
      obtain ⟨nm, bs, mro, ns, qn, hd, sn, sub, ab, col, del⟩ := cd
      dsimp only at hm hdel hN
      subst hm hdel
      have hsl : sl = #[k0, k1, k2, k3, some (.builtin n), k5] := by
        obtain ⟨l⟩ := sl
        simp only at hs
        rw [hs]
      subst hsl
      exact ⟨nm, qn, ns, bs, hd, sn, sub, ab, col, dd, k0, k1, k2, k3, k5, n, oc, od, es, ep, osl, of, ho, hN, strKB_ok h1, of_decide_eq_true h2, of_decide_eq_true h3, hf, of_decide_eq_true h4⟩
    · cases q
  · cases q
theorem insB_ok {K : PySem.W.Frag} {C : Addr} (h : insB K C = true) (c : Cls K C) : (∀ {H : Hp} {a d : Addr} {fs : List (Str × V)}, H a = some (.ins C d fs) → TyX K H (.ref a) (.ref C)) ∧ PySem.W.kitOne K (.ref C) (.ref C) = some true := by
  unfold insB at h
  obtain ⟨h1, h⟩ := ba h
  obtain ⟨h2, h⟩ := ba h
  obtain ⟨h3, h⟩ := ba h
  obtain ⟨h4, h5⟩ := ba h
  exact ⟨fun e => .base (.ins e c (eqO_ok h1) (eqO_ok h3) (of_decide_eq_true h4) (of_decide_eq_true h2)), of_decide_eq_true h5⟩
theorem facts {P : Program} {w : World} {K : PySem.W.Frag} {h : Heap} {mg : Str → Option Value} {fa : Addr} (X : K.In h) (G : h.Ns mainGlobals mg) (hfa : mg "law" = some (.ref fa)) (c : SaysM ck fnL K) :
    ∃ fd : FuncData, (∀ (s : Shared) (v : Value), BindsTo s fd ⟨[v], []⟩ [("_law_script", v)]) ∧ ∀ base : Heap, K.In base → base.Ns mainGlobals mg → FnOk P w K mg base CX0 8 fa fd ["_law_script"] (spLaw K) := by
  have q := c.says
  unfold ck at q
  obtain ⟨qf, q⟩ := ba q
  obtain ⟨qw, q⟩ := ba q
  obtain ⟨qe0, q⟩ := ba q
  obtain ⟨qe1, q⟩ := ba q
  obtain ⟨qe2, q⟩ := ba q
  obtain ⟨qk1, q⟩ := ba q
  obtain ⟨qk2, q⟩ := ba q
  obtain ⟨qk3, q⟩ := ba q
  obtain ⟨qk4, q⟩ := ba q
  obtain ⟨qR, q⟩ := ba q
  obtain ⟨qB, q⟩ := ba q
  obtain ⟨iR, iB⟩ := ba q
  have ft : ∀ (i : Nat) {f : Fa}, factL[i]? = some f → f.ok K = true := fun i {f} e => List.all_eq_true.mp qf f (List.mem_of_getElem? e)
  have g_WhoError := glo_ok X G (ft 0 (f := .glo "WhoError") rfl)
  have g_NoName := glo_ok X G (ft 1 (f := .glo "NoName") rfl)
  have g_NoRule := glo_ok X G (ft 2 (f := .glo "NoRule") rfl)
  have g_NoBar := glo_ok X G (ft 3 (f := .glo "NoBar") rfl)
  have g_is_name := glo_ok X G (ft 4 (f := .glo "is_name") rfl)
  obtain ⟨fd_is_name, Fk_is_name⟩ := c.def_ 0 (d := d_is_name) rfl
  have Fk_is_name : FunD K "is_name" "is_name" (defArgs sName) (defBody sName) (defScope sName) [] [] (ga K "is_name") fd_is_name := Fk_is_name
  have F_is_name : Fun K "is_name" "is_name" sName (ga K "is_name") fd_is_name := fun_of Fk_is_name
  have D_is_name : Dn K mg "is_name" sName ["text"] (ga K "is_name") fd_is_name := ⟨F_is_name, g_is_name, F_is_name.binds (ps := ["text"]) fun _ _ _ _ _ _ us hl => match us, hl with | [_], _ => rfl⟩
  have g_refuse_no_name := glo_ok X G (ft 5 (f := .glo "refuse_no_name") rfl)
  obtain ⟨fd_refuse_no_name, Fk_refuse_no_name⟩ := c.def_ 1 (d := d_refuse_no_name) rfl
  have Fk_refuse_no_name : FunD K "refuse_no_name" "refuse_no_name" (defArgs sRN) (defBody sRN) (defScope sRN) [] [] (ga K "refuse_no_name") fd_refuse_no_name := Fk_refuse_no_name
  have F_refuse_no_name : Fun K "refuse_no_name" "refuse_no_name" sRN (ga K "refuse_no_name") fd_refuse_no_name := fun_of Fk_refuse_no_name
  have D_refuse_no_name : Dn K mg "refuse_no_name" sRN ["texts"] (ga K "refuse_no_name") fd_refuse_no_name := ⟨F_refuse_no_name, g_refuse_no_name, F_refuse_no_name.binds (ps := ["texts"]) fun _ _ _ _ _ _ us hl => match us, hl with | [_], _ => rfl⟩
  have g_first_twice := glo_ok X G (ft 6 (f := .glo "first_twice") rfl)
  obtain ⟨fd_first_twice, Fk_first_twice⟩ := c.def_ 2 (d := d_first_twice) rfl
  have Fk_first_twice : FunD K "first_twice" "first_twice" (defArgs sFT) (defBody sFT) (defScope sFT) [] [] (ga K "first_twice") fd_first_twice := Fk_first_twice
  have F_first_twice : Fun K "first_twice" "first_twice" sFT (ga K "first_twice") fd_first_twice := fun_of Fk_first_twice
  have D_first_twice : Dn K mg "first_twice" sFT ["row"] (ga K "first_twice") fd_first_twice := ⟨F_first_twice, g_first_twice, F_first_twice.binds (ps := ["row"]) fun _ _ _ _ _ _ us hl => match us, hl with | [_], _ => rfl⟩
  have g_refuse_twice := glo_ok X G (ft 7 (f := .glo "refuse_twice") rfl)
  obtain ⟨fd_refuse_twice, Fk_refuse_twice⟩ := c.def_ 3 (d := d_refuse_twice) rfl
  have Fk_refuse_twice : FunD K "refuse_twice" "refuse_twice" (defArgs sRT) (defBody sRT) (defScope sRT) [] [] (ga K "refuse_twice") fd_refuse_twice := Fk_refuse_twice
  have F_refuse_twice : Fun K "refuse_twice" "refuse_twice" sRT (ga K "refuse_twice") fd_refuse_twice := fun_of Fk_refuse_twice
  have D_refuse_twice : Dn K mg "refuse_twice" sRT ["names"] (ga K "refuse_twice") fd_refuse_twice := ⟨F_refuse_twice, g_refuse_twice, F_refuse_twice.binds (ps := ["names"]) fun _ _ _ _ _ _ us hl => match us, hl with | [_], _ => rfl⟩
  have g_refuse_count := glo_ok X G (ft 8 (f := .glo "refuse_count") rfl)
  obtain ⟨fd_refuse_count, Fk_refuse_count⟩ := c.def_ 4 (d := d_refuse_count) rfl
  have Fk_refuse_count : FunD K "refuse_count" "refuse_count" (defArgs sRC) (defBody sRC) (defScope sRC) [] [] (ga K "refuse_count") fd_refuse_count := Fk_refuse_count
  have F_refuse_count : Fun K "refuse_count" "refuse_count" sRC (ga K "refuse_count") fd_refuse_count := fun_of Fk_refuse_count
  have D_refuse_count : Dn K mg "refuse_count" sRC ["what", "count", "least", "most"] (ga K "refuse_count") fd_refuse_count := ⟨F_refuse_count, g_refuse_count, F_refuse_count.binds (ps := ["what", "count", "least", "most"]) fun _ _ _ _ _ _ us hl => match us, hl with | [_, _, _, _], _ => rfl⟩
  have g_own_list := glo_ok X G (ft 9 (f := .glo "own_list") rfl)
  obtain ⟨fd_own_list, Fk_own_list⟩ := c.def_ 5 (d := d_own_list) rfl
  have Fk_own_list : FunD K "own_list" "own_list" (defArgs sOL) (defBody sOL) (defScope sOL) [] [] (ga K "own_list") fd_own_list := Fk_own_list
  have F_own_list : Fun K "own_list" "own_list" sOL (ga K "own_list") fd_own_list := fun_of Fk_own_list
  have D_own_list : Dn K mg "own_list" sOL ["rows"] (ga K "own_list") fd_own_list := ⟨F_own_list, g_own_list, F_own_list.binds (ps := ["rows"]) fun _ _ _ _ _ _ us hl => match us, hl with | [_], _ => rfl⟩
  have g_refuse_makings_twice := glo_ok X G (ft 10 (f := .glo "refuse_makings_twice") rfl)
  obtain ⟨fd_refuse_makings_twice, Fk_refuse_makings_twice⟩ := c.def_ 6 (d := d_refuse_makings_twice) rfl
  have Fk_refuse_makings_twice : FunD K "refuse_makings_twice" "refuse_makings_twice" (defArgs sRMT) (defBody sRMT) (defScope sRMT) [] [] (ga K "refuse_makings_twice") fd_refuse_makings_twice := Fk_refuse_makings_twice
  have F_refuse_makings_twice : Fun K "refuse_makings_twice" "refuse_makings_twice" sRMT (ga K "refuse_makings_twice") fd_refuse_makings_twice := fun_of Fk_refuse_makings_twice
  have D_refuse_makings_twice : Dn K mg "refuse_makings_twice" sRMT ["makings"] (ga K "refuse_makings_twice") fd_refuse_makings_twice := ⟨F_refuse_makings_twice, g_refuse_makings_twice, F_refuse_makings_twice.binds (ps := ["makings"]) fun _ _ _ _ _ _ us hl => match us, hl with | [_], _ => rfl⟩
  have g_refuse_no_sort := glo_ok X G (ft 11 (f := .glo "refuse_no_sort") rfl)
  obtain ⟨fd_refuse_no_sort, Fk_refuse_no_sort⟩ := c.def_ 7 (d := d_refuse_no_sort) rfl
  have Fk_refuse_no_sort : FunD K "refuse_no_sort" "refuse_no_sort" (defArgs sRNS) (defBody sRNS) (defScope sRNS) [] [] (ga K "refuse_no_sort") fd_refuse_no_sort := Fk_refuse_no_sort
  have F_refuse_no_sort : Fun K "refuse_no_sort" "refuse_no_sort" sRNS (ga K "refuse_no_sort") fd_refuse_no_sort := fun_of Fk_refuse_no_sort
  have D_refuse_no_sort : Dn K mg "refuse_no_sort" sRNS ["sorts", "makings", "patterns"] (ga K "refuse_no_sort") fd_refuse_no_sort := ⟨F_refuse_no_sort, g_refuse_no_sort, F_refuse_no_sort.binds (ps := ["sorts", "makings", "patterns"]) fun _ _ _ _ _ _ us hl => match us, hl with | [_, _, _], _ => rfl⟩
  have g_refuse_upward := glo_ok X G (ft 12 (f := .glo "refuse_upward") rfl)
  obtain ⟨fd_refuse_upward, Fk_refuse_upward⟩ := c.def_ 8 (d := d_refuse_upward) rfl
  have Fk_refuse_upward : FunD K "refuse_upward" "refuse_upward" (defArgs sRU) (defBody sRU) (defScope sRU) [] [] (ga K "refuse_upward") fd_refuse_upward := Fk_refuse_upward
  have F_refuse_upward : Fun K "refuse_upward" "refuse_upward" sRU (ga K "refuse_upward") fd_refuse_upward := fun_of Fk_refuse_upward
  have D_refuse_upward : Dn K mg "refuse_upward" sRU ["sorts", "makings"] (ga K "refuse_upward") fd_refuse_upward := ⟨F_refuse_upward, g_refuse_upward, F_refuse_upward.binds (ps := ["sorts", "makings"]) fun _ _ _ _ _ _ us hl => match us, hl with | [_, _], _ => rfl⟩
  have g_refuse_no_word := glo_ok X G (ft 13 (f := .glo "refuse_no_word") rfl)
  obtain ⟨fd_refuse_no_word, Fk_refuse_no_word⟩ := c.def_ 9 (d := d_refuse_no_word) rfl
  have Fk_refuse_no_word : FunD K "refuse_no_word" "refuse_no_word" (defArgs sRNW) (defBody sRNW) (defScope sRNW) [] [] (ga K "refuse_no_word") fd_refuse_no_word := Fk_refuse_no_word
  have F_refuse_no_word : Fun K "refuse_no_word" "refuse_no_word" sRNW (ga K "refuse_no_word") fd_refuse_no_word := fun_of Fk_refuse_no_word
  have D_refuse_no_word : Dn K mg "refuse_no_word" sRNW ["words", "makings", "rules", "bars"] (ga K "refuse_no_word") fd_refuse_no_word := ⟨F_refuse_no_word, g_refuse_no_word, F_refuse_no_word.binds (ps := ["words", "makings", "rules", "bars"]) fun _ _ _ _ _ _ us hl => match us, hl with | [_, _, _, _], _ => rfl⟩
  have g_check_scheme := glo_ok X G (ft 14 (f := .glo "check_scheme") rfl)
  obtain ⟨fd_check_scheme, Fk_check_scheme⟩ := c.def_ 10 (d := d_check_scheme) rfl
  have Fk_check_scheme : FunD K "check_scheme" "check_scheme" (defArgs sCS) (defBody sCS) (defScope sCS) [] [] (ga K "check_scheme") fd_check_scheme := Fk_check_scheme
  have F_check_scheme : Fun K "check_scheme" "check_scheme" sCS (ga K "check_scheme") fd_check_scheme := fun_of Fk_check_scheme
  have D_check_scheme : Dn K mg "check_scheme" sCS ["sorts", "words", "makings", "rules", "bars"] (ga K "check_scheme") fd_check_scheme := ⟨F_check_scheme, g_check_scheme, F_check_scheme.binds (ps := ["sorts", "words", "makings", "rules", "bars"]) fun _ _ _ _ _ _ us hl => match us, hl with | [_, _, _, _, _], _ => rfl⟩
  have g_tuple_of_tuples := glo_ok X G (ft 15 (f := .glo "tuple_of_tuples") rfl)
  obtain ⟨fd_tuple_of_tuples, Fk_tuple_of_tuples⟩ := c.def_ 11 (d := d_tuple_of_tuples) rfl
  have Fk_tuple_of_tuples : FunD K "tuple_of_tuples" "tuple_of_tuples" (defArgs sTT) (defBody sTT) (defScope sTT) [] [] (ga K "tuple_of_tuples") fd_tuple_of_tuples := Fk_tuple_of_tuples
  have F_tuple_of_tuples : Fun K "tuple_of_tuples" "tuple_of_tuples" sTT (ga K "tuple_of_tuples") fd_tuple_of_tuples := fun_of Fk_tuple_of_tuples
  have D_tuple_of_tuples : Dn K mg "tuple_of_tuples" sTT ["rows"] (ga K "tuple_of_tuples") fd_tuple_of_tuples := ⟨F_tuple_of_tuples, g_tuple_of_tuples, F_tuple_of_tuples.binds (ps := ["rows"]) fun _ _ _ _ _ _ us hl => match us, hl with | [_], _ => rfl⟩
  have g_ends_of := glo_ok X G (ft 16 (f := .glo "ends_of") rfl)
  obtain ⟨fd_ends_of, Fk_ends_of⟩ := c.def_ 12 (d := d_ends_of) rfl
  have Fk_ends_of : FunD K "ends_of" "ends_of" (defArgs sEO) (defBody sEO) (defScope sEO) [] [] (ga K "ends_of") fd_ends_of := Fk_ends_of
  have F_ends_of : Fun K "ends_of" "ends_of" sEO (ga K "ends_of") fd_ends_of := fun_of Fk_ends_of
  have D_ends_of : Dn K mg "ends_of" sEO ["triples"] (ga K "ends_of") fd_ends_of := ⟨F_ends_of, g_ends_of, F_ends_of.binds (ps := ["triples"]) fun _ _ _ _ _ _ us hl => match us, hl with | [_], _ => rfl⟩
  have g_texts_of_pattern := glo_ok X G (ft 17 (f := .glo "texts_of_pattern") rfl)
  obtain ⟨fd_texts_of_pattern, Fk_texts_of_pattern⟩ := c.def_ 13 (d := d_texts_of_pattern) rfl
  have Fk_texts_of_pattern : FunD K "texts_of_pattern" "texts_of_pattern" (defArgs sTP) (defBody sTP) (defScope sTP) [] [] (ga K "texts_of_pattern") fd_texts_of_pattern := Fk_texts_of_pattern
  have F_texts_of_pattern : Fun K "texts_of_pattern" "texts_of_pattern" sTP (ga K "texts_of_pattern") fd_texts_of_pattern := fun_of Fk_texts_of_pattern
  have D_texts_of_pattern : Dn K mg "texts_of_pattern" sTP ["name", "variables", "triples"] (ga K "texts_of_pattern") fd_texts_of_pattern := ⟨F_texts_of_pattern, g_texts_of_pattern, F_texts_of_pattern.binds (ps := ["name", "variables", "triples"]) fun _ _ _ _ _ _ us hl => match us, hl with | [_, _, _], _ => rfl⟩
  have g_refuse_no_variable := glo_ok X G (ft 18 (f := .glo "refuse_no_variable") rfl)
  obtain ⟨fd_refuse_no_variable, Fk_refuse_no_variable⟩ := c.def_ 14 (d := d_refuse_no_variable) rfl
  have Fk_refuse_no_variable : FunD K "refuse_no_variable" "refuse_no_variable" (defArgs sRV) (defBody sRV) (defScope sRV) [] [] (ga K "refuse_no_variable") fd_refuse_no_variable := Fk_refuse_no_variable
  have F_refuse_no_variable : Fun K "refuse_no_variable" "refuse_no_variable" sRV (ga K "refuse_no_variable") fd_refuse_no_variable := fun_of Fk_refuse_no_variable
  have D_refuse_no_variable : Dn K mg "refuse_no_variable" sRV ["names", "texts"] (ga K "refuse_no_variable") fd_refuse_no_variable := ⟨F_refuse_no_variable, g_refuse_no_variable, F_refuse_no_variable.binds (ps := ["names", "texts"]) fun _ _ _ _ _ _ us hl => match us, hl with | [_, _], _ => rfl⟩
  have g_refuse_loose := glo_ok X G (ft 19 (f := .glo "refuse_loose") rfl)
  obtain ⟨fd_refuse_loose, Fk_refuse_loose⟩ := c.def_ 15 (d := d_refuse_loose) rfl
  have Fk_refuse_loose : FunD K "refuse_loose" "refuse_loose" (defArgs sRL) (defBody sRL) (defScope sRL) [] [] (ga K "refuse_loose") fd_refuse_loose := Fk_refuse_loose
  have F_refuse_loose : Fun K "refuse_loose" "refuse_loose" sRL (ga K "refuse_loose") fd_refuse_loose := fun_of Fk_refuse_loose
  have D_refuse_loose : Dn K mg "refuse_loose" sRL ["names", "conditions"] (ga K "refuse_loose") fd_refuse_loose := ⟨F_refuse_loose, g_refuse_loose, F_refuse_loose.binds (ps := ["names", "conditions"]) fun _ _ _ _ _ _ us hl => match us, hl with | [_, _], _ => rfl⟩
  have g_refuse_apart := glo_ok X G (ft 20 (f := .glo "refuse_apart") rfl)
  obtain ⟨fd_refuse_apart, Fk_refuse_apart⟩ := c.def_ 16 (d := d_refuse_apart) rfl
  have Fk_refuse_apart : FunD K "refuse_apart" "refuse_apart" (defArgs sRA) (defBody sRA) (defScope sRA) [] [] (ga K "refuse_apart") fd_refuse_apart := Fk_refuse_apart
  have F_refuse_apart : Fun K "refuse_apart" "refuse_apart" sRA (ga K "refuse_apart") fd_refuse_apart := fun_of Fk_refuse_apart
  have D_refuse_apart : Dn K mg "refuse_apart" sRA ["conditions"] (ga K "refuse_apart") fd_refuse_apart := ⟨F_refuse_apart, g_refuse_apart, F_refuse_apart.binds (ps := ["conditions"]) fun _ _ _ _ _ _ us hl => match us, hl with | [_], _ => rfl⟩
  have g_check_pattern := glo_ok X G (ft 21 (f := .glo "check_pattern") rfl)
  obtain ⟨fd_check_pattern, Fk_check_pattern⟩ := c.def_ 17 (d := d_check_pattern) rfl
  have Fk_check_pattern : FunD K "check_pattern" "check_pattern" (defArgs sCP) (defBody sCP) (defScope sCP) [] [] (ga K "check_pattern") fd_check_pattern := Fk_check_pattern
  have F_check_pattern : Fun K "check_pattern" "check_pattern" sCP (ga K "check_pattern") fd_check_pattern := fun_of Fk_check_pattern
  have D_check_pattern : Dn K mg "check_pattern" sCP ["name", "variables", "conditions", "given", "hands"] (ga K "check_pattern") fd_check_pattern := ⟨F_check_pattern, g_check_pattern, F_check_pattern.binds (ps := ["name", "variables", "conditions", "given", "hands"]) fun _ _ _ _ _ _ us hl => match us, hl with | [_, _, _, _, _], _ => rfl⟩
  have g__law_cell_at := glo_ok X G (ft 22 (f := .glo "_law_cell_at") rfl)
  obtain ⟨fd__law_cell_at, Fk__law_cell_at⟩ := c.def_ 18 (d := d__law_cell_at) rfl
  have Fk__law_cell_at : FunD K "_law_cell_at" "_law_cell_at" (defArgs sCel) (defBody sCel) (defScope sCel) [] [] (ga K "_law_cell_at") fd__law_cell_at := Fk__law_cell_at
  have F__law_cell_at : Fun K "_law_cell_at" "_law_cell_at" sCel (ga K "_law_cell_at") fd__law_cell_at := fun_of Fk__law_cell_at
  have D__law_cell_at : Dn K mg "_law_cell_at" sCel ["_law_script", "_law_k"] (ga K "_law_cell_at") fd__law_cell_at := ⟨F__law_cell_at, g__law_cell_at, F__law_cell_at.binds (ps := ["_law_script", "_law_k"]) fun _ _ _ _ _ _ us hl => match us, hl with | [_, _], _ => rfl⟩
  have g__law_state := glo_ok X G (ft 23 (f := .glo "_law_state") rfl)
  obtain ⟨fd__law_state, Fk__law_state⟩ := c.def_ 19 (d := d__law_state) rfl
  have Fk__law_state : FunD K "_law_state" "_law_state" (defArgs sState) (defBody sState) (defScope sState) [] [] (ga K "_law_state") fd__law_state := Fk__law_state
  have F__law_state : Fun K "_law_state" "_law_state" sState (ga K "_law_state") fd__law_state := fun_of Fk__law_state
  have D__law_state : Dn K mg "_law_state" sState ["_law_cell"] (ga K "_law_state") fd__law_state := ⟨F__law_state, g__law_state, F__law_state.binds (ps := ["_law_cell"]) fun _ _ _ _ _ _ us hl => match us, hl with | [_], _ => rfl⟩
  have g__law_digit := glo_ok X G (ft 24 (f := .glo "_law_digit") rfl)
  obtain ⟨fd__law_digit, Fk__law_digit⟩ := c.def_ 20 (d := d__law_digit) rfl
  have Fk__law_digit : FunD K "_law_digit" "_law_digit" (defArgs sDigit) (defBody sDigit) (defScope sDigit) [] [] (ga K "_law_digit") fd__law_digit := Fk__law_digit
  have F__law_digit : Fun K "_law_digit" "_law_digit" sDigit (ga K "_law_digit") fd__law_digit := fun_of Fk__law_digit
  have D__law_digit : Dn K mg "_law_digit" sDigit ["_law_state_here", "_law_base"] (ga K "_law_digit") fd__law_digit := ⟨F__law_digit, g__law_digit, F__law_digit.binds (ps := ["_law_state_here", "_law_base"]) fun _ _ _ _ _ _ us hl => match us, hl with | [_, _], _ => rfl⟩
  have g__law_name := glo_ok X G (ft 25 (f := .glo "_law_name") rfl)
  obtain ⟨fd__law_name, Fk__law_name⟩ := c.def_ 21 (d := d__law_name) rfl
  have Fk__law_name : FunD K "_law_name" "_law_name" (defArgs sNam) (defBody sNam) (defScope sNam) [] [] (ga K "_law_name") fd__law_name := Fk__law_name
  have F__law_name : Fun K "_law_name" "_law_name" sNam (ga K "_law_name") fd__law_name := fun_of Fk__law_name
  have D__law_name : Dn K mg "_law_name" sNam ["_law_s", "_law_taken"] (ga K "_law_name") fd__law_name := ⟨F__law_name, g__law_name, F__law_name.binds (ps := ["_law_s", "_law_taken"]) fun _ _ _ _ _ _ us hl => match us, hl with | [_, _], _ => rfl⟩
  have g__law_names := glo_ok X G (ft 26 (f := .glo "_law_names") rfl)
  obtain ⟨fd__law_names, Fk__law_names⟩ := c.def_ 22 (d := d__law_names) rfl
  have Fk__law_names : FunD K "_law_names" "_law_names" (defArgs sNms) (defBody sNms) (defScope sNms) [] [] (ga K "_law_names") fd__law_names := Fk__law_names
  have F__law_names : Fun K "_law_names" "_law_names" sNms (ga K "_law_names") fd__law_names := fun_of Fk__law_names
  have D__law_names : Dn K mg "_law_names" sNms ["_law_s", "_law_many"] (ga K "_law_names") fd__law_names := ⟨F__law_names, g__law_names, F__law_names.binds (ps := ["_law_s", "_law_many"]) fun _ _ _ _ _ _ us hl => match us, hl with | [_, _], _ => rfl⟩
  have g__law_rule := glo_ok X G (ft 27 (f := .glo "_law_rule") rfl)
  obtain ⟨fd__law_rule, Fk__law_rule⟩ := c.def_ 23 (d := d__law_rule) rfl
  have Fk__law_rule : FunD K "_law_rule" "_law_rule" (defArgs sRle) (defBody sRle) (defScope sRle) [] [] (ga K "_law_rule") fd__law_rule := Fk__law_rule
  have F__law_rule : Fun K "_law_rule" "_law_rule" sRle (ga K "_law_rule") fd__law_rule := fun_of Fk__law_rule
  have D__law_rule : Dn K mg "_law_rule" sRle ["_law_s", "_law_m", "_law_name_here"] (ga K "_law_rule") fd__law_rule := ⟨F__law_rule, g__law_rule, F__law_rule.binds (ps := ["_law_s", "_law_m", "_law_name_here"]) fun _ _ _ _ _ _ us hl => match us, hl with | [_, _, _], _ => rfl⟩
  have g__law_making := glo_ok X G (ft 28 (f := .glo "_law_making") rfl)
  obtain ⟨fd__law_making, Fk__law_making⟩ := c.def_ 24 (d := d__law_making) rfl
  have Fk__law_making : FunD K "_law_making" "_law_making" (defArgs sMkg) (defBody sMkg) (defScope sMkg) [] [] (ga K "_law_making") fd__law_making := Fk__law_making
  have F__law_making : Fun K "_law_making" "_law_making" sMkg (ga K "_law_making") fd__law_making := fun_of Fk__law_making
  have D__law_making : Dn K mg "_law_making" sMkg ["_law_s", "_law_m", "_law_maker", "_law_made"] (ga K "_law_making") fd__law_making := ⟨F__law_making, g__law_making, F__law_making.binds (ps := ["_law_s", "_law_m", "_law_maker", "_law_made"]) fun _ _ _ _ _ _ us hl => match us, hl with | [_, _, _, _], _ => rfl⟩
  have g__law_model := glo_ok X G (ft 29 (f := .glo "_law_model") rfl)
  obtain ⟨fd__law_model, Fk__law_model⟩ := c.def_ 25 (d := d__law_model) rfl
  have Fk__law_model : FunD K "_law_model" "_law_model" (defArgs sMdl) (defBody sMdl) (defScope sMdl) [] [] (ga K "_law_model") fd__law_model := Fk__law_model
  have F__law_model : Fun K "_law_model" "_law_model" sMdl (ga K "_law_model") fd__law_model := fun_of Fk__law_model
  have D__law_model : Dn K mg "_law_model" sMdl ["_law_s", "_law_rules", "_law_most"] (ga K "_law_model") fd__law_model := ⟨F__law_model, g__law_model, F__law_model.binds (ps := ["_law_s", "_law_rules", "_law_most"]) fun _ _ _ _ _ _ us hl => match us, hl with | [_, _, _], _ => rfl⟩
  have g__law_bars := glo_ok X G (ft 30 (f := .glo "_law_bars") rfl)
  obtain ⟨fd__law_bars, Fk__law_bars⟩ := c.def_ 26 (d := d__law_bars) rfl
  have Fk__law_bars : FunD K "_law_bars" "_law_bars" (defArgs sBrs) (defBody sBrs) (defScope sBrs) [] [] (ga K "_law_bars") fd__law_bars := Fk__law_bars
  have F__law_bars : Fun K "_law_bars" "_law_bars" sBrs (ga K "_law_bars") fd__law_bars := fun_of Fk__law_bars
  have D__law_bars : Dn K mg "_law_bars" sBrs ["_law_s", "_law_m"] (ga K "_law_bars") fd__law_bars := ⟨F__law_bars, g__law_bars, F__law_bars.binds (ps := ["_law_s", "_law_m"]) fun _ _ _ _ _ _ us hl => match us, hl with | [_, _], _ => rfl⟩
  have g__law_asked := glo_ok X G (ft 31 (f := .glo "_law_asked") rfl)
  obtain ⟨fd__law_asked, Fk__law_asked⟩ := c.def_ 27 (d := d__law_asked) rfl
  have Fk__law_asked : FunD K "_law_asked" "_law_asked" (defArgs sAsk) (defBody sAsk) (defScope sAsk) [] [] (ga K "_law_asked") fd__law_asked := Fk__law_asked
  have F__law_asked : Fun K "_law_asked" "_law_asked" sAsk (ga K "_law_asked") fd__law_asked := fun_of Fk__law_asked
  have D__law_asked : Dn K mg "_law_asked" sAsk ["_law_scheme", "_law_lists", "_law_others"] (ga K "_law_asked") fd__law_asked := ⟨F__law_asked, g__law_asked, F__law_asked.binds (ps := ["_law_scheme", "_law_lists", "_law_others"]) fun _ _ _ _ _ _ us hl => match us, hl with | [_, _, _], _ => rfl⟩
  have g_law := glo_ok X G (ft 32 (f := .glo "law") rfl)
  obtain ⟨fd_law, Fk_law⟩ := c.def_ 28 (d := d_law) rfl
  have Fk_law : FunD K "law" "law" (defArgs sLaw) (defBody sLaw) (defScope sLaw) [] [] (ga K "law") fd_law := Fk_law
  have F_law : Fun K "law" "law" sLaw (ga K "law") fd_law := fun_of Fk_law
  have FLb := FunD.bindsA (ps := ["_law_script"]) Fk_law fun _ _ _ _ _ _ us hl => match us, hl with | [_], _ => rfl
  have g_Scheme := glo_ok X G (ft 33 (f := .glo "Scheme") rfl)
  have cls_Scheme := cls_ok (ft 34 (f := .cls "Scheme") rfl)
  have na_Scheme_own_sorts := noat_ok (ft 35 (f := .noat "Scheme" "own_sorts") rfl)
  have na_Scheme_own_words := noat_ok (ft 36 (f := .noat "Scheme" "own_words") rfl)
  have na_Scheme_own_makings := noat_ok (ft 37 (f := .noat "Scheme" "own_makings") rfl)
  have na_Scheme_own_rules := noat_ok (ft 38 (f := .noat "Scheme" "own_rules") rfl)
  have na_Scheme_own_bars := noat_ok (ft 39 (f := .noat "Scheme" "own_bars") rfl)
  have mk_Scheme := mkr_ok (ft 40 (f := .mkr "Scheme") rfl)
  have g_Bar := glo_ok X G (ft 41 (f := .glo "Bar") rfl)
  have cls_Bar := cls_ok (ft 42 (f := .cls "Bar") rfl)
  have na_Bar_name := noat_ok (ft 43 (f := .noat "Bar" "name") rfl)
  have na_Bar_variables := noat_ok (ft 44 (f := .noat "Bar" "variables") rfl)
  have na_Bar_conditions := noat_ok (ft 45 (f := .noat "Bar" "conditions") rfl)
  have mk_Bar := mkr_ok (ft 46 (f := .mkr "Bar") rfl)
  have g_Rule := glo_ok X G (ft 47 (f := .glo "Rule") rfl)
  have cls_Rule := cls_ok (ft 48 (f := .cls "Rule") rfl)
  have na_Rule_name := noat_ok (ft 49 (f := .noat "Rule" "name") rfl)
  have na_Rule_variables := noat_ok (ft 50 (f := .noat "Rule" "variables") rfl)
  have na_Rule_conditions := noat_ok (ft 51 (f := .noat "Rule" "conditions") rfl)
  have na_Rule_gives := noat_ok (ft 52 (f := .noat "Rule" "gives") rfl)
  have na_Rule_by := noat_ok (ft 53 (f := .noat "Rule" "by") rfl)
  have mk_Rule := mkr_ok (ft 54 (f := .mkr "Rule") rfl)
  have g_Making := glo_ok X G (ft 55 (f := .glo "Making") rfl)
  have cls_Making := cls_ok (ft 56 (f := .cls "Making") rfl)
  have na_Making_maker := noat_ok (ft 57 (f := .noat "Making" "maker") rfl)
  have na_Making_made := noat_ok (ft 58 (f := .noat "Making" "made") rfl)
  have na_Making_down := noat_ok (ft 59 (f := .noat "Making" "down") rfl)
  have na_Making_up := noat_ok (ft 60 (f := .noat "Making" "up") rfl)
  have mk_Making := mkr_ok (ft 61 (f := .mkr "Making") rfl)
  obtain ⟨fd_NoName___init__, Fk_NoName___init__⟩ := c.def_ 29 (d := d_NoName___init__) rfl
  have Fk_NoName___init__ : FunD K "__init__" "NoName.__init__" (defArgs sN0) (defBody sN0) (defScope sN0) [] [] (ma K (ga K "NoName") "__init__") fd_NoName___init__ := Fk_NoName___init__
  have F_NoName___init__ : Fun K "__init__" "NoName.__init__" sN0 (ma K (ga K "NoName") "__init__") fd_NoName___init__ := fun_of Fk_NoName___init__
  have b_NoName___init__ := F_NoName___init__.binds (ps := ["self", "name"]) fun _ _ _ _ _ _ us hl => match us, hl with | [_, _], _ => rfl
  obtain ⟨fd_NoRule___init__, Fk_NoRule___init__⟩ := c.def_ 30 (d := d_NoRule___init__) rfl
  have Fk_NoRule___init__ : FunD K "__init__" "NoRule.__init__" (defArgs sNR) (defBody sNR) (defScope sNR) [] [] (ma K (ga K "NoRule") "__init__") fd_NoRule___init__ := Fk_NoRule___init__
  have F_NoRule___init__ : Fun K "__init__" "NoRule.__init__" sNR (ma K (ga K "NoRule") "__init__") fd_NoRule___init__ := fun_of Fk_NoRule___init__
  have b_NoRule___init__ := F_NoRule___init__.binds (ps := ["self", "name"]) fun _ _ _ _ _ _ us hl => match us, hl with | [_, _], _ => rfl
  obtain ⟨fd_NoBar___init__, Fk_NoBar___init__⟩ := c.def_ 31 (d := d_NoBar___init__) rfl
  have Fk_NoBar___init__ : FunD K "__init__" "NoBar.__init__" (defArgs sNB) (defBody sNB) (defScope sNB) [] [] (ma K (ga K "NoBar") "__init__") fd_NoBar___init__ := Fk_NoBar___init__
  have F_NoBar___init__ : Fun K "__init__" "NoBar.__init__" sNB (ma K (ga K "NoBar") "__init__") fd_NoBar___init__ := fun_of Fk_NoBar___init__
  have b_NoBar___init__ := F_NoBar___init__.binds (ps := ["self", "name"]) fun _ _ _ _ _ _ us hl => match us, hl with | [_, _], _ => rfl
  obtain ⟨fd_Bar___init__, Fk_Bar___init__⟩ := c.def_ 32 (d := d_Bar___init__) rfl
  have Fk_Bar___init__ : FunD K "__init__" "Bar.__init__" (defArgs sBar) (defBody sBar) (defScope sBar) [] [] (ma K (ga K "Bar") "__init__") fd_Bar___init__ := Fk_Bar___init__
  have F_Bar___init__ : Fun K "__init__" "Bar.__init__" sBar (ma K (ga K "Bar") "__init__") fd_Bar___init__ := fun_of Fk_Bar___init__
  have b_Bar___init__ := F_Bar___init__.binds (ps := ["self", "name", "variables", "conditions"]) fun _ _ _ _ _ _ us hl => match us, hl with | [_, _, _, _], _ => rfl
  obtain ⟨fd_Rule___init__, Fk_Rule___init__⟩ := c.def_ 33 (d := d_Rule___init__) rfl
  have Fk_Rule___init__ : FunD K "__init__" "Rule.__init__" (defArgs sRul) (defBody sRul) (defScope sRul) [] [] (ma K (ga K "Rule") "__init__") fd_Rule___init__ := Fk_Rule___init__
  have F_Rule___init__ : Fun K "__init__" "Rule.__init__" sRul (ma K (ga K "Rule") "__init__") fd_Rule___init__ := fun_of Fk_Rule___init__
  have b_Rule___init__ := F_Rule___init__.binds (ps := ["self", "name", "variables", "conditions", "gives", "by"]) fun _ _ _ _ _ _ us hl => match us, hl with | [_, _, _, _, _, _], _ => rfl
  obtain ⟨fd_Making___init__, Fk_Making___init__⟩ := c.def_ 34 (d := d_Making___init__) rfl
  have Fk_Making___init__ : FunD K "__init__" "Making.__init__" (defArgs sMak) (defBody sMak) (defScope sMak) [] [] (ma K (ga K "Making") "__init__") fd_Making___init__ := Fk_Making___init__
  have F_Making___init__ : Fun K "__init__" "Making.__init__" sMak (ma K (ga K "Making") "__init__") fd_Making___init__ := fun_of Fk_Making___init__
  have b_Making___init__ := F_Making___init__.binds (ps := ["self", "maker", "made", "down", "up"]) fun _ _ _ _ _ _ us hl => match us, hl with | [_, _, _, _, _], _ => rfl
  have m_Bar___eq__ := meth_ok (ft 62 (f := .meth "Bar" "__eq__") rfl)
  obtain ⟨fd_Bar___eq__, Fk_Bar___eq__⟩ := c.def_ 35 (d := d_Bar___eq__) rfl
  have Fk_Bar___eq__ : FunD K "__eq__" "Bar.__eq__" (defArgs sBE) (defBody sBE) (defScope sBE) [] [] (ma K (ga K "Bar") "__eq__") fd_Bar___eq__ := Fk_Bar___eq__
  have F_Bar___eq__ : Fun K "__eq__" "Bar.__eq__" sBE (ma K (ga K "Bar") "__eq__") fd_Bar___eq__ := fun_of Fk_Bar___eq__
  have b_Bar___eq__ := F_Bar___eq__.binds (ps := ["self", "other"]) fun _ _ _ _ _ _ us hl => match us, hl with | [_, _], _ => rfl
  have m_Rule___eq__ := meth_ok (ft 63 (f := .meth "Rule" "__eq__") rfl)
  obtain ⟨fd_Rule___eq__, Fk_Rule___eq__⟩ := c.def_ 36 (d := d_Rule___eq__) rfl
  have Fk_Rule___eq__ : FunD K "__eq__" "Rule.__eq__" (defArgs sRE) (defBody sRE) (defScope sRE) [] [] (ma K (ga K "Rule") "__eq__") fd_Rule___eq__ := Fk_Rule___eq__
  have F_Rule___eq__ : Fun K "__eq__" "Rule.__eq__" sRE (ma K (ga K "Rule") "__eq__") fd_Rule___eq__ := fun_of Fk_Rule___eq__
  have b_Rule___eq__ := F_Rule___eq__.binds (ps := ["self", "other"]) fun _ _ _ _ _ _ us hl => match us, hl with | [_, _], _ => rfl
  have m_Scheme_sorts := meth_ok (ft 64 (f := .meth "Scheme" "sorts") rfl)
  obtain ⟨fd_Scheme_sorts, Fk_Scheme_sorts⟩ := c.def_ 37 (d := d_Scheme_sorts) rfl
  have Fk_Scheme_sorts : FunD K "sorts" "Scheme.sorts" (defArgs sSor) (defBody sSor) (defScope sSor) [] [] (ma K (ga K "Scheme") "sorts") fd_Scheme_sorts := Fk_Scheme_sorts
  have F_Scheme_sorts : Fun K "sorts" "Scheme.sorts" sSor (ma K (ga K "Scheme") "sorts") fd_Scheme_sorts := fun_of Fk_Scheme_sorts
  have b_Scheme_sorts := F_Scheme_sorts.binds (ps := ["self"]) fun _ _ _ _ _ _ us hl => match us, hl with | [_], _ => rfl
  have m_Scheme_words := meth_ok (ft 65 (f := .meth "Scheme" "words") rfl)
  obtain ⟨fd_Scheme_words, Fk_Scheme_words⟩ := c.def_ 38 (d := d_Scheme_words) rfl
  have Fk_Scheme_words : FunD K "words" "Scheme.words" (defArgs sWor) (defBody sWor) (defScope sWor) [] [] (ma K (ga K "Scheme") "words") fd_Scheme_words := Fk_Scheme_words
  have F_Scheme_words : Fun K "words" "Scheme.words" sWor (ma K (ga K "Scheme") "words") fd_Scheme_words := fun_of Fk_Scheme_words
  have b_Scheme_words := F_Scheme_words.binds (ps := ["self"]) fun _ _ _ _ _ _ us hl => match us, hl with | [_], _ => rfl
  have m_Scheme_makings := meth_ok (ft 66 (f := .meth "Scheme" "makings") rfl)
  obtain ⟨fd_Scheme_makings, Fk_Scheme_makings⟩ := c.def_ 39 (d := d_Scheme_makings) rfl
  have Fk_Scheme_makings : FunD K "makings" "Scheme.makings" (defArgs sSMk) (defBody sSMk) (defScope sSMk) [] [] (ma K (ga K "Scheme") "makings") fd_Scheme_makings := Fk_Scheme_makings
  have F_Scheme_makings : Fun K "makings" "Scheme.makings" sSMk (ma K (ga K "Scheme") "makings") fd_Scheme_makings := fun_of Fk_Scheme_makings
  have b_Scheme_makings := F_Scheme_makings.binds (ps := ["self"]) fun _ _ _ _ _ _ us hl => match us, hl with | [_], _ => rfl
  have m_Scheme_rules := meth_ok (ft 67 (f := .meth "Scheme" "rules") rfl)
  obtain ⟨fd_Scheme_rules, Fk_Scheme_rules⟩ := c.def_ 40 (d := d_Scheme_rules) rfl
  have Fk_Scheme_rules : FunD K "rules" "Scheme.rules" (defArgs sSRu) (defBody sSRu) (defScope sSRu) [] [] (ma K (ga K "Scheme") "rules") fd_Scheme_rules := Fk_Scheme_rules
  have F_Scheme_rules : Fun K "rules" "Scheme.rules" sSRu (ma K (ga K "Scheme") "rules") fd_Scheme_rules := fun_of Fk_Scheme_rules
  have b_Scheme_rules := F_Scheme_rules.binds (ps := ["self"]) fun _ _ _ _ _ _ us hl => match us, hl with | [_], _ => rfl
  have m_Scheme_bars := meth_ok (ft 68 (f := .meth "Scheme" "bars") rfl)
  obtain ⟨fd_Scheme_bars, Fk_Scheme_bars⟩ := c.def_ 41 (d := d_Scheme_bars) rfl
  have Fk_Scheme_bars : FunD K "bars" "Scheme.bars" (defArgs sSBa) (defBody sSBa) (defScope sSBa) [] [] (ma K (ga K "Scheme") "bars") fd_Scheme_bars := Fk_Scheme_bars
  have F_Scheme_bars : Fun K "bars" "Scheme.bars" sSBa (ma K (ga K "Scheme") "bars") fd_Scheme_bars := fun_of Fk_Scheme_bars
  have b_Scheme_bars := F_Scheme_bars.binds (ps := ["self"]) fun _ _ _ _ _ _ us hl => match us, hl with | [_], _ => rfl
  have m_Scheme_rule := meth_ok (ft 69 (f := .meth "Scheme" "rule") rfl)
  obtain ⟨fd_Scheme_rule, Fk_Scheme_rule⟩ := c.def_ 42 (d := d_Scheme_rule) rfl
  have Fk_Scheme_rule : FunD K "rule" "Scheme.rule" (defArgs sSR1) (defBody sSR1) (defScope sSR1) [] [] (ma K (ga K "Scheme") "rule") fd_Scheme_rule := Fk_Scheme_rule
  have F_Scheme_rule : Fun K "rule" "Scheme.rule" sSR1 (ma K (ga K "Scheme") "rule") fd_Scheme_rule := fun_of Fk_Scheme_rule
  have b_Scheme_rule := F_Scheme_rule.binds (ps := ["self", "name"]) fun _ _ _ _ _ _ us hl => match us, hl with | [_, _], _ => rfl
  have m_Scheme_bar := meth_ok (ft 70 (f := .meth "Scheme" "bar") rfl)
  obtain ⟨fd_Scheme_bar, Fk_Scheme_bar⟩ := c.def_ 43 (d := d_Scheme_bar) rfl
  have Fk_Scheme_bar : FunD K "bar" "Scheme.bar" (defArgs sSB1) (defBody sSB1) (defScope sSB1) [] [] (ma K (ga K "Scheme") "bar") fd_Scheme_bar := Fk_Scheme_bar
  have F_Scheme_bar : Fun K "bar" "Scheme.bar" sSB1 (ma K (ga K "Scheme") "bar") fd_Scheme_bar := fun_of Fk_Scheme_bar
  have b_Scheme_bar := F_Scheme_bar.binds (ps := ["self", "name"]) fun _ _ _ _ _ _ us hl => match us, hl with | [_, _], _ => rfl
  have t_abs := free_ok X G (ft 71 (f := .free "abs") rfl)
  have t_int := free_ok X G (ft 72 (f := .free "int") rfl)
  have t_len := free_ok X G (ft 73 (f := .free "len") rfl)
  have t_range := free_ok X G (ft 74 (f := .free "range") rfl)
  have t_all := free_ok X G (ft 75 (f := .free "all") rfl)
  have t_tuple := free_ok X G (ft 76 (f := .free "tuple") rfl)
  have t_enumerate := free_ok X G (ft 77 (f := .free "enumerate") rfl)
  have t_isinstance := free_ok X G (ft 78 (f := .free "isinstance") rfl)
  have t_ValueError := free_ok X G (ft 79 (f := .free "ValueError") rfl)
  have t_list := free_ok X G (ft 80 (f := .free "list") rfl)
  have t_str := free_ok X G (ft 81 (f := .free "str") rfl)
  have t_min := free_ok X G (ft 82 (f := .free "min") rfl)
  have e := hfa.symm.trans g_law
  cases e
  have T : TxB mg := ⟨t_abs, t_int, t_len, t_range, t_all, t_tuple, t_enumerate, t_isinstance, t_ValueError⟩
  have TN : TxN mg := ⟨str_ok X G (ft 83 rfl), str_ok X G (ft 84 rfl), int_ok X G (ft 85 rfl)⟩
  have TS : TxS mg := ⟨int_ok X G (ft 86 rfl), int_ok X G (ft 87 rfl), int_ok X G (ft 88 rfl), int_ok X G (ft 89 rfl)⟩
  have TP : TxP mg := ⟨int_ok X G (ft 90 rfl), int_ok X G (ft 91 rfl)⟩
  obtain ⟨dW0, FW⟩ := c.def_ 44 (d := dWho) rfl
  have FW : FunD K "__init__" "WhoError.__init__" (defArgs sW0) (defBody sW0) (defScope sW0) [.str (PySem.Str.ofString "whoerror")] [] (ma K (ga K "WhoError") "__init__") dW0 := FW
  obtain ⟨ds, hds, bW⟩ := FW.binds1 (ps := ["self", "kind"]) 2 1 (by simp) (by rfl) (fun T kV doc pm an cdv ct us its hu hi => match us, hu, its, hi with | [_, _], _, [_], _ => ⟨_, rfl, rfl⟩)
  cases hds
  have ww := whoB_ok qw
  have TW : WhoT K mg (ga K "WhoError") (ma K (ga K "WhoError") "__init__") dW0 := ⟨g_WhoError, ww.1, ww.2, FW.kp, bW⟩
  have E0 := errB_ok (x := "NoName") qe0 g_NoName
  have E1 := errB_ok (x := "NoRule") qe1 g_NoRule
  have E2 := errB_ok (x := "NoBar") qe2 g_NoBar
  have TER : TxE K mg "NoRule" (ga K "NoRule") (ga K "WhoError") (ga K "NoBar") "NoBar" := ⟨g_NoRule, g_WhoError, g_NoBar, E1.2.2.2, E1.2.1, E1.1.nf, E1.2.2.1, of_decide_eq_true qk1, of_decide_eq_true qk2⟩
  have TEB : TxE K mg "NoBar" (ga K "NoBar") (ga K "WhoError") (ga K "NoRule") "NoRule" := ⟨g_NoBar, g_WhoError, g_NoRule, E2.2.2.2, E2.2.1, E2.1.nf, E2.2.2.1, of_decide_eq_true qk3, of_decide_eq_true qk4⟩
  have TC : TxSch K mg (ga K "Scheme") (ma K (ga K "Scheme") "__init__") := ⟨cls_Scheme, na_Scheme_own_sorts, na_Scheme_own_words, na_Scheme_own_makings, na_Scheme_own_rules, na_Scheme_own_bars, g_Scheme, mk_Scheme⟩
  have TB : TxBar K mg (ga K "Bar") (ma K (ga K "Bar") "__init__") := ⟨cls_Bar, na_Bar_name, na_Bar_variables, na_Bar_conditions, g_Bar, mk_Bar⟩
  have TR : TxRul K mg (ga K "Rule") (ma K (ga K "Rule") "__init__") := ⟨cls_Rule, na_Rule_name, na_Rule_variables, na_Rule_conditions, na_Rule_gives, na_Rule_by, g_Rule, mk_Rule⟩
  have TM : TxMak K mg (ga K "Making") (ma K (ga K "Making") "__init__") := ⟨cls_Making, na_Making_maker, na_Making_made, na_Making_down, na_Making_up, g_Making, mk_Making⟩
  obtain ⟨dSi, FSi⟩ := c.def_ 45 (d := dSch) rfl
  have FSi : FunD K "__init__" "Scheme.__init__" (defArgs sSch) (defBody sSch) (defScope sSch) [.non, .non, .non] [] (ma K (ga K "Scheme") "__init__") dSi := FSi
  obtain ⟨dss, hdss, bSi⟩ := FSi.binds1 (ps := ["self", "sorts", "words", "makings", "rules", "bars"]) 6 3 (by simp) (by rfl) (fun T kV doc pm an cdv ct us its hu hi => match us, hu, its, hi with | [_, _, _, _, _, _], _, [_, _, _], _ => ⟨_, rfl, rfl⟩)
  cases hdss
  have tR := insB_ok iR cls_Rule
  have tB := insB_ok iB cls_Bar
  refine ⟨_, fun s v => FLb s [v] rfl, fun base _ _ => ?_⟩
  have GW : FnOk P w K mg base CX0 1 _ dW0 ["self", "kind"] (spWI K) := ok_who FW
  have GI0 : FnOk P w K mg base CX0 2 _ _ ["self", "name"] (spE1 (ga K "NoName") "name" "noname") := ok_noname F_NoName___init__ E0.1 TW GW
  have GI1 : FnOk P w K mg base CX0 2 _ _ ["self", "name"] (spE1 (ga K "NoRule") "name" "norule") := ok_norule F_NoRule___init__ E1.1 TW GW
  have GI2 : FnOk P w K mg base CX0 2 _ _ ["self", "name"] (spE1 (ga K "NoBar") "name" "nobar") := ok_nobar F_NoBar___init__ E2.1 TW GW
  have GIs : FnOk P w K mg base CX0 1 _ _ ["text"] spName := ok_name F_is_name T TN
  have GRN : FnOk P w K mg base (L2.CX P w) 4 _ _ ["texts"] (spRN K (ga K "NoName")) := ok_rn F_refuse_no_name D_is_name GIs E0.1 b_NoName___init__ GI0
  have GRV : FnOk P w K mg base CX0 2 _ _ ["texts"] (spRNv K) := ok_rnv F_refuse_no_name D_is_name GIs
  have GRT : FnOk P w K mg base CX0 2 _ _ ["names"] (spFT K) := ok_rt F_refuse_twice T D_first_twice
  have GCP : FnOk P w K mg base (L2.CX P w) 5 _ _ ["name", "variables", "conditions", "given", "hands"] (spCP K (ga K "NoName")) := ok_cp F_check_pattern T TP D_refuse_count D_refuse_no_name D_texts_of_pattern D_refuse_twice D_refuse_no_variable D_ends_of D_refuse_loose D_refuse_apart GRN GRT
  have GB : FnOk P w K mg base (L2.CX P w) 6 _ _ ["self", "name", "variables", "conditions"] (spBar K (ga K "NoName") (ga K "Bar")) := ok_bar F_Bar___init__ T TB D_tuple_of_tuples D_check_pattern GCP
  have GR : FnOk P w K mg base (L2.CX P w) 6 _ _ ["self", "name", "variables", "conditions", "gives", "by"] (spRul K (ga K "NoName") (ga K "Rule")) := ok_rul F_Rule___init__ T TR D_tuple_of_tuples D_check_pattern GCP
  have GM : FnOk P w K mg base (L2.CX P w) 5 _ _ ["self", "maker", "made", "down", "up"] (spMak K (ga K "NoName") (ga K "Making")) := ok_mak F_Making___init__ T TM D_refuse_no_name D_refuse_twice GRN GRT
  have GCS : FnOk P w K mg base CX0 3 _ _ ["sorts", "words", "makings", "rules", "bars"] (spCS K (ga K "Making") (ga K "Rule") (ga K "Bar")) := ok_cs F_check_scheme T TS TM TR TB D_refuse_count D_refuse_no_name D_refuse_twice D_refuse_makings_twice D_refuse_no_sort D_refuse_upward D_refuse_no_word D_first_twice GRV GRT
  have GS : FnOk P w K mg base CX0 4 _ dSi ["self", "sorts", "words", "makings", "rules", "bars"] (spSch K (ga K "Scheme") (ga K "Making") (ga K "Rule") (ga K "Bar")) := ok_sch FSi t_list TC D_own_list D_check_scheme GCS
  have GRE : FnOk P w K mg base CX0 1 _ _ ["self", "other"] (spRE K (ga K "Rule")) := ok_re F_Rule___eq__ T TR tR.2
  have GBE : FnOk P w K mg base CX0 1 _ _ ["self", "other"] (spBE K (ga K "Bar")) := ok_be F_Bar___eq__ T TB tB.2
  have GNm : FnOk P w K mg base CX0 2 _ _ ["_law_s", "_law_taken"] spNam := ok_nam F__law_name T t_str D__law_digit
  have GN : FnOk P w K mg base CX0 3 _ _ ["_law_s", "_law_many"] spNms := ok_nms F__law_names T D__law_name GNm
  have GRl : FnOk P w K mg base CX0 2 _ _ ["_law_s", "_law_m", "_law_name_here"] (spRle K) := ok_rle F__law_rule T t_min D__law_digit
  have GMk : FnOk P w K mg base CX0 2 _ _ ["_law_s", "_law_m", "_law_maker", "_law_made"] spMkg := ok_mkg F__law_making D__law_digit
  have GMd : FnOk P w K mg base CX0 4 _ _ ["_law_s", "_law_rules", "_law_most"] (spMdl K) := ok_mdl F__law_model T D__law_digit D__law_names GN D__law_rule GRl D__law_making GMk
  have GBr : FnOk P w K mg base CX0 4 _ _ ["_law_s", "_law_m"] (spBrs K) := ok_brs F__law_bars T D__law_digit D__law_names GN D__law_rule GRl
  have MT : Mts P w K mg base (ga K "Scheme") (ga K "Making") (ga K "Rule") (ga K "Bar") (ga K "NoRule") (ga K "NoBar") (ma K (ga K "Scheme") "sorts") (ma K (ga K "Scheme") "words") (ma K (ga K "Scheme") "makings") (ma K (ga K "Scheme") "rules") (ma K (ga K "Scheme") "bars") (ma K (ga K "Scheme") "rule") (ma K (ga K "Scheme") "bar") (ma K (ga K "Rule") "__eq__") (ma K (ga K "Bar") "__eq__") fd_Scheme_sorts fd_Scheme_words fd_Scheme_makings fd_Scheme_rules fd_Scheme_bars fd_Scheme_rule fd_Scheme_bar fd_Rule___eq__ fd_Bar___eq__ := ⟨m_Scheme_sorts, b_Scheme_sorts, ok_sor F_Scheme_sorts t_list TC, m_Scheme_words, b_Scheme_words, ok_wor F_Scheme_words t_list TC, m_Scheme_makings, b_Scheme_makings, ok_smk F_Scheme_makings t_list TC, m_Scheme_rules, b_Scheme_rules, ok_sru F_Scheme_rules t_list TC, m_Scheme_bars, b_Scheme_bars, ok_sba F_Scheme_bars t_list TC, m_Scheme_rule, b_Scheme_rule, ok_sr1 F_Scheme_rule TC TR E1.1 b_NoRule___init__ GI1, m_Scheme_bar, b_Scheme_bar, ok_sb1 F_Scheme_bar TC TB E2.1 b_NoBar___init__ GI2, tR.1, tB.1, eqneB_ok qR, eqneB_ok qB, GRE, GBE, b_Rule___eq__, b_Bar___eq__⟩
  have GAs : FnOk P w K mg base CX0 5 _ _ ["_law_scheme", "_law_lists", "_law_others"] (spAsk K (ga K "Scheme") (ga K "Making") (ga K "Rule") (ga K "Bar")) := ok_ask F__law_asked T t_list TC TR TB TER TEB MT
  exact ok_law F_law T t_list t_min TC TM TR TB D__law_cell_at D__law_state D__law_digit D__law_model GMd D__law_bars GBr D__law_names GN D__law_asked GAs b_Making___init__ GM b_Rule___init__ GR b_Bar___init__ GB bSi GS
end Wm

open PySem PySem.W PySem.Calls PyProof.Rows
set_option maxRecDepth 100000 in
set_option maxHeartbeats 0 in
theorem PySem.Challenge.cw_whomay_k06_schemes_told_holds : PySem.Challenge.rw_whomay_k06_schemes_told.Holds := by
  w_on; o_law
  refine HandSHeadRun.head_any (r := OpenLaw.row PySem.Challenge.rw_whomay_k06_schemes_told) (q := view (OpenLaw.row PySem.Challenge.rw_whomay_k06_schemes_told).prog [63]) (H := Wm.hkW) (ob := Wm.obW) (M := 20000) (loose := Wm.loW) (d := HandSHeadRun.topDef (OpenLaw.row PySem.Challenge.rw_whomay_k06_schemes_told).prog 63) (kwd := []) Wm.obW_eq
    (by kernel_rfl) (fun s => by kernel_rfl) Wm.runW (by kernel_rfl) (by kernel_rfl) (by kernel_rfl) (by rfl) (by first | assumption | decide +kernel) (by decide +kernel) ⟨rfl, rfl, rfl, rfl, rfl, by decide +kernel⟩ ?hw ?hc
  case hw => w_witness2
  case hc =>
    refine L2.walk_ofE (l := PySem.Challenge.rw_whomay_k06_schemes_told) (n := 63) (k := 8) (x := "_law_script") (CX := L2.CX0) rfl (by decide) (by kernel_rfl) ⟨rfl, by decide, by decide⟩ ?F (fun _ _ _ _ z => z)
    intro w mg fa h Y G hmg0
    obtain ⟨K, KX, c⟩ := Y
    have hmg : mg ("law" : PySem.Str) = some (.ref fa) := by
      have e : (HandSHeadRun.topDef (OpenLaw.row PySem.Challenge.rw_whomay_k06_schemes_told).prog 63).name = ("law" : PySem.Str) := by kernel_rfl
      rw [← e]
      exact hmg0
    obtain ⟨fd, hb, hF⟩ := Wm.facts (P := (PySem.Challenge.rw_whomay_k06_schemes_told).prog) (w := w) KX G hmg c
    exact ⟨K, fd, Wm.spLaw K, KX, hb, fun H a ns hl _ hS => ⟨a, ns, rfl, hS, hl, fun _ => rfl⟩, hF⟩
