import PyProof.Rows.All
import Wide.All
import OpenK.AllK
import Wide.FinOn
import HandS.ForMost
import HandS.ForExc
import HandS.Walk
import HandS.Star
import HandS.Style
import HandS.TupAny
import HandS.ExcInit
import HandS.ExcIs
import HandS.ExcField
import HandS.Defaults
import HandS.Wide
import HandS.ClsMeth
import KE.KExcIs
import KE.GoesEnum
import HandS.FStr
import KE.KCallOwn
import HandS.OwnEq
import HandS.IsInst
import PyProof.ListNew
import PyProof.CollectWalk
import HandS.Zip
import KE.KDictZip
import HandS.HotCalls
import KE.DataCmp
import HandS.Words
import HandS.WordsExc
import KE.KStateDown
import HandS.Head0
import HandS.Head1
import HandS.Head2
import HandS.HeadEnd
import HandS.HeadHook1
import HandS.HeadHook2
import PySem.Challenge.RW_whomay_k03_patterns_alike
set_option Elab.async false
set_option linter.all false
set_option maxRecDepth 100000
set_option maxHeartbeats 4000000
namespace Wm
open PySem L2
def top (i : Nat) : Stmt := PySem.Challenge.pw_whomay_k03_patterns_alike.main.body.getD i (.Pass ⟨0, 0, 0, 0⟩)
abbrev sState : Stmt := top 35
abbrev sDigit : Stmt := top 36
abbrev sW0 : Stmt := inClass (top 2) 0
abbrev sN0 : Stmt := inClass (top 3) 0
abbrev sName : Stmt := top 13
abbrev sRN : Stmt := top 14
abbrev sFT : Stmt := top 15
abbrev sRT : Stmt := top 16
abbrev sRC : Stmt := top 17
abbrev sTT : Stmt := top 21
abbrev sEO : Stmt := top 22
abbrev sTP : Stmt := top 23
abbrev sRV : Stmt := top 24
abbrev sRL : Stmt := top 25
abbrev sRA : Stmt := top 26
abbrev sCP : Stmt := top 27
abbrev sBar : Stmt := inClass (top 31) 0
abbrev sRul : Stmt := inClass (top 32) 0
abbrev sRE : Stmt := inClass (top 32) 1
abbrev sBE : Stmt := inClass (top 31) 1
abbrev sNam : Stmt := top 37
abbrev sNms : Stmt := top 38
abbrev sPar : Stmt := top 39
abbrev sRnm : Stmt := top 40
abbrev sChg : Stmt := top 41
abbrev sMad : Stmt := top 42
abbrev sSty : Stmt := top 43
abbrev sLaw : Stmt := top 44
end Wm
/-! a head by one run: what is asked of the written part is one Bool of one's own -/
namespace Wm
open PySem PySem.Spec PyProof.Rows L2 He ClX
def obsM (ck : PySem.W.Frag → Bool) (fn : List DefD) (K : PySem.W.Frag) : AlD := (ck K && fn.all fun d => d.ok K, fn.map fun d => fnW K d.at_)
def SaysM (ck : PySem.W.Frag → Bool) (fn : List DefD) (K : PySem.W.Frag) : Prop := obsM ck fn K = valD fn
/-- what the module's names, and what the C code keeps, reach in n steps -/
def asM (g : Addr → Option Obj) : Nat → List Addr
  | 0 => [mainGlobals, cStatics]
  | n + 1 => growD g (asM g n)
def obsMG (n : Nat) (ck : PySem.W.Frag → Bool) (fn : List DefD) (g : Addr → Option Obj) : AlD := obsM ck fn (frG g (asM g n))
def hookM (n : Nat) (ck : PySem.W.Frag → Bool) (fn : List DefD) : PySem.W.Hook where
  α := AlD
  obs := fun s => obsMG n ck fn s.heap.get?
  val := fun _ => valD fn
  says := fun _ h => ∃ K : PySem.W.Frag, K.In h ∧ SaysM ck fn K
  of := fun _ _ e => ⟨_, frG_in, e⟩
  keeps := fun _ _ _ ⟨K, hK, c⟩ k => ⟨K, PySem.W.Frag.In.keeps hK k, c⟩
theorem obsMG_eq {n : Nat} {ck : PySem.W.Frag → Bool} {fn : List DefD} {g : Addr → Option Obj} {s : Shared} (h : ∀ a, g a = s.heap.get? a) : obsMG n ck fn g = (hookM n ck fn).obs s := by
  have e : g = s.heap.get? := funext h
  rw [e] <;> rfl
section
variable {ck : PySem.W.Frag → Bool} {fn : List DefD} {K : PySem.W.Frag}
theorem SaysM.says (c : SaysM ck fn K) : ck K = true := (ba (show (ck K && fn.all fun d => d.ok K) = true from congrArg (fun z : AlD => z.1) c)).1
theorem SaysM.def_ (c : SaysM ck fn K) (i : Nat) {d : DefD} (h : fn[i]? = some d := by rfl) : ∃ fd, FunD K d.name d.qual d.params d.body d.scope (d.dvs K) (d.kws K) (fAd K d.at_) fd := by
  have c2 := (ba (show (ck K && fn.all fun d => d.ok K) = true from congrArg (fun z : AlD => z.1) c)).2
  have e : fn.map (fun d => fnW K d.at_) = fn.map DefD.val := congrArg (fun z : AlD => z.2) c
  have e2 : (fn.map fun d => fnW K d.at_)[i]? = (fn.map DefD.val)[i]? := by rw [e]
  rw [List.getElem?_map, List.getElem?_map, h] at e2
  exact DefD.funD (Option.some.inj e2) (List.all_eq_true.mp c2 d (List.mem_of_getElem? h))
end
/-- a def without defaults -/
theorem fun_of {K : PySem.W.Frag} {x q : Str} {st : Stmt} {f : Addr} {fd : FuncData} (F : FunD K x q (defArgs st) (defBody st) (defScope st) [] [] f fd) : Fun K x q st f fd := by
  obtain ⟨oc, od, dV, kV, doc, pm, an, cdv, ct, osl, rfl, l, c, d, _⟩ := F.ex
  have e : dV = .none := by
    rcases d with ⟨_, e⟩ | ⟨n, _⟩
    · exact e
    · exact absurd rfl n
  subst e
  exact ⟨⟨oc, od, kV, doc, pm, an, cdv, ct, osl, rfl, l, c⟩, F.kp⟩
/-- an error class whose objects are made by an __init__ of its own -/
def excB (K : PySem.W.Frag) (C : Addr) : Bool := match K.lookup C with
  | some ⟨.type "type", _, .cls cd, sl⟩ => (match cd.mro, sl.toList with
    | .ref C' :: bm, [_, _, _, _, some (.builtin n), _] => C' == C && (n == "ValueError.__new__" && (!cd.hasDel && (cd.hasDict && PySem.HandSPX.refsVE bm)))
    | _, _ => false)
  | _ => false
theorem excB_ok {K : PySem.W.Frag} {C : Addr} (q : excB K C = true) : ∃ nm q N bs bm sn sub ab col dd k0 k1 k2 k3 k5, K.lookup C = some (excClassObj nm q C N bs bm true sn sub ab col dd k0 k1 k2 k3 k5 "ValueError.__new__") ∧ PySem.HandSPX.refsVE bm = true := by
  unfold excB at q
  split at q
  · rename_i dd cd sl ho
    split at q
    · rename_i C' bm k0 k1 k2 k3 n k5 hm hs
      simp only [Bool.and_eq_true, beq_iff_eq, Bool.not_eq_true'] at q
      obtain ⟨rfl, rfl, hdel, hdi, ht⟩ := q
      obtain ⟨nm, bs, mro, ns, qn, hd, sn, sub, ab, col, del⟩ := cd
      dsimp only at hm hdel hdi
      subst hm hdel hdi
      have hsl : sl = #[k0, k1, k2, k3, some (.builtin "ValueError.__new__"), k5] := by
        obtain ⟨l⟩ := sl
        simp only at hs
        rw [hs]
      subst hsl
      exact ⟨nm, qn, ns, bs, bm, sn, sub, ab, col, dd, k0, k1, k2, k3, k5, ho, ht⟩
    · cases q
  · cases q
/-- WhoError, whose __init__ the others call -/
def whoB (K : PySem.W.Frag) (W : Addr) : Bool := PySem.W.readsIn K W (.type "type") && (eqO (PySem.W.specialIn K (.ref W) "__getattribute__") (some (some (.builtin "type.__getattribute__"))) && (match PySem.W.findCls K (.ref W) (.type "type") "__init__" with
  | some (.val (.ref a)) => decide (a = ma K W "__init__")
  | _ => false))
theorem whoB_ok {K : PySem.W.Frag} {W : Addr} (h : whoB K W = true) : CRead K W (.type "type") ∧ PySem.W.findCls K (.ref W) (.type "type") "__init__" = some (.val (.ref (ma K W "__init__"))) := by
  unfold whoB at h
  obtain ⟨h1, h⟩ := ba h
  obtain ⟨h2, h3⟩ := ba h
  refine ⟨⟨h1, eqO_ok h2⟩, ?_⟩
  split at h3
  · rename_i a e
    rw [e, of_decide_eq_true h3]
  · cases h3
end Wm
/-! the reached fragment, gone through once: what was seen is kept as bits of a number -/
namespace Wm
open PySem PySem.Spec PyProof.Rows L2 He ClX
noncomputable def pushB (as : List Addr) : Nat → List Addr → Nat × List Addr := List.rec (motive := fun _ => Nat → List Addr → Nat × List Addr) (fun v acc => (v, acc)) (fun a _ ih v acc => Bool.rec (motive := fun _ => Nat × List Addr) (ih (Nat.lor v (Nat.shiftLeft 1 a)) (a :: acc)) (ih v acc) (Nat.beq (Nat.mod (Nat.shiftRight v a) 2) 1)) as
noncomputable def lvB (g : Addr → Option Obj) (n : Nat) : List Addr → Nat → List Addr := Nat.rec (motive := fun _ => List Addr → Nat → List Addr) (fun fr _ => fr) (fun _ ih fr v => fr ++ (match pushB (fr.flatMap fun a => match g a with
  | some o => refsD o
  | none => []) v [] with
  | (v', nf) => ih nf v')) n
noncomputable def asB (g : Addr → Option Obj) (n : Nat) : List Addr := lvB g n [mainGlobals, cStatics] (Nat.lor (Nat.shiftLeft 1 mainGlobals) (Nat.shiftLeft 1 cStatics))
noncomputable def obsBG (n : Nat) (ck : PySem.W.Frag → Bool) (fn : List DefD) (g : Addr → Option Obj) : AlD := obsM ck fn (frG g (asB g n))
noncomputable def hookB (n : Nat) (ck : PySem.W.Frag → Bool) (fn : List DefD) : PySem.W.Hook where
  α := AlD
  obs := fun s => obsBG n ck fn s.heap.get?
  val := fun _ => valD fn
  says := fun _ h => ∃ K : PySem.W.Frag, K.In h ∧ SaysM ck fn K
  of := fun _ _ e => ⟨_, frG_in, e⟩
  keeps := fun _ _ _ ⟨K, hK, c⟩ k => ⟨K, PySem.W.Frag.In.keeps hK k, c⟩
theorem obsBG_eq {n : Nat} {ck : PySem.W.Frag → Bool} {fn : List DefD} {g : Addr → Option Obj} {s : Shared} (h : ∀ a, g a = s.heap.get? a) : obsBG n ck fn g = (hookB n ck fn).obs s := by
  have e : g = s.heap.get? := funext h
  rw [e] <;> rfl
end Wm
/-! the run's equation in two: what is looked at behind the top, and the facts, each by a run of its own -/
namespace Wm
open PySem PySem.W PySem.Calls PyProof.Rows HandSHeadRun
noncomputable def RunA (r : OpenRow) (q : Program) (M : Nat) (loose : List PySem.Str) (w : World) : Prop :=
  ∀ os : OsState, (endF (stepQ (denQ tabQ) r.prog w) M r.prog w os).map (fun s => (looksF r.prog (boot_heap w.params) s.abs, seenQ q loose (importedModules r.prog.main.body) (fun s => xlAt q [] s && recOk r.toRowW.records s) s.abs)) = some (true, openGood q loose)
noncomputable def RunB (r : OpenRow) (H : Hook) (ob : SharedT → H.α) (M : Nat) (w : World) : Prop :=
  ∀ os : OsState, (endF (stepQ (denQ tabQ) r.prog w) M r.prog w os).map ob = some (H.val w)
theorem runEq_of {r : OpenRow} {q : Program} {H : Hook} {ob : SharedT → H.α} {M : Nat} {loose : List PySem.Str} {w : World} (a : RunA r q M loose w) (b : RunB r H ob M w) : RunEq r q H ob M loose w := fun os => by
  have a := a os
  have b := b os
  revert a b
  generalize endF (stepQ (denQ tabQ) r.prog w) M r.prog w os = z
  cases z with
  | none =>
    intro a
    cases a
  | some s =>
    intro a b
    have e1 := Option.some.inj a
    have e2 : ob s = H.val w := Option.some.inj b
    obtain ⟨e3, e4⟩ := Prod.mk.inj e1
    show some (_, _, _) = _
    rw [e2]
    exact congrArg some (Prod.ext e3 (Prod.ext e4 rfl))
end Wm
namespace Wm
open PySem L2 He ClX StX
/-- what is asked of an error class of one field -/
def errB (K : PySem.W.Frag) (C fI : Addr) (f : Str) : Bool :=
  eqO (PySem.W.findIn K (.ref C) "__setattr__") (some (some (.builtin "object.__setattr__"))) && (decide (PySem.W.subIn K (.ref C) (.type "BaseException") = some true) && (decide (PySem.W.typeIn K (.ref C) = some (.type "type")) && (PySem.W.keepIn K (.ref C) &&
  (decide (PySem.W.typeIn K (.ref fI) = some (.type "function")) && (eqO (PySem.W.findIn K (.ref C) "kind") (some none) && (eqO (PySem.W.findIn K (.ref C) f) (some none) && (eqO (PySem.W.findIn K (.ref C) "__getattribute__") (some (some (.builtin "BaseException.__getattribute__"))) &&
  (eqO (PySem.W.findIn K (.ref C) "__getattr__") (some none) && (PySem.W.hasDictIn K C && (eqO (PySem.W.findIn K (.ref C) "__class__") (some (some (.builtin "object.__class__"))) && (decide (PySem.W.mroIn K C (.type "object") = some true) &&
  (eqO (PySem.W.findIn K (.ref C) "__init__") (some (some (.ref fI))) && (excB K C && (decide (PySem.W.exmOne K (.ref C) (.ref C) = some true) && (eqO (PySem.W.specialIn K (.builtin "object.__class__") "__get__") (some (some (.builtin "getset_descriptor.__get__"))) && decide (PySem.W.takesIn K (.builtin "object.__class__") = some true))))))))))))))))
def strKB (es : Array DictEntry) : Bool := es.toList.all fun e => match e.key with | .str _ _ => true | _ => false
/-- a class with an __eq__ of its own and no __ne__ -/
def eqneB (K : PySem.W.Frag) (C f : Addr) : Bool := match K.lookup C with
  | some ⟨.type "type", _, .cls cd, sl⟩ => (match cd.mro, sl.toList, K.lookup cd.ns, K.lookup f with
    | [.ref C', .type "object"], [_, _, _, _, some (.builtin _), _], some ⟨_, _, .dict es _, _⟩, some of => C' == C && (!cd.hasDel && (strKB es && (decide (nsFind es "__eq__" = some (.ref f)) && (decide (nsFind es "__ne__" = none) && decide (of.cls = .type "function")))))
    | _, _, _, _ => false)
  | _ => false
def insB (K : PySem.W.Frag) (C : Addr) : Bool := eqO (PySem.W.findIn K (.ref C) "__class__") (some (some (.builtin "object.__class__"))) && (decide (PySem.W.mroIn K C (.type "object") = some true) && (eqO (PySem.W.specialIn K (.builtin "object.__class__") "__get__") (some (some (.builtin "getset_descriptor.__get__"))) && (decide (PySem.W.takesIn K (.builtin "object.__class__") = some true) && decide (PySem.W.kitOne K (.ref C) (.ref C) = some true))))
def eqB (K : PySem.W.Frag) (C f : Addr) : Bool := eqO (PySem.W.findIn K (.ref C) "__eq__") (some (some (.ref f))) && PySem.W.isFn K (.ref f)
def factL : List Fa := [.glo "WhoError", .glo "NoName", .glo "is_name", .glo "refuse_no_name", .glo "first_twice", .glo "refuse_twice", .glo "refuse_count", .glo "tuple_of_tuples", .glo "ends_of", .glo "texts_of_pattern", .glo "refuse_no_variable", .glo "refuse_loose", .glo "refuse_apart", .glo "check_pattern", .glo "_law_state", .glo "_law_digit", .glo "_law_name", .glo "_law_names", .glo "_law_parts", .glo "_law_renamed", .glo "_law_changed", .glo "_law_made", .glo "_law_stays", .glo "law", .glo "Bar", .cls "Bar", .noat "Bar" "name", .noat "Bar" "variables", .noat "Bar" "conditions", .mkr "Bar", .glo "Rule", .cls "Rule", .noat "Rule" "name", .noat "Rule" "variables", .noat "Rule" "conditions", .noat "Rule" "gives", .noat "Rule" "by", .mkr "Rule", .meth "Bar" "__eq__", .meth "Rule" "__eq__", .free "abs", .free "int", .free "len", .free "range", .free "all", .free "tuple", .free "enumerate", .free "isinstance", .free "ValueError", .free "list", .free "str", .free "max", .free "zip", .free "dict", .str "LETTERS" "abcdefghijklmnopqrstuvwxyz", .str "FIGURES" "0123456789", .int "LONGEST_NAME" 12, .int "MOST_VARIABLES" 4, .int "MOST_CONDITIONS" 3]
def ck (K : PySem.W.Frag) : Bool := factL.all (fun f => f.ok K) && (whoB K (ga K "WhoError") && (errB K (ga K "NoName") (ma K (ga K "NoName") "__init__") "name" && (eqneB K (ga K "Rule") (ma K (ga K "Rule") "__eq__") && (eqneB K (ga K "Bar") (ma K (ga K "Bar") "__eq__") && (insB K (ga K "Rule") && (insB K (ga K "Bar") && (eqB K (ga K "Rule") (ma K (ga K "Rule") "__eq__") && (eqB K (ga K "Bar") (ma K (ga K "Bar") "__eq__") && (PySem.W.notFirst K (ga K "Rule") (.ref (ga K "Rule")) && (PySem.W.notFirst K (ga K "Rule") (.ref (ga K "Bar")) && (PySem.W.notFirst K (ga K "Bar") (.ref (ga K "Rule")) && (PySem.W.notFirst K (ga K "Bar") (.ref (ga K "Bar")) && (decide (PySem.W.kitOne K (.ref (ga K "Rule")) (.ref (ga K "Bar")) = some false) && (decide (PySem.W.kitOne K (.ref (ga K "Bar")) (.ref (ga K "Rule")) = some false)))))))))))))))
def d_is_name : DefD := ⟨("is_name", none), "is_name", "is_name", defArgs sName, defBody sName, defScope sName, [], []⟩
def d_refuse_no_name : DefD := ⟨("refuse_no_name", none), "refuse_no_name", "refuse_no_name", defArgs sRN, defBody sRN, defScope sRN, [], []⟩
def d_first_twice : DefD := ⟨("first_twice", none), "first_twice", "first_twice", defArgs sFT, defBody sFT, defScope sFT, [], []⟩
def d_refuse_twice : DefD := ⟨("refuse_twice", none), "refuse_twice", "refuse_twice", defArgs sRT, defBody sRT, defScope sRT, [], []⟩
def d_refuse_count : DefD := ⟨("refuse_count", none), "refuse_count", "refuse_count", defArgs sRC, defBody sRC, defScope sRC, [], []⟩
def d_tuple_of_tuples : DefD := ⟨("tuple_of_tuples", none), "tuple_of_tuples", "tuple_of_tuples", defArgs sTT, defBody sTT, defScope sTT, [], []⟩
def d_ends_of : DefD := ⟨("ends_of", none), "ends_of", "ends_of", defArgs sEO, defBody sEO, defScope sEO, [], []⟩
def d_texts_of_pattern : DefD := ⟨("texts_of_pattern", none), "texts_of_pattern", "texts_of_pattern", defArgs sTP, defBody sTP, defScope sTP, [], []⟩
def d_refuse_no_variable : DefD := ⟨("refuse_no_variable", none), "refuse_no_variable", "refuse_no_variable", defArgs sRV, defBody sRV, defScope sRV, [], []⟩
def d_refuse_loose : DefD := ⟨("refuse_loose", none), "refuse_loose", "refuse_loose", defArgs sRL, defBody sRL, defScope sRL, [], []⟩
def d_refuse_apart : DefD := ⟨("refuse_apart", none), "refuse_apart", "refuse_apart", defArgs sRA, defBody sRA, defScope sRA, [], []⟩
def d_check_pattern : DefD := ⟨("check_pattern", none), "check_pattern", "check_pattern", defArgs sCP, defBody sCP, defScope sCP, [], []⟩
def d__law_state : DefD := ⟨("_law_state", none), "_law_state", "_law_state", defArgs sState, defBody sState, defScope sState, [], []⟩
def d__law_digit : DefD := ⟨("_law_digit", none), "_law_digit", "_law_digit", defArgs sDigit, defBody sDigit, defScope sDigit, [], []⟩
def d__law_name : DefD := ⟨("_law_name", none), "_law_name", "_law_name", defArgs sNam, defBody sNam, defScope sNam, [], []⟩
def d__law_names : DefD := ⟨("_law_names", none), "_law_names", "_law_names", defArgs sNms, defBody sNms, defScope sNms, [], []⟩
def d__law_parts : DefD := ⟨("_law_parts", none), "_law_parts", "_law_parts", defArgs sPar, defBody sPar, defScope sPar, [], []⟩
def d__law_renamed : DefD := ⟨("_law_renamed", none), "_law_renamed", "_law_renamed", defArgs sRnm, defBody sRnm, defScope sRnm, [], []⟩
def d__law_changed : DefD := ⟨("_law_changed", none), "_law_changed", "_law_changed", defArgs sChg, defBody sChg, defScope sChg, [], []⟩
def d__law_made : DefD := ⟨("_law_made", none), "_law_made", "_law_made", defArgs sMad, defBody sMad, defScope sMad, [], []⟩
def d__law_stays : DefD := ⟨("_law_stays", none), "_law_stays", "_law_stays", defArgs sSty, defBody sSty, defScope sSty, [], []⟩
def d_law : DefD := ⟨("law", none), "law", "law", defArgs sLaw, defBody sLaw, defScope sLaw, [], []⟩
def d_NoName___init__ : DefD := ⟨("NoName", some "__init__"), "__init__", "NoName.__init__", defArgs sN0, defBody sN0, defScope sN0, [], []⟩
def d_Bar___init__ : DefD := ⟨("Bar", some "__init__"), "__init__", "Bar.__init__", defArgs sBar, defBody sBar, defScope sBar, [], []⟩
def d_Rule___init__ : DefD := ⟨("Rule", some "__init__"), "__init__", "Rule.__init__", defArgs sRul, defBody sRul, defScope sRul, [], []⟩
def d_Bar___eq__ : DefD := ⟨("Bar", some "__eq__"), "__eq__", "Bar.__eq__", defArgs sBE, defBody sBE, defScope sBE, [], []⟩
def d_Rule___eq__ : DefD := ⟨("Rule", some "__eq__"), "__eq__", "Rule.__eq__", defArgs sRE, defBody sRE, defScope sRE, [], []⟩
def dWho : DefD := ⟨("WhoError", some "__init__"), "__init__", "WhoError.__init__", defArgs sW0, defBody sW0, defScope sW0, [.str "whoerror"], []⟩
def fnL : List DefD := [d_is_name, d_refuse_no_name, d_first_twice, d_refuse_twice, d_refuse_count, d_tuple_of_tuples, d_ends_of, d_texts_of_pattern, d_refuse_no_variable, d_refuse_loose, d_refuse_apart, d_check_pattern, d__law_state, d__law_digit, d__law_name, d__law_names, d__law_parts, d__law_renamed, d__law_changed, d__law_made, d__law_stays, d_law, d_NoName___init__, d_Bar___init__, d_Rule___init__, d_Bar___eq__, d_Rule___eq__, dWho]
end Wm
set_option maxHeartbeats 0
namespace Wm
open PySem PySem.W PySem.Calls PyProof.Rows
abbrev RW : OpenRow := OpenLaw.row PySem.Challenge.rw_whomay_k03_patterns_alike
noncomputable abbrev hkW : Hook := hookB 4 ck fnL
noncomputable def obW (s : SharedT) : He.AlD := obsBG 4 ck fnL (HandSHeadRun.getT s)
theorem obW_eq (s : SharedT) : obW s = hkW.obs s.abs := obsBG_eq (HandSHeadRun.getT_eq s)
def lo0 : List PySem.Str := ["_wall", "WhoError", "NoName", "BadCount", "Twice", "NoVariable", "Loose", "Apart", "LETTERS", "FIGURES", "LONGEST_NAME", "is_name", "refuse_no_name", "first_twice", "refuse_twice", "refuse_count", "MOST_VARIABLES", "MOST_CONDITIONS", "tuple_of_tuples", "ends_of", "texts_of_pattern", "refuse_no_variable", "refuse_loose", "refuse_apart", "check_pattern", "variable_part", "pattern_parts", "rule_parts", "Bar", "Rule"]
def lo1 : List PySem.Str := ["_law_cell_at", "_law_state", "_law_digit", "_law_name", "_law_names", "_law_parts", "_law_renamed", "_law_changed", "_law_made", "_law_stays"]
def loW : List PySem.Str := lo0 ++ lo1
theorem runWA (w : World) : RunA RW (view RW.prog [44]) 20000 loW w := by
  intro os
  kernel_rfl
theorem runWB (w : World) : RunB RW hkW obW 20000 w := by
  intro os
  kernel_rfl
theorem runW (w : World) : HandSHeadRun.RunEq RW (view RW.prog [44]) hkW obW 20000 loW w := runEq_of (runWA w) (runWB w)
end Wm
namespace Wm
open PySem L2
/-- the digits' state at p -/
def StOk (H : Hp) (p : Addr) : Prop := ∃ a b c : Int, H p = some (.lst [.int a, .int b, .int c]) ∧ 0 ≤ a ∧ 0 ≤ b ∧ b ≤ 2147483636 ∧ 0 ≤ c ∧ c < 2147483648
/-- all that was tracked is as it was, but at p -/
def But (p : Addr) (H H' : Hp) : Prop := ∀ q o, q ≠ p → H q = some o → H' q = some o
theorem But.refl (p : Addr) (H : Hp) : But p H H := fun _ _ _ h => h
theorem But.trans {p : Addr} {H H1 H2 : Hp} (a : But p H H1) (b : But p H1 H2) : But p H H2 := fun q o n h => b q o n (a q o n h)
theorem But.upd {p : Addr} {H : Hp} {o : HO} : But p H (upd H p o) := fun q o n h => by rw [upd_ne n]; exact h
theorem Same.but {p : Addr} {H H1 : Hp} (a : Same H H1) : But p H H1 := fun q o _ h => a q o h
theorem Same.upd {p : Addr} {H : Hp} {o : HO} (n : H p = none) : Same H (upd H p o) := fun q o h => by rw [upd_ne (ne_of_none h n)]; exact h
theorem But.same {p : Addr} {H0 H H1 : Hp} (n : H0 p = none) (a : Same H0 H) (b : But p H H1) : Same H0 H1 := fun q o h => b q o (ne_of_none h n) (a q o h)
def spState : Sp := fun vs H Q _ => ∃ i : Int, vs = [.int i] ∧ ∀ p H', H p = none → Same H H' → StOk H' p → Q (.ref p) H'
def spDigit : Sp := fun vs H Q _ => ∃ (p : Addr) (n : Int), vs = [.ref p, .int n] ∧ StOk H p ∧ 0 < n ∧ n < 1073741824 ∧ ∀ (d : Int) H', 0 ≤ d → d < n → But p H H' → StOk H' p → Q (.int d) H'
structure TxB (mg : Str → Option Value) : Prop where
  abs : mg "abs" = none
  int : mg "int" = none
  len : mg "len" = none
  range : mg "range" = none
  all : mg "all" = none
  tuple : mg "tuple" = none
  enumerate : mg "enumerate" = none
  isinstance : mg "isinstance" = none
  ve : mg "ValueError" = none
section
variable {P : Program} {w : World} {K : PySem.W.Frag} {mg : Str → Option Value} {base : Heap}
theorem scState : FnScope ["_law_cell"] ["_law_cell"] (defScope sState) := ⟨rfl, rfl, rfl, by decide +kernel, rfl, by decide +kernel, by decide +kernel⟩
theorem ok_state {f : Addr} {fd : FuncData} (F : Fun K "_law_state" "_law_state" sState f fd) (T : TxB mg) : FnOk P w K mg base CX0 1 f fd ["_law_cell"] spState := by
  refine F.ok scState (fun vs H Q E h => ?_) (fun cdv A outer s H vs Q E hr h => ?_)
  · obtain ⟨i, rfl, _⟩ := h
    rfl
  · obtain ⟨i, rfl, k⟩ := h
    refine ⟨_, pss_cons (ps_set (i := 0) scState.nd rfl (Or.inl rfl) (pe_callB call_abs (by rfl) T.abs (by decide +kernel) (pa_cons (pv 0) pa_nil)))
      (pss_one (ps_ret (pe_lst (pa_cons (pe_op op_mul (pv 0) (pe_callTy call_int1 (by rfl) T.int (by decide +kernel) (pa_cons (pe_cmpR op_ge (pv 0) (pe_op op_pow pe_int pe_int) (nomark _)) pa_nil)))
        (pa_cons (pe_op op_add (pe_op op_mod (pv 0) pe_int) pe_int) (pa_cons (pe_op op_mod (pv 0) pe_int) pa_nil)))))), ?_⟩
    refine ⟨_, rfl, _, rfl, ?_⟩
    generalize hj : (if i < 0 then -i else i) = j
    have hj0 : 0 ≤ j := by rw [← hj]; split <;> omega
    refine ⟨_, rfl, _, rfl, _, _, rfl, rfl, ⟨by decide, by decide, by decide⟩, _, _, rfl, rfl, .inr ⟨_, rfl, ?_⟩⟩
    refine ⟨_, _, rfl, rfl, .inr ⟨?_, ?_⟩, _, rfl, _, _, rfl, rfl, (by show (0 : Int) < 2147483629; decide), _, _, rfl, rfl, _, rfl, _, _, rfl, rfl, (by show (0 : Int) < 2147483587; decide), (by show 3 ≤ sizeLine; decide), fun p hp => ?_⟩
    · split <;> decide
    · split <;> decide
    · refine k p _ hp (Same.upd hp) ⟨_, _, _, upd_same, ?_, ?_, ?_, ?_, ?_⟩
      · split
        · omega
        · omega
      · have := Int.emod_nonneg j (show (2147483629 : Int) ≠ 0 by decide); omega
      · have := Int.emod_lt_of_pos j (show (0 : Int) < 2147483629 by decide); omega
      · exact Int.emod_nonneg j (by decide)
      · have := Int.emod_lt_of_pos j (show (0 : Int) < 2147483587 by decide); omega
theorem scDigit : FnScope ["_law_state_here", "_law_base", "_law_found", "_law_more"] ["_law_state_here", "_law_base"] (defScope sDigit) := ⟨rfl, rfl, rfl, by decide +kernel, rfl, by decide +kernel, by decide +kernel⟩
theorem ok_digit {f : Addr} {fd : FuncData} (F : Fun K "_law_digit" "_law_digit" sDigit f fd) : FnOk P w K mg base CX0 1 f fd ["_law_state_here", "_law_base"] spDigit := by
  refine F.ok scDigit (fun vs H Q E h => ?_) (fun cdv A outer s H vs Q E hr h => ?_)
  · obtain ⟨p, n, rfl, _⟩ := h
    rfl
  · obtain ⟨p, n, rfl, ⟨a, b, c, hp, ha, hb, hb2, hc, hc2⟩, hn, hn2, k⟩ := h
    refine ⟨_, pss_cons (ps_if (pt_cmpR op_gt (pe_ix ix_list (pv 0) pe_int (fun _ _ => rfl)) pe_int (nomark _))
        (pss_cons (ps_set (i := 2) scDigit.nd rfl (Or.inl rfl) (pe_op op_mod (pe_ix ix_list (pv 0) pe_int (fun _ _ => rfl)) (pv 1)))
          (pss_cons (ps_asg (pe_op op_fdiv (pe_ix ix_list (pv 0) pe_int (fun _ _ => rfl)) (pv 1)) (pg_sub (pv 0) pe_int set_list)) (pss_one (ps_ret (pv 2))))) pss_nil)
      (pss_cons (ps_set (i := 3) scDigit.nd rfl (Or.inl rfl) (pe_op op_mul (pe_ix ix_list (pv 0) pe_int (fun _ _ => rfl)) (pe_op op_add (pe_op op_fdiv (pe_ix ix_list (pv 0) pe_int (fun _ _ => rfl)) pe_int) pe_int)))
      (pss_cons (ps_asg (pe_op op_add (pe_op op_mod (pe_op op_add (pv 3) (pe_ix ix_list (pv 0) pe_int (fun _ _ => rfl))) pe_int) pe_int) (pg_sub (pv 0) pe_int set_list))
      (pss_one (ps_ret (pe_op op_mod (pe_op op_fdiv (pe_ix ix_list (pv 0) pe_int (fun _ _ => rfl)) pe_int) (pv 1)))))), ?_⟩
    refine ⟨_, rfl, p, _, _, _, rfl, rfl, SqL.of hp, atI_nat (j := 0) rfl, _, _, rfl, rfl, _, rfl, ?_⟩
    refine ite2 (fun h0 => ?_) (fun h0 => ?_)
    · refine ⟨_, rfl, p, _, _, _, rfl, rfl, SqL.of hp, atI_nat (j := 0) rfl, _, rfl, _, _, rfl, rfl, hn, ?_⟩
      refine ⟨_, rfl, p, _, _, _, rfl, rfl, SqL.of hp, atI_nat (j := 0) rfl, _, rfl, _, _, rfl, rfl, ⟨hn, hn2⟩, _, rfl, p, _, _, 0, rfl, rfl, hp, rfl, _, rfl, ?_⟩
      refine k _ _ (Int.emod_nonneg a (by omega)) (Int.emod_lt_of_pos a hn) But.upd ⟨_, _, _, upd_same, ?_, hb, hb2, hc, hc2⟩
      exact Int.ediv_nonneg ha (by omega)
    · refine ⟨_, rfl, p, _, _, _, rfl, rfl, SqL.of hp, atI_nat (j := 1) rfl, _, rfl, p, _, _, _, rfl, rfl, SqL.of hp, atI_nat (j := 1) rfl, _, _, rfl, rfl, ⟨by decide, by decide⟩, _, _, rfl, rfl, _, _, rfl, rfl, .inl ⟨?_, ?_⟩, ?_⟩
      · omega
      · omega
      refine ⟨_, rfl, _, rfl, p, _, _, _, rfl, rfl, SqL.of hp, atI_nat (j := 2) rfl, _, _, rfl, rfl, _, _, rfl, rfl, (by show (0 : Int) < 2147483629; decide), _, _, rfl, rfl, _, rfl, p, _, _, 1, rfl, rfl, hp, rfl, ?_⟩
      generalize hm : (b * (b / 1009 + 69621) + c) % 2147483629 = m
      have hm0 : 0 ≤ m := by rw [← hm]; exact Int.emod_nonneg _ (by decide)
      have hm1 : m < 2147483629 := by rw [← hm]; exact Int.emod_lt_of_pos _ (by decide)
      refine ⟨_, rfl, p, _, _, _, rfl, rfl, SqL.of upd_same, atI_nat (j := 1) rfl, _, _, rfl, rfl, ⟨by decide, by decide⟩, _, rfl, _, _, rfl, rfl, hn, ?_⟩
      exact k _ _ (Int.emod_nonneg _ (by omega)) (Int.emod_lt_of_pos _ hn) But.upd ⟨_, _, _, upd_same, ha, by omega, by omega, hc, hc2⟩
end
end Wm
namespace Wm
open PySem L2
/-- a def of the module's top -/
structure Dn (K : PySem.W.Frag) (mg : Str → Option Value) (x : Str) (st : Stmt) (ps : List Str) (f : Addr) (fd : FuncData) : Prop where
  F : Fun K x x st f fd
  g : mg x = some (.ref f)
  b : Binds K fd ps []
theorem str_at (z : Str) {i : Int} (h0 : 0 ≤ i) (h1 : i < z.length) : ∃ c, z.cps[i.toNat]? = some c := by
  have h : i.toNat < z.cps.size := by
    have e : z.length = z.cps.size := rfl
    omega
  exact ⟨z.cps[i.toNat], Array.getElem?_eq_getElem h⟩
/-- every sign is one of unicode's -/
def okS (z : Str) : Prop := ∀ c ∈ z.cps.toList, c < 1114112
theorem okS_one {c : Nat} (h : c < 1114112) : okS ⟨#[c]⟩ := fun d hd => by
  have e : d = c := by simpa using hd
  rw [e]
  exact h
theorem okS_app {a b : Str} (ha : okS a) (hb : okS b) : okS (a ++ b) := fun c hc => by
  have e : (a ++ b).cps.toList = a.cps.toList ++ b.cps.toList := by
    show (a.cps ++ b.cps).toList = _
    simp
  rw [e] at hc
  rcases List.mem_append.mp hc with h | h
  · exact ha c h
  · exact hb c h
theorem rdItem {z : Str} {i : Int} {n : Nat} {H : Hp} {Q : VK} (hz : z.length = n) (h0 : 0 ≤ i) (h1 : i < n) (hn : n < 1000000) (h : ∀ c, z.cps.toList[i.toNat]? = some c → Q (.str ⟨#[c]⟩) H) : rIxS (.str z) (.int i) H Q := by
  have h2 : i < z.length := by rw [hz]; exact h1
  obtain ⟨c, hc⟩ := str_at z h0 h2
  have hl : z.cps.toList[i.toNat]? = some c := by simpa using hc
  have e : i = ((i.toNat : Nat) : Int) := by omega
  refine ⟨z, i, c, rfl, rfl, by rw [hz]; exact Nat.le_trans (Nat.le_of_lt hn) (by decide), ?_, h c hl⟩
  rw [e]
  exact atI_nat hl
theorem abcOk : ∀ c ∈ (PySem.Str.ofString "abcdefghijklmnopqrstuvwxyz0123456789").cps.toList, c < 1114112 := by decide +kernel
theorem abc36 : (PySem.Str.ofString "abcdefghijklmnopqrstuvwxyz0123456789").length = 36 := by decide +kernel
theorem len_app (a b : Str) : (a ++ b).length = a.length + b.length := by
  show (a.cps ++ b.cps).size = a.cps.size + b.cps.size
  exact Array.size_append
theorem len_one (c : Nat) : (⟨#[c]⟩ : Str).length = 1 := rfl
def spSign : Sp := fun vs H Q _ => ∃ i : Int, vs = [.int i] ∧ ∀ c, c < 1114112 → Q (.str ⟨#[c]⟩) H
def spPlain : Sp := fun vs H Q _ => ∃ (p : Addr) (n : Int), vs = [.ref p, .int n] ∧ StOk H p ∧ 1 ≤ n ∧ n ≤ 15 ∧ ∀ (z : Str) H', z.length ≤ 15 → okS z → But p H H' → StOk H' p → Q (.str z) H'
def spText : Sp := fun vs H Q _ => ∃ (p : Addr), vs = [.ref p] ∧ StOk H p ∧ ∀ (z : Str) H', z.length ≤ 40 → okS z → But p H H' → StOk H' p → Q (.str z) H'
section
variable {P : Program} {w : World} {K : PySem.W.Frag} {mg : Str → Option Value} {base : Heap}
end
end Wm
namespace Wm
open PySem L2
theorem strs_at {zs : List Str} {n : Nat} (h : ∀ z ∈ zs, z.length ≤ n) (ho : ∀ z ∈ zs, ∀ c ∈ z.cps.toList, c < 1114112) {j : Nat} (hj : j < zs.length) : ∃ z, (zs.map V.str)[j]? = some (.str z) ∧ z.length ≤ n ∧ okS z :=
  ⟨zs[j], by simp [hj], h _ (List.getElem_mem hj), ho _ (List.getElem_mem hj)⟩
theorem okS_cut {z : Str} (h : okS z) (lo hi : Option Int) : okS (cutS z lo hi) := fun c hc => by
  have hc' : c ∈ (z.cps.toList.drop (HT.sIx z.length 0 lo)).take (HT.sIx z.length z.length hi - HT.sIx z.length 0 lo) := hc
  exact h c (List.mem_of_mem_drop (List.mem_of_mem_take hc'))
theorem okS_join {a : Str} {ys : List Str} (ha : okS a) (h : ∀ y ∈ ys, okS y) : okS (Txt.join a ys) := by
  have e : Txt.join a ys = Str.join a ys := StrLaws.glued_eq_join a ys
  rw [e]
  clear e
  induction ys with
  | nil => exact fun c hc => (List.not_mem_nil (show c ∈ ([] : List Nat) from hc)).elim
  | cons y r ih =>
    cases r with
    | nil => exact h y List.mem_cons_self
    | cons z r =>
      show okS (y ++ a ++ Str.join a (z :: r))
      exact okS_app (okS_app (h y List.mem_cons_self) ha) (ih fun x hx => h x (List.mem_cons_of_mem _ hx))
theorem rdList {K : PySem.W.Frag} {p : Addr} {xs : List V} {i : Int} {j : Nat} {v : V} {H : Hp} {Q : VK} (hp : H p = some (.lst xs)) (e : i = (j : Int)) (hv : xs[j]? = some v) (h : Q v H) : rIxL K (.ref p) (.int i) H Q :=
  ⟨p, xs, i, v, rfl, rfl, SqL.of hp, at_of e hv, h⟩
theorem But.free {p D : Addr} {H H' : Hp} (b : But p H H') (n : D ≠ p) (h : H' D = none) : H D = none := by
  cases e : H D with
  | none => rfl
  | some o =>
    rw [b D o n e] at h
    cases h
theorem sum_ones : ∀ {ys : List Str}, (∀ y ∈ ys, y.length = 1) → (ys.map (·.length)).sum = ys.length
  | [], _ => rfl
  | y :: ys, h => by
    rw [List.map_cons, List.sum_cons, List.length_cons, h y List.mem_cons_self, sum_ones fun z hz => h z (List.mem_cons_of_mem _ hz)]
    omega
theorem join_len (a : Str) (ys : List Str) : (Txt.join a ys).length ≤ (ys.map (·.length)).sum + ys.length * a.length := by
  show (Builtin.Str.glued a ys).length ≤ _
  rw [StrLaws.glued_eq_join]
  exact StrLaws.join_length_le a ys
section
variable {P : Program} {w : World} {K : PySem.W.Frag} {mg : Str → Option Value} {base : Heap}
end
end Wm
namespace Wm
open PySem PySem.Spec PyProof.Rows L2 ClX
section
variable {X : Cx} {CX : CXT} {k : Nat} {C f : Addr} {fd : FuncData} {ps : List Str} {sp : Sp} {E : XK} {e : Expr} {es : List Expr} {t : TA} {x m : Str} {p1 p2 pos : Pos} {ds : List Value} {dvs : List V}
/-- C.f(e, ..), f a def of the class C -/
theorem pe_clsFn {pl : Sem Bool} {mc : Value} (hg : Gl X x) (hm : X.mg x = some (.ref C)) (r : CRead X.K C mc) (ht : PySem.W.findCls X.K (.ref C) mc m = some (.val (.ref f))) (hk : PySem.W.keepIn X.K (.ref f) = true) (F : FnOk X.prog X.w X.K X.mg X.base CX k f fd ps sp)
    (hr : Room k X.A) (hb : Binds X.K fd ps ds) (hd : Vals dvs ds) (hx : Passes CX X E) (ha : PA X (e :: es) t)
    (hc : eval (.Call (.Attribute (.Name x p1) m p2) (e :: es) [] pos) X.env = (do
      let ov ← eval (.Name x p1) X.env
      standAt p2.atName
      let (f, first) ← holding [ov] (getMethod ov m pl)
      callWith pos f first (backTo pos (starEach (e :: es) X.env)) (backToKw pos (keywordEach [] X.env))) := by rfl)
    (hdb : (x == ("__debug__" : Str)) = false := by decide) (he : starEach (e :: es) X.env = (false, eval e X.env) :: starEach es X.env := by rfl) (hpl : (backTo pos (starEach es X.env)).any (·.1) = false := by rfl) :
    PE X (.Call (.Attribute (.Name x p1) m p2) (e :: es) [] pos) (tCall sp dvs E t) := by
  refine ⟨fun pins s σ H Q I h => ?_⟩
  refine PySem.W.methodCall_KW (ld_glob I hg hm ?_ hdb) hc
  refine PySem.W.method_cls I.kIn r.ga (PySem.W.cls_value I.kIn r.rd ht rfl ?_)
  show wpAny _ _ (callWith pos (Value.ref f) [] (backTo pos (starEach (e :: es) X.env)) []) _ _ _
  refine PySem.W.callWith_K (h₀ := X.base) I.ok.mod.kin hk (thn (ha.run pos pins _ σ H _ (I.tok _) h) fun us s1 ⟨vs, H1, I1, r1, q⟩ => ⟨I1.kIn, ?_⟩) he hpl
  exact run_fn F hr hb hd hx I1 r1 q
/-- xs + ys, both to be read -/
def rCatR (K : PySem.W.Frag) : R2 := fun x y H Q => ∃ l b xs zs, x = .ref l ∧ y = .ref b ∧ SqL K H l xs ∧ SqL K H b zs ∧ xs.length + zs.length ≤ sizeLine ∧ ∀ p, H p = none → Q (.ref p) (upd H p (.lst (xs ++ zs)))
theorem op_catR : OpR X (binaryOp .Add) (rCatR X.K) := by
  intro pins s σ H x y v u Q I rx ry h
  obtain ⟨l, b, xs, zs, rfl, rfl, hH, hB, hz, q⟩ := h
  cases rx
  cases ry
  obtain ⟨its, r, e, hl⟩ := I.list hH
  obtain ⟨its2, r2, e2, hl2⟩ := I.list hB
  have l1 := r.length
  have l2 := r2.length
  obtain ⟨⟨cls, dd, data, sl⟩, ho, hc, n, hd⟩ := e.isList
  obtain ⟨⟨cls2, dd2, data2, sl2⟩, ho2, hc2, n2, hd2⟩ := e2.isList
  simp only at hc hd hc2 hd2
  subst hc hd hc2 hd2
  refine concat_meets ⟨_, ho, rfl⟩ ⟨_, ho2, rfl⟩ noFill_list_add seq_list_add PySem.F.slot_list_add PySem.F.entry_list_add (PySem.F.args_list_add_2 _ _) (list_addW l b its.toArray its2.toArray n n2 dd dd2 sl sl2 (by rw [List.size_toArray, List.size_toArray]; omega)) ⟨ho, ho2, ?_⟩
  have ea : its.toArray ++ its2.toArray = (its ++ its2).toArray := by simp
  rw [ea]
  exact ⟨.ref _, _, I.lnew (t' := s.toks) (r.append r2) (by rw [List.length_append]; omega), rfl, q _ I.fresh⟩
end
end Wm
namespace Wm
open PySem PySem.Spec PyProof.Rows L2 ClX
/-- isinstance(e, c) in an except suite, e the exception that it holds (its class D, its dict at dd) -/
def rIsX (K : PySem.W.Frag) (D a dd : Addr) : List V → Hp → VK → Prop := fun xs H Q => ∃ (c : V) (cv : Value) (b : Bool) (fs : List (Str × V)), xs = [.ref a, c] ∧ H dd = some (.xd fs) ∧ (∀ u, RelV c u → u = cv) ∧ PySem.W.kitOne K (.ref D) cv = some b ∧ Q (.bl b) H
theorem call_isX {X : Cx} {a D dd : Addr} {oe : Obj} {pn : List (Addr × Obj)} (C : ExcC X.K D) (hz : Zc (.ref D) (some dd) oe) (hf : ∃ vs, oe.data = .fields vs) : CallR (X.suite a ((a, oe) :: pn)) (.builtin "isinstance") (rIsX X.K D a dd) := by
  intro pins s σ H xs us Q I r h
  obtain ⟨c, cv, b, fs, rfl, hdd, hcv, e, q⟩ := h
  cases r with
  | cons rx rr =>
    cases rr with
    | cons rt rr =>
      cases rr
      cases rx
      have ec := hcv _ rt
      subst ec
      obtain ⟨hget, _⟩ := I.pin (a, oe) (List.mem_append.mpr (.inl List.mem_cons_self))
      obtain ⟨vs, hv⟩ := hf
      have hx : ObjOk X.prog X.w H s.heap dd (.xd fs) := I.hok dd _ hdd
      obtain ⟨mA, hns, hr⟩ := hx
      obtain ⟨od, ho, hl⟩ := lookIn_ns hns
      have J : PySem.W.InstAt s.heap a oe D (some od) := ⟨hget, hz.1, by unfold PySem.W.notCls; rw [hv] <;> rfl, by rw [hz.2]; exact ho⟩
      have hcl : (PySem.W.clsIn X.K D).isSome = true := by
        obtain ⟨cd, hc, _⟩ := PySem.W.any_some C.hd
        rw [hc]
        rfl
      exact PySem.W.kia_one (PySem.W.kitx_exc hcl C.hg C.hk C.hs C.ha C.hn C.ht C.hm) I.kIn J e (fun z => nomatch z) fun tk => ⟨.bl b, H, I.kept (t' := tk) fun _ _ z => z, rfl, q⟩
/-! ### errors of one field -/
def spWI (K : PySem.W.Frag) : Sp := fun vs H Q _ => ∃ (a C : Addr) (v : V), vs = [.ref a, v] ∧ OexC K C ∧ PySem.W.findIn K (.ref C) "kind" = some none ∧ H a = some (exo a C none) ∧ ∀ dx, H dx = none → dx ≠ a → Q .non (upd (upd H dx (exd dx [("kind", v)])) a (exo a C (some dx)))
/-- the dict of an error of one field -/
def ef1 (f kd : Str) (v : V) : List (Str × V) := [(f, v), ("kind", .str kd)]
def spE1 (C : Addr) (f kd : Str) : Sp := fun vs H Q _ => ∃ (a : Addr) (v : V), vs = [.ref a, v] ∧ H a = some (exo a C none) ∧ ∀ dx H', H dx = none → dx ≠ a → (∀ b o, b ≠ a → H b = some o → H' b = some o) → H' a = some (exo a C (some dx)) → H' dx = some (exd dx (ef1 f kd v)) → Q .non H'
/-- what is known of WhoError -/
structure WhoT (K : PySem.W.Frag) (mg : Str → Option Value) (W f0 : Addr) (fd0 : FuncData) : Prop where
  g : mg "WhoError" = some (.ref W)
  r : CRead K W (.type "type")
  m : PySem.W.findCls K (.ref W) (.type "type") "__init__" = some (.val (.ref f0))
  k : PySem.W.keepIn K (.ref f0) = true
  b : Binds K fd0 ["self", "kind"] []
/-- what is known of an error class of one field -/
structure ErrT (K : PySem.W.Frag) (mg : Str → Option Value) (x f : Str) (C fI : Addr) : Prop where
  o : OexC K C
  g : mg x = some (.ref C)
  iC : PySem.W.findIn K (.ref C) "__init__" = some (some (.ref fI))
  tI : PySem.W.typeIn K (.ref fI) = some (.type "function")
  nk : PySem.W.findIn K (.ref C) "kind" = some none
  nf : PySem.W.findIn K (.ref C) f = some none
end Wm
namespace Wm
open PySem L2
section
variable {P : Program} {w : World} {K : PySem.W.Frag} {mg : Str → Option Value} {base : Heap}
theorem scW0 : FnScope ["self", "kind"] ["self", "kind"] (defScope sW0) := ⟨rfl, rfl, rfl, by decide +kernel, rfl, by decide +kernel, by decide +kernel⟩
theorem ok_who {f : Addr} {fd : FuncData} {dvs : List V} (F : FunD K "__init__" "WhoError.__init__" (defArgs sW0) (defBody sW0) (defScope sW0) dvs [] f fd) : FnOk P w K mg base CX0 1 f fd ["self", "kind"] (spWI K) := by
  refine F.ok scW0 (fun vs H Q E h => ?_) (fun cdv A outer s H vs Q E hr h => ?_)
  · obtain ⟨a, C, v, rfl, _⟩ := h
    rfl
  · obtain ⟨a, C, v, rfl, o, nk, ha, k⟩ := h
    refine ⟨_, pss_one (ps_ost (pv 0) (pv 1)), ?_⟩
    exact ⟨_, rfl, _, rfl, a, C, rfl, o, nk, .inl ⟨ha, fun dx n ne => k dx n ne⟩⟩
theorem scN0 : FnScope ["self", "name"] ["self", "name"] (defScope sN0) := ⟨rfl, rfl, rfl, by decide +kernel, rfl, by decide +kernel, by decide +kernel⟩
theorem ok_noname {f C f0 W : Addr} {fd fd0 : FuncData} (F : Fun K "__init__" "NoName.__init__" sN0 f fd) (T : ErrT K mg "NoName" "name" C f) (TW : WhoT K mg W f0 fd0) (G0 : FnOk P w K mg base CX0 1 f0 fd0 ["self", "kind"] (spWI K)) :
    FnOk P w K mg base CX0 2 f fd ["self", "name"] (spE1 C "name" "noname") := by
  refine F.ok scN0 (fun vs H Q E h => ?_) (fun cdv A outer s H vs Q E hr h => ?_)
  · obtain ⟨a, v, rfl, _⟩ := h
    rfl
  · obtain ⟨a, v, rfl, ha, k⟩ := h
    refine ⟨_, pss_cons (ps_expr (pe_clsFn rfl TW.g TW.r TW.m TW.k G0 hr TW.b .nil pass0 (pa_cons (pv 0) (pa_cons pe_str pa_nil)))) (pss_one (ps_ost (pv 0) (pv 1))), ?_⟩
    refine ⟨_, rfl, a, C, _, rfl, T.o, T.nk, ha, fun dx n ne => ?_⟩
    refine ⟨_, rfl, _, rfl, a, C, rfl, T.o, T.nf, .inr ⟨dx, _, upd_same, Eq.trans (upd_ne ne) upd_same, by decide, ?_⟩⟩
    refine k dx _ n ne (fun b o nb e => ?_) ?_ upd_same
    · have nd : b ≠ dx := ne_of_none e n
      rw [upd_ne nd, upd_ne nb, upd_ne nd]
      exact e
    · rw [upd_ne ne.symm, upd_same]
end
end Wm
namespace Wm
open PySem L2
/-! ### names -/
def LET : List Nat := (PySem.Str.ofString "abcdefghijklmnopqrstuvwxyz").cps.toList
def FIG : List Nat := (PySem.Str.ofString "0123456789").cps.toList
def okc (c : Nat) : Bool := decide (c ∈ LET) || decide (c ∈ FIG)
def first (l : List Nat) : Bool := match l with
  | [] => false
  | c :: _ => decide (c ∈ LET)
def isNm (z : Str) : Bool := decide (1 ≤ z.length) && (decide (z.length ≤ 12) && (first z.cps.toList && z.cps.toList.all okc))
theorem alnum : (PySem.Str.ofString "abcdefghijklmnopqrstuvwxyz0123456789").cps.toList = LET ++ FIG := by decide +kernel
theorem let_fig : ∀ c ∈ LET, ¬ c ∈ FIG := by decide +kernel
theorem okc_alnum (c : Nat) : decide (c ∈ (PySem.Str.ofString "abcdefghijklmnopqrstuvwxyz0123456789").cps.toList) = okc c := by
  rw [alnum]
  unfold okc
  by_cases h : c ∈ LET <;> by_cases h2 : c ∈ FIG <;> simp [h, h2]
theorem len_eq (z : Str) : z.length = z.cps.toList.length := by
  show z.cps.size = _
  simp
theorem isNm_small {z : Str} (h : z.length < 1 ∨ 12 < z.length) : isNm z = false := by
  unfold isNm
  rcases h with h | h
  · rw [decide_eq_false (by omega)]
    rfl
  · rw [decide_eq_false (p := z.length ≤ 12) (by omega)]
    simp
theorem isNm_first {z : Str} {c : Nat} (h1 : z.cps.toList[0]? = some c) (hc : ¬ c ∈ LET) : isNm z = false := by
  unfold isNm
  have e : first z.cps.toList = false := by
    cases q : z.cps.toList with
    | nil => rfl
    | cons d r =>
      rw [q] at h1
      have e : d = c := Option.some.inj h1
      rw [e]
      exact decide_eq_false hc
  rw [e]
  simp
theorem isNm_all {z : Str} {c : Nat} (h0 : ¬ z.length < 1) (h12 : ¬ 12 < z.length) (h1 : z.cps.toList[0]? = some c) (hc : c ∈ LET) : isNm z = z.cps.toList.all okc := by
  unfold isNm
  have e : first z.cps.toList = true := by
    cases q : z.cps.toList with
    | nil =>
      rw [q] at h1
      cases h1
    | cons d r =>
      rw [q] at h1
      have e : d = c := Option.some.inj h1
      rw [e]
      exact decide_eq_true hc
  rw [e, decide_eq_true (by omega), decide_eq_true (by omega)]
  rfl
theorem isNm_fig {z : Str} {c : Nat} (h1 : z.cps.toList[0]? = some c) (hc : c ∈ FIG) : isNm z = false := isNm_first h1 fun h => let_fig c h hc
theorem isNm_all2 {z : Str} {c : Nat} (h0 : ¬ z.length < 1) (h12 : ¬ 12 < z.length) (h1 : z.cps.toList[0]? = some c) (hc : ¬ c ∈ FIG) : isNm z = z.cps.toList.all okc := by
  by_cases h : c ∈ LET
  · exact isNm_all h0 h12 h1 h
  · rw [isNm_first h1 h]
    have hm : c ∈ z.cps.toList := List.mem_of_getElem? h1
    have e : okc c = false := by
      unfold okc
      rw [decide_eq_false h, decide_eq_false hc]
      rfl
    symm
    rw [List.all_eq_false]
    exact ⟨c, hm, by rw [e]; decide⟩
theorem all_map {l : List Nat} {f : Nat → Bool} : (l.map f).all id = l.all f := by
  induction l with
  | nil => rfl
  | cons a r ih => rw [List.map_cons, List.all_cons, List.all_cons, ih]; rfl
def spName : Sp := fun vs H Q _ => ∃ z : Str, vs = [.str z] ∧ z.length ≤ 1000 ∧ ∀ H', Same H H' → Q (.bl (isNm z)) H'
/-- the constants of names.py -/
structure TxN (mg : Str → Option Value) : Prop where
  lets : ∃ t, mg "LETTERS" = some (.str (PySem.Str.ofString "abcdefghijklmnopqrstuvwxyz") t)
  figs : ∃ t, mg "FIGURES" = some (.str (PySem.Str.ofString "0123456789") t)
  long : ∃ t, mg "LONGEST_NAME" = some (.int 12 t)
/-- the reading of [f(sign) for sign in text] -/
theorem lc_signs {z : Str} {f : Nat → Bool} {g : TG} {te : TE} {vs : List Nat} {σ : St} {H1 : Hp} {D : Addr} {Qd : Hp → Prop} (hz : z.length ≤ 1000) (hD : H1 D = none)
    (he : ∀ (c : Nat) (H : Hp) (Q : St → Hp → Prop), (∀ σ2, wipe σ2 vs = wipe σ vs → (∀ Q2 : VK, Q2 (.bl (f c)) H → te σ2 H Q2) → Q σ2 H) → g (.str ⟨#[c]⟩) (wipe σ vs) H Q)
    (hd : ∀ H, Same H1 H → H D = some (.lst ((z.cps.toList.map f).map V.bl)) → Qd H) :
    ∃ W : Nat → Nat → Hp → Prop, (∃ m, W 0 m (upd H1 D (.lst []))) ∧ ∀ i m H, W i m H →
      ((Its z).stop i H ∧ Qd H) ∨ ((Its z).go i H ∧ ∃ Nx : Hp → Prop, (∀ H', Nx H' → ∃ m', m' < m ∧ W (i + 1) m' H') ∧ ∀ x H', (Its z).yld i H x H' → g x (wipe σ vs) H' fun σ2 H2 => wipe σ2 vs = wipe σ vs ∧ tYes σ2 H2 fun b H3 =>
        if b = true then te σ2 H3 fun y H4 => ∃ acc, H4 D = some (.lst acc) ∧ acc.length < sizeLine ∧ Nx (upd H4 D (.lst (acc ++ [y]))) else Nx H3) := by
  refine lc_it (walk_str (z := z)) (fun i H' => Same H1 H' ∧ H' D = some (.lst (((z.cps.toList.take i).map f).map V.bl))) ⟨Same.upd hD, upd_same⟩ (fun _ _ _ _ => True.intro) ?_ ?_
  · rintro i x H H' hi ⟨hS, hl⟩ ⟨rfl, c, hc, rfl⟩
    refine he c H' _ fun σ2 hw hq => ⟨hw, hq _ ?_⟩
    refine ⟨_, hl, ?_, ?_, ?_⟩
    · rw [List.length_map, List.length_map, List.length_take]
      have e := len_eq z
      exact Nat.lt_of_le_of_lt (show _ ≤ 1000 by omega) (by decide)
    · intro b o h
      have nb : b ≠ D := ne_of_none h hD
      rw [upd_ne nb]
      exact hS b o h
    · rw [upd_same]
      have e : z.cps.toList[i]? = some c := by simpa using hc
      have hlt : i < z.cps.toList.length := (List.getElem?_eq_some_iff.mp e).1
      rw [List.take_add_one, e, List.map_append, List.map_append]
      rfl
  · rintro H ⟨hS, hl⟩
    refine hd H hS ?_
    rw [hl, List.take_of_length_le (by simp)]
section
variable {P : Program} {w : World} {K : PySem.W.Frag} {mg : Str → Option Value} {base : Heap}
theorem scName : FnScope ["text", "sign"] ["text"] (defScope sName) := ⟨rfl, rfl, rfl, by decide +kernel, rfl, by decide +kernel, by decide +kernel⟩
theorem ok_name {f : Addr} {fd : FuncData} (F : Fun K "is_name" "is_name" sName f fd) (T : TxB mg) (TN : TxN mg) : FnOk P w K mg base CX0 1 f fd ["text"] spName := by
  obtain ⟨t1, hlet⟩ := TN.lets
  obtain ⟨t2, hfig⟩ := TN.figs
  obtain ⟨t3, hlong⟩ := TN.long
  refine F.ok scName (fun vs H Q E h => ?_) (fun cdv A outer s H vs Q E hr h => ?_)
  · obtain ⟨z, rfl, _⟩ := h
    rfl
  · obtain ⟨z, rfl, hz, k⟩ := h
    have hzl : z.length ≤ sizeLine := Nat.le_trans hz (by decide)
    refine ⟨_, (pss_cons (ps_if (PW.pt (pw_or (pt_cmpR op_lt (pe_callB call_len_str (by rfl) T.len (by decide +kernel) (pa_cons (pv 0) pa_nil)) pe_int (nomark _)) (pw_or1 (pt_cmpR op_gt (pe_callB call_len_str (by rfl) T.len (by decide +kernel) (pa_cons (pv 0) pa_nil)) (pe_glob (v := .int 12) (by rfl) hlong ⟨_, rfl⟩) (nomark _))))) (pss_one (ps_ret pe_bl)) pss_nil)
      (pss_cons (ps_if (pt_cmpR op_notIn_sign (pe_ix ix_str (pv 0) pe_int (fun _ _ => rfl)) (pe_glob (v := .str (PySem.Str.ofString "abcdefghijklmnopqrstuvwxyz")) (by rfl) hlet ⟨_, rfl⟩) (by rfl)) (pss_one (ps_ret pe_bl)) pss_nil)
      (pss_one (ps_ret (pe_callB (cr_all rfl) (by rfl) T.all (by decide +kernel) (pa_cons (pe_lc (own := [("sign", 1)]) (g := gName 1) rfl scName.nd (pi_str (pv 0)) (blkOk_by (N := ["text", "sign"]) (sc := defScope sName) (by decide +kernel)) (fun _ _ _ _ _ => (pg_name (i := 1) scName.nd rfl (Or.inl rfl))) (fun _ _ _ _ _ => pts_nil) (fun _ _ _ _ _ => (pe_or (pe_cmpR op_in_sign (pv 1) (pe_glob (v := .str (PySem.Str.ofString "abcdefghijklmnopqrstuvwxyz")) (by rfl) hlet ⟨_, rfl⟩) (by rfl)) (pe_one (pe_cmpR op_in_sign (pv 1) (pe_glob (v := .str (PySem.Str.ofString "0123456789")) (by rfl) hfig ⟨_, rfl⟩) (by rfl)))))) pa_nil)))))), ?_⟩
    refine ⟨_, rfl, z, rfl, hzl, _, _, rfl, rfl, _, rfl, ?_⟩
    refine ite2 (fun h1 => ?_) (fun h1 => ?_)
    · have h1' : (z.length : Int) < 1 := of_decide_eq_true h1
      refine iteT ?_
      have e : isNm z = false := isNm_small (.inl (by omega))
      have q := k H (Same.refl H)
      rw [e] at q
      exact q
    refine ⟨_, rfl, z, rfl, hzl, _, _, rfl, rfl, _, rfl, ?_⟩
    refine ite2 (fun h2 => ?_) (fun h2 => ?_)
    · have h2' : (12 : Int) < z.length := of_decide_eq_true h2
      have e : isNm z = false := isNm_small (.inr (by omega))
      have q := k H (Same.refl H)
      rw [e] at q
      exact q
    have h1' : ¬ z.length < 1 := fun x => h1 (decide_eq_true (by omega))
    have h2' : ¬ 12 < z.length := fun x => h2 (decide_eq_true (by omega))
    refine ⟨_, rfl, ?_⟩
    dsimp only [tC]
    refine rdItem (n := z.length) rfl (by decide) (by omega) (by omega) fun c hc => ?_
    refine ⟨c, _, rfl, rfl, _, rfl, ?_⟩
    refine ite2 (fun h3 => ?_) (fun h3 => ?_)
    · have h3' : ¬ c ∈ LET := fun x => by
        rw [show decide (c ∈ (PySem.Str.ofString "abcdefghijklmnopqrstuvwxyz").cps.toList) = true from decide_eq_true x] at h3
        cases h3
      have q := k H (Same.refl H)
      rw [isNm_first hc h3'] at q
      exact q
    have h3' : c ∈ LET := by
      by_cases x : c ∈ LET
      · exact x
      · rw [show decide (c ∈ (PySem.Str.ofString "abcdefghijklmnopqrstuvwxyz").cps.toList) = false from decide_eq_false x] at h3
        exact absurd rfl h3
    refine ⟨_, rfl, z, rfl, fun D hD => ?_⟩
    refine lc_signs (z := z) (f := okc) hz hD (fun c H Q q => ?_) fun H' hS hl => ?_
    · refine q _ rfl fun Q2 q2 => ?_
      refine ⟨_, rfl, c, _, rfl, rfl, _, rfl, ?_⟩
      unfold okc at q2
      refine ite2 (fun h => ?_) (fun h => ?_)
      · have h' : decide (c ∈ LET) = true := h
        rw [h'] at q2
        exact q2
      · have h' : decide (c ∈ LET) = false := Bool.eq_false_iff.mpr h
        rw [h'] at q2
        exact ⟨_, rfl, c, _, rfl, rfl, q2⟩
    · refine ⟨D, _, rfl, SqL.of hl, ?_⟩
      have q := k H' hS
      rw [isNm_all h1' h2' hc h3', ← all_map] at q
      exact q
end
end Wm
namespace Wm
open PySem L2
theorem mk1 {C : Addr} {f kd : Str} {v : V} {H : Hp} {Q : XK} (k : ∀ d H', H d = none → Same H H' → H' d = some (.xd (ef1 f kd v)) → Q (.ref C) (some d) H') :
    [v].length ≤ 1000 ∧ ∀ a, H a = none → spE1 C f kd (.ref a :: ([v] ++ [])) (upd H a (exo a C none)) (fun u H2 => u = .non ∧ ∃ (d : Addr) (fs : List (Str × V)), H2 a = some (exo a C (some d)) ∧ H2 d = some (exd d fs) ∧ H d = none ∧ Q (.ref C) (some d) (upd (del H2 a) d (.xd fs))) (fun _ _ _ => False) := by
  refine ⟨by show 1 ≤ 1000; decide, fun a na => ⟨a, v, rfl, upd_same, fun dx H' n ne kp ha hd => ⟨rfl, dx, _, ha, hd, ?_, ?_⟩⟩⟩
  · rw [upd_ne ne] at n
    exact n
  · rw [upd_ne ne] at n
    refine k dx _ n (fun b o e => ?_) upd_same
    have nb : b ≠ a := ne_of_none e na
    rw [upd_ne (ne_of_none e n), del_ne nb]
    exact kp b o nb (by rw [upd_ne nb]; exact e)
/-- what is due of the first text that is no name -/
def DueN (C : Addr) (zs : List Str) (H : Hp) (Q : VK) (E : XK) : Prop := match zs.find? (fun z => !isNm z) with
  | none => ∀ H', Same H H' → Q .non H'
  | some z => ∀ d H', H d = none → Same H H' → H' d = some (.xd (ef1 "name" "noname" (.str z))) → E (.ref C) (some d) H'
def spRN (K : PySem.W.Frag) (C : Addr) : Sp := fun vs H Q E => ∃ (l : Addr) (zs : List Str), vs = [.ref l] ∧ SqL K H l (zs.map V.str) ∧ zs.length ≤ 1000 ∧ (∀ z ∈ zs, z.length ≤ 1000) ∧ DueN C zs H Q E
theorem find_none_take {zs : List Str} {i : Nat} {z : Str} {p : Str → Bool} (h : ∀ y ∈ zs.take i, p y = false) (e : zs[i]? = some z) (hz : p z = true) : zs.find? p = some z := by
  have hlt : i < zs.length := (List.getElem?_eq_some_iff.mp e).1
  have e2 : zs = zs.take i ++ z :: zs.drop (i + 1) := by
    have q := List.take_append_drop i zs
    have q2 := List.drop_eq_getElem_cons hlt
    have q3 : zs[i] = z := (List.getElem?_eq_some_iff.mp e).2
    rw [q2, q3] at q
    exact q.symm
  rw [e2, List.find?_append]
  have n : (zs.take i).find? p = none := by
    rw [List.find?_eq_none]
    intro y hy
    rw [h y hy]
    decide
  rw [n]
  simp [hz]
section
variable {P : Program} {w : World} {K : PySem.W.Frag} {mg : Str → Option Value} {base : Heap}
theorem scRN : FnScope ["texts", "text"] ["texts"] (defScope sRN) := ⟨rfl, rfl, rfl, by decide +kernel, rfl, by decide +kernel, by decide +kernel⟩
theorem ok_rn {f fN C fI : Addr} {fd fdN fdI : FuncData} (F : Fun K "refuse_no_name" "refuse_no_name" sRN f fd) (D : Dn K mg "is_name" sName ["text"] fN fdN) (GN : FnOk P w K mg base CX0 1 fN fdN ["text"] spName) (TE : ErrT K mg "NoName" "name" C fI) (bI : Binds K fdI ["self", "name"] [])
    (GI : FnOk P w K mg base CX0 2 fI fdI ["self", "name"] (spE1 C "name" "noname")) : FnOk P w K mg base (L2.CX P w) 4 f fd ["texts"] (spRN K C) := by
  refine F.okX scRN (fun vs H Q E h => ?_) (fun cdv A outer s H vs Q E hr h => ?_)
  · obtain ⟨l, zs, rfl, _⟩ := h
    rfl
  · obtain ⟨l, zs, rfl, hl, hn, hz, k⟩ := h
    have hr1 : Room 1 _ := hr.mono (by decide)
    refine ⟨_, (pss_one (ps_for (passes_of rfl) rfl (pi_list (pv 0)) (pg_name (i := 1) scRN.nd rfl (Or.inl rfl)) (pss_one (ps_if (pt_not (pt_val (pe_call GN hr1 rfl D.g D.F.kp D.b .nil pass0 (pa_cons (pv 1) pa_nil)))) (pss_one (ps_raise rfl (takes_of rfl rfl rfl rfl) (pmk_oex TE.o TE.iC TE.tI GI hr bI .nil pass0 rfl TE.g (pa_cons (pv 1) pa_nil)))) pss_nil)))), ?_⟩
    refine ⟨_, rfl, l, rfl, ⟨_, hl⟩, for_list (K := K) (a := l) (xs := zs.map V.str) (fun i σ H' => ∃ v, σ = [some (.ref l), v] ∧ Same H H' ∧ ∀ y ∈ zs.take i, (!isNm y) = false) ⟨none, rfl, Same.refl H, fun y hy => (List.not_mem_nil hy).elim⟩
      (fun i σ H' _ ⟨_, _, hS, _⟩ => hS.seq hl) ?_ ?_⟩
    · rintro i y σ H' hi ⟨v, rfl, hS, hno⟩
      obtain ⟨z, hzi, rfl⟩ : ∃ z, zs[i]? = some z ∧ y = V.str z := by
        rw [List.getElem?_map] at hi
        cases e : zs[i]? with
        | none =>
          rw [e] at hi
          cases hi
        | some z =>
          rw [e] at hi
          exact ⟨z, rfl, (Option.some.inj hi).symm⟩
      refine ⟨_, rfl, z, rfl, hz z (List.mem_of_getElem? hzi), fun H2 hS2 => ⟨_, rfl, ?_⟩⟩
      refine ite2 (fun h => ?_) (fun h => ?_)
      · refine ⟨_, rfl, ?_⟩
        have e := find_none_take hno hzi h
        unfold DueN at k
        rw [e] at k
        refine mk1 fun d H3 hd hS3 hx => k d H3 (hS.free (hS2.free hd)) (hS.trans (hS2.trans hS3)) hx
      · refine ⟨_, rfl, hS.trans hS2, fun y hy => ?_⟩
        rw [List.take_add_one, hzi] at hy
        rcases List.mem_append.mp hy with hy | hy
        · exact hno y hy
        · have e : y = z := by simpa using hy
          rw [e]
          exact Bool.eq_false_iff.mpr h
    · rintro σ H' ⟨v, rfl, hS, hno⟩
      have e : zs.find? (fun z => !isNm z) = none := by
        rw [List.find?_eq_none]
        intro y hy
        rw [List.length_map, List.take_length] at hno
        rw [hno y hy]
        decide
      unfold DueN at k
      rw [e] at k
      exact k H' hS
end
end Wm
namespace Wm
open PySem PySem.Spec PyProof.Rows L2
/-- enumerate(v): its two new cells -/
theorem meets_enum1 {v : Value} {o : Obj} {H : Heap → Prop} (B : Begins v o H) :
    Meets (Builtin.«enumerate.__new__» ⟨[.type "enumerate", v], []⟩) (fun _ R s => H s.heap ∧
      R (.ok (.ret (.ref (s.heap.push o).objs.size))) { s with heap := (s.heap.push o).push { cls := .type "enumerate", data := .fields #[.none, .bool false, .ref s.heap.objs.size, rawInt 0, .none, .none] } }) :=
  .of_wp fun prog w A R s hh => by
    obtain ⟨hp, g, d, tk, os⟩ := s
    obtain ⟨h1, h⟩ := hh
    have hsub := sub_enumerate
    have q1 : ∀ {A' : Around} {E : Value → Shared → Prop} {Q : Value → Shared → Prop}, Q (.ref hp.objs.size) ⟨hp.push o, g, d, tk, os⟩ → wpAny (model prog w) A' (pyIter v) Q E ⟨hp, g, d, tk, os⟩ := fun q => B.iter prog w _ _ ⟨hp, g, d, tk, os⟩ _ h1 q
    wp_walk using q1
    refine wpAny_stack_any fun stk => wpAny_pure ?_
    split
    · rename_i c _ _ _ _ _
      cases (c == Value.type "enumerate") <;> (wp_walk using q1; exact ⟨_, rfl, h⟩)
    · wp_walk using q1
      exact ⟨_, rfl, h⟩
theorem call_enum_tup {prog : Program} {w : World} {A : Around} {E : Value → Shared → Prop} {s : Shared} {t : Addr} {items : Array Value} {Q : Value → Shared → Prop} (hL : s.heap.IsTuple t items)
    (h : ∀ h', IsEnum h' (s.heap.objs.size + 1) s.heap.objs.size 0 .none → h'.IsTupleIter s.heap.objs.size t 0 → (∀ b o, s.heap.get? b = some o → h'.get? b = some o) → Q (.ref (s.heap.objs.size + 1)) { s with heap := h' }) :
    wpAny (model prog w) A (call (.type "enumerate") [.ref t]) Q E s := by
  refine callType_new F.called_enumerate (by decide) (F.typeCall_enumerate_1 _) (F.newCall_enumerate_1 _) (fun obj => F.args_object_init_2 obj _) F.entry_enumerate_new (meets_enum1 (begins_tuple t items)) ⟨hL, ?_⟩
  generalize ho : ({ cls := .type "tuple_iterator", data := .fields #[.ref t, .int 0 0] } : Obj) = o
  have hz : (s.heap.push o).objs.size = s.heap.objs.size + 1 := Heap.size_push ..
  show _ ∧ _
  rw [hz]
  generalize he : ({ cls := .type "enumerate", data := .fields #[.none, .bool false, .ref s.heap.objs.size, rawInt 0, .none, .none] } : Obj) = eo
  have h2 : ((s.heap.push o).push eo).get? (s.heap.objs.size + 1) = some eo := by
    have q := Heap.get?_push_size (s.heap.push o) (o := eo) (by rw [← he]; rfl)
    rw [hz] at q
    exact q
  have h3 : ((s.heap.push o).push eo).get? s.heap.objs.size = some o := Heap.get?_push_of_some _ (Heap.get?_push_size _ (by rw [← ho]; rfl))
  refine ⟨⟨_, h2, by rw [← he]⟩, h _ ?_ ⟨o, h3, by rw [← ho], by rw [← ho]; rfl⟩ fun b o x => Heap.get?_push_of_some _ (Heap.get?_push_of_some _ x)⟩
  show ((s.heap.push o).push eo).get? (s.heap.objs.size + 1) = some _
  rw [h2, ← he]
/-- the tuple at a, each item in a new pair -/
def IteT (K : PySem.W.Frag) (a : Addr) (xs : List V) : It :=
  ⟨fun i H => SqT K H a xs ∧ i < xs.length, fun i H v H' => ∃ T x, v = .ref T ∧ H T = none ∧ H' = upd H T (.tup [.int (i : Nat), x]) ∧ xs[i]? = some x, fun i H => SqT K H a xs ∧ i = xs.length⟩
theorem turn_enumT {P : Program} {w : World} {K : PySem.W.Frag} {elts : List Expr} {kk : Nat} {tpos : Pos} {xs : List V} (a e it : Addr) (his : List Value) :
    Turn P w K (.Tuple elts kk tpos) (IteT K a xs) [e, it] e (fun i h => (∃ old, IsEnum h e it ((i : Nat) : Int) old) ∧ h.IsTupleIter it a i ∧ e ≠ it ∧ a ≠ it ∧ a ≠ e) where
  mem := by simp
  obj := fun i h st b hb => by
    obtain ⟨⟨old, he⟩, ⟨o, ho, hc, hd⟩, _⟩ := st
    rcases (show b = e ∨ b = it by simpa using hb) with z | z
    · rw [z]
      exact ⟨_, he, fun v q => nomatch q⟩
    · rw [z]
      exact ⟨o, ho, fun v q => by rw [hd] at q; cases q⟩
  keep := fun i h h' st k => let ⟨⟨old, he⟩, hi, hne⟩ := st; ⟨⟨old, k e (by simp) _ he⟩, hi.at fun o q => k it (by simp) o q, hne⟩
  item := by
    intro X hP hw hK hc i pins s σ H E I hf st hg
    subst hP hw hK
    obtain ⟨⟨old, he⟩, hit, hne, nai, nae⟩ := st
    obtain ⟨hq, hlt⟩ := hg
    obtain ⟨its, rv, p, hz⟩ := I.tuple hq
    have hlen := rv.length
    have hel : e < s.heap.objs.size := Heap.lt_size he
    have hil : it < s.heap.objs.size := by obtain ⟨_, q, _⟩ := hit; exact Heap.lt_size q
    have D : Draws X.prog X.w X.A.in1 it [it, a] its.toArray.size (fun i v => its.toArray[i]? = some v) (fun i h => h.IsTupleIter it a i ∧ h.IsTuple a its.toArray) := Draws.tuple (A := X.A.in1) (show X.A.in1.handled = none from I.ok.hd hc) it a nai its.toArray
    refine wpAny_pyNext_enum_itemC D he ⟨hit, p⟩ (by rw [List.size_toArray]; omega) hne (by simp [hne, Ne.symm nae]) fun u h' tk hu ho hst' hT hsz hk => ?_
    have hu' : its[i]? = some u := by simpa using hu
    obtain ⟨x, hx, ru⟩ : ∃ x, xs[i]? = some x ∧ RelV x u := by
      obtain ⟨u2, h2, r2⟩ := rv.get (List.getElem?_eq_getElem hlt)
      rw [hu'] at h2
      cases h2
      exact ⟨_, List.getElem?_eq_getElem hlt, r2⟩
    refine ⟨_, rfl, wpAny_letOwnedTupleGo_enum (s := { s with heap := h', toks := tk + 1 }) ho fun h'' he' sb => ?_⟩
    have hT2 : h''.get? s.heap.objs.size = some { cls := .type "tuple", data := .seq #[.int i tk, u] } := (sb.2 _ (Nat.ne_of_gt hel)).trans hT
    have new : ObjOk X.prog X.w (upd H s.heap.objs.size (.tup [.int (i : Nat), x])) h'' s.heap.objs.size (.tup [.int (i : Nat), x]) := ⟨by show 2 ≤ sizeLine; decide, [.int i tk, u], .cons ⟨_, rfl⟩ (.cons ru .nil), ⟨_, hT2, rfl, _, rfl⟩⟩
    have I1 : Inv X pins σ (upd H s.heap.objs.size (.tup [.int (i : Nat), x])) { s with heap := h'', toks := tk + 1 } :=
      I.turnedNew (ch := [e, it]) (fun b ob hb q => (sb.2 b (fun z => hb (by simp [z]))).trans (hk b ob (fun z => hb (by simp [z])) (fun z => hb (by simp [z])) q)) hf (Nat.le_refl _) new
    refine ⟨.ref s.heap.objs.size, _, I1, rfl, ⟨_, x, rfl, I.hok.fresh (Nat.le_refl _), rfl, hx⟩, ⟨⟨u, ?_⟩, hst'.1.at fun o q => (sb.2 it (Ne.symm hne)).trans q, hne, nai, nae⟩, fun b hb => ?_⟩
    · have e1 : ((i + 1 : Nat) : Int) = (i : Int) + 1 := by omega
      rw [e1]
      exact he'
    · have hb' : b < s.heap.objs.size := by
        rcases (show b = e ∨ b = it by simpa using hb) with z | z
        · rw [z]; exact hel
        · rw [z]; exact hil
      rw [upd_ne (Nat.ne_of_lt hb')]
      exact (hf b hb).1
  done := by
    intro X hP hw hK hc i pins s σ H E I hf st hg
    subst hP hw hK
    obtain ⟨⟨old, he⟩, hit, hne, nai, nae⟩ := st
    obtain ⟨hq, hi⟩ := hg
    obtain ⟨its, rv, p, hz⟩ := I.tuple hq
    have hlen := rv.length
    obtain ⟨f0, f1, f2, f3, f4, f5⟩ := hf it (by simp)
    have D : Draws X.prog X.w X.A.in1 it [it, a] its.toArray.size (fun i v => its.toArray[i]? = some v) (fun i h => h.IsTupleIter it a i ∧ h.IsTuple a its.toArray) := Draws.tuple (A := X.A.in1) (show X.A.in1.handled = none from I.ok.hd hc) it a nai its.toArray
    have en : i = its.toArray.size := by rw [List.size_toArray]; omega
    rw [en] at he hit
    exact wpAny_pyNext_enum_endD D he ⟨hit, p⟩ fun h' eb => ⟨rfl, I.turned (t' := s.toks) (fun b o hb q => eb b o hb q) f0 f1 f3 f4 f5⟩
  self := fun A i s Q E st h => let ⟨⟨_, he⟩, _⟩ := st; wpAny_pyIter_enum he h
def iEnumT (K : PySem.W.Frag) (ta : TA) : TI := fun σ H R => ta σ H fun vs H1 => ∃ a xs, vs = [.ref a] ∧ SqT K H1 a xs ∧ R (IteT K a xs) H1
theorem pi_enumT {X : Cx} {e : Expr} {ta : TA} {p pos tpos : Pos} {elts : List Expr} {kk : Nat} (hg : Gl X "enumerate") (hm : X.mg "enumerate" = none) (ha : PA X [e] ta) (hs : starEach [e] X.env = [(false, eval e X.env)] := by rfl) :
    PI X (.Tuple elts kk tpos) (.Call (.Name "enumerate" p) [e] [] pos) (iEnumT X.K ta) := by
  refine ⟨fun pins s σ H R I h => ?_⟩
  refine Call_ (ld_blt I hg hm boot_enumerate (PyProof.Rows.callWith_type1 (thn (ha.run pos pins s σ H _ I h) fun us s1 ⟨vs, H1, I1, r1, a, xs, ex, hq, q⟩ => ?_) hs rfl))
  subst ex
  cases r1 with
  | cons r rr =>
    cases rr
    cases r
    obtain ⟨its, rv, p', hz⟩ := I1.tuple hq
    have hal : a < s1.heap.objs.size := by obtain ⟨_, z, _⟩ := p'; exact Heap.lt_size z
    refine call_enum_tup (items := its.toArray) p' fun h' he hit hk => wpAny_pyIter_enum he ?_
    have I2 : Inv X pins σ H1 { s1 with heap := h' } := I1.kept (t' := s1.toks) hk
    refine ⟨s1.heap.objs.size + 1, [s1.heap.objs.size + 1, s1.heap.objs.size], _, _, H1, rfl, I2, turn_enumT a (s1.heap.objs.size + 1) s1.heap.objs.size its, ⟨⟨.none, he⟩, hit, Nat.succ_ne_self _, Nat.ne_of_lt hal, Nat.ne_of_lt (Nat.lt_succ_of_lt hal)⟩, fun b hb => ?_, q⟩
    have hle : s1.heap.objs.size ≤ b := by
      rcases (show b = s1.heap.objs.size + 1 ∨ b = s1.heap.objs.size by simpa using hb) with z | z
      · rw [z]; exact Nat.le_add_right _ _
      · rw [z]; exact Nat.le_refl _
    exact I1.fpOk hle (I1.hok.fresh hle)
theorem walk_enumT {K : PySem.W.Frag} {a : Addr} {xs : List V} : Walk (IteT K a xs) xs.length (fun H => SqT K H a xs) (YPair (fun i => some (.int (i : Nat))) (fun i => xs[i]?)) := by
  refine ⟨fun i _ hi q => ⟨q, hi⟩, fun _ q => ⟨q, rfl⟩, fun i H v H' _ q y => ?_⟩
  obtain ⟨T, x, h1, h2, h3, h4⟩ := y
  exact ⟨T, .int (i : Nat), x, h1, h2, h3, rfl, h4⟩
end Wm
namespace Wm
open PySem L2
/-- the outer walk of a comprehension of two clauses -/
theorem lc2_it {J : It} {n : Nat} {G : Hp → Prop} {Y : Nat → Hp → V → Hp → Prop} (w : Walk J n G Y) {g : TG} {vs : List Nat} {σ : St} {H1 : Hp} {D : Addr} {Qd : Hp → Prop} {inner : St → Hp → (Hp → Prop) → Prop} (Pv : Nat → Hp → Prop) (h0 : Pv 0 (upd H1 D (.lst []))) (hG : ∀ i H, i ≤ n → Pv i H → G H)
    (hs : ∀ i x H H', i < n → Pv i H → Y i H x H' → g x (wipe σ vs) H' fun σ2 H2 => wipe σ2 vs = wipe σ vs ∧ inner σ2 H2 (Pv (i + 1))) (hd : ∀ H, Pv n H → Qd H) :
    ∃ W : Nat → Nat → Hp → Prop, (∃ m, W 0 m (upd H1 D (.lst []))) ∧ ∀ i m H, W i m H →
      (J.stop i H ∧ Qd H) ∨ (J.go i H ∧ ∃ Nx : Hp → Prop, (∀ H', Nx H' → ∃ m', m' < m ∧ W (i + 1) m' H') ∧ ∀ x H', J.yld i H x H' → g x (wipe σ vs) H' fun σ2 H2 => wipe σ2 vs = wipe σ vs ∧ inner σ2 H2 Nx) := by
  refine ⟨fun i m H => m = n - i ∧ i ≤ n ∧ Pv i H, ⟨n, by simp, Nat.zero_le _, h0⟩, ?_⟩
  rintro i m H ⟨rfl, hi, p⟩
  have q := hG i H hi p
  by_cases hlt : i < n
  · exact .inr ⟨w.goes i H hlt q, Pv (i + 1), fun H' p' => ⟨n - (i + 1), by omega, rfl, hlt, p'⟩, fun x H' y => hs i x H H' hlt p (w.yields i H x H' hlt q y)⟩
  · have e : i = n := by omega
    subst e
    exact .inl ⟨w.stops H q, hd H p⟩
/-- the inner one -/
theorem lc1_it {J : It} {n : Nat} {G : Hp → Prop} {Y : Nat → Hp → V → Hp → Prop} (w : Walk J n G Y) {g : TG} {te : TE} {vs : List Nat} {σ : St} {H4 : Hp} {D : Addr} {Nx : Hp → Prop} (Pv : Nat → Hp → Prop) (h0 : Pv 0 H4) (hG : ∀ i H, i ≤ n → Pv i H → G H)
    (hs : ∀ i x H H', i < n → Pv i H → Y i H x H' → g x (wipe σ vs) H' fun σ3 H5 => wipe σ3 vs = wipe σ vs ∧ te σ3 H5 fun y H7 => ∃ acc, H7 D = some (.lst acc) ∧ acc.length < sizeLine ∧ Pv (i + 1) (upd H7 D (.lst (acc ++ [y])))) (hd : ∀ H, Pv n H → Nx H) :
    ∃ W1 : Nat → Nat → Hp → Prop, (∃ m, W1 0 m H4) ∧ ∀ j k H, W1 j k H →
      (J.stop j H ∧ Nx H) ∨ (J.go j H ∧ ∃ Nx1 : Hp → Prop, (∀ H', Nx1 H' → ∃ k', k' < k ∧ W1 (j + 1) k' H') ∧ ∀ x H', J.yld j H x H' → g x (wipe σ vs) H' fun σ3 H5 => wipe σ3 vs = wipe σ vs ∧ tYes σ3 H5 fun b H6 =>
        if b = true then te σ3 H6 fun y H7 => ∃ acc, H7 D = some (.lst acc) ∧ acc.length < sizeLine ∧ Nx1 (upd H7 D (.lst (acc ++ [y]))) else Nx1 H6) := by
  refine ⟨fun i m H => m = n - i ∧ i ≤ n ∧ Pv i H, ⟨n, by simp, Nat.zero_le _, h0⟩, ?_⟩
  rintro i m H ⟨rfl, hi, p⟩
  have q := hG i H hi p
  by_cases hlt : i < n
  · exact .inr ⟨w.goes i H hlt q, Pv (i + 1), fun H' p' => ⟨n - (i + 1), by omega, rfl, hlt, p'⟩, fun x H' y => hs i x H H' hlt p (w.yields i H x H' hlt q y)⟩
  · have e : i = n := by omega
    subst e
    exact .inl ⟨w.stops H q, hd H p⟩
/-- tuple(x) of a list or a tuple -/
def rTupOf (K : PySem.W.Frag) : List V → Hp → VK → Prop := fun xs H Q => ∃ p ys, xs = [.ref p] ∧ ((SqL K H p ys ∧ ∀ l, H l = none → Q (.ref l) (upd H l (.tup ys))) ∨ (SqT K H p ys ∧ Q (.ref p) H))
theorem call_tupN {X : Cx} : CallR X (.type "tuple") (rTupOf X.K) := call_tuple_of
theorem same_seqT {K : PySem.W.Frag} {H H' : Hp} {a : Addr} {xs : List V} (e : Same H H') (h : SqT K H a xs) : SqT K H' a xs := by
  rcases h with (h | ⟨o, h⟩) | h
  · exact .inl (.inl (e _ _ h))
  · exact .inl (.inr ⟨o, e _ _ h⟩)
  · exact .inr h
/-- to be read as a list or a tuple -/
def Sq (K : PySem.W.Frag) (H : Hp) (a : Addr) (xs : List V) : Prop := SqL K H a xs ∨ SqT K H a xs
theorem same_sq {K : PySem.W.Frag} {H H' : Hp} {a : Addr} {xs : List V} (e : Same H H') (h : Sq K H a xs) : Sq K H' a xs := h.imp (fun h => e.seq h) (fun h => same_seqT e h)
theorem cut_take (xs : List V) (i : Nat) : cutV xs none (some (i : Int)) = xs.take i := by
  unfold cutV
  rw [HT.sIx_none, HT.sIx_nat, List.drop_zero, Nat.sub_zero]
  by_cases h : i ≤ xs.length
  · rw [Nat.min_eq_left h]
  · rw [Nat.min_eq_right (by omega), List.take_length, List.take_of_length_le (by omega)]
theorem all_take {xs : List V} (h : xs.all flatV = true) (i : Nat) : (xs.take i).all flatV = true := by
  rw [List.all_eq_true] at h ⊢
  exact fun x hx => h x (List.mem_of_mem_take hx)
end Wm
namespace Wm
open PySem L2
/-- no item stands ahead of itself -/
def NoTw (xs : List V) : Prop := ∀ (i : Nat) (x : V), xs[i]? = some x → inV x (xs.take i) = false
def spFT (K : PySem.W.Frag) : Sp := fun vs H Q _ => ∃ (l : Addr) (xs : List V), vs = [.ref l] ∧ Sq K H l xs ∧ xs.all flatV = true ∧ NoTw xs ∧ ∀ H', Same H H' → Q .non H'
def spRC : Sp := fun vs H Q _ => ∃ (z : V) (c lo hi : Int), vs = [z, .int c, .int lo, .int hi] ∧ lo ≤ c ∧ c ≤ hi ∧ Q .non H
section
variable {P : Program} {w : World} {K : PySem.W.Frag} {mg : Str → Option Value} {base : Heap}
theorem scRC : FnScope ["what", "count", "least", "most"] ["what", "count", "least", "most"] (defScope sRC) := ⟨rfl, rfl, rfl, by decide +kernel, rfl, by decide +kernel, by decide +kernel⟩
theorem ok_rc {f : Addr} {fd : FuncData} (F : Fun K "refuse_count" "refuse_count" sRC f fd) : FnOk P w K mg base CX0 1 f fd ["what", "count", "least", "most"] spRC := by
  refine F.ok scRC (fun vs H Q E h => ?_) (fun cdv A outer s H vs Q E hr h => ?_)
  · obtain ⟨z, c, lo, hi, rfl, _⟩ := h
    rfl
  · obtain ⟨z, c, lo, hi, rfl, h1, h2, k⟩ := h
    refine ⟨_, (pss_one (ps_if (PW.pt (pw_or (pt_cmpR op_lt (pv 1) (pv 2) (nomark _)) (pw_or1 (pt_cmpR op_gt (pv 1) (pv 3) (nomark _))))) (pss_one ps_never) pss_nil)), ?_⟩
    refine ⟨_, rfl, _, rfl, _, _, rfl, rfl, _, rfl, ?_⟩
    refine ite2 (fun h => absurd (of_decide_eq_true h) (by omega)) (fun _ => ?_)
    refine ⟨_, rfl, _, rfl, _, _, rfl, rfl, _, rfl, ?_⟩
    exact ite2 (fun h => absurd (of_decide_eq_true h) (by omega)) (fun _ => k)
theorem scFT : FnScope ["row", "place", "part"] ["row"] (defScope sFT) := ⟨rfl, rfl, rfl, by decide +kernel, rfl, by decide +kernel, by decide +kernel⟩
theorem ok_ft {f : Addr} {fd : FuncData} (F : Fun K "first_twice" "first_twice" sFT f fd) (T : TxB mg) : FnOk P w K mg base CX0 1 f fd ["row"] (spFT K) := by
  refine F.ok scFT (fun vs H Q E h => ?_) (fun cdv A outer s H vs Q E hr h => ?_)
  · obtain ⟨l, xs, rfl, _⟩ := h
    rfl
  · obtain ⟨l, xs, rfl, hl, hf, hno, k⟩ := h
    rcases hl with hl | hl
    · refine ⟨_, (pss_cons (ps_for PassesOwn.never rfl (pi_enum rfl T.enumerate (pa_cons (pv 0) pa_nil)) (pg_tup rfl (pgs_cons (pg_name (i := 1) scFT.nd rfl (Or.inl rfl)) (pgs_cons (pg_name (i := 2) scFT.nd rfl (Or.inl rfl)) pgs_nil))) (pss_one (ps_if (pt_cmpR op_in_seq (pv 2) (pe_slice sl_list (pv 0) po_none (po_some (pv 1))) (by rfl)) (pss_one (ps_ret (pv 1))) pss_nil)))
      (pss_one (ps_ret pe_non))), ?_⟩
      refine ⟨_, rfl, l, xs, rfl, hl, for_it walk_enum (fun i σ H' => (∃ u v, σ = [some (.ref l), u, v]) ∧ Same H H') ⟨⟨none, none, rfl⟩, Same.refl H⟩ (fun i σ H' _ p => p.2.seq hl) ?_ ?_⟩
      · rintro i x σ H1 H2 hi ⟨⟨u, v, rfl⟩, hS⟩ ⟨t, y, z, rfl, ht, rfl, e1, e2⟩
        cases e1
        refine ⟨t, _, rfl, SqT.of upd_same, rfl, _, _, rfl, _, _, rfl, rfl, ?_⟩
        have S2 := hS.trans (Same.upd (o := .tup [.int (i : Nat), z]) ht)
        refine ⟨_, rfl, _, rfl, _, rfl, _, rfl, l, xs, rfl, S2.seq hl, fun p hp => ?_⟩
        refine ⟨p, _, rfl, .inl (SqL.of upd_same), ?_, ?_, _, rfl, ?_⟩
        · exact List.all_eq_true.mp hf _ (List.mem_of_getElem? e2)
        · show (cutV xs none (some (i : Int))).all flatV = true
          rw [cut_take]
          exact all_take hf i
        · have e : inV z (cutV xs none (some (i : Int))) = false := by
            rw [cut_take]
            exact hno i z e2
          show if inV z (cutV xs none (some (i : Int))) = true then _ else _
          rw [e]
          exact iteF ⟨⟨_, _, rfl⟩, S2.trans (Same.upd hp)⟩
      · rintro σ H' ⟨_, hS⟩
        exact k H' hS
    · refine ⟨_, (pss_cons (ps_for PassesOwn.never rfl (pi_enumT rfl T.enumerate (pa_cons (pv 0) pa_nil)) (pg_tup rfl (pgs_cons (pg_name (i := 1) scFT.nd rfl (Or.inl rfl)) (pgs_cons (pg_name (i := 2) scFT.nd rfl (Or.inl rfl)) pgs_nil))) (pss_one (ps_if (pt_cmpR op_in_seq (pv 2) (pe_slice sl_tupA (pv 0) po_none (po_some (pv 1))) (by rfl)) (pss_one (ps_ret (pv 1))) pss_nil)))
      (pss_one (ps_ret pe_non))), ?_⟩
      refine ⟨_, rfl, l, xs, rfl, hl, for_it walk_enumT (fun i σ H' => (∃ u v, σ = [some (.ref l), u, v]) ∧ Same H H') ⟨⟨none, none, rfl⟩, Same.refl H⟩ (fun i σ H' _ p => same_seqT p.2 hl) ?_ ?_⟩
      · rintro i x σ H1 H2 hi ⟨⟨u, v, rfl⟩, hS⟩ ⟨t, y, z, rfl, ht, rfl, e1, e2⟩
        cases e1
        refine ⟨t, _, rfl, SqT.of upd_same, rfl, _, _, rfl, _, _, rfl, rfl, ?_⟩
        have S2 := hS.trans (Same.upd (o := .tup [.int (i : Nat), z]) ht)
        refine ⟨_, rfl, _, rfl, _, rfl, _, rfl, l, xs, rfl, same_seqT S2 hl, fun h => ?_, fun h p hp => ?_⟩
        · have en : xs.take i = xs := by
            rw [HT.sIx_nat] at h
            exact List.take_of_length_le (by omega)
          have e : inV z xs = false := by
            have q := hno i z e2
            rw [en] at q
            exact q
          refine ⟨l, xs, rfl, .inr (same_seqT S2 hl), List.all_eq_true.mp hf _ (List.mem_of_getElem? e2), hf, _, rfl, ?_⟩
          show if inV z xs = true then _ else _
          rw [e]
          exact iteF ⟨⟨_, _, rfl⟩, S2⟩
        · refine ⟨p, _, rfl, .inr (SqT.of upd_same), List.all_eq_true.mp hf _ (List.mem_of_getElem? e2), ?_, _, rfl, ?_⟩
          · show (cutV xs none (some (i : Int))).all flatV = true
            rw [cut_take]
            exact all_take hf i
          · have e : inV z (cutV xs none (some (i : Int))) = false := by
              rw [cut_take]
              exact hno i z e2
            show if inV z (cutV xs none (some (i : Int))) = true then _ else _
            rw [e]
            exact iteF ⟨⟨_, _, rfl⟩, S2.trans (Same.upd hp)⟩
      · rintro σ H' ⟨_, hS⟩
        exact k H' hS
theorem scRT : FnScope ["names", "place"] ["names"] (defScope sRT) := ⟨rfl, rfl, rfl, by decide +kernel, rfl, by decide +kernel, by decide +kernel⟩
theorem ok_rt {f fF : Addr} {fd fdF : FuncData} (F : Fun K "refuse_twice" "refuse_twice" sRT f fd) (T : TxB mg) (D : Dn K mg "first_twice" sFT ["row"] fF fdF) : FnOk P w K mg base CX0 2 f fd ["names"] (spFT K) := by
  have G : FnOk P w K mg base CX0 1 fF fdF ["row"] (spFT K) := ok_ft D.F T
  refine F.ok scRT (fun vs H Q E h => ?_) (fun cdv A outer s H vs Q E hr h => ?_)
  · obtain ⟨l, xs, rfl, _⟩ := h
    rfl
  · obtain ⟨l, xs, rfl, hl, hf, hno, k⟩ := h
    refine ⟨_, (pss_cons (ps_set (i := 1) scRT.nd rfl (Or.inl rfl) (pe_call G hr rfl D.g D.F.kp D.b .nil pass0 (pa_cons (pv 0) pa_nil)))
      (pss_one (ps_if (pt_cmp (pc_notN (pv 1))) (pss_one ps_never) pss_nil))), ?_⟩
    refine ⟨_, rfl, l, xs, rfl, hl, hf, hno, fun H' hS => ?_⟩
    refine ⟨_, rfl, _, rfl, ?_⟩
    exact iteF (k H' hS)
end
end Wm
namespace Wm
open PySem L2
/-- the tuples at the addresses -/
def RowsAt (K : PySem.W.Frag) (H : Hp) : List Addr → List (List V) → Prop
  | [], [] => True
  | p :: ps, r :: rs => SqT K H p r ∧ RowsAt K H ps rs
  | _, _ => False
theorem RowsAt.same {K : PySem.W.Frag} {H H' : Hp} (e : Same H H') : ∀ {ps : List Addr} {rs : List (List V)}, RowsAt K H ps rs → RowsAt K H' ps rs
  | [], [], _ => True.intro
  | _ :: _, _ :: _, h => ⟨same_seqT e h.1, RowsAt.same e h.2⟩
  | [], _ :: _, h => h.elim
  | _ :: _, [], h => h.elim
theorem RowsAt.len {K : PySem.W.Frag} {H : Hp} : ∀ {ps : List Addr} {rs : List (List V)}, RowsAt K H ps rs → ps.length = rs.length
  | [], [], _ => rfl
  | _ :: _, _ :: _, h => congrArg Nat.succ (RowsAt.len h.2)
  | [], _ :: _, h => h.elim
  | _ :: _, [], h => h.elim
theorem RowsAt.get {K : PySem.W.Frag} {H : Hp} : ∀ {ps : List Addr} {rs : List (List V)} {i : Nat} {p : Addr}, RowsAt K H ps rs → ps[i]? = some p → ∃ r, rs[i]? = some r ∧ SqT K H p r
  | [], [], i, p, _, e => by simp at e
  | _ :: _, r :: _, 0, p, h, e => by
    have e' := Option.some.inj e
    subst e'
    exact ⟨r, rfl, h.1⟩
  | _ :: ps, _ :: rs, i + 1, p, h, e => by
    obtain ⟨r, h1, h2⟩ := RowsAt.get (i := i) h.2 (by simpa using e)
    exact ⟨r, by simpa using h1, h2⟩
  | [], _ :: _, _, _, h, _ => h.elim
  | _ :: _, [], _, _, h, _ => h.elim
theorem RowsAt.append {K : PySem.W.Frag} {H : Hp} : ∀ {ps qs : List Addr} {rs us : List (List V)}, RowsAt K H ps rs → RowsAt K H qs us → RowsAt K H (ps ++ qs) (rs ++ us)
  | [], _, [], _, _, h => h
  | _ :: _, _, _ :: _, _, h, g => ⟨h.1, RowsAt.append h.2 g⟩
  | [], _, _ :: _, _, h, _ => h.elim
  | _ :: _, _, [], _, h, _ => h.elim
theorem RowsAt.take {K : PySem.W.Frag} {H : Hp} : ∀ {ps : List Addr} {rs : List (List V)} (n : Nat), RowsAt K H ps rs → RowsAt K H (ps.take n) (rs.take n)
  | _, _, 0, _ => True.intro
  | [], [], _ + 1, _ => True.intro
  | _ :: _, _ :: _, n + 1, h => ⟨h.1, RowsAt.take n h.2⟩
  | [], _ :: _, _ + 1, h => h.elim
  | _ :: _, [], _ + 1, h => h.elim
theorem map_ref_get {ps : List Addr} {i : Nat} {x : V} (h : (ps.map V.ref)[i]? = some x) : ∃ p, ps[i]? = some p ∧ x = .ref p := by
  rw [List.getElem?_map] at h
  cases e : ps[i]? with
  | none =>
    rw [e] at h
    cases h
  | some p =>
    rw [e] at h
    exact ⟨p, rfl, (Option.some.inj h).symm⟩
theorem map_str_get {ps : List Str} {i : Nat} {x : V} (h : (ps.map V.str)[i]? = some x) : ∃ p, ps[i]? = some p ∧ x = .str p := by
  rw [List.getElem?_map] at h
  cases e : ps[i]? with
  | none =>
    rw [e] at h
    cases h
  | some p =>
    rw [e] at h
    exact ⟨p, rfl, (Option.some.inj h).symm⟩
abbrev Tri := Str × Str × Str
def triV (t : Tri) : List V := [.str t.1, .str t.2.1, .str t.2.2]
def endsL (ts : List Tri) : List Str := ts.flatMap fun t => [t.1, t.2.2]
theorem endsL_take {ts : List Tri} {i : Nat} {t : Tri} (h : ts[i]? = some t) : endsL (ts.take (i + 1)) = endsL (ts.take i) ++ [t.1, t.2.2] := by
  unfold endsL
  rw [List.take_add_one, h, List.flatMap_append]
  rfl
theorem endsL_len (ts : List Tri) : (endsL ts).length = 2 * ts.length := by
  induction ts with
  | nil => rfl
  | cons t r ih =>
    have e : (endsL (t :: r)).length = 2 + (endsL r).length := by
      show ([t.1, t.2.2] ++ endsL r).length = _
      rw [List.length_append]
      rfl
    have e2 : (t :: r).length = r.length + 1 := rfl
    omega
theorem tri_get {ts : List Tri} {i : Nat} {r : List V} (h : (ts.map triV)[i]? = some r) : ∃ t, ts[i]? = some t ∧ r = triV t := by
  rw [List.getElem?_map] at h
  cases e : ts[i]? with
  | none =>
    rw [e] at h
    cases h
  | some p =>
    rw [e] at h
    exact ⟨p, rfl, (Option.some.inj h).symm⟩
def spTT (K : PySem.W.Frag) : Sp := fun vs H Q _ => ∃ (l : Addr) (ps : List Addr) (rs : List (List V)), vs = [.ref l] ∧ SqL K H l (ps.map V.ref) ∧ RowsAt K H ps rs ∧ ps.length ≤ 1000 ∧ ∀ t H', H t = none → Same H H' → H' t = some (.tup (ps.map V.ref)) → Q (.ref t) H'
def spEO (K : PySem.W.Frag) : Sp := fun vs H Q _ => ∃ (l : Addr) (ps : List Addr) (ts : List Tri), vs = [.ref l] ∧ Sq K H l (ps.map V.ref) ∧ RowsAt K H ps (ts.map triV) ∧ ps.length ≤ 1000 ∧ ∀ d H', H d = none → Same H H' → H' d = some (.lst ((endsL ts).map V.str)) → Q (.ref d) H'
section
variable {P : Program} {w : World} {K : PySem.W.Frag} {mg : Str → Option Value} {base : Heap}
theorem scTT : FnScope ["rows", "row"] ["rows"] (defScope sTT) := ⟨rfl, rfl, rfl, by decide +kernel, rfl, by decide +kernel, by decide +kernel⟩
theorem ok_tt {f : Addr} {fd : FuncData} (F : Fun K "tuple_of_tuples" "tuple_of_tuples" sTT f fd) (T : TxB mg) : FnOk P w K mg base CX0 1 f fd ["rows"] (spTT K) := by
  refine F.ok scTT (fun vs H Q E h => ?_) (fun cdv A outer s H vs Q E hr h => ?_)
  · obtain ⟨l, ps, rs, rfl, _⟩ := h
    rfl
  · obtain ⟨l, ps, rs, rfl, hl, hrs, hn, k⟩ := h
    refine ⟨_, (pss_one (ps_ret (pe_callTy call_tupN (by rfl) T.tuple (by decide +kernel) (pa_cons (pe_lc (own := [("row", 1)]) (g := gName 1) (te := tCB (rTupOf K) (tCons (tVar 1) tNil)) rfl scTT.nd (pi_list (pv 0)) (blkOk_by (N := ["rows", "row"]) (sc := defScope sTT) (by decide +kernel)) (fun _ _ _ _ _ => (pg_name (i := 1) scTT.nd rfl (Or.inl rfl))) (fun _ _ _ _ _ => pts_nil) (fun _ _ _ _ _ => (pe_callTy call_tupN (by rfl) T.tuple (by decide +kernel) (pa_cons (pv 1) pa_nil)))) pa_nil)))), ?_⟩
    refine ⟨_, rfl, l, rfl, ⟨_, hl⟩, fun D hD => ?_⟩
    refine lc_it walk_list (fun i H' => Same H H' ∧ H' D = some (.lst ((ps.take i).map V.ref))) ⟨Same.upd hD, upd_same⟩ (fun i H' _ p => p.1.seq hl) ?_ ?_
    · rintro i x H1 H2 hi ⟨hS, hd⟩ ⟨rfl, hx⟩
      obtain ⟨p, hp, rfl⟩ := map_ref_get hx
      obtain ⟨r, _, hr'⟩ := hrs.get hp
      refine ⟨rfl, ?_⟩
      refine ⟨_, rfl, p, r, rfl, .inr ⟨same_seqT hS hr', _, hd, ?_, ?_, ?_⟩⟩
      · rw [List.length_map, List.length_take]
        exact Nat.lt_of_le_of_lt (show _ ≤ 1000 by omega) (by decide)
      · intro b o h
        rw [upd_ne (ne_of_none h hD)]
        exact hS b o h
      · rw [upd_same, List.take_add_one, hp, List.map_append]
        rfl
    · rintro H' ⟨hS, hd⟩
      rw [List.length_map, List.take_length] at hd
      exact ⟨D, _, rfl, .inl ⟨SqL.of hd, fun t ht => k t _ (hS.free ht) (hS.trans (Same.upd ht)) upd_same⟩⟩
theorem scEO : FnScope ["triples", "x", "word", "y", "end"] ["triples"] (defScope sEO) := ⟨rfl, rfl, rfl, by decide +kernel, rfl, by decide +kernel, by decide +kernel⟩
theorem ok_eo {f : Addr} {fd : FuncData} (F : Fun K "ends_of" "ends_of" sEO f fd) : FnOk P w K mg base CX0 1 f fd ["triples"] (spEO K) := by
  refine F.ok scEO (fun vs H Q E h => ?_) (fun cdv A outer s H vs Q E hr h => ?_)
  · obtain ⟨l, ps, ts, rfl, _⟩ := h
    rfl
  · obtain ⟨l, ps, ts, rfl, hl, hrs, hn, k⟩ := h
    have hlen := hrs.len
    rw [List.length_map] at hlen
    rcases hl with hl | hl
    · refine ⟨_, (pss_one (ps_ret (pe_lc2 (own := [("x", 1), ("word", 2), ("y", 3), ("end", 4)]) (vs1 := [4]) (g := gTup K 3 (gCons (gName 1) (gCons (gName 2) (gCons (gName 3) gNil)))) (g1 := gName 4) (wi1 := iTup K (tTup (tCons (tVar 1) (tCons (tVar 3) tNil)))) rfl scEO.nd (pi_list (pv 0)) (blkOk_by (N := ["triples", "x", "word", "y", "end"]) (sc := defScope sEO) (by decide +kernel)) (by decide) (fun _ _ _ _ _ => (pg_tup rfl (pgs_cons (pg_name (i := 1) scEO.nd rfl (Or.inl rfl)) (pgs_cons (pg_name (i := 2) scEO.nd rfl (Or.inl rfl)) (pgs_cons (pg_name (i := 3) scEO.nd rfl (Or.inl rfl)) pgs_nil))))) (fun _ _ _ _ _ => pts_nil) (fun _ _ _ _ _ => (pi_tup (pe_tup (pa_cons (pv 1) (pa_cons (pv 3) pa_nil))))) (fun _ _ _ _ _ => (pg_name (i := 4) scEO.nd rfl (Or.inl rfl))) (fun _ _ _ _ _ => pts_nil) (fun _ _ _ _ _ => (pv 4))))), ?_⟩
      refine ⟨_, rfl, l, rfl, ⟨_, hl⟩, fun D hD => ?_⟩
      refine lc2_it walk_list (fun i H' => Same H H' ∧ H' D = some (.lst ((endsL (ts.take i)).map V.str))) ⟨Same.upd hD, upd_same⟩ (fun i H' _ p => p.1.seq hl) ?_ ?_
      · rintro i x H1 H2 hi ⟨hS, hd⟩ ⟨rfl, hx⟩
        obtain ⟨p, hp, rfl⟩ := map_ref_get hx
        obtain ⟨r, hr1, hr'⟩ := hrs.get hp
        obtain ⟨t, ht, rfl⟩ := tri_get hr1
        refine ⟨p, _, rfl, same_seqT hS hr', rfl, _, _, rfl, _, _, rfl, _, _, rfl, rfl, rfl, ?_⟩
        refine ⟨_, rfl, _, rfl, by show 2 ≤ sizeLine; decide, fun q hq => ⟨q, rfl, ⟨_, SqT.of upd_same⟩, ?_⟩⟩
        have nDq : D ≠ q := ne_of_none hd hq
        refine lc1_it walk_tup (fun j H' => Same H H' ∧ SqT K H' q [.str t.1, .str t.2.2] ∧ H' D = some (.lst ((endsL (ts.take i) ++ [t.1, t.2.2].take j).map V.str))) ⟨hS.trans (Same.upd hq), SqT.of upd_same, ?_⟩ (fun _ _ _ p => p.2.1) ?_ ?_
        · rw [upd_ne nDq, hd, List.take_zero, List.append_nil]
        · rintro j y H3 H4 hj ⟨hS3, hq3, hd3⟩ ⟨rfl, hy⟩
          refine ⟨rfl, _, rfl, _, hd3, ?_, ?_, ?_, ?_⟩
          · rw [List.length_map, List.length_append, endsL_len, List.length_take, List.length_take]
            have l2 : [t.1, t.2.2].length = 2 := rfl
            exact Nat.lt_of_le_of_lt (show _ ≤ 4000 by omega) (by decide)
          · intro b o h
            rw [upd_ne (ne_of_none h hD)]
            exact hS3 b o h
          · rcases hq3 with (h | ⟨o, h⟩) | h
            · exact .inl (.inl (by rw [upd_ne (ne_of h hd3 (by intro z; cases z))]; exact h))
            · exact .inl (.inr ⟨o, by rw [upd_ne (ne_of h hd3 (by intro z; cases z))]; exact h⟩)
            · exact .inr h
          · have hy' : ([t.1, t.2.2].map V.str)[j]? = some y := hy
            obtain ⟨z, hz, rfl⟩ := map_str_get hy'
            have e : ∀ l : List Str, (l ++ (some z).toList).map V.str = l.map V.str ++ [V.str z] := fun l => by
              rw [List.map_append]
              rfl
            rw [upd_same, List.take_add_one, hz, ← List.append_assoc, e]
        · rintro H3 ⟨hS3, hq3, hd3⟩
          refine ⟨hS3, ?_⟩
          rw [hd3, endsL_take ht]
          rfl
      · rintro H' ⟨hS, hd⟩
        refine k D H' hD hS ?_
        rw [hd, List.length_map, List.take_of_length_le (by omega)]
    · refine ⟨_, (pss_one (ps_ret (pe_lc2 (own := [("x", 1), ("word", 2), ("y", 3), ("end", 4)]) (vs1 := [4]) (g := gTup K 3 (gCons (gName 1) (gCons (gName 2) (gCons (gName 3) gNil)))) (g1 := gName 4) (wi1 := iTup K (tTup (tCons (tVar 1) (tCons (tVar 3) tNil)))) rfl scEO.nd (pi_tup (pv 0)) (blkOk_by (N := ["triples", "x", "word", "y", "end"]) (sc := defScope sEO) (by decide +kernel)) (by decide) (fun _ _ _ _ _ => (pg_tup rfl (pgs_cons (pg_name (i := 1) scEO.nd rfl (Or.inl rfl)) (pgs_cons (pg_name (i := 2) scEO.nd rfl (Or.inl rfl)) (pgs_cons (pg_name (i := 3) scEO.nd rfl (Or.inl rfl)) pgs_nil))))) (fun _ _ _ _ _ => pts_nil) (fun _ _ _ _ _ => (pi_tup (pe_tup (pa_cons (pv 1) (pa_cons (pv 3) pa_nil))))) (fun _ _ _ _ _ => (pg_name (i := 4) scEO.nd rfl (Or.inl rfl))) (fun _ _ _ _ _ => pts_nil) (fun _ _ _ _ _ => (pv 4))))), ?_⟩
      refine ⟨_, rfl, l, rfl, ⟨_, hl⟩, fun D hD => ?_⟩
      refine lc2_it walk_tup (fun i H' => Same H H' ∧ H' D = some (.lst ((endsL (ts.take i)).map V.str))) ⟨Same.upd hD, upd_same⟩ (fun i H' _ p => same_seqT p.1 hl) ?_ ?_
      · rintro i x H1 H2 hi ⟨hS, hd⟩ ⟨rfl, hx⟩
        obtain ⟨p, hp, rfl⟩ := map_ref_get hx
        obtain ⟨r, hr1, hr'⟩ := hrs.get hp
        obtain ⟨t, ht, rfl⟩ := tri_get hr1
        refine ⟨p, _, rfl, same_seqT hS hr', rfl, _, _, rfl, _, _, rfl, _, _, rfl, rfl, rfl, ?_⟩
        refine ⟨_, rfl, _, rfl, by show 2 ≤ sizeLine; decide, fun q hq => ⟨q, rfl, ⟨_, SqT.of upd_same⟩, ?_⟩⟩
        have nDq : D ≠ q := ne_of_none hd hq
        refine lc1_it walk_tup (fun j H' => Same H H' ∧ SqT K H' q [.str t.1, .str t.2.2] ∧ H' D = some (.lst ((endsL (ts.take i) ++ [t.1, t.2.2].take j).map V.str))) ⟨hS.trans (Same.upd hq), SqT.of upd_same, ?_⟩ (fun _ _ _ p => p.2.1) ?_ ?_
        · rw [upd_ne nDq, hd, List.take_zero, List.append_nil]
        · rintro j y H3 H4 hj ⟨hS3, hq3, hd3⟩ ⟨rfl, hy⟩
          refine ⟨rfl, _, rfl, _, hd3, ?_, ?_, ?_, ?_⟩
          · rw [List.length_map, List.length_append, endsL_len, List.length_take, List.length_take]
            have l2 : [t.1, t.2.2].length = 2 := rfl
            exact Nat.lt_of_le_of_lt (show _ ≤ 4000 by omega) (by decide)
          · intro b o h
            rw [upd_ne (ne_of_none h hD)]
            exact hS3 b o h
          · rcases hq3 with (h | ⟨o, h⟩) | h
            · exact .inl (.inl (by rw [upd_ne (ne_of h hd3 (by intro z; cases z))]; exact h))
            · exact .inl (.inr ⟨o, by rw [upd_ne (ne_of h hd3 (by intro z; cases z))]; exact h⟩)
            · exact .inr h
          · have hy' : ([t.1, t.2.2].map V.str)[j]? = some y := hy
            obtain ⟨z, hz, rfl⟩ := map_str_get hy'
            have e : ∀ l : List Str, (l ++ (some z).toList).map V.str = l.map V.str ++ [V.str z] := fun l => by
              rw [List.map_append]
              rfl
            rw [upd_same, List.take_add_one, hz, ← List.append_assoc, e]
        · rintro H3 ⟨hS3, hq3, hd3⟩
          refine ⟨hS3, ?_⟩
          rw [hd3, endsL_take ht]
          rfl
      · rintro H' ⟨hS, hd⟩
        refine k D H' hD hS ?_
        rw [hd, List.length_map, List.take_of_length_le (by omega)]
end
end Wm
namespace Wm
open PySem L2
abbrev Var := Str × Option Str
def sortV : Option Str → V
  | none => .non
  | some s => .str s
def varV (v : Var) : List V := [.str v.1, sortV v.2]
def varT (v : Var) : List Str := v.1 :: v.2.toList
def textsL (nm : Str) (vars : List Var) (ts : List Tri) : List Str := (nm :: vars.flatMap varT) ++ ts.map (·.2.1)
theorem flat_take {vars : List Var} {i : Nat} {v : Var} (h : vars[i]? = some v) : (vars.take (i + 1)).flatMap varT = (vars.take i).flatMap varT ++ varT v := by
  rw [List.take_add_one, h, List.flatMap_append]
  simp
theorem var_get {vars : List Var} {i : Nat} {r : List V} (h : (vars.map varV)[i]? = some r) : ∃ t, vars[i]? = some t ∧ r = varV t := by
  rw [List.getElem?_map] at h
  cases e : vars[i]? with
  | none =>
    rw [e] at h
    cases h
  | some p =>
    rw [e] at h
    exact ⟨p, rfl, (Option.some.inj h).symm⟩
theorem inV_str {z : Str} {ns : List Str} : inV (.str z) (ns.map V.str) = decide (z ∈ ns) := by
  unfold inV
  induction ns with
  | nil => rfl
  | cons a r ih =>
    rw [List.map_cons, List.any_cons, ih]
    show (a == z || _) = _
    by_cases h : a = z
    · subst h
      simp
    · have h2 : ¬ z = a := fun q => h q.symm
      by_cases h3 : z ∈ r <;> simp [h, h2, h3]
theorem flat_strs (ns : List Str) : (ns.map V.str).all flatV = true := by
  rw [List.all_eq_true]
  intro x hx
  obtain ⟨z, _, rfl⟩ := List.mem_map.mp hx
  rfl
def spTP (K : PySem.W.Frag) : Sp := fun vs H Q _ => ∃ (nm : Str) (a b : Addr) (ps qs : List Addr) (vars : List Var) (ts : List Tri), vs = [.str nm, .ref a, .ref b] ∧ SqT K H a (ps.map V.ref) ∧ RowsAt K H ps (vars.map varV) ∧ SqL K H b (qs.map V.ref) ∧ RowsAt K H qs (ts.map triV) ∧
  ps.length ≤ 1000 ∧ qs.length ≤ 1000 ∧ ∀ d H', H d = none → Same H H' → H' d = some (.lst ((textsL nm vars ts).map V.str)) → Q (.ref d) H'
def spRV (K : PySem.W.Frag) : Sp := fun vs H Q _ => ∃ (a b : Addr) (ns zs : List Str), vs = [.ref a, .ref b] ∧ SqL K H a (ns.map V.str) ∧ SqL K H b (zs.map V.str) ∧ (∀ z ∈ zs, z ∈ ns) ∧ ∀ H', Same H H' → Q .non H'
def spRL (K : PySem.W.Frag) : Sp := fun vs H Q _ => ∃ (a b : Addr) (ns : List Str) (ps : List Addr) (ts : List Tri), vs = [.ref a, .ref b] ∧ SqL K H a (ns.map V.str) ∧ SqT K H b (ps.map V.ref) ∧ RowsAt K H ps (ts.map triV) ∧ ps.length ≤ 1000 ∧ (∀ z ∈ ns, z ∈ endsL ts) ∧ ∀ H', Same H H' → Q .non H'
def Hangs (ts : List Tri) : Prop := ∀ (i : Nat) (t : Tri), 0 < i → ts[i]? = some t → t.1 ∈ endsL (ts.take i) ∨ t.2.2 ∈ endsL (ts.take i)
def spRA (K : PySem.W.Frag) : Sp := fun vs H Q _ => ∃ (b : Addr) (ps : List Addr) (ts : List Tri), vs = [.ref b] ∧ SqT K H b (ps.map V.ref) ∧ RowsAt K H ps (ts.map triV) ∧ ps.length ≤ 1000 ∧ Hangs ts ∧ ∀ H', Same H H' → Q .non H'
section
variable {P : Program} {w : World} {K : PySem.W.Frag} {mg : Str → Option Value} {base : Heap}
theorem scTP : FnScope ["name", "variables", "triples", "texts", "variable", "sort", "x", "word", "y"] ["name", "variables", "triples"] (defScope sTP) := ⟨rfl, rfl, rfl, by decide +kernel, rfl, by decide +kernel, by decide +kernel⟩
theorem ok_tp {f : Addr} {fd : FuncData} (F : Fun K "texts_of_pattern" "texts_of_pattern" sTP f fd) : FnOk P w K mg base CX0 1 f fd ["name", "variables", "triples"] (spTP K) := by
  refine F.ok scTP (fun vs H Q E h => ?_) (fun cdv A outer s H vs Q E hr h => ?_)
  · obtain ⟨nm, a, b, ps, qs, vars, ts, rfl, _⟩ := h
    rfl
  · obtain ⟨nm, a, b, ps, qs, vars, ts, rfl, ha, hva, hb, htr, hn, hn2, k⟩ := h
    have hlen := hva.len
    rw [List.length_map] at hlen
    have hlen2 := htr.len
    rw [List.length_map] at hlen2
    have fl : ∀ i, ((vars.take i).flatMap varT).length ≤ 2 * vars.length := fun i => by
      have e : ∀ l : List Var, (l.flatMap varT).length ≤ 2 * l.length := fun l => by
        induction l with
        | nil => exact Nat.le_refl _
        | cons v r ih =>
          have e : ((v :: r).flatMap varT).length = (varT v).length + (r.flatMap varT).length := by
            rw [List.flatMap_cons, List.length_append]
          have e2 : (varT v).length ≤ 2 := by
            unfold varT
            cases v.2 <;> simp
          have e3 : (v :: r).length = r.length + 1 := rfl
          omega
      have q := e (vars.take i)
      rw [List.length_take] at q
      omega
    refine ⟨_, (pss_cons (ps_set (i := 3) scTP.nd rfl (Or.inl rfl) (pe_lst (pa_cons (pv 0) pa_nil)))
      (pss_cons (ps_for PassesOwn.never rfl (pi_tup (pv 1)) (pg_tup rfl (pgs_cons (pg_name (i := 4) scTP.nd rfl (Or.inl rfl)) (pgs_cons (pg_name (i := 5) scTP.nd rfl (Or.inl rfl)) pgs_nil))) (pss_cons (ps_expr (pe_bm PySem.F.plainAttrs_list PySem.F.slot_list_append PySem.F.type_list_append mt_append (pv 3) (pa_cons (pv 4) pa_nil)))
      (pss_one (ps_if (pt_cmp (pc_notN (pv 5))) (pss_one (ps_expr (pe_bm PySem.F.plainAttrs_list PySem.F.slot_list_append PySem.F.type_list_append mt_append (pv 3) (pa_cons (pv 5) pa_nil)))) pss_nil))))
      (pss_cons (ps_expr (pe_bm PySem.F.plainAttrs_list PySem.F.slot_list_extend PySem.F.type_list_extend mt_extend (pv 3) (pa_cons (pe_lc (own := [("x", 6), ("word", 7), ("y", 8)]) (g := gTup K 3 (gCons (gName 6) (gCons (gName 7) (gCons (gName 8) gNil)))) rfl scTP.nd (pi_list (pv 2)) (blkOk_by (N := ["name", "variables", "triples", "texts", "variable", "sort", "x", "word", "y"]) (sc := defScope sTP) (by decide +kernel)) (fun _ _ _ _ _ => (pg_tup rfl (pgs_cons (pg_name (i := 6) scTP.nd rfl (Or.inl rfl)) (pgs_cons (pg_name (i := 7) scTP.nd rfl (Or.inl rfl)) (pgs_cons (pg_name (i := 8) scTP.nd rfl (Or.inl rfl)) pgs_nil))))) (fun _ _ _ _ _ => pts_nil) (fun _ _ _ _ _ => (pv 7))) pa_nil)))
      (pss_one (ps_ret (pv 3)))))), ?_⟩
    refine ⟨_, rfl, by show 1 ≤ sizeLine; decide, fun d hd => ?_⟩
    have S0 : Same H (upd H d (.lst [.str nm])) := Same.upd hd
    refine ⟨_, rfl, a, rfl, ⟨_, same_seqT S0 ha⟩, for_it walk_tup (fun i σ H' => (∃ u v, σ = [some (.str nm), some (.ref a), some (.ref b), some (.ref d), u, v, none, none, none]) ∧ Same H H' ∧ H' d = some (.lst ((nm :: (vars.take i).flatMap varT).map V.str)))
      ⟨⟨none, none, rfl⟩, S0, upd_same⟩ (fun i σ H' _ p => same_seqT p.2.1 ha) ?_ ?_⟩
    · rintro i x σ H1 H2 hi ⟨⟨u, v, rfl⟩, hS, hl⟩ ⟨rfl, hx⟩
      obtain ⟨p, hp, rfl⟩ := map_ref_get hx
      obtain ⟨r, hr1, hr'⟩ := hva.get hp
      obtain ⟨⟨n, so⟩, ht, rfl⟩ := var_get hr1
      have fi := fl i
      refine ⟨p, _, rfl, same_seqT hS hr', rfl, _, _, rfl, _, _, rfl, rfl, ?_⟩
      refine ⟨_, rfl, .inl ⟨rfl, _, SqL.of hl⟩, _, rfl, d, _, _, rfl, rfl, hl, ?_, ?_⟩
      · rw [List.length_map, List.length_cons]
        exact Nat.lt_of_le_of_lt (show _ ≤ 4000 by omega) (by decide)
      have S1 : Same H (upd H2 d (.lst ((nm :: (vars.take i).flatMap varT).map V.str ++ [.str n]))) := fun b' o h => by
        rw [upd_ne (ne_of_none h hd)]
        exact hS b' o h
      refine ⟨_, rfl, _, rfl, ?_⟩
      cases so with
      | none =>
        refine iteF ⟨⟨_, _, rfl⟩, S1, ?_⟩
        rw [upd_same, flat_take ht]
        have e : (nm :: ((vars.take i).flatMap varT ++ varT (n, none))) = (nm :: (vars.take i).flatMap varT) ++ [n] := rfl
        rw [e, List.map_append]
        rfl
      | some so =>
        refine iteT ?_
        refine ⟨_, rfl, .inl ⟨rfl, _, SqL.of upd_same⟩, _, rfl, d, _, _, rfl, rfl, upd_same, ?_, ?_⟩
        · rw [List.length_append, List.length_map, List.length_cons, List.length_singleton]
          exact Nat.lt_of_le_of_lt (show _ ≤ 4000 by omega) (by decide)
        · refine ⟨⟨_, _, rfl⟩, fun b' o h => ?_, ?_⟩
          · rw [upd_ne (ne_of_none h hd)]
            exact S1 b' o h
          · rw [upd_same, flat_take ht]
            have e : (nm :: ((vars.take i).flatMap varT ++ varT (n, some so))) = (nm :: (vars.take i).flatMap varT) ++ [n, so] := rfl
            rw [e, List.map_append, List.append_assoc]
            rfl
    · rintro σ H1 ⟨⟨u, v, rfl⟩, hS, hl⟩
      rw [List.length_map, List.take_of_length_le (by omega)] at hl
      have fi := fl vars.length
      rw [List.take_length] at fi
      refine ⟨_, rfl, .inl ⟨rfl, _, SqL.of hl⟩, _, rfl, b, rfl, ⟨_, hS.seq hb⟩, fun D hD => ?_⟩
      have nDd : D ≠ d := (ne_of_none hl hD).symm
      refine lc_it walk_list (fun i H' => Same H H' ∧ H' d = some (.lst ((nm :: vars.flatMap varT).map V.str)) ∧ H' D = some (.lst (((ts.take i).map (·.2.1)).map V.str))) ⟨hS.trans (Same.upd hD), by rw [upd_ne nDd.symm]; exact hl, upd_same⟩ (fun i H' _ p => p.1.seq hb) ?_ ?_
      · rintro i x H2 H3 hi ⟨hS2, hl2, hD2⟩ ⟨rfl, hx⟩
        obtain ⟨p, hp, rfl⟩ := map_ref_get hx
        obtain ⟨r, hr1, hr'⟩ := htr.get hp
        obtain ⟨t, ht, rfl⟩ := tri_get hr1
        refine ⟨p, _, rfl, same_seqT hS2 hr', rfl, _, _, rfl, _, _, rfl, _, _, rfl, rfl, rfl, ?_⟩
        refine ⟨_, rfl, _, hD2, ?_, ?_, ?_, ?_⟩
        · rw [List.length_map, List.length_map, List.length_take]
          exact Nat.lt_of_le_of_lt (show _ ≤ 1000 by omega) (by decide)
        · intro b' o h
          rw [upd_ne (ne_of_none h (hS.free hD))]
          exact hS2 b' o h
        · rw [upd_ne nDd.symm]
          exact hl2
        · rw [upd_same, List.take_add_one, ht, List.map_append, List.map_append]
          rfl
      · rintro H2 ⟨hS2, hl2, hD2⟩
        rw [List.length_map, List.take_of_length_le (by omega)] at hD2
        refine ⟨d, D, _, _, rfl, rfl, hl2, hD2, ?_, ?_⟩
        · rw [List.length_map, List.length_map, List.length_map, List.length_cons]
          exact Nat.le_trans (show _ ≤ 4000 by omega) (by decide)
        · refine ⟨_, rfl, ?_⟩
          refine k d _ hd (fun b' o h => ?_) ?_
          · rw [upd_ne (ne_of_none h hd)]
            exact hS2 b' o h
          · rw [upd_same]
            unfold textsL
            rw [List.map_append]
theorem scRV : FnScope ["names", "texts", "text"] ["names", "texts"] (defScope sRV) := ⟨rfl, rfl, rfl, by decide +kernel, rfl, by decide +kernel, by decide +kernel⟩
theorem ok_rv {f : Addr} {fd : FuncData} (F : Fun K "refuse_no_variable" "refuse_no_variable" sRV f fd) : FnOk P w K mg base CX0 1 f fd ["names", "texts"] (spRV K) := by
  refine F.ok scRV (fun vs H Q E h => ?_) (fun cdv A outer s H vs Q E hr h => ?_)
  · obtain ⟨a, b, ns, zs, rfl, _⟩ := h
    rfl
  · obtain ⟨a, b, ns, zs, rfl, ha, hb, hin, k⟩ := h
    refine ⟨_, (pss_one (ps_for PassesOwn.never rfl (pi_list (pv 1)) (pg_name (i := 2) scRV.nd rfl (Or.inl rfl)) (pss_one (ps_if (pt_cmpR op_notIn_seq (pv 2) (pv 0) (by rfl)) (pss_one ps_never) pss_nil)))), ?_⟩
    refine ⟨_, rfl, b, rfl, ⟨_, hb⟩, for_list (K := K) (a := b) (xs := zs.map V.str) (fun i σ H' => (∃ v, σ = [some (.ref a), some (.ref b), v]) ∧ H' = H) ⟨⟨none, rfl⟩, rfl⟩ (fun i σ H' _ p => by rw [p.2]; exact hb) ?_ ?_⟩
    · rintro i y σ H' hi ⟨⟨v, rfl⟩, rfl⟩
      obtain ⟨z, hz, rfl⟩ := map_str_get hi
      refine ⟨_, rfl, _, rfl, a, _, rfl, .inl ha, rfl, flat_strs ns, _, rfl, ?_⟩
      show if (!inV (.str z) (ns.map V.str)) = true then _ else _
      rw [inV_str, decide_eq_true (hin z (List.mem_of_getElem? hz))]
      exact iteF ⟨⟨_, rfl⟩, rfl⟩
    · rintro σ H' ⟨_, rfl⟩
      exact k H' (Same.refl H')
theorem scRL : FnScope ["names", "conditions", "tied", "name"] ["names", "conditions"] (defScope sRL) := ⟨rfl, rfl, rfl, by decide +kernel, rfl, by decide +kernel, by decide +kernel⟩
theorem ok_rl {f fE : Addr} {fd fdE : FuncData} (F : Fun K "refuse_loose" "refuse_loose" sRL f fd) (D : Dn K mg "ends_of" sEO ["triples"] fE fdE) : FnOk P w K mg base CX0 2 f fd ["names", "conditions"] (spRL K) := by
  have G : FnOk P w K mg base CX0 1 fE fdE ["triples"] (spEO K) := ok_eo D.F
  refine F.ok scRL (fun vs H Q E h => ?_) (fun cdv A outer s H vs Q E hr h => ?_)
  · obtain ⟨a, b, ns, ps, ts, rfl, _⟩ := h
    rfl
  · obtain ⟨a, b, ns, ps, ts, rfl, ha, hb, htr, hn, hin, k⟩ := h
    refine ⟨_, (pss_cons (ps_set (i := 2) scRL.nd rfl (Or.inl rfl) (pe_call G hr rfl D.g D.F.kp D.b .nil pass0 (pa_cons (pv 1) pa_nil)))
      (pss_one (ps_for PassesOwn.never rfl (pi_list (pv 0)) (pg_name (i := 3) scRL.nd rfl (Or.inl rfl)) (pss_one (ps_if (pt_cmpR op_notIn_seq (pv 3) (pv 2) (by rfl)) (pss_one ps_never) pss_nil))))), ?_⟩
    refine ⟨_, rfl, b, ps, ts, rfl, .inr hb, htr, hn, fun d H1 hd hS hl => ?_⟩
    refine ⟨_, rfl, a, rfl, ⟨_, hS.seq ha⟩, for_list (K := K) (a := a) (xs := ns.map V.str) (fun i σ H' => (∃ v, σ = [some (.ref a), some (.ref b), some (.ref d), v]) ∧ H' = H1) ⟨⟨none, rfl⟩, rfl⟩ (fun i σ H' _ p => by rw [p.2]; exact hS.seq ha) ?_ ?_⟩
    · rintro i y σ H' hi ⟨⟨v, rfl⟩, rfl⟩
      obtain ⟨z, hz, rfl⟩ := map_str_get hi
      refine ⟨_, rfl, _, rfl, d, _, rfl, .inl (SqL.of hl), rfl, flat_strs _, _, rfl, ?_⟩
      show if (!inV (.str z) ((endsL ts).map V.str)) = true then _ else _
      rw [inV_str, decide_eq_true (hin z (List.mem_of_getElem? hz))]
      exact iteF ⟨⟨_, rfl⟩, rfl⟩
    · rintro σ H' ⟨_, rfl⟩
      exact k H' hS
theorem scRA : FnScope ["conditions", "place", "x", "word", "y", "ahead"] ["conditions"] (defScope sRA) := ⟨rfl, rfl, rfl, by decide +kernel, rfl, by decide +kernel, by decide +kernel⟩
theorem ok_ra {f fE : Addr} {fd fdE : FuncData} (F : Fun K "refuse_apart" "refuse_apart" sRA f fd) (T : TxB mg) (D : Dn K mg "ends_of" sEO ["triples"] fE fdE) : FnOk P w K mg base CX0 2 f fd ["conditions"] (spRA K) := by
  have G : FnOk P w K mg base CX0 1 fE fdE ["triples"] (spEO K) := ok_eo D.F
  refine F.ok scRA (fun vs H Q E h => ?_) (fun cdv A outer s H vs Q E hr h => ?_)
  · obtain ⟨b, ps, ts, rfl, _⟩ := h
    rfl
  · obtain ⟨b, ps, ts, rfl, hb, htr, hn, hh, k⟩ := h
    have hlen := htr.len
    rw [List.length_map] at hlen
    refine ⟨_, (pss_one (ps_for PassesOwn.never rfl (pi_enumT rfl T.enumerate (pa_cons (pv 0) pa_nil)) (pg_tup rfl (pgs_cons (pg_name (i := 1) scRA.nd rfl (Or.inl rfl)) (pgs_cons (pg_tup rfl (pgs_cons (pg_name (i := 2) scRA.nd rfl (Or.inl rfl)) (pgs_cons (pg_name (i := 3) scRA.nd rfl (Or.inl rfl)) (pgs_cons (pg_name (i := 4) scRA.nd rfl (Or.inl rfl)) pgs_nil)))) pgs_nil))) (pss_cons (ps_set (i := 5) scRA.nd rfl (Or.inl rfl) (pe_call G hr rfl D.g D.F.kp D.b .nil pass0 (pa_cons (pe_slice sl_tupA (pv 0) po_none (po_some (pv 1))) pa_nil)))
      (pss_one (ps_if (PW.pt (pw_and (pt_cmpR op_gt (pv 1) pe_int (nomark _)) (pw_and (pt_cmpR op_notIn_seq (pv 2) (pv 5) (by rfl)) (pw_and1 (pt_cmpR op_notIn_seq (pv 4) (pv 5) (by rfl)))))) (pss_one ps_never) pss_nil))))), ?_⟩
    refine ⟨_, rfl, b, _, rfl, hb, for_it walk_enumT (fun i σ H' => (∃ u v x y z, σ = [some (.ref b), u, v, x, y, z]) ∧ Same H H') ⟨⟨none, none, none, none, none, rfl⟩, Same.refl H⟩ (fun i σ H' _ p => same_seqT p.2 hb) ?_ ?_⟩
    · rintro i x σ H1 H2 hi ⟨⟨u, v, x1, x2, x3, rfl⟩, hS⟩ ⟨q, y, z, rfl, hq, rfl, e1, e2⟩
      cases e1
      obtain ⟨p, hp, rfl⟩ := map_ref_get e2
      obtain ⟨r, hr1, hr'⟩ := htr.get hp
      obtain ⟨t, ht, rfl⟩ := tri_get hr1
      have S2 := hS.trans (Same.upd (o := .tup [.int (i : Nat), .ref p]) hq)
      have hi' : i < ps.length := by rw [List.length_map] at hi; exact hi
      refine ⟨q, _, rfl, SqT.of upd_same, rfl, _, _, rfl, _, _, rfl, ⟨p, _, rfl, same_seqT S2 hr', rfl, _, _, rfl, _, _, rfl, _, _, rfl, rfl, rfl, ?_⟩⟩
      refine ⟨_, rfl, _, rfl, _, rfl, b, _, rfl, same_seqT S2 hb, fun h => ?_, fun _ c hc => ?_⟩
      · exfalso
        rw [HT.sIx_nat, List.length_map] at h
        omega
      have S3 := S2.trans (Same.upd (o := .tup (cutV (ps.map V.ref) none (some (i : Int)))) hc)
      have hcut : cutV (ps.map V.ref) none (some (i : Int)) = (ps.take i).map V.ref := by rw [cut_take, List.map_take]
      refine ⟨c, ps.take i, ts.take i, rfl, .inr (SqT.of (by rw [upd_same, hcut])), ?_, by rw [List.length_take]; omega, fun d H3 hd hS3 hl => ?_⟩
      · rw [List.map_take]
        exact (htr.take i).same S3
      refine ⟨_, rfl, _, _, rfl, rfl, _, rfl, ?_⟩
      refine ite2 (fun h0 => ?_) (fun _ => ?_)
      · have h0' : (0 : Int) < (i : Int) := of_decide_eq_true h0
        refine ⟨_, rfl, _, rfl, d, _, rfl, .inl (SqL.of hl), rfl, flat_strs _, _, rfl, ?_⟩
        show if (!inV (.str t.1) ((endsL (ts.take i)).map V.str)) = true then _ else _
        rw [inV_str]
        by_cases m1 : t.1 ∈ endsL (ts.take i)
        · rw [decide_eq_true m1]
          exact iteF (iteF ⟨⟨_, _, _, _, _, rfl⟩, S3.trans hS3⟩)
        · rw [decide_eq_false m1]
          refine iteT ?_
          refine ⟨_, rfl, _, rfl, d, _, rfl, .inl (SqL.of hl), rfl, flat_strs _, _, rfl, ?_⟩
          show if (!inV (.str t.2.2) ((endsL (ts.take i)).map V.str)) = true then _ else _
          have m2 : t.2.2 ∈ endsL (ts.take i) := (hh i t (by omega) ht).resolve_left m1
          rw [inV_str, decide_eq_true m2]
          exact iteF ⟨⟨_, _, _, _, _, rfl⟩, S3.trans hS3⟩
      · exact iteF ⟨⟨_, _, _, _, _, rfl⟩, S3.trans hS3⟩
    · rintro σ H' ⟨_, hS⟩
      exact k H' hS
end
end Wm
namespace Wm
open PySem L2 StX
structure TxP (mg : Str → Option Value) : Prop where
  mv : ∃ t, mg "MOST_VARIABLES" = some (.int 4 t)
  mc : ∃ t, mg "MOST_CONDITIONS" = some (.int 3 t)
theorem DueN.mono {C : Addr} {zs : List Str} {H H1 : Hp} {Q : VK} {E : XK} (hS : Same H H1) (h : DueN C zs H Q E) : DueN C zs H1 Q E := by
  unfold DueN at h ⊢
  split
  · rename_i e
    rw [e] at h
    exact fun H' h1 => h H' (hS.trans h1)
  · rename_i z e
    rw [e] at h
    exact fun d H' h0 h1 h2 => h d H' (hS.free h0) (hS.trans h1) h2
theorem DueN.next {C : Addr} {zs : List Str} {H H1 : Hp} {Q Q' : VK} {E : XK} (h : DueN C zs H Q E) (hS : Same H H1) (r : zs.find? (fun z => !isNm z) = none → ∀ H', Same H1 H' → Q' .non H') : DueN C zs H1 Q' E := by
  have h' := DueN.mono hS h
  unfold DueN at h' ⊢
  cases e : zs.find? (fun z => !isNm z) with
  | none => exact r e
  | some z =>
    rw [e] at h'
    exact h'
theorem flat_len (l : List Var) : (l.flatMap varT).length ≤ 2 * l.length := by
  induction l with
  | nil => exact Nat.le_refl _
  | cons v r ih =>
    have e : ((v :: r).flatMap varT).length = (varT v).length + (r.flatMap varT).length := by
      rw [List.flatMap_cons, List.length_append]
    have e2 : (varT v).length ≤ 2 := by
      unfold varT
      cases v.2 <;> simp
    have e3 : (v :: r).length = r.length + 1 := rfl
    omega
/-- a pattern of which nothing but a text that is no name is to be refused -/
structure PatOk (vars : List Var) (cs gs : List Tri) (hs : List Str) : Prop where
  v1 : 1 ≤ vars.length
  v4 : vars.length ≤ 4
  c1 : 1 ≤ cs.length
  c3 : cs.length ≤ 3
  g3 : gs.length ≤ 1
  h3 : hs.length ≤ 1
  tw : NoTw ((vars.map (·.1)).map V.str)
  en : ∀ z ∈ endsL (cs ++ gs) ++ hs, z ∈ vars.map (·.1)
  lo : ∀ z ∈ vars.map (·.1), z ∈ endsL cs
  ap : Hangs cs
def spCP (K : PySem.W.Frag) (C : Addr) : Sp := fun vs H Q E => ∃ (nm : Str) (a b g h : Addr) (ps qs us : List Addr) (vars : List Var) (cs gs : List Tri) (hs : List Str), vs = [.str nm, .ref a, .ref b, .ref g, .ref h] ∧ SqT K H a (ps.map V.ref) ∧ RowsAt K H ps (vars.map varV) ∧
  SqT K H b (qs.map V.ref) ∧ RowsAt K H qs (cs.map triV) ∧ SqL K H g (us.map V.ref) ∧ RowsAt K H us (gs.map triV) ∧ SqL K H h (hs.map V.str) ∧ PatOk vars cs gs hs ∧ (∀ z ∈ textsL nm vars (cs ++ gs), z.length ≤ 1000) ∧ DueN C (textsL nm vars (cs ++ gs)) H Q E
section
variable {P : Program} {w : World} {K : PySem.W.Frag} {mg : Str → Option Value} {base : Heap}
theorem scCP : FnScope ["name", "variables", "conditions", "given", "hands", "triples", "names", "variable", "sort"] ["name", "variables", "conditions", "given", "hands"] (defScope sCP) := ⟨rfl, rfl, rfl, by decide +kernel, rfl, by decide +kernel, by decide +kernel⟩
theorem ok_cp {f fRC fRN fTP fRT fRV fEO fRL fRA C : Addr} {fd dRC dRN dTP dRT dRV dEO dRL dRA : FuncData} (F : Fun K "check_pattern" "check_pattern" sCP f fd) (T : TxB mg) (TP : TxP mg)
    (RC : Dn K mg "refuse_count" sRC ["what", "count", "least", "most"] fRC dRC) (RN : Dn K mg "refuse_no_name" sRN ["texts"] fRN dRN) (TX : Dn K mg "texts_of_pattern" sTP ["name", "variables", "triples"] fTP dTP) (RT : Dn K mg "refuse_twice" sRT ["names"] fRT dRT)
    (RV : Dn K mg "refuse_no_variable" sRV ["names", "texts"] fRV dRV) (EO : Dn K mg "ends_of" sEO ["triples"] fEO dEO) (RL : Dn K mg "refuse_loose" sRL ["names", "conditions"] fRL dRL) (RA : Dn K mg "refuse_apart" sRA ["conditions"] fRA dRA)
    (GRN : FnOk P w K mg base (L2.CX P w) 4 fRN dRN ["texts"] (spRN K C)) (GRT : FnOk P w K mg base CX0 2 fRT dRT ["names"] (spFT K)) :
    FnOk P w K mg base (L2.CX P w) 5 f fd ["name", "variables", "conditions", "given", "hands"] (spCP K C) := by
  have GRC : FnOk P w K mg base CX0 1 fRC dRC _ spRC := ok_rc RC.F
  have GTX : FnOk P w K mg base CX0 1 fTP dTP _ (spTP K) := ok_tp TX.F
  have GRV : FnOk P w K mg base CX0 1 fRV dRV _ (spRV K) := ok_rv RV.F
  have GEO : FnOk P w K mg base CX0 1 fEO dEO _ (spEO K) := ok_eo EO.F
  have GRL : FnOk P w K mg base CX0 2 fRL dRL _ (spRL K) := ok_rl RL.F EO
  have GRA : FnOk P w K mg base CX0 2 fRA dRA _ (spRA K) := ok_ra RA.F T EO
  obtain ⟨t1, hmv⟩ := TP.mv
  obtain ⟨t2, hmc⟩ := TP.mc
  refine F.okX scCP (fun vs H Q E h => ?_) (fun cdv A outer s H vs Q E hr h => ?_)
  · obtain ⟨nm, a, b, g, h, ps, qs, us, vars, cs, gs, hs, rfl, _⟩ := h
    rfl
  · obtain ⟨nm, a, b, g, h, ps, qs, us, vars, cs, gs, hs, rfl, ha, hva, hb, hcs, hg, hgs, hh, ok, hz, k⟩ := h
    have hr1 : Room 1 _ := hr.mono (by decide)
    have hr2 : Room 2 _ := hr.mono (by decide)
    have l1 := hva.len
    have l2 := hcs.len
    have l3 := hgs.len
    rw [List.length_map] at l1 l2 l3
    have o1 := ok.v4
    have o2 := ok.c3
    have o3 := ok.g3
    have o4 := ok.v1
    have o5 := ok.c1
    have o6 := ok.h3
    refine ⟨_, (pss_cons (ps_expr (pe_call GRC hr1 rfl RC.g RC.F.kp RC.b .nil pass0 (pa_cons pe_str (pa_cons (pe_callB call_len_seq (by rfl) T.len (by decide +kernel) (pa_cons (pv 1) pa_nil)) (pa_cons pe_int (pa_cons (pe_glob (v := .int 4) (by rfl) hmv ⟨_, rfl⟩) pa_nil))))))
      (pss_cons (ps_expr (pe_call GRC hr1 rfl RC.g RC.F.kp RC.b .nil pass0 (pa_cons pe_str (pa_cons (pe_callB call_len_seq (by rfl) T.len (by decide +kernel) (pa_cons (pv 2) pa_nil)) (pa_cons pe_int (pa_cons (pe_glob (v := .int 3) (by rfl) hmc ⟨_, rfl⟩) pa_nil))))))
      (pss_cons (ps_set (i := 5) scCP.nd rfl (Or.inl rfl) (pe_lst (pa_star (pv 2) (pa_star (pv 3) pa_nil))))
      (pss_cons (ps_expr (pe_call GRN hr rfl RN.g RN.F.kp RN.b .nil (passes_call (takes_of rfl rfl rfl rfl) (fun _ _ _ _ h => h)) (pa_cons (pe_call GTX hr1 rfl TX.g TX.F.kp TX.b .nil pass0 (pa_cons (pv 0) (pa_cons (pv 1) (pa_cons (pv 5) pa_nil)))) pa_nil)))
      (pss_cons (ps_setLc (i := 6) (own := [("variable", 7), ("sort", 8)]) (g := gTup K 2 (gCons (gName 7) (gCons (gName 8) gNil))) rfl scCP.nd rfl rfl (sw_true rfl rfl rfl (by decide +kernel)) (pi_tup (pv 1)) (blkOk_by (N := ["name", "variables", "conditions", "given", "hands", "triples", "names", "variable", "sort"]) (sc := defScope sCP) (by decide +kernel)) (fun _ _ _ _ _ => (pg_tup rfl (pgs_cons (pg_name (i := 7) scCP.nd rfl (Or.inl rfl)) (pgs_cons (pg_name (i := 8) scCP.nd rfl (Or.inl rfl)) pgs_nil)))) (fun _ _ _ _ _ => pts_nil) (fun _ _ _ _ _ => (pv 7)))
      (pss_cons (ps_expr (pe_call GRT hr2 rfl RT.g RT.F.kp RT.b .nil pass0 (pa_cons (pv 6) pa_nil)))
      (pss_cons (ps_expr (pe_call GRV hr1 rfl RV.g RV.F.kp RV.b .nil pass0 (pa_cons (pv 6) (pa_cons (pe_lst (pa_star (pe_call GEO hr1 rfl EO.g EO.F.kp EO.b .nil pass0 (pa_cons (pv 5) pa_nil)) (pa_star (pv 4) pa_nil))) pa_nil))))
      (pss_cons (ps_expr (pe_call GRL hr2 rfl RL.g RL.F.kp RL.b .nil pass0 (pa_cons (pv 6) (pa_cons (pv 2) pa_nil))))
      (pss_one (ps_expr (pe_call GRA hr2 rfl RA.g RA.F.kp RA.b .nil pass0 (pa_cons (pv 2) pa_nil)))))))))))), ?_⟩
    refine ⟨_, rfl, a, _, rfl, .inr ha, _, _, _, _, rfl, ?_, ?_, ?_⟩
    · rw [List.length_map]; omega
    · rw [List.length_map]; omega
    refine ⟨_, rfl, b, _, rfl, .inr hb, _, _, _, _, rfl, ?_, ?_, ?_⟩
    · rw [List.length_map]; omega
    · rw [List.length_map]; omega
    -- triples = [*conditions, *given]
    refine ⟨_, rfl, b, _, rfl, .inl hb, _, rfl, g, _, rfl, .inr hg, ?_, fun tr htr => ?_⟩
    · show (qs.map V.ref ++ (us.map V.ref ++ [])).length ≤ sizeLine
      rw [List.append_nil, List.length_append, List.length_map, List.length_map]
      exact Nat.le_trans (show _ ≤ 1000 by omega) (by decide)
    have etr : qs.map V.ref ++ (us.map V.ref ++ []) = (qs ++ us).map V.ref := by rw [List.append_nil, List.map_append]
    have S1 : Same H (upd H tr (.lst (qs.map V.ref ++ (us.map V.ref ++ [])))) := Same.upd htr
    refine ⟨_, rfl, _, rfl, _, rfl, nm, a, tr, ps, qs ++ us, vars, cs ++ gs, rfl, same_seqT S1 ha, hva.same S1, SqL.of (by rw [upd_same, etr]), ?_, by omega, by rw [List.length_append]; omega, fun d H2 hd hS2 hl => ?_⟩
    · rw [List.map_append]
      exact (hcs.append hgs).same S1
    have S2 := S1.trans hS2
    refine ⟨d, _, rfl, SqL.of hl, ?_, hz, ?_⟩
    · unfold textsL
      have e : ∀ l : List Var, (l.flatMap varT).length ≤ 2 * l.length := flat_len
      have e2 := e vars
      rw [List.length_append, List.length_cons, List.length_map, List.length_append]
      omega
    refine DueN.next k S2 fun hn H3 hS3 => ?_
    have S3 := S2.trans hS3
    -- names = [variable for variable, sort in variables]
    refine ⟨_, rfl, a, rfl, ⟨_, same_seqT S3 ha⟩, fun D hD => ?_⟩
    refine lc_it walk_tup (fun i H' => Same H3 H' ∧ H' D = some (.lst (((vars.take i).map (·.1)).map V.str))) ⟨Same.upd hD, upd_same⟩ (fun i H' _ p => same_seqT (S3.trans p.1) ha) ?_ ?_
    · rintro i x H4 H5 hi ⟨hS4, hD4⟩ ⟨rfl, hx⟩
      obtain ⟨p, hp, rfl⟩ := map_ref_get hx
      obtain ⟨r, hr1', hr'⟩ := hva.get hp
      obtain ⟨⟨n, so⟩, ht, rfl⟩ := var_get hr1'
      refine ⟨p, _, rfl, same_seqT (S3.trans hS4) hr', rfl, _, _, rfl, _, _, rfl, rfl, rfl, ?_⟩
      refine ⟨_, rfl, _, hD4, ?_, ?_, ?_⟩
      · rw [List.length_map, List.length_map, List.length_take]
        exact Nat.lt_of_le_of_lt (show _ ≤ 1000 by omega) (by decide)
      · intro b' o h
        rw [upd_ne (ne_of_none h hD)]
        exact hS4 b' o h
      · rw [upd_same, List.take_add_one, ht, List.map_append, List.map_append]
        rfl
    rintro H4 ⟨hS4, hD4⟩
    rw [List.length_map, List.take_of_length_le (by omega)] at hD4
    have S4 := S3.trans hS4
    have tr4 : H4 tr = some (.lst ((qs ++ us).map V.ref)) := by
      have q : (upd H tr (.lst (qs.map V.ref ++ (us.map V.ref ++ [])))) tr = some (.lst ((qs ++ us).map V.ref)) := by rw [upd_same, etr]
      exact hS4 _ _ (hS3 _ _ (hS2 _ _ q))
    -- refuse_twice(names)
    refine ⟨_, rfl, D, _, rfl, .inl (SqL.of hD4), flat_strs _, ok.tw, fun H5 hS5 => ?_⟩
    have S5 := S4.trans hS5
    -- refuse_no_variable(names, [*ends_of(triples), *hands])
    refine ⟨_, rfl, _, rfl, tr, qs ++ us, cs ++ gs, rfl, .inl (SqL.of (hS5 _ _ tr4)), ?_, by rw [List.length_append]; omega, fun e H6 he hS6 hl6 => ?_⟩
    · rw [List.map_append]
      exact (hcs.append hgs).same S5
    have S6 := S5.trans hS6
    refine ⟨e, _, rfl, .inr (SqL.of hl6), _, rfl, h, _, rfl, .inr (S6.seq hh), ?_, fun l hl => ?_⟩
    · rw [List.length_append, List.length_map, endsL_len, List.length_append, List.append_nil, List.length_map]
      exact Nat.le_trans (show _ ≤ 1000 by omega) (by decide)
    refine ⟨D, l, _, endsL (cs ++ gs) ++ hs, rfl, SqL.of (Same.upd hl _ _ (hS6 _ _ (hS5 _ _ hD4))), SqL.of ?_, ok.en, fun H7 hS7 => ?_⟩
    · rw [upd_same, List.append_nil, List.map_append]
    have S7 := S6.trans ((Same.upd hl).trans hS7)
    have D7 := hS7 _ _ (Same.upd hl _ _ (hS6 _ _ (hS5 _ _ hD4)))
    -- refuse_loose(names, conditions)
    refine ⟨_, rfl, _, rfl, D, b, _, qs, cs, rfl, SqL.of D7, same_seqT S7 hb, hcs.same S7, by omega, ok.lo, fun H8 hS8 => ?_⟩
    have S8 := S7.trans hS8
    -- refuse_apart(conditions)
    refine ⟨_, rfl, b, qs, cs, rfl, same_seqT S8 hb, hcs.same S8, by omega, ok.ap, fun H9 hS9 => ?_⟩
    unfold DueN at k
    rw [hn] at k
    exact k H9 (S8.trans hS9)
end
end Wm
namespace Wm
open PySem L2 StX
def barF (nm : Str) (t1 t2 : Addr) : List (Str × V) := putF "conditions" (.ref t2) (putF "variables" (.ref t1) (putF "name" (.str nm) []))
theorem ne1 : ¬ (("variables" : Str) = "conditions") := by decide +kernel
theorem ne2 : ¬ (("name" : Str) = "conditions") := by decide +kernel
theorem ne3 : ¬ (("name" : Str) = "variables") := by decide +kernel
theorem barF_name (nm : Str) (t1 t2 : Addr) : (barF nm t1 t2).lookup ("name" : Str) = some (.str nm) := by
  unfold barF
  rw [lookup_putF, if_neg ne2, lookup_putF, if_neg ne3, lookup_putF, if_pos rfl]
theorem barF_vars (nm : Str) (t1 t2 : Addr) : (barF nm t1 t2).lookup ("variables" : Str) = some (.ref t1) := by
  unfold barF
  rw [lookup_putF, if_neg ne1, lookup_putF, if_pos rfl]
theorem barF_cond (nm : Str) (t1 t2 : Addr) : (barF nm t1 t2).lookup ("conditions" : Str) = some (.ref t2) := by
  unfold barF
  rw [lookup_putF, if_pos rfl]
theorem putF_len (f : Str) (v : V) : ∀ fs : List (Str × V), (putF f v fs).length ≤ fs.length + 1
  | [] => Nat.le_refl _
  | (g, x) :: r => by
    unfold putF
    split
    · exact Nat.le_succ _
    · have := putF_len f v r
      simp only [List.length_cons]
      omega
/-- what the making of an object that may be refused by a text is to bring; H0: what stood ahead of it -/
def DueM (C : Addr) (zs : List Str) (H0 : Hp) (ok : Hp → Prop) (E : XK) : Prop := match zs.find? (fun z => !isNm z) with
  | none => ∀ H', Same H0 H' → ok H'
  | some z => ∀ d H', H0 d = none → Same H0 H' → H' d = some (.xd (ef1 "name" "noname" (.str z))) → E (.ref C) (some d) H'
theorem DueM.toN {C : Addr} {zs : List Str} {H0 H1 : Hp} {ok : Hp → Prop} {Q : VK} {E : XK} (h : DueM C zs H0 ok E) (hS : Same H0 H1) (r : zs.find? (fun z => !isNm z) = none → ∀ H', Same H1 H' → Q .non H') : DueN C zs H1 Q E := by
  unfold DueM at h
  unfold DueN
  cases e : zs.find? (fun z => !isNm z) with
  | none => exact r e
  | some z =>
    rw [e] at h
    exact fun d H' h0 h1 h2 => h d H' (hS.free h0) (hS.trans h1) h2
structure TxBar (K : PySem.W.Frag) (mg : Str → Option Value) (B fB : Addr) : Prop where
  cl : Cls K B
  nn : NoAttr K B "name"
  nv : NoAttr K B "variables"
  nc : NoAttr K B "conditions"
  g : mg "Bar" = some (.ref B)
  m : Mk K B fB
def spBar (K : PySem.W.Frag) (C B : Addr) : Sp := fun vs H Q E => ∃ (H0 : Hp) (x dx l1 l2 : Addr) (nm : Str) (ps qs : List Addr) (vars : List Var) (cs : List Tri), vs = [.ref x, .str nm, .ref l1, .ref l2] ∧ Same H0 H ∧ H0 x = none ∧ H x = some (.ins B dx []) ∧
  SqL K H0 l1 (ps.map V.ref) ∧ RowsAt K H0 ps (vars.map varV) ∧ SqL K H0 l2 (qs.map V.ref) ∧ RowsAt K H0 qs (cs.map triV) ∧ PatOk vars cs [] [] ∧ (∀ z ∈ textsL nm vars cs, z.length ≤ 1000) ∧
  DueM C (textsL nm vars cs) H0 (fun H' => ∀ t1 t2, H' x = some (.ins B dx (barF nm t1 t2)) → H' t1 = some (.tup (ps.map V.ref)) → H' t2 = some (.tup (qs.map V.ref)) → Q .non H') E
section
variable {P : Program} {w : World} {K : PySem.W.Frag} {mg : Str → Option Value} {base : Heap}
theorem scBar : FnScope ["self", "name", "variables", "conditions"] ["self", "name", "variables", "conditions"] (defScope sBar) := ⟨rfl, rfl, rfl, by decide +kernel, rfl, by decide +kernel, by decide +kernel⟩
theorem ok_bar {f fTT fCP C B : Addr} {fd dTT dCP : FuncData} (F : Fun K "__init__" "Bar.__init__" sBar f fd) (T : TxB mg) (TB : TxBar K mg B f) (TT : Dn K mg "tuple_of_tuples" sTT ["rows"] fTT dTT)
    (CP : Dn K mg "check_pattern" sCP ["name", "variables", "conditions", "given", "hands"] fCP dCP) (GCP : FnOk P w K mg base (L2.CX P w) 5 fCP dCP ["name", "variables", "conditions", "given", "hands"] (spCP K C)) :
    FnOk P w K mg base (L2.CX P w) 6 f fd ["self", "name", "variables", "conditions"] (spBar K C B) := by
  have GTT : FnOk P w K mg base CX0 1 fTT dTT _ (spTT K) := ok_tt TT.F T
  refine F.okX scBar (fun vs H Q E h => ?_) (fun cdv A outer s H vs Q E hr h => ?_)
  · obtain ⟨H0, x, dx, l1, l2, nm, ps, qs, vars, cs, rfl, _⟩ := h
    rfl
  · obtain ⟨H0, x, dx, l1, l2, nm, ps, qs, vars, cs, rfl, S0, x0, hx, h1, hv, h2, hc, ok, hz, k⟩ := h
    have hr1 : Room 1 _ := hr.mono (by decide)
    have b1 := hv.len
    have b2 := hc.len
    rw [List.length_map] at b1 b2
    have o1 := ok.v4
    have o2 := ok.c3
    refine ⟨_, (pss_cons (ps_fld (pv 0) (pv 1) rfl)
      (pss_cons (ps_fld (pv 0) (pe_call GTT hr1 rfl TT.g TT.F.kp TT.b .nil pass0 (pa_cons (pv 2) pa_nil)) rfl)
      (pss_cons (ps_fld (pv 0) (pe_call GTT hr1 rfl TT.g TT.F.kp TT.b .nil pass0 (pa_cons (pv 3) pa_nil)) rfl)
      (pss_one (ps_expr (pe_call GCP hr rfl CP.g CP.F.kp CP.b .nil (passes_call (takes_of rfl rfl rfl rfl) (fun _ _ _ _ h => h)) (pa_cons (pv 1) (pa_cons (pe_fld (pv 0) rfl) (pa_cons (pe_fld (pv 0) rfl) (pa_cons (pe_lst pa_nil) (pa_cons (pe_lst pa_nil) pa_nil))))))))))), ?_⟩
    -- self.name = name
    refine ⟨_, rfl, _, rfl, x, B, dx, [], rfl, hx, TB.cl, TB.nn, (by show 0 < 1000; decide), ?_⟩
    have Sx : ∀ {H1 : Hp} {o : HO}, Same H0 H1 → Same H0 (upd H1 x o) := fun hs b o e => by
      rw [upd_ne (ne_of_none e x0)]
      exact hs b o e
    have S1 := Sx (o := .ins B dx (putF "name" (.str nm) [])) S0
    -- self.variables = tuple_of_tuples(variables)
    refine ⟨_, rfl, l1, ps, _, rfl, S1.seq h1, hv.same S1, by omega, fun t1 H2 ht1 hS2 hl1 => ?_⟩
    have S2 := S1.trans hS2
    have hx2 := hS2 _ _ (upd_same (H := H) (a := x) (o := .ins B dx (putF "name" (.str nm) [])))
    have n1x : t1 ≠ x := fun z => by
      rw [z, upd_same] at ht1
      cases ht1
    refine ⟨_, rfl, x, B, dx, _, rfl, hx2, TB.cl, TB.nv, Nat.lt_of_le_of_lt (putF_len _ _ _) (by decide), ?_⟩
    have S3 := Sx (o := .ins B dx (putF "variables" (.ref t1) (putF "name" (.str nm) []))) S2
    -- self.conditions = tuple_of_tuples(conditions)
    refine ⟨_, rfl, l2, qs, _, rfl, S3.seq h2, hc.same S3, by omega, fun t2 H4 ht2 hS4 hl2 => ?_⟩
    have S4 := S3.trans hS4
    have hx4 := hS4 _ _ (upd_same (H := H2) (a := x) (o := .ins B dx (putF "variables" (.ref t1) (putF "name" (.str nm) []))))
    have hl1' := hS4 t1 _ (by rw [upd_ne n1x]; exact hl1)
    have n2x : t2 ≠ x := fun z => by
      rw [z, upd_same] at ht2
      cases ht2
    refine ⟨_, rfl, x, B, dx, _, rfl, hx4, TB.cl, TB.nc, Nat.lt_of_le_of_lt (putF_len _ _ _) (Nat.lt_of_le_of_lt (Nat.succ_le_succ (putF_len _ _ _)) (by decide)), ?_⟩
    have S5 := Sx (o := .ins B dx (barF nm t1 t2)) S4
    have hx5 : (upd H4 x (.ins B dx (barF nm t1 t2))) x = some (.ins B dx (barF nm t1 t2)) := upd_same
    have h15 : (upd H4 x (.ins B dx (barF nm t1 t2))) t1 = some (.tup (ps.map V.ref)) := by rw [upd_ne n1x]; exact hl1'
    have h25 : (upd H4 x (.ins B dx (barF nm t1 t2))) t2 = some (.tup (qs.map V.ref)) := by rw [upd_ne n2x]; exact hl2
    -- check_pattern(name, self.variables, self.conditions, [], [])
    refine ⟨_, rfl, _, rfl, x, B, dx, _, _, rfl, hx5, TB.cl, TB.nv, barF_vars _ _ _, _, rfl, x, B, dx, _, _, rfl, hx5, TB.cl, TB.nc, barF_cond _ _ _, Nat.zero_le _, fun g hg => ⟨Nat.zero_le _, fun h hh => ?_⟩⟩
    have S7 : Same (upd H4 x (.ins B dx (barF nm t1 t2))) (upd (upd (upd H4 x (.ins B dx (barF nm t1 t2))) g (.lst [])) h (.lst [])) := (Same.upd hg).trans (Same.upd hh)
    have S57 := S5.trans S7
    have e0 : cs ++ ([] : List Tri) = cs := List.append_nil cs
    refine ⟨nm, t1, t2, g, h, ps, qs, [], vars, cs, [], [], rfl, SqT.of (S7 _ _ h15), hv.same S57, SqT.of (S7 _ _ h25), hc.same S57, SqL.of (Same.upd hh _ _ upd_same), True.intro, SqL.of upd_same, ok, by rw [e0]; exact hz, ?_⟩
    rw [e0]
    refine k.toN S57 fun hn H8 hS8 => ?_
    unfold DueM at k
    rw [hn] at k
    exact k H8 (S57.trans hS8) t1 t2 (hS8 _ _ (S7 _ _ hx5)) (hS8 _ _ (S7 _ _ h15)) (hS8 _ _ (S7 _ _ h25))
end
end Wm
namespace Wm
open PySem L2
/-- str(o), o an instance of the class at C, whose __str__ is the def at f -/
def rStrO (C : Addr) (sp : Sp) : List V → Hp → VK → Prop := fun xs H Q => ∃ (a dx : Addr) (fs : List (Str × V)), xs = [.ref a] ∧ H a = some (.ins C dx fs) ∧ sp [.ref a] H (fun v H' => ∃ z : Str, v = .str z ∧ Q (.str z) H') E0
theorem call_strO {X : Cx} {C f : Addr} {fd : FuncData} {k : Nat} {sp : Sp} (hs : PySem.W.findIn X.K (.ref C) "__str__" = some (some (.ref f))) (hf : PySem.W.isFn X.K (.ref f) = true) (F : FnOk X.prog X.w X.K X.mg X.base CX0 k f fd ["self"] sp) (hr : Room (k + 2) X.A) (hb : Binds X.K fd ["self"] []) :
    CallR X (.type "str") (rStrO C sp) := by
  intro pins s σ H xs us Q I r h
  obtain ⟨a, dx, fs, rfl, ha, h⟩ := h
  cases r with
  | cons rx rr =>
    cases rr
    cases rx
    obtain ⟨mA, ob, _⟩ := ins_get I.hok ha
    obtain ⟨od, J, _⟩ := ob.look
    have hr1 : Room (k + 1) X.A.in1 := hr.in1
    have hr2 : Room k X.A.in1.in1 := hr1.in1
    refine PySem.W.kso_call hr2.units0 I.kIn J hs hf ?_
    have hl : ([Value.ref a] ++ []).length = (["self"] : List Str).length := rfl
    have rv : Vals [V.ref a] [Value.ref a] := .cons rfl .nil
    refine wpAny_call (codeAny_mono (F.run X.A.in1.in1 X.stack s H ⟨[Value.ref a], []⟩ [Value.ref a] [V.ref a] _ E0 hr2 I.env0.in1.in1 (hb s [Value.ref a] I.kIn hl) rv h) fun r s' hq => ?_)
    cases r with
    | error e => exact hq.elim
    | ok fl =>
      cases fl with
      | ret u =>
        obtain ⟨v, H', J', ru, z, rfl, q⟩ := I.after (Q := fun v H' => ∃ z : Str, v = .str z ∧ Q (.str z) H') hq
        obtain ⟨t, rfl⟩ := ru
        exact ⟨.str z, H', J', ⟨t, rfl⟩, q⟩
      | next => exact False.elim hq
      | brk => exact False.elim hq
      | cont => exact False.elim hq
end Wm
namespace Wm
open PySem L2 PySem.W
/-- a == b, a an instance of the class at C, whose __eq__ is the def at f -/
def rEqO (K : Frag) (C : Addr) (sp : Sp) : V → V → Hp → VK → Prop := fun x y H Q => ∃ (a b D dx dy : Addr) (fs gs : List (Str × V)), x = .ref a ∧ y = .ref b ∧ H a = some (.ins C dx fs) ∧ H b = some (.ins D dy gs) ∧ notFirst K C (.ref D) = true ∧
  sp [.ref a, .ref b] H (fun v H' => ∃ t : Bool, v = .bl t ∧ Q (.bl t) H') E0
theorem op_eqO {X : Cx} {C f : Addr} {fd : FuncData} {k : Nat} {sp : Sp} {ps : List Str} (hs : findIn X.K (.ref C) "__eq__" = some (some (.ref f))) (hf : isFn X.K (.ref f) = true) (F : FnOk X.prog X.w X.K X.mg X.base CX0 k f fd ps sp) (hr : Room k X.A) (hb : L2.Binds X.K fd ps []) :
    OpR X (compareOp .Eq) (rEqO X.K C sp) := by
  intro pins s σ H x y v u Q I rx ry h
  obtain ⟨a, b, D, dx, dy, fs, gs, rfl, rfl, ha, hb', nf, h⟩ := h
  cases rx
  cases ry
  obtain ⟨mA, oa, _⟩ := ins_get I.hok ha
  obtain ⟨mB, ob, _⟩ := ins_get I.hok hb'
  obtain ⟨od, J, _⟩ := oa.look
  obtain ⟨od', J', _⟩ := ob.look
  obtain ⟨m, hF⟩ := I.fr
  show wpAny _ _ (richCompare .Eq (.ref a) (.ref b)) _ _ _
  refine cmp_K hr.units0 hF I.ok.mod.kin J (InstAt.type J') nf hs hf ?_
  have rv : Vals [V.ref a, V.ref b] [Value.ref a, Value.ref b] := .cons rfl (.cons rfl .nil)
  have hl : ([Value.ref a, Value.ref b] ++ []).length = ps.length := F.len _ _ _ _ h
  have bd := hb s [Value.ref a, Value.ref b] I.kIn hl
  rw [List.append_nil] at bd
  refine wpAny_call (codeAny_mono (F.run X.A X.stack s H ⟨[Value.ref a, Value.ref b], []⟩ [Value.ref a, Value.ref b] [V.ref a, V.ref b] _ E0 hr I.env0 bd rv h) fun r s' hq => ?_)
  cases r with
  | error e => exact hq.elim
  | ok fl =>
    cases fl with
    | next => exact hq.elim
    | brk => exact hq.elim
    | cont => exact hq.elim
    | ret u =>
      obtain ⟨v, H', I2, rv, t, rfl, q⟩ := I.after hq
      cases rv
      exact ⟨.bl t, H', I2, rfl, q⟩
/-- the class at C has its own __eq__, at f, and no __ne__ -/
structure EqNe (K : Frag) (C f : Addr) : Prop where
  ex : ∃ nm q N bs hdct sn sub ab col dd k0 k1 k2 k3 k5 newId oc od es ep osl of, K.lookup C = some (excClassObj nm q C N bs [.type "object"] hdct sn sub ab col dd k0 k1 k2 k3 k5 newId) ∧
    K.lookup N = some ⟨oc, od, .dict es ep, osl⟩ ∧ StrKeys es ∧ nsFind es "__eq__" = some (.ref f) ∧ nsFind es "__ne__" = none ∧ K.lookup f = some of ∧ of.cls = .type "function"
theorem EqNe.at {K : Frag} {C f x dx : Addr} (e : EqNe K C f) {h : Heap} (X : K.In h) (hx : h.get? x = some (instObj C dx)) : h.OwnEqNoNe x C f "object" [.type "object"] := by
  obtain ⟨nm, q, N, bs, hdct, sn, sub, ab, col, dd, k0, k1, k2, k3, k5, newId, oc, od, es, ep, osl, of, h1, h2, h3, h4, h5, h6, h7⟩ := e.ex
  exact ⟨_, of, nm, q, N, bs, hdct, sn, sub, ab, col, dd, k0, k1, k2, k3, k5, newId, nsFind es, _, hx, rfl, X C _ h1, ⟨_, es, ep, X N _ h2, rfl, h3, fun _ => rfl⟩, h4, X f _ h6, h7, PySem.F.cmp_object.mro, PySem.F.cmp_object.eq.lookup, h5⟩
def rNeO (C : Addr) (sp : Sp) : V → V → Hp → VK → Prop := fun x y H Q => ∃ (a b dx dy : Addr) (fs gs : List (Str × V)), x = .ref a ∧ y = .ref b ∧ H a = some (.ins C dx fs) ∧ H b = some (.ins C dy gs) ∧
  sp [.ref a, .ref b] H (fun v H' => ∃ t : Bool, v = .bl t ∧ Q (.bl !t) H') E0
theorem op_neO {X : Cx} {C f : Addr} {fd : FuncData} {k : Nat} {sp : Sp} {ps : List Str} (hs : EqNe X.K C f) (F : FnOk X.prog X.w X.K X.mg X.base CX0 k f fd ps sp) (hr : Room (k + 1) X.A) (hb : L2.Binds X.K fd ps []) :
    OpR X (compareOp .NotEq) (rNeO C sp) := by
  intro pins s σ H x y v u Q I rx ry h
  obtain ⟨a, b, dx, dy, fs, gs, rfl, rfl, ha, hb', h⟩ := h
  cases rx
  cases ry
  have oa := (I.hok a _ ha).2.2.2.1
  have ob := (I.hok b _ hb').2.2.2.1
  have hr1 : Room k X.A.in1 := hr.in1
  refine compareOp_ne_ownEq PySem.F.cmp_object (hs.at I.kIn oa) ob rfl ?_ ?_
  · exact hr1.units0
  have rv : Vals [V.ref a, V.ref b] [Value.ref a, Value.ref b] := .cons rfl (.cons rfl .nil)
  have hl : ([Value.ref a, Value.ref b] ++ []).length = ps.length := F.len _ _ _ _ h
  have bd := hb s [Value.ref a, Value.ref b] I.kIn hl
  rw [List.append_nil] at bd
  refine wpAny_call (codeAny_mono (F.run X.A.in1 X.stack s H ⟨[Value.ref a, Value.ref b], []⟩ [Value.ref a, Value.ref b] [V.ref a, V.ref b] _ E0 hr1 I.env0.in1 bd rv h) fun r s' hq => ?_)
  cases r with
  | error e => exact hq.elim
  | ok fl =>
    cases fl with
    | next => exact hq.elim
    | brk => exact hq.elim
    | cont => exact hq.elim
    | ret u =>
      obtain ⟨v, H', I2, rv, t, rfl, q⟩ := I.after (Q := fun v H' => ∃ t : Bool, v = .bl t ∧ Q (.bl !t) H') hq
      cases rv
      exact ⟨t, rfl, .bl !t, H', I2, rfl, q⟩
end Wm
namespace Wm
open PySem L2 StX
def rulF (nm : Str) (t1 t2 t3 : Addr) (by_ : Str) : List (Str × V) := putF "by" (.str by_) (putF "gives" (.ref t3) (barF nm t1 t2))
theorem nr1 : ¬ (("gives" : Str) = "by") := by decide +kernel
theorem nr2 : ¬ (("name" : Str) = "by") := by decide +kernel
theorem nr3 : ¬ (("name" : Str) = "gives") := by decide +kernel
theorem nr4 : ¬ (("variables" : Str) = "by") := by decide +kernel
theorem nr5 : ¬ (("variables" : Str) = "gives") := by decide +kernel
theorem nr6 : ¬ (("conditions" : Str) = "by") := by decide +kernel
theorem nr7 : ¬ (("conditions" : Str) = "gives") := by decide +kernel
theorem rulF_name (nm : Str) (t1 t2 t3 : Addr) (b : Str) : (rulF nm t1 t2 t3 b).lookup ("name" : Str) = some (.str nm) := by
  unfold rulF
  rw [lookup_putF, if_neg nr2, lookup_putF, if_neg nr3]
  exact barF_name _ _ _
theorem rulF_vars (nm : Str) (t1 t2 t3 : Addr) (b : Str) : (rulF nm t1 t2 t3 b).lookup ("variables" : Str) = some (.ref t1) := by
  unfold rulF
  rw [lookup_putF, if_neg nr4, lookup_putF, if_neg nr5]
  exact barF_vars _ _ _
theorem rulF_cond (nm : Str) (t1 t2 t3 : Addr) (b : Str) : (rulF nm t1 t2 t3 b).lookup ("conditions" : Str) = some (.ref t2) := by
  unfold rulF
  rw [lookup_putF, if_neg nr6, lookup_putF, if_neg nr7]
  exact barF_cond _ _ _
theorem rulF_gives (nm : Str) (t1 t2 t3 : Addr) (b : Str) : (rulF nm t1 t2 t3 b).lookup ("gives" : Str) = some (.ref t3) := by
  unfold rulF
  rw [lookup_putF, if_neg nr1, lookup_putF, if_pos rfl]
theorem rulF_by (nm : Str) (t1 t2 t3 : Addr) (b : Str) : (rulF nm t1 t2 t3 b).lookup ("by" : Str) = some (.str b) := by
  unfold rulF
  rw [lookup_putF, if_pos rfl]
theorem barF_len (nm : Str) (t1 t2 : Addr) : (barF nm t1 t2).length ≤ 3 := Nat.le_trans (putF_len _ _ _) (Nat.succ_le_succ (Nat.le_trans (putF_len _ _ _) (Nat.succ_le_succ (putF_len _ _ _))))
structure TxRul (K : PySem.W.Frag) (mg : Str → Option Value) (B fB : Addr) : Prop where
  cl : Cls K B
  nn : NoAttr K B "name"
  nv : NoAttr K B "variables"
  nc : NoAttr K B "conditions"
  ng : NoAttr K B "gives"
  nb : NoAttr K B "by"
  g : mg "Rule" = some (.ref B)
  m : Mk K B fB
def spRul (K : PySem.W.Frag) (C B : Addr) : Sp := fun vs H Q E => ∃ (H0 : Hp) (x dx l1 l2 g : Addr) (nm b : Str) (ps qs : List Addr) (vars : List Var) (cs : List Tri) (gt : Tri), vs = [.ref x, .str nm, .ref l1, .ref l2, .ref g, .str b] ∧ Same H0 H ∧ H0 x = none ∧ H x = some (.ins B dx []) ∧
  SqL K H0 l1 (ps.map V.ref) ∧ RowsAt K H0 ps (vars.map varV) ∧ SqL K H0 l2 (qs.map V.ref) ∧ RowsAt K H0 qs (cs.map triV) ∧ H0 g = some (.tup (triV gt)) ∧ PatOk vars cs [gt] [b] ∧ (∀ z ∈ textsL nm vars (cs ++ [gt]), z.length ≤ 1000) ∧
  DueM C (textsL nm vars (cs ++ [gt])) H0 (fun H' => ∀ t1 t2, H' x = some (.ins B dx (rulF nm t1 t2 g b)) → H' t1 = some (.tup (ps.map V.ref)) → H' t2 = some (.tup (qs.map V.ref)) → Q .non H') E
section
variable {P : Program} {w : World} {K : PySem.W.Frag} {mg : Str → Option Value} {base : Heap}
theorem scRul : FnScope ["self", "name", "variables", "conditions", "gives", "by"] ["self", "name", "variables", "conditions", "gives", "by"] (defScope sRul) := ⟨rfl, rfl, rfl, by decide +kernel, rfl, by decide +kernel, by decide +kernel⟩
theorem ok_rul {f fTT fCP C B : Addr} {fd dTT dCP : FuncData} (F : Fun K "__init__" "Rule.__init__" sRul f fd) (T : TxB mg) (TB : TxRul K mg B f) (TT : Dn K mg "tuple_of_tuples" sTT ["rows"] fTT dTT)
    (CP : Dn K mg "check_pattern" sCP ["name", "variables", "conditions", "given", "hands"] fCP dCP) (GCP : FnOk P w K mg base (L2.CX P w) 5 fCP dCP ["name", "variables", "conditions", "given", "hands"] (spCP K C)) :
    FnOk P w K mg base (L2.CX P w) 6 f fd ["self", "name", "variables", "conditions", "gives", "by"] (spRul K C B) := by
  have GTT : FnOk P w K mg base CX0 1 fTT dTT _ (spTT K) := ok_tt TT.F T
  refine F.okX scRul (fun vs H Q E h => ?_) (fun cdv A outer s H vs Q E hr h => ?_)
  · obtain ⟨H0, x, dx, l1, l2, g, nm, b, ps, qs, vars, cs, gt, rfl, _⟩ := h
    rfl
  · obtain ⟨H0, x, dx, l1, l2, g, nm, b, ps, qs, vars, cs, gt, rfl, S0, x0, hx, h1, hv, h2, hc, hg, ok, hz, k⟩ := h
    have hr1 : Room 1 _ := hr.mono (by decide)
    have b1 := hv.len
    have b2 := hc.len
    rw [List.length_map] at b1 b2
    have o1 := ok.v4
    have o2 := ok.c3
    have ngx : g ≠ x := ne_of_none hg x0
    refine ⟨_, (pss_cons (ps_fld (pv 0) (pv 1) rfl)
      (pss_cons (ps_fld (pv 0) (pe_call GTT hr1 rfl TT.g TT.F.kp TT.b .nil pass0 (pa_cons (pv 2) pa_nil)) rfl)
      (pss_cons (ps_fld (pv 0) (pe_call GTT hr1 rfl TT.g TT.F.kp TT.b .nil pass0 (pa_cons (pv 3) pa_nil)) rfl)
      (pss_cons (ps_fld (pv 0) (pe_callTy call_tupN (by rfl) T.tuple (by decide +kernel) (pa_cons (pv 4) pa_nil)) rfl)
      (pss_cons (ps_fld (pv 0) (pv 5) rfl)
      (pss_one (ps_expr (pe_call GCP hr rfl CP.g CP.F.kp CP.b .nil (passes_call (takes_of rfl rfl rfl rfl) (fun _ _ _ _ h => h)) (pa_cons (pv 1) (pa_cons (pe_fld (pv 0) rfl) (pa_cons (pe_fld (pv 0) rfl) (pa_cons (pe_lst (pa_cons (pe_fld (pv 0) rfl) pa_nil)) (pa_cons (pe_lst (pa_cons (pv 5) pa_nil)) pa_nil))))))))))))), ?_⟩
    have Sx : ∀ {H1 : Hp} {o : HO}, Same H0 H1 → Same H0 (upd H1 x o) := fun hs b o e => by
      rw [upd_ne (ne_of_none e x0)]
      exact hs b o e
    refine ⟨_, rfl, _, rfl, x, B, dx, [], rfl, hx, TB.cl, TB.nn, (by show 0 < 1000; decide), ?_⟩
    have S1 := Sx (o := .ins B dx (putF "name" (.str nm) [])) S0
    refine ⟨_, rfl, l1, ps, _, rfl, S1.seq h1, hv.same S1, by omega, fun t1 H2 ht1 hS2 hl1 => ?_⟩
    have S2 := S1.trans hS2
    have hx2 := hS2 _ _ (upd_same (H := H) (a := x) (o := .ins B dx (putF "name" (.str nm) [])))
    have n1x : t1 ≠ x := fun z => by
      rw [z, upd_same] at ht1
      cases ht1
    refine ⟨_, rfl, x, B, dx, _, rfl, hx2, TB.cl, TB.nv, Nat.lt_of_le_of_lt (putF_len _ _ _) (by decide), ?_⟩
    have S3 := Sx (o := .ins B dx (putF "variables" (.ref t1) (putF "name" (.str nm) []))) S2
    refine ⟨_, rfl, l2, qs, _, rfl, S3.seq h2, hc.same S3, by omega, fun t2 H4 ht2 hS4 hl2 => ?_⟩
    have S4 := S3.trans hS4
    have hx4 := hS4 _ _ (upd_same (H := H2) (a := x) (o := .ins B dx (putF "variables" (.ref t1) (putF "name" (.str nm) []))))
    have hl1' := hS4 t1 _ (by rw [upd_ne n1x]; exact hl1)
    have n2x : t2 ≠ x := fun z => by
      rw [z, upd_same] at ht2
      cases ht2
    refine ⟨_, rfl, x, B, dx, _, rfl, hx4, TB.cl, TB.nc, Nat.lt_of_le_of_lt (putF_len _ _ _) (Nat.lt_of_le_of_lt (Nat.succ_le_succ (putF_len _ _ _)) (by decide)), ?_⟩
    have S5 := Sx (o := .ins B dx (barF nm t1 t2)) S4
    -- self.gives = tuple(gives); self.by = by
    refine ⟨_, rfl, g, _, rfl, .inr ⟨SqT.of (S5 _ _ hg), ?_⟩⟩
    refine ⟨_, rfl, x, B, dx, _, rfl, upd_same, TB.cl, TB.ng, Nat.lt_of_le_of_lt (barF_len nm t1 t2) (by decide), ?_⟩
    refine ⟨_, rfl, _, rfl, x, B, dx, _, rfl, upd_same, TB.cl, TB.nb, Nat.lt_of_le_of_lt (Nat.le_trans (putF_len _ _ _) (Nat.succ_le_succ (barF_len nm t1 t2))) (by decide), ?_⟩
    rw [upd_upd, upd_upd]
    show _
    generalize hH6 : upd H4 x (.ins B dx (putF "by" (.str b) (putF "gives" (.ref g) (putF "conditions" (.ref t2) (putF "variables" (.ref t1) (putF "name" (.str nm) [])))))) = H6
    have S6 : Same H0 H6 := by
      rw [← hH6]
      exact Sx S4
    have hx6 : H6 x = some (.ins B dx (rulF nm t1 t2 g b)) := by rw [← hH6, upd_same]; rfl
    have h16 : H6 t1 = some (.tup (ps.map V.ref)) := by rw [← hH6, upd_ne n1x]; exact hl1'
    have h26 : H6 t2 = some (.tup (qs.map V.ref)) := by rw [← hH6, upd_ne n2x]; exact hl2
    -- check_pattern(name, self.variables, self.conditions, [self.gives], [by])
    refine ⟨_, rfl, _, rfl, x, B, dx, _, _, rfl, hx6, TB.cl, TB.nv, rulF_vars _ _ _ _ _, _, rfl, x, B, dx, _, _, rfl, hx6, TB.cl, TB.nc, rulF_cond _ _ _ _ _, _, rfl, x, B, dx, _, _, rfl, hx6, TB.cl, TB.ng, rulF_gives _ _ _ _ _, by show 1 ≤ sizeLine; decide, fun gl hgl => ⟨_, rfl, by show 1 ≤ sizeLine; decide, fun h hh => ?_⟩⟩
    have S7 : Same H6 (upd (upd H6 gl (.lst [.ref g])) h (.lst [.str b])) := (Same.upd hgl).trans (Same.upd hh)
    have S67 := S6.trans S7
    refine ⟨nm, t1, t2, gl, h, ps, qs, [g], vars, cs, [gt], [b], rfl, SqT.of (S7 _ _ h16), hv.same S67, SqT.of (S7 _ _ h26), hc.same S67, SqL.of (Same.upd hh _ _ upd_same), ⟨SqT.of (S67 _ _ hg), True.intro⟩, SqL.of upd_same, ok, hz, ?_⟩
    refine k.toN S67 fun hn H8 hS8 => ?_
    unfold DueM at k
    rw [hn] at k
    exact k H8 (S67.trans hS8) t1 t2 (hS8 _ _ (S7 _ _ hx6)) (hS8 _ _ (S7 _ _ h16)) (hS8 _ _ (S7 _ _ h26))
end
end Wm
namespace Wm
open PySem L2 StX
def sortD : Option Str → PyData
  | none => .none
  | some s => .str s
def varD (v : Var) : List PyData := [.str v.1, sortD v.2]
def triD (t : Tri) : List PyData := [.str t.1, .str t.2.1, .str t.2.2]
def rowsD (rs : List (List PyData)) : PyData := .tuple (rs.map PyData.tuple)
theorem dp_var {K : PySem.W.Frag} {H : Hp} (v : Var) : DpAll K H (varV v) (varD v) := by
  obtain ⟨n, s⟩ := v
  cases s with
  | none => exact .cons (.str _) (.cons .non .nil)
  | some s => exact .cons (.str _) (.cons (.str _) .nil)
theorem dp_tri {K : PySem.W.Frag} {H : Hp} (t : Tri) : DpAll K H (triV t) (triD t) := .cons (.str _) (.cons (.str _) (.cons (.str _) .nil))
theorem dp_rows {K : PySem.W.Frag} {H : Hp} {α : Type} {f : α → List V} {g : α → List PyData} (h : ∀ a, DpAll K H (f a) (g a)) : ∀ {ps : List Addr} {xs : List α}, RowsAt K H ps (xs.map f) → DpAll K H (ps.map V.ref) ((xs.map g).map PyData.tuple)
  | [], [], _ => .nil
  | _ :: _, x :: _, r => .cons (.tup r.1 (h x)) (dp_rows h r.2)
  | [], _ :: _, r => r.elim
  | _ :: _, [], r => r.elim
/-- the parts that rules and bars have alike, as they stand at t1 and t2 -/
structure RowsD (K : PySem.W.Frag) (H : Hp) (t1 t2 : Addr) (vars : List Var) (cs : List Tri) : Prop where
  ex : ∃ ps qs : List Addr, SqT K H t1 (ps.map V.ref) ∧ RowsAt K H ps (vars.map varV) ∧ SqT K H t2 (qs.map V.ref) ∧ RowsAt K H qs (cs.map triV)
  s1 : SeqAt.shaped (rowsD (vars.map varD)) = true
  s2 : SeqAt.shaped (rowsD (cs.map triD)) = true
theorem RowsD.d1 {K : PySem.W.Frag} {H : Hp} {t1 t2 : Addr} {vars : List Var} {cs : List Tri} (h : RowsD K H t1 t2 vars cs) : Dp K H (.ref t1) (rowsD (vars.map varD)) := by
  obtain ⟨ps, qs, a, b, _⟩ := h.ex
  exact .tup a (dp_rows dp_var b)
theorem RowsD.d2 {K : PySem.W.Frag} {H : Hp} {t1 t2 : Addr} {vars : List Var} {cs : List Tri} (h : RowsD K H t1 t2 vars cs) : Dp K H (.ref t2) (rowsD (cs.map triD)) := by
  obtain ⟨ps, qs, _, _, a, b⟩ := h.ex
  exact .tup a (dp_rows dp_tri b)
def sameB (nm : Str) (vars : List Var) (cs : List Tri) (nm' : Str) (vars' : List Var) (cs' : List Tri) : Bool := decide (nm = nm') && (PyData.eqv (rowsD (vars.map varD)) (rowsD (vars'.map varD)) && PyData.eqv (rowsD (cs.map triD)) (rowsD (cs'.map triD)))
def spBE (K : PySem.W.Frag) (B : Addr) : Sp := fun vs H Q _ => ∃ (x y : Addr), vs = [.ref x, .ref y] ∧
  ((∃ (dx dy t1 t2 s1 s2 : Addr) (nm nm' : Str) (vars vars' : List Var) (cs cs' : List Tri), H x = some (.ins B dx (barF nm t1 t2)) ∧ H y = some (.ins B dy (barF nm' s1 s2)) ∧ TyX K H (.ref y) (.ref B) ∧ RowsD K H t1 t2 vars cs ∧ RowsD K H s1 s2 vars' cs' ∧ Q (.bl (sameB nm vars cs nm' vars' cs')) H) ∨
   (∃ D, TyX K H (.ref y) (.ref D) ∧ PySem.W.kitOne K (.ref D) (.ref B) = some false ∧ Q (.bl false) H))
def sameR (nm : Str) (vars : List Var) (cs : List Tri) (g : Tri) (b : Str) (nm' : Str) (vars' : List Var) (cs' : List Tri) (g' : Tri) (b' : Str) : Bool := decide (nm = nm') && (PyData.eqv (rowsD (vars.map varD)) (rowsD (vars'.map varD)) && (PyData.eqv (rowsD (cs.map triD)) (rowsD (cs'.map triD)) && (PyData.eqv (.tuple (triD g)) (.tuple (triD g')) && decide (b = b'))))
def spRE (K : PySem.W.Frag) (B : Addr) : Sp := fun vs H Q _ => ∃ (x y : Addr), vs = [.ref x, .ref y] ∧
  ((∃ (dx dy t1 t2 t3 s1 s2 s3 : Addr) (nm nm' b b' : Str) (vars vars' : List Var) (cs cs' : List Tri) (g g' : Tri), H x = some (.ins B dx (rulF nm t1 t2 t3 b)) ∧ H y = some (.ins B dy (rulF nm' s1 s2 s3 b')) ∧ TyX K H (.ref y) (.ref B) ∧ RowsD K H t1 t2 vars cs ∧ RowsD K H s1 s2 vars' cs' ∧ SqT K H t3 (triV g) ∧ SqT K H s3 (triV g') ∧
      SeqAt.shaped (.tuple (triD g)) = true ∧ SeqAt.shaped (.tuple (triD g')) = true ∧ Q (.bl (sameR nm vars cs g b nm' vars' cs' g' b')) H) ∨
   (∃ D, TyX K H (.ref y) (.ref D) ∧ PySem.W.kitOne K (.ref D) (.ref B) = some false ∧ Q (.bl false) H))
section
variable {P : Program} {w : World} {K : PySem.W.Frag} {mg : Str → Option Value} {base : Heap}
theorem scBE : FnScope ["self", "other"] ["self", "other"] (defScope sBE) := ⟨rfl, rfl, rfl, by decide +kernel, rfl, by decide +kernel, by decide +kernel⟩
theorem ok_be {f fB B : Addr} {fd : FuncData} (F : Fun K "__eq__" "Bar.__eq__" sBE f fd) (T : TxB mg) (TB : TxBar K mg B fB) (kk : PySem.W.kitOne K (.ref B) (.ref B) = some true) : FnOk P w K mg base CX0 1 f fd ["self", "other"] (spBE K B) := by
  refine F.ok scBE (fun vs H Q E h => ?_) (fun cdv A outer s H vs Q E hr h => ?_)
  · obtain ⟨x, y, rfl, _⟩ := h
    rfl
  · obtain ⟨x, y, rfl, h⟩ := h
    refine ⟨_, (pss_one (ps_ret (pe_and (pe_callB call_isi (by rfl) T.isinstance (by decide +kernel) (pa_cons (pv 1) (pa_cons (pe_glob (v := .ref B) (by rfl) TB.g rfl) pa_nil)))
      (pe_and (pe_cmpR op_eq (pe_fld (pv 0) rfl) (pe_fld (pv 1) rfl) (nomark _))
      (pe_and (pe_cmpR (op_eqD hr.units) (pe_fld (pv 0) rfl) (pe_fld (pv 1) rfl) (nomark _))
      (pe_one (pe_cmpR (op_eqD hr.units) (pe_fld (pv 0) rfl) (pe_fld (pv 1) rfl) (nomark _)))))))), ?_⟩
    refine ⟨_, rfl, ?_⟩
    rcases h with ⟨dx, dy, t1, t2, s1, s2, nm, nm', vars, vars', cs, cs', hx, hy, ty, r, r', q⟩ | ⟨D, ty, kf, q⟩
    · refine ⟨_, _, _, _, _, rfl, .own B, ty, kk, true, rfl, ?_⟩
      refine iteT ?_
      refine ⟨_, rfl, x, B, dx, _, _, rfl, hx, TB.cl, TB.nn, barF_name _ _ _, _, rfl, y, B, dy, _, _, rfl, hy, TB.cl, TB.nn, barF_name _ _ _, rfl, _, rfl, ?_⟩
      unfold sameB at q
      refine ite2 (fun c => ?_) (fun c => ?_)
      rotate_left
      · have e : ¬ nm = nm' := fun e => c (by rw [e]; exact decide_eq_true rfl)
        rw [decide_eq_false e, Bool.false_and] at q
        exact q
      have e1 : nm = nm' := V.str.inj (of_decide_eq_true c)
      rw [decide_eq_true e1, Bool.true_and] at q
      refine ⟨_, rfl, x, B, dx, _, _, rfl, hx, TB.cl, TB.nv, barF_vars _ _ _, _, rfl, y, B, dy, _, _, rfl, hy, TB.cl, TB.nv, barF_vars _ _ _, _, _, r.d1, r'.d1, r.s1, r'.s1, _, rfl, ?_⟩
      refine ite2 (fun c => ?_) (fun c => ?_)
      rotate_left
      · rw [Bool.eq_false_iff.mpr c, Bool.false_and] at q
        exact q
      rw [c, Bool.true_and] at q
      exact ⟨_, rfl, x, B, dx, _, _, rfl, hx, TB.cl, TB.nc, barF_cond _ _ _, _, rfl, y, B, dy, _, _, rfl, hy, TB.cl, TB.nc, barF_cond _ _ _, _, _, r.d2, r'.d2, r.s2, r'.s2, q⟩
    · refine ⟨_, _, _, _, _, rfl, .own B, ty, kf, false, rfl, ?_⟩
      exact iteF q
theorem scRE : FnScope ["self", "other"] ["self", "other"] (defScope sRE) := ⟨rfl, rfl, rfl, by decide +kernel, rfl, by decide +kernel, by decide +kernel⟩
theorem ok_re {f fB B : Addr} {fd : FuncData} (F : Fun K "__eq__" "Rule.__eq__" sRE f fd) (T : TxB mg) (TB : TxRul K mg B fB) (kk : PySem.W.kitOne K (.ref B) (.ref B) = some true) : FnOk P w K mg base CX0 1 f fd ["self", "other"] (spRE K B) := by
  refine F.ok scRE (fun vs H Q E h => ?_) (fun cdv A outer s H vs Q E hr h => ?_)
  · obtain ⟨x, y, rfl, _⟩ := h
    rfl
  · obtain ⟨x, y, rfl, h⟩ := h
    refine ⟨_, (pss_one (ps_ret (pe_and (pe_callB call_isi (by rfl) T.isinstance (by decide +kernel) (pa_cons (pv 1) (pa_cons (pe_glob (v := .ref B) (by rfl) TB.g rfl) pa_nil)))
      (pe_and (pe_cmpR op_eq (pe_fld (pv 0) rfl) (pe_fld (pv 1) rfl) (nomark _))
      (pe_and (pe_cmpR (op_eqD hr.units) (pe_fld (pv 0) rfl) (pe_fld (pv 1) rfl) (nomark _))
      (pe_and (pe_cmpR (op_eqD hr.units) (pe_fld (pv 0) rfl) (pe_fld (pv 1) rfl) (nomark _))
      (pe_and (pe_cmpR (op_eqD hr.units) (pe_fld (pv 0) rfl) (pe_fld (pv 1) rfl) (nomark _))
      (pe_one (pe_cmpR op_eq (pe_fld (pv 0) rfl) (pe_fld (pv 1) rfl) (nomark _)))))))))), ?_⟩
    refine ⟨_, rfl, ?_⟩
    rcases h with ⟨dx, dy, t1, t2, t3, s1, s2, s3, nm, nm', b, b', vars, vars', cs, cs', g, g', hx, hy, ty, r, r', h3, h3', sg, sg', q⟩ | ⟨D, ty, kf, q⟩
    · refine ⟨_, _, _, _, _, rfl, .own B, ty, kk, true, rfl, ?_⟩
      refine iteT ?_
      refine ⟨_, rfl, x, B, dx, _, _, rfl, hx, TB.cl, TB.nn, rulF_name _ _ _ _ _, _, rfl, y, B, dy, _, _, rfl, hy, TB.cl, TB.nn, rulF_name _ _ _ _ _, rfl, _, rfl, ?_⟩
      unfold sameR at q
      refine ite2 (fun c => ?_) (fun c => ?_)
      rotate_left
      · have e : ¬ nm = nm' := fun e => c (by rw [e]; exact decide_eq_true rfl)
        rw [decide_eq_false e, Bool.false_and] at q
        exact q
      have e1 : nm = nm' := V.str.inj (of_decide_eq_true c)
      rw [decide_eq_true e1, Bool.true_and] at q
      refine ⟨_, rfl, x, B, dx, _, _, rfl, hx, TB.cl, TB.nv, rulF_vars _ _ _ _ _, _, rfl, y, B, dy, _, _, rfl, hy, TB.cl, TB.nv, rulF_vars _ _ _ _ _, _, _, r.d1, r'.d1, r.s1, r'.s1, _, rfl, ?_⟩
      refine ite2 (fun c => ?_) (fun c => ?_)
      rotate_left
      · rw [Bool.eq_false_iff.mpr c, Bool.false_and] at q
        exact q
      rw [c, Bool.true_and] at q
      refine ⟨_, rfl, x, B, dx, _, _, rfl, hx, TB.cl, TB.nc, rulF_cond _ _ _ _ _, _, rfl, y, B, dy, _, _, rfl, hy, TB.cl, TB.nc, rulF_cond _ _ _ _ _, _, _, r.d2, r'.d2, r.s2, r'.s2, _, rfl, ?_⟩
      refine ite2 (fun c => ?_) (fun c => ?_)
      rotate_left
      · rw [Bool.eq_false_iff.mpr c, Bool.false_and] at q
        exact q
      rw [c, Bool.true_and] at q
      refine ⟨_, rfl, x, B, dx, _, _, rfl, hx, TB.cl, TB.ng, rulF_gives _ _ _ _ _, _, rfl, y, B, dy, _, _, rfl, hy, TB.cl, TB.ng, rulF_gives _ _ _ _ _, _, _, .tup h3 (dp_tri g), .tup h3' (dp_tri g'), sg, sg', _, rfl, ?_⟩
      refine ite2 (fun c => ?_) (fun c => ?_)
      rotate_left
      · rw [Bool.eq_false_iff.mpr c, Bool.false_and] at q
        exact q
      rw [c, Bool.true_and] at q
      refine ⟨_, rfl, x, B, dx, _, _, rfl, hx, TB.cl, TB.nb, rulF_by _ _ _ _ _, _, rfl, y, B, dy, _, _, rfl, hy, TB.cl, TB.nb, rulF_by _ _ _ _ _, rfl, ?_⟩
      have eb : decide (V.str b = V.str b') = decide (b = b') := decide_eq_decide.mpr ⟨V.str.inj, fun e => by rw [e]⟩
      rw [eb]
      exact q
    · refine ⟨_, _, _, _, _, rfl, .own B, ty, kf, false, rfl, ?_⟩
      exact iteF q
end
end Wm
/-! names as the laws draw them: texts of at most six signs -/
namespace Wm
open PySem L2
def lowC (c : Nat) : Prop := 97 ≤ c ∧ c ≤ 122
def figC (c : Nat) : Prop := 48 ≤ c ∧ c ≤ 57
/-- a text of small letters and figures, the first a letter -/
def NmP (z : Str) : Prop := ∃ c cs, z.cps.toList = c :: cs ∧ lowC c ∧ ∀ d ∈ cs, lowC d ∨ figC d
theorem toList_app (a b : Str) : (a ++ b).cps.toList = a.cps.toList ++ b.cps.toList := by
  show (a.cps ++ b.cps).toList = _
  simp
theorem NmP.app {a b : Str} (h : NmP a) (hb : ∀ d ∈ b.cps.toList, lowC d ∨ figC d) : NmP (a ++ b) := by
  obtain ⟨c, cs, e, l, r⟩ := h
  refine ⟨c, cs ++ b.cps.toList, by rw [toList_app, e]; rfl, l, fun d hd => ?_⟩
  rcases List.mem_append.mp hd with h | h
  · exact r d h
  · exact hb d h
theorem NmP.one {c : Nat} (h : lowC c) : NmP ⟨#[c]⟩ := ⟨c, [], rfl, h, fun _ z => nomatch z⟩
theorem NmP.ok {z : Str} (h : NmP z) : ∀ c ∈ z.cps.toList, c < 1114112 := by
  obtain ⟨c, cs, e, l, r⟩ := h
  intro d hd
  rw [e] at hd
  rcases List.mem_cons.mp hd with h | h
  · rw [h]
    exact Nat.lt_of_le_of_lt l.2 (by decide)
  · rcases r d h with q | q
    · exact Nat.lt_of_le_of_lt q.2 (by decide)
    · exact Nat.lt_of_le_of_lt q.2 (by decide)
def ABC36 : Str := PySem.Str.ofString "abcdefghijklmnopqrstuvwxyz0123456789"
theorem abc36_len : ABC36.length = 36 := by decide +kernel
theorem abc_low {i : Nat} {c : Nat} (hi : i < 26) (h : ABC36.cps.toList[i]? = some c) : lowC c := by
  have q : ∀ j : Fin 26, ∀ d ∈ ABC36.cps.toList[j.1]?, 97 ≤ d ∧ d ≤ 122 := by decide +kernel
  exact q ⟨i, hi⟩ c (by rw [h]; exact rfl)
theorem abc_any {i : Nat} {c : Nat} (h : ABC36.cps.toList[i]? = some c) : lowC c ∨ figC c := by
  have q : ∀ d ∈ ABC36.cps.toList, (97 ≤ d ∧ d ≤ 122) ∨ (48 ≤ d ∧ d ≤ 57) := by decide +kernel
  exact q c (List.mem_of_getElem? h)
/-- the text of a number -/
def numS (n : Nat) : Str := PySem.Str.ofString (toString (n : Int))
def numB (n : Nat) : Bool := (numS n).cps.toList.all (fun d => decide (48 ≤ d ∧ d ≤ 57)) && (decide ((numS n).length ≤ 2) && decide (1 ≤ (numS n).length))
theorem num_all : ∀ n : Fin 70, numB n.1 = true := by decide +kernel
theorem num_inj0 : ∀ n m : Fin 70, (numS n.1).cps.toList = (numS m.1).cps.toList → n = m := by decide +kernel
theorem num_sign {n : Nat} (h : n < 70) : (∀ d ∈ (numS n).cps.toList, lowC d ∨ figC d) ∧ (numS n).length ≤ 2 ∧ 1 ≤ (numS n).length := by
  obtain ⟨a, b⟩ := Bool.and_eq_true_iff.mp (num_all ⟨n, h⟩)
  obtain ⟨b, c⟩ := Bool.and_eq_true_iff.mp b
  refine ⟨fun d hd => .inr ?_, of_decide_eq_true b, of_decide_eq_true c⟩
  have q := List.all_eq_true.mp a d hd
  exact of_decide_eq_true (p := 48 ≤ d ∧ d ≤ 57) q
theorem num_inj {n m : Nat} (hn : n < 70) (hm : m < 70) (h : numS n = numS m) : n = m := congrArg Fin.val (num_inj0 ⟨n, hn⟩ ⟨m, hm⟩ (by rw [h]))
/-- the tries for a name: the word, then the word with 1, 2 .. -/
def tryS (z : Str) : Nat → Str
  | 0 => z
  | n + 1 => z ++ numS (n + 1)
theorem app_inj {a b c : Str} (h : a ++ b = a ++ c) : b = c := by
  have e := congrArg (fun z : Str => z.cps.toList) h
  simp only [toList_app] at e
  have q := List.append_cancel_left e
  cases b; cases c
  simp only at q
  congr
  exact Array.toList_inj.mp q
theorem try_inj {z : Str} {n m : Nat} (hn : n < 70) (hm : m < 70) (h : tryS z n = tryS z m) : n = m := by
  have key : ∀ k, k + 1 < 70 → z ≠ z ++ numS (k + 1) := fun k hk e => by
    have l := congrArg (fun z : Str => z.cps.toList.length) e
    simp only [toList_app, List.length_append] at l
    have q := (num_sign hk).2.2
    have q' : 1 ≤ (numS (k + 1)).cps.toList.length := by simpa [PySem.Str.length] using q
    omega
  cases n with
  | zero =>
    cases m with
    | zero => rfl
    | succ m => exact (key m hm h).elim
  | succ n =>
    cases m with
    | zero => exact (key n hn h.symm).elim
    | succ m => exact num_inj hn hm (app_inj h)
theorem holes {α : Type} [BEq α] [LawfulBEq α] {f : Nat → α} : ∀ {n : Nat} {l : List α}, (∀ i j, i < n → j < n → f i = f j → i = j) → (∀ i, i < n → f i ∈ l) → n ≤ l.length
  | 0, _, _, _ => Nat.zero_le _
  | n + 1, l, inj, h => by
    have hm := h n (Nat.lt_succ_self n)
    have q := holes (n := n) (l := l.erase (f n)) (fun i j hi hj => inj i j (by omega) (by omega)) (fun i hi => by
      refine (List.mem_erase_of_ne fun e => ?_).mpr (h i (by omega))
      have := inj i n (by omega) (by omega) e
      omega)
    rw [List.length_erase_of_mem hm] at q
    have := List.length_pos_of_mem hm
    omega
theorem try_end {z : Str} {taken : List Str} {n : Nat} (ht : taken.length ≤ 60) (h : ∀ i, i < n → tryS z i ∈ taken) (hn : n ≤ 61) : n ≤ taken.length :=
  holes (f := tryS z) (fun i j hi hj e => try_inj (by omega) (by omega) e) h
theorem inV_strs {z : Str} {ns : List Str} : inV (.str z) (ns.map V.str) = decide (z ∈ ns) := by
  unfold inV
  rw [List.any_map]
  induction ns with
  | nil => simp
  | cons a r ih =>
    rw [List.any_cons, ih]
    have e : eqV (.str a) (.str z) = decide (a = z) := by
      unfold eqV
      by_cases h : a = z
      · simp [h]
      · simp [h]
    show (eqV (.str a) (.str z) || _) = _
    rw [e]
    by_cases h : a = z
    · simp [h]
    · have h' : ¬ z = a := fun x => h x.symm
      simp [h, h']
end Wm
namespace Wm
open PySem L2
theorem StOk.upd {p d : Addr} {H : Hp} {o : HO} (n : d ≠ p) (h : StOk H p) : StOk (L2.upd H d o) p := by
  obtain ⟨a, b, c, e, r⟩ := h
  exact ⟨a, b, c, by rw [upd_ne n.symm]; exact e, r⟩
theorem StOk.same {p : Addr} {H H' : Hp} (e : Same H H') (h : StOk H p) : StOk H' p := by
  obtain ⟨a, b, c, q, r⟩ := h
  exact ⟨a, b, c, e _ _ q, r⟩
theorem st_free {p d : Addr} {H : Hp} (h : StOk H p) (n : H d = none) : d ≠ p := by
  obtain ⟨a, b, c, e, _⟩ := h
  exact fun z => by
    rw [z, e] at n
    cases n
theorem but_new {p d : Addr} {H H1 : Hp} {o : HO} (b : But p H H1) (n : d ≠ p) (h0 : H d = none) : But p H (L2.upd H1 d o) := fun q u nq e => by
  rw [upd_ne (ne_of_none e h0)]
  exact b q u nq e
theorem flats (ns : List Str) : (ns.map V.str).all flatV = true := by
  induction ns with
  | nil => rfl
  | cons a r ih => rw [List.map_cons, List.all_cons, ih]; rfl
abbrev OTH : Str := PySem.Str.ofString "other"
theorem oth_list : OTH.cps.toList = [111, 116, 104, 101, 114] := by decide +kernel
theorem oth_len : OTH.length = 5 := by decide +kernel
/-- short, and not the word `other` -/
def Sh (z : Str) : Prop := z.length ≤ 6 ∧ z ≠ OTH
theorem sh_short {z : Str} (h : z.length ≤ 4) : Sh z := ⟨by omega, fun e => by
  rw [e, oth_len] at h
  omega⟩
theorem sh_num {z : Str} {n : Nat} (h : z.length ≤ 4) (hn : n < 70) : Sh (z ++ numS n) := by
  obtain ⟨q1, q2, q3⟩ := num_sign hn
  refine ⟨by rw [len_app]; omega, fun e => ?_⟩
  have a := (Bool.and_eq_true_iff.mp (num_all ⟨n, hn⟩)).1
  have e2 : (z ++ numS n).cps.toList.getLast? = OTH.cps.toList.getLast? := by rw [e]
  rw [toList_app, oth_list] at e2
  have ne : (numS n).cps.toList ≠ [] := fun z => by
    have l : (numS n).length = (numS n).cps.toList.length := (Array.length_toList).symm
    rw [z] at l
    simp at l
    omega
  rw [List.getLast?_append, List.getLast?_eq_some_getLast ne] at e2
  have e3 : (numS n).cps.toList.getLast ne = 114 := by simpa using e2
  have m : 114 ∈ (numS n).cps.toList := by rw [← e3]; exact List.getLast_mem ne
  have q := of_decide_eq_true (List.all_eq_true.mp a 114 m)
  omega
def spNam : Sp := fun vs H Q _ => ∃ (p ln : Addr) (taken : List Str), vs = [.ref p, .ref ln] ∧ StOk H p ∧ ln ≠ p ∧ H ln = some (.lst (taken.map V.str)) ∧ taken.length ≤ 60 ∧
  ∀ (z : Str) H', NmP z → Sh z → z ∉ taken → But p H H' → StOk H' p → Q (.str z) H'
def spNms : Sp := fun vs H Q _ => ∃ (p : Addr) (n : Int), vs = [.ref p, .int n] ∧ StOk H p ∧ 0 ≤ n ∧ n ≤ 60 ∧
  ∀ (zs : List Str) d H', H d = none → d ≠ p → But p H H' → StOk H' p → H' d = some (.lst (zs.map V.str)) → zs.length = n.toNat → zs.Nodup → (∀ z ∈ zs, NmP z ∧ Sh z) → Q (.ref d) H'
/-- how many tries are left -/
def mu7 (σ : L2.St) : Nat := match (σ[7]? : Option (Option V)) with
  | some (some (V.int n)) => 100 - n.toNat
  | _ => 0
theorem log_small {n : Nat} (h : n ≤ 100) : ((n : Int) + 1).natAbs.log2 < 1920 := by
  have e : ((n : Int) + 1).natAbs = n + 1 := by omega
  rw [e]
  have q : (n + 1).log2 ≤ n + 1 := Nat.log2_le_self _
  omega
theorem try_nm {z : Str} (h : NmP z) (hl : z.length ≤ 4) {n : Nat} (hn : n ≤ 60) : NmP (tryS z n) ∧ Sh (tryS z n) := by
  cases n with
  | zero => exact ⟨h, sh_short hl⟩
  | succ n => exact ⟨h.app (num_sign (n := n + 1) (by omega)).1, sh_num hl (by omega)⟩
section
variable {P : Program} {w : World} {K : PySem.W.Frag} {mg : Str → Option Value} {base : Heap}
theorem scNam : FnScope ["_law_s", "_law_taken", "_law_some", "_law_kind", "_law_word", "_law_k", "_law_found", "_law_n"] ["_law_s", "_law_taken"] (defScope sNam) := ⟨rfl, rfl, rfl, by decide +kernel, rfl, by decide +kernel, by decide +kernel⟩
theorem ok_nam {f fg : Addr} {fd fdg : FuncData} (F : Fun K "_law_name" "_law_name" sNam f fd) (T : TxB mg) (tstr : mg "str" = none) (D : Dn K mg "_law_digit" sDigit ["_law_state_here", "_law_base"] fg fdg) : FnOk P w K mg base CX0 2 f fd ["_law_s", "_law_taken"] spNam := by
  have G : FnOk P w K mg base CX0 1 fg fdg ["_law_state_here", "_law_base"] spDigit := ok_digit D.F
  refine F.ok scNam (fun vs H Q E h => ?_) (fun cdv A outer s H vs Q E hr h => ?_)
  · obtain ⟨p, ln, tk, rfl, _⟩ := h
    rfl
  · obtain ⟨p, ln, taken, rfl, hS, nlp, hT, hl, k⟩ := h
    refine ⟨_, (pss_cons (ps_set (i := 2) scNam.nd rfl (Or.inl rfl) pe_str)
      (pss_cons (ps_set (i := 3) scNam.nd rfl (Or.inl rfl) (pe_call G hr rfl D.g D.F.kp D.b .nil pass0 (pa_cons (pv 0) (pa_cons pe_int pa_nil))))
      (pss_cons (ps_set (i := 4) scNam.nd rfl (Or.inl rfl) (pe_ix ix_str (pv 2) (pe_call G hr rfl D.g D.F.kp D.b .nil pass0 (pa_cons (pv 0) (pa_cons pe_int pa_nil))) (fun _ _ => rfl)))
      (pss_cons (ps_for PassesOwn.never rfl (pi_range1 rfl T.range (pa_cons (pe_call G hr rfl D.g D.F.kp D.b .nil pass0 (pa_cons (pv 0) (pa_cons pe_int pa_nil))) pa_nil)) (pg_name (i := 5) scNam.nd rfl (Or.inl rfl)) (pss_one (ps_set (i := 4) scNam.nd rfl (Or.inl rfl) (pe_op op_add_str (pv 4) (pe_ix ix_str (pv 2) (pe_call G hr rfl D.g D.F.kp D.b .nil pass0 (pa_cons (pv 0) (pa_cons pe_int pa_nil))) (fun _ _ => rfl))))))
      (pss_cons (ps_if (pt_cmpR op_eq (pv 3) pe_int (nomark _)) (pss_one (ps_set (i := 4) scNam.nd rfl (Or.inl rfl) (pe_ix ix_list (pe_lst (pa_cons pe_str (pa_cons pe_str (pa_cons pe_str (pa_cons pe_str pa_nil))))) (pe_call G hr rfl D.g D.F.kp D.b .nil pass0 (pa_cons (pv 0) (pa_cons pe_int pa_nil))) (fun _ _ => rfl)))) pss_nil)
      (pss_cons (ps_set (i := 6) scNam.nd rfl (Or.inl rfl) (pv 4))
      (pss_cons (ps_set (i := 7) scNam.nd rfl (Or.inl rfl) pe_int)
      (pss_cons (ps_while PassesOwn.never (pt_cmpR op_in_seq (pv 6) (pv 1) (by rfl)) (pss_cons (ps_set (i := 7) scNam.nd rfl (Or.inl rfl) (pe_op op_add (pv 7) pe_int))
      (pss_one (ps_set (i := 6) scNam.nd rfl (Or.inl rfl) (pe_op op_add_str (pv 4) (pe_callTy call_str_int (by rfl) tstr (by decide +kernel) (pa_cons (pv 7) pa_nil)))))))
      (pss_one (ps_ret (pv 6))))))))))), ?_⟩
    refine ⟨_, rfl, p, _, rfl, hS, by decide, by decide, fun d1 H1 a1 b1 B1 S1 => ?_⟩
    refine ⟨_, rfl, _, rfl, p, _, rfl, S1, by decide, by decide, fun d2 H2 a2 b2 B2 S2 => ?_⟩
    refine rdItem abc36_len a2 (by omega) (by decide) fun c hc => ?_
    have hc' : lowC c := abc_low (by omega) hc
    refine ⟨_, rfl, p, _, rfl, S2, by decide, by decide, fun d3 H3 a3 b3 B3 S3 => ?_⟩
    refine ⟨d3, rfl, by omega, by omega, ?_⟩
    refine for_range (n := d3.toNat) (fun i σ H' => ∃ (z : Str) (v : Option V), σ = [some (.ref p), some (.ref ln), some (.str ABC36), some (.int d1), some (.str z), v, none, none] ∧ z.length ≤ i + 1 ∧ NmP z ∧ But p H H' ∧ StOk H' p)
      ⟨⟨#[c]⟩, none, rfl, Nat.le_refl _, NmP.one hc', (B1.trans B2).trans B3, S3⟩ ?_ ?_
    · rintro i σ H' hi ⟨z, v, rfl, hz, hp, B, S⟩
      refine ⟨_, rfl, _, rfl, _, rfl, p, _, rfl, S, by decide, by decide, fun d5 H5 a5 b5 B5 S5 => ?_⟩
      refine rdItem abc36_len a5 (by omega) (by decide) fun c hc => ?_
      refine ⟨_, _, rfl, rfl, ?_, ?_⟩
      · rw [len_one]
        exact Nat.le_trans (show z.length + 1 ≤ 100 by omega) (by decide)
      · refine ⟨_, _, rfl, ?_, hp.app (fun d hd => ?_), B.trans B5, S5⟩
        · rw [len_app, len_one]
          omega
        · have e : d = c := by simpa using hd
          rw [e]
          exact abc_any hc
    · rintro σ H4 ⟨z, v, rfl, hz, hp, B, S⟩
      refine ⟨_, rfl, rfl, _, rfl, ?_⟩
      refine ite2 (fun _ => ?_) (fun _ => ?_)
      · refine ⟨by show 4 ≤ sizeLine; decide, fun l nl => ?_⟩
        have nlq := st_free S nl
        refine ⟨_, rfl, p, _, rfl, S.upd nlq, by decide, by decide, fun d6 H6 a6 b6 B6 S6 => ?_⟩
        have hq : ∀ z ∈ (["m1", "m2", "m3", "m10"] : List Str), (∃ c cs, z.cps.toList = c :: cs ∧ (97 ≤ c ∧ c ≤ 122) ∧ ∀ d ∈ cs, (97 ≤ d ∧ d ≤ 122) ∨ (48 ≤ d ∧ d ≤ 57)) ∧ z.length ≤ 4 := by
          intro z hz
          rcases List.mem_cons.mp hz with e | hz
          · rw [e]; exact ⟨⟨109, [49], by decide +kernel, by decide, by decide⟩, by decide +kernel⟩
          rcases List.mem_cons.mp hz with e | hz
          · rw [e]; exact ⟨⟨109, [50], by decide +kernel, by decide, by decide⟩, by decide +kernel⟩
          rcases List.mem_cons.mp hz with e | hz
          · rw [e]; exact ⟨⟨109, [51], by decide +kernel, by decide, by decide⟩, by decide +kernel⟩
          rcases List.mem_cons.mp hz with e | hz
          · rw [e]; exact ⟨⟨109, [49, 48], by decide +kernel, by decide, by decide⟩, by decide +kernel⟩
          cases hz
        have hj : d6.toNat < (["m1", "m2", "m3", "m10"] : List Str).length := by show _ < 4; omega
        refine rdList (B6 l _ nlq upd_same) (j := d6.toNat) (v := .str ((["m1", "m2", "m3", "m10"] : List Str)[d6.toNat])) (by omega) ?_ ?_
        · have e : ((["m1", "m2", "m3", "m10"] : List Str).map V.str)[d6.toNat]? = some (.str ((["m1", "m2", "m3", "m10"] : List Str)[d6.toNat])) := by
            rw [List.getElem?_map, List.getElem?_eq_getElem hj]
            rfl
          exact e
        · have hh := hq _ (List.getElem_mem hj)
          generalize (["m1", "m2", "m3", "m10"] : List Str)[d6.toNat] = zz at hh
          have hzz : NmP zz := hh.1
          have hzl : zz.length ≤ 4 := hh.2
          have BB : But p H H6 := (but_new B nlq ((B.free nlq nl))).trans B6
          have SS : StOk H6 p := S6
          clear hh hq hj B6 S6 B S hz hp nl
          revert zz
          intro zz hzz hzl
          refine ⟨_, rfl, ?_⟩
          have hTT : H6 ln = some (.lst (taken.map V.str)) := BB ln _ nlp hT
          refine while_by (fun σ H' => H' = H6 ∧ ∃ n : Nat, σ = [some (.ref p), some (.ref ln), some (.str ABC36), some (.int d1), some (.str zz), v, some (.str (tryS zz n)), some (.int (n : Int))] ∧ n ≤ 60 ∧ ∀ i, i < n → tryS zz i ∈ taken) (fun σ _ => mu7 σ)
            ⟨rfl, 0, rfl, Nat.zero_le _, fun i hi => absurd hi (Nat.not_lt_zero i)⟩ ?_ ?_
          · rintro σ H' ⟨rfl, n, rfl, hn, hall⟩
            refine ⟨_, rfl, _, rfl, ln, _, rfl, .inl (SqL.of hTT), rfl, flats taken, _, rfl, ?_⟩
            show if inV (.str (tryS zz n)) (taken.map V.str) = true then _ else _
            rw [inV_strs]
            by_cases hm : tryS zz n ∈ taken
            · rw [decide_eq_true hm]
              refine iteT ?_
              have hall' : ∀ i, i < n + 1 → tryS zz i ∈ taken := fun i hi => by
                by_cases e : i = n
                · rw [e]
                  exact hm
                · exact hall i (by omega)
              have hle := try_end hl hall' (by omega)
              refine ⟨_, rfl, _, _, rfl, rfl, ?_⟩
              refine ⟨_, rfl, _, rfl, _, rfl, log_small (by omega), _, _, rfl, rfl, ?_, ?_⟩
              · have q := num_sign (n := n + 1) (by omega)
                exact Nat.le_trans (show zz.length + (numS (n + 1)).length ≤ 100 by omega) (by decide)
              · refine ⟨⟨rfl, n + 1, rfl, by omega, hall'⟩, ?_⟩
                show 100 - ((n : Int) + 1).toNat < 100 - (n : Int).toNat
                omega
            · rw [decide_eq_false hm]
              refine iteF ?_
              exact ⟨_, rfl, k _ _ (try_nm hzz hzl hn).1 (try_nm hzz hzl hn).2 hm BB SS⟩
          · intro σ H' Q1 Q2 f h
            obtain ⟨x, e1, y, e2, p', xs, e3, a, b, c, bb, e4, q⟩ := h
            exact ⟨x, e1, y, e2, p', xs, e3, a, b, c, bb, e4, f _ _ q⟩
      · have hzz : NmP z := hp
        have hzl : z.length ≤ 4 := by omega
        have BB : But p H H4 := B
        have SS : StOk H4 p := S
        refine ⟨_, rfl, ?_⟩
        have hTT : H4 ln = some (.lst (taken.map V.str)) := BB ln _ nlp hT
        refine while_by (fun σ H' => H' = H4 ∧ ∃ n : Nat, σ = [some (.ref p), some (.ref ln), some (.str ABC36), some (.int d1), some (.str z), v, some (.str (tryS z n)), some (.int (n : Int))] ∧ n ≤ 60 ∧ ∀ i, i < n → tryS z i ∈ taken) (fun σ _ => mu7 σ)
          ⟨rfl, 0, rfl, Nat.zero_le _, fun i hi => absurd hi (Nat.not_lt_zero i)⟩ ?_ ?_
        · rintro σ H' ⟨rfl, n, rfl, hn, hall⟩
          refine ⟨_, rfl, _, rfl, ln, _, rfl, .inl (SqL.of hTT), rfl, flats taken, _, rfl, ?_⟩
          show if inV (.str (tryS z n)) (taken.map V.str) = true then _ else _
          rw [inV_strs]
          by_cases hm : tryS z n ∈ taken
          · rw [decide_eq_true hm]
            refine iteT ?_
            have hall' : ∀ i, i < n + 1 → tryS z i ∈ taken := fun i hi => by
              by_cases e : i = n
              · rw [e]
                exact hm
              · exact hall i (by omega)
            have hle := try_end hl hall' (by omega)
            refine ⟨_, rfl, _, _, rfl, rfl, ?_⟩
            refine ⟨_, rfl, _, rfl, _, rfl, log_small (by omega), _, _, rfl, rfl, ?_, ?_⟩
            · have q := num_sign (n := n + 1) (by omega)
              exact Nat.le_trans (show z.length + (numS (n + 1)).length ≤ 100 by omega) (by decide)
            · refine ⟨⟨rfl, n + 1, rfl, by omega, hall'⟩, ?_⟩
              show 100 - ((n : Int) + 1).toNat < 100 - (n : Int).toNat
              omega
          · rw [decide_eq_false hm]
            refine iteF ?_
            exact ⟨_, rfl, k _ _ (try_nm hzz hzl hn).1 (try_nm hzz hzl hn).2 hm BB SS⟩
        · intro σ H' Q1 Q2 f h
          obtain ⟨x, e1, y, e2, p', xs, e3, a, b, c, bb, e4, q⟩ := h
          exact ⟨x, e1, y, e2, p', xs, e3, a, b, c, bb, e4, f _ _ q⟩
theorem scNms : FnScope ["_law_s", "_law_many", "_law_found", "_law_k"] ["_law_s", "_law_many"] (defScope sNms) := ⟨rfl, rfl, rfl, by decide +kernel, rfl, by decide +kernel, by decide +kernel⟩
theorem ok_nms {f fL : Addr} {fd dL : FuncData} (F : Fun K "_law_names" "_law_names" sNms f fd) (T : TxB mg) (D : Dn K mg "_law_name" sNam ["_law_s", "_law_taken"] fL dL) (G : FnOk P w K mg base CX0 2 fL dL ["_law_s", "_law_taken"] spNam) : FnOk P w K mg base CX0 3 f fd ["_law_s", "_law_many"] spNms := by
  refine F.ok scNms (fun vs H Q E h => ?_) (fun cdv A outer s H vs Q E hr h => ?_)
  · obtain ⟨p, n, rfl, _⟩ := h
    rfl
  · obtain ⟨p, n, rfl, hS, n0, n6, k⟩ := h
    refine ⟨_, (pss_cons (ps_set (i := 2) scNms.nd rfl (Or.inl rfl) (pe_lst pa_nil))
      (pss_cons (ps_for PassesOwn.never rfl (pi_range1 rfl T.range (pa_cons (pv 1) pa_nil)) (pg_name (i := 3) scNms.nd rfl (Or.inl rfl)) (pss_one (ps_expr (pe_bm PySem.F.plainAttrs_list PySem.F.slot_list_append PySem.F.type_list_append mt_append (pv 2) (pa_cons (pe_call G hr rfl D.g D.F.kp D.b .nil pass0 (pa_cons (pv 0) (pa_cons (pv 2) pa_nil))) pa_nil)))))
      (pss_one (ps_ret (pv 2))))), ?_⟩
    refine ⟨Nat.zero_le _, fun d hd => ?_⟩
    have ndp := st_free hS hd
    refine ⟨_, rfl, n, rfl, by omega, by omega, ?_⟩
    refine for_range (n := n.toNat) (fun i σ H' => (∃ u, σ = [some (.ref p), some (.int n), some (.ref d), u]) ∧ ∃ zs : List Str, H' d = some (.lst (zs.map V.str)) ∧ zs.Nodup ∧ (∀ z ∈ zs, NmP z ∧ Sh z) ∧ zs.length = i ∧ But p H H' ∧ StOk H' p)
      ⟨⟨none, rfl⟩, [], upd_same, List.nodup_nil, fun z hz => (List.not_mem_nil hz).elim, rfl, but_new (But.refl p H) ndp hd, hS.upd ndp⟩ ?_ ?_
    · rintro i σ H1 hi ⟨⟨u, rfl⟩, zs, hl, nd, nm, len, B, S⟩
      refine ⟨_, rfl, .inl ⟨rfl, _, SqL.of hl⟩, _, rfl, _, rfl, p, d, zs, rfl, S, ndp, hl, by omega, fun z H2 hz hz6 hm B2 S2 => ?_⟩
      have hl2 := B2 d _ ndp hl
      refine ⟨d, _, _, rfl, rfl, hl2, ?_, ?_⟩
      · rw [List.length_map]
        exact Nat.lt_of_le_of_lt (show _ ≤ 1000 by omega) (by decide)
      · refine ⟨⟨_, rfl⟩, zs ++ [z], ?_, ?_, ?_, ?_, but_new (B.trans B2) ndp hd, S2.upd ndp⟩
        · rw [upd_same, List.map_append]
          rfl
        · rw [List.nodup_append]
          exact ⟨nd, (by simp : [z].Nodup), fun a ha b hb e => by
            have eb : b = z := by simpa using hb
            rw [e, eb] at ha
            exact hm ha⟩
        · intro y hy
          rcases List.mem_append.mp hy with hy | hy
          · exact nm y hy
          · rw [List.mem_singleton.mp hy]
            exact ⟨hz, hz6⟩
        · rw [List.length_append, List.length_singleton]
          omega
    · rintro σ H1 ⟨⟨u, rfl⟩, zs, hl, nd, nm, len, B, S⟩
      exact ⟨_, rfl, k zs d H1 hd ndp B S hl len nd nm⟩
end
end Wm
/-! list(zip(xs, ys)) of two lists of one length -/
namespace Wm
open PySem PySem.Spec PyProof.Rows L2
theorem zl_nolen : typeLookup (.type "zip") "__len__" = pure none := by
  rw [typeLookup_type, builtinLookup_eq_fast]
  kernel_rfl
theorem zl_nohint : typeLookup (.type "zip") "__length_hint__" = pure none := by
  rw [typeLookup_type, builtinLookup_eq_fast]
  kernel_rfl
/-- how the zip stands ahead of turn i -/
def ZSt (z TI TO i1 i2 a b : Addr) (i : Nat) (h : Heap) (H : Hp) : Prop :=
  IsPair h TI (.ref i1) (.ref i2) ∧ h.IsListIter i1 a i ∧ h.IsListIter i2 b i ∧
  (∃ x y, IsPair h TO x y) ∧ (IsZip h z TI TO .none ∨ ∃ (T : Addr) (f : Bool) (u : List V), IsZipHeld h z TI TO T f ∧ H T = some (.tup u))
/-- the pairs that stand in the list so far -/
def Prs (H0 H : Hp) (xs ys : List V) (acc : List Addr) : Prop :=
  ∀ (j : Nat) (t : Addr), acc[j]? = some t → H0 t = none ∧ ∃ x y, xs[j]? = some x ∧ ys[j]? = some y ∧ H t = some (.tup [x, y])
theorem fp_upd {X : Cx} {pins : List (Addr × Obj)} {H : Hp} {c d : Addr} {o : HO} (n : c ≠ d) (h : FpOk X pins H c) : FpOk X pins (L2.upd H d o) c := ⟨by rw [upd_ne n]; exact h.1, h.2⟩
section
variable {X : Cx} {pins : List (Addr × Obj)} {σ : L2.St} {A1 : Around} {Rs : Result → Shared → Prop} {S z TI TO i1 i2 a b : Addr} {xs ys : List V} {H0 : Hp}
theorem zl_loop (hh : A1.handled = none) (D : ZipApart z TI TO i1 i2 a b) (hlen : xs.length = ys.length) (hs : xs.length ≤ sizeLine) (nS : H0 S = none) (ha : SqL X.K H0 a xs) (hb : SqL X.K H0 b ys)
    (same : ∀ {H H' : Hp} {c : Addr} {l : List V}, (∀ q o, H q = some o → H' q = some o) → SqL X.K H c l → SqL X.K H' c l)
    (fin : ∀ (H : Hp) (acc : List Addr) (s : Shared), Inv X pins σ H s → (∀ q o, H0 q = some o → H q = some o) → H S = some (.lst (acc.map V.ref)) → acc.length = xs.length → Prs H0 H xs ys acc → Rs (.ok (.ret .none)) s) :
    ∀ (k i : Nat) (acc : List Addr) (H : Hp) (s : Shared), xs.length - i = k → i ≤ xs.length → Inv X pins σ H s → (∀ c ∈ [z, TI, TO, i1, i2], FpOk X pins H c) → ZSt z TI TO i1 i2 a b i s.heap H → (∀ q o, H0 q = some o → H q = some o) →
      H S = some (.lst (acc.map V.ref)) → acc.length = i → Prs H0 H xs ys acc → codeAny (model X.prog X.w) A1 (.builtin "list.extend.loop" ⟨[.ref S, .ref z, .none], []⟩) Rs s := by
  intro k
  induction k with
  | zero =>
    intro i acc H s hk hi I hf st S0 hS hl hp
    have e : i = xs.length := by omega
    refine codeAny_builtin PySem.F.entry_extend_loop ?_
    rw [Around.under_plainId PySem.F.plain_extend_loop _]
    show wpAny _ A1.in1 (pyNext (.ref z) >>= _) _ _ s
    obtain ⟨its, rv, p, _⟩ := I.list (same S0 ha)
    obtain ⟨its2, rv2, p2, _⟩ := I.list (same S0 hb)
    have l1 := rv.length
    have l2 := rv2.length
    have he : its.toArray[i]? = none ∨ its2.toArray[i]? = none := .inl (by simp; omega)
    have done : ∀ h' : Heap, (∀ c o, c ∉ [z, TI, TO, i1, i2] → s.heap.get? c = some o → h'.get? c = some o) → Rs (.ok (.ret .none)) { s with heap := h' } := fun h' hk => fin H acc _ (I.turnedL (t' := s.toks) (ch := [z, TI, TO, i1, i2]) hk hf) S0 hS (by omega) hp
    obtain ⟨hTI, h1, h2, ⟨x0, y0, hTO⟩, hz | ⟨T, f, u, hz, hT⟩⟩ := st
    · exact wpAny_bind (wpAny_pyNext_zip_end (A := A1.in1) hh D hz hTI hTO h1 h2 p.isList p2.isList he fun h' hk => wpAny_pure (done h' fun c o hc => hk c o (fun q => hc (by simp [q])) (fun q => hc (by simp [q])) (fun q => hc (by simp [q])) (fun q => hc (by simp [q]))))
    · obtain ⟨_, _, _, oT, hoT, _⟩ := I.hok T _ hT
      exact wpAny_bind (wpAny_pyNext_zip_end_held (A := A1.in1) hh D hz hoT hTI h1 h2 p.isList p2.isList he fun h' hk => wpAny_pure (done h' fun c o hc => hk c o (fun q => hc (by simp [q])) (fun q => hc (by simp [q])) (fun q => hc (by simp [q]))))
  | succ k ih =>
    intro i acc H s hk hi I hf st S0 hS hl hp
    have hlt : i < xs.length := by omega
    refine codeAny_builtin PySem.F.entry_extend_loop ?_
    rw [Around.under_plainId PySem.F.plain_extend_loop _]
    show wpAny _ A1.in1 (pyNext (.ref z) >>= _) _ _ s
    obtain ⟨its, rv, p, _⟩ := I.list (same S0 ha)
    obtain ⟨its2, rv2, p2, _⟩ := I.list (same S0 hb)
    have hx : xs[i]? = some xs[i] := List.getElem?_eq_getElem hlt
    have hy : ys[i]? = some (ys[i]'(by omega)) := List.getElem?_eq_getElem (by omega)
    generalize xs[i] = x at hx
    generalize (ys[i]'(by omega)) = y at hy
    obtain ⟨u, hu, ru⟩ := rv.get hx
    obtain ⟨u2, hu2, ru2⟩ := rv2.get hy
    have nT : H s.heap.objs.size = none := I.hok.fresh (Nat.le_refl _)
    have n0 : H0 s.heap.objs.size = none := by
      cases e : H0 s.heap.objs.size with
      | none => rfl
      | some o =>
        rw [S0 _ _ e] at nT
        cases nT
    have nST : S ≠ s.heap.objs.size := fun e => by
      rw [← e, hS] at nT
      cases nT
    have zn : ∀ c ∈ [z, TI, TO, i1, i2], c ≠ S := fun c hc e => by
      have q := (hf c hc).1
      rw [e, hS] at q
      cases q
    have old : ∀ c ∈ [z, TI, TO, i1, i2], (∃ o, s.heap.get? c = some o) → c ≠ s.heap.objs.size := fun c _ ⟨o, e⟩ => Nat.ne_of_lt (Heap.lt_size e)
    have more : ∀ h' : Heap, IsZipHeld h' z TI TO s.heap.objs.size false ∨ (∃ (T : Addr) (f : Bool) (w : List V), IsZipHeld h' z TI TO T f ∧ H T = some (.tup w)) → h'.IsListIter i1 a (i + 1) → h'.IsListIter i2 b (i + 1) → IsPair h' TI (.ref i1) (.ref i2) → (∃ x y, IsPair h' TO x y) → IsPair h' s.heap.objs.size u u2 →
        (∀ c ∈ [z, TI, TO, i1, i2], c ≠ s.heap.objs.size) → (∀ c o, c ∉ [z, TI, TO, i1, i2] → s.heap.get? c = some o → h'.get? c = some o) →
        wpAny (model X.prog X.w) A1.in1 (updateSeq S (·.push (.ref s.heap.objs.size)) >>= fun _ => again (.builtin "list.extend.loop" ⟨[.ref S, .ref z, .none], []⟩))
          (fun fin s' => match fin with | .done f => Rs (.ok f) s' | .again c' => c'.quiet = true ∧ codeAny (model X.prog X.w) A1 c' Rs s') (fun e s' => Rs (.error e) s') { s with heap := h' } := by
      intro h' hz' h1' h2' hTI' ⟨a1, a2, hTO'⟩ hT hn hk
      have new : ObjOk X.prog X.w (L2.upd H s.heap.objs.size (.tup [x, y])) h' s.heap.objs.size (.tup [x, y]) := ⟨by show 2 ≤ sizeLine; decide, [u, u2], .cons ru (.cons ru2 .nil), ⟨_, hT, rfl, _, rfl⟩⟩
      have I1 : Inv X pins σ (L2.upd H s.heap.objs.size (.tup [x, y])) { s with heap := h' } := I.turnedNew (t' := s.toks) (ch := [z, TI, TO, i1, i2]) hk hf (Nat.le_refl _) new
      have hS1 : (L2.upd H s.heap.objs.size (.tup [x, y])) S = some (.lst (acc.map V.ref)) := by rw [upd_ne nST]; exact hS
      obtain ⟨zz, itsS, kS, rS, hlS, eS⟩ := I1.lstM hS1
      rw [List.length_map] at hlS zz
      have I2 := I1.lset (f := fun v : Array Value => v.push (.ref s.heap.objs.size)) (its' := itsS ++ [.ref s.heap.objs.size]) (ys := (acc ++ [s.heap.objs.size]).map V.ref) (t' := s.toks) hS1 eS (by simp) (by rw [List.map_append]; exact rS.append (.cons rfl .nil)) (by rw [List.length_map, List.length_append, List.length_singleton]; omega)
      refine wpAny_bind (wpAny_updateSeq eS rfl (wpAny_pure ⟨plainId_quiet PySem.F.plain_extend_loop _, ?_⟩) (by rw [List.size_toArray]; omega) (by show (itsS.toArray.push _).size ≤ sizeLine + 1; rw [Array.size_push, List.size_toArray]; omega))
      have up : ∀ c o, c ≠ S → h'.get? c = some o → (h'.update S (Obj.mapSeq fun v : Array Value => v.push (.ref s.heap.objs.size))).get? c = some o := fun c o n e => (Heap.get?_update_other _ _ n.symm).trans e
      have grow : ∀ q o, q ≠ S → H q = some o → (L2.upd (L2.upd H s.heap.objs.size (.tup [x, y])) S (.lst ((acc ++ [s.heap.objs.size]).map V.ref))) q = some o := fun q o n e => by
        rw [upd_ne n, upd_ne fun e' => by rw [e', nT] at e; cases e]
        exact e
      have eT : (L2.upd (L2.upd H s.heap.objs.size (.tup [x, y])) S (.lst ((acc ++ [s.heap.objs.size]).map V.ref))) s.heap.objs.size = some (.tup [x, y]) := by rw [upd_ne nST.symm, upd_same]
      refine ih (i + 1) (acc ++ [s.heap.objs.size]) _ _ (by omega) hlt I2 (fun c hc => fp_upd (zn c hc) (fp_upd (hn c hc) (hf c hc))) ⟨up _ _ (zn TI (by simp)) hTI', h1'.at fun o q => up _ _ (zn i1 (by simp)) q, h2'.at fun o q => up _ _ (zn i2 (by simp)) q, ⟨a1, a2, up _ _ (zn TO (by simp)) hTO'⟩, .inr ?_⟩ (fun q o e => grow q o (fun z' => by rw [z', nS] at e; cases e) (S0 q o e)) upd_same (by rw [List.length_append, hl]; rfl) ?_
      · rcases hz' with q | ⟨T, f, w, q, hT'⟩
        · exact ⟨_, _, _, up _ _ (zn z (by simp)) q, eT⟩
        · exact ⟨T, f, w, up _ _ (zn z (by simp)) q, grow T _ (fun z' => by rw [z', hS] at hT'; cases hT') hT'⟩
      · intro j t hj
        rcases Nat.lt_trichotomy j acc.length with q | q | q
        · rw [List.getElem?_append_left q] at hj
          obtain ⟨m0, x', y', e1, e2, e3⟩ := hp j t hj
          exact ⟨m0, x', y', e1, e2, grow t _ (fun z' => by rw [z', hS] at e3; cases e3) e3⟩
        · subst q
          have e : s.heap.objs.size = t := by simpa using hj
          subst e
          exact ⟨n0, x, y, by rw [hl]; exact hx, by rw [hl]; exact hy, eT⟩
        · rw [List.getElem?_eq_none (by rw [List.length_append, List.length_singleton]; omega)] at hj
          cases hj
    have hu' : its.toArray[i]? = some u := by simpa using hu
    have hu2' : its2.toArray[i]? = some u2 := by simpa using hu2
    obtain ⟨hTI, h1, h2, ⟨x0, y0, hTO⟩, hzz⟩ := st
    obtain ⟨o1, e1, q1⟩ := id h1
    obtain ⟨o2, e2, q2⟩ := id h2
    have notin : ∀ c, c ∉ [z, TI, TO, i1, i2] → c ≠ z ∧ c ≠ TO ∧ c ≠ i1 ∧ c ≠ i2 := fun c hc => ⟨fun q => hc (by simp [q]), fun q => hc (by simp [q]), fun q => hc (by simp [q]), fun q => hc (by simp [q])⟩
    have hn : (∃ o, s.heap.get? z = some o) → ∀ c ∈ [z, TI, TO, i1, i2], c ≠ s.heap.objs.size := fun hz c hc => old c hc (by
      have e' : c = z ∨ c = TI ∨ c = TO ∨ c = i1 ∨ c = i2 := by simpa using hc
      rcases e' with q | q | q | q | q
      · rw [q]; exact hz
      · rw [q]; exact ⟨_, hTI⟩
      · rw [q]; exact ⟨_, hTO⟩
      · rw [q]; exact ⟨_, e1⟩
      · rw [q]; exact ⟨_, e2⟩)
    rcases hzz with hz | ⟨T, f, w, hz, hT⟩
    · exact wpAny_bind (wpAny_pyNext_zip_item D hz hTI hTO h1 h2 p.isList p2.isList hu' hu2' fun h' z' TO' h1' h2' hT hsz hk => more h' (.inl z') h1' h2' (hk _ _ D.TIz D.TITO D.TIi1 D.TIi2 hTI) ⟨_, _, TO'⟩ hT (hn ⟨_, hz⟩) fun c o hc => hk c o (notin c hc).1 (notin c hc).2.1 (notin c hc).2.2.1 (notin c hc).2.2.2)
    · obtain ⟨_, _, _, oT, hoT, _⟩ := I.hok T _ hT
      exact wpAny_bind (wpAny_pyNext_zip_item_held D hz hoT hTI h1 h2 p.isList p2.isList hu' hu2' fun h' z' h1' h2' hTn hsz hk => more h' (.inr ⟨T, _, w, z', hT⟩) h1' h2' (hk _ _ D.TIz D.TIi1 D.TIi2 hTI) ⟨_, _, hk _ _ D.TOz D.TOi1 D.TOi2 hTO⟩ hTn (hn ⟨_, hz⟩) fun c o hc => hk c o (notin c hc).1 (notin c hc).2.2.1 (notin c hc).2.2.2)
end
def tLZ (K : PySem.W.Frag) (ta : TA) : TE := fun σ H Q => ta σ H fun vs H1 => ∃ (a b : Addr) (xs ys : List V), vs = [.ref a, .ref b] ∧ SqL K H1 a xs ∧ SqL K H1 b ys ∧ xs.length = ys.length ∧ xs.length ≤ 100000 ∧
  ∀ (p : Addr) (ts : List Addr) (H' : Hp), H1 p = none → (∀ q o, H1 q = some o → H' q = some o) → H' p = some (.lst (ts.map V.ref)) → ts.length = xs.length → Prs H1 H' xs ys ts → Q (.ref p) H'
theorem pe_listZip {X : Cx} {e e2 : Expr} {ta : TA} {p p2 pos pos2 : Pos} (hc : X.calm = true) (hgl : Gl X "list") (hml : X.mg "list" = none) (hg : Gl X "zip") (hm : X.mg "zip" = none) (ha : PA X [e, e2] ta)
    (same : ∀ {H H' : Hp} {c : Addr} {l : List V}, (∀ q o, H q = some o → H' q = some o) → SqL X.K H c l → SqL X.K H' c l)
    (hs : starEach [e, e2] X.env = (false, eval e X.env) :: starEach [e2] X.env := by rfl) (hpl : (backTo pos2 (starEach [e2] X.env)).any (·.1) = false := by rfl)
    (hz : starEach [Expr.Call (.Name "zip" p2) [e, e2] [] pos2] X.env = (false, eval (.Call (.Name "zip" p2) [e, e2] [] pos2) X.env) :: starEach [] X.env := by rfl) :
    PE X (.Call (.Name "list" p) [.Call (.Name "zip" p2) [e, e2] [] pos2] [] pos) (tLZ X.K ta) := by
  refine ⟨fun pins s σ H Q I h => ?_⟩
  refine wpAny_Call_Name_kw (ld_blt (u := .type "list") I hgl hml (by decide +kernel) ?_)
  refine PyProof.Rows.callWith_type1 ?_ hz rfl
  rw [hz]
  show wpAny _ _ (spliced ((false, eval (.Call (.Name "zip" p2) [e, e2] [] pos2) X.env) :: backTo pos (starEach [] X.env))) _ _ s
  refine Calls.spliced_cons ?_
  refine Call_ (ld_blt I hg hm PyProof.Rows.boot_zip (PyProof.Rows.callWith_type1 (thn (ha.run pos2 pins s σ H _ I h) fun us s1 ⟨vs, H1, I1, r1, q1⟩ => ?_) hs hpl))
  obtain ⟨a, b, xs, ys, ex, hqx, hqy, hlen, hsz, q⟩ := q1
  subst ex
  cases r1 with
  | cons r rr =>
    cases rr with
    | cons r' rr =>
      cases rr
      cases r
      cases r'
      obtain ⟨its, rv, p1, _⟩ := I1.list hqx
      obtain ⟨its2, rv2, p2', _⟩ := I1.list hqy
      have la : a < s1.heap.objs.size := p1.lt
      have lb : b < s1.heap.objs.size := p2'.lt
      refine call_zip_2 p1.isList p2'.isList fun h' hz' hTI hTO h1 h2 hsz' hk => Calls.spliced_nil ?_
      have I2 : Inv X pins σ H1 { s1 with heap := h' } := I1.kept (t' := s1.toks) hk
      have D := PySem.W.ktu_apart s1.heap.objs.size a b la lb
      have hf : ∀ c ∈ [s1.heap.objs.size + 4, s1.heap.objs.size + 2, s1.heap.objs.size + 3, s1.heap.objs.size, s1.heap.objs.size + 1], FpOk X pins H1 c := fun c hcm => by
        have hle : s1.heap.objs.size ≤ c := by
          have e' : c = s1.heap.objs.size + 4 ∨ c = s1.heap.objs.size + 2 ∨ c = s1.heap.objs.size + 3 ∨ c = s1.heap.objs.size ∨ c = s1.heap.objs.size + 1 := by simpa using hcm
          rcases e' with z | z | z | z | z
          · rw [z]; exact Nat.le_add_right _ _
          · rw [z]; exact Nat.le_add_right _ _
          · rw [z]; exact Nat.le_add_right _ _
          · rw [z]; exact Nat.le_refl _
          · rw [z]; exact Nat.le_add_right _ _
        exact I1.fpOk hle (I1.hok.fresh hle)
      have hzlt : s1.heap.objs.size + 4 < h'.objs.size := by omega
      generalize hz0 : s1.heap.objs.size + 4 = z at hz' hf D hzlt
      generalize hT1 : s1.heap.objs.size + 2 = TI at hTI hz' hf D
      generalize hT2 : s1.heap.objs.size + 3 = TO at hTO hz' hf D
      generalize hT4 : s1.heap.objs.size + 1 = i2 at h2 hTI hf D
      generalize hT3 : s1.heap.objs.size = i1 at h1 hTI hf D
      refine callType_codes (Q₁ := fun obj s₁ => obj = .ref h'.objs.size ∧ s₁ = { s1 with heap := h'.push { cls := .type "list", data := .seq #[] } }) PySem.F.called_list (PySem.F.typeCall_list_1 _) PySem.F.entry_list_init
        (code_list_new _ ⟨rfl, rfl⟩) fun obj s₁ h₁ => ?_
      obtain ⟨rfl, rfl⟩ := h₁
      have hS : (h'.push { cls := .type "list", data := .seq #[] }).get? h'.objs.size = some { cls := .type "list", data := .seq #[] } := Heap.get?_push_size _ rfl
      refine ⟨⟨_, hS, rfl⟩, PySem.F.args_list_init_2 _ _, ?_⟩
      have fr : H1 h'.objs.size = none := I2.hok.fresh (Nat.le_refl _)
      have I3 : Inv X pins σ (L2.upd H1 h'.objs.size (.lst [])) { s1 with heap := h'.push { cls := .type "list", data := .seq #[] } } := I2.lnew (its := []) (t' := s1.toks) .nil (Nat.zero_le _)
      show wpAny _ _ (do let old ← Builtin.List.listItems (.ref h'.objs.size); Builtin.List.listUpdate (.ref h'.objs.size) (fun _ => #[]); letGo old.toList.reverse; Builtin.List.listExtendWith (.ref h'.objs.size) (.ref z) .none) _ _ _
      refine wpAny_bind ?_
      unfold Builtin.List.listItems
      refine wpAny_bind (wpAny_seqItems hS rfl (wpAny_pure ?_))
      show wpAny _ _ (updateSeq h'.objs.size (fun _ => #[]) >>= fun _ => letGo (#[] : Array Value).toList.reverse >>= fun _ => Builtin.List.listExtendWith (.ref h'.objs.size) (.ref z) .none) _ _ _
      refine wpAny_bind (wpAny_updateSeq hS rfl ?_)
      have I4 := I3.lset (f := fun _ => #[]) (its := []) (its' := []) (ys := []) (t' := s1.toks) upd_same hS rfl .nil (Nat.zero_le _)
      rw [upd_upd] at I4
      have hS4 := Heap.get?_update_self (Obj.mapSeq (fun _ => (#[] : Array Value))) hS rfl
      have k4 : ∀ c o, c ≠ h'.objs.size → h'.get? c = some o → ((h'.push { cls := .type "list", data := .seq #[] }).update h'.objs.size (Obj.mapSeq (fun _ => (#[] : Array Value)))).get? c = some o := fun c o n e => (Heap.get?_update_other _ _ n.symm).trans (Heap.get?_push_of_some _ e)
      refine wpAny_bind (wpAny_letGo ?_)
      have nz : ∀ c o, h'.get? c = some o → c ≠ h'.objs.size := fun c o e => Nat.ne_of_lt (Heap.lt_size e)
      have st4 : ∀ (g : Heap), (∀ c o, c ≠ h'.objs.size → h'.get? c = some o → g.get? c = some o) → ∀ H : Hp, ZSt z TI TO i1 i2 a b 0 g H := fun g kg H => ⟨kg _ _ (nz _ _ hTI) hTI, h1.at fun o e => kg _ o (nz _ o e) e, h2.at fun o e => kg _ o (nz _ o e) e, ⟨_, _, kg _ _ (nz _ _ hTO) hTO⟩, .inl (kg _ _ (nz _ _ hz') hz')⟩
      have go : ∀ (g : Heap), (∀ c o, c ≠ h'.objs.size → h'.get? c = some o → g.get? c = some o) → Inv X pins σ (L2.upd H1 h'.objs.size (.lst [])) { s1 with heap := g } →
          codeAny (model X.prog X.w) X.A.in1 (.builtin "list.extend.loop" ⟨[.ref h'.objs.size, .ref z, .none], []⟩) (wants (fun r s₂ => r = .none ∧ EP X pins σ Q (.ref h'.objs.size) s₂) X.xe) { s1 with heap := g } := fun g kg I5 => by
        refine zl_loop (H0 := H1) (S := h'.objs.size) (A1 := X.A.in1) (I1.ok.hd hc) D hlen (Nat.le_trans hsz (by decide)) fr hqx hqy same ?_ _ 0 [] _ _ rfl (Nat.zero_le _) I5 (fun c hcm => fp_upd ?_ (hf c hcm)) (st4 g kg _) ?_ upd_same rfl (fun j t e => by simp at e)
        · intro H' acc s' I' S' hl' len' pr'
          exact ⟨rfl, .ref _, H', I', rfl, q _ acc H' fr S' hl' len' pr'⟩
        · have e' : c = z ∨ c = TI ∨ c = TO ∨ c = i1 ∨ c = i2 := by simpa using hcm
          obtain ⟨o1, e1, q1⟩ := id h1
          obtain ⟨o2, e2, q2⟩ := id h2
          rcases e' with y | y | y | y | y
          · rw [y]; exact nz _ _ hz'
          · rw [y]; exact nz _ _ hTI
          · rw [y]; exact nz _ _ hTO
          · rw [y]; exact nz _ _ e1
          · rw [y]; exact nz _ _ e2
        · intro q' o e
          rw [upd_ne fun y => by rw [y, fr] at e; cases e]
          exact e
      show wpAny _ _ (Builtin.List.listExtendWith (.ref h'.objs.size) (.ref z) .none) _ _ { s1 with heap := (h'.push { cls := .type "list", data := .seq #[] }).update h'.objs.size (Obj.mapSeq (fun _ => (#[] : Array Value))) }
      unfold Builtin.List.listExtendWith
      have hz4 := k4 _ _ (nz _ _ hz') hz'
      have hty : ∀ t, Shared.TypeIs ({ s1 with heap := (h'.push { cls := .type "list", data := .seq #[] }).update h'.objs.size (Obj.mapSeq (fun _ => (#[] : Array Value))), toks := t } : Shared) (.ref z) "zip" := fun t => ⟨_, hz4, rfl⟩
      refine wpAny_bind (wpAny_typeOf (hty _) ?_)
      have c1 : Builtin.List.listSameRef (.ref h'.objs.size) (.ref z) = false := by simp [Builtin.List.listSameRef, (nz _ _ hz').symm]
      have c2 : (Value.type "zip" == Value.type "list") = false := by decide
      have c3 : (Value.type "zip" == Value.type "tuple") = false := by decide
      simp only [c1, c2, c3, Bool.or_false, Bool.false_eq_true, if_false]
      refine wpAny_bind (wpAny_pyIter_zip hz4 ?_)
      refine wpAny_bind (wpAny_holding ?_)
      unfold Builtin.List.listLengthHint
      refine wpAny_bind (wpAny_specialOf (hty _) zl_nolen ?_)
      show wpAny _ _ (specialOf (Value.ref z) (Str.ofString "__length_hint__") >>= _) _ _ _
      refine wpAny_bind (wpAny_specialOf (hty _) zl_nohint ?_)
      refine wpAny_pure ?_
      show wpAny _ _ (rule "list.extend.makes-room" >>= fun _ => Builtin.List.listTouch (.ref h'.objs.size) >>= fun _ => again (.builtin "list.extend.loop" ⟨[.ref h'.objs.size, .ref z, .none], []⟩)) _ _ _
      refine wpAny_bind (wpAny_rule ?_)
      refine wpAny_bind ?_
      show wpAny _ _ (updateSeq h'.objs.size (·.push .none) >>= fun _ => updateSeq h'.objs.size (·.pop)) _ _ _
      refine wpAny_bind (wpAny_updateSeq hS4 rfl ?_)
      have I6 := I4.lset (f := (·.push Value.none)) (its := []) (its' := [Value.none]) (ys := [.non]) (t' := s1.toks) upd_same hS4 (by simp) (.cons rfl .nil) (by decide)
      rw [upd_upd] at I6
      have hS5 := Heap.get?_update_self (Obj.mapSeq (·.push Value.none)) hS4 rfl
      refine wpAny_updateSeq hS5 rfl ?_ (by decide) (by decide)
      have I7 := I6.lset (f := (·.pop)) (its := [Value.none]) (its' := []) (ys := []) (t' := s1.toks) upd_same hS5 (by rfl) .nil (Nat.zero_le _)
      rw [upd_upd] at I7
      exact wpAny_pure ⟨plainId_quiet PySem.F.plain_extend_loop _, go _ (fun c o n e => (Heap.get?_update_other _ _ n.symm).trans ((Heap.get?_update_other _ _ n.symm).trans (k4 c o n e))) I7⟩
end Wm
namespace Wm
open L2 PySem PySem.W
/-- a def to which a caught error is handed within the suite that caught it -/
structure FnE (P : Program) (w : World) (K : Frag) (mg : Str → Option Value) (base : Heap) (k : Nat) (f : Addr) (fd : FuncData) (ps : List Str)
    (sp : Addr → Value → Option Addr → Sp) : Prop where
  len : ∀ a cls d vs H Q E, sp a cls d vs H Q E → vs.length = ps.length
  run : ∀ (A : Around) (outer : List Env) (s : Shared) (H : Hp) (args : Args) (us : List Value) (vs : List V) (Q : VK) (E : XK) (a : Addr) (oe : Obj) (cls : Value) (d : Option Addr),
    L2H.RoomH k A → A.handled = some (.ref a) → Zc cls d oe → (∃ vs, oe.data = .fields vs) → L2H.PinOk outer H s (a, oe) → Env0 P w K mg base A outer s H →
    BindsTo s fd args (ps.zip us) → Vals vs us → sp a cls d vs H Q E → codeAny (model P w) A (.call (.ref f) args) (CR CX0 outer P w H s Q E) s
theorem mark_self {A : Around} {a : Addr} (h : A.handled = some (.ref a)) : A.mark (some (.ref a)) = A := by
  cases A
  simp only at h
  subst h
  rfl
theorem fn_ofE {P : Program} {w : World} {K : Frag} {mg : Str → Option Value} {base : Heap} {k : Nat} {f : Addr} {name qual : Str} {params : Arguments} {body : List Stmt} {scope : Scope}
    {dV kV doc pm cdv ct oc : Value} {an od : Option Addr} {osl : Array (Option Value)} {N ps : List Str} {sp : Addr → Value → Option Addr → Sp}
    (lk : List.lookup f K = some { cls := oc, dict := od, data := .func (fnOf name qual params body scope dV kV doc pm an cdv ct), slots := osl })
    (hcd : codeIn K cdv qual = true) (S : FnScope N ps scope)
    (len : ∀ a cls d vs H Q E, sp a cls d vs H Q E → vs.length = ps.length)
    (hbody : ∀ (A : Around) (outer : List Env) (s : Shared) (H : Hp) (vs : List V) (Q : VK) (E : XK) (a : Addr) (oe : Obj) (cls : Value) (d : Option Addr),
      Zc cls d oe → (∃ vs, oe.data = .fields vs) → L2H.RoomH k (A.deeper (PyProof.Rows.envOfC qual scope s.heap.objs.size f cdv)) → sp a cls d vs H Q E →
      ∃ t, PSs ((cxOf CX0 P w K mg base N qual scope f cdv A outer s H E).suite a [(a, oe)]) body t ∧ t { nx := fun _ H' => Q .non H', rt := Q } (L2.start N vs) H) :
    FnE P w K mg base (k + 1) f (fnOf name qual params body scope dV kV doc pm an cdv ct) ps sp where
  len := len
  run := by
    intro A outer s H args us vs Q E a oe cls d hr hh hz hf hpin e0 hb r hsp
    have KX := Frag.In.keeps e0.mod.kin fun b o e => (e0.bs b o e).1
    have lim := Heap.NoLimit.keeps e0.mod.nolimit fun b o e => (e0.bs b o e).1
    refine codeAny_call_function hr.depth (KX f _ lk) rfl S.co S.gen rfl (codeRec_of KX hcd) (hb _ A.in1 _ _ (wpAny_newFunctionEnv_cells S.kind ?_ ?_))
    · rintro ⟨n, v⟩ hy
      rcases S.par n (List.of_mem_zip hy).1 with q | q
      · exact Or.inl q
      · exact Or.inr ⟨q, cellsFrom_some scope.names (s.heap.objs.size + 1) [] (Or.inl q)⟩
    · intro env he s1 x
      subst he
      refine ⟨Heap.NoLimit.keeps lim x.toInCall.keep, codeAny_func ?_⟩
      obtain ⟨t, ht, hq⟩ := hbody A outer s H vs Q E a oe cls d hz hf (L2H.RoomH.deeper hr _) hsp
      have I := L2H.inv_startH (CX := CX0) (E := E) S hpin e0 (len _ _ _ _ _ _ _ hsp) r x
      have hm : (A.deeper (PyProof.Rows.envOfC qual scope s.heap.objs.size f cdv)).mark (some (.ref a)) = A.deeper (PyProof.Rows.envOfC qual scope s.heap.objs.size f cdv) := mark_self hh
      have o := I.ok
      have I2 : Inv ((cxOf CX0 P w K mg base N qual scope f cdv A outer s H E).suite a [(a, oe)]) [] (L2.start N vs) H s1 :=
        ⟨⟨o.mod, o.kind, o.glob, o.blt, o.above, o.inj, o.has, o.cab, (fun h => by cases h), o.frames, o.stk, o.exf, o.bs, o.bsz, o.noex, o.exfs, o.funs, o.frf⟩,
          I.os, I.bare, I.base, I.loc, I.cell, I.free, I.freeC, I.pin, I.hok, I.len⟩
      have go := ht.run [] s1 (L2.start N vs) H { nx := fun _ H' => Q .non H', rt := Q } I2 hq
      dsimp only [Cx.suite, cxOf] at go
      rw [hm] at go
      refine wpAny_mono go (fun fl s' hs => ?_) fun e s' hs => hs.elim
      cases fl with
      | next =>
        obtain ⟨σ', H', J, q⟩ := hs
        exact ⟨.non, H', J.os, J.bare, J.base, J.hok, rfl, q⟩
      | brk =>
        obtain ⟨_, _, _, q⟩ := hs
        exact q.elim
      | cont =>
        obtain ⟨_, _, _, q⟩ := hs
        exact q.elim
      | ret u =>
        obtain ⟨v, σ', H', J, rv, q⟩ := hs
        exact ⟨v, H', J.os, J.bare, J.base, J.hok, rv, q⟩
theorem FunE_ok {P : Program} {w : World} {K : Frag} {mg : Str → Option Value} {base : Heap} {x qual : Str} {st : Stmt} {f : Addr} {fd : FuncData} {N ps : List Str} {k : Nat} {sp : Addr → Value → Option Addr → Sp}
    (F : Fun K x qual st f fd) (S : FnScope N ps (defScope st))
    (len : ∀ a cls d vs H Q E, sp a cls d vs H Q E → vs.length = ps.length)
    (hbody : ∀ (cdv : Value) (A : Around) (outer : List Env) (s : Shared) (H : Hp) (vs : List V) (Q : VK) (E : XK) (a : Addr) (oe : Obj) (cls : Value) (d : Option Addr),
      Zc cls d oe → (∃ vs, oe.data = .fields vs) → L2H.RoomH k (A.deeper (PyProof.Rows.envOfC qual (defScope st) s.heap.objs.size f cdv)) → sp a cls d vs H Q E →
      ∃ t, PSs ((cxOf CX0 P w K mg base N qual (defScope st) f cdv A outer s H E).suite a [(a, oe)]) (defBody st) t ∧ t { nx := fun _ H' => Q .non H', rt := Q } (L2.start N vs) H) :
    FnE P w K mg base (k + 1) f fd ps sp := by
  obtain ⟨oc, od, kV, doc, pm, an, cdv, ct, osl, rfl, lk, hcd⟩ := F.ex
  exact fn_ofE lk hcd S len fun A outer s H vs Q E a oe cls d hz hf hr hsp => hbody cdv A outer s H vs Q E a oe cls d hz hf hr hsp
/-- the call f(e, ..) of such a def within the suite -/
def tCallE (sp : Sp) (t : TA) : TE := fun σ H Q => t σ H fun vs H1 => sp vs H1 Q (fun _ _ _ => False)
theorem pe_callE {X : Cx} {k : Nat} {f : Addr} {fd : FuncData} {ps : List Str} {sp : Addr → Value → Option Addr → Sp} {a : Addr} {oe : Obj} {cls : Value} {d : Option Addr} {pn : List (Addr × Obj)}
    {x : Str} {q pos : Pos} {e : Expr} {es : List Expr} {t : TA}
    (F : FnE X.prog X.w X.K X.mg X.base k f fd ps sp) (hr : L2H.RoomH k X.A) (hz : Zc cls d oe) (hf : ∃ vs, oe.data = .fields vs) (hg : Gl X x) (hm : X.mg x = some (.ref f))
    (hk : keepIn X.K (.ref f) = true) (hb : L2.Binds X.K fd ps []) (ha : PA (X.suite a ((a, oe) :: pn)) (e :: es) t)
    (hdb : (x == Str.ofString "__debug__") = false := by rfl) (he : starEach (e :: es) X.env = (false, eval e X.env) :: starEach es X.env := by rfl)
    (hpl : ((backTo pos (starEach es X.env)).any fun x => x.1) = false := by rfl) :
    PE (X.suite a ((a, oe) :: pn)) (.Call (.Name x q) (e :: es) [] pos) (tCallE (sp a cls d) t) where
  run := by
    intro pins s σ H Q I h
    refine wpAny_Call_Name_kw (ld_glob I hg hm (callWith_K I.ok.mod.kin hk (thn (ha.run pos pins s σ H _ I h) ?_) he hpl) hdb)
    rintro us s1 ⟨vs, H1, I1, r, h1⟩
    refine ⟨I1.kIn, ?_⟩
    have P1 := I1.pin (a, oe) (List.mem_append_left _ (List.mem_cons_self ..))
    have hp : L2H.PinOk X.stack H1 s1 (a, oe) := ⟨P1.1, P1.2.1, fun hx => (List.mem_cons.mp (I1.stkSub a hx)).elim P1.2.2.1 P1.2.2.2.1, P1.2.2.2.2⟩
    have hl : (us ++ []).length = ps.length := by rw [List.append_nil, ← r.length]; exact F.len _ _ _ _ _ _ _ h1
    have b := hb s1 us I1.kIn hl
    rw [List.append_nil] at b
    have hr2 : L2H.RoomH k (X.suite a ((a, oe) :: pn)).A := ⟨hr.dp, hr.un⟩
    refine wpAny_call (codeAny_mono (F.run (X.suite a ((a, oe) :: pn)).A X.stack s1 H1 ⟨us, []⟩ us vs Q _ a oe cls d hr2 rfl hz hf hp I1.env0 b r h1) fun r s' hq => ?_)
    cases r with
    | error e => exact hq.elim
    | ok fl =>
      cases fl with
      | next => exact hq.elim
      | brk => exact hq.elim
      | cont => exact hq.elim
      | ret u => exact I1.after hq
end Wm
/-! names for readings that the library leaves unnamed -/
namespace Wm
open PySem L2
abbrev rAddI : R2 := rI0 fun i j => .int (i + j)
abbrev rSubI : R2 := rI0 fun i j => .int (i - j)
abbrev rMulI : R2 := rI CMul fun i j => .int (i * j)
abbrev rModI : R2 := rI (fun _ j => 0 < j) fun i j => .int (i % j)
abbrev rDivI : R2 := rI CDiv fun i j => .int (i / j)
abbrev rAddS : R2 := fun x y H Q => ∃ i j, x = .str i ∧ y = .str j ∧ i.length + j.length ≤ sizeLine ∧ Q (.str (i ++ j)) H
abbrev rLtI : R2 := rI0 fun i j => .bl (decide (i < j))
abbrev rLeI : R2 := rI0 fun i j => .bl (decide (i ≤ j))
abbrev rGtI : R2 := rI0 fun i j => .bl (decide (j < i))
abbrev rGeI : R2 := rI0 fun i j => .bl (decide (j ≤ i))
abbrev rInSg : R2 := fun x y H Q => ∃ (c : Nat) (z : Str), x = .str ⟨#[c]⟩ ∧ y = .str z ∧ Q (.bl (decide (c ∈ z.cps.toList))) H
abbrev rNiSg : R2 := fun x y H Q => ∃ (c : Nat) (z : Str), x = .str ⟨#[c]⟩ ∧ y = .str z ∧ Q (.bl (!decide (c ∈ z.cps.toList))) H
abbrev rInt1 : List V → Hp → VK → Prop := fun xs H Q => (∃ i, xs = [.int i] ∧ Q (.int i) H) ∨ ∃ k, xs = [.bl k] ∧ Q (.int (if k then 1 else 0)) H
abbrev rLenS : List V → Hp → VK → Prop := fun xs H Q => ∃ z, xs = [.str z] ∧ z.length ≤ sizeLine ∧ Q (.int z.length) H
abbrev rLenL (K : PySem.W.Frag) : List V → Hp → VK → Prop := fun xs H Q => ∃ p ys, xs = [.ref p] ∧ (SqL K H p ys ∨ SqT K H p ys) ∧ Q (.int ys.length) H
abbrev rStrI : List V → Hp → VK → Prop := fun xs H Q => ∃ i, xs = [.int i] ∧ i.natAbs.log2 < 1920 ∧ Q (.str (toString i)) H
abbrev rLstOf (K : PySem.W.Frag) : List V → Hp → VK → Prop := fun xs H Q => ∃ p ys, xs = [.ref p] ∧ (SqL K H p ys ∨ SqT K H p ys) ∧ ∀ l, H l = none → Q (.ref l) (upd H l (.lst ys))
end Wm
namespace Wm
open PySem L2 StX
structure PtD where
  nm : Str
  vars : List Var
  cs : List Tri
structure RlD where
  p : PtD
  g : Tri
  bh : Str
def BrAt (K : PySem.W.Frag) (B : Addr) (H : Hp) (a : Addr) (b : PtD) : Prop := ∃ d t1 t2 ps qs, H a = some (.ins B d (barF b.nm t1 t2)) ∧ SqT K H t1 (ps.map V.ref) ∧ RowsAt K H ps (b.vars.map varV) ∧ SqT K H t2 (qs.map V.ref) ∧ RowsAt K H qs (b.cs.map triV)
def RlAt (K : PySem.W.Frag) (B : Addr) (H : Hp) (a : Addr) (r : RlD) : Prop := ∃ d t1 t2 t3 ps qs, H a = some (.ins B d (rulF r.p.nm t1 t2 t3 r.bh)) ∧ SqT K H t1 (ps.map V.ref) ∧ RowsAt K H ps (r.p.vars.map varV) ∧ SqT K H t2 (qs.map V.ref) ∧ RowsAt K H qs (r.p.cs.map triV) ∧ SqT K H t3 (triV r.g)
theorem BrAt.same {K : PySem.W.Frag} {B : Addr} {H H' : Hp} {a : Addr} {b : PtD} (s : Same H H') (h : BrAt K B H a b) : BrAt K B H' a b := by
  obtain ⟨d, t1, t2, ps, qs, x, y, z, u, v⟩ := h
  exact ⟨d, t1, t2, ps, qs, s _ _ x, same_seqT s y, z.same s, same_seqT s u, v.same s⟩
theorem RlAt.same {K : PySem.W.Frag} {B : Addr} {H H' : Hp} {a : Addr} {r : RlD} (s : Same H H') (h : RlAt K B H a r) : RlAt K B H' a r := by
  obtain ⟨d, t1, t2, t3, ps, qs, x, y, z, u, v, w⟩ := h
  exact ⟨d, t1, t2, t3, ps, qs, s _ _ x, same_seqT s y, z.same s, same_seqT s u, v.same s, same_seqT s w⟩
theorem rows_imp {K : PySem.W.Frag} {H H' : Hp} (s : ∀ {q : Addr} {xs : List V}, SqT K H q xs → SqT K H' q xs) : ∀ {ps : List Addr} {rs : List (List V)}, RowsAt K H ps rs → RowsAt K H' ps rs
  | [], [], _ => True.intro
  | _ :: _, _ :: _, h => ⟨s h.1, rows_imp s h.2⟩
  | [], _ :: _, h => h.elim
  | _ :: _, [], h => h.elim
def NotSt (o : HO) : Prop := ∀ x y z : Int, o ≠ .lst [.int x, .int y, .int z]
def Kp (H H' : Hp) : Prop := ∀ a o, NotSt o → H a = some o → H' a = some o
theorem Kp.refl (H : Hp) : Kp H H := fun _ _ _ h => h
theorem Kp.trans {H H1 H2 : Hp} (a : Kp H H1) (b : Kp H1 H2) : Kp H H2 := fun c o n h => b c o n (a c o n h)
theorem Same.kp {H H' : Hp} (s : Same H H') : Kp H H' := fun a o _ h => s a o h
theorem But.kp {p : Addr} {H H' : Hp} (b : But p H H') (s : StOk H p) : Kp H H' := fun a o n h => by
  obtain ⟨x, y, z, e, _⟩ := s
  refine b a o (fun q => ?_) h
  rw [q, e] at h
  exact n x y z (Option.some.inj h).symm
theorem Kp.new {D : Addr} {H H' : Hp} {o : HO} (k : Kp H H') (h : H D = none) : Kp H (upd H' D o) := fun a u n e => by
  rw [upd_ne (ne_of_none e h)]
  exact k a u n e
theorem ns_tup {xs : List V} : NotSt (.tup xs) := fun _ _ _ z => by cases z
theorem ns_dK {xs : List (L2.Key × V)} : NotSt (.dK xs) := fun _ _ _ z => by cases z
theorem ns_ins {C d : Addr} {fs : List (Str × V)} : NotSt (.ins C d fs) := fun _ _ _ z => by cases z
theorem ns_strs {xs : List Str} : NotSt (.lst (xs.map V.str)) := fun _ _ _ z => by
  cases xs with
  | nil => cases z
  | cons a r =>
    have e := HO.lst.inj z
    rw [List.map_cons] at e
    cases (List.cons.inj e).1
theorem ns_refs {xs : List Addr} : NotSt (.lst (xs.map V.ref)) := fun _ _ _ z => by
  cases xs with
  | nil => cases z
  | cons a r =>
    have e := HO.lst.inj z
    rw [List.map_cons] at e
    cases (List.cons.inj e).1
theorem ns_nil : NotSt (.lst []) := fun _ _ _ z => by cases z
theorem ns_frz {ob : Obj} {u : HO} : NotSt (.frz ob u) := fun _ _ _ z => by cases z
theorem Kp.sqT {K : PySem.W.Frag} {H H' : Hp} {a : Addr} {xs : List V} (e : Kp H H') (h : SqT K H a xs) : SqT K H' a xs := by
  rcases h with (h | ⟨o, h⟩) | h
  · exact .inl (.inl (e _ _ ns_tup h))
  · exact .inl (.inr ⟨o, e _ _ ns_frz h⟩)
  · exact .inr h
theorem Kp.rows {K : PySem.W.Frag} {H H' : Hp} (e : Kp H H') {ps : List Addr} {rs : List (List V)} (h : RowsAt K H ps rs) : RowsAt K H' ps rs := rows_imp (fun q => e.sqT q) h
/-- a list is written: tuples stand -/
theorem sqT_put {K : PySem.W.Frag} {H : Hp} {l a : Addr} {ys : List V} {o : HO} {xs : List V} (hl : H l = some (.lst ys)) (h : SqT K H a xs) : SqT K (upd H l o) a xs := by
  rcases h with (h | ⟨ob, h⟩) | h
  · exact .inl (.inl (by rw [upd_ne (ne_of h hl (by intro z; cases z))]; exact h))
  · exact .inl (.inr ⟨ob, by rw [upd_ne (ne_of h hl (by intro z; cases z))]; exact h⟩)
  · exact .inr h
theorem rows_put {K : PySem.W.Frag} {H : Hp} {l : Addr} {ys : List V} {o : HO} (hl : H l = some (.lst ys)) {ps : List Addr} {rs : List (List V)} (h : RowsAt K H ps rs) : RowsAt K (upd H l o) ps rs := rows_imp (fun q => sqT_put hl q) h
theorem But.ne {p a : Addr} {H : Hp} {o : HO} (s : StOk H p) (h : H a = some o) (n : NotSt o) : a ≠ p := fun q => by
  obtain ⟨x, y, z, e, _⟩ := s
  rw [q, e] at h
  exact n x y z (Option.some.inj h).symm
theorem endsL_app (a b : List Tri) : endsL (a ++ b) = endsL a ++ endsL b := by
  unfold endsL
  rw [List.flatMap_append]
theorem low_let : ∀ c : Fin 123, 97 ≤ c.1 → c.1 ∈ LET := by decide +kernel
theorem fig_fig : ∀ c : Fin 58, 48 ≤ c.1 → c.1 ∈ FIG := by decide +kernel
theorem nm_is {z : Str} (h : NmP z) (hl : z.length ≤ 12) : isNm z = true := by
  obtain ⟨c, cs, e, l, r⟩ := h
  have ol : ∀ d, lowC d → d ∈ LET := fun d q => low_let ⟨d, Nat.lt_succ_of_le q.2⟩ q.1
  have of' : ∀ d, figC d → d ∈ FIG := fun d q => fig_fig ⟨d, Nat.lt_succ_of_le q.2⟩ q.1
  have hlen : z.length = (c :: cs).length := by
    rw [← e]
    exact (Array.length_toList).symm
  unfold isNm
  rw [e]
  have a1 : (c :: cs).all okc = true := by
    rw [List.all_eq_true]
    intro d hd
    unfold okc
    rcases List.mem_cons.mp hd with h | h
    · rw [h, decide_eq_true (ol c l)]
      rfl
    · rcases r d h with q | q
      · rw [decide_eq_true (ol d q)]
        rfl
      · rw [decide_eq_true (of' d q), Bool.or_true]
  have a2 : first (c :: cs) = true := by
    unfold first
    exact decide_eq_true (ol c l)
  rw [a1, a2, decide_eq_true hl]
  simp [hlen]

theorem same_make {H : Hp} {x dx C : Addr} (nx : H x = none) (ndx : H dx = none) : Same H (upd (upd H dx (.own x)) x (.ins C dx [])) := fun b o e => by
  rw [upd_ne (ne_of_none e nx), upd_ne (ne_of_none e ndx)]
  exact e
theorem dueM_all {C : Addr} {zs : List Str} {H0 : Hp} {ok : Hp → Prop} {E : XK} (h : ∀ z ∈ zs, isNm z = true) (k : ∀ H', Same H0 H' → ok H') : DueM C zs H0 ok E := by
  unfold DueM
  have e : zs.find? (fun z => !isNm z) = none := by
    rw [List.find?_eq_none]
    intro z hz
    rw [h z hz]
    decide
  rw [e]
  exact k
theorem rul_new {K : PySem.W.Frag} {C RB : Addr} {H : Hp} {l1 l2 g : Addr} {nm b : Str} {ps qs : List Addr} {vars : List Var} {cs : List Tri} {gt : Tri} {R : Addr → Hp → Prop} {E : XK} (h1 : SqL K H l1 (ps.map V.ref)) (r1 : RowsAt K H ps (vars.map varV)) (h2 : SqL K H l2 (qs.map V.ref)) (r2 : RowsAt K H qs (cs.map triV)) (hg : H g = some (.tup (triV gt)))
    (ok : PatOk vars cs [gt] [b]) (hn : ∀ z ∈ textsL nm vars (cs ++ [gt]), isNm z = true ∧ z.length ≤ 12) (k : ∀ x H', H x = none → Same H H' → RlAt K RB H' x ⟨⟨nm, vars, cs⟩, gt, b⟩ → R x H') :
    ∀ x dx, H x = none → H dx = none → dx ≠ x → spRul K C RB [.ref x, .str nm, .ref l1, .ref l2, .ref g, .str b] (upd (upd H dx (.own x)) x (.ins RB dx [])) (fun v H3 => v = .non ∧ R x H3) E := fun x dx hx hd ne => by
  refine ⟨H, x, dx, l1, l2, g, nm, b, ps, qs, vars, cs, gt, rfl, same_make hx hd, hx, upd_same, h1, r1, h2, r2, hg, ok, fun z hz => Nat.le_trans (hn z hz).2 (by decide), dueM_all (fun z hz => (hn z hz).1) fun H' S' t1 t2 a1 a2 a3 => ⟨rfl, ?_⟩⟩
  exact k x H' hx S' ⟨dx, t1, t2, g, ps, qs, a1, SqT.of a2, r1.same S', SqT.of a3, r2.same S', SqT.of (S' _ _ hg)⟩
theorem bar_new {K : PySem.W.Frag} {C BB : Addr} {H : Hp} {l1 l2 : Addr} {nm : Str} {ps qs : List Addr} {vars : List Var} {cs : List Tri} {R : Addr → Hp → Prop} {E : XK} (h1 : SqL K H l1 (ps.map V.ref)) (r1 : RowsAt K H ps (vars.map varV)) (h2 : SqL K H l2 (qs.map V.ref)) (r2 : RowsAt K H qs (cs.map triV))
    (ok : PatOk vars cs [] []) (hn : ∀ z ∈ textsL nm vars cs, isNm z = true ∧ z.length ≤ 12) (k : ∀ x H', H x = none → Same H H' → BrAt K BB H' x ⟨nm, vars, cs⟩ → R x H') :
    ∀ x dx, H x = none → H dx = none → dx ≠ x → spBar K C BB [.ref x, .str nm, .ref l1, .ref l2] (upd (upd H dx (.own x)) x (.ins BB dx [])) (fun v H3 => v = .non ∧ R x H3) E := fun x dx hx hd ne => by
  refine ⟨H, x, dx, l1, l2, nm, ps, qs, vars, cs, rfl, same_make hx hd, hx, upd_same, h1, r1, h2, r2, ok, fun z hz => Nat.le_trans (hn z hz).2 (by decide), dueM_all (fun z hz => (hn z hz).1) fun H' S' t1 t2 a1 a2 a3 => ⟨rfl, ?_⟩⟩
  exact k x H' hx S' ⟨dx, t1, t2, ps, qs, a1, SqT.of a2, r1.same S', SqT.of a3, r2.same S'⟩
theorem cut1 {a R : TS} {D : Ends} {σ : L2.St} {H : Hp} (Good : L2.St → Hp → Prop) (fin : ∀ σ' H', Good σ' H' → R D σ' H') (h : ∀ R' : TS, (∀ σ' H', Good σ' H' → R' D σ' H') → tSeq a R' D σ H) : tSeq a R D σ H := h R fin
end Wm
namespace Wm
open PySem L2 StX
theorem strOk_of {z : Str} (h : okS z) : PyData.strOk z = true := by
  unfold PyData.strOk
  rw [Array.all_eq_true_iff_forall_mem]
  intro c hc
  exact decide_eq_true (h c (by simpa using hc))
theorem eqv_self {d : PyData} (h : SeqAt.shaped d = true) : PyData.eqv d d = true := SeqAt.eqv_refl d (SeqAt.canLay_of_shaped h)
def VarOk (v : Var) : Prop := okS v.1 ∧ ∀ z, v.2 = some z → okS z
def TriOk (t : Tri) : Prop := okS t.1 ∧ okS t.2.1 ∧ okS t.2.2
theorem tups_sh : ∀ {rs : List (List PyData)}, (∀ r ∈ rs, PyData.canLayAll0 r = true ∧ PyData.depthAll r ≤ 1) → PyData.canLayAll0 (rs.map PyData.tuple) = true ∧ PyData.depthAll (rs.map PyData.tuple) ≤ 2
  | [], _ => by simp [PyData.canLayAll0, PyData.depthAll]
  | r :: rs, h => by
    obtain ⟨a, b⟩ := h r List.mem_cons_self
    obtain ⟨h2, h3⟩ := tups_sh (rs := rs) fun y hy => h y (List.mem_cons_of_mem _ hy)
    have e : (PyData.tuple r).canLay0 = true := by simp [PyData.canLay0, a]
    have d : (PyData.tuple r).depth ≤ 2 := by
      simp [PyData.depth]
      omega
    refine ⟨by simp only [List.map_cons, PyData.canLayAll0, e, h2, Bool.and_self], ?_⟩
    simp only [List.map_cons, PyData.depthAll]
    omega
theorem rows_sh {rs : List (List PyData)} (h : ∀ r ∈ rs, PyData.canLayAll0 r = true ∧ PyData.depthAll r ≤ 1) : SeqAt.shaped (rowsD rs) = true := by
  obtain ⟨a, b⟩ := tups_sh h
  unfold rowsD
  generalize rs.map PyData.tuple = X at a b
  simp [SeqAt.shaped, PyData.canLay0, PyData.depth, a]
  omega
theorem var_sh {v : Var} (h : VarOk v) : PyData.canLayAll0 (varD v) = true ∧ PyData.depthAll (varD v) ≤ 1 := by
  obtain ⟨n, s⟩ := v
  have a := strOk_of h.1
  cases s with
  | none => simp [varD, sortD, PyData.canLay0, PyData.canLayAll0, PyData.depth, PyData.depthAll, a]
  | some s =>
    have b := strOk_of (h.2 s rfl)
    simp [varD, sortD, PyData.canLay0, PyData.canLayAll0, PyData.depth, PyData.depthAll, a, b]
theorem tri_sh {t : Tri} (h : TriOk t) : PyData.canLayAll0 (triD t) = true ∧ PyData.depthAll (triD t) ≤ 1 := by
  have a := strOk_of h.1
  have b := strOk_of h.2.1
  have c := strOk_of h.2.2
  simp [triD, PyData.canLay0, PyData.canLayAll0, PyData.depth, PyData.depthAll, a, b, c]
theorem vars_sh {vs : List Var} (h : ∀ v ∈ vs, VarOk v) : SeqAt.shaped (rowsD (vs.map varD)) = true := rows_sh fun r hr => by
  obtain ⟨v, hv, rfl⟩ := List.mem_map.mp hr
  exact var_sh (h v hv)
theorem tris_sh {vs : List Tri} (h : ∀ v ∈ vs, TriOk v) : SeqAt.shaped (rowsD (vs.map triD)) = true := rows_sh fun r hr => by
  obtain ⟨v, hv, rfl⟩ := List.mem_map.mp hr
  exact tri_sh (h v hv)
theorem tri1_sh {t : Tri} (h : TriOk t) : SeqAt.shaped (.tuple (triD t)) = true := by
  obtain ⟨a, b⟩ := tri_sh h
  generalize triD t = X at a b
  simp [SeqAt.shaped, PyData.canLay0, PyData.depth, a]
  omega
theorem noTw_of {zs : List Str} (h : zs.Nodup) : NoTw (zs.map V.str) := fun i x e => by
  rw [List.getElem?_map] at e
  obtain ⟨z, ez, rfl⟩ := Option.map_eq_some_iff.mp e
  rw [← List.map_take, inV_strs]
  refine decide_eq_false fun hm => ?_
  obtain ⟨j, hj⟩ := List.mem_iff_getElem?.mp hm
  have hlt : j < i := by
    have q := (List.getElem?_eq_some_iff.mp hj).1
    rw [List.length_take] at q
    omega
  rw [List.getElem?_take_of_lt hlt] at hj
  have hil := (List.getElem?_eq_some_iff.mp ez).1
  have hjl := (List.getElem?_eq_some_iff.mp hj).1
  exact (List.pairwise_iff_getElem.mp h) j i hjl hil hlt ((List.getElem?_eq_some_iff.mp hj).2.trans (List.getElem?_eq_some_iff.mp ez).2.symm)
/-! ### the parts of a pattern, as the law draws and changes them -/
def NmOk (z : Str) : Prop := isNm z = true ∧ z.length ≤ 12 ∧ okS z
theorem nmok {z : Str} (h : NmP z) (s : Sh z) : NmOk z := ⟨nm_is h (Nat.le_trans s.1 (by decide)), Nat.le_trans s.1 (by decide), h.ok⟩
abbrev LORD : Str := PySem.Str.ofString "lord"
abbrev BOX : Str := PySem.Str.ofString "box"
abbrev OWN : Str := PySem.Str.ofString "own"
abbrev KNOW : Str := PySem.Str.ofString "know"
abbrev USE : Str := PySem.Str.ofString "use"
instance (z : Str) : Decidable (okS z) := inferInstanceAs (Decidable (∀ c ∈ z.cps.toList, c < 1114112))
instance (z : Str) : Decidable (NmOk z) := inferInstanceAs (Decidable (_ ∧ _))
theorem ok_lord : NmOk LORD := by decide +kernel
theorem ok_box : NmOk BOX := by decide +kernel
theorem ok_own : NmOk OWN := by decide +kernel
theorem ok_know : NmOk KNOW := by decide +kernel
theorem ok_use : NmOk USE := by decide +kernel
theorem ok_oth : NmOk OTH := by decide +kernel
theorem sort_at {d : Int} (h0 : 0 ≤ d) (h3 : d < 3) : ∃ o : Option Str, ([V.non, .str LORD, .str BOX] : List V)[d.toNat]? = some (sortV o) ∧ ∀ z, o = some z → NmOk z := by
  rcases (by omega : d = 0 ∨ d = 1 ∨ d = 2) with rfl | rfl | rfl
  · exact ⟨none, rfl, fun z e => by cases e⟩
  · exact ⟨some LORD, rfl, fun z e => by cases e; exact ok_lord⟩
  · exact ⟨some BOX, rfl, fun z e => by cases e; exact ok_box⟩
theorem word_at {d : Int} (h0 : 0 ≤ d) (h2 : d < 2) : ∃ z : Str, ([V.str OWN, .str KNOW] : List V)[d.toNat]? = some (.str z) ∧ NmOk z := by
  rcases (by omega : d = 0 ∨ d = 1) with rfl | rfl
  · exact ⟨OWN, rfl, ok_own⟩
  · exact ⟨KNOW, rfl, ok_know⟩
structure Good (r : RlD) : Prop where
  pt : PatOk r.p.vars r.p.cs [r.g] [r.bh]
  nm : NmOk r.p.nm
  vn : ∀ v ∈ r.p.vars, NmOk v.1 ∧ ∀ z, v.2 = some z → NmOk z
  tn : ∀ t ∈ r.p.cs ++ [r.g], NmOk t.2.1
structure Chain (ns : List Str) (cs : List Tri) : Prop where
  len : cs.length = max 1 (ns.length - 1)
  at_ : ∀ (k : Nat) (t : Tri), cs[k]? = some t → ∃ a b, ns[k]? = some a ∧ ns[(k + 1) % ns.length]? = some b ∧ ((t.1 = a ∧ t.2.2 = b) ∨ (t.1 = b ∧ t.2.2 = a))
theorem ends_mem {cs : List Tri} {t : Tri} (h : t ∈ cs) : t.1 ∈ endsL cs ∧ t.2.2 ∈ endsL cs := by
  unfold endsL
  exact ⟨List.mem_flatMap.mpr ⟨t, h, by simp⟩, List.mem_flatMap.mpr ⟨t, h, by simp⟩⟩
theorem mem_ends {cs : List Tri} {z : Str} (h : z ∈ endsL cs) : ∃ t ∈ cs, z = t.1 ∨ z = t.2.2 := by
  unfold endsL at h
  obtain ⟨t, ht, hz⟩ := List.mem_flatMap.mp h
  exact ⟨t, ht, by simpa using hz⟩
theorem Chain.ends {ns : List Str} {cs : List Tri} (c : Chain ns cs) {z : Str} (h : z ∈ endsL cs) : z ∈ ns := by
  obtain ⟨t, ht, hz⟩ := mem_ends h
  obtain ⟨k, hk⟩ := List.mem_iff_getElem?.mp ht
  obtain ⟨a, b, ha, hb, e⟩ := c.at_ k t hk
  have ma := List.mem_of_getElem? ha
  have mb := List.mem_of_getElem? hb
  rcases e with ⟨e1, e2⟩ | ⟨e1, e2⟩ <;> rcases hz with q | q <;> rw [q] <;> first | rw [e1]; assumption | rw [e2]; assumption
theorem Chain.has {ns : List Str} {cs : List Tri} (c : Chain ns cs) {k : Nat} {t : Tri} (hk : cs[k]? = some t) {z : Str} (h : ns[k]? = some z ∨ ns[(k + 1) % ns.length]? = some z) : t.1 = z ∨ t.2.2 = z := by
  obtain ⟨a, b, ha, hb, e⟩ := c.at_ k t hk
  rcases h with h | h
  · rw [ha] at h
    cases h
    rcases e with e | e
    · exact .inl e.1
    · exact .inr e.2
  · rw [hb] at h
    cases h
    rcases e with e | e
    · exact .inr e.2
    · exact .inl e.1
theorem chain_pat {vars : List Var} {cs : List Tri} {g : Tri} {b : Str} (nd : (vars.map (·.1)).Nodup) (v1 : 1 ≤ vars.length) (v3 : vars.length ≤ 3) (c : Chain (vars.map (·.1)) cs) (g1 : g.1 ∈ vars.map (·.1)) (g2 : g.2.2 ∈ vars.map (·.1)) (hb : b ∈ vars.map (·.1)) : PatOk vars cs [g] [b] := by
  have cl := c.len
  rw [List.length_map] at cl
  refine ⟨v1, by omega, by omega, by omega, by show 1 ≤ 1; decide, by show 1 ≤ 1; decide, noTw_of nd, fun z hz => ?_, fun z hz => ?_, fun i t hi ht => ?_⟩
  · rcases List.mem_append.mp hz with hz | hz
    · rw [endsL_app] at hz
      rcases List.mem_append.mp hz with hz | hz
      · exact c.ends hz
      · obtain ⟨t, ht, e⟩ := mem_ends hz
        rw [List.mem_singleton.mp ht] at e
        rcases e with e | e <;> rw [e] <;> assumption
    · rw [List.mem_singleton.mp hz]
      exact hb
  · obtain ⟨j, hj⟩ := List.mem_iff_getElem?.mp hz
    have jl : j < vars.length := by
      have q := (List.getElem?_eq_some_iff.mp hj).1
      rw [List.length_map] at q
      exact q
    by_cases jc : j < cs.length
    · have q := c.has (List.getElem?_eq_getElem jc) (.inl hj)
      have m := ends_mem (List.getElem_mem jc)
      rcases q with q | q
      · rw [← q]; exact m.1
      · rw [← q]; exact m.2
    · have j1 : j - 1 < cs.length := by omega
      have q := c.has (List.getElem?_eq_getElem j1) (z := z) (.inr (by
        rw [List.length_map, Nat.mod_eq_of_lt (by omega), show j - 1 + 1 = j by omega]
        exact hj))
      have m := ends_mem (List.getElem_mem j1)
      rcases q with q | q
      · rw [← q]; exact m.1
      · rw [← q]; exact m.2
  · have il : i < cs.length := (List.getElem?_eq_some_iff.mp ht).1
    have j1 : i - 1 < cs.length := by omega
    obtain ⟨a, b', ha, hb', e⟩ := c.at_ i t ht
    have q := c.has (List.getElem?_eq_getElem j1) (z := a) (.inr (by
      rw [List.length_map, Nat.mod_eq_of_lt (by omega), show i - 1 + 1 = i by omega]
      exact ha))
    have m : cs[i - 1] ∈ cs.take i := by
      rw [List.mem_iff_getElem?]
      exact ⟨i - 1, by rw [List.getElem?_take_of_lt (by omega)]; exact List.getElem?_eq_getElem j1⟩
    have m2 := ends_mem m
    have am : a ∈ endsL (cs.take i) := by
      rcases q with q | q
      · rw [← q]; exact m2.1
      · rw [← q]; exact m2.2
    rcases e with e | e
    · exact .inl (by rw [e.1]; exact am)
    · exact .inr (by rw [e.2]; exact am)
/-- what is drawn -/
structure Drwn (r : RlD) : Prop where
  gd : Good r
  v3 : r.p.vars.length ≤ 3
  nd : (r.p.vars.map (·.1)).Nodup
  no : ∀ v ∈ r.p.vars, v.1 ≠ OTH
  c2 : r.p.cs.length ≤ 2
def PtsAt (K : PySem.W.Frag) (H : Hp) (l : Addr) (r : RlD) : Prop := ∃ lv lc g us qs, H l = some (.lst [.str r.p.nm, .ref lv, .ref lc, .ref g, .str r.bh]) ∧ H lv = some (.lst (us.map V.ref)) ∧ RowsAt K H us (r.p.vars.map varV) ∧ H lc = some (.lst (qs.map V.ref)) ∧ RowsAt K H qs (r.p.cs.map triV) ∧ H g = some (.tup (triV r.g))
theorem ns_pts {a b : Str} {x y z : Addr} : NotSt (.lst [.str a, .ref x, .ref y, .ref z, .str b]) := fun _ _ _ q => by
  have e := HO.lst.inj q
  cases (List.cons.inj e).1
theorem PtsAt.kp {K : PySem.W.Frag} {H H' : Hp} {l : Addr} {r : RlD} (k : Kp H H') (h : PtsAt K H l r) : PtsAt K H' l r := by
  obtain ⟨lv, lc, g, us, qs, h1, h2, h3, h4, h5, h6⟩ := h
  exact ⟨lv, lc, g, us, qs, k _ _ ns_pts h1, k _ _ ns_refs h2, k.rows h3, k _ _ ns_refs h4, k.rows h5, k _ _ ns_tup h6⟩
/-- names[digit(s, len(names))] -/
theorem rd_pick {K : PySem.W.Frag} {i j : Nat} {σ : L2.St} {H : Hp} {Q : VK} {ln p : Addr} {zs : List Str} (hi : σ[i]? = some (some (.ref ln))) (hj : σ[j]? = some (some (.ref p))) (hl : H ln = some (.lst (zs.map V.str))) (S : StOk H p) (l1 : 1 ≤ zs.length) (l2 : zs.length ≤ 1000)
    (k : ∀ z H', z ∈ zs → But p H H' → StOk H' p → Q (.str z) H') : tOp (rIxL K) (tVar i) (tCall spDigit [] E0 (tCons (tVar j) (tCons (tCB (rLenL K) (tCons (tVar i) tNil)) tNil))) σ H Q := by
  have n : ln ≠ p := But.ne S hl ns_strs
  refine ⟨_, hi, _, hj, _, hi, ln, _, rfl, .inl (SqL.of hl), p, _, rfl, S, ?_, ?_, fun d H' a b B' S' => ?_⟩
  · rw [List.length_map]
    omega
  · rw [List.length_map]
    omega
  rw [List.length_map] at b
  have hlt : d.toNat < zs.length := by omega
  exact rdList (B' _ _ n hl) (j := d.toNat) (v := .str zs[d.toNat]) (by omega) (by rw [List.getElem?_map, List.getElem?_eq_getElem hlt]; rfl) (k _ H' (List.getElem_mem hlt) B' S')
/-- ['own', 'know'][digit(s, 2)] -/
theorem rd_word {K : PySem.W.Frag} {j : Nat} {σ : L2.St} {H : Hp} {Q : VK} {p : Addr} (hj : σ[j]? = some (some (.ref p))) (S : StOk H p)
    (k : ∀ z H', NmOk z → But p H H' → StOk H' p → Q (.str z) H') : tOp (rIxL K) (tLst (tCons (tC (.str OWN)) (tCons (tC (.str KNOW)) tNil))) (tCall spDigit [] E0 (tCons (tVar j) (tCons (tC (.int 2)) tNil))) σ H Q := by
  refine ⟨by show 2 ≤ sizeLine; decide, fun l hl => ?_⟩
  have nlp : l ≠ p := st_free S hl
  refine ⟨_, hj, p, 2, rfl, S.upd nlp, by decide, by decide, fun d H' a b B' S' => ?_⟩
  obtain ⟨z, hz, ok⟩ := word_at a b
  exact rdList (B' l _ nlp upd_same) (j := d.toNat) (by omega) hz (k z H' ok (fun q o n e => B' q o n (by rw [upd_ne (ne_of_none e hl)]; exact e)) S')
def spPar (K : PySem.W.Frag) : Sp := fun vs H Q _ => ∃ p : Addr, vs = [.ref p] ∧ StOk H p ∧ ∀ l H' r, But p H H' → StOk H' p → PtsAt K H' l r → Drwn r → Q (.ref l) H'
section
variable {P : Program} {w : World} {K : PySem.W.Frag} {mg : Str → Option Value} {base : Heap}
theorem scPar : FnScope ["_law_s", "_law_names_here", "_law_one", "_law_variables", "_law_conditions", "_law_k", "_law_pair", "_law_turned", "_law_gives"] ["_law_s"] (defScope sPar) := ⟨rfl, rfl, rfl, by decide +kernel, rfl, by decide +kernel, by decide +kernel⟩
theorem ok_par {f fG fN fM : Addr} {fd dG dN dM : FuncData} (F : Fun K "_law_parts" "_law_parts" sPar f fd) (T : TxB mg) (hmax : mg "max" = none) (DG : Dn K mg "_law_digit" sDigit ["_law_state_here", "_law_base"] fG dG) (DN : Dn K mg "_law_names" sNms ["_law_s", "_law_many"] fN dN) (GN : FnOk P w K mg base CX0 3 fN dN ["_law_s", "_law_many"] spNms)
    (DNm : Dn K mg "_law_name" sNam ["_law_s", "_law_taken"] fM dM) (GNm : FnOk P w K mg base CX0 2 fM dM ["_law_s", "_law_taken"] spNam) :
    FnOk P w K mg base CX0 4 f fd ["_law_s"] (spPar K) := by
  have GG : FnOk P w K mg base CX0 1 fG dG _ spDigit := ok_digit DG.F
  refine F.ok scPar (fun vs H Q E h => ?_) (fun cdv A outer s H vs Q E hr h => ?_)
  · obtain ⟨p, rfl, _⟩ := h
    rfl
  · obtain ⟨p, rfl, hS, k⟩ := h
    have hr1 : Room 1 _ := hr.mono (by decide)
    have hr2 : Room 2 _ := hr.mono (by decide)
    have hr3 : Room 3 _ := hr
    refine ⟨_, (pss_cons (ps_set (i := 1) scPar.nd rfl (Or.inl rfl) (pe_call GN hr3 rfl DN.g DN.F.kp DN.b .nil pass0 (pa_cons (pv 0) (pa_cons (pe_op op_add pe_int (pe_call GG hr1 rfl DG.g DG.F.kp DG.b .nil pass0 (pa_cons (pv 0) (pa_cons pe_int pa_nil)))) pa_nil))))
      (pss_cons (ps_setLc (i := 3) (own := [("_law_one", 2)]) (g := gName 2) (tt := tYes) (te := (tTup (tCons (tVar 2) (tCons (tOp (rIxL K) (tLst (tCons (tC .non) (tCons (tC (.str (PySem.Str.ofString "lord"))) (tCons (tC (.str (PySem.Str.ofString "box"))) tNil)))) (tCall spDigit [] E0 (tCons (tVar 0) (tCons (tC (.int 3)) tNil)))) tNil)))) rfl scPar.nd rfl rfl (sw_true rfl rfl rfl (by decide +kernel)) (pi_list (pv 1)) (blkOk_by (N := ["_law_s", "_law_names_here", "_law_one", "_law_variables", "_law_conditions", "_law_k", "_law_pair", "_law_turned", "_law_gives"]) (sc := defScope sPar) (by decide +kernel)) (fun _ _ _ _ _ => (pg_name (i := 2) scPar.nd rfl (Or.inl rfl))) (fun _ _ _ _ _ => pts_nil) (fun _ _ _ _ _ => (pe_tup (pa_cons (pv 2) (pa_cons (pe_ix ix_list (pe_lst (pa_cons pe_non (pa_cons pe_str (pa_cons pe_str pa_nil)))) (pe_call GG hr1 rfl DG.g DG.F.kp DG.b .nil pass0 (pa_cons (pv 0) (pa_cons pe_int pa_nil))) (fun _ _ => rfl)) pa_nil)))))
      (pss_cons (ps_set (i := 4) scPar.nd rfl (Or.inl rfl) (pe_lst pa_nil))
      (pss_cons (ps_for PassesOwn.never rfl (pi_range1 rfl T.range (pa_cons (pe_callB (call_max2 rfl) (by rfl) hmax (by decide +kernel) (pa_cons pe_int (pa_cons (pe_op op_sub (pe_callB call_len_seq (by rfl) T.len (by decide +kernel) (pa_cons (pv 1) pa_nil)) pe_int) pa_nil))) pa_nil)) (pg_name (i := 5) scPar.nd rfl (Or.inl rfl)) (pss_cons (ps_set (i := 6) scPar.nd rfl (Or.inl rfl) (pe_lst (pa_cons (pe_ix ix_list (pv 1) (pv 5) (fun _ _ => rfl)) (pa_cons (pe_ix ix_list (pv 1) (pe_op op_mod (pe_op op_add (pv 5) pe_int) (pe_callB call_len_seq (by rfl) T.len (by decide +kernel) (pa_cons (pv 1) pa_nil))) (fun _ _ => rfl)) pa_nil))))
      (pss_cons (ps_set (i := 7) scPar.nd rfl (Or.inl rfl) (pe_call GG hr1 rfl DG.g DG.F.kp DG.b .nil pass0 (pa_cons (pv 0) (pa_cons pe_int pa_nil))))
      (pss_one (ps_expr (pe_bm PySem.F.plainAttrs_list PySem.F.slot_list_append PySem.F.type_list_append mt_append (pv 4) (pa_cons (pe_tup (pa_cons (pe_ix ix_list (pv 6) (pv 7) (fun _ _ => rfl)) (pa_cons (pe_ix ix_list (pe_lst (pa_cons pe_str (pa_cons pe_str pa_nil))) (pe_call GG hr1 rfl DG.g DG.F.kp DG.b .nil pass0 (pa_cons (pv 0) (pa_cons pe_int pa_nil))) (fun _ _ => rfl)) (pa_cons (pe_ix ix_list (pv 6) (pe_op op_sub pe_int (pv 7)) (fun _ _ => rfl)) pa_nil)))) pa_nil)))))))
      (pss_cons (ps_set (i := 2) scPar.nd rfl (Or.inl rfl) (pe_ix ix_list (pv 1) (pe_call GG hr1 rfl DG.g DG.F.kp DG.b .nil pass0 (pa_cons (pv 0) (pa_cons (pe_callB call_len_seq (by rfl) T.len (by decide +kernel) (pa_cons (pv 1) pa_nil)) pa_nil))) (fun _ _ => rfl)))
      (pss_cons (ps_set (i := 8) scPar.nd rfl (Or.inl rfl) (pe_tup (pa_cons (pv 2) (pa_cons (pe_ix ix_list (pe_lst (pa_cons pe_str (pa_cons pe_str pa_nil))) (pe_call GG hr1 rfl DG.g DG.F.kp DG.b .nil pass0 (pa_cons (pv 0) (pa_cons pe_int pa_nil))) (fun _ _ => rfl)) (pa_cons (pe_ix ix_list (pv 1) (pe_call GG hr1 rfl DG.g DG.F.kp DG.b .nil pass0 (pa_cons (pv 0) (pa_cons (pe_callB call_len_seq (by rfl) T.len (by decide +kernel) (pa_cons (pv 1) pa_nil)) pa_nil))) (fun _ _ => rfl)) pa_nil)))))
      (pss_one (ps_ret (pe_lst (pa_cons (pe_call GNm hr2 rfl DNm.g DNm.F.kp DNm.b .nil pass0 (pa_cons (pv 0) (pa_cons (pe_lst pa_nil) pa_nil))) (pa_cons (pv 3) (pa_cons (pv 4) (pa_cons (pv 8) (pa_cons (pe_ix ix_list (pv 1) (pe_call GG hr1 rfl DG.g DG.F.kp DG.b .nil pass0 (pa_cons (pv 0) (pa_cons (pe_callB call_len_seq (by rfl) T.len (by decide +kernel) (pa_cons (pv 1) pa_nil)) pa_nil))) (fun _ _ => rfl)) pa_nil)))))))))))))), ?_⟩
    refine ⟨_, rfl, _, rfl, p, 3, rfl, hS, by decide, by decide, fun d1 H1 a1 b1 B1 S1 => ⟨_, _, rfl, rfl, p, 1 + d1, rfl, S1, by omega, by omega, fun zs ln H2 n1 n1p B2 S2 h2 zl znd znm => ?_⟩⟩
    dsimp only [gName, List.set_cons_succ, List.set_cons_zero]
    have B02 := B1.trans B2
    have zl3 : zs.length ≤ 3 := by omega
    have zl1 : 1 ≤ zs.length := by omega
    refine ⟨_, rfl, ln, rfl, ⟨_, SqL.of h2⟩, fun D hD => ?_⟩
    have nDp : D ≠ p := st_free S2 hD
    have nlD : ln ≠ D := ne_of_none h2 hD
    refine lc_list (K := K) (a := ln) (xs := zs.map V.str) (fun i H' => (∀ q o, q ≠ p → q ≠ D → H2 q = some o → H' q = some o) ∧ StOk H' p ∧ ∃ (us : List Addr) (vars : List Var), H' D = some (.lst (us.map V.ref)) ∧ RowsAt K H' us (vars.map varV) ∧ vars.map (·.1) = zs.take i ∧ ∀ v ∈ vars, ∀ z, v.2 = some z → NmOk z) ⟨fun q o n1 n2 e => by rw [upd_ne n2]; exact e, S2.upd nDp, [], [], upd_same, True.intro, rfl, fun v hv => (List.not_mem_nil hv).elim⟩ (fun i H' _ h => SqL.of (h.1 _ _ n1p nlD h2)) ?_ ?_
    · rintro i x H3 hx ⟨O3, S3, us, vars, hD3, rows, en, vk⟩
      obtain ⟨z, hz, rfl⟩ := map_str_get hx
      have nDp' : D ≠ p := nDp
      refine ⟨rfl, _, rfl, by show 3 ≤ sizeLine; decide, fun l hl => ?_⟩
      have nlp : l ≠ p := st_free S3 hl
      refine ⟨_, rfl, p, 3, rfl, S3.upd nlp, by decide, by decide, fun d H4 d0 d3 B4 S4 => ?_⟩
      obtain ⟨o, ho, hok⟩ := sort_at d0 d3
      have hl4 := B4 l _ nlp upd_same
      refine rdList hl4 (j := d.toNat) (by omega) ho ⟨by show 2 ≤ sizeLine; decide, fun t ht => ?_⟩
      have nDl : D ≠ l := ne_of_none hD3 hl
      have O4 : ∀ q o, q ≠ p → H3 q = some o → H4 q = some o := fun q o n e => B4 q o n (by rw [upd_ne (ne_of_none e hl)]; exact e)
      have T5 : Same H4 (upd H4 t (.tup [.str z, sortV o])) := Same.upd ht
      have e5 : (upd H4 t (.tup [.str z, sortV o])) t = some (.tup (varV (z, o))) := upd_same
      generalize upd H4 t (.tup [.str z, sortV o]) = H5 at T5 e5
      have hD5 := T5 _ _ (O4 _ _ nDp hD3)
      have rl := rows.len
      have il : vars.length = i := by
        have q := congrArg List.length en
        rw [List.length_map, List.length_take] at q
        have q2 := (List.getElem?_eq_some_iff.mp hz).1
        omega
      rw [List.length_map] at rl
      refine ⟨_, hD5, ?_, fun q o n1 n2 e => ?_, (S4.same T5).upd nDp, us ++ [t], vars ++ [(z, o)], ?_, ?_, ?_, ?_⟩
      · rw [List.length_map]
        have q2 := (List.getElem?_eq_some_iff.mp hz).1
        exact Nat.lt_of_le_of_lt (show _ ≤ 1000 by omega) (by decide)
      · rw [upd_ne n2]
        exact T5 _ _ (O4 _ _ n1 (O3 _ _ n1 n2 e))
      · rw [upd_same, List.map_append]
        rfl
      · rw [List.map_append]
        have k5 : Kp H3 H5 := fun q o n e => T5 _ _ (B4.kp (S3.upd nlp) q o n (by rw [upd_ne (ne_of_none e hl)]; exact e))
        exact RowsAt.append (rows_put hD5 (k5.rows rows)) ⟨sqT_put hD5 (SqT.of e5), True.intro⟩
      · rw [List.map_append, en, List.take_add_one, hz]
        rfl
      · intro v hv z' ez
        rcases List.mem_append.mp hv with q | q
        · exact vk v q z' ez
        · rw [List.mem_singleton.mp q] at ez
          exact hok z' ez
    rintro H3 ⟨O3, S3, us, vars, hD3, rows, en, vk⟩
    rw [List.length_map, List.take_length] at en
    have B3 : But p H H3 := fun q o n e => O3 q o n (ne_of_none (B02 q o n e) hD) (B02 q o n e)
    have h3 := O3 _ _ n1p nlD h2
    have vl : vars.length = zs.length := by rw [← en, List.length_map]
    dsimp only [gName, List.set_cons_succ, List.set_cons_zero]
    refine ⟨Nat.zero_le _, fun C hC => ?_⟩
    dsimp only [gName, List.set_cons_succ, List.set_cons_zero]
    have nCp : C ≠ p := st_free S3 hC
    have T4 : Same H3 (upd H3 C (.lst [])) := Same.upd hC
    have e4 : (upd H3 C (.lst [])) C = some (.lst []) := upd_same
    have S4 := S3.same T4
    have h4 := T4 _ _ h3
    have nlC : ln ≠ C := ne_of_none h3 hC
    have nDC : D ≠ C := ne_of_none hD3 hC
    have cf : H3 C = none := hC
    generalize upd H3 C (.lst []) = H4 at T4 e4 S4 h4
    refine ⟨_, rfl, ln, _, rfl, .inl (SqL.of h4), _, _, rfl, rfl, _, _, rfl, _, rfl, ?_, ?_, ?_⟩
    · split <;> (try rw [List.length_map]) <;> omega
    · split <;> (try rw [List.length_map]) <;> omega
    have em : (if ((zs.map V.str).length : Int) - 1 > 1 then ((zs.map V.str).length : Int) - 1 else 1).toNat = max 1 (zs.length - 1) := by
      rw [List.length_map]
      split <;> omega
    refine for_range (n := _) (fun i σ H' => ∃ (u2 u5 u6 u7 u8 : Option V) (qs : List Addr) (cs : List Tri), σ = [some (.ref p), some (.ref ln), u2, some (.ref D), some (.ref C), u5, u6, u7, u8] ∧ (∀ q o, q ≠ p → q ≠ C → H4 q = some o → H' q = some o) ∧ StOk H' p ∧ H' C = some (.lst (qs.map V.ref)) ∧ RowsAt K H' qs (cs.map triV) ∧ cs.length = i ∧
      ∀ (k : Nat) (t : Tri), cs[k]? = some t → NmOk t.2.1 ∧ ∃ a b, zs[k]? = some a ∧ zs[(k + 1) % zs.length]? = some b ∧ ((t.1 = a ∧ t.2.2 = b) ∨ (t.1 = b ∧ t.2.2 = a))) ⟨_, _, _, _, _, [], [], rfl, fun q o _ _ e => e, S4, e4, True.intro, rfl, fun k t e => by simp at e⟩ ?_ ?_
    · rintro i σ H5 hi ⟨u2, u5, u6, u7, u8, qs, cs, rfl, O5, S5, hC5, rows5, cl, ch⟩
      rw [em] at hi
      have h5 := O5 _ _ n1p nlC h4
      dsimp only [gName, List.set_cons_succ, List.set_cons_zero]
      have hi' : i < zs.length := by omega
      have hj' : (i + 1) % zs.length < zs.length := Nat.mod_lt _ (by omega)
      obtain ⟨a, ha⟩ : ∃ a, zs[i]? = some a := ⟨_, List.getElem?_eq_getElem hi'⟩
      obtain ⟨b, hb⟩ : ∃ b, zs[(i + 1) % zs.length]? = some b := ⟨_, List.getElem?_eq_getElem hj'⟩
      have ha' : (zs.map V.str)[i]? = some (.str a) := by rw [List.getElem?_map, ha]; rfl
      have hb' : (zs.map V.str)[(i + 1) % zs.length]? = some (.str b) := by rw [List.getElem?_map, hb]; rfl
      refine ⟨_, rfl, _, rfl, rdList h5 (j := i) (by omega) ha' ⟨_, rfl, _, rfl, _, _, rfl, rfl, _, rfl, ln, _, rfl, .inl (SqL.of h5), _, _, rfl, rfl, ?_, rdList h5 (j := (i + 1) % zs.length) ?_ hb' ⟨by show 2 ≤ sizeLine; decide, fun pr hpr => ?_⟩⟩⟩
      · show (0 : Int) < (((zs.map V.str).length : Nat) : Int)
        rw [List.length_map]
        omega
      · show (0 + (i : Int) + 1) % (((zs.map V.str).length : Nat) : Int) = _
        rw [List.length_map, show (0 + (i : Int) + 1) = ((i + 1 : Nat) : Int) by omega]
        rfl
      dsimp only [gName, List.set_cons_succ, List.set_cons_zero]
      have npp : pr ≠ p := st_free S5 hpr
      have T6 : Same H5 (upd H5 pr (.lst [.str a, .str b])) := Same.upd hpr
      have e6 : (upd H5 pr (.lst [.str a, .str b])) pr = some (.lst [.str a, .str b]) := upd_same
      have S6 := S5.same T6
      have nCpr : C ≠ pr := ne_of_none hC5 hpr
      generalize upd H5 pr (.lst [.str a, .str b]) = H6 at T6 e6 S6
      refine ⟨_, rfl, p, 2, rfl, S6, by decide, by decide, fun d7 H7 a7 b7 B7 S7 => ?_⟩
      dsimp only [gName, List.set_cons_succ, List.set_cons_zero]
      have hC7 := B7 _ _ nCp (T6 _ _ hC5)
      have e7 := B7 _ _ npp e6
      obtain ⟨x, y, hx, hy, hxy⟩ : ∃ x y, ([V.str a, .str b] : List V)[d7.toNat]? = some (.str x) ∧ ([V.str a, .str b] : List V)[(1 - d7).toNat]? = some (.str y) ∧ ((x = a ∧ y = b) ∨ (x = b ∧ y = a)) := by
        rcases (by omega : d7 = 0 ∨ d7 = 1) with rfl | rfl
        · exact ⟨a, b, rfl, rfl, .inl ⟨rfl, rfl⟩⟩
        · exact ⟨b, a, rfl, rfl, .inr ⟨rfl, rfl⟩⟩
      refine ⟨_, rfl, .inl ⟨rfl, _, SqL.of hC7⟩, _, rfl, _, rfl, rdList e7 (j := d7.toNat) (by omega) hx ⟨by show 2 ≤ sizeLine; decide, fun l hl => ?_⟩⟩
      have nlp : l ≠ p := st_free S7 hl
      refine ⟨_, rfl, p, 2, rfl, S7.upd nlp, by decide, by decide, fun d8 H8 a8 b8 B8 S8 => ?_⟩
      obtain ⟨w', hw, wok⟩ := word_at a8 b8
      have O8 : ∀ q o, q ≠ p → H7 q = some o → H8 q = some o := fun q o n e => B8 q o n (by rw [upd_ne (ne_of_none e hl)]; exact e)
      refine rdList (B8 l _ nlp upd_same) (j := d8.toNat) (by omega) hw ⟨_, rfl, _, rfl, _, _, rfl, rfl, rdList (O8 _ _ npp e7) (j := (1 - d7).toNat) (by omega) hy ⟨by show 3 ≤ sizeLine; decide, fun t ht => ?_⟩⟩
      have T9 : Same H8 (upd H8 t (.tup [.str x, .str w', .str y])) := Same.upd ht
      have e9 : (upd H8 t (.tup [.str x, .str w', .str y])) t = some (.tup (triV (x, w', y))) := upd_same
      generalize upd H8 t (.tup [.str x, .str w', .str y]) = H9 at T9 e9
      have O9 : ∀ q o, q ≠ p → H5 q = some o → H9 q = some o := fun q o n e => T9 _ _ (O8 _ _ n (B7 _ _ n (T6 _ _ e)))
      have k9 : Kp H5 H9 := fun q o n e => T9 _ _ (B8.kp (S7.upd nlp) q o n (by
        have e' := B7.kp S6 q o n (T6 _ _ e)
        rw [upd_ne (ne_of_none e' hl)]
        exact e'))
      have hC9 := O9 _ _ nCp hC5
      have rl := rows5.len
      rw [List.length_map] at rl
      refine ⟨C, _, _, rfl, rfl, hC9, ?_, _, _, _, _, _, qs ++ [t], cs ++ [(x, w', y)], rfl, fun q o n1 n2 e => ?_, (S8.same T9).upd nCp, ?_, ?_, ?_, ?_⟩
      · rw [List.length_map]
        exact Nat.lt_of_le_of_lt (show _ ≤ 1000 by omega) (by decide)
      · rw [upd_ne n2]
        exact O9 _ _ n1 (O5 _ _ n1 n2 e)
      · rw [upd_same, List.map_append]
        rfl
      · rw [List.map_append]
        exact RowsAt.append (rows_put hC9 (k9.rows rows5)) ⟨sqT_put hC9 (SqT.of e9), True.intro⟩
      · rw [List.length_append, cl]
        rfl
      · intro k' t' ek
        rcases Nat.lt_or_ge k' cs.length with q | q
        · rw [List.getElem?_append_left q] at ek
          exact ch k' t' ek
        · rw [List.getElem?_append_right q] at ek
          have e0 : k' - cs.length = 0 := by
            have q2 := (List.getElem?_eq_some_iff.mp ek).1
            rw [List.length_singleton] at q2
            omega
          rw [e0] at ek
          have et : (x, w', y) = t' := by simpa using ek
          rw [show k' = i by omega, ← et]
          refine ⟨wok, a, b, ha, hb, ?_⟩
          rcases hxy with ⟨r1, r2⟩ | ⟨r1, r2⟩
          · exact .inl ⟨r1, r2⟩
          · exact .inr ⟨r1, r2⟩
    rintro σ H5 ⟨u2, u5, u6, u7, u8, qs, cs, rfl, O5, S5, hC5, rows5, cl, ch⟩
    rw [em] at cl
    dsimp only
    have h5 := O5 _ _ n1p nlC h4
    -- gives, the name, by
    refine rd_pick (i := 1) (j := 0) rfl rfl h5 S5 zl1 (by omega) fun y1 H6 hy1 B6 S6 => ?_
    dsimp only [gName, List.set_cons_succ, List.set_cons_zero]
    have h6 := B6 _ _ n1p h5
    refine ⟨_, rfl, rd_word (j := 0) rfl S6 fun w' H7 wok B7 S7 => ?_⟩
    have h7 := B7 _ _ n1p h6
    refine rd_pick (i := 1) (j := 0) rfl rfl h7 S7 zl1 (by omega) fun y2 H8 hy2 B8 S8 => ⟨by show 3 ≤ sizeLine; decide, fun g hg => ?_⟩
    have h8 := B8 _ _ n1p h7
    dsimp only [gName, List.set_cons_succ, List.set_cons_zero]
    have T9 : Same H8 (upd H8 g (.tup [.str y1, .str w', .str y2])) := Same.upd hg
    have e9 : (upd H8 g (.tup [.str y1, .str w', .str y2])) g = some (.tup (triV (y1, w', y2))) := upd_same
    have S9 := S8.same T9
    have k9 : Kp H5 (upd H8 g (.tup [.str y1, .str w', .str y2])) := ((B6.kp S5).trans ((B7.kp S6).trans (B8.kp S7))).trans (Same.kp T9)
    have B9 : But p H5 (upd H8 g (.tup [.str y1, .str w', .str y2])) := ((B6.trans B7).trans B8).trans (Same.but T9)
    generalize upd H8 g (.tup [.str y1, .str w', .str y2]) = H9 at T9 e9 S9 k9 B9
    have h9 := T9 _ _ h8
    refine ⟨_, rfl, Nat.zero_le _, fun l0 hl0 => ?_⟩
    have T10 : Same H9 (upd H9 l0 (.lst [])) := Same.upd hl0
    have e10 : (upd H9 l0 (.lst [])) l0 = some (.lst (([] : List Str).map V.str)) := upd_same
    have S10 := S9.same T10
    have nl0 : l0 ≠ p := st_free S9 hl0
    generalize upd H9 l0 (.lst []) = H10 at T10 e10 S10
    refine ⟨p, l0, [], rfl, S10, nl0, e10, by decide, fun nm H11 nm1 nm2 _ B11 S11 => ?_⟩
    refine ⟨_, rfl, _, rfl, _, rfl, rd_pick (i := 1) (j := 0) rfl rfl (B11 _ _ n1p (T10 _ _ h9)) S11 zl1 (by omega) fun y3 H12 hy3 B12 S12 => ⟨by show 5 ≤ sizeLine; decide, fun l hl => ?_⟩⟩
    have k12 : Kp H9 H12 := (Same.kp T10).trans ((B11.kp S10).trans (B12.kp S11))
    have B12' : But p H9 H12 := ((Same.but T10).trans B11).trans B12
    have T13 : Same H12 (upd H12 l (.lst [.str nm, .ref D, .ref C, .ref g, .str y3])) := Same.upd hl
    have e13 : (upd H12 l (.lst [.str nm, .ref D, .ref C, .ref g, .str y3])) l = some (.lst [.str nm, .ref D, .ref C, .ref g, .str y3]) := upd_same
    have S13 := S12.same T13
    generalize upd H12 l (.lst [.str nm, .ref D, .ref C, .ref g, .str y3]) = H13 at T13 e13 S13
    have k59 := k9.trans (k12.trans (Same.kp T13))
    have k35 : Kp H3 H5 := fun q o n e => O5 q o (But.ne S3 e n) (ne_of_none e cf) (T4 _ _ e)
    have k3 := k35.trans k59
    have nm0 : vars.map (·.1) = zs := en
    have ch' : Chain (vars.map (·.1)) cs := by
      rw [nm0]
      exact ⟨cl, fun k t e => (ch k t e).2⟩
    have cl2 : cs.length ≤ 2 := by omega
    have pat : PatOk vars cs [(y1, w', y2)] [y3] := chain_pat (by rw [nm0]; exact znd) (by omega) (by omega) ch' (by rw [nm0]; exact hy1) (by rw [nm0]; exact hy2) (by rw [nm0]; exact hy3)
    have vok : ∀ v ∈ vars, NmOk v.1 ∧ v.1 ≠ OTH := fun v hv => by
      have q := znm v.1 (by rw [← nm0]; exact List.mem_map_of_mem hv)
      exact ⟨nmok q.1 q.2, q.2.2⟩
    refine k l H13 ⟨⟨nm, vars, cs⟩, (y1, w', y2), y3⟩ (fun q o n e => ?_) S13 ⟨D, C, g, us, qs, e13, k3 _ _ ns_refs hD3, k3.rows rows, k59 _ _ ns_refs hC5, k59.rows rows5, T13 _ _ (k12 _ _ ns_tup e9)⟩ ⟨⟨pat, nmok nm1 nm2, fun v hv => ⟨(vok v hv).1, vk v hv⟩, fun t ht => ?_⟩, by show vars.length ≤ 3; omega, by rw [nm0]; exact znd, fun v hv => (vok v hv).2, cl2⟩
    · have e3 := B3 q o n e
      exact T13 _ _ (B12' q o n (B9 q o n (O5 q o n (ne_of_none e3 cf) (T4 _ _ e3))))
    · rcases List.mem_append.mp ht with q | q
      · obtain ⟨j, hj⟩ := List.mem_iff_getElem?.mp q
        exact (ch j t hj).1
      · rw [List.mem_singleton.mp q]
        exact wok
end
end Wm
namespace Wm
open PySem L2 StX
structure Tx3 (mg : Str → Option Value) : Prop where
  list : mg "list" = none
  zip : mg "zip" = none
  dict : mg "dict" = none
/-! ### a variable called otherwise -/
def fR (o z : Str) : Str := if z = o then OTH else z
def trR (o : Str) (t : Tri) : Tri := (fR o t.1, t.2.1, fR o t.2.2)
def renR (o : Str) (r : RlD) : RlD := ⟨⟨r.p.nm, r.p.vars.map fun v => (fR o v.1, v.2), r.p.cs.map (trR o)⟩, trR o r.g, fR o r.bh⟩
theorem fR_inj {o a b : Str} (ha : a ≠ OTH) (hb : b ≠ OTH) (h : fR o a = fR o b) : a = b := by
  unfold fR at h
  split at h <;> split at h
  · rename_i x y
    exact x.trans y.symm
  · exact absurd h.symm hb
  · exact absurd h ha
  · exact h
theorem fR_ok {o z : Str} (h : NmOk z) : NmOk (fR o z) := by
  unfold fR
  split
  · exact ok_oth
  · exact h
theorem ends_ren (o : Str) (cs : List Tri) : endsL (cs.map (trR o)) = (endsL cs).map (fR o) := by
  unfold endsL
  rw [List.flatMap_map, List.map_flatMap]
  rfl
theorem names_ren (o : Str) (vars : List Var) : (vars.map fun v => (fR o v.1, v.2)).map (·.1) = (vars.map (·.1)).map (fR o) := by
  rw [List.map_map, List.map_map]
  rfl
theorem Drwn.ren {r : RlD} (h : Drwn r) (o : Str) : Good (renR o r) := by
  have p := h.gd.pt
  have no : ∀ z ∈ r.p.vars.map (·.1), z ≠ OTH := fun z hz => by
    obtain ⟨v, hv, rfl⟩ := List.mem_map.mp hz
    exact h.no v hv
  refine ⟨⟨?_, ?_, ?_, ?_, p.g3, p.h3, ?_, ?_, ?_, ?_⟩, h.gd.nm, ?_, ?_⟩
  · show 1 ≤ (r.p.vars.map _).length
    rw [List.length_map]
    exact p.v1
  · show (r.p.vars.map _).length ≤ 4
    rw [List.length_map]
    exact p.v4
  · show 1 ≤ (r.p.cs.map _).length
    rw [List.length_map]
    exact p.c1
  · show (r.p.cs.map _).length ≤ 3
    rw [List.length_map]
    exact p.c3
  · show NoTw (((r.p.vars.map fun v => (fR o v.1, v.2)).map (·.1)).map V.str)
    rw [names_ren]
    refine noTw_of ?_
    rw [List.Nodup, List.pairwise_map]
    exact List.Pairwise.imp_of_mem (fun ha hb ne e => ne (fR_inj (no _ ha) (no _ hb) e)) h.nd
  · intro z hz
    show z ∈ (r.p.vars.map fun v => (fR o v.1, v.2)).map (·.1)
    rw [names_ren]
    have e : endsL (r.p.cs.map (trR o) ++ [trR o r.g]) ++ [fR o r.bh] = (endsL (r.p.cs ++ [r.g]) ++ [r.bh]).map (fR o) := by
      rw [List.map_append, ← ends_ren, List.map_append]
      rfl
    have hz : z ∈ endsL (r.p.cs.map (trR o) ++ [trR o r.g]) ++ [fR o r.bh] := hz
    rw [e] at hz
    obtain ⟨y, hy, rfl⟩ := List.mem_map.mp hz
    exact List.mem_map_of_mem (p.en y hy)
  · intro z hz
    show z ∈ endsL (r.p.cs.map (trR o))
    have hz : z ∈ (r.p.vars.map fun v => (fR o v.1, v.2)).map (·.1) := hz
    rw [names_ren] at hz
    obtain ⟨y, hy, rfl⟩ := List.mem_map.mp hz
    rw [ends_ren]
    exact List.mem_map_of_mem (p.lo y hy)
  · intro i t hi ht
    have ht : (r.p.cs.map (trR o))[i]? = some t := ht
    rw [List.getElem?_map] at ht
    obtain ⟨u, hu, rfl⟩ := Option.map_eq_some_iff.mp ht
    show fR o u.1 ∈ endsL ((r.p.cs.map (trR o)).take i) ∨ fR o u.2.2 ∈ endsL ((r.p.cs.map (trR o)).take i)
    rw [← List.map_take, ends_ren]
    exact (p.ap i u hi hu).imp (fun q => List.mem_map_of_mem q) (fun q => List.mem_map_of_mem q)
  · intro v hv
    obtain ⟨y, hy, rfl⟩ := List.mem_map.mp hv
    exact ⟨fR_ok (h.gd.vn y hy).1, (h.gd.vn y hy).2⟩
  · intro t ht
    have ht : t ∈ r.p.cs.map (trR o) ++ [trR o r.g] := ht
    rcases List.mem_append.mp ht with q | q
    · obtain ⟨y, hy, rfl⟩ := List.mem_map.mp q
      exact h.gd.tn y (List.mem_append_left _ hy)
    · rw [List.mem_singleton.mp q]
      exact h.gd.tn r.g (List.mem_append_right _ (by simp))
/-- what stands in the dict of the names -/
theorem merge_val {f : Str → Str} : ∀ {ns : List Str} {acc : List (L2.Key × V)}, (∀ z v, valV acc (.inr z) = some v → v = .str (f z)) → ∀ z, (z ∈ ns ∨ (valV acc (.inr z)).isSome) → valV (mergeK acc (ns.map fun z => (.inr z, .str (f z)))) (.inr z) = some (.str (f z))
  | [], acc, ha, z, hz => by
    rcases hz with hz | hz
    · exact (List.not_mem_nil hz).elim
    · obtain ⟨v, hv⟩ := Option.isSome_iff_exists.mp hz
      show valV acc (.inr z) = _
      rw [hv, ha z v hv]
  | n :: ns, acc, ha, z, hz => by
    show valV (mergeK (putK acc (.inr n) (.str (f n))) (ns.map fun z => (.inr z, .str (f z)))) (.inr z) = _
    refine merge_val (fun y v hv => ?_) z ?_
    · rw [valV_put] at hv
      split at hv
      · rename_i e
        cases hv
        rw [Sum.inr.inj e]
      · exact ha y v hv
    · rw [valV_put]
      by_cases e : z = n
      · exact .inr (by rw [if_pos (by rw [e])]; rfl)
      · rcases hz with hz | hz
        · rcases List.mem_cons.mp hz with q | q
          · exact absurd q e
          · exact .inl q
        · exact .inr (by rw [if_neg fun q => e (Sum.inr.inj q)]; exact hz)
theorem paired_of {α β : Type} {R : α → β → Prop} : ∀ {xs : List α} {ys : List β}, xs.length = ys.length → (∀ (i : Nat) x y, xs[i]? = some x → ys[i]? = some y → R x y) → Paired R xs ys
  | [], [], _, _ => .nil
  | [], _ :: _, h, _ => by cases h
  | _ :: _, [], h, _ => by cases h
  | x :: xs, y :: ys, h, k => .cons (k 0 x y rfl rfl) (paired_of (Nat.succ.inj h) fun i a b ha hb => k (i + 1) a b (by simpa using ha) (by simpa using hb))
theorem dget_of {H : Hp} {a : Addr} {kvs : List (L2.Key × V)} {k : L2.Key} {v : V} (e : H a = some (.dK kvs)) (h : valV kvs k = some v) : DGet H a (kV k) (some v) := by
  have q := DGet.k (k := k) e
  rw [h] at q
  exact q
def spRnm (K : PySem.W.Frag) : Sp := fun vs H Q _ => ∃ (l : Addr) (j : Nat) (r : RlD) (v : Var), vs = [.ref l, .int (j : Int)] ∧ PtsAt K H l r ∧ Drwn r ∧ r.p.vars[j]? = some v ∧ ∀ l' H', Same H H' → PtsAt K H' l' (renR v.1 r) → Q (.ref l') H'
section
variable {P : Program} {w : World} {K : PySem.W.Frag} {mg : Str → Option Value} {base : Heap}
theorem scRnm : FnScope ["_law_parts_here", "_law_at", "_law_old", "_law_fresh", "_law_turn", "_law_names_here", "_law_put", "_law_variables", "_law_one", "_law_sort", "_law_x", "_law_word", "_law_y", "_law_conditions"] ["_law_parts_here", "_law_at"] (defScope sRnm) := ⟨rfl, rfl, rfl, by decide +kernel, rfl, by decide +kernel, by decide +kernel⟩
theorem ok_rnm {f : Addr} {fd : FuncData} (F : Fun K "_law_renamed" "_law_renamed" sRnm f fd) (T : TxB mg) (T3 : Tx3 mg) : FnOk P w K mg base CX0 1 f fd ["_law_parts_here", "_law_at"] (spRnm K) := by
  refine F.ok scRnm (fun vs H Q E h => ?_) (fun cdv A outer s H vs Q E hr h => ?_)
  · obtain ⟨l, j, r, v, rfl, _⟩ := h
    rfl
  · obtain ⟨l, j, r, v, rfl, ⟨lv, lc, g, us, qs, q1, q2, q3, q4, q5, q6⟩, dr, hv, k⟩ := h
    have hu := hu_of hr
    refine ⟨_, (pss_cons (ps_set (i := 2) scRnm.nd rfl (Or.inr rfl) (pe_ix ix_tup (pe_ix ix_list (pe_ix ix_list (pv 0) pe_int (fun _ _ => rfl)) (pv 1) (fun _ _ => rfl)) pe_int (fun _ _ => rfl)))
      (pss_cons (ps_set (i := 3) scRnm.nd rfl (Or.inr rfl) pe_str)
      (pss_cons (ps_setLc (i := 4) (own := [("_law_one", 8), ("_law_sort", 9)]) (g := gTup K 2 (gCons (gName 8) (gCons (gName 9) gNil))) (tt := tYes) (te := (tOp (rIxL K) (tLst (tCons (tVar 3) (tCons (tVar 8) tNil))) (tCB rInt1 (tCons (tOp rNe (tVar 8) (tVar 2)) tNil)))) rfl scRnm.nd rfl rfl (sw_true rfl rfl rfl (by decide +kernel)) (pi_list (pe_ix ix_list (pv 0) pe_int (fun _ _ => rfl))) (blkOk_by (N := ["_law_parts_here", "_law_at", "_law_old", "_law_fresh", "_law_turn", "_law_names_here", "_law_put", "_law_variables", "_law_one", "_law_sort", "_law_x", "_law_word", "_law_y", "_law_conditions"]) (sc := defScope sRnm) (by decide +kernel)) (fun _ _ _ _ _ => (pg_tup rfl (pgs_cons (pg_name (i := 8) scRnm.nd rfl (Or.inl rfl)) (pgs_cons (pg_name (i := 9) scRnm.nd rfl (Or.inl rfl)) pgs_nil)))) (fun _ _ _ _ _ => pts_nil) (fun _ _ _ _ _ => (pe_ix ix_list (pe_lst (pa_cons (pv 3) (pa_cons (pv 8) pa_nil))) (pe_callTy call_int1 (by rfl) T.int (by decide +kernel) (pa_cons (pe_cmpR op_ne (pv 8) (pv 2) (nomark _)) pa_nil)) (fun _ _ => rfl))))
      (pss_cons (ps_setLc (i := 5) (own := [("_law_one", 8), ("_law_sort", 9)]) (g := gTup K 2 (gCons (gName 8) (gCons (gName 9) gNil))) (tt := tYes) (te := (tVar 8)) rfl scRnm.nd rfl rfl (sw_true rfl rfl rfl (by decide +kernel)) (pi_list (pe_ix ix_list (pv 0) pe_int (fun _ _ => rfl))) (blkOk_by (N := ["_law_parts_here", "_law_at", "_law_old", "_law_fresh", "_law_turn", "_law_names_here", "_law_put", "_law_variables", "_law_one", "_law_sort", "_law_x", "_law_word", "_law_y", "_law_conditions"]) (sc := defScope sRnm) (by decide +kernel)) (fun _ _ _ _ _ => (pg_tup rfl (pgs_cons (pg_name (i := 8) scRnm.nd rfl (Or.inl rfl)) (pgs_cons (pg_name (i := 9) scRnm.nd rfl (Or.inl rfl)) pgs_nil)))) (fun _ _ _ _ _ => pts_nil) (fun _ _ _ _ _ => (pv 8)))
      (pss_cons (ps_set (i := 6) scRnm.nd rfl (Or.inr rfl) (pe_callTy (call_dictP (by rfl)) (by rfl) T3.dict (by decide +kernel) (pa_cons (pe_listZip (by rfl) (by rfl) T3.list (by rfl) T3.zip (pa_cons (pv 5) (pa_cons (pv 4) pa_nil)) (fun h q => Same.seq h q)) pa_nil)))
      (pss_cons (ps_setLc (i := 7) (own := [("_law_one", 8), ("_law_sort", 9)]) (g := gTup K 2 (gCons (gName 8) (gCons (gName 9) gNil))) (tt := tYes) (te := (tTup (tCons (tDGet (tVar 6) (tVar 8)) (tCons (tVar 9) tNil)))) rfl scRnm.nd rfl rfl (sw_true rfl rfl rfl (by decide +kernel)) (pi_list (pe_ix ix_list (pv 0) pe_int (fun _ _ => rfl))) (blkOk_by (N := ["_law_parts_here", "_law_at", "_law_old", "_law_fresh", "_law_turn", "_law_names_here", "_law_put", "_law_variables", "_law_one", "_law_sort", "_law_x", "_law_word", "_law_y", "_law_conditions"]) (sc := defScope sRnm) (by decide +kernel)) (fun _ _ _ _ _ => (pg_tup rfl (pgs_cons (pg_name (i := 8) scRnm.nd rfl (Or.inl rfl)) (pgs_cons (pg_name (i := 9) scRnm.nd rfl (Or.inl rfl)) pgs_nil)))) (fun _ _ _ _ _ => pts_nil) (fun _ _ _ _ _ => (pe_tup (pa_cons (pe_dget hu (pv 6) (pv 8) (fun _ _ => rfl)) (pa_cons (pv 9) pa_nil)))))
      (pss_cons (ps_setLc (i := 13) (own := [("_law_x", 10), ("_law_word", 11), ("_law_y", 12)]) (g := gTup K 3 (gCons (gName 10) (gCons (gName 11) (gCons (gName 12) gNil)))) (tt := tYes) (te := (tTup (tCons (tDGet (tVar 6) (tVar 10)) (tCons (tVar 11) (tCons (tDGet (tVar 6) (tVar 12)) tNil))))) rfl scRnm.nd rfl rfl (sw_true rfl rfl rfl (by decide +kernel)) (pi_list (pe_ix ix_list (pv 0) pe_int (fun _ _ => rfl))) (blkOk_by (N := ["_law_parts_here", "_law_at", "_law_old", "_law_fresh", "_law_turn", "_law_names_here", "_law_put", "_law_variables", "_law_one", "_law_sort", "_law_x", "_law_word", "_law_y", "_law_conditions"]) (sc := defScope sRnm) (by decide +kernel)) (fun _ _ _ _ _ => (pg_tup rfl (pgs_cons (pg_name (i := 10) scRnm.nd rfl (Or.inl rfl)) (pgs_cons (pg_name (i := 11) scRnm.nd rfl (Or.inl rfl)) (pgs_cons (pg_name (i := 12) scRnm.nd rfl (Or.inl rfl)) pgs_nil))))) (fun _ _ _ _ _ => pts_nil) (fun _ _ _ _ _ => (pe_tup (pa_cons (pe_dget hu (pv 6) (pv 10) (fun _ _ => rfl)) (pa_cons (pv 11) (pa_cons (pe_dget hu (pv 6) (pv 12) (fun _ _ => rfl)) pa_nil))))))
      (pss_cons (ps_asg (pe_ix ix_list (pv 0) pe_int (fun _ _ => rfl)) (pg_tup rfl (pgs_cons (pg_name (i := 10) scRnm.nd rfl (Or.inl rfl)) (pgs_cons (pg_name (i := 11) scRnm.nd rfl (Or.inl rfl)) (pgs_cons (pg_name (i := 12) scRnm.nd rfl (Or.inl rfl)) pgs_nil)))))
      (pss_one (ps_ret (pe_lst (pa_cons (pe_ix ix_list (pv 0) pe_int (fun _ _ => rfl)) (pa_cons (pv 7) (pa_cons (pv 13) (pa_cons (pe_tup (pa_cons (pe_dget hu (pv 6) (pv 10) (fun _ _ => rfl)) (pa_cons (pv 11) (pa_cons (pe_dget hu (pv 6) (pv 12) (fun _ _ => rfl)) pa_nil)))) (pa_cons (pe_dget hu (pv 6) (pe_ix ix_list (pv 0) pe_int (fun _ _ => rfl)) (fun _ _ => rfl)) pa_nil)))))))))))))))), ?_⟩
    rw [show L2.start ["_law_parts_here", "_law_at", "_law_old", "_law_fresh", "_law_turn", "_law_names_here", "_law_put", "_law_variables", "_law_one", "_law_sort", "_law_x", "_law_word", "_law_y", "_law_conditions"] [V.ref l, V.int (j : Int)] = [some (.ref l), some (.int (j : Int)), none, none, none, none, none, none, none, none, none, none, none, none] from rfl]
    have vl := q3.len
    have cl := q5.len
    rw [List.length_map] at vl cl
    have v3 := dr.v3
    have c2 := dr.c2
    have hj : j < us.length := by
      have q := (List.getElem?_eq_some_iff.mp hv).1
      omega
    obtain ⟨u, hu'⟩ : ∃ u, us[j]? = some u := ⟨_, List.getElem?_eq_getElem hj⟩
    obtain ⟨ru, hru, hsu⟩ := q3.get hu'
    obtain ⟨v', hv', rfl⟩ := var_get hru
    rw [hv] at hv'
    cases hv'
    have hum : (us.map V.ref)[j]? = some (.ref u) := by rw [List.getElem?_map, hu']; rfl
    refine ⟨_, rfl, l, _, 1, _, rfl, rfl, SqL.of q1, atI_nat (j := 1) rfl, _, rfl, rdList q2 (j := j) rfl hum ⟨u, _, 0, _, rfl, rfl, hsu, atI_nat (j := 0) rfl, ?_⟩⟩
    dsimp only [gName, List.set_cons_succ, List.set_cons_zero]
    -- turn
    refine ⟨_, rfl, l, _, 1, _, rfl, rfl, SqL.of q1, atI_nat (j := 1) rfl, lv, rfl, ⟨_, SqL.of q2⟩, fun D hD => ?_⟩
    refine lc_list (K := K) (a := lv) (xs := us.map V.ref) (fun i H' => Same H H' ∧ H' D = some (.lst (((r.p.vars.take i).map fun x => fR v.1 x.1).map V.str))) ⟨Same.upd hD, upd_same⟩ (fun i H' _ h => SqL.of (h.1 _ _ q2)) ?_ ?_
    · rintro i x H3 hx ⟨S3, hD3⟩
      obtain ⟨u2, hu2, rfl⟩ := map_ref_get hx
      obtain ⟨ru2, hru2, hsu2⟩ := q3.get hu2
      obtain ⟨v2, hv2, rfl⟩ := var_get hru2
      refine ⟨u2, _, rfl, same_seqT S3 hsu2, rfl, _, _, rfl, _, _, rfl, rfl, ?_⟩
      refine ⟨rfl, _, rfl, _, rfl, by show 2 ≤ sizeLine; decide, fun lx hlx => ?_⟩
      have T4 : Same H3 (upd H3 lx (.lst [.str OTH, .str v2.1])) := Same.upd hlx
      have e4 : (upd H3 lx (.lst [.str OTH, .str v2.1])) lx = some (.lst [.str OTH, .str v2.1]) := upd_same
      generalize upd H3 lx (.lst [.str OTH, .str v2.1]) = H4 at T4 e4
      refine ⟨_, rfl, _, rfl, rfl, .inr ⟨_, rfl, ?_⟩⟩
      have hD4 := T4 _ _ hD3
      have go : ∃ m : Nat, (if (!decide (V.str v2.1 = V.str v.1)) = true then (1 : Int) else 0) = (m : Int) ∧ ([V.str OTH, .str v2.1] : List V)[m]? = some (.str (fR v.1 v2.1)) := by
        by_cases e : v2.1 = v.1
        · exact ⟨0, by rw [if_neg (by rw [decide_eq_true (by rw [e])]; decide)]; rfl, by unfold fR; rw [if_pos e]; rfl⟩
        · exact ⟨1, by rw [if_pos (by rw [decide_eq_false (fun q => e (V.str.inj q))]; rfl)]; rfl, by unfold fR; rw [if_neg e]; rfl⟩
      obtain ⟨m, em, hm⟩ := go
      refine rdList e4 (j := m) em hm ⟨_, hD4, ?_, fun b o e => ?_, ?_⟩
      · rw [List.length_map, List.length_map, List.length_take]
        exact Nat.lt_of_le_of_lt (show _ ≤ 1000 by omega) (by decide)
      · rw [upd_ne (ne_of_none e hD)]
        exact T4 _ _ (S3 _ _ e)
      · rw [upd_same, List.take_add_one, hv2, List.map_append, List.map_append]
        rfl
    rintro H1 ⟨S1, hD1⟩
    rw [List.length_map, vl, List.take_length] at hD1
    dsimp only [gName, List.set_cons_succ, List.set_cons_zero]
    have Dn0 : H D = none := hD
    -- the names
    refine ⟨_, rfl, l, _, 1, _, rfl, rfl, SqL.of (S1 _ _ q1), atI_nat (j := 1) rfl, lv, rfl, ⟨_, SqL.of (S1 _ _ q2)⟩, fun D2 hD2 => ?_⟩
    refine lc_list (K := K) (a := lv) (xs := us.map V.ref) (fun i H' => Same H1 H' ∧ H' D2 = some (.lst (((r.p.vars.take i).map (·.1)).map V.str))) ⟨Same.upd hD2, upd_same⟩ (fun i H' _ h => SqL.of (h.1 _ _ (S1 _ _ q2))) ?_ ?_
    · rintro i x H3 hx ⟨S3, hD3⟩
      obtain ⟨u2, hu2, rfl⟩ := map_ref_get hx
      obtain ⟨ru2, hru2, hsu2⟩ := q3.get hu2
      obtain ⟨v2, hv2, rfl⟩ := var_get hru2
      refine ⟨u2, _, rfl, same_seqT (S1.trans S3) hsu2, rfl, _, _, rfl, _, _, rfl, rfl, ?_⟩
      refine ⟨rfl, _, rfl, _, hD3, ?_, fun b o e => ?_, ?_⟩
      · rw [List.length_map, List.length_map, List.length_take]
        exact Nat.lt_of_le_of_lt (show _ ≤ 1000 by omega) (by decide)
      · rw [upd_ne (ne_of_none e hD2)]
        exact S3 _ _ e
      · rw [upd_same, List.take_add_one, hv2, List.map_append, List.map_append]
        rfl
    rintro H2 ⟨S2, hD2'⟩
    rw [List.length_map, vl, List.take_length] at hD2'
    have S02 := S1.trans S2
    have hD12 := S2 _ _ hD1
    dsimp only [gName, List.set_cons_succ, List.set_cons_zero]
    -- dict(list(zip(names, turn)))
    refine ⟨_, rfl, _, rfl, D2, D, _, _, rfl, SqL.of hD2', SqL.of hD12, ?_, ?_, fun lz ts H3 nlz S3 hlz tsl prs => ?_⟩
    · rw [List.length_map, List.length_map, List.length_map, List.length_map]
    · rw [List.length_map, List.length_map]
      omega
    rw [List.length_map, List.length_map] at tsl
    have S03 := S02.trans S3
    have par : Paired (fun p (kv : L2.Key × V) => SqT K H3 p [kV kv.1, kv.2]) ts ((r.p.vars.map (·.1)).map fun z => (.inr z, .str (fR v.1 z))) := by
      refine paired_of (by rw [List.length_map, List.length_map]; exact tsl) fun i t kv ht hkv => ?_
      obtain ⟨_, x, y, hx, hy, e⟩ := prs i t ht
      rw [List.getElem?_map] at hkv
      obtain ⟨z, hz, rfl⟩ := Option.map_eq_some_iff.mp hkv
      rw [List.getElem?_map, hz] at hx
      rw [List.getElem?_map] at hz
      obtain ⟨v2, hv2, rfl⟩ := Option.map_eq_some_iff.mp hz
      rw [List.getElem?_map, List.getElem?_map, hv2] at hy
      cases hx
      cases hy
      exact SqT.of e
    refine ⟨lz, ts, _, rfl, SqL.of hlz, par, fun dd hdd => ?_⟩
    have val : ∀ z ∈ r.p.vars.map (·.1), valV (mergeK [] ((r.p.vars.map (·.1)).map fun z => (.inr z, .str (fR v.1 z)))) (.inr z) = some (.str (fR v.1 z)) := fun z hz => merge_val (fun y v e => by cases e) z (.inl hz)
    dsimp only [gName, List.set_cons_succ, List.set_cons_zero]
    generalize mergeK [] ((r.p.vars.map (·.1)).map fun z => (.inr z, .str (fR v.1 z))) = kvs at val
    have T4 : Same H3 (upd H3 dd (.dK kvs)) := Same.upd hdd
    have e4 : (upd H3 dd (.dK kvs)) dd = some (.dK kvs) := upd_same
    generalize upd H3 dd (.dK kvs) = H4 at T4 e4
    have S04 := S03.trans T4
    -- variables
    refine ⟨_, rfl, l, _, 1, _, rfl, rfl, SqL.of (S04 _ _ q1), atI_nat (j := 1) rfl, lv, rfl, ⟨_, SqL.of (S04 _ _ q2)⟩, fun D5 hD5 => ?_⟩
    refine lc_list (K := K) (a := lv) (xs := us.map V.ref) (fun i H' => Same H4 H' ∧ ∃ ws : List Addr, H' D5 = some (.lst (ws.map V.ref)) ∧ RowsAt K H' ws (((r.p.vars.take i).map fun x => (fR v.1 x.1, x.2)).map varV)) ⟨Same.upd hD5, [], upd_same, True.intro⟩ (fun i H' _ h => SqL.of (h.1 _ _ (S04 _ _ q2))) ?_ ?_
    · rintro i x H5 hx ⟨S5, ws, hD5', rows⟩
      obtain ⟨u2, hu2, rfl⟩ := map_ref_get hx
      obtain ⟨ru2, hru2, hsu2⟩ := q3.get hu2
      obtain ⟨v2, hv2, rfl⟩ := var_get hru2
      have m2 : v2.1 ∈ r.p.vars.map (·.1) := List.mem_map_of_mem (List.mem_of_getElem? hv2)
      have e5 := S5 _ _ e4
      refine ⟨u2, _, rfl, same_seqT (S04.trans S5) hsu2, rfl, _, _, rfl, _, _, rfl, rfl, ?_⟩
      refine ⟨rfl, _, rfl, _, rfl, dd, _, rfl, dget_of (k := .inr v2.1) e5 (val _ m2), _, rfl, by show 2 ≤ sizeLine; decide, fun t ht => ?_⟩
      have T6 : Same H5 (upd H5 t (.tup [.str (fR v.1 v2.1), sortV v2.2])) := Same.upd ht
      have e6 : (upd H5 t (.tup [.str (fR v.1 v2.1), sortV v2.2])) t = some (.tup (varV (fR v.1 v2.1, v2.2))) := upd_same
      generalize upd H5 t (.tup [.str (fR v.1 v2.1), sortV v2.2]) = H6 at T6 e6
      have hD6 := T6 _ _ hD5'
      have wl := rows.len
      rw [List.length_map, List.length_map, List.length_take] at wl
      refine ⟨_, hD6, ?_, fun b o e => ?_, ws ++ [t], ?_, ?_⟩
      · rw [List.length_map]
        exact Nat.lt_of_le_of_lt (show _ ≤ 1000 by omega) (by decide)
      · rw [upd_ne (ne_of_none e hD5)]
        exact T6 _ _ (S5 _ _ e)
      · rw [upd_same, List.map_append]
        rfl
      · rw [List.take_add_one, hv2, List.map_append, List.map_append]
        exact RowsAt.append (rows_put hD6 (rows.same T6)) ⟨sqT_put hD6 (SqT.of e6), True.intro⟩
    rintro H5 ⟨S5, ws, hD5', rows⟩
    rw [List.length_map, vl, List.take_length] at rows
    have S05 := S04.trans S5
    dsimp only [gName, List.set_cons_succ, List.set_cons_zero]
    -- conditions
    refine ⟨_, rfl, l, _, 2, _, rfl, rfl, SqL.of (S05 _ _ q1), atI_nat (j := 2) rfl, lc, rfl, ⟨_, SqL.of (S05 _ _ q4)⟩, fun D6 hD6 => ?_⟩
    refine lc_list (K := K) (a := lc) (xs := qs.map V.ref) (fun i H' => Same H5 H' ∧ ∃ ys : List Addr, H' D6 = some (.lst (ys.map V.ref)) ∧ RowsAt K H' ys (((r.p.cs.take i).map (trR v.1)).map triV)) ⟨Same.upd hD6, [], upd_same, True.intro⟩ (fun i H' _ h => SqL.of (h.1 _ _ (S05 _ _ q4))) ?_ ?_
    · rintro i x H6 hx ⟨S6, ys, hD6', rows6⟩
      obtain ⟨u2, hu2, rfl⟩ := map_ref_get hx
      obtain ⟨ru2, hru2, hsu2⟩ := q5.get hu2
      obtain ⟨t2, ht2, rfl⟩ := tri_get hru2
      have mm := ends_mem (List.mem_of_getElem? ht2)
      have m1 : t2.1 ∈ r.p.vars.map (·.1) := dr.gd.pt.en _ (List.mem_append_left _ (by rw [endsL_app]; exact List.mem_append_left _ mm.1))
      have m2 : t2.2.2 ∈ r.p.vars.map (·.1) := dr.gd.pt.en _ (List.mem_append_left _ (by rw [endsL_app]; exact List.mem_append_left _ mm.2))
      have e6 := S6 _ _ (S5 _ _ e4)
      refine ⟨u2, _, rfl, same_seqT (S05.trans S6) hsu2, rfl, _, _, rfl, _, _, rfl, _, _, rfl, rfl, ?_⟩
      refine ⟨rfl, _, rfl, _, rfl, dd, _, rfl, dget_of (k := .inr t2.1) e6 (val _ m1), _, rfl, _, rfl, _, rfl, dd, _, rfl, dget_of (k := .inr t2.2.2) e6 (val _ m2), by show 3 ≤ sizeLine; decide, fun t ht => ?_⟩
      have T7 : Same H6 (upd H6 t (.tup [.str (fR v.1 t2.1), .str t2.2.1, .str (fR v.1 t2.2.2)])) := Same.upd ht
      have e7 : (upd H6 t (.tup [.str (fR v.1 t2.1), .str t2.2.1, .str (fR v.1 t2.2.2)])) t = some (.tup (triV (trR v.1 t2))) := upd_same
      generalize upd H6 t (.tup [.str (fR v.1 t2.1), .str t2.2.1, .str (fR v.1 t2.2.2)]) = H7 at T7 e7
      have hD7 := T7 _ _ hD6'
      have wl := rows6.len
      rw [List.length_map, List.length_map, List.length_take] at wl
      refine ⟨_, hD7, ?_, fun b o e => ?_, ys ++ [t], ?_, ?_⟩
      · rw [List.length_map]
        exact Nat.lt_of_le_of_lt (show _ ≤ 1000 by omega) (by decide)
      · rw [upd_ne (ne_of_none e hD6)]
        exact T7 _ _ (S6 _ _ e)
      · rw [upd_same, List.map_append]
        rfl
      · rw [List.take_add_one, ht2, List.map_append, List.map_append]
        exact RowsAt.append (rows_put hD7 (rows6.same T7)) ⟨sqT_put hD7 (SqT.of e7), True.intro⟩
    rintro H6 ⟨S6, ys, hD6', rows6⟩
    rw [List.length_map, cl, List.take_length] at rows6
    have S06 := S05.trans S6
    have e6 := S6 _ _ (S5 _ _ e4)
    dsimp only [gName, List.set_cons_succ, List.set_cons_zero]
    have mg1 : r.g.1 ∈ r.p.vars.map (·.1) := dr.gd.pt.en _ (List.mem_append_left _ (by rw [endsL_app]; exact List.mem_append_right _ (ends_mem (List.mem_singleton.mpr rfl)).1))
    have mg2 : r.g.2.2 ∈ r.p.vars.map (·.1) := dr.gd.pt.en _ (List.mem_append_left _ (by rw [endsL_app]; exact List.mem_append_right _ (ends_mem (List.mem_singleton.mpr rfl)).2))
    have mb : r.bh ∈ r.p.vars.map (·.1) := dr.gd.pt.en _ (List.mem_append_right _ (by simp))
    refine ⟨_, rfl, l, _, 3, _, rfl, rfl, SqL.of (S06 _ _ q1), atI_nat (j := 3) rfl, g, _, rfl, SqT.of (S06 _ _ q6), rfl, _, _, rfl, _, _, rfl, _, _, rfl, rfl, ?_⟩
    dsimp only [gName, List.set_cons_succ, List.set_cons_zero]
    refine ⟨_, rfl, l, _, 0, _, rfl, rfl, SqL.of (S06 _ _ q1), atI_nat (j := 0) rfl, _, rfl, _, rfl, _, rfl, _, rfl, dd, _, rfl, dget_of (k := .inr r.g.1) e6 (val _ mg1), _, rfl, _, rfl, _, rfl, dd, _, rfl, dget_of (k := .inr r.g.2.2) e6 (val _ mg2), by show 3 ≤ sizeLine; decide, fun t ht => ?_⟩
    have T7 : Same H6 (upd H6 t (.tup [.str (fR v.1 r.g.1), .str r.g.2.1, .str (fR v.1 r.g.2.2)])) := Same.upd ht
    have e7 : (upd H6 t (.tup [.str (fR v.1 r.g.1), .str r.g.2.1, .str (fR v.1 r.g.2.2)])) t = some (.tup (triV (trR v.1 r.g))) := upd_same
    generalize upd H6 t (.tup [.str (fR v.1 r.g.1), .str r.g.2.1, .str (fR v.1 r.g.2.2)]) = H7 at T7 e7
    have S07 := S06.trans T7
    refine ⟨_, rfl, _, rfl, l, _, 4, _, rfl, rfl, SqL.of (S07 _ _ q1), atI_nat (j := 4) rfl, dd, _, rfl, dget_of (k := .inr r.bh) (T7 _ _ e6) (val _ mb), by show 5 ≤ sizeLine; decide, fun l' hl' => ?_⟩
    have T8 := Same.upd (o := .lst [.str r.p.nm, .ref D5, .ref D6, .ref t, .str (fR v.1 r.bh)]) hl'
    have s58 := (S6.trans T7).trans T8
    exact k l' _ (S07.trans T8) ⟨D5, D6, t, ws, ys, upd_same, s58 _ _ hD5', rows.same s58, (T7.trans T8) _ _ hD6', rows6.same (T7.trans T8), T8 _ _ e7⟩
end
end Wm
namespace Wm
open PySem L2 StX
theorem skipI {a b : Int} {A B : Prop} (n : a ≠ b) (h : B) : if decide (V.int a = V.int b) = true then A else B := by
  rw [if_neg (by rw [decide_eq_false fun e => n (V.int.inj e)]; decide)]
  exact h
theorem takeI {a : Int} {A B : Prop} (h : A) : if decide (V.int a = V.int a) = true then A else B := by
  rw [if_pos (decide_eq_true rfl)]
  exact h
theorem ixN_nat {n j : Nat} (h : j < n) : L2.ixN n (j : Int) = some j := by
  unfold L2.ixN
  rw [if_pos (by omega), if_pos (by omega)]
  simp
/-! ### patterns with one part changed -/
def Alk (cs cs' : List Tri) : Prop := cs.length = cs'.length ∧ ∀ (i : Nat) (t : Tri), cs[i]? = some t → ∃ t', cs'[i]? = some t' ∧ ((t'.1 = t.1 ∧ t'.2.2 = t.2.2) ∨ (t'.1 = t.2.2 ∧ t'.2.2 = t.1))
theorem alk_set {cs : List Tri} {j : Nat} {t t' : Tri} (h : cs[j]? = some t) (e : (t'.1 = t.1 ∧ t'.2.2 = t.2.2) ∨ (t'.1 = t.2.2 ∧ t'.2.2 = t.1)) : Alk cs (cs.set j t') := by
  refine ⟨(List.length_set ..).symm, fun i u hu => ?_⟩
  have jl : j < cs.length := (List.getElem?_eq_some_iff.mp h).1
  by_cases q : j = i
  · subst q
    rw [h] at hu
    cases hu
    exact ⟨t', by rw [List.getElem?_set_self jl], e⟩
  · exact ⟨u, by rw [List.getElem?_set_ne q]; exact hu, .inl ⟨rfl, rfl⟩⟩
theorem Alk.symm {cs cs' : List Tri} (h : Alk cs cs') : Alk cs' cs := by
  refine ⟨h.1.symm, fun i t' ht' => ?_⟩
  have il : i < cs.length := by
    have q := (List.getElem?_eq_some_iff.mp ht').1
    rw [h.1]
    exact q
  obtain ⟨u, hu, e⟩ := h.2 i cs[i] (List.getElem?_eq_getElem il)
  rw [ht'] at hu
  cases hu
  refine ⟨cs[i], List.getElem?_eq_getElem il, ?_⟩
  rcases e with ⟨a, b⟩ | ⟨a, b⟩
  · exact .inl ⟨a.symm, b.symm⟩
  · exact .inr ⟨b.symm, a.symm⟩
theorem Alk.ends {cs cs' : List Tri} (h : Alk cs cs') {z : Str} (n : Nat) (hz : z ∈ endsL (cs.take n)) : z ∈ endsL (cs'.take n) := by
  obtain ⟨t, ht, e⟩ := mem_ends hz
  obtain ⟨i, hi⟩ := List.mem_iff_getElem?.mp ht
  have il : i < n := by
    have q := (List.getElem?_eq_some_iff.mp hi).1
    rw [List.length_take] at q
    omega
  rw [List.getElem?_take_of_lt il] at hi
  obtain ⟨t', ht', q⟩ := h.2 i t hi
  have m : t' ∈ cs'.take n := List.mem_iff_getElem?.mpr ⟨i, by rw [List.getElem?_take_of_lt il]; exact ht'⟩
  have mm := ends_mem m
  rcases e with e | e <;> rcases q with ⟨a, b⟩ | ⟨a, b⟩ <;> rw [e]
  · rw [← a]; exact mm.1
  · rw [← b]; exact mm.2
  · rw [← b]; exact mm.2
  · rw [← a]; exact mm.1
theorem Alk.all {cs cs' : List Tri} (h : Alk cs cs') {z : Str} (hz : z ∈ endsL cs) : z ∈ endsL cs' := by
  have q := h.ends (z := z) cs.length (by rw [List.take_length]; exact hz)
  rw [h.1, List.take_length] at q
  exact q
theorem Alk.hangs {cs cs' : List Tri} (h : Alk cs cs') (k : Hangs cs) : Hangs cs' := fun i t' hi ht' => by
  obtain ⟨t, ht, e⟩ := h.symm.2 i t' ht'
  have q := k i t hi ht
  rcases e with ⟨a, b⟩ | ⟨a, b⟩
  · rw [← a, ← b]
    exact q.imp (h.ends i) (h.ends i)
  · rw [← a, ← b]
    exact q.symm.imp (h.ends i) (h.ends i)
theorem PatOk.other {vars vars' : List Var} {cs cs' : List Tri} {g g' : Tri} {b b' : Str} (h : PatOk vars cs [g] [b]) (en : vars'.map (·.1) = vars.map (·.1)) (c1 : 1 ≤ cs'.length) (c3 : cs'.length ≤ 3) (e1 : ∀ z ∈ endsL cs', z ∈ vars.map (·.1)) (e2 : g'.1 ∈ vars.map (·.1)) (e3 : g'.2.2 ∈ vars.map (·.1)) (e4 : b' ∈ vars.map (·.1))
    (lo : ∀ z ∈ endsL cs, z ∈ endsL cs') (ap : Hangs cs') : PatOk vars' cs' [g'] [b'] := by
  have l := congrArg List.length en
  rw [List.length_map, List.length_map] at l
  refine ⟨by rw [l]; exact h.v1, by rw [l]; exact h.v4, c1, c3, h.g3, h.h3, by rw [en]; exact h.tw, fun z hz => ?_, fun z hz => ?_, ap⟩
  · rw [en]
    rcases List.mem_append.mp hz with q | q
    · rw [endsL_app] at q
      rcases List.mem_append.mp q with q | q
      · exact e1 z q
      · obtain ⟨t, ht, e⟩ := mem_ends q
        rw [List.mem_singleton.mp ht] at e
        rcases e with e | e <;> rw [e] <;> assumption
    · rw [List.mem_singleton.mp q]
      exact e4
  · rw [en] at hz
    exact lo z (h.lo z hz)
structure Ins (r : RlD) : Prop where
  e1 : ∀ z ∈ endsL r.p.cs, z ∈ r.p.vars.map (·.1)
  e2 : r.g.1 ∈ r.p.vars.map (·.1)
  e3 : r.g.2.2 ∈ r.p.vars.map (·.1)
  e4 : r.bh ∈ r.p.vars.map (·.1)
theorem Good.ins {r : RlD} (h : Good r) : Ins r := by
  have m := ends_mem (List.mem_singleton.mpr (rfl : r.g = r.g))
  exact ⟨fun z hz => h.pt.en z (List.mem_append_left _ (by rw [endsL_app]; exact List.mem_append_left _ hz)), h.pt.en _ (List.mem_append_left _ (by rw [endsL_app]; exact List.mem_append_right _ m.1)), h.pt.en _ (List.mem_append_left _ (by rw [endsL_app]; exact List.mem_append_right _ m.2)), h.pt.en _ (List.mem_append_right _ (by simp))⟩
/-- ['own', 'know', 'use'][d] -/
theorem word3_at {d : Int} (h0 : 0 ≤ d) (h2 : d < 3) : ∃ z : Str, ([V.str OWN, .str KNOW, .str USE] : List V)[d.toNat]? = some (.str z) ∧ NmOk z := by
  rcases (by omega : d = 0 ∨ d = 1 ∨ d = 2) with rfl | rfl | rfl
  · exact ⟨OWN, rfl, ok_own⟩
  · exact ⟨KNOW, rfl, ok_know⟩
  · exact ⟨USE, rfl, ok_use⟩
theorem rd_sort3 {K : PySem.W.Frag} {j : Nat} {σ : L2.St} {H : Hp} {Q : VK} {p : Addr} (hj : σ[j]? = some (some (.ref p))) (S : StOk H p)
    (k : ∀ o H', (∀ z, o = some z → NmOk z) → But p H H' → StOk H' p → Q (sortV o) H') : tOp (rIxL K) (tLst (tCons (tC .non) (tCons (tC (.str LORD)) (tCons (tC (.str BOX)) tNil)))) (tCall spDigit [] E0 (tCons (tVar j) (tCons (tC (.int 3)) tNil))) σ H Q := by
  refine ⟨by show 3 ≤ sizeLine; decide, fun l hl => ?_⟩
  have nlp : l ≠ p := st_free S hl
  refine ⟨_, hj, p, 3, rfl, S.upd nlp, by decide, by decide, fun d H' a b B' S' => ?_⟩
  obtain ⟨o, ho, ok⟩ := sort_at a b
  exact rdList (B' l _ nlp upd_same) (j := d.toNat) (by omega) ho (k o H' ok (fun q o n e => B' q o n (by rw [upd_ne (ne_of_none e hl)]; exact e)) S')
theorem rd_word3 {K : PySem.W.Frag} {j : Nat} {σ : L2.St} {H : Hp} {Q : VK} {p : Addr} (hj : σ[j]? = some (some (.ref p))) (S : StOk H p)
    (k : ∀ z H', NmOk z → But p H H' → StOk H' p → Q (.str z) H') : tOp (rIxL K) (tLst (tCons (tC (.str OWN)) (tCons (tC (.str KNOW)) (tCons (tC (.str USE)) tNil)))) (tCall spDigit [] E0 (tCons (tVar j) (tCons (tC (.int 3)) tNil))) σ H Q := by
  refine ⟨by show 3 ≤ sizeLine; decide, fun l hl => ?_⟩
  have nlp : l ≠ p := st_free S hl
  refine ⟨_, hj, p, 3, rfl, S.upd nlp, by decide, by decide, fun d H' a b B' S' => ?_⟩
  obtain ⟨o, ho, ok⟩ := word3_at a b
  exact rdList (B' l _ nlp upd_same) (j := d.toNat) (by omega) ho (k o H' ok (fun q o n e => B' q o n (by rw [upd_ne (ne_of_none e hl)]; exact e)) S')
theorem rows_set {K : PySem.W.Frag} {H : Hp} {t : Addr} {x : List V} (h : SqT K H t x) : ∀ {us : List Addr} {rs : List (List V)} (j : Nat), RowsAt K H us rs → RowsAt K H (us.set j t) (rs.set j x)
  | [], [], _, _ => True.intro
  | _ :: _, _ :: _, 0, q => ⟨h, q.2⟩
  | _ :: _, _ :: _, j + 1, q => ⟨q.1, rows_set h j q.2⟩
  | [], _ :: _, _, q => q.elim
  | _ :: _, [], _, q => q.elim
/-- the list of a changed pattern, F, and its two own lists -/
structure Fnd (K : PySem.W.Frag) (H : Hp) (F lv lc g : Addr) (us qs : List Addr) (r : RlD) : Prop where
  nv : lv ≠ F
  nc : lc ≠ F
  vc : lv ≠ lc
  h1 : H F = some (.lst [.str r.p.nm, .ref lv, .ref lc, .ref g, .str r.bh])
  h2 : H lv = some (.lst (us.map V.ref))
  h3 : RowsAt K H us (r.p.vars.map varV)
  h4 : H lc = some (.lst (qs.map V.ref))
  h5 : RowsAt K H qs (r.p.cs.map triV)
  h6 : H g = some (.tup (triV r.g))
theorem Fnd.pts {K : PySem.W.Frag} {H : Hp} {F lv lc g : Addr} {us qs : List Addr} {r : RlD} (h : Fnd K H F lv lc g us qs r) : PtsAt K H F r := ⟨lv, lc, g, us, qs, h.h1, h.h2, h.h3, h.h4, h.h5, h.h6⟩
theorem Fnd.kp {K : PySem.W.Frag} {H H' : Hp} {F lv lc g : Addr} {us qs : List Addr} {r : RlD} (k : Kp H H') (h : Fnd K H F lv lc g us qs r) : Fnd K H' F lv lc g us qs r := ⟨h.nv, h.nc, h.vc, k _ _ ns_pts h.h1, k _ _ ns_refs h.h2, k.rows h.h3, k _ _ ns_refs h.h4, k.rows h.h5, k _ _ ns_tup h.h6⟩
theorem Fnd.putF {K : PySem.W.Frag} {H : Hp} {F lv lc g g' : Addr} {us qs : List Addr} {r : RlD} (h : Fnd K H F lv lc g us qs r) (nm b : Str) (gt : Tri) (hg : H g' = some (.tup (triV gt))) : Fnd K (upd H F (.lst [.str nm, .ref lv, .ref lc, .ref g', .str b])) F lv lc g' us qs ⟨⟨nm, r.p.vars, r.p.cs⟩, gt, b⟩ :=
  ⟨h.nv, h.nc, h.vc, upd_same, (upd_ne h.nv).trans h.h2, rows_put h.h1 h.h3, (upd_ne h.nc).trans h.h4, rows_put h.h1 h.h5, (upd_ne (ne_of hg h.h1 (by intro z; cases z))).trans hg⟩
theorem Fnd.putV {K : PySem.W.Frag} {H : Hp} {F lv lc g : Addr} {us us' qs : List Addr} {r : RlD} (h : Fnd K H F lv lc g us qs r) (vars : List Var) (hr : RowsAt K H us' (vars.map varV)) : Fnd K (upd H lv (.lst (us'.map V.ref))) F lv lc g us' qs ⟨⟨r.p.nm, vars, r.p.cs⟩, r.g, r.bh⟩ :=
  ⟨h.nv, h.nc, h.vc, (upd_ne h.nv.symm).trans h.h1, upd_same, rows_put h.h2 hr, (upd_ne h.vc.symm).trans h.h4, rows_put h.h2 h.h5, (upd_ne (ne_of h.h6 h.h2 (by intro z; cases z))).trans h.h6⟩
theorem Fnd.putC {K : PySem.W.Frag} {H : Hp} {F lv lc g : Addr} {us qs qs' : List Addr} {r : RlD} (h : Fnd K H F lv lc g us qs r) (cs : List Tri) (hr : RowsAt K H qs' (cs.map triV)) : Fnd K (upd H lc (.lst (qs'.map V.ref))) F lv lc g us qs' ⟨⟨r.p.nm, r.p.vars, cs⟩, r.g, r.bh⟩ :=
  ⟨h.nv, h.nc, h.vc, (upd_ne h.nc.symm).trans h.h1, (upd_ne h.vc).trans h.h2, rows_put h.h4 h.h3, upd_same, rows_put h.h4 hr, (upd_ne (ne_of h.h6 h.h4 (by intro z; cases z))).trans h.h6⟩
theorem map_set {us : List Addr} {j : Nat} {t : Addr} : (us.map V.ref).set j (.ref t) = (us.set j t).map V.ref := (List.map_set ..).symm
def spChg (K : PySem.W.Frag) : Sp := fun vs H Q _ => ∃ (p l : Addr) (r : RlD), vs = [.ref p, .ref l] ∧ StOk H p ∧ PtsAt K H l r ∧ Drwn r ∧ ∀ l' H' r', But p H H' → StOk H' p → PtsAt K H' l' r' → Good r' → Q (.ref l') H'
section
variable {P : Program} {w : World} {K : PySem.W.Frag} {mg : Str → Option Value} {base : Heap}
theorem scChg : FnScope ["_law_s", "_law_parts_here", "_law_way", "_law_found", "_law_names_here", "_law_one", "_law_sort", "_law_at", "_law_place", "_law_x", "_law_word", "_law_y"] ["_law_s", "_law_parts_here"] (defScope sChg) := ⟨rfl, rfl, rfl, by decide +kernel, rfl, by decide +kernel, by decide +kernel⟩
theorem ok_chg {f fG fM fR : Addr} {fd dG dM dR : FuncData} (F : Fun K "_law_changed" "_law_changed" sChg f fd) (T : TxB mg) (T3 : Tx3 mg) (DG : Dn K mg "_law_digit" sDigit ["_law_state_here", "_law_base"] fG dG) (DNm : Dn K mg "_law_name" sNam ["_law_s", "_law_taken"] fM dM) (GNm : FnOk P w K mg base CX0 2 fM dM ["_law_s", "_law_taken"] spNam)
    (DRn : Dn K mg "_law_renamed" sRnm ["_law_parts_here", "_law_at"] fR dR) (GRn : FnOk P w K mg base CX0 1 fR dR ["_law_parts_here", "_law_at"] (spRnm K)) :
    FnOk P w K mg base CX0 3 f fd ["_law_s", "_law_parts_here"] (spChg K) := by
  have GG : FnOk P w K mg base CX0 1 fG dG _ spDigit := ok_digit DG.F
  refine F.ok scChg (fun vs H Q E h => ?_) (fun cdv A outer s H vs Q E hr h => ?_)
  · obtain ⟨p, l, r, rfl, _⟩ := h
    rfl
  · obtain ⟨p, l, r, rfl, hS, pts, dr, k⟩ := h
    have hr1 : Room 1 _ := hr.mono (by decide)
    have hr2 : Room 2 _ := hr
    refine ⟨_, (pss_cons (ps_set (i := 2) scChg.nd rfl (Or.inl rfl) (pe_call GG hr1 rfl DG.g DG.F.kp DG.b .nil pass0 (pa_cons (pv 0) (pa_cons pe_int pa_nil))))
      (pss_cons (ps_set (i := 3) scChg.nd rfl (Or.inl rfl) (pe_lst (pa_cons (pe_ix ix_list (pv 1) pe_int (fun _ _ => rfl)) (pa_cons (pe_callTy call_list_of (by rfl) T3.list (by decide +kernel) (pa_cons (pe_ix ix_list (pv 1) pe_int (fun _ _ => rfl)) pa_nil)) (pa_cons (pe_callTy call_list_of (by rfl) T3.list (by decide +kernel) (pa_cons (pe_ix ix_list (pv 1) pe_int (fun _ _ => rfl)) pa_nil)) (pa_cons (pe_ix ix_list (pv 1) pe_int (fun _ _ => rfl)) (pa_cons (pe_ix ix_list (pv 1) pe_int (fun _ _ => rfl)) pa_nil)))))))
      (pss_cons (ps_setLc (i := 4) (own := [("_law_one", 5), ("_law_sort", 6)]) (g := gTup K 2 (gCons (gName 5) (gCons (gName 6) gNil))) (tt := tYes) (te := (tVar 5)) rfl scChg.nd rfl rfl (sw_true rfl rfl rfl (by decide +kernel)) (pi_list (pe_ix ix_list (pv 1) pe_int (fun _ _ => rfl))) (blkOk_by (N := ["_law_s", "_law_parts_here", "_law_way", "_law_found", "_law_names_here", "_law_one", "_law_sort", "_law_at", "_law_place", "_law_x", "_law_word", "_law_y"]) (sc := defScope sChg) (by decide +kernel)) (fun _ _ _ _ _ => (pg_tup rfl (pgs_cons (pg_name (i := 5) scChg.nd rfl (Or.inl rfl)) (pgs_cons (pg_name (i := 6) scChg.nd rfl (Or.inl rfl)) pgs_nil)))) (fun _ _ _ _ _ => pts_nil) (fun _ _ _ _ _ => (pv 5)))
      (pss_cons (ps_set (i := 7) scChg.nd rfl (Or.inl rfl) (pe_call GG hr1 rfl DG.g DG.F.kp DG.b .nil pass0 (pa_cons (pv 0) (pa_cons (pe_callB call_len_seq (by rfl) T.len (by decide +kernel) (pa_cons (pv 4) pa_nil)) pa_nil))))
      (pss_cons (ps_set (i := 8) scChg.nd rfl (Or.inl rfl) (pe_call GG hr1 rfl DG.g DG.F.kp DG.b .nil pass0 (pa_cons (pv 0) (pa_cons (pe_callB call_len_seq (by rfl) T.len (by decide +kernel) (pa_cons (pe_ix ix_list (pv 1) pe_int (fun _ _ => rfl)) pa_nil)) pa_nil))))
      (pss_cons (ps_asg (pe_ix ix_list (pe_ix ix_list (pv 1) pe_int (fun _ _ => rfl)) (pv 8) (fun _ _ => rfl)) (pg_tup rfl (pgs_cons (pg_name (i := 9) scChg.nd rfl (Or.inl rfl)) (pgs_cons (pg_name (i := 10) scChg.nd rfl (Or.inl rfl)) (pgs_cons (pg_name (i := 11) scChg.nd rfl (Or.inl rfl)) pgs_nil)))))
      (pss_cons (ps_if (pt_cmpR op_eq (pv 2) pe_int (nomark _)) (pss_one (ps_asg (pe_call GNm hr2 rfl DNm.g DNm.F.kp DNm.b .nil pass0 (pa_cons (pv 0) (pa_cons (pe_lst pa_nil) pa_nil))) (pg_sub (pv 3) pe_int set_list))) pss_nil)
      (pss_cons (ps_if (pt_cmpR op_eq (pv 2) pe_int (nomark _)) (pss_one (ps_set (i := 3) scChg.nd rfl (Or.inl rfl) (pe_call GRn hr1 rfl DRn.g DRn.F.kp DRn.b .nil pass0 (pa_cons (pv 1) (pa_cons (pv 7) pa_nil))))) pss_nil)
      (pss_cons (ps_if (pt_cmpR op_eq (pv 2) pe_int (nomark _)) (pss_one (ps_asg (pe_tup (pa_cons (pe_ix ix_list (pv 4) (pv 7) (fun _ _ => rfl)) (pa_cons (pe_ix ix_list (pe_lst (pa_cons pe_non (pa_cons pe_str (pa_cons pe_str pa_nil)))) (pe_call GG hr1 rfl DG.g DG.F.kp DG.b .nil pass0 (pa_cons (pv 0) (pa_cons pe_int pa_nil))) (fun _ _ => rfl)) pa_nil))) (pg_sub (pe_ix ix_list (pv 3) pe_int (fun _ _ => rfl)) (pv 7) set_list))) pss_nil)
      (pss_cons (ps_if (pt_cmpR op_eq (pv 2) pe_int (nomark _)) (pss_one (ps_asg (pe_tup (pa_cons (pv 9) (pa_cons (pe_ix ix_list (pe_lst (pa_cons pe_str (pa_cons pe_str (pa_cons pe_str pa_nil)))) (pe_call GG hr1 rfl DG.g DG.F.kp DG.b .nil pass0 (pa_cons (pv 0) (pa_cons pe_int pa_nil))) (fun _ _ => rfl)) (pa_cons (pv 11) pa_nil)))) (pg_sub (pe_ix ix_list (pv 3) pe_int (fun _ _ => rfl)) (pv 8) set_list))) pss_nil)
      (pss_cons (ps_if (pt_cmpR op_eq (pv 2) pe_int (nomark _)) (pss_one (ps_asg (pe_tup (pa_cons (pv 11) (pa_cons (pv 10) (pa_cons (pv 9) pa_nil)))) (pg_sub (pe_ix ix_list (pv 3) pe_int (fun _ _ => rfl)) (pv 8) set_list))) pss_nil)
      (pss_cons (ps_if (pt_cmpR op_eq (pv 2) pe_int (nomark _)) (pss_one (ps_asg (pe_tup (pa_cons (pe_ix ix_list (pv 4) (pv 7) (fun _ _ => rfl)) (pa_cons (pe_ix ix_list (pe_lst (pa_cons pe_str (pa_cons pe_str pa_nil))) (pe_call GG hr1 rfl DG.g DG.F.kp DG.b .nil pass0 (pa_cons (pv 0) (pa_cons pe_int pa_nil))) (fun _ _ => rfl)) (pa_cons (pe_ix ix_list (pv 4) (pe_call GG hr1 rfl DG.g DG.F.kp DG.b .nil pass0 (pa_cons (pv 0) (pa_cons (pe_callB call_len_seq (by rfl) T.len (by decide +kernel) (pa_cons (pv 4) pa_nil)) pa_nil))) (fun _ _ => rfl)) pa_nil)))) (pg_sub (pv 3) pe_int set_list))) pss_nil)
      (pss_cons (ps_if (pt_cmpR op_eq (pv 2) pe_int (nomark _)) (pss_one (ps_asg (pe_ix ix_list (pv 4) (pv 7) (fun _ _ => rfl)) (pg_sub (pv 3) pe_int set_list))) pss_nil)
      (pss_cons (ps_if (pt_cmpR op_eq (pv 2) pe_int (nomark _)) (pss_one (ps_expr (pe_bm PySem.F.plainAttrs_list PySem.F.slot_list_append PySem.F.type_list_append mt_append (pe_ix ix_list (pv 3) pe_int (fun _ _ => rfl)) (pa_cons (pe_tup (pa_cons (pe_ix ix_list (pv 4) (pv 7) (fun _ _ => rfl)) (pa_cons pe_str (pa_cons (pe_ix ix_list (pv 4) (pe_call GG hr1 rfl DG.g DG.F.kp DG.b .nil pass0 (pa_cons (pv 0) (pa_cons (pe_callB call_len_seq (by rfl) T.len (by decide +kernel) (pa_cons (pv 4) pa_nil)) pa_nil))) (fun _ _ => rfl)) pa_nil)))) pa_nil)))) pss_nil)
      (pss_one (ps_ret (pv 3))))))))))))))))), ?_⟩
    rw [show L2.start ["_law_s", "_law_parts_here", "_law_way", "_law_found", "_law_names_here", "_law_one", "_law_sort", "_law_at", "_law_place", "_law_x", "_law_word", "_law_y"] [V.ref p, V.ref l] = [some (.ref p), some (.ref l), none, none, none, none, none, none, none, none, none, none] from rfl]
    obtain ⟨lv, lc, g, us, qs, q1, q2, q3, q4, q5, q6⟩ := id pts
    have vl := q3.len
    have cl := q5.len
    rw [List.length_map] at vl cl
    have v3 := dr.v3
    have v1 := dr.gd.pt.v1
    have c2 := dr.c2
    have c1 := dr.gd.pt.c1
    have n1 : l ≠ p := But.ne hS q1 ns_pts
    have n2 : lv ≠ p := But.ne hS q2 ns_refs
    have n4 : lc ≠ p := But.ne hS q4 ns_refs
    have n6 : g ≠ p := But.ne hS q6 ns_tup
    refine ⟨_, rfl, p, 10, rfl, hS, by decide, by decide, fun way H1 w0 w10 B1 S1 => ?_⟩
    dsimp only [gName, List.set_cons_succ, List.set_cons_zero]
    refine ⟨_, rfl, l, _, 0, _, rfl, rfl, SqL.of (B1 _ _ n1 q1), atI_nat (j := 0) rfl, _, rfl, l, _, 1, _, rfl, rfl, SqL.of (B1 _ _ n1 q1), atI_nat (j := 1) rfl, lv, _, rfl, .inl (SqL.of (B1 _ _ n2 q2)), fun lv2 hlv2 => ?_⟩
    have nlv : lv2 ≠ p := st_free S1 hlv2
    have T2 : Same H1 (upd H1 lv2 (.lst (us.map V.ref))) := Same.upd hlv2
    have e2 : (upd H1 lv2 (.lst (us.map V.ref))) lv2 = some (.lst (us.map V.ref)) := upd_same
    have S2 := S1.same T2
    generalize upd H1 lv2 (.lst (us.map V.ref)) = H2 at T2 e2 S2
    have B02 : But p H H2 := B1.trans (Same.but T2)
    refine ⟨_, rfl, l, _, 2, _, rfl, rfl, SqL.of (B02 _ _ n1 q1), atI_nat (j := 2) rfl, lc, _, rfl, .inl (SqL.of (B02 _ _ n4 q4)), fun lc2 hlc2 => ?_⟩
    have nlc : lc2 ≠ p := st_free S2 hlc2
    have nvc : lv2 ≠ lc2 := ne_of_none e2 hlc2
    have T3' : Same H2 (upd H2 lc2 (.lst (qs.map V.ref))) := Same.upd hlc2
    have e3 : (upd H2 lc2 (.lst (qs.map V.ref))) lc2 = some (.lst (qs.map V.ref)) := upd_same
    have e3v := T3' _ _ e2
    have S3 := S2.same T3'
    generalize upd H2 lc2 (.lst (qs.map V.ref)) = H3 at T3' e3 S3 e3v
    have B03 : But p H H3 := B02.trans (Same.but T3')
    refine ⟨_, rfl, l, _, 3, _, rfl, rfl, SqL.of (B03 _ _ n1 q1), atI_nat (j := 3) rfl, _, rfl, l, _, 4, _, rfl, rfl, SqL.of (B03 _ _ n1 q1), atI_nat (j := 4) rfl, by show 5 ≤ sizeLine; decide, fun F hF => ?_⟩
    have nF : F ≠ p := st_free S3 hF
    have nFv : lv2 ≠ F := ne_of_none e3v hF
    have nFc : lc2 ≠ F := ne_of_none e3 hF
    have T4 : Same H3 (upd H3 F (.lst [.str r.p.nm, .ref lv2, .ref lc2, .ref g, .str r.bh])) := Same.upd hF
    have e4 : (upd H3 F (.lst [.str r.p.nm, .ref lv2, .ref lc2, .ref g, .str r.bh])) F = some (.lst [.str r.p.nm, .ref lv2, .ref lc2, .ref g, .str r.bh]) := upd_same
    have S4 := S3.same T4
    generalize upd H3 F (.lst [.str r.p.nm, .ref lv2, .ref lc2, .ref g, .str r.bh]) = H4 at T4 e4 S4
    have B04 : But p H H4 := B03.trans (Same.but T4)
    have e4v := T4 _ _ e3v
    have e4c := T4 _ _ e3
    have fv : H lv2 = none := B1.free nlv hlv2
    have fc : H lc2 = none := B02.free nlc hlc2
    have fF : H F = none := B03.free nF hF
    dsimp only [gName, List.set_cons_succ, List.set_cons_zero]
    -- the names
    refine ⟨_, rfl, l, _, 1, _, rfl, rfl, SqL.of (B04 _ _ n1 q1), atI_nat (j := 1) rfl, lv, rfl, ⟨_, SqL.of (B04 _ _ n2 q2)⟩, fun N hN => ?_⟩
    have k04 : Kp H H4 := (B1.kp hS).trans ((Same.kp T2).trans ((Same.kp T3').trans (Same.kp T4)))
    refine lc_list (K := K) (a := lv) (xs := us.map V.ref) (fun i H' => Same H4 H' ∧ H' N = some (.lst (((r.p.vars.take i).map (·.1)).map V.str))) ⟨Same.upd hN, upd_same⟩ (fun i H' _ h => SqL.of (h.1 _ _ (B04 _ _ n2 q2))) ?_ ?_
    · rintro i x H5 hx ⟨S5, hD5⟩
      obtain ⟨u2, hu2, rfl⟩ := map_ref_get hx
      obtain ⟨ru2, hru2, hsu2⟩ := q3.get hu2
      obtain ⟨v2, hv2, rfl⟩ := var_get hru2
      refine ⟨u2, _, rfl, same_seqT S5 (k04.sqT hsu2), rfl, _, _, rfl, _, _, rfl, rfl, ?_⟩
      refine ⟨rfl, _, rfl, _, hD5, ?_, fun b o e => ?_, ?_⟩
      · rw [List.length_map, List.length_map, List.length_take]
        exact Nat.lt_of_le_of_lt (show _ ≤ 1000 by omega) (by decide)
      · rw [upd_ne (ne_of_none e hN)]
        exact S5 _ _ e
      · rw [upd_same, List.take_add_one, hv2, List.map_append, List.map_append]
        rfl
    rintro H5 ⟨T5, e5⟩
    rw [List.length_map, vl, List.take_length] at e5
    have S5 := S4.same T5
    have nN : N ≠ p := But.ne S5 e5 ns_strs
    dsimp only [gName, List.set_cons_succ, List.set_cons_zero]
    refine ⟨_, rfl, _, rfl, N, _, rfl, .inl (SqL.of e5), p, _, rfl, S5, by rw [List.length_map, List.length_map]; omega, by rw [List.length_map, List.length_map]; omega, fun at0 H6 at1 at2 B6 S6 => ?_⟩
    rw [List.length_map, List.length_map] at at2
    obtain ⟨aN, rfl⟩ : ∃ n : Nat, at0 = (n : Int) := ⟨at0.toNat, by omega⟩
    have aN' : aN < r.p.vars.length := by omega
    dsimp only [gName, List.set_cons_succ, List.set_cons_zero]
    have B46 : But p H4 H6 := fun q o n e => B6 q o n (T5 _ _ e)
    have B06 : But p H H6 := B04.trans B46
    refine ⟨_, rfl, _, rfl, l, _, 2, _, rfl, rfl, SqL.of (B06 _ _ n1 q1), atI_nat (j := 2) rfl, lc, _, rfl, .inl (SqL.of (B06 _ _ n4 q4)), p, _, rfl, S6, by rw [List.length_map]; omega, by rw [List.length_map]; omega, fun pl0 H7 pl1 pl2 B7 S7 => ?_⟩
    rw [List.length_map] at pl2
    obtain ⟨pN, rfl⟩ : ∃ n : Nat, pl0 = (n : Int) := ⟨pl0.toNat, by omega⟩
    have pN' : pN < r.p.cs.length := by omega
    dsimp only [gName, List.set_cons_succ, List.set_cons_zero]
    have B47 : But p H4 H7 := B46.trans B7
    have B07 : But p H H7 := B04.trans B47
    have k07 : Kp H H7 := k04.trans ((Same.kp T5).trans ((B6.kp S5).trans (B7.kp S6)))
    obtain ⟨t, ht⟩ : ∃ t, r.p.cs[pN]? = some t := ⟨_, List.getElem?_eq_getElem pN'⟩
    obtain ⟨u, hu⟩ : ∃ u, qs[pN]? = some u := ⟨_, List.getElem?_eq_getElem (by omega)⟩
    obtain ⟨ru, hru, hsu⟩ := q5.get hu
    obtain ⟨t', ht', rfl⟩ := tri_get hru
    rw [ht] at ht'
    cases ht'
    obtain ⟨v, hv⟩ : ∃ v, r.p.vars[aN]? = some v := ⟨_, List.getElem?_eq_getElem aN'⟩
    have hum : (qs.map V.ref)[pN]? = some (.ref u) := by rw [List.getElem?_map, hu]; rfl
    refine ⟨_, rfl, l, _, 2, _, rfl, rfl, SqL.of (B07 _ _ n1 q1), atI_nat (j := 2) rfl, _, rfl, rdList (B07 _ _ n4 q4) (j := pN) rfl hum ⟨u, _, rfl, k07.sqT hsu, rfl, _, _, rfl, _, _, rfl, _, _, rfl, rfl, ?_⟩⟩
    dsimp only [gName, List.set_cons_succ, List.set_cons_zero]
    have e7N := B7 _ _ nN (B6 _ _ nN e5)
    have e7F := B47 _ _ nF e4
    have e7v := B47 _ _ nlv e4v
    have e7c := B47 _ _ nlc e4c
    have r7v := k07.rows q3
    have r7c := k07.rows q5
    have e7g := k07 _ _ ns_tup q6
    have fn : Fnd K H7 F lv2 lc2 g us qs r := ⟨nFv, nFc, nvc, e7F, e7v, r7v, e7c, r7c, e7g⟩
    have ins := dr.gd.ins
    have nmA : ((r.p.vars.map (·.1)).map V.str)[aN]? = some (.str v.1) := by
      rw [List.getElem?_map, List.getElem?_map, hv]
      rfl
    clear q1 q2 q4 T2 T3' T4 T5 B1 B02 B03 B04 B6 B7 B46 B47 S1 S2 S3 S4 S5 S6 e2 e3 e3v e4 e4v e4c e5 hlv2 hlc2 hF hN B06
    rcases (by omega : way = 0 ∨ way = 1 ∨ way = 2 ∨ way = 3 ∨ way = 4 ∨ way = 5 ∨ way = 6 ∨ way = 7 ∨ way = 8 ∨ way = 9) with rfl | rfl | rfl | rfl | rfl | rfl | rfl | rfl | rfl | rfl
    · refine ⟨_, rfl, rfl, _, rfl, skipI (by decide) ?_⟩
      refine ⟨_, rfl, rfl, _, rfl, skipI (by decide) ?_⟩
      refine ⟨_, rfl, rfl, _, rfl, skipI (by decide) ?_⟩
      refine ⟨_, rfl, rfl, _, rfl, skipI (by decide) ?_⟩
      refine ⟨_, rfl, rfl, _, rfl, skipI (by decide) ?_⟩
      refine ⟨_, rfl, rfl, _, rfl, skipI (by decide) ?_⟩
      refine ⟨_, rfl, rfl, _, rfl, skipI (by decide) ?_⟩
      refine ⟨_, rfl, rfl, _, rfl, skipI (by decide) ?_⟩
      exact ⟨_, rfl, k F _ _ B07 S7 fn.pts dr.gd⟩
    · refine ⟨_, rfl, rfl, _, rfl, takeI ⟨_, rfl, Nat.zero_le _, fun l0 hl0 => ?_⟩⟩
      have nl0 : l0 ≠ p := st_free S7 hl0
      have T8 : Same H7 (upd H7 l0 (.lst [])) := Same.upd hl0
      refine ⟨p, l0, [], rfl, S7.same T8, nl0, upd_same, by decide, fun nm H8 nm1 nm2 _ B8 S8 => ?_⟩
      have f8 := fn.kp ((Same.kp T8).trans (B8.kp (S7.same T8)))
      refine ⟨_, rfl, F, _, _, 0, rfl, rfl, f8.h1, rfl, ?_⟩
      have f9 := f8.putF nm r.bh r.g f8.h6
      have b9 : But p H (upd H8 F (.lst [.str nm, .ref lv2, .ref lc2, .ref g, .str r.bh])) := but_new (B07.trans ((Same.but T8).trans B8)) nF fF
      refine ⟨_, rfl, rfl, _, rfl, skipI (by decide) ?_⟩
      refine ⟨_, rfl, rfl, _, rfl, skipI (by decide) ?_⟩
      refine ⟨_, rfl, rfl, _, rfl, skipI (by decide) ?_⟩
      refine ⟨_, rfl, rfl, _, rfl, skipI (by decide) ?_⟩
      refine ⟨_, rfl, rfl, _, rfl, skipI (by decide) ?_⟩
      refine ⟨_, rfl, rfl, _, rfl, skipI (by decide) ?_⟩
      refine ⟨_, rfl, rfl, _, rfl, skipI (by decide) ?_⟩
      exact ⟨_, rfl, k F _ _ b9 (S8.upd nF) f9.pts ⟨dr.gd.pt, nmok nm1 nm2, dr.gd.vn, dr.gd.tn⟩⟩
    · refine ⟨_, rfl, rfl, _, rfl, skipI (by decide) ?_⟩
      refine ⟨_, rfl, rfl, _, rfl, takeI ⟨_, rfl, _, rfl, l, aN, r, v, rfl, pts.kp k07, dr, hv, fun l' H8 S8 pt8 => ?_⟩⟩
      dsimp only [gName, List.set_cons_succ, List.set_cons_zero]
      refine ⟨_, rfl, rfl, _, rfl, skipI (by decide) ?_⟩
      refine ⟨_, rfl, rfl, _, rfl, skipI (by decide) ?_⟩
      refine ⟨_, rfl, rfl, _, rfl, skipI (by decide) ?_⟩
      refine ⟨_, rfl, rfl, _, rfl, skipI (by decide) ?_⟩
      refine ⟨_, rfl, rfl, _, rfl, skipI (by decide) ?_⟩
      refine ⟨_, rfl, rfl, _, rfl, skipI (by decide) ?_⟩
      exact ⟨_, rfl, k l' _ _ (B07.trans (Same.but S8)) (S7.same S8) pt8 (dr.ren v.1)⟩
    · refine ⟨_, rfl, rfl, _, rfl, skipI (by decide) ?_⟩
      refine ⟨_, rfl, rfl, _, rfl, skipI (by decide) ?_⟩
      refine ⟨_, rfl, rfl, _, rfl, takeI ⟨_, rfl, _, rfl, rdList e7N (j := aN) rfl nmA (rd_sort3 (j := 0) rfl S7 fun o H8 ok8 B8 S8 => ⟨by show 2 ≤ sizeLine; decide, fun tt htt => ?_⟩)⟩⟩
      have T9 : Same H8 (upd H8 tt (.tup [.str v.1, sortV o])) := Same.upd htt
      have e9 : (upd H8 tt (.tup [.str v.1, sortV o])) tt = some (.tup (varV (v.1, o))) := upd_same
      generalize upd H8 tt (.tup [.str v.1, sortV o]) = H9 at T9 e9
      have f9 := fn.kp ((B8.kp S7).trans (Same.kp T9))
      refine ⟨_, rfl, F, _, 1, _, rfl, rfl, SqL.of f9.h1, atI_nat (j := 1) rfl, _, rfl, lv2, _, _, aN, rfl, rfl, f9.h2, ixN_nat (by rw [List.length_map]; omega), ?_⟩
      rw [map_set]
      have f10 := f9.putV (us' := us.set aN tt) (r.p.vars.set aN (v.1, o)) (by
        rw [List.map_set]
        exact rows_set (SqT.of e9) aN f9.h3)
      have enm : (r.p.vars.set aN (v.1, o)).map (·.1) = r.p.vars.map (·.1) := by
        rw [List.map_set]
        refine List.ext_getElem? fun i => ?_
        by_cases q : aN = i
        · subst q
          rw [List.getElem?_set_self (by rw [List.length_map]; exact aN'), List.getElem?_map, hv]
          rfl
        · rw [List.getElem?_set_ne q]
      refine ⟨_, rfl, rfl, _, rfl, skipI (by decide) ?_⟩
      refine ⟨_, rfl, rfl, _, rfl, skipI (by decide) ?_⟩
      refine ⟨_, rfl, rfl, _, rfl, skipI (by decide) ?_⟩
      refine ⟨_, rfl, rfl, _, rfl, skipI (by decide) ?_⟩
      refine ⟨_, rfl, rfl, _, rfl, skipI (by decide) ?_⟩
      refine ⟨_, rfl, k F _ _ (but_new (B07.trans (B8.trans (Same.but T9))) nlv fv) ((S8.same T9).upd nlv) f10.pts ⟨dr.gd.pt.other enm c1 dr.gd.pt.c3 ins.e1 ins.e2 ins.e3 ins.e4 (fun _ h => h) dr.gd.pt.ap, dr.gd.nm, fun y hy => ?_, dr.gd.tn⟩⟩
      have hy : y ∈ r.p.vars.set aN (v.1, o) := hy
      rcases List.mem_or_eq_of_mem_set hy with q | q
      · exact dr.gd.vn y q
      · rw [q]
        exact ⟨(dr.gd.vn v (List.mem_of_getElem? hv)).1, ok8⟩
    · refine ⟨_, rfl, rfl, _, rfl, skipI (by decide) ?_⟩
      refine ⟨_, rfl, rfl, _, rfl, skipI (by decide) ?_⟩
      refine ⟨_, rfl, rfl, _, rfl, skipI (by decide) ?_⟩
      refine ⟨_, rfl, rfl, _, rfl, takeI ⟨_, rfl, rd_word3 (j := 0) rfl S7 fun w' H8 ok8 B8 S8 => ⟨_, rfl, by show 3 ≤ sizeLine; decide, fun tt htt => ?_⟩⟩⟩
      have T9 : Same H8 (upd H8 tt (.tup [.str t.1, .str w', .str t.2.2])) := Same.upd htt
      have e9 : (upd H8 tt (.tup [.str t.1, .str w', .str t.2.2])) tt = some (.tup (triV (t.1, w', t.2.2))) := upd_same
      generalize upd H8 tt (.tup [.str t.1, .str w', .str t.2.2]) = H9 at T9 e9
      have f9 := fn.kp ((B8.kp S7).trans (Same.kp T9))
      refine ⟨_, rfl, F, _, 2, _, rfl, rfl, SqL.of f9.h1, atI_nat (j := 2) rfl, _, rfl, lc2, _, _, pN, rfl, rfl, f9.h4, ixN_nat (by rw [List.length_map]; omega), ?_⟩
      rw [map_set]
      have f10 := f9.putC (qs' := qs.set pN tt) (r.p.cs.set pN (t.1, w', t.2.2)) (by
        rw [List.map_set]
        exact rows_set (SqT.of e9) pN f9.h5)
      have al : Alk r.p.cs (r.p.cs.set pN (t.1, w', t.2.2)) := alk_set ht (.inl ⟨rfl, rfl⟩)
      refine ⟨_, rfl, rfl, _, rfl, skipI (by decide) ?_⟩
      refine ⟨_, rfl, rfl, _, rfl, skipI (by decide) ?_⟩
      refine ⟨_, rfl, rfl, _, rfl, skipI (by decide) ?_⟩
      refine ⟨_, rfl, rfl, _, rfl, skipI (by decide) ?_⟩
      refine ⟨_, rfl, k F _ _ (but_new (B07.trans (B8.trans (Same.but T9))) nlc fc) ((S8.same T9).upd nlc) f10.pts ⟨dr.gd.pt.other rfl (by show 1 ≤ (r.p.cs.set pN _).length; rw [List.length_set]; exact c1) (by show (r.p.cs.set pN _).length ≤ 3; rw [List.length_set]; exact dr.gd.pt.c3) (fun z hz => ins.e1 z (al.symm.all hz)) ins.e2 ins.e3 ins.e4 (fun z hz => al.all hz) (al.hangs dr.gd.pt.ap), dr.gd.nm, dr.gd.vn, fun y hy => ?_⟩⟩
      have hy : y ∈ r.p.cs.set pN (t.1, w', t.2.2) ++ [r.g] := hy
      rcases List.mem_append.mp hy with q | q
      · rcases List.mem_or_eq_of_mem_set q with q | q
        · exact dr.gd.tn y (List.mem_append_left _ q)
        · rw [q]
          exact ok8
      · exact dr.gd.tn y (List.mem_append_right _ q)
    · refine ⟨_, rfl, rfl, _, rfl, skipI (by decide) ?_⟩
      refine ⟨_, rfl, rfl, _, rfl, skipI (by decide) ?_⟩
      refine ⟨_, rfl, rfl, _, rfl, skipI (by decide) ?_⟩
      refine ⟨_, rfl, rfl, _, rfl, skipI (by decide) ?_⟩
      refine ⟨_, rfl, rfl, _, rfl, takeI ⟨_, rfl, _, rfl, _, rfl, by show 3 ≤ sizeLine; decide, fun tt htt => ?_⟩⟩
      have B8 : But p H7 H7 := But.refl p H7
      have S8 := S7
      obtain ⟨H8, eH⟩ : ∃ H8, H8 = H7 := ⟨_, rfl⟩
      rw [← eH] at htt ⊢
      have B8 : But p H7 H8 := by rw [eH]; exact But.refl p H7
      have S8 : StOk H8 p := by rw [eH]; exact S7
      have T9 : Same H8 (upd H8 tt (.tup [.str t.2.2, .str t.2.1, .str t.1])) := Same.upd htt
      have e9 : (upd H8 tt (.tup [.str t.2.2, .str t.2.1, .str t.1])) tt = some (.tup (triV (t.2.2, t.2.1, t.1))) := upd_same
      generalize upd H8 tt (.tup [.str t.2.2, .str t.2.1, .str t.1]) = H9 at T9 e9
      have f9 := fn.kp ((B8.kp S7).trans (Same.kp T9))
      refine ⟨_, rfl, F, _, 2, _, rfl, rfl, SqL.of f9.h1, atI_nat (j := 2) rfl, _, rfl, lc2, _, _, pN, rfl, rfl, f9.h4, ixN_nat (by rw [List.length_map]; omega), ?_⟩
      rw [map_set]
      have f10 := f9.putC (qs' := qs.set pN tt) (r.p.cs.set pN (t.2.2, t.2.1, t.1)) (by
        rw [List.map_set]
        exact rows_set (SqT.of e9) pN f9.h5)
      have al : Alk r.p.cs (r.p.cs.set pN (t.2.2, t.2.1, t.1)) := alk_set ht (.inr ⟨rfl, rfl⟩)
      refine ⟨_, rfl, rfl, _, rfl, skipI (by decide) ?_⟩
      refine ⟨_, rfl, rfl, _, rfl, skipI (by decide) ?_⟩
      refine ⟨_, rfl, rfl, _, rfl, skipI (by decide) ?_⟩
      refine ⟨_, rfl, k F _ _ (but_new (B07.trans (B8.trans (Same.but T9))) nlc fc) ((S8.same T9).upd nlc) f10.pts ⟨dr.gd.pt.other rfl (by show 1 ≤ (r.p.cs.set pN _).length; rw [List.length_set]; exact c1) (by show (r.p.cs.set pN _).length ≤ 3; rw [List.length_set]; exact dr.gd.pt.c3) (fun z hz => ins.e1 z (al.symm.all hz)) ins.e2 ins.e3 ins.e4 (fun z hz => al.all hz) (al.hangs dr.gd.pt.ap), dr.gd.nm, dr.gd.vn, fun y hy => ?_⟩⟩
      have hy : y ∈ r.p.cs.set pN (t.2.2, t.2.1, t.1) ++ [r.g] := hy
      rcases List.mem_append.mp hy with q | q
      · rcases List.mem_or_eq_of_mem_set q with q | q
        · exact dr.gd.tn y (List.mem_append_left _ q)
        · rw [q]
          exact dr.gd.tn t (List.mem_append_left _ (List.mem_of_getElem? ht))
      · exact dr.gd.tn y (List.mem_append_right _ q)
    · refine ⟨_, rfl, rfl, _, rfl, skipI (by decide) ?_⟩
      refine ⟨_, rfl, rfl, _, rfl, skipI (by decide) ?_⟩
      refine ⟨_, rfl, rfl, _, rfl, skipI (by decide) ?_⟩
      refine ⟨_, rfl, rfl, _, rfl, skipI (by decide) ?_⟩
      refine ⟨_, rfl, rfl, _, rfl, skipI (by decide) ?_⟩
      refine ⟨_, rfl, rfl, _, rfl, takeI ⟨_, rfl, _, rfl, rdList e7N (j := aN) rfl nmA (rd_word (j := 0) rfl S7 fun w' H8 ok8 B8 S8 => rd_pick (i := 4) (j := 0) rfl rfl (B8 _ _ nN e7N) S8 (by rw [List.length_map]; omega) (by rw [List.length_map]; omega) fun y H9 hy B9 S9 => ⟨by show 3 ≤ sizeLine; decide, fun tt htt => ?_⟩)⟩⟩
      have T10 : Same H9 (upd H9 tt (.tup [.str v.1, .str w', .str y])) := Same.upd htt
      have e10 : (upd H9 tt (.tup [.str v.1, .str w', .str y])) tt = some (.tup (triV (v.1, w', y))) := upd_same
      generalize upd H9 tt (.tup [.str v.1, .str w', .str y]) = H10 at T10 e10
      have f10 := fn.kp ((B8.kp S7).trans ((B9.kp S8).trans (Same.kp T10)))
      refine ⟨_, rfl, F, _, _, 3, rfl, rfl, f10.h1, rfl, ?_⟩
      have f11 := f10.putF r.p.nm r.bh (v.1, w', y) e10
      have b11 : But p H (upd H10 F (.lst [.str r.p.nm, .ref lv2, .ref lc2, .ref tt, .str r.bh])) := but_new (B07.trans (B8.trans (B9.trans (Same.but T10)))) nF fF
      refine ⟨_, rfl, rfl, _, rfl, skipI (by decide) ?_⟩
      refine ⟨_, rfl, rfl, _, rfl, skipI (by decide) ?_⟩
      refine ⟨_, rfl, k F _ _ b11 ((S9.same T10).upd nF) f11.pts ⟨dr.gd.pt.other rfl c1 dr.gd.pt.c3 ins.e1 (List.mem_map_of_mem (List.mem_of_getElem? hv)) hy ins.e4 (fun _ h => h) dr.gd.pt.ap, dr.gd.nm, dr.gd.vn, fun z hz => ?_⟩⟩
      rcases List.mem_append.mp hz with q | q
      · exact dr.gd.tn z (List.mem_append_left _ q)
      · rw [List.mem_singleton.mp q]
        exact ok8
    · refine ⟨_, rfl, rfl, _, rfl, skipI (by decide) ?_⟩
      refine ⟨_, rfl, rfl, _, rfl, skipI (by decide) ?_⟩
      refine ⟨_, rfl, rfl, _, rfl, skipI (by decide) ?_⟩
      refine ⟨_, rfl, rfl, _, rfl, skipI (by decide) ?_⟩
      refine ⟨_, rfl, rfl, _, rfl, skipI (by decide) ?_⟩
      refine ⟨_, rfl, rfl, _, rfl, skipI (by decide) ?_⟩
      refine ⟨_, rfl, rfl, _, rfl, takeI ⟨_, rfl, _, rfl, rdList e7N (j := aN) rfl nmA ⟨_, rfl, F, _, _, 4, rfl, rfl, fn.h1, rfl, ?_⟩⟩⟩
      have f8 := fn.putF r.p.nm v.1 r.g fn.h6
      have b8 : But p H (upd H7 F (.lst [.str r.p.nm, .ref lv2, .ref lc2, .ref g, .str v.1])) := but_new B07 nF fF
      refine ⟨_, rfl, rfl, _, rfl, skipI (by decide) ?_⟩
      exact ⟨_, rfl, k F _ _ b8 (S7.upd nF) f8.pts ⟨dr.gd.pt.other rfl c1 dr.gd.pt.c3 ins.e1 ins.e2 ins.e3 (List.mem_map_of_mem (List.mem_of_getElem? hv)) (fun _ h => h) dr.gd.pt.ap, dr.gd.nm, dr.gd.vn, dr.gd.tn⟩⟩
    · refine ⟨_, rfl, rfl, _, rfl, skipI (by decide) ?_⟩
      refine ⟨_, rfl, rfl, _, rfl, skipI (by decide) ?_⟩
      refine ⟨_, rfl, rfl, _, rfl, skipI (by decide) ?_⟩
      refine ⟨_, rfl, rfl, _, rfl, skipI (by decide) ?_⟩
      refine ⟨_, rfl, rfl, _, rfl, skipI (by decide) ?_⟩
      refine ⟨_, rfl, rfl, _, rfl, skipI (by decide) ?_⟩
      refine ⟨_, rfl, rfl, _, rfl, skipI (by decide) ?_⟩
      refine ⟨_, rfl, rfl, _, rfl, takeI ⟨_, rfl, F, _, 2, _, rfl, rfl, SqL.of fn.h1, atI_nat (j := 2) rfl, .inl ⟨rfl, _, SqL.of fn.h4⟩, _, rfl, _, rfl, rdList e7N (j := aN) rfl nmA (rd_pick (i := 4) (j := 0) rfl rfl e7N S7 (by rw [List.length_map]; omega) (by rw [List.length_map]; omega) fun y H8 hy B8 S8 => ⟨by show 3 ≤ sizeLine; decide, fun tt htt => ?_⟩)⟩⟩
      have T9 : Same H8 (upd H8 tt (.tup [.str v.1, .str OWN, .str y])) := Same.upd htt
      have e9 : (upd H8 tt (.tup [.str v.1, .str OWN, .str y])) tt = some (.tup (triV (v.1, OWN, y))) := upd_same
      generalize upd H8 tt (.tup [.str v.1, .str OWN, .str y]) = H9 at T9 e9
      have f9 := fn.kp ((B8.kp S7).trans (Same.kp T9))
      refine ⟨lc2, _, _, rfl, rfl, f9.h4, by rw [List.length_map]; exact Nat.lt_of_le_of_lt (show _ ≤ 1000 by omega) (by decide), ?_⟩
      rw [show qs.map V.ref ++ [V.ref tt] = (qs ++ [tt]).map V.ref by rw [List.map_append]; rfl]
      have f10 := f9.putC (qs' := qs ++ [tt]) (r.p.cs ++ [(v.1, OWN, y)]) (by
        rw [List.map_append]
        exact RowsAt.append f9.h5 ⟨SqT.of e9, True.intro⟩)
      have vm : v.1 ∈ r.p.vars.map (·.1) := List.mem_map_of_mem (List.mem_of_getElem? hv)
      refine ⟨_, rfl, k F _ _ (but_new (B07.trans (B8.trans (Same.but T9))) nlc fc) ((S8.same T9).upd nlc) f10.pts ⟨dr.gd.pt.other rfl (by show 1 ≤ (r.p.cs ++ [_]).length; rw [List.length_append]; omega) (by show (r.p.cs ++ [_]).length ≤ 3; rw [List.length_append, List.length_singleton]; omega) (fun z hz => ?_) ins.e2 ins.e3 ins.e4 (fun z hz => ?_) (fun i u hi hu => ?_), dr.gd.nm, dr.gd.vn, fun z hz => ?_⟩⟩
      · have hz : z ∈ endsL (r.p.cs ++ [(v.1, OWN, y)]) := hz
        rw [endsL_app] at hz
        rcases List.mem_append.mp hz with q | q
        · exact ins.e1 z q
        · obtain ⟨u, hu, e⟩ := mem_ends q
          rw [List.mem_singleton.mp hu] at e
          rcases e with e | e <;> rw [e] <;> assumption
      · show z ∈ endsL (r.p.cs ++ [(v.1, OWN, y)])
        rw [endsL_app]
        exact List.mem_append_left _ hz
      · have hu : (r.p.cs ++ [(v.1, OWN, y)])[i]? = some u := hu
        show u.1 ∈ endsL ((r.p.cs ++ [(v.1, OWN, y)]).take i) ∨ u.2.2 ∈ endsL ((r.p.cs ++ [(v.1, OWN, y)]).take i)
        by_cases q : i < r.p.cs.length
        · rw [List.getElem?_append_left q] at hu
          rw [List.take_append_of_le_length (by omega)]
          exact dr.gd.pt.ap i u hi hu
        · have e : i = r.p.cs.length := by
            have q2 := (List.getElem?_eq_some_iff.mp hu).1
            rw [List.length_append, List.length_singleton] at q2
            omega
          subst e
          rw [List.getElem?_append_right (Nat.le_refl _), Nat.sub_self] at hu
          cases hu
          rw [List.take_left]
          exact .inl (dr.gd.pt.lo v.1 vm)
      · have hz : z ∈ (r.p.cs ++ [(v.1, OWN, y)]) ++ [r.g] := hz
        rcases List.mem_append.mp hz with q | q
        · rcases List.mem_append.mp q with q | q
          · exact dr.gd.tn z (List.mem_append_left _ q)
          · rw [List.mem_singleton.mp q]
            exact ok_own
        · exact dr.gd.tn z (List.mem_append_right _ q)
    · refine ⟨_, rfl, rfl, _, rfl, skipI (by decide) ?_⟩
      refine ⟨_, rfl, rfl, _, rfl, skipI (by decide) ?_⟩
      refine ⟨_, rfl, rfl, _, rfl, skipI (by decide) ?_⟩
      refine ⟨_, rfl, rfl, _, rfl, skipI (by decide) ?_⟩
      refine ⟨_, rfl, rfl, _, rfl, skipI (by decide) ?_⟩
      refine ⟨_, rfl, rfl, _, rfl, skipI (by decide) ?_⟩
      refine ⟨_, rfl, rfl, _, rfl, skipI (by decide) ?_⟩
      refine ⟨_, rfl, rfl, _, rfl, skipI (by decide) ?_⟩
      exact ⟨_, rfl, k F _ _ B07 S7 fn.pts dr.gd⟩
end
end Wm
namespace Wm
open PySem L2 StX
theorem RlAt.put {K : PySem.W.Frag} {B D : Addr} {H : Hp} {a : Addr} {r : RlD} {xs : List V} {o : HO} (hD : H D = some (.lst xs)) (h : RlAt K B H a r) : RlAt K B (upd H D o) a r := by
  obtain ⟨d, t1, t2, t3, ps, qs, h0, h1, h2, h3, h4, h5⟩ := h
  exact ⟨d, t1, t2, t3, ps, qs, (upd_ne (ne_of h0 hD (by intro z; cases z))).trans h0, sqT_put hD h1, rows_put hD h2, sqT_put hD h3, rows_put hD h4, sqT_put hD h5⟩
theorem BrAt.put {K : PySem.W.Frag} {B D : Addr} {H : Hp} {a : Addr} {r : PtD} {xs : List V} {o : HO} (hD : H D = some (.lst xs)) (h : BrAt K B H a r) : BrAt K B (upd H D o) a r := by
  obtain ⟨d, t1, t2, ps, qs, h0, h1, h2, h3, h4⟩ := h
  exact ⟨d, t1, t2, ps, qs, (upd_ne (ne_of h0 hD (by intro z; cases z))).trans h0, sqT_put hD h1, rows_put hD h2, sqT_put hD h3, rows_put hD h4⟩
theorem PatOk.less {vars : List Var} {cs : List Tri} {g : Tri} {h : Str} (k : PatOk vars cs [g] [h]) : PatOk vars cs [] [] :=
  ⟨k.v1, k.v4, k.c1, k.c3, by show 0 ≤ 1; decide, by show 0 ≤ 1; decide, k.tw, fun z hz => k.en z (by
    rw [List.append_nil, List.append_nil] at hz
    rw [endsL_app]
    exact List.mem_append_left _ (List.mem_append_left _ hz)), k.lo, k.ap⟩
theorem Good.textsB {r : RlD} (h : Good r) : ∀ z ∈ textsL r.p.nm r.p.vars r.p.cs, isNm z = true ∧ z.length ≤ 12 := fun z hz => by
  unfold textsL at hz
  rcases List.mem_append.mp hz with hz | hz
  · rcases List.mem_cons.mp hz with rfl | hz
    · exact ⟨h.nm.1, h.nm.2.1⟩
    · obtain ⟨v, hv, hz⟩ := List.mem_flatMap.mp hz
      have q := h.vn v hv
      unfold varT at hz
      rcases List.mem_cons.mp hz with rfl | hz
      · exact ⟨q.1.1, q.1.2.1⟩
      · have q2 := q.2 z (Option.mem_toList.mp hz)
        exact ⟨q2.1, q2.2.1⟩
  · obtain ⟨t, ht, rfl⟩ := List.mem_map.mp hz
    have q := h.tn t (List.mem_append_left _ ht)
    exact ⟨q.1, q.2.1⟩
theorem Good.texts {r : RlD} (h : Good r) : ∀ z ∈ textsL r.p.nm r.p.vars (r.p.cs ++ [r.g]), isNm z = true ∧ z.length ≤ 12 := fun z hz => by
  unfold textsL at hz
  rcases List.mem_append.mp hz with hz | hz
  · exact h.textsB z (by unfold textsL; exact List.mem_append_left _ hz)
  · obtain ⟨t, ht, rfl⟩ := List.mem_map.mp hz
    have q := h.tn t ht
    exact ⟨q.1, q.2.1⟩
/-- how the object stands that was made of r -/
def ObAt (K : PySem.W.Frag) (RB BB : Addr) (b : Bool) (H : Hp) (x : Addr) (r : RlD) : Prop := if b = true then BrAt K BB H x r.p else RlAt K RB H x r
theorem ObAt.same {K : PySem.W.Frag} {RB BB : Addr} {b : Bool} {H H' : Hp} {x : Addr} {r : RlD} (s : Same H H') (h : ObAt K RB BB b H x r) : ObAt K RB BB b H' x r := by
  cases b
  · exact RlAt.same s h
  · exact BrAt.same s h
def spMad (K : PySem.W.Frag) (RB BB : Addr) : Sp := fun vs H Q _ => ∃ (l : Addr) (b : Bool) (r : RlD), vs = [.ref l, .bl b] ∧ PtsAt K H l r ∧ Good r ∧ ∀ x H', H x = none → Same H H' → ObAt K RB BB b H' x r → Q (.ref x) H'
def spSty (K : PySem.W.Frag) (RB BB : Addr) : Sp := fun vs H Q _ => ∃ (x l : Addr) (b : Bool) (r : RlD), vs = [.ref x, .ref l, .bl b] ∧ PtsAt K H l r ∧ Good r ∧ ObAt K RB BB b H x r ∧ ∀ H', Same H H' → Q (.bl true) H'
section
variable {P : Program} {w : World} {K : PySem.W.Frag} {mg : Str → Option Value} {base : Heap}
theorem scMad : FnScope ["_law_parts_here", "_law_bar", "_law_variables", "_law_conditions", "_law_found"] ["_law_parts_here", "_law_bar"] (defScope sMad) := ⟨rfl, rfl, rfl, by decide +kernel, rfl, by decide +kernel, by decide +kernel⟩
theorem ok_mad {f RB fR BB fB C : Addr} {fd dR dB : FuncData} (F : Fun K "_law_made" "_law_made" sMad f fd) (T3 : Tx3 mg) (TR : TxRul K mg RB fR) (bR : Binds K dR ["self", "name", "variables", "conditions", "gives", "by"] []) (GR : FnOk P w K mg base (L2.CX P w) 6 fR dR ["self", "name", "variables", "conditions", "gives", "by"] (spRul K C RB))
    (TB : TxBar K mg BB fB) (bB : Binds K dB ["self", "name", "variables", "conditions"] []) (GB : FnOk P w K mg base (L2.CX P w) 6 fB dB ["self", "name", "variables", "conditions"] (spBar K C BB)) :
    FnOk P w K mg base CX0 8 f fd ["_law_parts_here", "_law_bar"] (spMad K RB BB) := by
  refine F.ok scMad (fun vs H Q E h => ?_) (fun cdv A outer s H vs Q E hr h => ?_)
  · obtain ⟨l, b, r, rfl, _⟩ := h
    rfl
  · obtain ⟨l, b, r, rfl, ⟨lv, lc, g, us, qs, q1, q2, q3, q4, q5, q6⟩, gd, k⟩ := h
    have hr7 : Room 7 _ := hr
    refine ⟨_, (pss_cons (ps_set (i := 2) scMad.nd rfl (Or.inl rfl) (pe_callTy call_list_of (by rfl) T3.list (by decide +kernel) (pa_cons (pe_ix ix_list (pv 0) pe_int (fun _ _ => rfl)) pa_nil)))
      (pss_cons (ps_set (i := 3) scMad.nd rfl (Or.inl rfl) (pe_callTy call_list_of (by rfl) T3.list (by decide +kernel) (pa_cons (pe_ix ix_list (pv 0) pe_int (fun _ _ => rfl)) pa_nil)))
      (pss_cons (ps_if (pt_val (pv 1)) (pss_one (ps_set (i := 4) scMad.nd rfl (Or.inl rfl) (pe_make TB.m GB hr7 rfl TB.g bB .nil passL (pa_cons (pe_ix ix_list (pv 0) pe_int (fun _ _ => rfl)) (pa_cons (pv 2) (pa_cons (pv 3) pa_nil)))))) (pss_one (ps_set (i := 4) scMad.nd rfl (Or.inl rfl) (pe_make TR.m GR hr7 rfl TR.g bR .nil passL (pa_cons (pe_ix ix_list (pv 0) pe_int (fun _ _ => rfl)) (pa_cons (pv 2) (pa_cons (pv 3) (pa_cons (pe_ix ix_list (pv 0) pe_int (fun _ _ => rfl)) (pa_cons (pe_ix ix_list (pv 0) pe_int (fun _ _ => rfl)) pa_nil)))))))))
      (pss_cons (ps_expr (pe_bm PySem.F.plainAttrs_list PySem.F.slot_list_append PySem.F.type_list_append mt_append (pv 2) (pa_cons (pe_tup (pa_cons pe_str (pa_cons pe_non pa_nil))) pa_nil)))
      (pss_cons (ps_asg (pe_tup (pa_cons pe_str (pa_cons pe_str (pa_cons pe_str pa_nil)))) (pg_sub (pv 3) pe_int set_list))
      (pss_one (ps_ret (pv 4)))))))), ?_⟩
    rw [show L2.start ["_law_parts_here", "_law_bar", "_law_variables", "_law_conditions", "_law_found"] [V.ref l, V.bl b] = [some (.ref l), some (.bl b), none, none, none] from rfl]
    have vl := q3.len
    have cl := q5.len
    rw [List.length_map] at vl cl
    have v4 := gd.pt.v4
    have c1 := gd.pt.c1
    refine ⟨_, rfl, l, _, 1, _, rfl, rfl, SqL.of q1, atI_nat (j := 1) rfl, lv, _, rfl, .inl (SqL.of q2), fun v hv => ?_⟩
    dsimp only [gName, List.set_cons_succ, List.set_cons_zero]
    have T1 : Same H (upd H v (.lst (us.map V.ref))) := Same.upd hv
    have e1 : (upd H v (.lst (us.map V.ref))) v = some (.lst (us.map V.ref)) := upd_same
    generalize upd H v (.lst (us.map V.ref)) = H1 at T1 e1
    refine ⟨_, rfl, l, _, 2, _, rfl, rfl, SqL.of (T1 _ _ q1), atI_nat (j := 2) rfl, lc, _, rfl, .inl (SqL.of (T1 _ _ q4)), fun c hc => ?_⟩
    dsimp only [gName, List.set_cons_succ, List.set_cons_zero]
    have nvc : v ≠ c := ne_of_none e1 hc
    have fc : H c = none := T1.free hc
    have T2 : Same H1 (upd H1 c (.lst (qs.map V.ref))) := Same.upd hc
    have e2 : (upd H1 c (.lst (qs.map V.ref))) c = some (.lst (qs.map V.ref)) := upd_same
    have e2v := T2 _ _ e1
    generalize upd H1 c (.lst (qs.map V.ref)) = H2 at T2 e2 e2v
    have S2 := T1.trans T2
    -- the object
    refine cut1 (fun σ' H' => ∃ x, σ' = [some (.ref l), some (.bl b), some (.ref v), some (.ref c), some (.ref x)] ∧ H2 x = none ∧ Same H2 H' ∧ ObAt K RB BB b H' x r) ?_ (fun R' fin => ?_)
    · rintro σ' H3 ⟨x, rfl, nx, S3, ob⟩
      have e3 := S3 _ _ e2
      have e3v := S3 _ _ e2v
      refine ⟨_, rfl, .inl ⟨rfl, _, SqL.of e3v⟩, by show 2 ≤ sizeLine; decide, fun t ht => ⟨v, _, _, rfl, rfl, (Same.upd ht) _ _ e3v, by rw [List.length_map]; exact Nat.lt_of_le_of_lt (show _ ≤ 1000 by omega) (by decide), ?_⟩⟩
      have T4 := Same.upd (o := .tup [.str (PySem.Str.ofString "later"), .non]) ht
      have e4v := T4 _ _ e3v
      have e4 := T4 _ _ e3
      have ob4 := ob.same T4
      generalize upd H3 t (.tup [.str (PySem.Str.ofString "later"), .non]) = H4 at T4 e4v e4 ob4
      have e5 : (upd H4 v (.lst (us.map V.ref ++ [V.ref t]))) c = some (.lst (qs.map V.ref)) := (upd_ne nvc.symm).trans e4
      have ob5 : ObAt K RB BB b (upd H4 v (.lst (us.map V.ref ++ [V.ref t]))) x r := by
        cases b
        · exact RlAt.put e4v ob4
        · exact BrAt.put e4v ob4
      have S5 : Same H (upd H4 v (.lst (us.map V.ref ++ [V.ref t]))) := fun q o e => by
        rw [upd_ne (ne_of_none e hv)]
        exact T4 _ _ (S3 _ _ (S2 _ _ e))
      generalize upd H4 v (.lst (us.map V.ref ++ [V.ref t])) = H5 at e5 ob5 S5
      refine ⟨by show 3 ≤ sizeLine; decide, fun t2 ht2 => ⟨_, rfl, c, _, 0, 0, rfl, rfl, (Same.upd ht2) _ _ e5, ixN_nat (n := (qs.map V.ref).length) (j := 0) (by rw [List.length_map]; omega), _, rfl, ?_⟩⟩
      have T6 := Same.upd (o := .tup [.str (PySem.Str.ofString "later"), .str (PySem.Str.ofString "own"), .str (PySem.Str.ofString "later")]) ht2
      have e6 := T6 _ _ e5
      have ob6 := ob5.same T6
      refine k x _ (S2.free nx) (fun q o e => ?_) ?_
      · rw [upd_ne (ne_of_none e fc)]
        exact T6 _ _ (S5 _ _ e)
      · cases b
        · exact RlAt.put e6 ob6
        · exact BrAt.put e6 ob6
    · refine ⟨_, rfl, b, rfl, ?_⟩
      cases b with
      | true =>
        refine iteT ⟨_, rfl, l, _, 0, _, rfl, rfl, SqL.of (S2 _ _ q1), atI_nat (j := 0) rfl, _, rfl, _, rfl, ?_⟩
        refine bar_new (SqL.of e2v) (q3.same S2) (SqL.of e2) (q5.same S2) gd.pt.less gd.textsB fun x H3 nx S3 hat => ?_
        exact fin _ _ ⟨x, rfl, nx, S3, hat⟩
      | false =>
        refine iteF ⟨_, rfl, l, _, 0, _, rfl, rfl, SqL.of (S2 _ _ q1), atI_nat (j := 0) rfl, _, rfl, _, rfl, _, rfl, l, _, 3, _, rfl, rfl, SqL.of (S2 _ _ q1), atI_nat (j := 3) rfl, _, rfl, l, _, 4, _, rfl, rfl, SqL.of (S2 _ _ q1), atI_nat (j := 4) rfl, ?_⟩
        refine rul_new (SqL.of e2v) (q3.same S2) (SqL.of e2) (q5.same S2) (S2 _ _ q6) gd.pt gd.texts fun x H3 nx S3 hat => ?_
        exact fin _ _ ⟨x, rfl, nx, S3, hat⟩
end
end Wm
namespace Wm
open PySem L2 StX
theorem eqS {z : Str} {A B : Prop} (h : B) : if (!decide (V.str z = V.str z)) = true then A else B := by
  rw [decide_eq_true (rfl : V.str z = V.str z)]
  exact iteF h
theorem Good.varOk {r : RlD} (h : Good r) : ∀ v ∈ r.p.vars, VarOk v := fun v hv => ⟨(h.vn v hv).1.2.2, fun z e => ((h.vn v hv).2 z e).2.2⟩
theorem Good.nameOk {r : RlD} (h : Good r) {z : Str} (hz : z ∈ r.p.vars.map (·.1)) : okS z := by
  obtain ⟨v, hv, rfl⟩ := List.mem_map.mp hz
  exact (h.vn v hv).1.2.2
theorem Good.triOk {r : RlD} (h : Good r) : ∀ t ∈ r.p.cs, TriOk t := fun t ht => ⟨h.nameOk (h.ins.e1 _ (ends_mem ht).1), (h.tn t (List.mem_append_left _ ht)).2.2, h.nameOk (h.ins.e1 _ (ends_mem ht).2)⟩
theorem Good.gOk {r : RlD} (h : Good r) : TriOk r.g := ⟨h.nameOk h.ins.e2, (h.tn r.g (List.mem_append_right _ (by simp))).2.2, h.nameOk h.ins.e3⟩
def gbD (r : RlD) : PyData := .tuple [.tuple (triD r.g), .str r.bh]
theorem gb_sh {r : RlD} (h : Good r) : SeqAt.shaped (gbD r) = true := by
  obtain ⟨a, b⟩ := tri_sh h.gOk
  have c := strOk_of (h.nameOk h.ins.e4)
  unfold gbD
  generalize triD r.g = X at a b
  simp [SeqAt.shaped, PyData.canLay0, PyData.canLayAll0, PyData.depth, PyData.depthAll, a, c]
  omega
section
variable {P : Program} {w : World} {K : PySem.W.Frag} {mg : Str → Option Value} {base : Heap}
theorem scSty : FnScope ["_law_one", "_law_parts_here", "_law_bar"] ["_law_one", "_law_parts_here", "_law_bar"] (defScope sSty) := ⟨rfl, rfl, rfl, by decide +kernel, rfl, by decide +kernel, by decide +kernel⟩
theorem ok_sty {f RB fR BB fB : Addr} {fd : FuncData} (F : Fun K "_law_stays" "_law_stays" sSty f fd) (T : TxB mg) (TR : TxRul K mg RB fR) (TB : TxBar K mg BB fB) :
    FnOk P w K mg base CX0 1 f fd ["_law_one", "_law_parts_here", "_law_bar"] (spSty K RB BB) := by
  refine F.ok scSty (fun vs H Q E h => ?_) (fun cdv A outer s H vs Q E hr h => ?_)
  · obtain ⟨x, l, b, r, rfl, _⟩ := h
    rfl
  · obtain ⟨x, l, b, r, rfl, ⟨lv, lc, g, us, qs, q1, q2, q3, q4, q5, q6⟩, gd, ob, k⟩ := h
    refine ⟨_, (pss_cons (ps_if (PW.pt (pw_or (pt_cmpR op_ne (pe_fld (pv 0) rfl) (pe_ix ix_list (pv 1) pe_int (fun _ _ => rfl)) (nomark _)) (pw_or (pt_cmpR (op_neD hr.units) (pe_fld (pv 0) rfl) (pe_callTy call_tupN (by rfl) T.tuple (by decide +kernel) (pa_cons (pe_ix ix_list (pv 1) pe_int (fun _ _ => rfl)) pa_nil)) (nomark _)) (pw_or1 (pt_cmpR (op_neD hr.units) (pe_fld (pv 0) rfl) (pe_callTy call_tupN (by rfl) T.tuple (by decide +kernel) (pa_cons (pe_ix ix_list (pv 1) pe_int (fun _ _ => rfl)) pa_nil)) (nomark _)))))) (pss_one (ps_ret pe_bl)) pss_nil)
      (pss_one (ps_ret (pe_or (pv 2) (pe_one (pe_cmpR (op_eqD hr.units) (pe_tup (pa_cons (pe_fld (pv 0) rfl) (pa_cons (pe_fld (pv 0) rfl) pa_nil))) (pe_tup (pa_cons (pe_ix ix_list (pv 1) pe_int (fun _ _ => rfl)) (pa_cons (pe_ix ix_list (pv 1) pe_int (fun _ _ => rfl)) pa_nil))) (nomark _))))))), ?_⟩
    rw [show L2.start ["_law_one", "_law_parts_here", "_law_bar"] [V.ref x, V.ref l, V.bl b] = [some (.ref x), some (.ref l), some (.bl b)] from rfl]
    have sv := vars_sh gd.varOk
    have sc := tris_sh gd.triOk
    have ev := eqv_self sv
    have ec := eqv_self sc
    have eg := eqv_self (gb_sh gd)
    cases b with
    | true =>
      obtain ⟨d, t1, t2, ps, rs, hx, h1, h2, h3, h4⟩ := ob
      refine ⟨_, rfl, x, BB, d, _, _, rfl, hx, TB.cl, TB.nn, barF_name _ _ _, _, rfl, l, _, 0, _, rfl, rfl, SqL.of q1, atI_nat (j := 0) rfl, rfl, _, rfl, eqS ?_⟩
      refine ⟨_, rfl, x, BB, d, _, _, rfl, hx, TB.cl, TB.nv, barF_vars _ _ _, _, rfl, l, _, 1, _, rfl, rfl, SqL.of q1, atI_nat (j := 1) rfl, lv, _, rfl, .inl ⟨SqL.of q2, fun v hv => ?_⟩⟩
      have T1 : Same H (upd H v (.tup (us.map V.ref))) := Same.upd hv
      have e1 : (upd H v (.tup (us.map V.ref))) v = some (.tup (us.map V.ref)) := upd_same
      generalize upd H v (.tup (us.map V.ref)) = H1 at T1 e1
      refine ⟨rowsD (r.p.vars.map varD), rowsD (r.p.vars.map varD), .tup (same_seqT T1 h1) (dp_rows dp_var (h2.same T1)), .tup (SqT.of e1) (dp_rows dp_var (q3.same T1)), sv, sv, _, rfl, ?_⟩
      rw [ev]
      refine iteF ?_
      refine ⟨_, rfl, x, BB, d, _, _, rfl, T1 _ _ hx, TB.cl, TB.nc, barF_cond _ _ _, _, rfl, l, _, 2, _, rfl, rfl, SqL.of (T1 _ _ q1), atI_nat (j := 2) rfl, lc, _, rfl, .inl ⟨SqL.of (T1 _ _ q4), fun c hc => ?_⟩⟩
      have T2 : Same H1 (upd H1 c (.tup (qs.map V.ref))) := Same.upd hc
      have e2 : (upd H1 c (.tup (qs.map V.ref))) c = some (.tup (qs.map V.ref)) := upd_same
      generalize upd H1 c (.tup (qs.map V.ref)) = H2 at T2 e2
      have S2 := T1.trans T2
      refine ⟨rowsD (r.p.cs.map triD), rowsD (r.p.cs.map triD), .tup (same_seqT S2 h3) (dp_rows dp_tri (h4.same S2)), .tup (SqT.of e2) (dp_rows dp_tri (q5.same S2)), sc, sc, _, rfl, ?_⟩
      rw [ec]
      exact iteF ⟨_, rfl, true, rfl, iteT (k H2 S2)⟩
    | false =>
      obtain ⟨d, t1, t2, t3, ps, rs, hx, h1, h2, h3, h4, h5⟩ := ob
      refine ⟨_, rfl, x, RB, d, _, _, rfl, hx, TR.cl, TR.nn, rulF_name _ _ _ _ _, _, rfl, l, _, 0, _, rfl, rfl, SqL.of q1, atI_nat (j := 0) rfl, rfl, _, rfl, eqS ?_⟩
      refine ⟨_, rfl, x, RB, d, _, _, rfl, hx, TR.cl, TR.nv, rulF_vars _ _ _ _ _, _, rfl, l, _, 1, _, rfl, rfl, SqL.of q1, atI_nat (j := 1) rfl, lv, _, rfl, .inl ⟨SqL.of q2, fun v hv => ?_⟩⟩
      have T1 : Same H (upd H v (.tup (us.map V.ref))) := Same.upd hv
      have e1 : (upd H v (.tup (us.map V.ref))) v = some (.tup (us.map V.ref)) := upd_same
      generalize upd H v (.tup (us.map V.ref)) = H1 at T1 e1
      refine ⟨rowsD (r.p.vars.map varD), rowsD (r.p.vars.map varD), .tup (same_seqT T1 h1) (dp_rows dp_var (h2.same T1)), .tup (SqT.of e1) (dp_rows dp_var (q3.same T1)), sv, sv, _, rfl, ?_⟩
      rw [ev]
      refine iteF ?_
      refine ⟨_, rfl, x, RB, d, _, _, rfl, T1 _ _ hx, TR.cl, TR.nc, rulF_cond _ _ _ _ _, _, rfl, l, _, 2, _, rfl, rfl, SqL.of (T1 _ _ q1), atI_nat (j := 2) rfl, lc, _, rfl, .inl ⟨SqL.of (T1 _ _ q4), fun c hc => ?_⟩⟩
      have T2 : Same H1 (upd H1 c (.tup (qs.map V.ref))) := Same.upd hc
      have e2 : (upd H1 c (.tup (qs.map V.ref))) c = some (.tup (qs.map V.ref)) := upd_same
      generalize upd H1 c (.tup (qs.map V.ref)) = H2 at T2 e2
      have S2 := T1.trans T2
      refine ⟨rowsD (r.p.cs.map triD), rowsD (r.p.cs.map triD), .tup (same_seqT S2 h3) (dp_rows dp_tri (h4.same S2)), .tup (SqT.of e2) (dp_rows dp_tri (q5.same S2)), sc, sc, _, rfl, ?_⟩
      rw [ec]
      refine iteF ⟨_, rfl, false, rfl, iteF ?_⟩
      refine ⟨_, rfl, x, RB, d, _, _, rfl, S2 _ _ hx, TR.cl, TR.ng, rulF_gives _ _ _ _ _, _, rfl, x, RB, d, _, _, rfl, S2 _ _ hx, TR.cl, TR.nb, rulF_by _ _ _ _ _, by show 2 ≤ sizeLine; decide, fun a ha => ?_⟩
      have T3 : Same H2 (upd H2 a (.tup [.ref t3, .str r.bh])) := Same.upd ha
      have e3 : (upd H2 a (.tup [.ref t3, .str r.bh])) a = some (.tup [.ref t3, .str r.bh]) := upd_same
      generalize upd H2 a (.tup [.ref t3, .str r.bh]) = H3 at T3 e3
      have S3 := S2.trans T3
      refine ⟨_, rfl, l, _, 3, _, rfl, rfl, SqL.of (S3 _ _ q1), atI_nat (j := 3) rfl, _, rfl, l, _, 4, _, rfl, rfl, SqL.of (S3 _ _ q1), atI_nat (j := 4) rfl, by show 2 ≤ sizeLine; decide, fun b' hb' => ?_⟩
      have T4 : Same H3 (upd H3 b' (.tup [.ref g, .str r.bh])) := Same.upd hb'
      have e4 : (upd H3 b' (.tup [.ref g, .str r.bh])) b' = some (.tup [.ref g, .str r.bh]) := upd_same
      generalize upd H3 b' (.tup [.ref g, .str r.bh]) = H4 at T4 e4
      have S4 := S3.trans T4
      refine ⟨gbD r, gbD r, .tup (SqT.of (T4 _ _ e3)) (.cons (.tup (same_seqT S4 h5) (dp_tri _)) (.cons (.str _) .nil)), .tup (SqT.of e4) (.cons (.tup (SqT.of (S4 _ _ q6)) (dp_tri _)) (.cons (.str _) .nil)), gb_sh gd, gb_sh gd, ?_⟩
      rw [eg]
      exact k H4 S4
end
end Wm
namespace Wm
open PySem L2 PySem.W
/-- a != b, a of a class with an own __eq__ and no __ne__, b of this or another class -/
def rNeO2 (K : Frag) (C : Addr) (sp : Sp) : V → V → Hp → VK → Prop := fun x y H Q => ∃ (a b D dx dy : Addr) (fs gs : List (Str × V)), x = .ref a ∧ y = .ref b ∧ H a = some (.ins C dx fs) ∧ H b = some (.ins D dy gs) ∧ notFirst K C (.ref D) = true ∧
  sp [.ref a, .ref b] H (fun v H' => ∃ t : Bool, v = .bl t ∧ Q (.bl !t) H') E0
theorem op_neO2 {X : Cx} {C f : Addr} {fd : FuncData} {k : Nat} {sp : Sp} {ps : List Str} (hs : EqNe X.K C f) (F : FnOk X.prog X.w X.K X.mg X.base CX0 k f fd ps sp) (hr : Room (k + 1) X.A) (hb : L2.Binds X.K fd ps []) :
    OpR X (compareOp .NotEq) (rNeO2 X.K C sp) := by
  intro pins s σ H x y v u Q I rx ry h
  obtain ⟨a, b, D, dx, dy, fs, gs, rfl, rfl, ha, hb', hn, h⟩ := h
  cases rx
  cases ry
  have oa := (I.hok a _ ha).2.2.2.1
  obtain ⟨mA, oa', _⟩ := ins_get I.hok ha
  obtain ⟨mB, ob', _⟩ := ins_get I.hok hb'
  obtain ⟨od, J, _⟩ := oa'.look
  obtain ⟨od', J', _⟩ := ob'.look
  have hr1 : Room k X.A.in1 := hr.in1
  have rv : Vals [V.ref a, V.ref b] [Value.ref a, Value.ref b] := .cons rfl (.cons rfl .nil)
  have hl : ([Value.ref a, Value.ref b] ++ []).length = ps.length := F.len _ _ _ _ h
  have bd := hb s [Value.ref a, Value.ref b] I.kIn hl
  rw [List.append_nil] at bd
  have hcall : wpAny (model X.prog X.w) X.A.in1 (call (.ref f) [.ref a, .ref b]) (fun v s' => ∃ t, v = .bool t ∧ EP X pins σ Q (.bool (!t)) s') X.xe s := by
    refine wpAny_call (codeAny_mono (F.run X.A.in1 X.stack s H ⟨[Value.ref a, Value.ref b], []⟩ [Value.ref a, Value.ref b] [V.ref a, V.ref b] _ E0 hr1 I.env0.in1 bd rv h) fun r s' hq => ?_)
    cases r with
    | error e => exact hq.elim
    | ok fl =>
      cases fl with
      | next => exact hq.elim
      | brk => exact hq.elim
      | cont => exact hq.elim
      | ret u =>
        obtain ⟨v, H', I2, rv, t, rfl, q⟩ := I.after (Q := fun v H' => ∃ t : Bool, v = .bl t ∧ Q (.bl !t) H') hq
        cases rv
        exact ⟨t, rfl, .bl !t, H', I2, rfl, q⟩
  have hb1 : Looks (model X.prog X.w) s.heap (typeOf (.ref b)) (.ref D) := InstAt.type J'
  have XK := I.kIn
  have one : wpAny (model X.prog X.w) X.A (tryCompare (.ref a) (cmpInfo .NotEq).2.1 (.ref b)) (fun r s' => ∃ v, r = some v ∧ EP X pins σ Q v s') X.xe s := by
    obtain ⟨hh, g, d, t, os⟩ := s
    exact tryCompare_ne_ownEq PySem.F.cmp_object (hs.at I.kIn oa) hr1.units0 (wpAny_mono hcall (fun v s' ⟨t, e, q⟩ => ⟨t, e, _, rfl, q⟩) fun _ _ e => e)
  show wpAny _ _ (richCompare .NotEq (.ref a) (.ref b)) _ _ _
  have fin : ∀ (go : Option Value → Sem Value), (∀ v, go (some v) = pure v) → wpAny (model X.prog X.w) X.A (tryCompare (.ref a) (cmpInfo .NotEq).2.1 (.ref b) >>= go) (EP X pins σ Q) X.xe s := fun go hgo =>
    wpAny_bind (wpAny_mono one (fun r s1 hz => by
      obtain ⟨v, ev, qv⟩ := hz
      rw [ev, hgo v]
      exact wpAny_pure qv) fun _ _ z => z)
  unfold richCompare
  simp only [oneThing_ref]
  refine wpAny_holding (wpAny_bind (wpAny_cRoomFor hr.units0 ?_))
  refine wpAny_bind ((InstAt.type J).here (wpAny_bind (hb1.here ?_)))
  split
  · rename_i ne
    have nsub : subIn X.K (.ref D) (.ref C) = some false := by
      unfold notFirst at hn
      rcases Bool.or_eq_true_iff.mp hn with z | z
      · rw [beq_iff_eq.mp z] at ne
        simp at ne
      · exact beq_iff_eq.mp z
    refine wpAny_bind ((looks_subIn XK nsub).here ?_)
    simp only [Bool.false_eq_true, if_false]
    exact fin _ fun _ => rfl
  · refine wpAny_bind (wpAny_pure ?_)
    simp only [Bool.false_eq_true, if_false]
    exact fin _ fun _ => rfl
end Wm
namespace Wm
open PySem L2 StX
theorem op_or {X : Cx} {f : Value → Value → Sem Value} {r1 r2 : R2} (h1 : OpR X f r1) (h2 : OpR X f r2) : OpR X f (fun x y H Q => r1 x y H Q ∨ r2 x y H Q) := by
  intro pins s σ H x y v u Q I rx ry h
  rcases h with h | h
  · exact h1 pins s σ H x y v u Q I rx ry h
  · exact h2 pins s σ H x y v u Q I rx ry h
/-! ### when two are alike -/
def eqOf (b0 b1 : Bool) (r r' : RlD) : Bool := match b0, b1 with
  | true, true => sameB r.p.nm r.p.vars r.p.cs r'.p.nm r'.p.vars r'.p.cs
  | false, false => sameR r.p.nm r.p.vars r.p.cs r.g r.bh r'.p.nm r'.p.vars r'.p.cs r'.g r'.bh
  | _, _ => false
def d3 (r : RlD) : PyData := .list [.str r.p.nm, .list ((r.p.vars.map varD).map PyData.tuple), .list ((r.p.cs.map triD).map PyData.tuple)]
def d2 (r : RlD) : PyData := .list [.tuple (triD r.g), .str r.bh]
theorem decS (a b : Str) : decide (a = b) = (a == b) := by
  by_cases e : a = b
  · rw [decide_eq_true e, e]
    exact (beq_self_eq_true b).symm
  · rw [decide_eq_false e]
    exact (beq_eq_false_iff_ne.mpr e).symm
theorem eqv3 (r r' : RlD) : PyData.eqv (d3 r) (d3 r') = sameB r.p.nm r.p.vars r.p.cs r'.p.nm r'.p.vars r'.p.cs := by
  unfold d3 sameB rowsD
  simp only [PyData.eqv, PyData.eqvAll, decS, Bool.and_true]
theorem eqv2 (r r' : RlD) : PyData.eqv (d2 r) (d2 r') = (PyData.eqv (.tuple (triD r.g)) (.tuple (triD r'.g)) && decide (r.bh = r'.bh)) := by
  unfold d2
  simp only [PyData.eqv, PyData.eqvAll, decS, Bool.and_true]
theorem sameR_is (r r' : RlD) : sameR r.p.nm r.p.vars r.p.cs r.g r.bh r'.p.nm r'.p.vars r'.p.cs r'.g r'.bh = (PyData.eqv (d3 r) (d3 r') && PyData.eqv (d2 r) (d2 r')) := by
  rw [eqv3, eqv2]
  unfold sameR sameB
  simp only [Bool.and_assoc]
theorem eqOf_comm (b0 b1 : Bool) (r r' : RlD) : eqOf b1 b0 r' r = eqOf b0 b1 r r' := by
  have a : PyData.eqv (d3 r') (d3 r) = PyData.eqv (d3 r) (d3 r') := PySem.W.eqv_comm _ _
  have b : PyData.eqv (d2 r') (d2 r) = PyData.eqv (d2 r) (d2 r') := PySem.W.eqv_comm _ _
  cases b0 <;> cases b1
  · show sameR _ _ _ _ _ _ _ _ _ _ = sameR _ _ _ _ _ _ _ _ _ _
    rw [sameR_is, sameR_is, a, b]
  · rfl
  · rfl
  · show sameB _ _ _ _ _ _ = sameB _ _ _ _ _ _
    rw [← eqv3, ← eqv3, a]
theorem d3_sh {r : RlD} (h : Good r) : SeqAt.shaped (d3 r) = true := by
  obtain ⟨a1, a2⟩ := tups_sh (rs := r.p.vars.map varD) fun y hy => by
    obtain ⟨v, hv, rfl⟩ := List.mem_map.mp hy
    exact var_sh (h.varOk v hv)
  obtain ⟨b1, b2⟩ := tups_sh (rs := r.p.cs.map triD) fun y hy => by
    obtain ⟨v, hv, rfl⟩ := List.mem_map.mp hy
    exact tri_sh (h.triOk v hv)
  have c := strOk_of h.nm.2.2
  unfold d3
  generalize (r.p.vars.map varD).map PyData.tuple = X at a1 a2
  generalize (r.p.cs.map triD).map PyData.tuple = Y at b1 b2
  simp [SeqAt.shaped, PyData.canLay0, PyData.canLayAll0, PyData.depth, PyData.depthAll, a1, b1, c]
  omega
theorem d2_sh {r : RlD} (h : Good r) : SeqAt.shaped (d2 r) = true := by
  obtain ⟨a, b⟩ := tri_sh h.gOk
  have c := strOk_of (h.nameOk h.ins.e4)
  unfold d2
  generalize triD r.g = X at a b
  simp [SeqAt.shaped, PyData.canLay0, PyData.canLayAll0, PyData.depth, PyData.depthAll, a, c]
  omega
theorem eqV {v : V} {A B : Prop} (h : B) : if (!decide (v = v)) = true then A else B := by
  rw [decide_eq_true (rfl : v = v)]
  exact iteF h
theorem neB {b : Bool} {A B : Prop} (h : B) : if decide (V.bl (!b) = V.bl b) = true then A else B := by
  rw [decide_eq_false fun e => by cases b <;> cases e]
  exact iteF h
/-- what the law asks of the two classes -/
structure Kw3 (P : Program) (w : World) (K : PySem.W.Frag) (mg : Str → Option Value) (base : Heap) (RB fR BB fB fRE fBE : Addr) (dRE dBE : FuncData) : Prop where
  TR : TxRul K mg RB fR
  TB : TxBar K mg BB fB
  tyR : ∀ {H : Hp} {a d : Addr} {fs : List (Str × V)}, H a = some (.ins RB d fs) → TyX K H (.ref a) (.ref RB)
  tyB : ∀ {H : Hp} {a d : Addr} {fs : List (Str × V)}, H a = some (.ins BB d fs) → TyX K H (.ref a) (.ref BB)
  eR : EqNe K RB fRE
  eB : EqNe K BB fBE
  fR : PySem.W.findIn K (.ref RB) "__eq__" = some (some (.ref fRE))
  fB : PySem.W.findIn K (.ref BB) "__eq__" = some (some (.ref fBE))
  iR : PySem.W.isFn K (.ref fRE) = true
  iB : PySem.W.isFn K (.ref fBE) = true
  n1 : PySem.W.notFirst K RB (.ref RB) = true
  n2 : PySem.W.notFirst K RB (.ref BB) = true
  n3 : PySem.W.notFirst K BB (.ref RB) = true
  n4 : PySem.W.notFirst K BB (.ref BB) = true
  k1 : PySem.W.kitOne K (.ref RB) (.ref BB) = some false
  k2 : PySem.W.kitOne K (.ref BB) (.ref RB) = some false
  GRE : FnOk P w K mg base CX0 1 fRE dRE ["self", "other"] (spRE K RB)
  GBE : FnOk P w K mg base CX0 1 fBE dBE ["self", "other"] (spBE K BB)
  bRE : Binds K dRE ["self", "other"] []
  bBE : Binds K dBE ["self", "other"] []
section
variable {P : Program} {w : World} {K : PySem.W.Frag} {mg : Str → Option Value} {base : Heap} {RB fR BB fB fRE fBE : Addr} {dRE dBE : FuncData}
theorem RlAt.rd {H : Hp} {x : Addr} {r : RlD} (h : RlAt K RB H x r) (g : Good r) : ∃ d t1 t2 t3, H x = some (.ins RB d (rulF r.p.nm t1 t2 t3 r.bh)) ∧ RowsD K H t1 t2 r.p.vars r.p.cs ∧ SqT K H t3 (triV r.g) := by
  obtain ⟨d, t1, t2, t3, ps, qs, h0, h1, h2, h3, h4, h5⟩ := h
  exact ⟨d, t1, t2, t3, h0, ⟨⟨ps, qs, h1, h2, h3, h4⟩, vars_sh g.varOk, tris_sh g.triOk⟩, h5⟩
theorem BrAt.rd {H : Hp} {x : Addr} {r : RlD} (h : BrAt K BB H x r.p) (g : Good r) : ∃ d t1 t2, H x = some (.ins BB d (barF r.p.nm t1 t2)) ∧ RowsD K H t1 t2 r.p.vars r.p.cs := by
  obtain ⟨d, t1, t2, ps, qs, h0, h1, h2, h3, h4⟩ := h
  exact ⟨d, t1, t2, h0, ⟨⟨ps, qs, h1, h2, h3, h4⟩, vars_sh g.varOk, tris_sh g.triOk⟩⟩
theorem eq_sp (W : Kw3 P w K mg base RB fR BB fB fRE fBE dRE dBE) {H : Hp} {x y : Addr} {b0 b1 : Bool} {r r' : RlD} (hx : ObAt K RB BB b0 H x r) (hy : ObAt K RB BB b1 H y r') (g : Good r) (g' : Good r') {Q : VK} {E : XK} (k : Q (.bl (eqOf b0 b1 r r')) H) :
    (∃ D dx dy fs gs, b0 = false ∧ H x = some (.ins RB dx fs) ∧ H y = some (.ins D dy gs) ∧ PySem.W.notFirst K RB (.ref D) = true ∧ spRE K RB [.ref x, .ref y] H Q E) ∨ (∃ D dx dy fs gs, b0 = true ∧ H x = some (.ins BB dx fs) ∧ H y = some (.ins D dy gs) ∧ PySem.W.notFirst K BB (.ref D) = true ∧ spBE K BB [.ref x, .ref y] H Q E) := by
  cases b0 <;> cases b1
  · obtain ⟨d, t1, t2, t3, a0, a1, a2⟩ := RlAt.rd hx g
    obtain ⟨d', s1, s2, s3, c0, c1, c2⟩ := RlAt.rd hy g'
    exact .inl ⟨RB, d, d', _, _, rfl, a0, c0, W.n1, x, y, rfl, .inl ⟨d, d', t1, t2, t3, s1, s2, s3, _, _, _, _, _, _, _, _, _, _, a0, c0, W.tyR c0, a1, c1, a2, c2, tri1_sh g.gOk, tri1_sh g'.gOk, k⟩⟩
  · obtain ⟨d, t1, t2, t3, a0, a1, a2⟩ := RlAt.rd hx g
    obtain ⟨d', s1, s2, c0, c1⟩ := BrAt.rd hy g'
    exact .inl ⟨BB, d, d', _, _, rfl, a0, c0, W.n2, x, y, rfl, .inr ⟨BB, W.tyB c0, W.k2, k⟩⟩
  · obtain ⟨d, t1, t2, a0, a1⟩ := BrAt.rd hx g
    obtain ⟨d', s1, s2, s3, c0, c1, c2⟩ := RlAt.rd hy g'
    exact .inr ⟨RB, d, d', _, _, rfl, a0, c0, W.n3, x, y, rfl, .inr ⟨RB, W.tyR c0, W.k1, k⟩⟩
  · obtain ⟨d, t1, t2, a0, a1⟩ := BrAt.rd hx g
    obtain ⟨d', s1, s2, c0, c1⟩ := BrAt.rd hy g'
    exact .inr ⟨BB, d, d', _, _, rfl, a0, c0, W.n4, x, y, rfl, .inl ⟨d, d', t1, t2, s1, s2, _, _, _, _, _, _, a0, c0, W.tyB c0, a1, c1, k⟩⟩
theorem eq_rd (W : Kw3 P w K mg base RB fR BB fB fRE fBE dRE dBE) {H : Hp} {x y : Addr} {b0 b1 : Bool} {r r' : RlD} (hx : ObAt K RB BB b0 H x r) (hy : ObAt K RB BB b1 H y r') (g : Good r) (g' : Good r') {Q : VK} (k : Q (.bl (eqOf b0 b1 r r')) H) : rEqO K RB (spRE K RB) (.ref x) (.ref y) H Q ∨ rEqO K BB (spBE K BB) (.ref x) (.ref y) H Q := by
  rcases eq_sp (Q := fun v H' => ∃ t : Bool, v = .bl t ∧ Q (.bl t) H') (E := E0) W hx hy g g' ⟨_, rfl, k⟩ with ⟨D, dx, dy, fs, gs, _, a, b, n, q⟩ | ⟨D, dx, dy, fs, gs, _, a, b, n, q⟩
  · exact .inl ⟨x, y, D, dx, dy, fs, gs, rfl, rfl, a, b, n, q⟩
  · exact .inr ⟨x, y, D, dx, dy, fs, gs, rfl, rfl, a, b, n, q⟩
theorem ne_rd (W : Kw3 P w K mg base RB fR BB fB fRE fBE dRE dBE) {H : Hp} {x y : Addr} {b0 b1 : Bool} {r r' : RlD} (hx : ObAt K RB BB b0 H x r) (hy : ObAt K RB BB b1 H y r') (g : Good r) (g' : Good r') {Q : VK} (k : Q (.bl (!eqOf b0 b1 r r')) H) : rNeO2 K RB (spRE K RB) (.ref x) (.ref y) H Q ∨ rNeO2 K BB (spBE K BB) (.ref x) (.ref y) H Q := by
  rcases eq_sp (Q := fun v H' => ∃ t : Bool, v = .bl t ∧ Q (.bl !t) H') (E := E0) W hx hy g g' ⟨_, rfl, k⟩ with ⟨D, dx, dy, fs, gs, _, a, b, n, q⟩ | ⟨D, dx, dy, fs, gs, _, a, b, n, q⟩
  · exact .inl ⟨x, y, D, dx, dy, fs, gs, rfl, rfl, a, b, n, q⟩
  · exact .inr ⟨x, y, D, dx, dy, fs, gs, rfl, rfl, a, b, n, q⟩
end
def spLaw (K : PySem.W.Frag) : Sp := fun vs H Q _ => ∃ (a : Addr) (ns : List Int), vs = [.ref a] ∧ SqL K H a (ns.map V.int) ∧ ns.length ≤ 63 ∧ ∀ H', Q (.bl true) H'
section
variable {P : Program} {w : World} {K : PySem.W.Frag} {mg : Str → Option Value} {base : Heap}
theorem scLaw : FnScope ["_law_script", "_law_cell", "_law_s", "_law_bars", "_law_parts_here", "_law_others", "_law_one", "_law_other", "_law_due"] ["_law_script"] (defScope sLaw) := ⟨rfl, rfl, rfl, by decide +kernel, rfl, by decide +kernel, by decide +kernel⟩
theorem ok_law {f fSt fG fP fCh fM fS RB fR BB fB fRE fBE : Addr} {fd dSt dG dP dCh dM dS dRE dBE : FuncData} (F : Fun K "law" "law" sLaw f fd) (T : TxB mg) (T3 : Tx3 mg) (W3 : Kw3 P w K mg base RB fR BB fB fRE fBE dRE dBE)
    (DSt : Dn K mg "_law_state" sState ["_law_cell"] fSt dSt) (DG : Dn K mg "_law_digit" sDigit ["_law_state_here", "_law_base"] fG dG) (DPt : Dn K mg "_law_parts" sPar ["_law_s"] fP dP) (GPt : FnOk P w K mg base CX0 4 fP dP ["_law_s"] (spPar K)) (DCh : Dn K mg "_law_changed" sChg ["_law_s", "_law_parts_here"] fCh dCh) (GCh : FnOk P w K mg base CX0 3 fCh dCh ["_law_s", "_law_parts_here"] (spChg K))
    (DMd : Dn K mg "_law_made" sMad ["_law_parts_here", "_law_bar"] fM dM) (GMd : FnOk P w K mg base CX0 8 fM dM ["_law_parts_here", "_law_bar"] (spMad K RB BB)) (DSy : Dn K mg "_law_stays" sSty ["_law_one", "_law_parts_here", "_law_bar"] fS dS) (GSy : FnOk P w K mg base CX0 1 fS dS ["_law_one", "_law_parts_here", "_law_bar"] (spSty K RB BB)) :
    FnOk P w K mg base CX0 9 f fd ["_law_script"] (spLaw K) := by
  have GSt : FnOk P w K mg base CX0 1 fSt dSt _ spState := ok_state DSt.F T
  have GG : FnOk P w K mg base CX0 1 fG dG _ spDigit := ok_digit DG.F
  refine F.ok scLaw (fun vs H Q E h => ?_) (fun cdv A outer s H vs Q E hr h => ?_)
  · obtain ⟨a, ns, rfl, _⟩ := h
    rfl
  · obtain ⟨a, ns, rfl, hA, hlen, kk⟩ := h
    have hr1 : Room 1 _ := hr.mono (by decide)
    have hr2 : Room 2 _ := hr.mono (by decide)
    have hr3 : Room 3 _ := hr.mono (by decide)
    have hr4 : Room 4 _ := hr.mono (by decide)
    have hr8 : Room 8 _ := hr
    refine ⟨_, (pss_cons (ps_for PassesOwn.never rfl (pi_list (pe_slice sl_list (pe_op op_catR (pv 0) (pe_lst (pa_cons pe_int pa_nil))) po_none (po_some pe_int))) (pg_name (i := 1) scLaw.nd rfl (Or.inl rfl)) (pss_cons (ps_set (i := 2) scLaw.nd rfl (Or.inl rfl) (pe_call GSt hr1 rfl DSt.g DSt.F.kp DSt.b .nil pass0 (pa_cons (pv 1) pa_nil)))
      (pss_cons (ps_set (i := 3) scLaw.nd rfl (Or.inl rfl) (pe_lst (pa_cons (pe_cmpR op_eq (pe_call GG hr1 rfl DG.g DG.F.kp DG.b .nil pass0 (pa_cons (pv 2) (pa_cons pe_int pa_nil))) pe_int (nomark _)) (pa_cons pe_bl pa_nil))))
      (pss_cons (ps_asg (pe_ix ix_list (pv 3) pe_int (fun _ _ => rfl)) (pg_sub (pv 3) pe_int set_list))
      (pss_cons (ps_if (pt_cmpR op_eq (pe_call GG hr1 rfl DG.g DG.F.kp DG.b .nil pass0 (pa_cons (pv 2) (pa_cons pe_int pa_nil))) pe_int (nomark _)) (pss_one (ps_asg (pe_not (pe_ix ix_list (pv 3) pe_int (fun _ _ => rfl))) (pg_sub (pv 3) pe_int set_list))) pss_nil)
      (pss_cons (ps_set (i := 4) scLaw.nd rfl (Or.inl rfl) (pe_call GPt hr4 rfl DPt.g DPt.F.kp DPt.b .nil pass0 (pa_cons (pv 2) pa_nil)))
      (pss_cons (ps_set (i := 5) scLaw.nd rfl (Or.inl rfl) (pe_call GCh hr3 rfl DCh.g DCh.F.kp DCh.b .nil pass0 (pa_cons (pv 2) (pa_cons (pv 4) pa_nil))))
      (pss_cons (ps_set (i := 6) scLaw.nd rfl (Or.inl rfl) (pe_call GMd hr8 rfl DMd.g DMd.F.kp DMd.b .nil pass0 (pa_cons (pv 4) (pa_cons (pe_ix ix_list (pv 3) pe_int (fun _ _ => rfl)) pa_nil))))
      (pss_cons (ps_set (i := 7) scLaw.nd rfl (Or.inl rfl) (pe_call GMd hr8 rfl DMd.g DMd.F.kp DMd.b .nil pass0 (pa_cons (pv 5) (pa_cons (pe_ix ix_list (pv 3) pe_int (fun _ _ => rfl)) pa_nil))))
      (pss_cons (ps_set (i := 8) scLaw.nd rfl (Or.inl rfl) (pe_and (pe_cmpR op_eq (pe_ix ix_list (pv 3) pe_int (fun _ _ => rfl)) (pe_ix ix_list (pv 3) pe_int (fun _ _ => rfl)) (nomark _)) (pe_one (pe_cmpR (op_eqD hr.units) (pe_slice sl_list (pv 4) po_none (po_some pe_int)) (pe_slice sl_list (pv 5) po_none (po_some pe_int)) (nomark _)))))
      (pss_cons (ps_if (pt_not (pt_val (pe_ix ix_list (pv 3) pe_int (fun _ _ => rfl)))) (pss_one (ps_set (i := 8) scLaw.nd rfl (Or.inl rfl) (pe_and (pv 8) (pe_one (pe_cmpR (op_eqD hr.units) (pe_slice sl_list (pv 4) (po_some pe_int) po_none) (pe_slice sl_list (pv 5) (po_some pe_int) po_none) (nomark _)))))) pss_nil)
      (pss_cons (ps_if (PW.pt (pw_or (pt_cmpR op_ne (pe_cmpR (op_or (op_eqO W3.fR W3.iR W3.GRE hr1 W3.bRE) (op_eqO W3.fB W3.iB W3.GBE hr1 W3.bBE)) (pv 6) (pv 7) (nomark _)) (pv 8) (nomark _)) (pw_or (pt_cmpR op_ne (pe_cmpR (op_or (op_eqO W3.fR W3.iR W3.GRE hr1 W3.bRE) (op_eqO W3.fB W3.iB W3.GBE hr1 W3.bBE)) (pv 7) (pv 6) (nomark _)) (pv 8) (nomark _)) (pw_or1 (pt_cmpR op_eq (pe_cmpR (op_or (op_neO2 W3.eR W3.GRE hr2 W3.bRE) (op_neO2 W3.eB W3.GBE hr2 W3.bBE)) (pv 6) (pv 7) (nomark _)) (pv 8) (nomark _)))))) (pss_one (ps_ret pe_bl)) pss_nil)
      (pss_one (ps_if (PW.pt (pw_or (pt_not (pt_val (pe_call GSy hr1 rfl DSy.g DSy.F.kp DSy.b .nil pass0 (pa_cons (pv 6) (pa_cons (pv 4) (pa_cons (pe_ix ix_list (pv 3) pe_int (fun _ _ => rfl)) pa_nil)))))) (pw_or1 (pt_not (pt_val (pe_call GSy hr1 rfl DSy.g DSy.F.kp DSy.b .nil pass0 (pa_cons (pv 7) (pa_cons (pv 5) (pa_cons (pe_ix ix_list (pv 3) pe_int (fun _ _ => rfl)) pa_nil))))))))) (pss_one (ps_ret pe_bl)) pss_nil))))))))))))))
      (pss_one (ps_ret pe_bl))), ?_⟩
    rw [show L2.start ["_law_script", "_law_cell", "_law_s", "_law_bars", "_law_parts_here", "_law_others", "_law_one", "_law_other", "_law_due"] [V.ref a] = [some (.ref a), none, none, none, none, none, none, none, none] from rfl]
    refine ⟨_, rfl, by show 1 ≤ sizeLine; decide, fun l0 n0 => ?_⟩
    have R0 := Same.upd (o := .lst [.int 0]) n0
    refine ⟨a, l0, _, _, rfl, rfl, R0.seq hA, SqL.of upd_same, ?_, fun l1 n1 => ?_⟩
    · rw [List.length_map]
      exact Nat.le_trans (show ns.length + 1 ≤ 1000 by omega) (by decide)
    refine ⟨_, rfl, l1, _, rfl, SqL.of upd_same, fun l2 n2 => ?_⟩
    generalize hH3 : upd (upd (upd H l0 (.lst [.int 0])) l1 (.lst (ns.map V.int ++ [V.int 0]))) l2 (.lst (cutV (ns.map V.int ++ [V.int 0]) none (some 24))) = H3
    have hl2 : H3 l2 = some (.lst ((ns.map V.int ++ [V.int 0]).take 24)) := by
      rw [← hH3, upd_same]
      have e := cut_take (ns.map V.int ++ [V.int 0]) 24
      exact congrArg (fun l => some (HO.lst l)) e
    refine ⟨l2, rfl, ⟨_, SqL.of hl2⟩, for_list (K := K) (a := l2) (xs := (ns.map V.int ++ [V.int 0]).take 24) (fun i σ H' => (∃ u1 u2 u3 u4 u5 u6 u7 u8, σ = [some (.ref a), u1, u2, u3, u4, u5, u6, u7, u8]) ∧ Same H3 H')
      ⟨⟨none, none, none, none, none, none, none, none, rfl⟩, Same.refl _⟩ (fun i σ H' _ q => SqL.of (q.2 _ _ hl2)) ?_ (fun σ H' _ => kk H')⟩
    rintro i y σ Ha hi ⟨⟨u1, u2, u3, u4, u5, u6, u7, u8, rfl⟩, hS⟩
    obtain ⟨c0, rfl⟩ : ∃ c, y = V.int c := by
      have hm := List.mem_of_mem_take (List.mem_of_getElem? hi)
      rcases List.mem_append.mp hm with h | h
      · obtain ⟨c, _, rfl⟩ := List.mem_map.mp h
        exact ⟨c, rfl⟩
      · exact ⟨0, List.mem_singleton.mp h⟩
    dsimp only [gName, List.set_cons_succ, List.set_cons_zero]
    refine ⟨_, rfl, c0, rfl, fun p Hb np Sb stb => ?_⟩
    dsimp only [gName, List.set_cons_succ, List.set_cons_zero]
    have p3 : H3 p = none := hS.free np
    have Sb3 := hS.trans Sb
    -- bars
    refine ⟨_, rfl, p, 2, rfl, stb, by decide, by decide, fun d1 H1 a1 b1 B1 S1 => ⟨rfl, by show 2 ≤ sizeLine; decide, fun L hL => ?_⟩⟩
    dsimp only [gName, List.set_cons_succ, List.set_cons_zero]
    generalize decide (V.int d1 = V.int 1) = b0
    have nLp : L ≠ p := st_free S1 hL
    have SS1 : Same H3 H1 := But.same p3 Sb3 B1
    have L3 : H3 L = none := SS1.free hL
    have T2 : Same H1 (upd H1 L (.lst [.bl b0, .bl false])) := Same.upd hL
    have e2 : (upd H1 L (.lst [.bl b0, .bl false])) L = some (.lst [.bl b0, .bl false]) := upd_same
    have S2 := S1.same T2
    generalize upd H1 L (.lst [.bl b0, .bl false]) = H2 at T2 e2 S2
    have SS2 := SS1.trans T2
    refine ⟨_, rfl, L, _, 0, _, rfl, rfl, SqL.of e2, atI_nat (j := 0) rfl, _, rfl, L, _, 1, 1, rfl, rfl, e2, rfl, ?_⟩
    have e4 : (upd H2 L (.lst ([V.bl b0, .bl false].set 1 (.bl b0)))) L = some (.lst [.bl b0, .bl b0]) := upd_same
    have S4 : StOk (upd H2 L (.lst ([V.bl b0, .bl false].set 1 (.bl b0)))) p := S2.upd nLp
    have SS4 : Same H3 (upd H2 L (.lst ([V.bl b0, .bl false].set 1 (.bl b0)))) := fun q o e => by
      rw [upd_ne (ne_of_none e L3)]
      exact SS2 _ _ e
    generalize upd H2 L (.lst ([V.bl b0, .bl false].set 1 (.bl b0))) = H4 at e4 S4 SS4
    dsimp only
    refine cut1 (fun σ' H' => ∃ b1 : Bool, σ' = [some (.ref a), some (.int c0), some (.ref p), some (.ref L), u4, u5, u6, u7, u8] ∧ Same H3 H' ∧ StOk H' p ∧ H' L = some (.lst [.bl b0, .bl b1])) ?_ (fun R' fin => ?_)
    rotate_left
    · refine ⟨_, rfl, p, 9, rfl, S4, by decide, by decide, fun d5 H5 a5 b5 B5 S5 => ⟨rfl, _, rfl, ?_⟩⟩
      have SS5 : Same H3 H5 := But.same p3 SS4 B5
      have e5 := B5 _ _ nLp e4
      refine ite2 (fun _ => ?_) (fun _ => ?_)
      · refine ⟨_, rfl, L, _, 0, _, rfl, rfl, SqL.of e5, atI_nat (j := 0) rfl, b0, rfl, _, rfl, L, _, 1, 1, rfl, rfl, e5, rfl, ?_⟩
        refine fin _ _ ⟨!b0, rfl, fun q o e => ?_, S5.upd nLp, upd_same⟩
        rw [upd_ne (ne_of_none e L3)]
        exact SS5 _ _ e
      · exact fin _ _ ⟨b0, rfl, SS5, S5, e5⟩
    clear S4 SS4 e4 S2 SS2 e2 T2 SS1 S1 B1 hL
    rintro σ' H5 ⟨b1, rfl, SS5, S5, e5⟩
    -- the two patterns
    refine ⟨_, rfl, p, rfl, S5, fun l H6 r B6 S6 pt6 dr => ?_⟩
    dsimp only [gName, List.set_cons_succ, List.set_cons_zero]
    have SS6 : Same H3 H6 := But.same p3 SS5 B6
    refine ⟨_, rfl, _, rfl, p, l, r, rfl, S6, pt6, dr, fun l' H7 r' B7 S7 pt7 gd' => ?_⟩
    dsimp only [gName, List.set_cons_succ, List.set_cons_zero]
    have SS7 : Same H3 H7 := But.same p3 SS6 B7
    have e7 := B7 _ _ nLp (B6 _ _ nLp e5)
    have pt67 := pt6.kp (B7.kp S6)
    have gd := dr.gd
    refine ⟨_, rfl, _, rfl, L, _, 0, _, rfl, rfl, SqL.of e7, atI_nat (j := 0) rfl, l, b0, r, rfl, pt67, gd, fun x H8 nx S8 ob => ?_⟩
    dsimp only [gName, List.set_cons_succ, List.set_cons_zero]
    refine ⟨_, rfl, _, rfl, L, _, 1, _, rfl, rfl, SqL.of (S8 _ _ e7), atI_nat (j := 1) rfl, l', b1, r', rfl, pt7.kp (Same.kp S8), gd', fun y H9 ny S9 ob' => ?_⟩
    dsimp only [gName, List.set_cons_succ, List.set_cons_zero]
    have S79 : Same H7 H9 := Same.trans S8 S9
    have ob9 := ob.same S9
    have e9 := S79 _ _ e7
    have SS9 := SS7.trans S79
    have pt9 := pt67.kp (Same.kp S79)
    have pt9' := pt7.kp (Same.kp S79)
    obtain ⟨lv, lc, g, us, qs, q1, q2, q3, q4, q5, q6⟩ := id pt9
    obtain ⟨lv', lc', g', us', qs', q1', q2', q3', q4', q5', q6'⟩ := id pt9'
    -- due, first the name, the variables, the conditions
    refine cut1 (fun σ' H' => σ' = [some (.ref a), some (.int c0), some (.ref p), some (.ref L), some (.ref l), some (.ref l'), some (.ref x), some (.ref y), some (.bl (decide (V.bl b0 = V.bl b1) && PyData.eqv (d3 r) (d3 r')))] ∧ Same H9 H') ?_ (fun R' fin => ?_)
    rotate_left
    · refine ⟨_, rfl, L, _, 0, _, rfl, rfl, SqL.of e9, atI_nat (j := 0) rfl, _, rfl, L, _, 1, _, rfl, rfl, SqL.of e9, atI_nat (j := 1) rfl, rfl, _, rfl, ?_⟩
      refine ite2 (fun c => ?_) (fun c => ?_)
      · refine ⟨_, rfl, _, rfl, l, _, rfl, SqL.of q1, fun s1 hs1 => ?_⟩
        rw [show cutV [V.str r.p.nm, .ref lv, .ref lc, .ref g, .str r.bh] none (some 3) = [.str r.p.nm, .ref lv, .ref lc] from rfl]
        have T1 : Same H9 (upd H9 s1 (.lst [.str r.p.nm, .ref lv, .ref lc])) := Same.upd hs1
        have t1 : (upd H9 s1 (.lst [.str r.p.nm, .ref lv, .ref lc])) s1 = some (.lst [.str r.p.nm, .ref lv, .ref lc]) := upd_same
        generalize upd H9 s1 (.lst [.str r.p.nm, .ref lv, .ref lc]) = Ha1 at T1 t1
        refine ⟨_, rfl, _, rfl, l', _, rfl, SqL.of (T1 _ _ q1'), fun s2 hs2 => ?_⟩
        rw [show cutV [V.str r'.p.nm, .ref lv', .ref lc', .ref g', .str r'.bh] none (some 3) = [.str r'.p.nm, .ref lv', .ref lc'] from rfl]
        have T2 : Same Ha1 (upd Ha1 s2 (.lst [.str r'.p.nm, .ref lv', .ref lc'])) := Same.upd hs2
        have t2 : (upd Ha1 s2 (.lst [.str r'.p.nm, .ref lv', .ref lc'])) s2 = some (.lst [.str r'.p.nm, .ref lv', .ref lc']) := upd_same
        generalize upd Ha1 s2 (.lst [.str r'.p.nm, .ref lv', .ref lc']) = Ha2 at T2 t2
        have T12 := T1.trans T2
        refine ⟨d3 r, d3 r', .lst (SqL.of (T2 _ _ t1)) (.cons (.str _) (.cons (.lst (SqL.of (T12 _ _ q2)) (dp_rows dp_var (q3.same T12))) (.cons (.lst (SqL.of (T12 _ _ q4)) (dp_rows dp_tri (q5.same T12))) .nil))), .lst (SqL.of t2) (.cons (.str _) (.cons (.lst (SqL.of (T12 _ _ q2')) (dp_rows dp_var (q3'.same T12))) (.cons (.lst (SqL.of (T12 _ _ q4')) (dp_rows dp_tri (q5'.same T12))) .nil))), d3_sh gd, d3_sh gd', ?_⟩
        exact fin _ _ ⟨by rw [c]; rfl, T12⟩
      · exact fin _ _ ⟨by rw [Bool.eq_false_iff.mpr c]; rfl, Same.refl _⟩
    rintro σ' Hc ⟨rfl, T9⟩
    have ob10 := ob9.same T9
    have ob10' := ob'.same T9
    have e10 := T9 _ _ e9
    have SS10 := SS9.trans T9
    have pt10 := pt9.kp (Same.kp T9)
    have pt10' := pt9'.kp (Same.kp T9)
    clear q1 q2 q3 q4 q5 q6 q1' q2' q3' q4' q5' q6'
    obtain ⟨lv, lc, g, us, qs, q1, q2, q3, q4, q5, q6⟩ := id pt10
    obtain ⟨lv', lc', g', us', qs', q1', q2', q3', q4', q5', q6'⟩ := id pt10'
    refine cut1 (fun σ' H' => σ' = [some (.ref a), some (.int c0), some (.ref p), some (.ref L), some (.ref l), some (.ref l'), some (.ref x), some (.ref y), some (.bl (eqOf b0 b1 r r'))] ∧ Same Hc H') ?_ (fun R' fin => ?_)
    rotate_left
    · refine ⟨_, rfl, L, _, 0, _, rfl, rfl, SqL.of e10, atI_nat (j := 0) rfl, b0, rfl, ?_⟩
      cases b0 with
      | true =>
        refine iteF (fin _ _ ⟨?_, Same.refl _⟩)
        cases b1
        · rfl
        · rw [show eqOf true true r r' = PyData.eqv (d3 r) (d3 r') from (eqv3 r r').symm, decide_eq_true (rfl : V.bl true = V.bl true), Bool.true_and]
      | false =>
        refine iteT ⟨_, rfl, _, rfl, ?_⟩
        refine ite2 (fun c => ?_) (fun c => ?_)
        · obtain ⟨c1, c2⟩ := Bool.and_eq_true_iff.mp c
          have c3 : b1 = false := (V.bl.inj (of_decide_eq_true c1)).symm
          subst c3
          refine ⟨_, rfl, _, rfl, l, _, rfl, SqL.of q1, fun s1 hs1 => ?_⟩
          rw [show cutV [V.str r.p.nm, .ref lv, .ref lc, .ref g, .str r.bh] (some 3) none = [.ref g, .str r.bh] from rfl]
          have T1 : Same Hc (upd Hc s1 (.lst [.ref g, .str r.bh])) := Same.upd hs1
          have t1 : (upd Hc s1 (.lst [.ref g, .str r.bh])) s1 = some (.lst [.ref g, .str r.bh]) := upd_same
          generalize upd Hc s1 (.lst [.ref g, .str r.bh]) = Ha1 at T1 t1
          refine ⟨_, rfl, _, rfl, l', _, rfl, SqL.of (T1 _ _ q1'), fun s2 hs2 => ?_⟩
          rw [show cutV [V.str r'.p.nm, .ref lv', .ref lc', .ref g', .str r'.bh] (some 3) none = [.ref g', .str r'.bh] from rfl]
          have T2 : Same Ha1 (upd Ha1 s2 (.lst [.ref g', .str r'.bh])) := Same.upd hs2
          have t2 : (upd Ha1 s2 (.lst [.ref g', .str r'.bh])) s2 = some (.lst [.ref g', .str r'.bh]) := upd_same
          generalize upd Ha1 s2 (.lst [.ref g', .str r'.bh]) = Ha2 at T2 t2
          have T12 := T1.trans T2
          refine ⟨d2 r, d2 r', .lst (SqL.of (T2 _ _ t1)) (.cons (.tup (SqT.of (T12 _ _ q6)) (dp_tri _)) (.cons (.str _) .nil)), .lst (SqL.of t2) (.cons (.tup (SqT.of (T12 _ _ q6')) (dp_tri _)) (.cons (.str _) .nil)), d2_sh gd, d2_sh gd', ?_⟩
          refine fin _ _ ⟨?_, T12⟩
          have e : eqOf false false r r' = PyData.eqv (d2 r) (d2 r') := by
            show sameR _ _ _ _ _ _ _ _ _ _ = _
            rw [sameR_is, c2, Bool.true_and]
          rw [e]
          rfl
        · refine fin _ _ ⟨?_, Same.refl _⟩
          have e : eqOf false b1 r r' = false := by
            cases b1
            · show sameR _ _ _ _ _ _ _ _ _ _ = _
              rw [sameR_is]
              have c' := Bool.eq_false_iff.mpr c
              rw [decide_eq_true (rfl : V.bl false = V.bl false), Bool.true_and] at c'
              rw [c', Bool.false_and]
            · rfl
          rw [e]
          rfl
    rintro σ' Hd ⟨rfl, T10⟩
    have ob11 := ob10.same T10
    have ob11' := ob10'.same T10
    have e11 := T10 _ _ e10
    have SS11 := SS10.trans T10
    have pt11 := pt10.kp (Same.kp T10)
    have pt11' := pt10'.kp (Same.kp T10)
    refine ⟨_, rfl, _, rfl, eq_rd W3 ob11 ob11' gd gd' ⟨_, rfl, rfl, _, rfl, eqV ?_⟩⟩
    refine ⟨_, rfl, _, rfl, eq_rd W3 ob11' ob11 gd' gd ⟨_, rfl, rfl, _, rfl, ?_⟩⟩
    rw [eqOf_comm b0 b1 r r']
    refine eqV ?_
    refine ⟨_, rfl, _, rfl, ne_rd W3 ob11 ob11' gd gd' ⟨_, rfl, rfl, _, rfl, neB (b := eqOf b0 b1 r r') ?_⟩⟩
    refine ⟨_, rfl, _, rfl, _, rfl, L, _, 0, _, rfl, rfl, SqL.of e11, atI_nat (j := 0) rfl, x, l, b0, r, rfl, pt11, gd, ob11, fun He Se => ⟨true, rfl, iteF ?_⟩⟩
    refine ⟨_, rfl, _, rfl, _, rfl, L, _, 1, _, rfl, rfl, SqL.of (Se _ _ e11), atI_nat (j := 1) rfl, y, l', b1, r', rfl, pt11'.kp (Same.kp Se), gd', ob11'.same Se, fun Hf Sf => ⟨true, rfl, iteF ?_⟩⟩
    exact ⟨⟨_, _, _, _, _, _, _, _, rfl⟩, SS11.trans (Same.trans Se Sf)⟩
end
end Wm
namespace Wm
open PySem L2 He ClX StX
theorem errB_ok {K : PySem.W.Frag} {mg : Str → Option Value} {x f : Str} {C fI : Addr} (h : errB K C fI f = true) (g : mg x = some (.ref C)) : ErrT K mg x f C fI ∧ XfC K C ∧ ExcC K C ∧ PySem.W.exmOne K (.ref C) (.ref C) = some true := by
  unfold errB at h
  obtain ⟨h1, h⟩ := ba h
  obtain ⟨h2, h⟩ := ba h
  obtain ⟨h3, h⟩ := ba h
  obtain ⟨h4, h⟩ := ba h
  obtain ⟨h5, h⟩ := ba h
  obtain ⟨h6, h⟩ := ba h
  obtain ⟨h7, h⟩ := ba h
  obtain ⟨h8, h⟩ := ba h
  obtain ⟨h9, h⟩ := ba h
  obtain ⟨h10, h⟩ := ba h
  obtain ⟨h11, h⟩ := ba h
  obtain ⟨h12, h⟩ := ba h
  obtain ⟨h13, h⟩ := ba h
  obtain ⟨h14, h⟩ := ba h
  obtain ⟨h15, h⟩ := ba h
  obtain ⟨h16, h17⟩ := ba h
  exact ⟨⟨⟨excB_ok h14, eqO_ok h1, of_decide_eq_true h2, of_decide_eq_true h3, h4⟩, g, eqO_ok h13, of_decide_eq_true h5, eqO_ok h6, eqO_ok h7⟩, ⟨eqO_ok h8, eqO_ok h9, of_decide_eq_true h2, h10⟩,
    ⟨eqO_ok h8, eqO_ok h9, of_decide_eq_true h2, h10, eqO_ok h11, eqO_ok h16, of_decide_eq_true h17, of_decide_eq_true h12⟩, of_decide_eq_true h15⟩
theorem strKB_ok {es : Array DictEntry} (h : strKB es = true) : StrKeys es := fun e he => by
  have q := List.all_eq_true.mp h e (by simpa using he)
  cases k : e.key with
  | str n t => exact ⟨n, t, rfl⟩
  | _ =>
    rw [k] at q
    simp at q
theorem eqneB_ok {K : PySem.W.Frag} {C f : Addr} (q : eqneB K C f = true) : EqNe K C f := by
  unfold eqneB at q
  split at q
  · rename_i dd cd sl ho
    split at q
    · rename_i C' k0 k1 k2 k3 n k5 oc od es ep osl of hm hs hN hf
      simp only [Bool.and_eq_true, beq_iff_eq, Bool.not_eq_true'] at q
      obtain ⟨rfl, hdel, h1, h2, h3, h4⟩ := q
      obtain ⟨nm, bs, mro, ns, qn, hd, sn, sub, ab, col, del⟩ := cd
      dsimp only at hm hdel hN
      subst hm hdel
      have hsl : sl = #[k0, k1, k2, k3, some (.builtin n), k5] := by
        obtain ⟨l⟩ := sl
        simp only at hs
        rw [hs]
      subst hsl
      exact ⟨nm, qn, ns, bs, hd, sn, sub, ab, col, dd, k0, k1, k2, k3, k5, n, oc, od, es, ep, osl, of, ho, hN, strKB_ok h1, of_decide_eq_true h2, of_decide_eq_true h3, hf, of_decide_eq_true h4⟩
    · cases q
  · cases q
theorem insB_ok {K : PySem.W.Frag} {C : Addr} (h : insB K C = true) (c : Cls K C) : (∀ {H : Hp} {a d : Addr} {fs : List (Str × V)}, H a = some (.ins C d fs) → TyX K H (.ref a) (.ref C)) ∧ PySem.W.kitOne K (.ref C) (.ref C) = some true := by
  unfold insB at h
  obtain ⟨h1, h⟩ := ba h
  obtain ⟨h2, h⟩ := ba h
  obtain ⟨h3, h⟩ := ba h
  obtain ⟨h4, h5⟩ := ba h
  exact ⟨fun e => .base (.ins e c (eqO_ok h1) (eqO_ok h3) (of_decide_eq_true h4) (of_decide_eq_true h2)), of_decide_eq_true h5⟩
theorem facts {P : Program} {w : World} {K : PySem.W.Frag} {h : Heap} {mg : Str → Option Value} {fa : Addr} (X : K.In h) (G : h.Ns mainGlobals mg) (hfa : mg "law" = some (.ref fa)) (c : SaysM ck fnL K) :
    ∃ fd : FuncData, (∀ (s : Shared) (v : Value), BindsTo s fd ⟨[v], []⟩ [("_law_script", v)]) ∧ ∀ base : Heap, K.In base → base.Ns mainGlobals mg → FnOk P w K mg base CX0 9 fa fd ["_law_script"] (spLaw K) := by
  have q := c.says
  unfold ck at q
  obtain ⟨qf, q⟩ := ba q
  obtain ⟨qw, q⟩ := ba q
  obtain ⟨qe0, q⟩ := ba q
  obtain ⟨qR, q⟩ := ba q
  obtain ⟨qB, q⟩ := ba q
  obtain ⟨iR, q⟩ := ba q
  obtain ⟨iB, q⟩ := ba q
  obtain ⟨fR, q⟩ := ba q
  obtain ⟨fB, q⟩ := ba q
  obtain ⟨n1, q⟩ := ba q
  obtain ⟨n2, q⟩ := ba q
  obtain ⟨n3, q⟩ := ba q
  obtain ⟨n4, q⟩ := ba q
  obtain ⟨k1, k2⟩ := ba q
  obtain ⟨fR, iRf⟩ := ba fR
  obtain ⟨fB, iBf⟩ := ba fB
  have ft : ∀ (i : Nat) {f : Fa}, factL[i]? = some f → f.ok K = true := fun i {f} e => List.all_eq_true.mp qf f (List.mem_of_getElem? e)
  have g_WhoError := glo_ok X G (ft 0 (f := .glo "WhoError") rfl)
  have g_NoName := glo_ok X G (ft 1 (f := .glo "NoName") rfl)
  have g_is_name := glo_ok X G (ft 2 (f := .glo "is_name") rfl)
  obtain ⟨fd_is_name, Fk_is_name⟩ := c.def_ 0 (d := d_is_name) rfl
  have Fk_is_name : FunD K "is_name" "is_name" (defArgs sName) (defBody sName) (defScope sName) [] [] (ga K "is_name") fd_is_name := Fk_is_name
  have F_is_name : Fun K "is_name" "is_name" sName (ga K "is_name") fd_is_name := fun_of Fk_is_name
  have D_is_name : Dn K mg "is_name" sName ["text"] (ga K "is_name") fd_is_name := ⟨F_is_name, g_is_name, F_is_name.binds (ps := ["text"]) fun _ _ _ _ _ _ us hl => match us, hl with | [_], _ => rfl⟩
  have g_refuse_no_name := glo_ok X G (ft 3 (f := .glo "refuse_no_name") rfl)
  obtain ⟨fd_refuse_no_name, Fk_refuse_no_name⟩ := c.def_ 1 (d := d_refuse_no_name) rfl
  have Fk_refuse_no_name : FunD K "refuse_no_name" "refuse_no_name" (defArgs sRN) (defBody sRN) (defScope sRN) [] [] (ga K "refuse_no_name") fd_refuse_no_name := Fk_refuse_no_name
  have F_refuse_no_name : Fun K "refuse_no_name" "refuse_no_name" sRN (ga K "refuse_no_name") fd_refuse_no_name := fun_of Fk_refuse_no_name
  have D_refuse_no_name : Dn K mg "refuse_no_name" sRN ["texts"] (ga K "refuse_no_name") fd_refuse_no_name := ⟨F_refuse_no_name, g_refuse_no_name, F_refuse_no_name.binds (ps := ["texts"]) fun _ _ _ _ _ _ us hl => match us, hl with | [_], _ => rfl⟩
  have g_first_twice := glo_ok X G (ft 4 (f := .glo "first_twice") rfl)
  obtain ⟨fd_first_twice, Fk_first_twice⟩ := c.def_ 2 (d := d_first_twice) rfl
  have Fk_first_twice : FunD K "first_twice" "first_twice" (defArgs sFT) (defBody sFT) (defScope sFT) [] [] (ga K "first_twice") fd_first_twice := Fk_first_twice
  have F_first_twice : Fun K "first_twice" "first_twice" sFT (ga K "first_twice") fd_first_twice := fun_of Fk_first_twice
  have D_first_twice : Dn K mg "first_twice" sFT ["row"] (ga K "first_twice") fd_first_twice := ⟨F_first_twice, g_first_twice, F_first_twice.binds (ps := ["row"]) fun _ _ _ _ _ _ us hl => match us, hl with | [_], _ => rfl⟩
  have g_refuse_twice := glo_ok X G (ft 5 (f := .glo "refuse_twice") rfl)
  obtain ⟨fd_refuse_twice, Fk_refuse_twice⟩ := c.def_ 3 (d := d_refuse_twice) rfl
  have Fk_refuse_twice : FunD K "refuse_twice" "refuse_twice" (defArgs sRT) (defBody sRT) (defScope sRT) [] [] (ga K "refuse_twice") fd_refuse_twice := Fk_refuse_twice
  have F_refuse_twice : Fun K "refuse_twice" "refuse_twice" sRT (ga K "refuse_twice") fd_refuse_twice := fun_of Fk_refuse_twice
  have D_refuse_twice : Dn K mg "refuse_twice" sRT ["names"] (ga K "refuse_twice") fd_refuse_twice := ⟨F_refuse_twice, g_refuse_twice, F_refuse_twice.binds (ps := ["names"]) fun _ _ _ _ _ _ us hl => match us, hl with | [_], _ => rfl⟩
  have g_refuse_count := glo_ok X G (ft 6 (f := .glo "refuse_count") rfl)
  obtain ⟨fd_refuse_count, Fk_refuse_count⟩ := c.def_ 4 (d := d_refuse_count) rfl
  have Fk_refuse_count : FunD K "refuse_count" "refuse_count" (defArgs sRC) (defBody sRC) (defScope sRC) [] [] (ga K "refuse_count") fd_refuse_count := Fk_refuse_count
  have F_refuse_count : Fun K "refuse_count" "refuse_count" sRC (ga K "refuse_count") fd_refuse_count := fun_of Fk_refuse_count
  have D_refuse_count : Dn K mg "refuse_count" sRC ["what", "count", "least", "most"] (ga K "refuse_count") fd_refuse_count := ⟨F_refuse_count, g_refuse_count, F_refuse_count.binds (ps := ["what", "count", "least", "most"]) fun _ _ _ _ _ _ us hl => match us, hl with | [_, _, _, _], _ => rfl⟩
  have g_tuple_of_tuples := glo_ok X G (ft 7 (f := .glo "tuple_of_tuples") rfl)
  obtain ⟨fd_tuple_of_tuples, Fk_tuple_of_tuples⟩ := c.def_ 5 (d := d_tuple_of_tuples) rfl
  have Fk_tuple_of_tuples : FunD K "tuple_of_tuples" "tuple_of_tuples" (defArgs sTT) (defBody sTT) (defScope sTT) [] [] (ga K "tuple_of_tuples") fd_tuple_of_tuples := Fk_tuple_of_tuples
  have F_tuple_of_tuples : Fun K "tuple_of_tuples" "tuple_of_tuples" sTT (ga K "tuple_of_tuples") fd_tuple_of_tuples := fun_of Fk_tuple_of_tuples
  have D_tuple_of_tuples : Dn K mg "tuple_of_tuples" sTT ["rows"] (ga K "tuple_of_tuples") fd_tuple_of_tuples := ⟨F_tuple_of_tuples, g_tuple_of_tuples, F_tuple_of_tuples.binds (ps := ["rows"]) fun _ _ _ _ _ _ us hl => match us, hl with | [_], _ => rfl⟩
  have g_ends_of := glo_ok X G (ft 8 (f := .glo "ends_of") rfl)
  obtain ⟨fd_ends_of, Fk_ends_of⟩ := c.def_ 6 (d := d_ends_of) rfl
  have Fk_ends_of : FunD K "ends_of" "ends_of" (defArgs sEO) (defBody sEO) (defScope sEO) [] [] (ga K "ends_of") fd_ends_of := Fk_ends_of
  have F_ends_of : Fun K "ends_of" "ends_of" sEO (ga K "ends_of") fd_ends_of := fun_of Fk_ends_of
  have D_ends_of : Dn K mg "ends_of" sEO ["triples"] (ga K "ends_of") fd_ends_of := ⟨F_ends_of, g_ends_of, F_ends_of.binds (ps := ["triples"]) fun _ _ _ _ _ _ us hl => match us, hl with | [_], _ => rfl⟩
  have g_texts_of_pattern := glo_ok X G (ft 9 (f := .glo "texts_of_pattern") rfl)
  obtain ⟨fd_texts_of_pattern, Fk_texts_of_pattern⟩ := c.def_ 7 (d := d_texts_of_pattern) rfl
  have Fk_texts_of_pattern : FunD K "texts_of_pattern" "texts_of_pattern" (defArgs sTP) (defBody sTP) (defScope sTP) [] [] (ga K "texts_of_pattern") fd_texts_of_pattern := Fk_texts_of_pattern
  have F_texts_of_pattern : Fun K "texts_of_pattern" "texts_of_pattern" sTP (ga K "texts_of_pattern") fd_texts_of_pattern := fun_of Fk_texts_of_pattern
  have D_texts_of_pattern : Dn K mg "texts_of_pattern" sTP ["name", "variables", "triples"] (ga K "texts_of_pattern") fd_texts_of_pattern := ⟨F_texts_of_pattern, g_texts_of_pattern, F_texts_of_pattern.binds (ps := ["name", "variables", "triples"]) fun _ _ _ _ _ _ us hl => match us, hl with | [_, _, _], _ => rfl⟩
  have g_refuse_no_variable := glo_ok X G (ft 10 (f := .glo "refuse_no_variable") rfl)
  obtain ⟨fd_refuse_no_variable, Fk_refuse_no_variable⟩ := c.def_ 8 (d := d_refuse_no_variable) rfl
  have Fk_refuse_no_variable : FunD K "refuse_no_variable" "refuse_no_variable" (defArgs sRV) (defBody sRV) (defScope sRV) [] [] (ga K "refuse_no_variable") fd_refuse_no_variable := Fk_refuse_no_variable
  have F_refuse_no_variable : Fun K "refuse_no_variable" "refuse_no_variable" sRV (ga K "refuse_no_variable") fd_refuse_no_variable := fun_of Fk_refuse_no_variable
  have D_refuse_no_variable : Dn K mg "refuse_no_variable" sRV ["names", "texts"] (ga K "refuse_no_variable") fd_refuse_no_variable := ⟨F_refuse_no_variable, g_refuse_no_variable, F_refuse_no_variable.binds (ps := ["names", "texts"]) fun _ _ _ _ _ _ us hl => match us, hl with | [_, _], _ => rfl⟩
  have g_refuse_loose := glo_ok X G (ft 11 (f := .glo "refuse_loose") rfl)
  obtain ⟨fd_refuse_loose, Fk_refuse_loose⟩ := c.def_ 9 (d := d_refuse_loose) rfl
  have Fk_refuse_loose : FunD K "refuse_loose" "refuse_loose" (defArgs sRL) (defBody sRL) (defScope sRL) [] [] (ga K "refuse_loose") fd_refuse_loose := Fk_refuse_loose
  have F_refuse_loose : Fun K "refuse_loose" "refuse_loose" sRL (ga K "refuse_loose") fd_refuse_loose := fun_of Fk_refuse_loose
  have D_refuse_loose : Dn K mg "refuse_loose" sRL ["names", "conditions"] (ga K "refuse_loose") fd_refuse_loose := ⟨F_refuse_loose, g_refuse_loose, F_refuse_loose.binds (ps := ["names", "conditions"]) fun _ _ _ _ _ _ us hl => match us, hl with | [_, _], _ => rfl⟩
  have g_refuse_apart := glo_ok X G (ft 12 (f := .glo "refuse_apart") rfl)
  obtain ⟨fd_refuse_apart, Fk_refuse_apart⟩ := c.def_ 10 (d := d_refuse_apart) rfl
  have Fk_refuse_apart : FunD K "refuse_apart" "refuse_apart" (defArgs sRA) (defBody sRA) (defScope sRA) [] [] (ga K "refuse_apart") fd_refuse_apart := Fk_refuse_apart
  have F_refuse_apart : Fun K "refuse_apart" "refuse_apart" sRA (ga K "refuse_apart") fd_refuse_apart := fun_of Fk_refuse_apart
  have D_refuse_apart : Dn K mg "refuse_apart" sRA ["conditions"] (ga K "refuse_apart") fd_refuse_apart := ⟨F_refuse_apart, g_refuse_apart, F_refuse_apart.binds (ps := ["conditions"]) fun _ _ _ _ _ _ us hl => match us, hl with | [_], _ => rfl⟩
  have g_check_pattern := glo_ok X G (ft 13 (f := .glo "check_pattern") rfl)
  obtain ⟨fd_check_pattern, Fk_check_pattern⟩ := c.def_ 11 (d := d_check_pattern) rfl
  have Fk_check_pattern : FunD K "check_pattern" "check_pattern" (defArgs sCP) (defBody sCP) (defScope sCP) [] [] (ga K "check_pattern") fd_check_pattern := Fk_check_pattern
  have F_check_pattern : Fun K "check_pattern" "check_pattern" sCP (ga K "check_pattern") fd_check_pattern := fun_of Fk_check_pattern
  have D_check_pattern : Dn K mg "check_pattern" sCP ["name", "variables", "conditions", "given", "hands"] (ga K "check_pattern") fd_check_pattern := ⟨F_check_pattern, g_check_pattern, F_check_pattern.binds (ps := ["name", "variables", "conditions", "given", "hands"]) fun _ _ _ _ _ _ us hl => match us, hl with | [_, _, _, _, _], _ => rfl⟩
  have g__law_state := glo_ok X G (ft 14 (f := .glo "_law_state") rfl)
  obtain ⟨fd__law_state, Fk__law_state⟩ := c.def_ 12 (d := d__law_state) rfl
  have Fk__law_state : FunD K "_law_state" "_law_state" (defArgs sState) (defBody sState) (defScope sState) [] [] (ga K "_law_state") fd__law_state := Fk__law_state
  have F__law_state : Fun K "_law_state" "_law_state" sState (ga K "_law_state") fd__law_state := fun_of Fk__law_state
  have D__law_state : Dn K mg "_law_state" sState ["_law_cell"] (ga K "_law_state") fd__law_state := ⟨F__law_state, g__law_state, F__law_state.binds (ps := ["_law_cell"]) fun _ _ _ _ _ _ us hl => match us, hl with | [_], _ => rfl⟩
  have g__law_digit := glo_ok X G (ft 15 (f := .glo "_law_digit") rfl)
  obtain ⟨fd__law_digit, Fk__law_digit⟩ := c.def_ 13 (d := d__law_digit) rfl
  have Fk__law_digit : FunD K "_law_digit" "_law_digit" (defArgs sDigit) (defBody sDigit) (defScope sDigit) [] [] (ga K "_law_digit") fd__law_digit := Fk__law_digit
  have F__law_digit : Fun K "_law_digit" "_law_digit" sDigit (ga K "_law_digit") fd__law_digit := fun_of Fk__law_digit
  have D__law_digit : Dn K mg "_law_digit" sDigit ["_law_state_here", "_law_base"] (ga K "_law_digit") fd__law_digit := ⟨F__law_digit, g__law_digit, F__law_digit.binds (ps := ["_law_state_here", "_law_base"]) fun _ _ _ _ _ _ us hl => match us, hl with | [_, _], _ => rfl⟩
  have g__law_name := glo_ok X G (ft 16 (f := .glo "_law_name") rfl)
  obtain ⟨fd__law_name, Fk__law_name⟩ := c.def_ 14 (d := d__law_name) rfl
  have Fk__law_name : FunD K "_law_name" "_law_name" (defArgs sNam) (defBody sNam) (defScope sNam) [] [] (ga K "_law_name") fd__law_name := Fk__law_name
  have F__law_name : Fun K "_law_name" "_law_name" sNam (ga K "_law_name") fd__law_name := fun_of Fk__law_name
  have D__law_name : Dn K mg "_law_name" sNam ["_law_s", "_law_taken"] (ga K "_law_name") fd__law_name := ⟨F__law_name, g__law_name, F__law_name.binds (ps := ["_law_s", "_law_taken"]) fun _ _ _ _ _ _ us hl => match us, hl with | [_, _], _ => rfl⟩
  have g__law_names := glo_ok X G (ft 17 (f := .glo "_law_names") rfl)
  obtain ⟨fd__law_names, Fk__law_names⟩ := c.def_ 15 (d := d__law_names) rfl
  have Fk__law_names : FunD K "_law_names" "_law_names" (defArgs sNms) (defBody sNms) (defScope sNms) [] [] (ga K "_law_names") fd__law_names := Fk__law_names
  have F__law_names : Fun K "_law_names" "_law_names" sNms (ga K "_law_names") fd__law_names := fun_of Fk__law_names
  have D__law_names : Dn K mg "_law_names" sNms ["_law_s", "_law_many"] (ga K "_law_names") fd__law_names := ⟨F__law_names, g__law_names, F__law_names.binds (ps := ["_law_s", "_law_many"]) fun _ _ _ _ _ _ us hl => match us, hl with | [_, _], _ => rfl⟩
  have g__law_parts := glo_ok X G (ft 18 (f := .glo "_law_parts") rfl)
  obtain ⟨fd__law_parts, Fk__law_parts⟩ := c.def_ 16 (d := d__law_parts) rfl
  have Fk__law_parts : FunD K "_law_parts" "_law_parts" (defArgs sPar) (defBody sPar) (defScope sPar) [] [] (ga K "_law_parts") fd__law_parts := Fk__law_parts
  have F__law_parts : Fun K "_law_parts" "_law_parts" sPar (ga K "_law_parts") fd__law_parts := fun_of Fk__law_parts
  have D__law_parts : Dn K mg "_law_parts" sPar ["_law_s"] (ga K "_law_parts") fd__law_parts := ⟨F__law_parts, g__law_parts, F__law_parts.binds (ps := ["_law_s"]) fun _ _ _ _ _ _ us hl => match us, hl with | [_], _ => rfl⟩
  have g__law_renamed := glo_ok X G (ft 19 (f := .glo "_law_renamed") rfl)
  obtain ⟨fd__law_renamed, Fk__law_renamed⟩ := c.def_ 17 (d := d__law_renamed) rfl
  have Fk__law_renamed : FunD K "_law_renamed" "_law_renamed" (defArgs sRnm) (defBody sRnm) (defScope sRnm) [] [] (ga K "_law_renamed") fd__law_renamed := Fk__law_renamed
  have F__law_renamed : Fun K "_law_renamed" "_law_renamed" sRnm (ga K "_law_renamed") fd__law_renamed := fun_of Fk__law_renamed
  have D__law_renamed : Dn K mg "_law_renamed" sRnm ["_law_parts_here", "_law_at"] (ga K "_law_renamed") fd__law_renamed := ⟨F__law_renamed, g__law_renamed, F__law_renamed.binds (ps := ["_law_parts_here", "_law_at"]) fun _ _ _ _ _ _ us hl => match us, hl with | [_, _], _ => rfl⟩
  have g__law_changed := glo_ok X G (ft 20 (f := .glo "_law_changed") rfl)
  obtain ⟨fd__law_changed, Fk__law_changed⟩ := c.def_ 18 (d := d__law_changed) rfl
  have Fk__law_changed : FunD K "_law_changed" "_law_changed" (defArgs sChg) (defBody sChg) (defScope sChg) [] [] (ga K "_law_changed") fd__law_changed := Fk__law_changed
  have F__law_changed : Fun K "_law_changed" "_law_changed" sChg (ga K "_law_changed") fd__law_changed := fun_of Fk__law_changed
  have D__law_changed : Dn K mg "_law_changed" sChg ["_law_s", "_law_parts_here"] (ga K "_law_changed") fd__law_changed := ⟨F__law_changed, g__law_changed, F__law_changed.binds (ps := ["_law_s", "_law_parts_here"]) fun _ _ _ _ _ _ us hl => match us, hl with | [_, _], _ => rfl⟩
  have g__law_made := glo_ok X G (ft 21 (f := .glo "_law_made") rfl)
  obtain ⟨fd__law_made, Fk__law_made⟩ := c.def_ 19 (d := d__law_made) rfl
  have Fk__law_made : FunD K "_law_made" "_law_made" (defArgs sMad) (defBody sMad) (defScope sMad) [] [] (ga K "_law_made") fd__law_made := Fk__law_made
  have F__law_made : Fun K "_law_made" "_law_made" sMad (ga K "_law_made") fd__law_made := fun_of Fk__law_made
  have D__law_made : Dn K mg "_law_made" sMad ["_law_parts_here", "_law_bar"] (ga K "_law_made") fd__law_made := ⟨F__law_made, g__law_made, F__law_made.binds (ps := ["_law_parts_here", "_law_bar"]) fun _ _ _ _ _ _ us hl => match us, hl with | [_, _], _ => rfl⟩
  have g__law_stays := glo_ok X G (ft 22 (f := .glo "_law_stays") rfl)
  obtain ⟨fd__law_stays, Fk__law_stays⟩ := c.def_ 20 (d := d__law_stays) rfl
  have Fk__law_stays : FunD K "_law_stays" "_law_stays" (defArgs sSty) (defBody sSty) (defScope sSty) [] [] (ga K "_law_stays") fd__law_stays := Fk__law_stays
  have F__law_stays : Fun K "_law_stays" "_law_stays" sSty (ga K "_law_stays") fd__law_stays := fun_of Fk__law_stays
  have D__law_stays : Dn K mg "_law_stays" sSty ["_law_one", "_law_parts_here", "_law_bar"] (ga K "_law_stays") fd__law_stays := ⟨F__law_stays, g__law_stays, F__law_stays.binds (ps := ["_law_one", "_law_parts_here", "_law_bar"]) fun _ _ _ _ _ _ us hl => match us, hl with | [_, _, _], _ => rfl⟩
  have g_law := glo_ok X G (ft 23 (f := .glo "law") rfl)
  obtain ⟨fd_law, Fk_law⟩ := c.def_ 21 (d := d_law) rfl
  have Fk_law : FunD K "law" "law" (defArgs sLaw) (defBody sLaw) (defScope sLaw) [] [] (ga K "law") fd_law := Fk_law
  have F_law : Fun K "law" "law" sLaw (ga K "law") fd_law := fun_of Fk_law
  have FLb := FunD.bindsA (ps := ["_law_script"]) Fk_law fun _ _ _ _ _ _ us hl => match us, hl with | [_], _ => rfl
  have g_Bar := glo_ok X G (ft 24 (f := .glo "Bar") rfl)
  have cls_Bar := cls_ok (ft 25 (f := .cls "Bar") rfl)
  have na_Bar_name := noat_ok (ft 26 (f := .noat "Bar" "name") rfl)
  have na_Bar_variables := noat_ok (ft 27 (f := .noat "Bar" "variables") rfl)
  have na_Bar_conditions := noat_ok (ft 28 (f := .noat "Bar" "conditions") rfl)
  have mk_Bar := mkr_ok (ft 29 (f := .mkr "Bar") rfl)
  have g_Rule := glo_ok X G (ft 30 (f := .glo "Rule") rfl)
  have cls_Rule := cls_ok (ft 31 (f := .cls "Rule") rfl)
  have na_Rule_name := noat_ok (ft 32 (f := .noat "Rule" "name") rfl)
  have na_Rule_variables := noat_ok (ft 33 (f := .noat "Rule" "variables") rfl)
  have na_Rule_conditions := noat_ok (ft 34 (f := .noat "Rule" "conditions") rfl)
  have na_Rule_gives := noat_ok (ft 35 (f := .noat "Rule" "gives") rfl)
  have na_Rule_by := noat_ok (ft 36 (f := .noat "Rule" "by") rfl)
  have mk_Rule := mkr_ok (ft 37 (f := .mkr "Rule") rfl)
  obtain ⟨fd_NoName___init__, Fk_NoName___init__⟩ := c.def_ 22 (d := d_NoName___init__) rfl
  have Fk_NoName___init__ : FunD K "__init__" "NoName.__init__" (defArgs sN0) (defBody sN0) (defScope sN0) [] [] (ma K (ga K "NoName") "__init__") fd_NoName___init__ := Fk_NoName___init__
  have F_NoName___init__ : Fun K "__init__" "NoName.__init__" sN0 (ma K (ga K "NoName") "__init__") fd_NoName___init__ := fun_of Fk_NoName___init__
  have b_NoName___init__ := F_NoName___init__.binds (ps := ["self", "name"]) fun _ _ _ _ _ _ us hl => match us, hl with | [_, _], _ => rfl
  obtain ⟨fd_Bar___init__, Fk_Bar___init__⟩ := c.def_ 23 (d := d_Bar___init__) rfl
  have Fk_Bar___init__ : FunD K "__init__" "Bar.__init__" (defArgs sBar) (defBody sBar) (defScope sBar) [] [] (ma K (ga K "Bar") "__init__") fd_Bar___init__ := Fk_Bar___init__
  have F_Bar___init__ : Fun K "__init__" "Bar.__init__" sBar (ma K (ga K "Bar") "__init__") fd_Bar___init__ := fun_of Fk_Bar___init__
  have b_Bar___init__ := F_Bar___init__.binds (ps := ["self", "name", "variables", "conditions"]) fun _ _ _ _ _ _ us hl => match us, hl with | [_, _, _, _], _ => rfl
  obtain ⟨fd_Rule___init__, Fk_Rule___init__⟩ := c.def_ 24 (d := d_Rule___init__) rfl
  have Fk_Rule___init__ : FunD K "__init__" "Rule.__init__" (defArgs sRul) (defBody sRul) (defScope sRul) [] [] (ma K (ga K "Rule") "__init__") fd_Rule___init__ := Fk_Rule___init__
  have F_Rule___init__ : Fun K "__init__" "Rule.__init__" sRul (ma K (ga K "Rule") "__init__") fd_Rule___init__ := fun_of Fk_Rule___init__
  have b_Rule___init__ := F_Rule___init__.binds (ps := ["self", "name", "variables", "conditions", "gives", "by"]) fun _ _ _ _ _ _ us hl => match us, hl with | [_, _, _, _, _, _], _ => rfl
  have m_Bar___eq__ := meth_ok (ft 38 (f := .meth "Bar" "__eq__") rfl)
  obtain ⟨fd_Bar___eq__, Fk_Bar___eq__⟩ := c.def_ 25 (d := d_Bar___eq__) rfl
  have Fk_Bar___eq__ : FunD K "__eq__" "Bar.__eq__" (defArgs sBE) (defBody sBE) (defScope sBE) [] [] (ma K (ga K "Bar") "__eq__") fd_Bar___eq__ := Fk_Bar___eq__
  have F_Bar___eq__ : Fun K "__eq__" "Bar.__eq__" sBE (ma K (ga K "Bar") "__eq__") fd_Bar___eq__ := fun_of Fk_Bar___eq__
  have b_Bar___eq__ := F_Bar___eq__.binds (ps := ["self", "other"]) fun _ _ _ _ _ _ us hl => match us, hl with | [_, _], _ => rfl
  have m_Rule___eq__ := meth_ok (ft 39 (f := .meth "Rule" "__eq__") rfl)
  obtain ⟨fd_Rule___eq__, Fk_Rule___eq__⟩ := c.def_ 26 (d := d_Rule___eq__) rfl
  have Fk_Rule___eq__ : FunD K "__eq__" "Rule.__eq__" (defArgs sRE) (defBody sRE) (defScope sRE) [] [] (ma K (ga K "Rule") "__eq__") fd_Rule___eq__ := Fk_Rule___eq__
  have F_Rule___eq__ : Fun K "__eq__" "Rule.__eq__" sRE (ma K (ga K "Rule") "__eq__") fd_Rule___eq__ := fun_of Fk_Rule___eq__
  have b_Rule___eq__ := F_Rule___eq__.binds (ps := ["self", "other"]) fun _ _ _ _ _ _ us hl => match us, hl with | [_, _], _ => rfl
  have t_abs := free_ok X G (ft 40 (f := .free "abs") rfl)
  have t_int := free_ok X G (ft 41 (f := .free "int") rfl)
  have t_len := free_ok X G (ft 42 (f := .free "len") rfl)
  have t_range := free_ok X G (ft 43 (f := .free "range") rfl)
  have t_all := free_ok X G (ft 44 (f := .free "all") rfl)
  have t_tuple := free_ok X G (ft 45 (f := .free "tuple") rfl)
  have t_enumerate := free_ok X G (ft 46 (f := .free "enumerate") rfl)
  have t_isinstance := free_ok X G (ft 47 (f := .free "isinstance") rfl)
  have t_ValueError := free_ok X G (ft 48 (f := .free "ValueError") rfl)
  have t_list := free_ok X G (ft 49 (f := .free "list") rfl)
  have t_str := free_ok X G (ft 50 (f := .free "str") rfl)
  have t_max := free_ok X G (ft 51 (f := .free "max") rfl)
  have t_zip := free_ok X G (ft 52 (f := .free "zip") rfl)
  have t_dict := free_ok X G (ft 53 (f := .free "dict") rfl)
  have e := hfa.symm.trans g_law
  cases e
  have T : TxB mg := ⟨t_abs, t_int, t_len, t_range, t_all, t_tuple, t_enumerate, t_isinstance, t_ValueError⟩
  have T3 : Tx3 mg := ⟨t_list, t_zip, t_dict⟩
  have TN : TxN mg := ⟨str_ok X G (ft 54 rfl), str_ok X G (ft 55 rfl), int_ok X G (ft 56 rfl)⟩
  have TP : TxP mg := ⟨int_ok X G (ft 57 rfl), int_ok X G (ft 58 rfl)⟩
  obtain ⟨dW0, FW⟩ := c.def_ 27 (d := dWho) rfl
  have FW : FunD K "__init__" "WhoError.__init__" (defArgs sW0) (defBody sW0) (defScope sW0) [.str (PySem.Str.ofString "whoerror")] [] (ma K (ga K "WhoError") "__init__") dW0 := FW
  obtain ⟨ds, hds, bW⟩ := FW.binds1 (ps := ["self", "kind"]) 2 1 (by simp) (by rfl) (fun T kV doc pm an cdv ct us its hu hi => match us, hu, its, hi with | [_, _], _, [_], _ => ⟨_, rfl, rfl⟩)
  cases hds
  have ww := whoB_ok qw
  have TW : WhoT K mg (ga K "WhoError") (ma K (ga K "WhoError") "__init__") dW0 := ⟨g_WhoError, ww.1, ww.2, FW.kp, bW⟩
  have E0 := errB_ok (x := "NoName") qe0 g_NoName
  have TB : TxBar K mg (ga K "Bar") (ma K (ga K "Bar") "__init__") := ⟨cls_Bar, na_Bar_name, na_Bar_variables, na_Bar_conditions, g_Bar, mk_Bar⟩
  have TR : TxRul K mg (ga K "Rule") (ma K (ga K "Rule") "__init__") := ⟨cls_Rule, na_Rule_name, na_Rule_variables, na_Rule_conditions, na_Rule_gives, na_Rule_by, g_Rule, mk_Rule⟩
  have tR := insB_ok iR cls_Rule
  have tB := insB_ok iB cls_Bar
  refine ⟨_, fun s v => FLb s [v] rfl, fun base _ _ => ?_⟩
  have GW : FnOk P w K mg base CX0 1 _ dW0 ["self", "kind"] (spWI K) := ok_who FW
  have GI0 : FnOk P w K mg base CX0 2 _ _ ["self", "name"] (spE1 (ga K "NoName") "name" "noname") := ok_noname F_NoName___init__ E0.1 TW GW
  have GIs : FnOk P w K mg base CX0 1 _ _ ["text"] spName := ok_name F_is_name T TN
  have GRN : FnOk P w K mg base (L2.CX P w) 4 _ _ ["texts"] (spRN K (ga K "NoName")) := ok_rn F_refuse_no_name D_is_name GIs E0.1 b_NoName___init__ GI0
  have GRT : FnOk P w K mg base CX0 2 _ _ ["names"] (spFT K) := ok_rt F_refuse_twice T D_first_twice
  have GCP : FnOk P w K mg base (L2.CX P w) 5 _ _ ["name", "variables", "conditions", "given", "hands"] (spCP K (ga K "NoName")) := ok_cp F_check_pattern T TP D_refuse_count D_refuse_no_name D_texts_of_pattern D_refuse_twice D_refuse_no_variable D_ends_of D_refuse_loose D_refuse_apart GRN GRT
  have GB : FnOk P w K mg base (L2.CX P w) 6 _ _ ["self", "name", "variables", "conditions"] (spBar K (ga K "NoName") (ga K "Bar")) := ok_bar F_Bar___init__ T TB D_tuple_of_tuples D_check_pattern GCP
  have GR : FnOk P w K mg base (L2.CX P w) 6 _ _ ["self", "name", "variables", "conditions", "gives", "by"] (spRul K (ga K "NoName") (ga K "Rule")) := ok_rul F_Rule___init__ T TR D_tuple_of_tuples D_check_pattern GCP
  have GRE : FnOk P w K mg base CX0 1 _ _ ["self", "other"] (spRE K (ga K "Rule")) := ok_re F_Rule___eq__ T TR tR.2
  have GBE : FnOk P w K mg base CX0 1 _ _ ["self", "other"] (spBE K (ga K "Bar")) := ok_be F_Bar___eq__ T TB tB.2
  have GNm : FnOk P w K mg base CX0 2 _ _ ["_law_s", "_law_taken"] spNam := ok_nam F__law_name T t_str D__law_digit
  have GN : FnOk P w K mg base CX0 3 _ _ ["_law_s", "_law_many"] spNms := ok_nms F__law_names T D__law_name GNm
  have GPt : FnOk P w K mg base CX0 4 _ _ ["_law_s"] (spPar K) := ok_par F__law_parts T t_max D__law_digit D__law_names GN D__law_name GNm
  have GRn : FnOk P w K mg base CX0 1 _ _ ["_law_parts_here", "_law_at"] (spRnm K) := ok_rnm F__law_renamed T T3
  have GCh : FnOk P w K mg base CX0 3 _ _ ["_law_s", "_law_parts_here"] (spChg K) := ok_chg F__law_changed T T3 D__law_digit D__law_name GNm D__law_renamed GRn
  have GMd : FnOk P w K mg base CX0 8 _ _ ["_law_parts_here", "_law_bar"] (spMad K (ga K "Rule") (ga K "Bar")) := ok_mad F__law_made T3 TR b_Rule___init__ GR TB b_Bar___init__ GB
  have GSy : FnOk P w K mg base CX0 1 _ _ ["_law_one", "_law_parts_here", "_law_bar"] (spSty K (ga K "Rule") (ga K "Bar")) := ok_sty F__law_stays T TR TB
  have W3 : Kw3 P w K mg base (ga K "Rule") (ma K (ga K "Rule") "__init__") (ga K "Bar") (ma K (ga K "Bar") "__init__") (ma K (ga K "Rule") "__eq__") (ma K (ga K "Bar") "__eq__") fd_Rule___eq__ fd_Bar___eq__ := ⟨TR, TB, tR.1, tB.1, eqneB_ok qR, eqneB_ok qB, eqO_ok fR, eqO_ok fB, iRf, iBf, n1, n2, n3, n4, of_decide_eq_true k1, of_decide_eq_true k2, GRE, GBE, b_Rule___eq__, b_Bar___eq__⟩
  exact ok_law F_law T T3 W3 D__law_state D__law_digit D__law_parts GPt D__law_changed GCh D__law_made GMd D__law_stays GSy
end Wm

open PySem PySem.W PySem.Calls PyProof.Rows
set_option maxRecDepth 100000 in
set_option maxHeartbeats 0 in
theorem PySem.Challenge.cw_whomay_k03_patterns_alike_holds : PySem.Challenge.rw_whomay_k03_patterns_alike.Holds := by
  w_on; o_law
  refine HandSHeadRun.head_any (r := OpenLaw.row PySem.Challenge.rw_whomay_k03_patterns_alike) (q := view (OpenLaw.row PySem.Challenge.rw_whomay_k03_patterns_alike).prog [44]) (H := Wm.hkW) (ob := Wm.obW) (M := 20000) (loose := Wm.loW) (d := HandSHeadRun.topDef (OpenLaw.row PySem.Challenge.rw_whomay_k03_patterns_alike).prog 44) (kwd := []) Wm.obW_eq
    (by kernel_rfl) (fun s => by kernel_rfl) Wm.runW (by kernel_rfl) (by kernel_rfl) (by kernel_rfl) (by rfl) (by first | assumption | decide +kernel) (by decide +kernel) ⟨rfl, rfl, rfl, rfl, rfl, by decide +kernel⟩ ?hw ?hc
  case hw => w_witness2
  case hc =>
    refine L2.walk_ofE (l := PySem.Challenge.rw_whomay_k03_patterns_alike) (n := 63) (k := 9) (x := "_law_script") (CX := L2.CX0) rfl (by decide) (by kernel_rfl) ⟨rfl, by decide, by decide⟩ ?F (fun _ _ _ _ z => z)
    intro w mg fa h Y G hmg0
    obtain ⟨K, KX, c⟩ := Y
    have hmg : mg ("law" : PySem.Str) = some (.ref fa) := by
      have e : (HandSHeadRun.topDef (OpenLaw.row PySem.Challenge.rw_whomay_k03_patterns_alike).prog 44).name = ("law" : PySem.Str) := by kernel_rfl
      rw [← e]
      exact hmg0
    obtain ⟨fd, hb, hF⟩ := Wm.facts (P := (PySem.Challenge.rw_whomay_k03_patterns_alike).prog) (w := w) KX G hmg c
    exact ⟨K, fd, Wm.spLaw K, KX, hb, fun H a ns hl _ hS => ⟨a, ns, rfl, hS, hl, fun _ => rfl⟩, hF⟩
