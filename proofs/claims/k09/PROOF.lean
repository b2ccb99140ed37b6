import PyProof.Rows.All
import Wide.All
import OpenK.AllK
import Wide.FinOn
import HandS.ForMost
import HandS.ForExc
import HandS.Walk
import HandS.Star
import HandS.Style
import HandS.TupAny
import HandS.ExcInit
import HandS.ExcIs
import HandS.ExcField
import HandS.Defaults
import HandS.Wide
import HandS.ClsMeth
import KE.KExcIs
import KE.GoesEnum
import HandS.FStr
import KE.KCallOwn
import HandS.OwnEq
import HandS.IsInst
import HandS.Deep
import HandS.ExcOwn
import HandS.MakeKwOnly
import HandS.MakeKw
import PyProof.NeKinds
import HandS.TryOnly
import HandS.Words
import HandS.WordsExc
import KE.KStateDown
import HandS.Head0
import HandS.Head1
import HandS.Head2
import HandS.HeadEnd
import HandS.HeadHook1
import HandS.HeadHook2
import PySem.Challenge.RW_whomay_k09_by_their_names
set_option Elab.async false
set_option linter.all false
set_option maxRecDepth 100000
set_option maxHeartbeats 4000000
namespace Wm
open PySem L2
def top (i : Nat) : Stmt := PySem.Challenge.pw_whomay_k09_by_their_names.main.body.getD i (.Pass ⟨0, 0, 0, 0⟩)
abbrev sState : Stmt := top 55
abbrev sDigit : Stmt := top 56
abbrev sW0 : Stmt := inClass (top 2) 0
abbrev sN0 : Stmt := inClass (top 3) 0
abbrev sName : Stmt := top 19
abbrev sRN : Stmt := top 20
abbrev sFT : Stmt := top 21
abbrev sRT : Stmt := top 22
abbrev sRC : Stmt := top 23
abbrev sTT : Stmt := top 39
abbrev sEO : Stmt := top 40
abbrev sTP : Stmt := top 41
abbrev sRV : Stmt := top 42
abbrev sRL : Stmt := top 43
abbrev sRA : Stmt := top 44
abbrev sCP : Stmt := top 45
abbrev sBar : Stmt := inClass (top 50) 0
abbrev sRul : Stmt := inClass (top 51) 0
abbrev sRE : Stmt := inClass (top 51) 1
abbrev sBE : Stmt := inClass (top 50) 1
abbrev sNam : Stmt := top 57
abbrev sNms : Stmt := top 58
abbrev sMak : Stmt := inClass (top 52) 0
abbrev sOL : Stmt := top 29
abbrev sRMT : Stmt := top 30
abbrev sRNS : Stmt := top 31
abbrev sRU : Stmt := top 32
abbrev sRNW : Stmt := top 33
abbrev sCS : Stmt := top 34
abbrev sSch : Stmt := inClass (top 35) 0
abbrev sSMk : Stmt := inClass (top 35) 3
abbrev sSRu : Stmt := inClass (top 35) 4
abbrev sSBa : Stmt := inClass (top 35) 5
abbrev sSR1 : Stmt := inClass (top 35) 6
abbrev sSB1 : Stmt := inClass (top 35) 7
abbrev sSwr : Stmt := inClass (top 35) 8
abbrev sSwb : Stmt := inClass (top 35) 9
abbrev sSwm : Stmt := inClass (top 35) 10
abbrev sSor : Stmt := inClass (top 35) 11
abbrev sSob : Stmt := inClass (top 35) 12
abbrev sSom : Stmt := inClass (top 35) 13
abbrev sNon : Stmt := top 59
abbrev sLaw : Stmt := top 60
abbrev sNRu : Stmt := inClass (top 12) 0
end Wm
/-! a head by one run: what is asked of the written part is one Bool of one's own -/
namespace Wm
open PySem PySem.Spec PyProof.Rows L2 He ClX
def obsM (ck : PySem.W.Frag → Bool) (fn : List DefD) (K : PySem.W.Frag) : AlD := (ck K && fn.all fun d => d.ok K, fn.map fun d => fnW K d.at_)
def SaysM (ck : PySem.W.Frag → Bool) (fn : List DefD) (K : PySem.W.Frag) : Prop := obsM ck fn K = valD fn
/-- what the module's names, and what the C code keeps, reach in n steps -/
def asM (g : Addr → Option Obj) : Nat → List Addr
  | 0 => [mainGlobals, cStatics]
  | n + 1 => growD g (asM g n)
def obsMG (n : Nat) (ck : PySem.W.Frag → Bool) (fn : List DefD) (g : Addr → Option Obj) : AlD := obsM ck fn (frG g (asM g n))
def hookM (n : Nat) (ck : PySem.W.Frag → Bool) (fn : List DefD) : PySem.W.Hook where
  α := AlD
  obs := fun s => obsMG n ck fn s.heap.get?
  val := fun _ => valD fn
  says := fun _ h => ∃ K : PySem.W.Frag, K.In h ∧ SaysM ck fn K
  of := fun _ _ e => ⟨_, frG_in, e⟩
  keeps := fun _ _ _ ⟨K, hK, c⟩ k => ⟨K, PySem.W.Frag.In.keeps hK k, c⟩
theorem obsMG_eq {n : Nat} {ck : PySem.W.Frag → Bool} {fn : List DefD} {g : Addr → Option Obj} {s : Shared} (h : ∀ a, g a = s.heap.get? a) : obsMG n ck fn g = (hookM n ck fn).obs s := by
  have e : g = s.heap.get? := funext h
  rw [e] <;> rfl
section
variable {ck : PySem.W.Frag → Bool} {fn : List DefD} {K : PySem.W.Frag}
theorem SaysM.says (c : SaysM ck fn K) : ck K = true := (ba (show (ck K && fn.all fun d => d.ok K) = true from congrArg (fun z : AlD => z.1) c)).1
theorem SaysM.def_ (c : SaysM ck fn K) (i : Nat) {d : DefD} (h : fn[i]? = some d := by rfl) : ∃ fd, FunD K d.name d.qual d.params d.body d.scope (d.dvs K) (d.kws K) (fAd K d.at_) fd := by
  have c2 := (ba (show (ck K && fn.all fun d => d.ok K) = true from congrArg (fun z : AlD => z.1) c)).2
  have e : fn.map (fun d => fnW K d.at_) = fn.map DefD.val := congrArg (fun z : AlD => z.2) c
  have e2 : (fn.map fun d => fnW K d.at_)[i]? = (fn.map DefD.val)[i]? := by rw [e]
  rw [List.getElem?_map, List.getElem?_map, h] at e2
  exact DefD.funD (Option.some.inj e2) (List.all_eq_true.mp c2 d (List.mem_of_getElem? h))
end
/-- a def without defaults -/
theorem fun_of {K : PySem.W.Frag} {x q : Str} {st : Stmt} {f : Addr} {fd : FuncData} (F : FunD K x q (defArgs st) (defBody st) (defScope st) [] [] f fd) : Fun K x q st f fd := by
  obtain ⟨oc, od, dV, kV, doc, pm, an, cdv, ct, osl, rfl, l, c, d, _⟩ := F.ex
  have e : dV = .none := by
    rcases d with ⟨_, e⟩ | ⟨n, _⟩
    · exact e
    · exact absurd rfl n
  subst e
  exact ⟨⟨oc, od, kV, doc, pm, an, cdv, ct, osl, rfl, l, c⟩, F.kp⟩
/-- an error class whose objects are made by an __init__ of its own -/
def excB (K : PySem.W.Frag) (C : Addr) : Bool := match K.lookup C with
  | some ⟨.type "type", _, .cls cd, sl⟩ => (match cd.mro, sl.toList with
    | .ref C' :: bm, [_, _, _, _, some (.builtin n), _] => C' == C && (n == "ValueError.__new__" && (!cd.hasDel && (cd.hasDict && PySem.HandSPX.refsVE bm)))
    | _, _ => false)
  | _ => false
theorem excB_ok {K : PySem.W.Frag} {C : Addr} (q : excB K C = true) : ∃ nm q N bs bm sn sub ab col dd k0 k1 k2 k3 k5, K.lookup C = some (excClassObj nm q C N bs bm true sn sub ab col dd k0 k1 k2 k3 k5 "ValueError.__new__") ∧ PySem.HandSPX.refsVE bm = true := by
  unfold excB at q
  split at q
  · rename_i dd cd sl ho
    split at q
    · rename_i C' bm k0 k1 k2 k3 n k5 hm hs
      simp only [Bool.and_eq_true, beq_iff_eq, Bool.not_eq_true'] at q
      obtain ⟨rfl, rfl, hdel, hdi, ht⟩ := q
      obtain ⟨nm, bs, mro, ns, qn, hd, sn, sub, ab, col, del⟩ := cd
      dsimp only at hm hdel hdi
      subst hm hdel hdi
      have hsl : sl = #[k0, k1, k2, k3, some (.builtin "ValueError.__new__"), k5] := by
        obtain ⟨l⟩ := sl
        simp only at hs
        rw [hs]
      subst hsl
      exact ⟨nm, qn, ns, bs, bm, sn, sub, ab, col, dd, k0, k1, k2, k3, k5, ho, ht⟩
    · cases q
  · cases q
/-- WhoError, whose __init__ the others call -/
def whoB (K : PySem.W.Frag) (W : Addr) : Bool := PySem.W.readsIn K W (.type "type") && (eqO (PySem.W.specialIn K (.ref W) "__getattribute__") (some (some (.builtin "type.__getattribute__"))) && (match PySem.W.findCls K (.ref W) (.type "type") "__init__" with
  | some (.val (.ref a)) => decide (a = ma K W "__init__")
  | _ => false))
theorem whoB_ok {K : PySem.W.Frag} {W : Addr} (h : whoB K W = true) : CRead K W (.type "type") ∧ PySem.W.findCls K (.ref W) (.type "type") "__init__" = some (.val (.ref (ma K W "__init__"))) := by
  unfold whoB at h
  obtain ⟨h1, h⟩ := ba h
  obtain ⟨h2, h3⟩ := ba h
  refine ⟨⟨h1, eqO_ok h2⟩, ?_⟩
  split at h3
  · rename_i a e
    rw [e, of_decide_eq_true h3]
  · cases h3
end Wm
namespace Wm
open PySem L2 He ClX StX
/-- what is asked of an error class of one field -/
def errB (K : PySem.W.Frag) (C fI : Addr) (f : Str) : Bool :=
  eqO (PySem.W.findIn K (.ref C) "__setattr__") (some (some (.builtin "object.__setattr__"))) && (decide (PySem.W.subIn K (.ref C) (.type "BaseException") = some true) && (decide (PySem.W.typeIn K (.ref C) = some (.type "type")) && (PySem.W.keepIn K (.ref C) &&
  (decide (PySem.W.typeIn K (.ref fI) = some (.type "function")) && (eqO (PySem.W.findIn K (.ref C) "kind") (some none) && (eqO (PySem.W.findIn K (.ref C) f) (some none) && (eqO (PySem.W.findIn K (.ref C) "__getattribute__") (some (some (.builtin "BaseException.__getattribute__"))) &&
  (eqO (PySem.W.findIn K (.ref C) "__getattr__") (some none) && (PySem.W.hasDictIn K C && (eqO (PySem.W.findIn K (.ref C) "__class__") (some (some (.builtin "object.__class__"))) && (decide (PySem.W.mroIn K C (.type "object") = some true) &&
  (eqO (PySem.W.findIn K (.ref C) "__init__") (some (some (.ref fI))) && (excB K C && (decide (PySem.W.exmOne K (.ref C) (.ref C) = some true) && (eqO (PySem.W.specialIn K (.builtin "object.__class__") "__get__") (some (some (.builtin "getset_descriptor.__get__"))) && decide (PySem.W.takesIn K (.builtin "object.__class__") = some true))))))))))))))))
def strKB (es : Array DictEntry) : Bool := es.toList.all fun e => match e.key with | .str _ _ => true | _ => false
/-- a class with an __eq__ of its own and no __ne__ -/
def eqneB (K : PySem.W.Frag) (C f : Addr) : Bool := match K.lookup C with
  | some ⟨.type "type", _, .cls cd, sl⟩ => (match cd.mro, sl.toList, K.lookup cd.ns, K.lookup f with
    | [.ref C', .type "object"], [_, _, _, _, some (.builtin _), _], some ⟨_, _, .dict es _, _⟩, some of => C' == C && (!cd.hasDel && (strKB es && (decide (nsFind es "__eq__" = some (.ref f)) && (decide (nsFind es "__ne__" = none) && decide (of.cls = .type "function")))))
    | _, _, _, _ => false)
  | _ => false
def insB (K : PySem.W.Frag) (C : Addr) : Bool := eqO (PySem.W.findIn K (.ref C) "__class__") (some (some (.builtin "object.__class__"))) && (decide (PySem.W.mroIn K C (.type "object") = some true) && (eqO (PySem.W.specialIn K (.builtin "object.__class__") "__get__") (some (some (.builtin "getset_descriptor.__get__"))) && (decide (PySem.W.takesIn K (.builtin "object.__class__") = some true) && decide (PySem.W.kitOne K (.ref C) (.ref C) = some true))))
def factL : List Fa := [.glo "WhoError", .glo "NoName", .glo "NoRule", .glo "is_name", .glo "refuse_no_name", .glo "first_twice", .glo "refuse_twice", .glo "refuse_count", .glo "own_list", .glo "refuse_makings_twice", .glo "refuse_no_sort", .glo "refuse_upward", .glo "refuse_no_word", .glo "check_scheme", .glo "tuple_of_tuples", .glo "ends_of", .glo "texts_of_pattern", .glo "refuse_no_variable", .glo "refuse_loose", .glo "refuse_apart", .glo "check_pattern", .glo "_law_state", .glo "_law_digit", .glo "_law_name", .glo "_law_names", .glo "_law_none", .glo "law", .glo "Scheme", .cls "Scheme", .noat "Scheme" "own_sorts", .noat "Scheme" "own_words", .noat "Scheme" "own_makings", .noat "Scheme" "own_rules", .noat "Scheme" "own_bars", .mkr "Scheme", .glo "Bar", .cls "Bar", .noat "Bar" "name", .noat "Bar" "variables", .noat "Bar" "conditions", .mkr "Bar", .glo "Rule", .cls "Rule", .noat "Rule" "name", .noat "Rule" "variables", .noat "Rule" "conditions", .noat "Rule" "gives", .noat "Rule" "by", .mkr "Rule", .glo "Making", .cls "Making", .noat "Making" "maker", .noat "Making" "made", .noat "Making" "down", .noat "Making" "up", .mkr "Making", .meth "Bar" "__eq__", .meth "Rule" "__eq__", .meth "Scheme" "makings", .meth "Scheme" "rules", .meth "Scheme" "bars", .meth "Scheme" "rule", .meth "Scheme" "bar", .meth "Scheme" "with_rule", .meth "Scheme" "with_bar", .meth "Scheme" "with_making", .meth "Scheme" "without_rule", .meth "Scheme" "without_bar", .meth "Scheme" "without_making", .free "abs", .free "int", .free "len", .free "range", .free "all", .free "tuple", .free "enumerate", .free "isinstance", .free "ValueError", .free "list", .free "str", .str "LETTERS" "abcdefghijklmnopqrstuvwxyz", .str "FIGURES" "0123456789", .int "LONGEST_NAME" 12, .int "MOST_SORTS" 4, .int "MOST_WORDS" 5, .int "MOST_RULES" 8, .int "MOST_BARS" 4, .int "MOST_VARIABLES" 4, .int "MOST_CONDITIONS" 3]
def ck (K : PySem.W.Frag) : Bool := factL.all (fun f => f.ok K) && (whoB K (ga K "WhoError") && (errB K (ga K "NoName") (ma K (ga K "NoName") "__init__") "name" && (errB K (ga K "NoRule") (ma K (ga K "NoRule") "__init__") "name" && (eqneB K (ga K "Rule") (ma K (ga K "Rule") "__eq__") && (eqneB K (ga K "Bar") (ma K (ga K "Bar") "__eq__") && (insB K (ga K "Rule") && (insB K (ga K "Bar"))))))))
def d_is_name : DefD := ⟨("is_name", none), "is_name", "is_name", defArgs sName, defBody sName, defScope sName, [], []⟩
def d_refuse_no_name : DefD := ⟨("refuse_no_name", none), "refuse_no_name", "refuse_no_name", defArgs sRN, defBody sRN, defScope sRN, [], []⟩
def d_first_twice : DefD := ⟨("first_twice", none), "first_twice", "first_twice", defArgs sFT, defBody sFT, defScope sFT, [], []⟩
def d_refuse_twice : DefD := ⟨("refuse_twice", none), "refuse_twice", "refuse_twice", defArgs sRT, defBody sRT, defScope sRT, [], []⟩
def d_refuse_count : DefD := ⟨("refuse_count", none), "refuse_count", "refuse_count", defArgs sRC, defBody sRC, defScope sRC, [], []⟩
def d_own_list : DefD := ⟨("own_list", none), "own_list", "own_list", defArgs sOL, defBody sOL, defScope sOL, [], []⟩
def d_refuse_makings_twice : DefD := ⟨("refuse_makings_twice", none), "refuse_makings_twice", "refuse_makings_twice", defArgs sRMT, defBody sRMT, defScope sRMT, [], []⟩
def d_refuse_no_sort : DefD := ⟨("refuse_no_sort", none), "refuse_no_sort", "refuse_no_sort", defArgs sRNS, defBody sRNS, defScope sRNS, [], []⟩
def d_refuse_upward : DefD := ⟨("refuse_upward", none), "refuse_upward", "refuse_upward", defArgs sRU, defBody sRU, defScope sRU, [], []⟩
def d_refuse_no_word : DefD := ⟨("refuse_no_word", none), "refuse_no_word", "refuse_no_word", defArgs sRNW, defBody sRNW, defScope sRNW, [], []⟩
def d_check_scheme : DefD := ⟨("check_scheme", none), "check_scheme", "check_scheme", defArgs sCS, defBody sCS, defScope sCS, [], []⟩
def d_tuple_of_tuples : DefD := ⟨("tuple_of_tuples", none), "tuple_of_tuples", "tuple_of_tuples", defArgs sTT, defBody sTT, defScope sTT, [], []⟩
def d_ends_of : DefD := ⟨("ends_of", none), "ends_of", "ends_of", defArgs sEO, defBody sEO, defScope sEO, [], []⟩
def d_texts_of_pattern : DefD := ⟨("texts_of_pattern", none), "texts_of_pattern", "texts_of_pattern", defArgs sTP, defBody sTP, defScope sTP, [], []⟩
def d_refuse_no_variable : DefD := ⟨("refuse_no_variable", none), "refuse_no_variable", "refuse_no_variable", defArgs sRV, defBody sRV, defScope sRV, [], []⟩
def d_refuse_loose : DefD := ⟨("refuse_loose", none), "refuse_loose", "refuse_loose", defArgs sRL, defBody sRL, defScope sRL, [], []⟩
def d_refuse_apart : DefD := ⟨("refuse_apart", none), "refuse_apart", "refuse_apart", defArgs sRA, defBody sRA, defScope sRA, [], []⟩
def d_check_pattern : DefD := ⟨("check_pattern", none), "check_pattern", "check_pattern", defArgs sCP, defBody sCP, defScope sCP, [], []⟩
def d__law_state : DefD := ⟨("_law_state", none), "_law_state", "_law_state", defArgs sState, defBody sState, defScope sState, [], []⟩
def d__law_digit : DefD := ⟨("_law_digit", none), "_law_digit", "_law_digit", defArgs sDigit, defBody sDigit, defScope sDigit, [], []⟩
def d__law_name : DefD := ⟨("_law_name", none), "_law_name", "_law_name", defArgs sNam, defBody sNam, defScope sNam, [], []⟩
def d__law_names : DefD := ⟨("_law_names", none), "_law_names", "_law_names", defArgs sNms, defBody sNms, defScope sNms, [], []⟩
def d__law_none : DefD := ⟨("_law_none", none), "_law_none", "_law_none", defArgs sNon, defBody sNon, defScope sNon, [], []⟩
def d_law : DefD := ⟨("law", none), "law", "law", defArgs sLaw, defBody sLaw, defScope sLaw, [], []⟩
def d_NoName___init__ : DefD := ⟨("NoName", some "__init__"), "__init__", "NoName.__init__", defArgs sN0, defBody sN0, defScope sN0, [], []⟩
def d_NoRule___init__ : DefD := ⟨("NoRule", some "__init__"), "__init__", "NoRule.__init__", defArgs sNRu, defBody sNRu, defScope sNRu, [], []⟩
def d_Bar___init__ : DefD := ⟨("Bar", some "__init__"), "__init__", "Bar.__init__", defArgs sBar, defBody sBar, defScope sBar, [], []⟩
def d_Rule___init__ : DefD := ⟨("Rule", some "__init__"), "__init__", "Rule.__init__", defArgs sRul, defBody sRul, defScope sRul, [], []⟩
def d_Making___init__ : DefD := ⟨("Making", some "__init__"), "__init__", "Making.__init__", defArgs sMak, defBody sMak, defScope sMak, [], []⟩
def d_Bar___eq__ : DefD := ⟨("Bar", some "__eq__"), "__eq__", "Bar.__eq__", defArgs sBE, defBody sBE, defScope sBE, [], []⟩
def d_Rule___eq__ : DefD := ⟨("Rule", some "__eq__"), "__eq__", "Rule.__eq__", defArgs sRE, defBody sRE, defScope sRE, [], []⟩
def d_Scheme_makings : DefD := ⟨("Scheme", some "makings"), "makings", "Scheme.makings", defArgs sSMk, defBody sSMk, defScope sSMk, [], []⟩
def d_Scheme_rules : DefD := ⟨("Scheme", some "rules"), "rules", "Scheme.rules", defArgs sSRu, defBody sSRu, defScope sSRu, [], []⟩
def d_Scheme_bars : DefD := ⟨("Scheme", some "bars"), "bars", "Scheme.bars", defArgs sSBa, defBody sSBa, defScope sSBa, [], []⟩
def d_Scheme_rule : DefD := ⟨("Scheme", some "rule"), "rule", "Scheme.rule", defArgs sSR1, defBody sSR1, defScope sSR1, [], []⟩
def d_Scheme_bar : DefD := ⟨("Scheme", some "bar"), "bar", "Scheme.bar", defArgs sSB1, defBody sSB1, defScope sSB1, [], []⟩
def d_Scheme_with_rule : DefD := ⟨("Scheme", some "with_rule"), "with_rule", "Scheme.with_rule", defArgs sSwr, defBody sSwr, defScope sSwr, [], []⟩
def d_Scheme_with_bar : DefD := ⟨("Scheme", some "with_bar"), "with_bar", "Scheme.with_bar", defArgs sSwb, defBody sSwb, defScope sSwb, [], []⟩
def d_Scheme_with_making : DefD := ⟨("Scheme", some "with_making"), "with_making", "Scheme.with_making", defArgs sSwm, defBody sSwm, defScope sSwm, [], []⟩
def d_Scheme_without_rule : DefD := ⟨("Scheme", some "without_rule"), "without_rule", "Scheme.without_rule", defArgs sSor, defBody sSor, defScope sSor, [], []⟩
def d_Scheme_without_bar : DefD := ⟨("Scheme", some "without_bar"), "without_bar", "Scheme.without_bar", defArgs sSob, defBody sSob, defScope sSob, [], []⟩
def d_Scheme_without_making : DefD := ⟨("Scheme", some "without_making"), "without_making", "Scheme.without_making", defArgs sSom, defBody sSom, defScope sSom, [], []⟩
def dWho : DefD := ⟨("WhoError", some "__init__"), "__init__", "WhoError.__init__", defArgs sW0, defBody sW0, defScope sW0, [.str "whoerror"], []⟩
def dSch : DefD := ⟨("Scheme", some "__init__"), "__init__", "Scheme.__init__", defArgs sSch, defBody sSch, defScope sSch, [.non, .non, .non], []⟩
def fnL : List DefD := [d_is_name, d_refuse_no_name, d_first_twice, d_refuse_twice, d_refuse_count, d_own_list, d_refuse_makings_twice, d_refuse_no_sort, d_refuse_upward, d_refuse_no_word, d_check_scheme, d_tuple_of_tuples, d_ends_of, d_texts_of_pattern, d_refuse_no_variable, d_refuse_loose, d_refuse_apart, d_check_pattern, d__law_state, d__law_digit, d__law_name, d__law_names, d__law_none, d_law, d_NoName___init__, d_NoRule___init__, d_Bar___init__, d_Rule___init__, d_Making___init__, d_Bar___eq__, d_Rule___eq__, d_Scheme_makings, d_Scheme_rules, d_Scheme_bars, d_Scheme_rule, d_Scheme_bar, d_Scheme_with_rule, d_Scheme_with_bar, d_Scheme_with_making, d_Scheme_without_rule, d_Scheme_without_bar, d_Scheme_without_making, dWho, dSch]
end Wm
set_option maxHeartbeats 0
namespace Wm
open PySem PySem.W PySem.Calls PyProof.Rows
abbrev RW : OpenRow := OpenLaw.row PySem.Challenge.rw_whomay_k09_by_their_names
abbrev hkW : Hook := hookM 6 ck fnL
def obW (s : SharedT) : He.AlD := obsMG 6 ck fnL (HandSHeadRun.getT s)
theorem obW_eq (s : SharedT) : obW s = hkW.obs s.abs := obsMG_eq (HandSHeadRun.getT_eq s)
def lo0 : List PySem.Str := ["_wall", "WhoError", "NoName", "BadCount", "Twice", "NoVariable", "Loose", "Apart", "NoSort", "Upward", "NoWord", "NoRule", "NoBar", "NoMaking", "LETTERS", "FIGURES", "LONGEST_NAME", "is_name", "refuse_no_name", "first_twice", "refuse_twice", "refuse_count", "MOST_SORTS", "MOST_WORDS", "MOST_RULES", "MOST_BARS", "own_list", "refuse_makings_twice", "refuse_no_sort", "refuse_upward"]
def lo1 : List PySem.Str := ["refuse_no_word", "check_scheme", "Scheme", "MOST_VARIABLES", "MOST_CONDITIONS", "tuple_of_tuples", "ends_of", "texts_of_pattern", "refuse_no_variable", "refuse_loose", "refuse_apart", "check_pattern", "variable_part", "pattern_parts", "rule_parts", "making_parts", "Bar", "Rule", "Making", "_law_cell_at", "_law_state", "_law_digit", "_law_name", "_law_names", "_law_none"]
def loW : List PySem.Str := lo0 ++ lo1
theorem runW (w : World) : HandSHeadRun.RunEq RW (view RW.prog [60]) hkW obW 20000 loW w := by
  intro os
  kernel_rfl
end Wm
namespace Wm
open PySem L2
/-- the digits' state at p -/
def StOk (H : Hp) (p : Addr) : Prop := ∃ a b c : Int, H p = some (.lst [.int a, .int b, .int c]) ∧ 0 ≤ a ∧ 0 ≤ b ∧ b ≤ 2147483636 ∧ 0 ≤ c ∧ c < 2147483648
/-- all that was tracked is as it was, but at p -/
def But (p : Addr) (H H' : Hp) : Prop := ∀ q o, q ≠ p → H q = some o → H' q = some o
theorem But.refl (p : Addr) (H : Hp) : But p H H := fun _ _ _ h => h
theorem But.trans {p : Addr} {H H1 H2 : Hp} (a : But p H H1) (b : But p H1 H2) : But p H H2 := fun q o n h => b q o n (a q o n h)
theorem But.upd {p : Addr} {H : Hp} {o : HO} : But p H (upd H p o) := fun q o n h => by rw [upd_ne n]; exact h
theorem Same.but {p : Addr} {H H1 : Hp} (a : Same H H1) : But p H H1 := fun q o _ h => a q o h
theorem Same.upd {p : Addr} {H : Hp} {o : HO} (n : H p = none) : Same H (upd H p o) := fun q o h => by rw [upd_ne (ne_of_none h n)]; exact h
theorem But.same {p : Addr} {H0 H H1 : Hp} (n : H0 p = none) (a : Same H0 H) (b : But p H H1) : Same H0 H1 := fun q o h => b q o (ne_of_none h n) (a q o h)
def spState : Sp := fun vs H Q _ => ∃ i : Int, vs = [.int i] ∧ ∀ p H', H p = none → Same H H' → StOk H' p → Q (.ref p) H'
def spDigit : Sp := fun vs H Q _ => ∃ (p : Addr) (n : Int), vs = [.ref p, .int n] ∧ StOk H p ∧ 0 < n ∧ n < 1073741824 ∧ ∀ (d : Int) H', 0 ≤ d → d < n → But p H H' → StOk H' p → Q (.int d) H'
structure TxB (mg : Str → Option Value) : Prop where
  abs : mg "abs" = none
  int : mg "int" = none
  len : mg "len" = none
  range : mg "range" = none
  all : mg "all" = none
  tuple : mg "tuple" = none
  enumerate : mg "enumerate" = none
  isinstance : mg "isinstance" = none
  ve : mg "ValueError" = none
section
variable {P : Program} {w : World} {K : PySem.W.Frag} {mg : Str → Option Value} {base : Heap}
theorem scState : FnScope ["_law_cell"] ["_law_cell"] (defScope sState) := ⟨rfl, rfl, rfl, by decide +kernel, rfl, by decide +kernel, by decide +kernel⟩
theorem ok_state {f : Addr} {fd : FuncData} (F : Fun K "_law_state" "_law_state" sState f fd) (T : TxB mg) : FnOk P w K mg base CX0 1 f fd ["_law_cell"] spState := by
  refine F.ok scState (fun vs H Q E h => ?_) (fun cdv A outer s H vs Q E hr h => ?_)
  · obtain ⟨i, rfl, _⟩ := h
    rfl
  · obtain ⟨i, rfl, k⟩ := h
    refine ⟨_, pss_cons (ps_set (i := 0) scState.nd rfl (Or.inl rfl) (pe_callB call_abs (by rfl) T.abs (by decide +kernel) (pa_cons (pv 0) pa_nil)))
      (pss_one (ps_ret (pe_lst (pa_cons (pe_op op_mul (pv 0) (pe_callTy call_int1 (by rfl) T.int (by decide +kernel) (pa_cons (pe_cmpR op_ge (pv 0) (pe_op op_pow pe_int pe_int) (nomark _)) pa_nil)))
        (pa_cons (pe_op op_add (pe_op op_mod (pv 0) pe_int) pe_int) (pa_cons (pe_op op_mod (pv 0) pe_int) pa_nil)))))), ?_⟩
    refine ⟨_, rfl, _, rfl, ?_⟩
    generalize hj : (if i < 0 then -i else i) = j
    have hj0 : 0 ≤ j := by rw [← hj]; split <;> omega
    refine ⟨_, rfl, _, rfl, _, _, rfl, rfl, ⟨by decide, by decide, by decide⟩, _, _, rfl, rfl, .inr ⟨_, rfl, ?_⟩⟩
    refine ⟨_, _, rfl, rfl, .inr ⟨?_, ?_⟩, _, rfl, _, _, rfl, rfl, (by show (0 : Int) < 2147483629; decide), _, _, rfl, rfl, _, rfl, _, _, rfl, rfl, (by show (0 : Int) < 2147483587; decide), (by show 3 ≤ sizeLine; decide), fun p hp => ?_⟩
    · split <;> decide
    · split <;> decide
    · refine k p _ hp (Same.upd hp) ⟨_, _, _, upd_same, ?_, ?_, ?_, ?_, ?_⟩
      · split
        · omega
        · omega
      · have := Int.emod_nonneg j (show (2147483629 : Int) ≠ 0 by decide); omega
      · have := Int.emod_lt_of_pos j (show (0 : Int) < 2147483629 by decide); omega
      · exact Int.emod_nonneg j (by decide)
      · have := Int.emod_lt_of_pos j (show (0 : Int) < 2147483587 by decide); omega
theorem scDigit : FnScope ["_law_state_here", "_law_base", "_law_found", "_law_more"] ["_law_state_here", "_law_base"] (defScope sDigit) := ⟨rfl, rfl, rfl, by decide +kernel, rfl, by decide +kernel, by decide +kernel⟩
theorem ok_digit {f : Addr} {fd : FuncData} (F : Fun K "_law_digit" "_law_digit" sDigit f fd) : FnOk P w K mg base CX0 1 f fd ["_law_state_here", "_law_base"] spDigit := by
  refine F.ok scDigit (fun vs H Q E h => ?_) (fun cdv A outer s H vs Q E hr h => ?_)
  · obtain ⟨p, n, rfl, _⟩ := h
    rfl
  · obtain ⟨p, n, rfl, ⟨a, b, c, hp, ha, hb, hb2, hc, hc2⟩, hn, hn2, k⟩ := h
    refine ⟨_, pss_cons (ps_if (pt_cmpR op_gt (pe_ix ix_list (pv 0) pe_int (fun _ _ => rfl)) pe_int (nomark _))
        (pss_cons (ps_set (i := 2) scDigit.nd rfl (Or.inl rfl) (pe_op op_mod (pe_ix ix_list (pv 0) pe_int (fun _ _ => rfl)) (pv 1)))
          (pss_cons (ps_asg (pe_op op_fdiv (pe_ix ix_list (pv 0) pe_int (fun _ _ => rfl)) (pv 1)) (pg_sub (pv 0) pe_int set_list)) (pss_one (ps_ret (pv 2))))) pss_nil)
      (pss_cons (ps_set (i := 3) scDigit.nd rfl (Or.inl rfl) (pe_op op_mul (pe_ix ix_list (pv 0) pe_int (fun _ _ => rfl)) (pe_op op_add (pe_op op_fdiv (pe_ix ix_list (pv 0) pe_int (fun _ _ => rfl)) pe_int) pe_int)))
      (pss_cons (ps_asg (pe_op op_add (pe_op op_mod (pe_op op_add (pv 3) (pe_ix ix_list (pv 0) pe_int (fun _ _ => rfl))) pe_int) pe_int) (pg_sub (pv 0) pe_int set_list))
      (pss_one (ps_ret (pe_op op_mod (pe_op op_fdiv (pe_ix ix_list (pv 0) pe_int (fun _ _ => rfl)) pe_int) (pv 1)))))), ?_⟩
    refine ⟨_, rfl, p, _, _, _, rfl, rfl, SqL.of hp, atI_nat (j := 0) rfl, _, _, rfl, rfl, _, rfl, ?_⟩
    refine ite2 (fun h0 => ?_) (fun h0 => ?_)
    · refine ⟨_, rfl, p, _, _, _, rfl, rfl, SqL.of hp, atI_nat (j := 0) rfl, _, rfl, _, _, rfl, rfl, hn, ?_⟩
      refine ⟨_, rfl, p, _, _, _, rfl, rfl, SqL.of hp, atI_nat (j := 0) rfl, _, rfl, _, _, rfl, rfl, ⟨hn, hn2⟩, _, rfl, p, _, _, 0, rfl, rfl, hp, rfl, _, rfl, ?_⟩
      refine k _ _ (Int.emod_nonneg a (by omega)) (Int.emod_lt_of_pos a hn) But.upd ⟨_, _, _, upd_same, ?_, hb, hb2, hc, hc2⟩
      exact Int.ediv_nonneg ha (by omega)
    · refine ⟨_, rfl, p, _, _, _, rfl, rfl, SqL.of hp, atI_nat (j := 1) rfl, _, rfl, p, _, _, _, rfl, rfl, SqL.of hp, atI_nat (j := 1) rfl, _, _, rfl, rfl, ⟨by decide, by decide⟩, _, _, rfl, rfl, _, _, rfl, rfl, .inl ⟨?_, ?_⟩, ?_⟩
      · omega
      · omega
      refine ⟨_, rfl, _, rfl, p, _, _, _, rfl, rfl, SqL.of hp, atI_nat (j := 2) rfl, _, _, rfl, rfl, _, _, rfl, rfl, (by show (0 : Int) < 2147483629; decide), _, _, rfl, rfl, _, rfl, p, _, _, 1, rfl, rfl, hp, rfl, ?_⟩
      generalize hm : (b * (b / 1009 + 69621) + c) % 2147483629 = m
      have hm0 : 0 ≤ m := by rw [← hm]; exact Int.emod_nonneg _ (by decide)
      have hm1 : m < 2147483629 := by rw [← hm]; exact Int.emod_lt_of_pos _ (by decide)
      refine ⟨_, rfl, p, _, _, _, rfl, rfl, SqL.of upd_same, atI_nat (j := 1) rfl, _, _, rfl, rfl, ⟨by decide, by decide⟩, _, rfl, _, _, rfl, rfl, hn, ?_⟩
      exact k _ _ (Int.emod_nonneg _ (by omega)) (Int.emod_lt_of_pos _ hn) But.upd ⟨_, _, _, upd_same, ha, by omega, by omega, hc, hc2⟩
end
end Wm
namespace Wm
open PySem L2
/-- a def of the module's top -/
structure Dn (K : PySem.W.Frag) (mg : Str → Option Value) (x : Str) (st : Stmt) (ps : List Str) (f : Addr) (fd : FuncData) : Prop where
  F : Fun K x x st f fd
  g : mg x = some (.ref f)
  b : Binds K fd ps []
theorem str_at (z : Str) {i : Int} (h0 : 0 ≤ i) (h1 : i < z.length) : ∃ c, z.cps[i.toNat]? = some c := by
  have h : i.toNat < z.cps.size := by
    have e : z.length = z.cps.size := rfl
    omega
  exact ⟨z.cps[i.toNat], Array.getElem?_eq_getElem h⟩
/-- every sign is one of unicode's -/
def okS (z : Str) : Prop := ∀ c ∈ z.cps.toList, c < 1114112
theorem okS_one {c : Nat} (h : c < 1114112) : okS ⟨#[c]⟩ := fun d hd => by
  have e : d = c := by simpa using hd
  rw [e]
  exact h
theorem okS_app {a b : Str} (ha : okS a) (hb : okS b) : okS (a ++ b) := fun c hc => by
  have e : (a ++ b).cps.toList = a.cps.toList ++ b.cps.toList := by
    show (a.cps ++ b.cps).toList = _
    simp
  rw [e] at hc
  rcases List.mem_append.mp hc with h | h
  · exact ha c h
  · exact hb c h
theorem rdItem {z : Str} {i : Int} {n : Nat} {H : Hp} {Q : VK} (hz : z.length = n) (h0 : 0 ≤ i) (h1 : i < n) (hn : n < 1000000) (h : ∀ c, z.cps.toList[i.toNat]? = some c → Q (.str ⟨#[c]⟩) H) : rIxS (.str z) (.int i) H Q := by
  have h2 : i < z.length := by rw [hz]; exact h1
  obtain ⟨c, hc⟩ := str_at z h0 h2
  have hl : z.cps.toList[i.toNat]? = some c := by simpa using hc
  have e : i = ((i.toNat : Nat) : Int) := by omega
  refine ⟨z, i, c, rfl, rfl, by rw [hz]; exact Nat.le_trans (Nat.le_of_lt hn) (by decide), ?_, h c hl⟩
  rw [e]
  exact atI_nat hl
theorem abcOk : ∀ c ∈ (PySem.Str.ofString "abcdefghijklmnopqrstuvwxyz0123456789").cps.toList, c < 1114112 := by decide +kernel
theorem abc36 : (PySem.Str.ofString "abcdefghijklmnopqrstuvwxyz0123456789").length = 36 := by decide +kernel
theorem len_app (a b : Str) : (a ++ b).length = a.length + b.length := by
  show (a.cps ++ b.cps).size = a.cps.size + b.cps.size
  exact Array.size_append
theorem len_one (c : Nat) : (⟨#[c]⟩ : Str).length = 1 := rfl
def spSign : Sp := fun vs H Q _ => ∃ i : Int, vs = [.int i] ∧ ∀ c, c < 1114112 → Q (.str ⟨#[c]⟩) H
def spPlain : Sp := fun vs H Q _ => ∃ (p : Addr) (n : Int), vs = [.ref p, .int n] ∧ StOk H p ∧ 1 ≤ n ∧ n ≤ 15 ∧ ∀ (z : Str) H', z.length ≤ 15 → okS z → But p H H' → StOk H' p → Q (.str z) H'
def spText : Sp := fun vs H Q _ => ∃ (p : Addr), vs = [.ref p] ∧ StOk H p ∧ ∀ (z : Str) H', z.length ≤ 40 → okS z → But p H H' → StOk H' p → Q (.str z) H'
section
variable {P : Program} {w : World} {K : PySem.W.Frag} {mg : Str → Option Value} {base : Heap}
end
end Wm
namespace Wm
open PySem L2
theorem strs_at {zs : List Str} {n : Nat} (h : ∀ z ∈ zs, z.length ≤ n) (ho : ∀ z ∈ zs, ∀ c ∈ z.cps.toList, c < 1114112) {j : Nat} (hj : j < zs.length) : ∃ z, (zs.map V.str)[j]? = some (.str z) ∧ z.length ≤ n ∧ okS z :=
  ⟨zs[j], by simp [hj], h _ (List.getElem_mem hj), ho _ (List.getElem_mem hj)⟩
theorem okS_cut {z : Str} (h : okS z) (lo hi : Option Int) : okS (cutS z lo hi) := fun c hc => by
  have hc' : c ∈ (z.cps.toList.drop (HT.sIx z.length 0 lo)).take (HT.sIx z.length z.length hi - HT.sIx z.length 0 lo) := hc
  exact h c (List.mem_of_mem_drop (List.mem_of_mem_take hc'))
theorem okS_join {a : Str} {ys : List Str} (ha : okS a) (h : ∀ y ∈ ys, okS y) : okS (Txt.join a ys) := by
  have e : Txt.join a ys = Str.join a ys := StrLaws.glued_eq_join a ys
  rw [e]
  clear e
  induction ys with
  | nil => exact fun c hc => (List.not_mem_nil (show c ∈ ([] : List Nat) from hc)).elim
  | cons y r ih =>
    cases r with
    | nil => exact h y List.mem_cons_self
    | cons z r =>
      show okS (y ++ a ++ Str.join a (z :: r))
      exact okS_app (okS_app (h y List.mem_cons_self) ha) (ih fun x hx => h x (List.mem_cons_of_mem _ hx))
theorem rdList {K : PySem.W.Frag} {p : Addr} {xs : List V} {i : Int} {j : Nat} {v : V} {H : Hp} {Q : VK} (hp : H p = some (.lst xs)) (e : i = (j : Int)) (hv : xs[j]? = some v) (h : Q v H) : rIxL K (.ref p) (.int i) H Q :=
  ⟨p, xs, i, v, rfl, rfl, SqL.of hp, at_of e hv, h⟩
theorem But.free {p D : Addr} {H H' : Hp} (b : But p H H') (n : D ≠ p) (h : H' D = none) : H D = none := by
  cases e : H D with
  | none => rfl
  | some o =>
    rw [b D o n e] at h
    cases h
theorem sum_ones : ∀ {ys : List Str}, (∀ y ∈ ys, y.length = 1) → (ys.map (·.length)).sum = ys.length
  | [], _ => rfl
  | y :: ys, h => by
    rw [List.map_cons, List.sum_cons, List.length_cons, h y List.mem_cons_self, sum_ones fun z hz => h z (List.mem_cons_of_mem _ hz)]
    omega
theorem join_len (a : Str) (ys : List Str) : (Txt.join a ys).length ≤ (ys.map (·.length)).sum + ys.length * a.length := by
  show (Builtin.Str.glued a ys).length ≤ _
  rw [StrLaws.glued_eq_join]
  exact StrLaws.join_length_le a ys
section
variable {P : Program} {w : World} {K : PySem.W.Frag} {mg : Str → Option Value} {base : Heap}
end
end Wm
namespace Wm
open PySem PySem.Spec PyProof.Rows L2 ClX
section
variable {X : Cx} {CX : CXT} {k : Nat} {C f : Addr} {fd : FuncData} {ps : List Str} {sp : Sp} {E : XK} {e : Expr} {es : List Expr} {t : TA} {x m : Str} {p1 p2 pos : Pos} {ds : List Value} {dvs : List V}
/-- C.f(e, ..), f a def of the class C -/
theorem pe_clsFn {pl : Sem Bool} {mc : Value} (hg : Gl X x) (hm : X.mg x = some (.ref C)) (r : CRead X.K C mc) (ht : PySem.W.findCls X.K (.ref C) mc m = some (.val (.ref f))) (hk : PySem.W.keepIn X.K (.ref f) = true) (F : FnOk X.prog X.w X.K X.mg X.base CX k f fd ps sp)
    (hr : Room k X.A) (hb : Binds X.K fd ps ds) (hd : Vals dvs ds) (hx : Passes CX X E) (ha : PA X (e :: es) t)
    (hc : eval (.Call (.Attribute (.Name x p1) m p2) (e :: es) [] pos) X.env = (do
      let ov ← eval (.Name x p1) X.env
      standAt p2.atName
      let (f, first) ← holding [ov] (getMethod ov m pl)
      callWith pos f first (backTo pos (starEach (e :: es) X.env)) (backToKw pos (keywordEach [] X.env))) := by rfl)
    (hdb : (x == ("__debug__" : Str)) = false := by decide) (he : starEach (e :: es) X.env = (false, eval e X.env) :: starEach es X.env := by rfl) (hpl : (backTo pos (starEach es X.env)).any (·.1) = false := by rfl) :
    PE X (.Call (.Attribute (.Name x p1) m p2) (e :: es) [] pos) (tCall sp dvs E t) := by
  refine ⟨fun pins s σ H Q I h => ?_⟩
  refine PySem.W.methodCall_KW (ld_glob I hg hm ?_ hdb) hc
  refine PySem.W.method_cls I.kIn r.ga (PySem.W.cls_value I.kIn r.rd ht rfl ?_)
  show wpAny _ _ (callWith pos (Value.ref f) [] (backTo pos (starEach (e :: es) X.env)) []) _ _ _
  refine PySem.W.callWith_K (h₀ := X.base) I.ok.mod.kin hk (thn (ha.run pos pins _ σ H _ (I.tok _) h) fun us s1 ⟨vs, H1, I1, r1, q⟩ => ⟨I1.kIn, ?_⟩) he hpl
  exact run_fn F hr hb hd hx I1 r1 q
/-- xs + ys, both to be read -/
def rCatR (K : PySem.W.Frag) : R2 := fun x y H Q => ∃ l b xs zs, x = .ref l ∧ y = .ref b ∧ SqL K H l xs ∧ SqL K H b zs ∧ xs.length + zs.length ≤ sizeLine ∧ ∀ p, H p = none → Q (.ref p) (upd H p (.lst (xs ++ zs)))
theorem op_catR : OpR X (binaryOp .Add) (rCatR X.K) := by
  intro pins s σ H x y v u Q I rx ry h
  obtain ⟨l, b, xs, zs, rfl, rfl, hH, hB, hz, q⟩ := h
  cases rx
  cases ry
  obtain ⟨its, r, e, hl⟩ := I.list hH
  obtain ⟨its2, r2, e2, hl2⟩ := I.list hB
  have l1 := r.length
  have l2 := r2.length
  obtain ⟨⟨cls, dd, data, sl⟩, ho, hc, n, hd⟩ := e.isList
  obtain ⟨⟨cls2, dd2, data2, sl2⟩, ho2, hc2, n2, hd2⟩ := e2.isList
  simp only at hc hd hc2 hd2
  subst hc hd hc2 hd2
  refine concat_meets ⟨_, ho, rfl⟩ ⟨_, ho2, rfl⟩ noFill_list_add seq_list_add PySem.F.slot_list_add PySem.F.entry_list_add (PySem.F.args_list_add_2 _ _) (list_addW l b its.toArray its2.toArray n n2 dd dd2 sl sl2 (by rw [List.size_toArray, List.size_toArray]; omega)) ⟨ho, ho2, ?_⟩
  have ea : its.toArray ++ its2.toArray = (its ++ its2).toArray := by simp
  rw [ea]
  exact ⟨.ref _, _, I.lnew (t' := s.toks) (r.append r2) (by rw [List.length_append]; omega), rfl, q _ I.fresh⟩
end
end Wm
namespace Wm
open PySem PySem.Spec PyProof.Rows L2 ClX
/-- isinstance(e, c) in an except suite, e the exception that it holds (its class D, its dict at dd) -/
def rIsX (K : PySem.W.Frag) (D a dd : Addr) : List V → Hp → VK → Prop := fun xs H Q => ∃ (c : V) (cv : Value) (b : Bool) (fs : List (Str × V)), xs = [.ref a, c] ∧ H dd = some (.xd fs) ∧ (∀ u, RelV c u → u = cv) ∧ PySem.W.kitOne K (.ref D) cv = some b ∧ Q (.bl b) H
theorem call_isX {X : Cx} {a D dd : Addr} {oe : Obj} {pn : List (Addr × Obj)} (C : ExcC X.K D) (hz : Zc (.ref D) (some dd) oe) (hf : ∃ vs, oe.data = .fields vs) : CallR (X.suite a ((a, oe) :: pn)) (.builtin "isinstance") (rIsX X.K D a dd) := by
  intro pins s σ H xs us Q I r h
  obtain ⟨c, cv, b, fs, rfl, hdd, hcv, e, q⟩ := h
  cases r with
  | cons rx rr =>
    cases rr with
    | cons rt rr =>
      cases rr
      cases rx
      have ec := hcv _ rt
      subst ec
      obtain ⟨hget, _⟩ := I.pin (a, oe) (List.mem_append.mpr (.inl List.mem_cons_self))
      obtain ⟨vs, hv⟩ := hf
      have hx : ObjOk X.prog X.w H s.heap dd (.xd fs) := I.hok dd _ hdd
      obtain ⟨mA, hns, hr⟩ := hx
      obtain ⟨od, ho, hl⟩ := lookIn_ns hns
      have J : PySem.W.InstAt s.heap a oe D (some od) := ⟨hget, hz.1, by unfold PySem.W.notCls; rw [hv] <;> rfl, by rw [hz.2]; exact ho⟩
      have hcl : (PySem.W.clsIn X.K D).isSome = true := by
        obtain ⟨cd, hc, _⟩ := PySem.W.any_some C.hd
        rw [hc]
        rfl
      exact PySem.W.kia_one (PySem.W.kitx_exc hcl C.hg C.hk C.hs C.ha C.hn C.ht C.hm) I.kIn J e (fun z => nomatch z) fun tk => ⟨.bl b, H, I.kept (t' := tk) fun _ _ z => z, rfl, q⟩
/-! ### errors of one field -/
def spWI (K : PySem.W.Frag) : Sp := fun vs H Q _ => ∃ (a C : Addr) (v : V), vs = [.ref a, v] ∧ OexC K C ∧ PySem.W.findIn K (.ref C) "kind" = some none ∧ H a = some (exo a C none) ∧ ∀ dx, H dx = none → dx ≠ a → Q .non (upd (upd H dx (exd dx [("kind", v)])) a (exo a C (some dx)))
/-- the dict of an error of one field -/
def ef1 (f kd : Str) (v : V) : List (Str × V) := [(f, v), ("kind", .str kd)]
def spE1 (C : Addr) (f kd : Str) : Sp := fun vs H Q _ => ∃ (a : Addr) (v : V), vs = [.ref a, v] ∧ H a = some (exo a C none) ∧ ∀ dx H', H dx = none → dx ≠ a → (∀ b o, b ≠ a → H b = some o → H' b = some o) → H' a = some (exo a C (some dx)) → H' dx = some (exd dx (ef1 f kd v)) → Q .non H'
/-- what is known of WhoError -/
structure WhoT (K : PySem.W.Frag) (mg : Str → Option Value) (W f0 : Addr) (fd0 : FuncData) : Prop where
  g : mg "WhoError" = some (.ref W)
  r : CRead K W (.type "type")
  m : PySem.W.findCls K (.ref W) (.type "type") "__init__" = some (.val (.ref f0))
  k : PySem.W.keepIn K (.ref f0) = true
  b : Binds K fd0 ["self", "kind"] []
/-- what is known of an error class of one field -/
structure ErrT (K : PySem.W.Frag) (mg : Str → Option Value) (x f : Str) (C fI : Addr) : Prop where
  o : OexC K C
  g : mg x = some (.ref C)
  iC : PySem.W.findIn K (.ref C) "__init__" = some (some (.ref fI))
  tI : PySem.W.typeIn K (.ref fI) = some (.type "function")
  nk : PySem.W.findIn K (.ref C) "kind" = some none
  nf : PySem.W.findIn K (.ref C) f = some none
end Wm
namespace Wm
open PySem L2
section
variable {P : Program} {w : World} {K : PySem.W.Frag} {mg : Str → Option Value} {base : Heap}
theorem scW0 : FnScope ["self", "kind"] ["self", "kind"] (defScope sW0) := ⟨rfl, rfl, rfl, by decide +kernel, rfl, by decide +kernel, by decide +kernel⟩
theorem ok_who {f : Addr} {fd : FuncData} {dvs : List V} (F : FunD K "__init__" "WhoError.__init__" (defArgs sW0) (defBody sW0) (defScope sW0) dvs [] f fd) : FnOk P w K mg base CX0 1 f fd ["self", "kind"] (spWI K) := by
  refine F.ok scW0 (fun vs H Q E h => ?_) (fun cdv A outer s H vs Q E hr h => ?_)
  · obtain ⟨a, C, v, rfl, _⟩ := h
    rfl
  · obtain ⟨a, C, v, rfl, o, nk, ha, k⟩ := h
    refine ⟨_, pss_one (ps_ost (pv 0) (pv 1)), ?_⟩
    exact ⟨_, rfl, _, rfl, a, C, rfl, o, nk, .inl ⟨ha, fun dx n ne => k dx n ne⟩⟩
theorem scN0 : FnScope ["self", "name"] ["self", "name"] (defScope sN0) := ⟨rfl, rfl, rfl, by decide +kernel, rfl, by decide +kernel, by decide +kernel⟩
theorem ok_noname {f C f0 W : Addr} {fd fd0 : FuncData} (F : Fun K "__init__" "NoName.__init__" sN0 f fd) (T : ErrT K mg "NoName" "name" C f) (TW : WhoT K mg W f0 fd0) (G0 : FnOk P w K mg base CX0 1 f0 fd0 ["self", "kind"] (spWI K)) :
    FnOk P w K mg base CX0 2 f fd ["self", "name"] (spE1 C "name" "noname") := by
  refine F.ok scN0 (fun vs H Q E h => ?_) (fun cdv A outer s H vs Q E hr h => ?_)
  · obtain ⟨a, v, rfl, _⟩ := h
    rfl
  · obtain ⟨a, v, rfl, ha, k⟩ := h
    refine ⟨_, pss_cons (ps_expr (pe_clsFn rfl TW.g TW.r TW.m TW.k G0 hr TW.b .nil pass0 (pa_cons (pv 0) (pa_cons pe_str pa_nil)))) (pss_one (ps_ost (pv 0) (pv 1))), ?_⟩
    refine ⟨_, rfl, a, C, _, rfl, T.o, T.nk, ha, fun dx n ne => ?_⟩
    refine ⟨_, rfl, _, rfl, a, C, rfl, T.o, T.nf, .inr ⟨dx, _, upd_same, Eq.trans (upd_ne ne) upd_same, by decide, ?_⟩⟩
    refine k dx _ n ne (fun b o nb e => ?_) ?_ upd_same
    · have nd : b ≠ dx := ne_of_none e n
      rw [upd_ne nd, upd_ne nb, upd_ne nd]
      exact e
    · rw [upd_ne ne.symm, upd_same]
end
end Wm
namespace Wm
open PySem L2
/-! ### names -/
def LET : List Nat := (PySem.Str.ofString "abcdefghijklmnopqrstuvwxyz").cps.toList
def FIG : List Nat := (PySem.Str.ofString "0123456789").cps.toList
def okc (c : Nat) : Bool := decide (c ∈ LET) || decide (c ∈ FIG)
def first (l : List Nat) : Bool := match l with
  | [] => false
  | c :: _ => decide (c ∈ LET)
def isNm (z : Str) : Bool := decide (1 ≤ z.length) && (decide (z.length ≤ 12) && (first z.cps.toList && z.cps.toList.all okc))
theorem alnum : (PySem.Str.ofString "abcdefghijklmnopqrstuvwxyz0123456789").cps.toList = LET ++ FIG := by decide +kernel
theorem let_fig : ∀ c ∈ LET, ¬ c ∈ FIG := by decide +kernel
theorem okc_alnum (c : Nat) : decide (c ∈ (PySem.Str.ofString "abcdefghijklmnopqrstuvwxyz0123456789").cps.toList) = okc c := by
  rw [alnum]
  unfold okc
  by_cases h : c ∈ LET <;> by_cases h2 : c ∈ FIG <;> simp [h, h2]
theorem len_eq (z : Str) : z.length = z.cps.toList.length := by
  show z.cps.size = _
  simp
theorem isNm_small {z : Str} (h : z.length < 1 ∨ 12 < z.length) : isNm z = false := by
  unfold isNm
  rcases h with h | h
  · rw [decide_eq_false (by omega)]
    rfl
  · rw [decide_eq_false (p := z.length ≤ 12) (by omega)]
    simp
theorem isNm_first {z : Str} {c : Nat} (h1 : z.cps.toList[0]? = some c) (hc : ¬ c ∈ LET) : isNm z = false := by
  unfold isNm
  have e : first z.cps.toList = false := by
    cases q : z.cps.toList with
    | nil => rfl
    | cons d r =>
      rw [q] at h1
      have e : d = c := Option.some.inj h1
      rw [e]
      exact decide_eq_false hc
  rw [e]
  simp
theorem isNm_all {z : Str} {c : Nat} (h0 : ¬ z.length < 1) (h12 : ¬ 12 < z.length) (h1 : z.cps.toList[0]? = some c) (hc : c ∈ LET) : isNm z = z.cps.toList.all okc := by
  unfold isNm
  have e : first z.cps.toList = true := by
    cases q : z.cps.toList with
    | nil =>
      rw [q] at h1
      cases h1
    | cons d r =>
      rw [q] at h1
      have e : d = c := Option.some.inj h1
      rw [e]
      exact decide_eq_true hc
  rw [e, decide_eq_true (by omega), decide_eq_true (by omega)]
  rfl
theorem isNm_fig {z : Str} {c : Nat} (h1 : z.cps.toList[0]? = some c) (hc : c ∈ FIG) : isNm z = false := isNm_first h1 fun h => let_fig c h hc
theorem isNm_all2 {z : Str} {c : Nat} (h0 : ¬ z.length < 1) (h12 : ¬ 12 < z.length) (h1 : z.cps.toList[0]? = some c) (hc : ¬ c ∈ FIG) : isNm z = z.cps.toList.all okc := by
  by_cases h : c ∈ LET
  · exact isNm_all h0 h12 h1 h
  · rw [isNm_first h1 h]
    have hm : c ∈ z.cps.toList := List.mem_of_getElem? h1
    have e : okc c = false := by
      unfold okc
      rw [decide_eq_false h, decide_eq_false hc]
      rfl
    symm
    rw [List.all_eq_false]
    exact ⟨c, hm, by rw [e]; decide⟩
theorem all_map {l : List Nat} {f : Nat → Bool} : (l.map f).all id = l.all f := by
  induction l with
  | nil => rfl
  | cons a r ih => rw [List.map_cons, List.all_cons, List.all_cons, ih]; rfl
def spName : Sp := fun vs H Q _ => ∃ z : Str, vs = [.str z] ∧ z.length ≤ 1000 ∧ ∀ H', Same H H' → Q (.bl (isNm z)) H'
/-- the constants of names.py -/
structure TxN (mg : Str → Option Value) : Prop where
  lets : ∃ t, mg "LETTERS" = some (.str (PySem.Str.ofString "abcdefghijklmnopqrstuvwxyz") t)
  figs : ∃ t, mg "FIGURES" = some (.str (PySem.Str.ofString "0123456789") t)
  long : ∃ t, mg "LONGEST_NAME" = some (.int 12 t)
/-- the reading of [f(sign) for sign in text] -/
theorem lc_signs {z : Str} {f : Nat → Bool} {g : TG} {te : TE} {vs : List Nat} {σ : St} {H1 : Hp} {D : Addr} {Qd : Hp → Prop} (hz : z.length ≤ 1000) (hD : H1 D = none)
    (he : ∀ (c : Nat) (H : Hp) (Q : St → Hp → Prop), (∀ σ2, wipe σ2 vs = wipe σ vs → (∀ Q2 : VK, Q2 (.bl (f c)) H → te σ2 H Q2) → Q σ2 H) → g (.str ⟨#[c]⟩) (wipe σ vs) H Q)
    (hd : ∀ H, Same H1 H → H D = some (.lst ((z.cps.toList.map f).map V.bl)) → Qd H) :
    ∃ W : Nat → Nat → Hp → Prop, (∃ m, W 0 m (upd H1 D (.lst []))) ∧ ∀ i m H, W i m H →
      ((Its z).stop i H ∧ Qd H) ∨ ((Its z).go i H ∧ ∃ Nx : Hp → Prop, (∀ H', Nx H' → ∃ m', m' < m ∧ W (i + 1) m' H') ∧ ∀ x H', (Its z).yld i H x H' → g x (wipe σ vs) H' fun σ2 H2 => wipe σ2 vs = wipe σ vs ∧ tYes σ2 H2 fun b H3 =>
        if b = true then te σ2 H3 fun y H4 => ∃ acc, H4 D = some (.lst acc) ∧ acc.length < sizeLine ∧ Nx (upd H4 D (.lst (acc ++ [y]))) else Nx H3) := by
  refine lc_it (walk_str (z := z)) (fun i H' => Same H1 H' ∧ H' D = some (.lst (((z.cps.toList.take i).map f).map V.bl))) ⟨Same.upd hD, upd_same⟩ (fun _ _ _ _ => True.intro) ?_ ?_
  · rintro i x H H' hi ⟨hS, hl⟩ ⟨rfl, c, hc, rfl⟩
    refine he c H' _ fun σ2 hw hq => ⟨hw, hq _ ?_⟩
    refine ⟨_, hl, ?_, ?_, ?_⟩
    · rw [List.length_map, List.length_map, List.length_take]
      have e := len_eq z
      exact Nat.lt_of_le_of_lt (show _ ≤ 1000 by omega) (by decide)
    · intro b o h
      have nb : b ≠ D := ne_of_none h hD
      rw [upd_ne nb]
      exact hS b o h
    · rw [upd_same]
      have e : z.cps.toList[i]? = some c := by simpa using hc
      have hlt : i < z.cps.toList.length := (List.getElem?_eq_some_iff.mp e).1
      rw [List.take_add_one, e, List.map_append, List.map_append]
      rfl
  · rintro H ⟨hS, hl⟩
    refine hd H hS ?_
    rw [hl, List.take_of_length_le (by simp)]
section
variable {P : Program} {w : World} {K : PySem.W.Frag} {mg : Str → Option Value} {base : Heap}
theorem scName : FnScope ["text", "sign"] ["text"] (defScope sName) := ⟨rfl, rfl, rfl, by decide +kernel, rfl, by decide +kernel, by decide +kernel⟩
theorem ok_name {f : Addr} {fd : FuncData} (F : Fun K "is_name" "is_name" sName f fd) (T : TxB mg) (TN : TxN mg) : FnOk P w K mg base CX0 1 f fd ["text"] spName := by
  obtain ⟨t1, hlet⟩ := TN.lets
  obtain ⟨t2, hfig⟩ := TN.figs
  obtain ⟨t3, hlong⟩ := TN.long
  refine F.ok scName (fun vs H Q E h => ?_) (fun cdv A outer s H vs Q E hr h => ?_)
  · obtain ⟨z, rfl, _⟩ := h
    rfl
  · obtain ⟨z, rfl, hz, k⟩ := h
    have hzl : z.length ≤ sizeLine := Nat.le_trans hz (by decide)
    refine ⟨_, (pss_cons (ps_if (PW.pt (pw_or (pt_cmpR op_lt (pe_callB call_len_str (by rfl) T.len (by decide +kernel) (pa_cons (pv 0) pa_nil)) pe_int (nomark _)) (pw_or1 (pt_cmpR op_gt (pe_callB call_len_str (by rfl) T.len (by decide +kernel) (pa_cons (pv 0) pa_nil)) (pe_glob (v := .int 12) (by rfl) hlong ⟨_, rfl⟩) (nomark _))))) (pss_one (ps_ret pe_bl)) pss_nil)
      (pss_cons (ps_if (pt_cmpR op_notIn_sign (pe_ix ix_str (pv 0) pe_int (fun _ _ => rfl)) (pe_glob (v := .str (PySem.Str.ofString "abcdefghijklmnopqrstuvwxyz")) (by rfl) hlet ⟨_, rfl⟩) (by rfl)) (pss_one (ps_ret pe_bl)) pss_nil)
      (pss_one (ps_ret (pe_callB (cr_all rfl) (by rfl) T.all (by decide +kernel) (pa_cons (pe_lc (own := [("sign", 1)]) (g := gName 1) rfl scName.nd (pi_str (pv 0)) (blkOk_by (N := ["text", "sign"]) (sc := defScope sName) (by decide +kernel)) (fun _ _ _ _ _ => (pg_name (i := 1) scName.nd rfl (Or.inl rfl))) (fun _ _ _ _ _ => pts_nil) (fun _ _ _ _ _ => (pe_or (pe_cmpR op_in_sign (pv 1) (pe_glob (v := .str (PySem.Str.ofString "abcdefghijklmnopqrstuvwxyz")) (by rfl) hlet ⟨_, rfl⟩) (by rfl)) (pe_one (pe_cmpR op_in_sign (pv 1) (pe_glob (v := .str (PySem.Str.ofString "0123456789")) (by rfl) hfig ⟨_, rfl⟩) (by rfl)))))) pa_nil)))))), ?_⟩
    refine ⟨_, rfl, z, rfl, hzl, _, _, rfl, rfl, _, rfl, ?_⟩
    refine ite2 (fun h1 => ?_) (fun h1 => ?_)
    · have h1' : (z.length : Int) < 1 := of_decide_eq_true h1
      refine iteT ?_
      have e : isNm z = false := isNm_small (.inl (by omega))
      have q := k H (Same.refl H)
      rw [e] at q
      exact q
    refine ⟨_, rfl, z, rfl, hzl, _, _, rfl, rfl, _, rfl, ?_⟩
    refine ite2 (fun h2 => ?_) (fun h2 => ?_)
    · have h2' : (12 : Int) < z.length := of_decide_eq_true h2
      have e : isNm z = false := isNm_small (.inr (by omega))
      have q := k H (Same.refl H)
      rw [e] at q
      exact q
    have h1' : ¬ z.length < 1 := fun x => h1 (decide_eq_true (by omega))
    have h2' : ¬ 12 < z.length := fun x => h2 (decide_eq_true (by omega))
    refine ⟨_, rfl, ?_⟩
    dsimp only [tC]
    refine rdItem (n := z.length) rfl (by decide) (by omega) (by omega) fun c hc => ?_
    refine ⟨c, _, rfl, rfl, _, rfl, ?_⟩
    refine ite2 (fun h3 => ?_) (fun h3 => ?_)
    · have h3' : ¬ c ∈ LET := fun x => by
        rw [show decide (c ∈ (PySem.Str.ofString "abcdefghijklmnopqrstuvwxyz").cps.toList) = true from decide_eq_true x] at h3
        cases h3
      have q := k H (Same.refl H)
      rw [isNm_first hc h3'] at q
      exact q
    have h3' : c ∈ LET := by
      by_cases x : c ∈ LET
      · exact x
      · rw [show decide (c ∈ (PySem.Str.ofString "abcdefghijklmnopqrstuvwxyz").cps.toList) = false from decide_eq_false x] at h3
        exact absurd rfl h3
    refine ⟨_, rfl, z, rfl, fun D hD => ?_⟩
    refine lc_signs (z := z) (f := okc) hz hD (fun c H Q q => ?_) fun H' hS hl => ?_
    · refine q _ rfl fun Q2 q2 => ?_
      refine ⟨_, rfl, c, _, rfl, rfl, _, rfl, ?_⟩
      unfold okc at q2
      refine ite2 (fun h => ?_) (fun h => ?_)
      · have h' : decide (c ∈ LET) = true := h
        rw [h'] at q2
        exact q2
      · have h' : decide (c ∈ LET) = false := Bool.eq_false_iff.mpr h
        rw [h'] at q2
        exact ⟨_, rfl, c, _, rfl, rfl, q2⟩
    · refine ⟨D, _, rfl, SqL.of hl, ?_⟩
      have q := k H' hS
      rw [isNm_all h1' h2' hc h3', ← all_map] at q
      exact q
end
end Wm
namespace Wm
open PySem L2
theorem mk1 {C : Addr} {f kd : Str} {v : V} {H : Hp} {Q : XK} (k : ∀ d H', H d = none → Same H H' → H' d = some (.xd (ef1 f kd v)) → Q (.ref C) (some d) H') :
    [v].length ≤ 1000 ∧ ∀ a, H a = none → spE1 C f kd (.ref a :: ([v] ++ [])) (upd H a (exo a C none)) (fun u H2 => u = .non ∧ ∃ (d : Addr) (fs : List (Str × V)), H2 a = some (exo a C (some d)) ∧ H2 d = some (exd d fs) ∧ H d = none ∧ Q (.ref C) (some d) (upd (del H2 a) d (.xd fs))) (fun _ _ _ => False) := by
  refine ⟨by show 1 ≤ 1000; decide, fun a na => ⟨a, v, rfl, upd_same, fun dx H' n ne kp ha hd => ⟨rfl, dx, _, ha, hd, ?_, ?_⟩⟩⟩
  · rw [upd_ne ne] at n
    exact n
  · rw [upd_ne ne] at n
    refine k dx _ n (fun b o e => ?_) upd_same
    have nb : b ≠ a := ne_of_none e na
    rw [upd_ne (ne_of_none e n), del_ne nb]
    exact kp b o nb (by rw [upd_ne nb]; exact e)
/-- what is due of the first text that is no name -/
def DueN (C : Addr) (zs : List Str) (H : Hp) (Q : VK) (E : XK) : Prop := match zs.find? (fun z => !isNm z) with
  | none => ∀ H', Same H H' → Q .non H'
  | some z => ∀ d H', H d = none → Same H H' → H' d = some (.xd (ef1 "name" "noname" (.str z))) → E (.ref C) (some d) H'
def spRN (K : PySem.W.Frag) (C : Addr) : Sp := fun vs H Q E => ∃ (l : Addr) (zs : List Str), vs = [.ref l] ∧ SqL K H l (zs.map V.str) ∧ zs.length ≤ 1000 ∧ (∀ z ∈ zs, z.length ≤ 1000) ∧ DueN C zs H Q E
theorem find_none_take {zs : List Str} {i : Nat} {z : Str} {p : Str → Bool} (h : ∀ y ∈ zs.take i, p y = false) (e : zs[i]? = some z) (hz : p z = true) : zs.find? p = some z := by
  have hlt : i < zs.length := (List.getElem?_eq_some_iff.mp e).1
  have e2 : zs = zs.take i ++ z :: zs.drop (i + 1) := by
    have q := List.take_append_drop i zs
    have q2 := List.drop_eq_getElem_cons hlt
    have q3 : zs[i] = z := (List.getElem?_eq_some_iff.mp e).2
    rw [q2, q3] at q
    exact q.symm
  rw [e2, List.find?_append]
  have n : (zs.take i).find? p = none := by
    rw [List.find?_eq_none]
    intro y hy
    rw [h y hy]
    decide
  rw [n]
  simp [hz]
section
variable {P : Program} {w : World} {K : PySem.W.Frag} {mg : Str → Option Value} {base : Heap}
theorem scRN : FnScope ["texts", "text"] ["texts"] (defScope sRN) := ⟨rfl, rfl, rfl, by decide +kernel, rfl, by decide +kernel, by decide +kernel⟩
theorem ok_rn {f fN C fI : Addr} {fd fdN fdI : FuncData} (F : Fun K "refuse_no_name" "refuse_no_name" sRN f fd) (D : Dn K mg "is_name" sName ["text"] fN fdN) (GN : FnOk P w K mg base CX0 1 fN fdN ["text"] spName) (TE : ErrT K mg "NoName" "name" C fI) (bI : Binds K fdI ["self", "name"] [])
    (GI : FnOk P w K mg base CX0 2 fI fdI ["self", "name"] (spE1 C "name" "noname")) : FnOk P w K mg base (L2.CX P w) 4 f fd ["texts"] (spRN K C) := by
  refine F.okX scRN (fun vs H Q E h => ?_) (fun cdv A outer s H vs Q E hr h => ?_)
  · obtain ⟨l, zs, rfl, _⟩ := h
    rfl
  · obtain ⟨l, zs, rfl, hl, hn, hz, k⟩ := h
    have hr1 : Room 1 _ := hr.mono (by decide)
    refine ⟨_, (pss_one (ps_for (passes_of rfl) rfl (pi_list (pv 0)) (pg_name (i := 1) scRN.nd rfl (Or.inl rfl)) (pss_one (ps_if (pt_not (pt_val (pe_call GN hr1 rfl D.g D.F.kp D.b .nil pass0 (pa_cons (pv 1) pa_nil)))) (pss_one (ps_raise rfl (takes_of rfl rfl rfl rfl) (pmk_oex TE.o TE.iC TE.tI GI hr bI .nil pass0 rfl TE.g (pa_cons (pv 1) pa_nil)))) pss_nil)))), ?_⟩
    refine ⟨_, rfl, l, rfl, ⟨_, hl⟩, for_list (K := K) (a := l) (xs := zs.map V.str) (fun i σ H' => ∃ v, σ = [some (.ref l), v] ∧ Same H H' ∧ ∀ y ∈ zs.take i, (!isNm y) = false) ⟨none, rfl, Same.refl H, fun y hy => (List.not_mem_nil hy).elim⟩
      (fun i σ H' _ ⟨_, _, hS, _⟩ => hS.seq hl) ?_ ?_⟩
    · rintro i y σ H' hi ⟨v, rfl, hS, hno⟩
      obtain ⟨z, hzi, rfl⟩ : ∃ z, zs[i]? = some z ∧ y = V.str z := by
        rw [List.getElem?_map] at hi
        cases e : zs[i]? with
        | none =>
          rw [e] at hi
          cases hi
        | some z =>
          rw [e] at hi
          exact ⟨z, rfl, (Option.some.inj hi).symm⟩
      refine ⟨_, rfl, z, rfl, hz z (List.mem_of_getElem? hzi), fun H2 hS2 => ⟨_, rfl, ?_⟩⟩
      refine ite2 (fun h => ?_) (fun h => ?_)
      · refine ⟨_, rfl, ?_⟩
        have e := find_none_take hno hzi h
        unfold DueN at k
        rw [e] at k
        refine mk1 fun d H3 hd hS3 hx => k d H3 (hS.free (hS2.free hd)) (hS.trans (hS2.trans hS3)) hx
      · refine ⟨_, rfl, hS.trans hS2, fun y hy => ?_⟩
        rw [List.take_add_one, hzi] at hy
        rcases List.mem_append.mp hy with hy | hy
        · exact hno y hy
        · have e : y = z := by simpa using hy
          rw [e]
          exact Bool.eq_false_iff.mpr h
    · rintro σ H' ⟨v, rfl, hS, hno⟩
      have e : zs.find? (fun z => !isNm z) = none := by
        rw [List.find?_eq_none]
        intro y hy
        rw [List.length_map, List.take_length] at hno
        rw [hno y hy]
        decide
      unfold DueN at k
      rw [e] at k
      exact k H' hS
end
end Wm
namespace Wm
open PySem PySem.Spec PyProof.Rows L2
/-- enumerate(v): its two new cells -/
theorem meets_enum1 {v : Value} {o : Obj} {H : Heap → Prop} (B : Begins v o H) :
    Meets (Builtin.«enumerate.__new__» ⟨[.type "enumerate", v], []⟩) (fun _ R s => H s.heap ∧
      R (.ok (.ret (.ref (s.heap.push o).objs.size))) { s with heap := (s.heap.push o).push { cls := .type "enumerate", data := .fields #[.none, .bool false, .ref s.heap.objs.size, rawInt 0, .none, .none] } }) :=
  .of_wp fun prog w A R s hh => by
    obtain ⟨hp, g, d, tk, os⟩ := s
    obtain ⟨h1, h⟩ := hh
    have hsub := sub_enumerate
    have q1 : ∀ {A' : Around} {E : Value → Shared → Prop} {Q : Value → Shared → Prop}, Q (.ref hp.objs.size) ⟨hp.push o, g, d, tk, os⟩ → wpAny (model prog w) A' (pyIter v) Q E ⟨hp, g, d, tk, os⟩ := fun q => B.iter prog w _ _ ⟨hp, g, d, tk, os⟩ _ h1 q
    wp_walk using q1
    refine wpAny_stack_any fun stk => wpAny_pure ?_
    split
    · rename_i c _ _ _ _ _
      cases (c == Value.type "enumerate") <;> (wp_walk using q1; exact ⟨_, rfl, h⟩)
    · wp_walk using q1
      exact ⟨_, rfl, h⟩
theorem call_enum_tup {prog : Program} {w : World} {A : Around} {E : Value → Shared → Prop} {s : Shared} {t : Addr} {items : Array Value} {Q : Value → Shared → Prop} (hL : s.heap.IsTuple t items)
    (h : ∀ h', IsEnum h' (s.heap.objs.size + 1) s.heap.objs.size 0 .none → h'.IsTupleIter s.heap.objs.size t 0 → (∀ b o, s.heap.get? b = some o → h'.get? b = some o) → Q (.ref (s.heap.objs.size + 1)) { s with heap := h' }) :
    wpAny (model prog w) A (call (.type "enumerate") [.ref t]) Q E s := by
  refine callType_new F.called_enumerate (by decide) (F.typeCall_enumerate_1 _) (F.newCall_enumerate_1 _) (fun obj => F.args_object_init_2 obj _) F.entry_enumerate_new (meets_enum1 (begins_tuple t items)) ⟨hL, ?_⟩
  generalize ho : ({ cls := .type "tuple_iterator", data := .fields #[.ref t, .int 0 0] } : Obj) = o
  have hz : (s.heap.push o).objs.size = s.heap.objs.size + 1 := Heap.size_push ..
  show _ ∧ _
  rw [hz]
  generalize he : ({ cls := .type "enumerate", data := .fields #[.none, .bool false, .ref s.heap.objs.size, rawInt 0, .none, .none] } : Obj) = eo
  have h2 : ((s.heap.push o).push eo).get? (s.heap.objs.size + 1) = some eo := by
    have q := Heap.get?_push_size (s.heap.push o) (o := eo) (by rw [← he]; rfl)
    rw [hz] at q
    exact q
  have h3 : ((s.heap.push o).push eo).get? s.heap.objs.size = some o := Heap.get?_push_of_some _ (Heap.get?_push_size _ (by rw [← ho]; rfl))
  refine ⟨⟨_, h2, by rw [← he]⟩, h _ ?_ ⟨o, h3, by rw [← ho], by rw [← ho]; rfl⟩ fun b o x => Heap.get?_push_of_some _ (Heap.get?_push_of_some _ x)⟩
  show ((s.heap.push o).push eo).get? (s.heap.objs.size + 1) = some _
  rw [h2, ← he]
/-- the tuple at a, each item in a new pair -/
def IteT (K : PySem.W.Frag) (a : Addr) (xs : List V) : It :=
  ⟨fun i H => SqT K H a xs ∧ i < xs.length, fun i H v H' => ∃ T x, v = .ref T ∧ H T = none ∧ H' = upd H T (.tup [.int (i : Nat), x]) ∧ xs[i]? = some x, fun i H => SqT K H a xs ∧ i = xs.length⟩
theorem turn_enumT {P : Program} {w : World} {K : PySem.W.Frag} {elts : List Expr} {kk : Nat} {tpos : Pos} {xs : List V} (a e it : Addr) (his : List Value) :
    Turn P w K (.Tuple elts kk tpos) (IteT K a xs) [e, it] e (fun i h => (∃ old, IsEnum h e it ((i : Nat) : Int) old) ∧ h.IsTupleIter it a i ∧ e ≠ it ∧ a ≠ it ∧ a ≠ e) where
  mem := by simp
  obj := fun i h st b hb => by
    obtain ⟨⟨old, he⟩, ⟨o, ho, hc, hd⟩, _⟩ := st
    rcases (show b = e ∨ b = it by simpa using hb) with z | z
    · rw [z]
      exact ⟨_, he, fun v q => nomatch q⟩
    · rw [z]
      exact ⟨o, ho, fun v q => by rw [hd] at q; cases q⟩
  keep := fun i h h' st k => let ⟨⟨old, he⟩, hi, hne⟩ := st; ⟨⟨old, k e (by simp) _ he⟩, hi.at fun o q => k it (by simp) o q, hne⟩
  item := by
    intro X hP hw hK hc i pins s σ H E I hf st hg
    subst hP hw hK
    obtain ⟨⟨old, he⟩, hit, hne, nai, nae⟩ := st
    obtain ⟨hq, hlt⟩ := hg
    obtain ⟨its, rv, p, hz⟩ := I.tuple hq
    have hlen := rv.length
    have hel : e < s.heap.objs.size := Heap.lt_size he
    have hil : it < s.heap.objs.size := by obtain ⟨_, q, _⟩ := hit; exact Heap.lt_size q
    have D : Draws X.prog X.w X.A.in1 it [it, a] its.toArray.size (fun i v => its.toArray[i]? = some v) (fun i h => h.IsTupleIter it a i ∧ h.IsTuple a its.toArray) := Draws.tuple (A := X.A.in1) (show X.A.in1.handled = none from I.ok.hd hc) it a nai its.toArray
    refine wpAny_pyNext_enum_itemC D he ⟨hit, p⟩ (by rw [List.size_toArray]; omega) hne (by simp [hne, Ne.symm nae]) fun u h' tk hu ho hst' hT hsz hk => ?_
    have hu' : its[i]? = some u := by simpa using hu
    obtain ⟨x, hx, ru⟩ : ∃ x, xs[i]? = some x ∧ RelV x u := by
      obtain ⟨u2, h2, r2⟩ := rv.get (List.getElem?_eq_getElem hlt)
      rw [hu'] at h2
      cases h2
      exact ⟨_, List.getElem?_eq_getElem hlt, r2⟩
    refine ⟨_, rfl, wpAny_letOwnedTupleGo_enum (s := { s with heap := h', toks := tk + 1 }) ho fun h'' he' sb => ?_⟩
    have hT2 : h''.get? s.heap.objs.size = some { cls := .type "tuple", data := .seq #[.int i tk, u] } := (sb.2 _ (Nat.ne_of_gt hel)).trans hT
    have new : ObjOk X.prog X.w (upd H s.heap.objs.size (.tup [.int (i : Nat), x])) h'' s.heap.objs.size (.tup [.int (i : Nat), x]) := ⟨by show 2 ≤ sizeLine; decide, [.int i tk, u], .cons ⟨_, rfl⟩ (.cons ru .nil), ⟨_, hT2, rfl, _, rfl⟩⟩
    have I1 : Inv X pins σ (upd H s.heap.objs.size (.tup [.int (i : Nat), x])) { s with heap := h'', toks := tk + 1 } :=
      I.turnedNew (ch := [e, it]) (fun b ob hb q => (sb.2 b (fun z => hb (by simp [z]))).trans (hk b ob (fun z => hb (by simp [z])) (fun z => hb (by simp [z])) q)) hf (Nat.le_refl _) new
    refine ⟨.ref s.heap.objs.size, _, I1, rfl, ⟨_, x, rfl, I.hok.fresh (Nat.le_refl _), rfl, hx⟩, ⟨⟨u, ?_⟩, hst'.1.at fun o q => (sb.2 it (Ne.symm hne)).trans q, hne, nai, nae⟩, fun b hb => ?_⟩
    · have e1 : ((i + 1 : Nat) : Int) = (i : Int) + 1 := by omega
      rw [e1]
      exact he'
    · have hb' : b < s.heap.objs.size := by
        rcases (show b = e ∨ b = it by simpa using hb) with z | z
        · rw [z]; exact hel
        · rw [z]; exact hil
      rw [upd_ne (Nat.ne_of_lt hb')]
      exact (hf b hb).1
  done := by
    intro X hP hw hK hc i pins s σ H E I hf st hg
    subst hP hw hK
    obtain ⟨⟨old, he⟩, hit, hne, nai, nae⟩ := st
    obtain ⟨hq, hi⟩ := hg
    obtain ⟨its, rv, p, hz⟩ := I.tuple hq
    have hlen := rv.length
    obtain ⟨f0, f1, f2, f3, f4, f5⟩ := hf it (by simp)
    have D : Draws X.prog X.w X.A.in1 it [it, a] its.toArray.size (fun i v => its.toArray[i]? = some v) (fun i h => h.IsTupleIter it a i ∧ h.IsTuple a its.toArray) := Draws.tuple (A := X.A.in1) (show X.A.in1.handled = none from I.ok.hd hc) it a nai its.toArray
    have en : i = its.toArray.size := by rw [List.size_toArray]; omega
    rw [en] at he hit
    exact wpAny_pyNext_enum_endD D he ⟨hit, p⟩ fun h' eb => ⟨rfl, I.turned (t' := s.toks) (fun b o hb q => eb b o hb q) f0 f1 f3 f4 f5⟩
  self := fun A i s Q E st h => let ⟨⟨_, he⟩, _⟩ := st; wpAny_pyIter_enum he h
def iEnumT (K : PySem.W.Frag) (ta : TA) : TI := fun σ H R => ta σ H fun vs H1 => ∃ a xs, vs = [.ref a] ∧ SqT K H1 a xs ∧ R (IteT K a xs) H1
theorem pi_enumT {X : Cx} {e : Expr} {ta : TA} {p pos tpos : Pos} {elts : List Expr} {kk : Nat} (hg : Gl X "enumerate") (hm : X.mg "enumerate" = none) (ha : PA X [e] ta) (hs : starEach [e] X.env = [(false, eval e X.env)] := by rfl) :
    PI X (.Tuple elts kk tpos) (.Call (.Name "enumerate" p) [e] [] pos) (iEnumT X.K ta) := by
  refine ⟨fun pins s σ H R I h => ?_⟩
  refine Call_ (ld_blt I hg hm boot_enumerate (PyProof.Rows.callWith_type1 (thn (ha.run pos pins s σ H _ I h) fun us s1 ⟨vs, H1, I1, r1, a, xs, ex, hq, q⟩ => ?_) hs rfl))
  subst ex
  cases r1 with
  | cons r rr =>
    cases rr
    cases r
    obtain ⟨its, rv, p', hz⟩ := I1.tuple hq
    have hal : a < s1.heap.objs.size := by obtain ⟨_, z, _⟩ := p'; exact Heap.lt_size z
    refine call_enum_tup (items := its.toArray) p' fun h' he hit hk => wpAny_pyIter_enum he ?_
    have I2 : Inv X pins σ H1 { s1 with heap := h' } := I1.kept (t' := s1.toks) hk
    refine ⟨s1.heap.objs.size + 1, [s1.heap.objs.size + 1, s1.heap.objs.size], _, _, H1, rfl, I2, turn_enumT a (s1.heap.objs.size + 1) s1.heap.objs.size its, ⟨⟨.none, he⟩, hit, Nat.succ_ne_self _, Nat.ne_of_lt hal, Nat.ne_of_lt (Nat.lt_succ_of_lt hal)⟩, fun b hb => ?_, q⟩
    have hle : s1.heap.objs.size ≤ b := by
      rcases (show b = s1.heap.objs.size + 1 ∨ b = s1.heap.objs.size by simpa using hb) with z | z
      · rw [z]; exact Nat.le_add_right _ _
      · rw [z]; exact Nat.le_refl _
    exact I1.fpOk hle (I1.hok.fresh hle)
theorem walk_enumT {K : PySem.W.Frag} {a : Addr} {xs : List V} : Walk (IteT K a xs) xs.length (fun H => SqT K H a xs) (YPair (fun i => some (.int (i : Nat))) (fun i => xs[i]?)) := by
  refine ⟨fun i _ hi q => ⟨q, hi⟩, fun _ q => ⟨q, rfl⟩, fun i H v H' _ q y => ?_⟩
  obtain ⟨T, x, h1, h2, h3, h4⟩ := y
  exact ⟨T, .int (i : Nat), x, h1, h2, h3, rfl, h4⟩
end Wm
namespace Wm
open PySem L2
/-- the outer walk of a comprehension of two clauses -/
theorem lc2_it {J : It} {n : Nat} {G : Hp → Prop} {Y : Nat → Hp → V → Hp → Prop} (w : Walk J n G Y) {g : TG} {vs : List Nat} {σ : St} {H1 : Hp} {D : Addr} {Qd : Hp → Prop} {inner : St → Hp → (Hp → Prop) → Prop} (Pv : Nat → Hp → Prop) (h0 : Pv 0 (upd H1 D (.lst []))) (hG : ∀ i H, i ≤ n → Pv i H → G H)
    (hs : ∀ i x H H', i < n → Pv i H → Y i H x H' → g x (wipe σ vs) H' fun σ2 H2 => wipe σ2 vs = wipe σ vs ∧ inner σ2 H2 (Pv (i + 1))) (hd : ∀ H, Pv n H → Qd H) :
    ∃ W : Nat → Nat → Hp → Prop, (∃ m, W 0 m (upd H1 D (.lst []))) ∧ ∀ i m H, W i m H →
      (J.stop i H ∧ Qd H) ∨ (J.go i H ∧ ∃ Nx : Hp → Prop, (∀ H', Nx H' → ∃ m', m' < m ∧ W (i + 1) m' H') ∧ ∀ x H', J.yld i H x H' → g x (wipe σ vs) H' fun σ2 H2 => wipe σ2 vs = wipe σ vs ∧ inner σ2 H2 Nx) := by
  refine ⟨fun i m H => m = n - i ∧ i ≤ n ∧ Pv i H, ⟨n, by simp, Nat.zero_le _, h0⟩, ?_⟩
  rintro i m H ⟨rfl, hi, p⟩
  have q := hG i H hi p
  by_cases hlt : i < n
  · exact .inr ⟨w.goes i H hlt q, Pv (i + 1), fun H' p' => ⟨n - (i + 1), by omega, rfl, hlt, p'⟩, fun x H' y => hs i x H H' hlt p (w.yields i H x H' hlt q y)⟩
  · have e : i = n := by omega
    subst e
    exact .inl ⟨w.stops H q, hd H p⟩
/-- the inner one -/
theorem lc1_it {J : It} {n : Nat} {G : Hp → Prop} {Y : Nat → Hp → V → Hp → Prop} (w : Walk J n G Y) {g : TG} {te : TE} {vs : List Nat} {σ : St} {H4 : Hp} {D : Addr} {Nx : Hp → Prop} (Pv : Nat → Hp → Prop) (h0 : Pv 0 H4) (hG : ∀ i H, i ≤ n → Pv i H → G H)
    (hs : ∀ i x H H', i < n → Pv i H → Y i H x H' → g x (wipe σ vs) H' fun σ3 H5 => wipe σ3 vs = wipe σ vs ∧ te σ3 H5 fun y H7 => ∃ acc, H7 D = some (.lst acc) ∧ acc.length < sizeLine ∧ Pv (i + 1) (upd H7 D (.lst (acc ++ [y])))) (hd : ∀ H, Pv n H → Nx H) :
    ∃ W1 : Nat → Nat → Hp → Prop, (∃ m, W1 0 m H4) ∧ ∀ j k H, W1 j k H →
      (J.stop j H ∧ Nx H) ∨ (J.go j H ∧ ∃ Nx1 : Hp → Prop, (∀ H', Nx1 H' → ∃ k', k' < k ∧ W1 (j + 1) k' H') ∧ ∀ x H', J.yld j H x H' → g x (wipe σ vs) H' fun σ3 H5 => wipe σ3 vs = wipe σ vs ∧ tYes σ3 H5 fun b H6 =>
        if b = true then te σ3 H6 fun y H7 => ∃ acc, H7 D = some (.lst acc) ∧ acc.length < sizeLine ∧ Nx1 (upd H7 D (.lst (acc ++ [y]))) else Nx1 H6) := by
  refine ⟨fun i m H => m = n - i ∧ i ≤ n ∧ Pv i H, ⟨n, by simp, Nat.zero_le _, h0⟩, ?_⟩
  rintro i m H ⟨rfl, hi, p⟩
  have q := hG i H hi p
  by_cases hlt : i < n
  · exact .inr ⟨w.goes i H hlt q, Pv (i + 1), fun H' p' => ⟨n - (i + 1), by omega, rfl, hlt, p'⟩, fun x H' y => hs i x H H' hlt p (w.yields i H x H' hlt q y)⟩
  · have e : i = n := by omega
    subst e
    exact .inl ⟨w.stops H q, hd H p⟩
/-- tuple(x) of a list or a tuple -/
def rTupOf (K : PySem.W.Frag) : List V → Hp → VK → Prop := fun xs H Q => ∃ p ys, xs = [.ref p] ∧ ((SqL K H p ys ∧ ∀ l, H l = none → Q (.ref l) (upd H l (.tup ys))) ∨ (SqT K H p ys ∧ Q (.ref p) H))
theorem call_tupN {X : Cx} : CallR X (.type "tuple") (rTupOf X.K) := call_tuple_of
theorem same_seqT {K : PySem.W.Frag} {H H' : Hp} {a : Addr} {xs : List V} (e : Same H H') (h : SqT K H a xs) : SqT K H' a xs := by
  rcases h with (h | ⟨o, h⟩) | h
  · exact .inl (.inl (e _ _ h))
  · exact .inl (.inr ⟨o, e _ _ h⟩)
  · exact .inr h
/-- to be read as a list or a tuple -/
def Sq (K : PySem.W.Frag) (H : Hp) (a : Addr) (xs : List V) : Prop := SqL K H a xs ∨ SqT K H a xs
theorem same_sq {K : PySem.W.Frag} {H H' : Hp} {a : Addr} {xs : List V} (e : Same H H') (h : Sq K H a xs) : Sq K H' a xs := h.imp (fun h => e.seq h) (fun h => same_seqT e h)
theorem cut_take (xs : List V) (i : Nat) : cutV xs none (some (i : Int)) = xs.take i := by
  unfold cutV
  rw [HT.sIx_none, HT.sIx_nat, List.drop_zero, Nat.sub_zero]
  by_cases h : i ≤ xs.length
  · rw [Nat.min_eq_left h]
  · rw [Nat.min_eq_right (by omega), List.take_length, List.take_of_length_le (by omega)]
theorem all_take {xs : List V} (h : xs.all flatV = true) (i : Nat) : (xs.take i).all flatV = true := by
  rw [List.all_eq_true] at h ⊢
  exact fun x hx => h x (List.mem_of_mem_take hx)
end Wm
namespace Wm
open PySem L2
/-- no item stands ahead of itself -/
def NoTw (xs : List V) : Prop := ∀ (i : Nat) (x : V), xs[i]? = some x → inV x (xs.take i) = false
def spFT (K : PySem.W.Frag) : Sp := fun vs H Q _ => ∃ (l : Addr) (xs : List V), vs = [.ref l] ∧ Sq K H l xs ∧ xs.all flatV = true ∧ NoTw xs ∧ ∀ H', Same H H' → Q .non H'
def spRC : Sp := fun vs H Q _ => ∃ (z : V) (c lo hi : Int), vs = [z, .int c, .int lo, .int hi] ∧ lo ≤ c ∧ c ≤ hi ∧ Q .non H
section
variable {P : Program} {w : World} {K : PySem.W.Frag} {mg : Str → Option Value} {base : Heap}
theorem scRC : FnScope ["what", "count", "least", "most"] ["what", "count", "least", "most"] (defScope sRC) := ⟨rfl, rfl, rfl, by decide +kernel, rfl, by decide +kernel, by decide +kernel⟩
theorem ok_rc {f : Addr} {fd : FuncData} (F : Fun K "refuse_count" "refuse_count" sRC f fd) : FnOk P w K mg base CX0 1 f fd ["what", "count", "least", "most"] spRC := by
  refine F.ok scRC (fun vs H Q E h => ?_) (fun cdv A outer s H vs Q E hr h => ?_)
  · obtain ⟨z, c, lo, hi, rfl, _⟩ := h
    rfl
  · obtain ⟨z, c, lo, hi, rfl, h1, h2, k⟩ := h
    refine ⟨_, (pss_one (ps_if (PW.pt (pw_or (pt_cmpR op_lt (pv 1) (pv 2) (nomark _)) (pw_or1 (pt_cmpR op_gt (pv 1) (pv 3) (nomark _))))) (pss_one ps_never) pss_nil)), ?_⟩
    refine ⟨_, rfl, _, rfl, _, _, rfl, rfl, _, rfl, ?_⟩
    refine ite2 (fun h => absurd (of_decide_eq_true h) (by omega)) (fun _ => ?_)
    refine ⟨_, rfl, _, rfl, _, _, rfl, rfl, _, rfl, ?_⟩
    exact ite2 (fun h => absurd (of_decide_eq_true h) (by omega)) (fun _ => k)
theorem scFT : FnScope ["row", "place", "part"] ["row"] (defScope sFT) := ⟨rfl, rfl, rfl, by decide +kernel, rfl, by decide +kernel, by decide +kernel⟩
theorem ok_ft {f : Addr} {fd : FuncData} (F : Fun K "first_twice" "first_twice" sFT f fd) (T : TxB mg) : FnOk P w K mg base CX0 1 f fd ["row"] (spFT K) := by
  refine F.ok scFT (fun vs H Q E h => ?_) (fun cdv A outer s H vs Q E hr h => ?_)
  · obtain ⟨l, xs, rfl, _⟩ := h
    rfl
  · obtain ⟨l, xs, rfl, hl, hf, hno, k⟩ := h
    rcases hl with hl | hl
    · refine ⟨_, (pss_cons (ps_for PassesOwn.never rfl (pi_enum rfl T.enumerate (pa_cons (pv 0) pa_nil)) (pg_tup rfl (pgs_cons (pg_name (i := 1) scFT.nd rfl (Or.inl rfl)) (pgs_cons (pg_name (i := 2) scFT.nd rfl (Or.inl rfl)) pgs_nil))) (pss_one (ps_if (pt_cmpR op_in_seq (pv 2) (pe_slice sl_list (pv 0) po_none (po_some (pv 1))) (by rfl)) (pss_one (ps_ret (pv 1))) pss_nil)))
      (pss_one (ps_ret pe_non))), ?_⟩
      refine ⟨_, rfl, l, xs, rfl, hl, for_it walk_enum (fun i σ H' => (∃ u v, σ = [some (.ref l), u, v]) ∧ Same H H') ⟨⟨none, none, rfl⟩, Same.refl H⟩ (fun i σ H' _ p => p.2.seq hl) ?_ ?_⟩
      · rintro i x σ H1 H2 hi ⟨⟨u, v, rfl⟩, hS⟩ ⟨t, y, z, rfl, ht, rfl, e1, e2⟩
        cases e1
        refine ⟨t, _, rfl, SqT.of upd_same, rfl, _, _, rfl, _, _, rfl, rfl, ?_⟩
        have S2 := hS.trans (Same.upd (o := .tup [.int (i : Nat), z]) ht)
        refine ⟨_, rfl, _, rfl, _, rfl, _, rfl, l, xs, rfl, S2.seq hl, fun p hp => ?_⟩
        refine ⟨p, _, rfl, .inl (SqL.of upd_same), ?_, ?_, _, rfl, ?_⟩
        · exact List.all_eq_true.mp hf _ (List.mem_of_getElem? e2)
        · show (cutV xs none (some (i : Int))).all flatV = true
          rw [cut_take]
          exact all_take hf i
        · have e : inV z (cutV xs none (some (i : Int))) = false := by
            rw [cut_take]
            exact hno i z e2
          show if inV z (cutV xs none (some (i : Int))) = true then _ else _
          rw [e]
          exact iteF ⟨⟨_, _, rfl⟩, S2.trans (Same.upd hp)⟩
      · rintro σ H' ⟨_, hS⟩
        exact k H' hS
    · refine ⟨_, (pss_cons (ps_for PassesOwn.never rfl (pi_enumT rfl T.enumerate (pa_cons (pv 0) pa_nil)) (pg_tup rfl (pgs_cons (pg_name (i := 1) scFT.nd rfl (Or.inl rfl)) (pgs_cons (pg_name (i := 2) scFT.nd rfl (Or.inl rfl)) pgs_nil))) (pss_one (ps_if (pt_cmpR op_in_seq (pv 2) (pe_slice sl_tupA (pv 0) po_none (po_some (pv 1))) (by rfl)) (pss_one (ps_ret (pv 1))) pss_nil)))
      (pss_one (ps_ret pe_non))), ?_⟩
      refine ⟨_, rfl, l, xs, rfl, hl, for_it walk_enumT (fun i σ H' => (∃ u v, σ = [some (.ref l), u, v]) ∧ Same H H') ⟨⟨none, none, rfl⟩, Same.refl H⟩ (fun i σ H' _ p => same_seqT p.2 hl) ?_ ?_⟩
      · rintro i x σ H1 H2 hi ⟨⟨u, v, rfl⟩, hS⟩ ⟨t, y, z, rfl, ht, rfl, e1, e2⟩
        cases e1
        refine ⟨t, _, rfl, SqT.of upd_same, rfl, _, _, rfl, _, _, rfl, rfl, ?_⟩
        have S2 := hS.trans (Same.upd (o := .tup [.int (i : Nat), z]) ht)
        refine ⟨_, rfl, _, rfl, _, rfl, _, rfl, l, xs, rfl, same_seqT S2 hl, fun h => ?_, fun h p hp => ?_⟩
        · have en : xs.take i = xs := by
            rw [HT.sIx_nat] at h
            exact List.take_of_length_le (by omega)
          have e : inV z xs = false := by
            have q := hno i z e2
            rw [en] at q
            exact q
          refine ⟨l, xs, rfl, .inr (same_seqT S2 hl), List.all_eq_true.mp hf _ (List.mem_of_getElem? e2), hf, _, rfl, ?_⟩
          show if inV z xs = true then _ else _
          rw [e]
          exact iteF ⟨⟨_, _, rfl⟩, S2⟩
        · refine ⟨p, _, rfl, .inr (SqT.of upd_same), List.all_eq_true.mp hf _ (List.mem_of_getElem? e2), ?_, _, rfl, ?_⟩
          · show (cutV xs none (some (i : Int))).all flatV = true
            rw [cut_take]
            exact all_take hf i
          · have e : inV z (cutV xs none (some (i : Int))) = false := by
              rw [cut_take]
              exact hno i z e2
            show if inV z (cutV xs none (some (i : Int))) = true then _ else _
            rw [e]
            exact iteF ⟨⟨_, _, rfl⟩, S2.trans (Same.upd hp)⟩
      · rintro σ H' ⟨_, hS⟩
        exact k H' hS
theorem scRT : FnScope ["names", "place"] ["names"] (defScope sRT) := ⟨rfl, rfl, rfl, by decide +kernel, rfl, by decide +kernel, by decide +kernel⟩
theorem ok_rt {f fF : Addr} {fd fdF : FuncData} (F : Fun K "refuse_twice" "refuse_twice" sRT f fd) (T : TxB mg) (D : Dn K mg "first_twice" sFT ["row"] fF fdF) : FnOk P w K mg base CX0 2 f fd ["names"] (spFT K) := by
  have G : FnOk P w K mg base CX0 1 fF fdF ["row"] (spFT K) := ok_ft D.F T
  refine F.ok scRT (fun vs H Q E h => ?_) (fun cdv A outer s H vs Q E hr h => ?_)
  · obtain ⟨l, xs, rfl, _⟩ := h
    rfl
  · obtain ⟨l, xs, rfl, hl, hf, hno, k⟩ := h
    refine ⟨_, (pss_cons (ps_set (i := 1) scRT.nd rfl (Or.inl rfl) (pe_call G hr rfl D.g D.F.kp D.b .nil pass0 (pa_cons (pv 0) pa_nil)))
      (pss_one (ps_if (pt_cmp (pc_notN (pv 1))) (pss_one ps_never) pss_nil))), ?_⟩
    refine ⟨_, rfl, l, xs, rfl, hl, hf, hno, fun H' hS => ?_⟩
    refine ⟨_, rfl, _, rfl, ?_⟩
    exact iteF (k H' hS)
end
end Wm
namespace Wm
open PySem L2
/-- the tuples at the addresses -/
def RowsAt (K : PySem.W.Frag) (H : Hp) : List Addr → List (List V) → Prop
  | [], [] => True
  | p :: ps, r :: rs => SqT K H p r ∧ RowsAt K H ps rs
  | _, _ => False
theorem RowsAt.same {K : PySem.W.Frag} {H H' : Hp} (e : Same H H') : ∀ {ps : List Addr} {rs : List (List V)}, RowsAt K H ps rs → RowsAt K H' ps rs
  | [], [], _ => True.intro
  | _ :: _, _ :: _, h => ⟨same_seqT e h.1, RowsAt.same e h.2⟩
  | [], _ :: _, h => h.elim
  | _ :: _, [], h => h.elim
theorem RowsAt.len {K : PySem.W.Frag} {H : Hp} : ∀ {ps : List Addr} {rs : List (List V)}, RowsAt K H ps rs → ps.length = rs.length
  | [], [], _ => rfl
  | _ :: _, _ :: _, h => congrArg Nat.succ (RowsAt.len h.2)
  | [], _ :: _, h => h.elim
  | _ :: _, [], h => h.elim
theorem RowsAt.get {K : PySem.W.Frag} {H : Hp} : ∀ {ps : List Addr} {rs : List (List V)} {i : Nat} {p : Addr}, RowsAt K H ps rs → ps[i]? = some p → ∃ r, rs[i]? = some r ∧ SqT K H p r
  | [], [], i, p, _, e => by simp at e
  | _ :: _, r :: _, 0, p, h, e => by
    have e' := Option.some.inj e
    subst e'
    exact ⟨r, rfl, h.1⟩
  | _ :: ps, _ :: rs, i + 1, p, h, e => by
    obtain ⟨r, h1, h2⟩ := RowsAt.get (i := i) h.2 (by simpa using e)
    exact ⟨r, by simpa using h1, h2⟩
  | [], _ :: _, _, _, h, _ => h.elim
  | _ :: _, [], _, _, h, _ => h.elim
theorem RowsAt.append {K : PySem.W.Frag} {H : Hp} : ∀ {ps qs : List Addr} {rs us : List (List V)}, RowsAt K H ps rs → RowsAt K H qs us → RowsAt K H (ps ++ qs) (rs ++ us)
  | [], _, [], _, _, h => h
  | _ :: _, _, _ :: _, _, h, g => ⟨h.1, RowsAt.append h.2 g⟩
  | [], _, _ :: _, _, h, _ => h.elim
  | _ :: _, _, [], _, h, _ => h.elim
theorem RowsAt.take {K : PySem.W.Frag} {H : Hp} : ∀ {ps : List Addr} {rs : List (List V)} (n : Nat), RowsAt K H ps rs → RowsAt K H (ps.take n) (rs.take n)
  | _, _, 0, _ => True.intro
  | [], [], _ + 1, _ => True.intro
  | _ :: _, _ :: _, n + 1, h => ⟨h.1, RowsAt.take n h.2⟩
  | [], _ :: _, _ + 1, h => h.elim
  | _ :: _, [], _ + 1, h => h.elim
theorem map_ref_get {ps : List Addr} {i : Nat} {x : V} (h : (ps.map V.ref)[i]? = some x) : ∃ p, ps[i]? = some p ∧ x = .ref p := by
  rw [List.getElem?_map] at h
  cases e : ps[i]? with
  | none =>
    rw [e] at h
    cases h
  | some p =>
    rw [e] at h
    exact ⟨p, rfl, (Option.some.inj h).symm⟩
theorem map_str_get {ps : List Str} {i : Nat} {x : V} (h : (ps.map V.str)[i]? = some x) : ∃ p, ps[i]? = some p ∧ x = .str p := by
  rw [List.getElem?_map] at h
  cases e : ps[i]? with
  | none =>
    rw [e] at h
    cases h
  | some p =>
    rw [e] at h
    exact ⟨p, rfl, (Option.some.inj h).symm⟩
abbrev Tri := Str × Str × Str
def triV (t : Tri) : List V := [.str t.1, .str t.2.1, .str t.2.2]
def endsL (ts : List Tri) : List Str := ts.flatMap fun t => [t.1, t.2.2]
theorem endsL_take {ts : List Tri} {i : Nat} {t : Tri} (h : ts[i]? = some t) : endsL (ts.take (i + 1)) = endsL (ts.take i) ++ [t.1, t.2.2] := by
  unfold endsL
  rw [List.take_add_one, h, List.flatMap_append]
  rfl
theorem endsL_len (ts : List Tri) : (endsL ts).length = 2 * ts.length := by
  induction ts with
  | nil => rfl
  | cons t r ih =>
    have e : (endsL (t :: r)).length = 2 + (endsL r).length := by
      show ([t.1, t.2.2] ++ endsL r).length = _
      rw [List.length_append]
      rfl
    have e2 : (t :: r).length = r.length + 1 := rfl
    omega
theorem tri_get {ts : List Tri} {i : Nat} {r : List V} (h : (ts.map triV)[i]? = some r) : ∃ t, ts[i]? = some t ∧ r = triV t := by
  rw [List.getElem?_map] at h
  cases e : ts[i]? with
  | none =>
    rw [e] at h
    cases h
  | some p =>
    rw [e] at h
    exact ⟨p, rfl, (Option.some.inj h).symm⟩
def spTT (K : PySem.W.Frag) : Sp := fun vs H Q _ => ∃ (l : Addr) (ps : List Addr) (rs : List (List V)), vs = [.ref l] ∧ SqL K H l (ps.map V.ref) ∧ RowsAt K H ps rs ∧ ps.length ≤ 1000 ∧ ∀ t H', H t = none → Same H H' → H' t = some (.tup (ps.map V.ref)) → Q (.ref t) H'
def spEO (K : PySem.W.Frag) : Sp := fun vs H Q _ => ∃ (l : Addr) (ps : List Addr) (ts : List Tri), vs = [.ref l] ∧ Sq K H l (ps.map V.ref) ∧ RowsAt K H ps (ts.map triV) ∧ ps.length ≤ 1000 ∧ ∀ d H', H d = none → Same H H' → H' d = some (.lst ((endsL ts).map V.str)) → Q (.ref d) H'
section
variable {P : Program} {w : World} {K : PySem.W.Frag} {mg : Str → Option Value} {base : Heap}
theorem scTT : FnScope ["rows", "row"] ["rows"] (defScope sTT) := ⟨rfl, rfl, rfl, by decide +kernel, rfl, by decide +kernel, by decide +kernel⟩
theorem ok_tt {f : Addr} {fd : FuncData} (F : Fun K "tuple_of_tuples" "tuple_of_tuples" sTT f fd) (T : TxB mg) : FnOk P w K mg base CX0 1 f fd ["rows"] (spTT K) := by
  refine F.ok scTT (fun vs H Q E h => ?_) (fun cdv A outer s H vs Q E hr h => ?_)
  · obtain ⟨l, ps, rs, rfl, _⟩ := h
    rfl
  · obtain ⟨l, ps, rs, rfl, hl, hrs, hn, k⟩ := h
    refine ⟨_, (pss_one (ps_ret (pe_callTy call_tupN (by rfl) T.tuple (by decide +kernel) (pa_cons (pe_lc (own := [("row", 1)]) (g := gName 1) (te := tCB (rTupOf K) (tCons (tVar 1) tNil)) rfl scTT.nd (pi_list (pv 0)) (blkOk_by (N := ["rows", "row"]) (sc := defScope sTT) (by decide +kernel)) (fun _ _ _ _ _ => (pg_name (i := 1) scTT.nd rfl (Or.inl rfl))) (fun _ _ _ _ _ => pts_nil) (fun _ _ _ _ _ => (pe_callTy call_tupN (by rfl) T.tuple (by decide +kernel) (pa_cons (pv 1) pa_nil)))) pa_nil)))), ?_⟩
    refine ⟨_, rfl, l, rfl, ⟨_, hl⟩, fun D hD => ?_⟩
    refine lc_it walk_list (fun i H' => Same H H' ∧ H' D = some (.lst ((ps.take i).map V.ref))) ⟨Same.upd hD, upd_same⟩ (fun i H' _ p => p.1.seq hl) ?_ ?_
    · rintro i x H1 H2 hi ⟨hS, hd⟩ ⟨rfl, hx⟩
      obtain ⟨p, hp, rfl⟩ := map_ref_get hx
      obtain ⟨r, _, hr'⟩ := hrs.get hp
      refine ⟨rfl, ?_⟩
      refine ⟨_, rfl, p, r, rfl, .inr ⟨same_seqT hS hr', _, hd, ?_, ?_, ?_⟩⟩
      · rw [List.length_map, List.length_take]
        exact Nat.lt_of_le_of_lt (show _ ≤ 1000 by omega) (by decide)
      · intro b o h
        rw [upd_ne (ne_of_none h hD)]
        exact hS b o h
      · rw [upd_same, List.take_add_one, hp, List.map_append]
        rfl
    · rintro H' ⟨hS, hd⟩
      rw [List.length_map, List.take_length] at hd
      exact ⟨D, _, rfl, .inl ⟨SqL.of hd, fun t ht => k t _ (hS.free ht) (hS.trans (Same.upd ht)) upd_same⟩⟩
theorem scEO : FnScope ["triples", "x", "word", "y", "end"] ["triples"] (defScope sEO) := ⟨rfl, rfl, rfl, by decide +kernel, rfl, by decide +kernel, by decide +kernel⟩
theorem ok_eo {f : Addr} {fd : FuncData} (F : Fun K "ends_of" "ends_of" sEO f fd) : FnOk P w K mg base CX0 1 f fd ["triples"] (spEO K) := by
  refine F.ok scEO (fun vs H Q E h => ?_) (fun cdv A outer s H vs Q E hr h => ?_)
  · obtain ⟨l, ps, ts, rfl, _⟩ := h
    rfl
  · obtain ⟨l, ps, ts, rfl, hl, hrs, hn, k⟩ := h
    have hlen := hrs.len
    rw [List.length_map] at hlen
    rcases hl with hl | hl
    · refine ⟨_, (pss_one (ps_ret (pe_lc2 (own := [("x", 1), ("word", 2), ("y", 3), ("end", 4)]) (vs1 := [4]) (g := gTup K 3 (gCons (gName 1) (gCons (gName 2) (gCons (gName 3) gNil)))) (g1 := gName 4) (wi1 := iTup K (tTup (tCons (tVar 1) (tCons (tVar 3) tNil)))) rfl scEO.nd (pi_list (pv 0)) (blkOk_by (N := ["triples", "x", "word", "y", "end"]) (sc := defScope sEO) (by decide +kernel)) (by decide) (fun _ _ _ _ _ => (pg_tup rfl (pgs_cons (pg_name (i := 1) scEO.nd rfl (Or.inl rfl)) (pgs_cons (pg_name (i := 2) scEO.nd rfl (Or.inl rfl)) (pgs_cons (pg_name (i := 3) scEO.nd rfl (Or.inl rfl)) pgs_nil))))) (fun _ _ _ _ _ => pts_nil) (fun _ _ _ _ _ => (pi_tup (pe_tup (pa_cons (pv 1) (pa_cons (pv 3) pa_nil))))) (fun _ _ _ _ _ => (pg_name (i := 4) scEO.nd rfl (Or.inl rfl))) (fun _ _ _ _ _ => pts_nil) (fun _ _ _ _ _ => (pv 4))))), ?_⟩
      refine ⟨_, rfl, l, rfl, ⟨_, hl⟩, fun D hD => ?_⟩
      refine lc2_it walk_list (fun i H' => Same H H' ∧ H' D = some (.lst ((endsL (ts.take i)).map V.str))) ⟨Same.upd hD, upd_same⟩ (fun i H' _ p => p.1.seq hl) ?_ ?_
      · rintro i x H1 H2 hi ⟨hS, hd⟩ ⟨rfl, hx⟩
        obtain ⟨p, hp, rfl⟩ := map_ref_get hx
        obtain ⟨r, hr1, hr'⟩ := hrs.get hp
        obtain ⟨t, ht, rfl⟩ := tri_get hr1
        refine ⟨p, _, rfl, same_seqT hS hr', rfl, _, _, rfl, _, _, rfl, _, _, rfl, rfl, rfl, ?_⟩
        refine ⟨_, rfl, _, rfl, by show 2 ≤ sizeLine; decide, fun q hq => ⟨q, rfl, ⟨_, SqT.of upd_same⟩, ?_⟩⟩
        have nDq : D ≠ q := ne_of_none hd hq
        refine lc1_it walk_tup (fun j H' => Same H H' ∧ SqT K H' q [.str t.1, .str t.2.2] ∧ H' D = some (.lst ((endsL (ts.take i) ++ [t.1, t.2.2].take j).map V.str))) ⟨hS.trans (Same.upd hq), SqT.of upd_same, ?_⟩ (fun _ _ _ p => p.2.1) ?_ ?_
        · rw [upd_ne nDq, hd, List.take_zero, List.append_nil]
        · rintro j y H3 H4 hj ⟨hS3, hq3, hd3⟩ ⟨rfl, hy⟩
          refine ⟨rfl, _, rfl, _, hd3, ?_, ?_, ?_, ?_⟩
          · rw [List.length_map, List.length_append, endsL_len, List.length_take, List.length_take]
            have l2 : [t.1, t.2.2].length = 2 := rfl
            exact Nat.lt_of_le_of_lt (show _ ≤ 4000 by omega) (by decide)
          · intro b o h
            rw [upd_ne (ne_of_none h hD)]
            exact hS3 b o h
          · rcases hq3 with (h | ⟨o, h⟩) | h
            · exact .inl (.inl (by rw [upd_ne (ne_of h hd3 (by intro z; cases z))]; exact h))
            · exact .inl (.inr ⟨o, by rw [upd_ne (ne_of h hd3 (by intro z; cases z))]; exact h⟩)
            · exact .inr h
          · have hy' : ([t.1, t.2.2].map V.str)[j]? = some y := hy
            obtain ⟨z, hz, rfl⟩ := map_str_get hy'
            have e : ∀ l : List Str, (l ++ (some z).toList).map V.str = l.map V.str ++ [V.str z] := fun l => by
              rw [List.map_append]
              rfl
            rw [upd_same, List.take_add_one, hz, ← List.append_assoc, e]
        · rintro H3 ⟨hS3, hq3, hd3⟩
          refine ⟨hS3, ?_⟩
          rw [hd3, endsL_take ht]
          rfl
      · rintro H' ⟨hS, hd⟩
        refine k D H' hD hS ?_
        rw [hd, List.length_map, List.take_of_length_le (by omega)]
    · refine ⟨_, (pss_one (ps_ret (pe_lc2 (own := [("x", 1), ("word", 2), ("y", 3), ("end", 4)]) (vs1 := [4]) (g := gTup K 3 (gCons (gName 1) (gCons (gName 2) (gCons (gName 3) gNil)))) (g1 := gName 4) (wi1 := iTup K (tTup (tCons (tVar 1) (tCons (tVar 3) tNil)))) rfl scEO.nd (pi_tup (pv 0)) (blkOk_by (N := ["triples", "x", "word", "y", "end"]) (sc := defScope sEO) (by decide +kernel)) (by decide) (fun _ _ _ _ _ => (pg_tup rfl (pgs_cons (pg_name (i := 1) scEO.nd rfl (Or.inl rfl)) (pgs_cons (pg_name (i := 2) scEO.nd rfl (Or.inl rfl)) (pgs_cons (pg_name (i := 3) scEO.nd rfl (Or.inl rfl)) pgs_nil))))) (fun _ _ _ _ _ => pts_nil) (fun _ _ _ _ _ => (pi_tup (pe_tup (pa_cons (pv 1) (pa_cons (pv 3) pa_nil))))) (fun _ _ _ _ _ => (pg_name (i := 4) scEO.nd rfl (Or.inl rfl))) (fun _ _ _ _ _ => pts_nil) (fun _ _ _ _ _ => (pv 4))))), ?_⟩
      refine ⟨_, rfl, l, rfl, ⟨_, hl⟩, fun D hD => ?_⟩
      refine lc2_it walk_tup (fun i H' => Same H H' ∧ H' D = some (.lst ((endsL (ts.take i)).map V.str))) ⟨Same.upd hD, upd_same⟩ (fun i H' _ p => same_seqT p.1 hl) ?_ ?_
      · rintro i x H1 H2 hi ⟨hS, hd⟩ ⟨rfl, hx⟩
        obtain ⟨p, hp, rfl⟩ := map_ref_get hx
        obtain ⟨r, hr1, hr'⟩ := hrs.get hp
        obtain ⟨t, ht, rfl⟩ := tri_get hr1
        refine ⟨p, _, rfl, same_seqT hS hr', rfl, _, _, rfl, _, _, rfl, _, _, rfl, rfl, rfl, ?_⟩
        refine ⟨_, rfl, _, rfl, by show 2 ≤ sizeLine; decide, fun q hq => ⟨q, rfl, ⟨_, SqT.of upd_same⟩, ?_⟩⟩
        have nDq : D ≠ q := ne_of_none hd hq
        refine lc1_it walk_tup (fun j H' => Same H H' ∧ SqT K H' q [.str t.1, .str t.2.2] ∧ H' D = some (.lst ((endsL (ts.take i) ++ [t.1, t.2.2].take j).map V.str))) ⟨hS.trans (Same.upd hq), SqT.of upd_same, ?_⟩ (fun _ _ _ p => p.2.1) ?_ ?_
        · rw [upd_ne nDq, hd, List.take_zero, List.append_nil]
        · rintro j y H3 H4 hj ⟨hS3, hq3, hd3⟩ ⟨rfl, hy⟩
          refine ⟨rfl, _, rfl, _, hd3, ?_, ?_, ?_, ?_⟩
          · rw [List.length_map, List.length_append, endsL_len, List.length_take, List.length_take]
            have l2 : [t.1, t.2.2].length = 2 := rfl
            exact Nat.lt_of_le_of_lt (show _ ≤ 4000 by omega) (by decide)
          · intro b o h
            rw [upd_ne (ne_of_none h hD)]
            exact hS3 b o h
          · rcases hq3 with (h | ⟨o, h⟩) | h
            · exact .inl (.inl (by rw [upd_ne (ne_of h hd3 (by intro z; cases z))]; exact h))
            · exact .inl (.inr ⟨o, by rw [upd_ne (ne_of h hd3 (by intro z; cases z))]; exact h⟩)
            · exact .inr h
          · have hy' : ([t.1, t.2.2].map V.str)[j]? = some y := hy
            obtain ⟨z, hz, rfl⟩ := map_str_get hy'
            have e : ∀ l : List Str, (l ++ (some z).toList).map V.str = l.map V.str ++ [V.str z] := fun l => by
              rw [List.map_append]
              rfl
            rw [upd_same, List.take_add_one, hz, ← List.append_assoc, e]
        · rintro H3 ⟨hS3, hq3, hd3⟩
          refine ⟨hS3, ?_⟩
          rw [hd3, endsL_take ht]
          rfl
      · rintro H' ⟨hS, hd⟩
        refine k D H' hD hS ?_
        rw [hd, List.length_map, List.take_of_length_le (by omega)]
end
end Wm
namespace Wm
open PySem L2
abbrev Var := Str × Option Str
def sortV : Option Str → V
  | none => .non
  | some s => .str s
def varV (v : Var) : List V := [.str v.1, sortV v.2]
def varT (v : Var) : List Str := v.1 :: v.2.toList
def textsL (nm : Str) (vars : List Var) (ts : List Tri) : List Str := (nm :: vars.flatMap varT) ++ ts.map (·.2.1)
theorem flat_take {vars : List Var} {i : Nat} {v : Var} (h : vars[i]? = some v) : (vars.take (i + 1)).flatMap varT = (vars.take i).flatMap varT ++ varT v := by
  rw [List.take_add_one, h, List.flatMap_append]
  simp
theorem var_get {vars : List Var} {i : Nat} {r : List V} (h : (vars.map varV)[i]? = some r) : ∃ t, vars[i]? = some t ∧ r = varV t := by
  rw [List.getElem?_map] at h
  cases e : vars[i]? with
  | none =>
    rw [e] at h
    cases h
  | some p =>
    rw [e] at h
    exact ⟨p, rfl, (Option.some.inj h).symm⟩
theorem inV_str {z : Str} {ns : List Str} : inV (.str z) (ns.map V.str) = decide (z ∈ ns) := by
  unfold inV
  induction ns with
  | nil => rfl
  | cons a r ih =>
    rw [List.map_cons, List.any_cons, ih]
    show (a == z || _) = _
    by_cases h : a = z
    · subst h
      simp
    · have h2 : ¬ z = a := fun q => h q.symm
      by_cases h3 : z ∈ r <;> simp [h, h2, h3]
theorem flat_strs (ns : List Str) : (ns.map V.str).all flatV = true := by
  rw [List.all_eq_true]
  intro x hx
  obtain ⟨z, _, rfl⟩ := List.mem_map.mp hx
  rfl
def spTP (K : PySem.W.Frag) : Sp := fun vs H Q _ => ∃ (nm : Str) (a b : Addr) (ps qs : List Addr) (vars : List Var) (ts : List Tri), vs = [.str nm, .ref a, .ref b] ∧ SqT K H a (ps.map V.ref) ∧ RowsAt K H ps (vars.map varV) ∧ SqL K H b (qs.map V.ref) ∧ RowsAt K H qs (ts.map triV) ∧
  ps.length ≤ 1000 ∧ qs.length ≤ 1000 ∧ ∀ d H', H d = none → Same H H' → H' d = some (.lst ((textsL nm vars ts).map V.str)) → Q (.ref d) H'
def spRV (K : PySem.W.Frag) : Sp := fun vs H Q _ => ∃ (a b : Addr) (ns zs : List Str), vs = [.ref a, .ref b] ∧ SqL K H a (ns.map V.str) ∧ SqL K H b (zs.map V.str) ∧ (∀ z ∈ zs, z ∈ ns) ∧ ∀ H', Same H H' → Q .non H'
def spRL (K : PySem.W.Frag) : Sp := fun vs H Q _ => ∃ (a b : Addr) (ns : List Str) (ps : List Addr) (ts : List Tri), vs = [.ref a, .ref b] ∧ SqL K H a (ns.map V.str) ∧ SqT K H b (ps.map V.ref) ∧ RowsAt K H ps (ts.map triV) ∧ ps.length ≤ 1000 ∧ (∀ z ∈ ns, z ∈ endsL ts) ∧ ∀ H', Same H H' → Q .non H'
def Hangs (ts : List Tri) : Prop := ∀ (i : Nat) (t : Tri), 0 < i → ts[i]? = some t → t.1 ∈ endsL (ts.take i) ∨ t.2.2 ∈ endsL (ts.take i)
def spRA (K : PySem.W.Frag) : Sp := fun vs H Q _ => ∃ (b : Addr) (ps : List Addr) (ts : List Tri), vs = [.ref b] ∧ SqT K H b (ps.map V.ref) ∧ RowsAt K H ps (ts.map triV) ∧ ps.length ≤ 1000 ∧ Hangs ts ∧ ∀ H', Same H H' → Q .non H'
section
variable {P : Program} {w : World} {K : PySem.W.Frag} {mg : Str → Option Value} {base : Heap}
theorem scTP : FnScope ["name", "variables", "triples", "texts", "variable", "sort", "x", "word", "y"] ["name", "variables", "triples"] (defScope sTP) := ⟨rfl, rfl, rfl, by decide +kernel, rfl, by decide +kernel, by decide +kernel⟩
theorem ok_tp {f : Addr} {fd : FuncData} (F : Fun K "texts_of_pattern" "texts_of_pattern" sTP f fd) : FnOk P w K mg base CX0 1 f fd ["name", "variables", "triples"] (spTP K) := by
  refine F.ok scTP (fun vs H Q E h => ?_) (fun cdv A outer s H vs Q E hr h => ?_)
  · obtain ⟨nm, a, b, ps, qs, vars, ts, rfl, _⟩ := h
    rfl
  · obtain ⟨nm, a, b, ps, qs, vars, ts, rfl, ha, hva, hb, htr, hn, hn2, k⟩ := h
    have hlen := hva.len
    rw [List.length_map] at hlen
    have hlen2 := htr.len
    rw [List.length_map] at hlen2
    have fl : ∀ i, ((vars.take i).flatMap varT).length ≤ 2 * vars.length := fun i => by
      have e : ∀ l : List Var, (l.flatMap varT).length ≤ 2 * l.length := fun l => by
        induction l with
        | nil => exact Nat.le_refl _
        | cons v r ih =>
          have e : ((v :: r).flatMap varT).length = (varT v).length + (r.flatMap varT).length := by
            rw [List.flatMap_cons, List.length_append]
          have e2 : (varT v).length ≤ 2 := by
            unfold varT
            cases v.2 <;> simp
          have e3 : (v :: r).length = r.length + 1 := rfl
          omega
      have q := e (vars.take i)
      rw [List.length_take] at q
      omega
    refine ⟨_, (pss_cons (ps_set (i := 3) scTP.nd rfl (Or.inl rfl) (pe_lst (pa_cons (pv 0) pa_nil)))
      (pss_cons (ps_for PassesOwn.never rfl (pi_tup (pv 1)) (pg_tup rfl (pgs_cons (pg_name (i := 4) scTP.nd rfl (Or.inl rfl)) (pgs_cons (pg_name (i := 5) scTP.nd rfl (Or.inl rfl)) pgs_nil))) (pss_cons (ps_expr (pe_bm PySem.F.plainAttrs_list PySem.F.slot_list_append PySem.F.type_list_append mt_append (pv 3) (pa_cons (pv 4) pa_nil)))
      (pss_one (ps_if (pt_cmp (pc_notN (pv 5))) (pss_one (ps_expr (pe_bm PySem.F.plainAttrs_list PySem.F.slot_list_append PySem.F.type_list_append mt_append (pv 3) (pa_cons (pv 5) pa_nil)))) pss_nil))))
      (pss_cons (ps_expr (pe_bm PySem.F.plainAttrs_list PySem.F.slot_list_extend PySem.F.type_list_extend mt_extend (pv 3) (pa_cons (pe_lc (own := [("x", 6), ("word", 7), ("y", 8)]) (g := gTup K 3 (gCons (gName 6) (gCons (gName 7) (gCons (gName 8) gNil)))) rfl scTP.nd (pi_list (pv 2)) (blkOk_by (N := ["name", "variables", "triples", "texts", "variable", "sort", "x", "word", "y"]) (sc := defScope sTP) (by decide +kernel)) (fun _ _ _ _ _ => (pg_tup rfl (pgs_cons (pg_name (i := 6) scTP.nd rfl (Or.inl rfl)) (pgs_cons (pg_name (i := 7) scTP.nd rfl (Or.inl rfl)) (pgs_cons (pg_name (i := 8) scTP.nd rfl (Or.inl rfl)) pgs_nil))))) (fun _ _ _ _ _ => pts_nil) (fun _ _ _ _ _ => (pv 7))) pa_nil)))
      (pss_one (ps_ret (pv 3)))))), ?_⟩
    refine ⟨_, rfl, by show 1 ≤ sizeLine; decide, fun d hd => ?_⟩
    have S0 : Same H (upd H d (.lst [.str nm])) := Same.upd hd
    refine ⟨_, rfl, a, rfl, ⟨_, same_seqT S0 ha⟩, for_it walk_tup (fun i σ H' => (∃ u v, σ = [some (.str nm), some (.ref a), some (.ref b), some (.ref d), u, v, none, none, none]) ∧ Same H H' ∧ H' d = some (.lst ((nm :: (vars.take i).flatMap varT).map V.str)))
      ⟨⟨none, none, rfl⟩, S0, upd_same⟩ (fun i σ H' _ p => same_seqT p.2.1 ha) ?_ ?_⟩
    · rintro i x σ H1 H2 hi ⟨⟨u, v, rfl⟩, hS, hl⟩ ⟨rfl, hx⟩
      obtain ⟨p, hp, rfl⟩ := map_ref_get hx
      obtain ⟨r, hr1, hr'⟩ := hva.get hp
      obtain ⟨⟨n, so⟩, ht, rfl⟩ := var_get hr1
      have fi := fl i
      refine ⟨p, _, rfl, same_seqT hS hr', rfl, _, _, rfl, _, _, rfl, rfl, ?_⟩
      refine ⟨_, rfl, .inl ⟨rfl, _, SqL.of hl⟩, _, rfl, d, _, _, rfl, rfl, hl, ?_, ?_⟩
      · rw [List.length_map, List.length_cons]
        exact Nat.lt_of_le_of_lt (show _ ≤ 4000 by omega) (by decide)
      have S1 : Same H (upd H2 d (.lst ((nm :: (vars.take i).flatMap varT).map V.str ++ [.str n]))) := fun b' o h => by
        rw [upd_ne (ne_of_none h hd)]
        exact hS b' o h
      refine ⟨_, rfl, _, rfl, ?_⟩
      cases so with
      | none =>
        refine iteF ⟨⟨_, _, rfl⟩, S1, ?_⟩
        rw [upd_same, flat_take ht]
        have e : (nm :: ((vars.take i).flatMap varT ++ varT (n, none))) = (nm :: (vars.take i).flatMap varT) ++ [n] := rfl
        rw [e, List.map_append]
        rfl
      | some so =>
        refine iteT ?_
        refine ⟨_, rfl, .inl ⟨rfl, _, SqL.of upd_same⟩, _, rfl, d, _, _, rfl, rfl, upd_same, ?_, ?_⟩
        · rw [List.length_append, List.length_map, List.length_cons, List.length_singleton]
          exact Nat.lt_of_le_of_lt (show _ ≤ 4000 by omega) (by decide)
        · refine ⟨⟨_, _, rfl⟩, fun b' o h => ?_, ?_⟩
          · rw [upd_ne (ne_of_none h hd)]
            exact S1 b' o h
          · rw [upd_same, flat_take ht]
            have e : (nm :: ((vars.take i).flatMap varT ++ varT (n, some so))) = (nm :: (vars.take i).flatMap varT) ++ [n, so] := rfl
            rw [e, List.map_append, List.append_assoc]
            rfl
    · rintro σ H1 ⟨⟨u, v, rfl⟩, hS, hl⟩
      rw [List.length_map, List.take_of_length_le (by omega)] at hl
      have fi := fl vars.length
      rw [List.take_length] at fi
      refine ⟨_, rfl, .inl ⟨rfl, _, SqL.of hl⟩, _, rfl, b, rfl, ⟨_, hS.seq hb⟩, fun D hD => ?_⟩
      have nDd : D ≠ d := (ne_of_none hl hD).symm
      refine lc_it walk_list (fun i H' => Same H H' ∧ H' d = some (.lst ((nm :: vars.flatMap varT).map V.str)) ∧ H' D = some (.lst (((ts.take i).map (·.2.1)).map V.str))) ⟨hS.trans (Same.upd hD), by rw [upd_ne nDd.symm]; exact hl, upd_same⟩ (fun i H' _ p => p.1.seq hb) ?_ ?_
      · rintro i x H2 H3 hi ⟨hS2, hl2, hD2⟩ ⟨rfl, hx⟩
        obtain ⟨p, hp, rfl⟩ := map_ref_get hx
        obtain ⟨r, hr1, hr'⟩ := htr.get hp
        obtain ⟨t, ht, rfl⟩ := tri_get hr1
        refine ⟨p, _, rfl, same_seqT hS2 hr', rfl, _, _, rfl, _, _, rfl, _, _, rfl, rfl, rfl, ?_⟩
        refine ⟨_, rfl, _, hD2, ?_, ?_, ?_, ?_⟩
        · rw [List.length_map, List.length_map, List.length_take]
          exact Nat.lt_of_le_of_lt (show _ ≤ 1000 by omega) (by decide)
        · intro b' o h
          rw [upd_ne (ne_of_none h (hS.free hD))]
          exact hS2 b' o h
        · rw [upd_ne nDd.symm]
          exact hl2
        · rw [upd_same, List.take_add_one, ht, List.map_append, List.map_append]
          rfl
      · rintro H2 ⟨hS2, hl2, hD2⟩
        rw [List.length_map, List.take_of_length_le (by omega)] at hD2
        refine ⟨d, D, _, _, rfl, rfl, hl2, hD2, ?_, ?_⟩
        · rw [List.length_map, List.length_map, List.length_map, List.length_cons]
          exact Nat.le_trans (show _ ≤ 4000 by omega) (by decide)
        · refine ⟨_, rfl, ?_⟩
          refine k d _ hd (fun b' o h => ?_) ?_
          · rw [upd_ne (ne_of_none h hd)]
            exact hS2 b' o h
          · rw [upd_same]
            unfold textsL
            rw [List.map_append]
theorem scRV : FnScope ["names", "texts", "text"] ["names", "texts"] (defScope sRV) := ⟨rfl, rfl, rfl, by decide +kernel, rfl, by decide +kernel, by decide +kernel⟩
theorem ok_rv {f : Addr} {fd : FuncData} (F : Fun K "refuse_no_variable" "refuse_no_variable" sRV f fd) : FnOk P w K mg base CX0 1 f fd ["names", "texts"] (spRV K) := by
  refine F.ok scRV (fun vs H Q E h => ?_) (fun cdv A outer s H vs Q E hr h => ?_)
  · obtain ⟨a, b, ns, zs, rfl, _⟩ := h
    rfl
  · obtain ⟨a, b, ns, zs, rfl, ha, hb, hin, k⟩ := h
    refine ⟨_, (pss_one (ps_for PassesOwn.never rfl (pi_list (pv 1)) (pg_name (i := 2) scRV.nd rfl (Or.inl rfl)) (pss_one (ps_if (pt_cmpR op_notIn_seq (pv 2) (pv 0) (by rfl)) (pss_one ps_never) pss_nil)))), ?_⟩
    refine ⟨_, rfl, b, rfl, ⟨_, hb⟩, for_list (K := K) (a := b) (xs := zs.map V.str) (fun i σ H' => (∃ v, σ = [some (.ref a), some (.ref b), v]) ∧ H' = H) ⟨⟨none, rfl⟩, rfl⟩ (fun i σ H' _ p => by rw [p.2]; exact hb) ?_ ?_⟩
    · rintro i y σ H' hi ⟨⟨v, rfl⟩, rfl⟩
      obtain ⟨z, hz, rfl⟩ := map_str_get hi
      refine ⟨_, rfl, _, rfl, a, _, rfl, .inl ha, rfl, flat_strs ns, _, rfl, ?_⟩
      show if (!inV (.str z) (ns.map V.str)) = true then _ else _
      rw [inV_str, decide_eq_true (hin z (List.mem_of_getElem? hz))]
      exact iteF ⟨⟨_, rfl⟩, rfl⟩
    · rintro σ H' ⟨_, rfl⟩
      exact k H' (Same.refl H')
theorem scRL : FnScope ["names", "conditions", "tied", "name"] ["names", "conditions"] (defScope sRL) := ⟨rfl, rfl, rfl, by decide +kernel, rfl, by decide +kernel, by decide +kernel⟩
theorem ok_rl {f fE : Addr} {fd fdE : FuncData} (F : Fun K "refuse_loose" "refuse_loose" sRL f fd) (D : Dn K mg "ends_of" sEO ["triples"] fE fdE) : FnOk P w K mg base CX0 2 f fd ["names", "conditions"] (spRL K) := by
  have G : FnOk P w K mg base CX0 1 fE fdE ["triples"] (spEO K) := ok_eo D.F
  refine F.ok scRL (fun vs H Q E h => ?_) (fun cdv A outer s H vs Q E hr h => ?_)
  · obtain ⟨a, b, ns, ps, ts, rfl, _⟩ := h
    rfl
  · obtain ⟨a, b, ns, ps, ts, rfl, ha, hb, htr, hn, hin, k⟩ := h
    refine ⟨_, (pss_cons (ps_set (i := 2) scRL.nd rfl (Or.inl rfl) (pe_call G hr rfl D.g D.F.kp D.b .nil pass0 (pa_cons (pv 1) pa_nil)))
      (pss_one (ps_for PassesOwn.never rfl (pi_list (pv 0)) (pg_name (i := 3) scRL.nd rfl (Or.inl rfl)) (pss_one (ps_if (pt_cmpR op_notIn_seq (pv 3) (pv 2) (by rfl)) (pss_one ps_never) pss_nil))))), ?_⟩
    refine ⟨_, rfl, b, ps, ts, rfl, .inr hb, htr, hn, fun d H1 hd hS hl => ?_⟩
    refine ⟨_, rfl, a, rfl, ⟨_, hS.seq ha⟩, for_list (K := K) (a := a) (xs := ns.map V.str) (fun i σ H' => (∃ v, σ = [some (.ref a), some (.ref b), some (.ref d), v]) ∧ H' = H1) ⟨⟨none, rfl⟩, rfl⟩ (fun i σ H' _ p => by rw [p.2]; exact hS.seq ha) ?_ ?_⟩
    · rintro i y σ H' hi ⟨⟨v, rfl⟩, rfl⟩
      obtain ⟨z, hz, rfl⟩ := map_str_get hi
      refine ⟨_, rfl, _, rfl, d, _, rfl, .inl (SqL.of hl), rfl, flat_strs _, _, rfl, ?_⟩
      show if (!inV (.str z) ((endsL ts).map V.str)) = true then _ else _
      rw [inV_str, decide_eq_true (hin z (List.mem_of_getElem? hz))]
      exact iteF ⟨⟨_, rfl⟩, rfl⟩
    · rintro σ H' ⟨_, rfl⟩
      exact k H' hS
theorem scRA : FnScope ["conditions", "place", "x", "word", "y", "ahead"] ["conditions"] (defScope sRA) := ⟨rfl, rfl, rfl, by decide +kernel, rfl, by decide +kernel, by decide +kernel⟩
theorem ok_ra {f fE : Addr} {fd fdE : FuncData} (F : Fun K "refuse_apart" "refuse_apart" sRA f fd) (T : TxB mg) (D : Dn K mg "ends_of" sEO ["triples"] fE fdE) : FnOk P w K mg base CX0 2 f fd ["conditions"] (spRA K) := by
  have G : FnOk P w K mg base CX0 1 fE fdE ["triples"] (spEO K) := ok_eo D.F
  refine F.ok scRA (fun vs H Q E h => ?_) (fun cdv A outer s H vs Q E hr h => ?_)
  · obtain ⟨b, ps, ts, rfl, _⟩ := h
    rfl
  · obtain ⟨b, ps, ts, rfl, hb, htr, hn, hh, k⟩ := h
    have hlen := htr.len
    rw [List.length_map] at hlen
    refine ⟨_, (pss_one (ps_for PassesOwn.never rfl (pi_enumT rfl T.enumerate (pa_cons (pv 0) pa_nil)) (pg_tup rfl (pgs_cons (pg_name (i := 1) scRA.nd rfl (Or.inl rfl)) (pgs_cons (pg_tup rfl (pgs_cons (pg_name (i := 2) scRA.nd rfl (Or.inl rfl)) (pgs_cons (pg_name (i := 3) scRA.nd rfl (Or.inl rfl)) (pgs_cons (pg_name (i := 4) scRA.nd rfl (Or.inl rfl)) pgs_nil)))) pgs_nil))) (pss_cons (ps_set (i := 5) scRA.nd rfl (Or.inl rfl) (pe_call G hr rfl D.g D.F.kp D.b .nil pass0 (pa_cons (pe_slice sl_tupA (pv 0) po_none (po_some (pv 1))) pa_nil)))
      (pss_one (ps_if (PW.pt (pw_and (pt_cmpR op_gt (pv 1) pe_int (nomark _)) (pw_and (pt_cmpR op_notIn_seq (pv 2) (pv 5) (by rfl)) (pw_and1 (pt_cmpR op_notIn_seq (pv 4) (pv 5) (by rfl)))))) (pss_one ps_never) pss_nil))))), ?_⟩
    refine ⟨_, rfl, b, _, rfl, hb, for_it walk_enumT (fun i σ H' => (∃ u v x y z, σ = [some (.ref b), u, v, x, y, z]) ∧ Same H H') ⟨⟨none, none, none, none, none, rfl⟩, Same.refl H⟩ (fun i σ H' _ p => same_seqT p.2 hb) ?_ ?_⟩
    · rintro i x σ H1 H2 hi ⟨⟨u, v, x1, x2, x3, rfl⟩, hS⟩ ⟨q, y, z, rfl, hq, rfl, e1, e2⟩
      cases e1
      obtain ⟨p, hp, rfl⟩ := map_ref_get e2
      obtain ⟨r, hr1, hr'⟩ := htr.get hp
      obtain ⟨t, ht, rfl⟩ := tri_get hr1
      have S2 := hS.trans (Same.upd (o := .tup [.int (i : Nat), .ref p]) hq)
      have hi' : i < ps.length := by rw [List.length_map] at hi; exact hi
      refine ⟨q, _, rfl, SqT.of upd_same, rfl, _, _, rfl, _, _, rfl, ⟨p, _, rfl, same_seqT S2 hr', rfl, _, _, rfl, _, _, rfl, _, _, rfl, rfl, rfl, ?_⟩⟩
      refine ⟨_, rfl, _, rfl, _, rfl, b, _, rfl, same_seqT S2 hb, fun h => ?_, fun _ c hc => ?_⟩
      · exfalso
        rw [HT.sIx_nat, List.length_map] at h
        omega
      have S3 := S2.trans (Same.upd (o := .tup (cutV (ps.map V.ref) none (some (i : Int)))) hc)
      have hcut : cutV (ps.map V.ref) none (some (i : Int)) = (ps.take i).map V.ref := by rw [cut_take, List.map_take]
      refine ⟨c, ps.take i, ts.take i, rfl, .inr (SqT.of (by rw [upd_same, hcut])), ?_, by rw [List.length_take]; omega, fun d H3 hd hS3 hl => ?_⟩
      · rw [List.map_take]
        exact (htr.take i).same S3
      refine ⟨_, rfl, _, _, rfl, rfl, _, rfl, ?_⟩
      refine ite2 (fun h0 => ?_) (fun _ => ?_)
      · have h0' : (0 : Int) < (i : Int) := of_decide_eq_true h0
        refine ⟨_, rfl, _, rfl, d, _, rfl, .inl (SqL.of hl), rfl, flat_strs _, _, rfl, ?_⟩
        show if (!inV (.str t.1) ((endsL (ts.take i)).map V.str)) = true then _ else _
        rw [inV_str]
        by_cases m1 : t.1 ∈ endsL (ts.take i)
        · rw [decide_eq_true m1]
          exact iteF (iteF ⟨⟨_, _, _, _, _, rfl⟩, S3.trans hS3⟩)
        · rw [decide_eq_false m1]
          refine iteT ?_
          refine ⟨_, rfl, _, rfl, d, _, rfl, .inl (SqL.of hl), rfl, flat_strs _, _, rfl, ?_⟩
          show if (!inV (.str t.2.2) ((endsL (ts.take i)).map V.str)) = true then _ else _
          have m2 : t.2.2 ∈ endsL (ts.take i) := (hh i t (by omega) ht).resolve_left m1
          rw [inV_str, decide_eq_true m2]
          exact iteF ⟨⟨_, _, _, _, _, rfl⟩, S3.trans hS3⟩
      · exact iteF ⟨⟨_, _, _, _, _, rfl⟩, S3.trans hS3⟩
    · rintro σ H' ⟨_, hS⟩
      exact k H' hS
end
end Wm
namespace Wm
open PySem L2 StX
structure TxP (mg : Str → Option Value) : Prop where
  mv : ∃ t, mg "MOST_VARIABLES" = some (.int 4 t)
  mc : ∃ t, mg "MOST_CONDITIONS" = some (.int 3 t)
theorem DueN.mono {C : Addr} {zs : List Str} {H H1 : Hp} {Q : VK} {E : XK} (hS : Same H H1) (h : DueN C zs H Q E) : DueN C zs H1 Q E := by
  unfold DueN at h ⊢
  split
  · rename_i e
    rw [e] at h
    exact fun H' h1 => h H' (hS.trans h1)
  · rename_i z e
    rw [e] at h
    exact fun d H' h0 h1 h2 => h d H' (hS.free h0) (hS.trans h1) h2
theorem DueN.next {C : Addr} {zs : List Str} {H H1 : Hp} {Q Q' : VK} {E : XK} (h : DueN C zs H Q E) (hS : Same H H1) (r : zs.find? (fun z => !isNm z) = none → ∀ H', Same H1 H' → Q' .non H') : DueN C zs H1 Q' E := by
  have h' := DueN.mono hS h
  unfold DueN at h' ⊢
  cases e : zs.find? (fun z => !isNm z) with
  | none => exact r e
  | some z =>
    rw [e] at h'
    exact h'
theorem flat_len (l : List Var) : (l.flatMap varT).length ≤ 2 * l.length := by
  induction l with
  | nil => exact Nat.le_refl _
  | cons v r ih =>
    have e : ((v :: r).flatMap varT).length = (varT v).length + (r.flatMap varT).length := by
      rw [List.flatMap_cons, List.length_append]
    have e2 : (varT v).length ≤ 2 := by
      unfold varT
      cases v.2 <;> simp
    have e3 : (v :: r).length = r.length + 1 := rfl
    omega
/-- a pattern of which nothing but a text that is no name is to be refused -/
structure PatOk (vars : List Var) (cs gs : List Tri) (hs : List Str) : Prop where
  v1 : 1 ≤ vars.length
  v4 : vars.length ≤ 4
  c1 : 1 ≤ cs.length
  c3 : cs.length ≤ 3
  g3 : gs.length ≤ 1
  h3 : hs.length ≤ 1
  tw : NoTw ((vars.map (·.1)).map V.str)
  en : ∀ z ∈ endsL (cs ++ gs) ++ hs, z ∈ vars.map (·.1)
  lo : ∀ z ∈ vars.map (·.1), z ∈ endsL cs
  ap : Hangs cs
def spCP (K : PySem.W.Frag) (C : Addr) : Sp := fun vs H Q E => ∃ (nm : Str) (a b g h : Addr) (ps qs us : List Addr) (vars : List Var) (cs gs : List Tri) (hs : List Str), vs = [.str nm, .ref a, .ref b, .ref g, .ref h] ∧ SqT K H a (ps.map V.ref) ∧ RowsAt K H ps (vars.map varV) ∧
  SqT K H b (qs.map V.ref) ∧ RowsAt K H qs (cs.map triV) ∧ SqL K H g (us.map V.ref) ∧ RowsAt K H us (gs.map triV) ∧ SqL K H h (hs.map V.str) ∧ PatOk vars cs gs hs ∧ (∀ z ∈ textsL nm vars (cs ++ gs), z.length ≤ 1000) ∧ DueN C (textsL nm vars (cs ++ gs)) H Q E
section
variable {P : Program} {w : World} {K : PySem.W.Frag} {mg : Str → Option Value} {base : Heap}
theorem scCP : FnScope ["name", "variables", "conditions", "given", "hands", "triples", "names", "variable", "sort"] ["name", "variables", "conditions", "given", "hands"] (defScope sCP) := ⟨rfl, rfl, rfl, by decide +kernel, rfl, by decide +kernel, by decide +kernel⟩
theorem ok_cp {f fRC fRN fTP fRT fRV fEO fRL fRA C : Addr} {fd dRC dRN dTP dRT dRV dEO dRL dRA : FuncData} (F : Fun K "check_pattern" "check_pattern" sCP f fd) (T : TxB mg) (TP : TxP mg)
    (RC : Dn K mg "refuse_count" sRC ["what", "count", "least", "most"] fRC dRC) (RN : Dn K mg "refuse_no_name" sRN ["texts"] fRN dRN) (TX : Dn K mg "texts_of_pattern" sTP ["name", "variables", "triples"] fTP dTP) (RT : Dn K mg "refuse_twice" sRT ["names"] fRT dRT)
    (RV : Dn K mg "refuse_no_variable" sRV ["names", "texts"] fRV dRV) (EO : Dn K mg "ends_of" sEO ["triples"] fEO dEO) (RL : Dn K mg "refuse_loose" sRL ["names", "conditions"] fRL dRL) (RA : Dn K mg "refuse_apart" sRA ["conditions"] fRA dRA)
    (GRN : FnOk P w K mg base (L2.CX P w) 4 fRN dRN ["texts"] (spRN K C)) (GRT : FnOk P w K mg base CX0 2 fRT dRT ["names"] (spFT K)) :
    FnOk P w K mg base (L2.CX P w) 5 f fd ["name", "variables", "conditions", "given", "hands"] (spCP K C) := by
  have GRC : FnOk P w K mg base CX0 1 fRC dRC _ spRC := ok_rc RC.F
  have GTX : FnOk P w K mg base CX0 1 fTP dTP _ (spTP K) := ok_tp TX.F
  have GRV : FnOk P w K mg base CX0 1 fRV dRV _ (spRV K) := ok_rv RV.F
  have GEO : FnOk P w K mg base CX0 1 fEO dEO _ (spEO K) := ok_eo EO.F
  have GRL : FnOk P w K mg base CX0 2 fRL dRL _ (spRL K) := ok_rl RL.F EO
  have GRA : FnOk P w K mg base CX0 2 fRA dRA _ (spRA K) := ok_ra RA.F T EO
  obtain ⟨t1, hmv⟩ := TP.mv
  obtain ⟨t2, hmc⟩ := TP.mc
  refine F.okX scCP (fun vs H Q E h => ?_) (fun cdv A outer s H vs Q E hr h => ?_)
  · obtain ⟨nm, a, b, g, h, ps, qs, us, vars, cs, gs, hs, rfl, _⟩ := h
    rfl
  · obtain ⟨nm, a, b, g, h, ps, qs, us, vars, cs, gs, hs, rfl, ha, hva, hb, hcs, hg, hgs, hh, ok, hz, k⟩ := h
    have hr1 : Room 1 _ := hr.mono (by decide)
    have hr2 : Room 2 _ := hr.mono (by decide)
    have l1 := hva.len
    have l2 := hcs.len
    have l3 := hgs.len
    rw [List.length_map] at l1 l2 l3
    have o1 := ok.v4
    have o2 := ok.c3
    have o3 := ok.g3
    have o4 := ok.v1
    have o5 := ok.c1
    have o6 := ok.h3
    refine ⟨_, (pss_cons (ps_expr (pe_call GRC hr1 rfl RC.g RC.F.kp RC.b .nil pass0 (pa_cons pe_str (pa_cons (pe_callB call_len_seq (by rfl) T.len (by decide +kernel) (pa_cons (pv 1) pa_nil)) (pa_cons pe_int (pa_cons (pe_glob (v := .int 4) (by rfl) hmv ⟨_, rfl⟩) pa_nil))))))
      (pss_cons (ps_expr (pe_call GRC hr1 rfl RC.g RC.F.kp RC.b .nil pass0 (pa_cons pe_str (pa_cons (pe_callB call_len_seq (by rfl) T.len (by decide +kernel) (pa_cons (pv 2) pa_nil)) (pa_cons pe_int (pa_cons (pe_glob (v := .int 3) (by rfl) hmc ⟨_, rfl⟩) pa_nil))))))
      (pss_cons (ps_set (i := 5) scCP.nd rfl (Or.inl rfl) (pe_lst (pa_star (pv 2) (pa_star (pv 3) pa_nil))))
      (pss_cons (ps_expr (pe_call GRN hr rfl RN.g RN.F.kp RN.b .nil (passes_call (takes_of rfl rfl rfl rfl) (fun _ _ _ _ h => h)) (pa_cons (pe_call GTX hr1 rfl TX.g TX.F.kp TX.b .nil pass0 (pa_cons (pv 0) (pa_cons (pv 1) (pa_cons (pv 5) pa_nil)))) pa_nil)))
      (pss_cons (ps_setLc (i := 6) (own := [("variable", 7), ("sort", 8)]) (g := gTup K 2 (gCons (gName 7) (gCons (gName 8) gNil))) rfl scCP.nd rfl rfl (sw_true rfl rfl rfl (by decide +kernel)) (pi_tup (pv 1)) (blkOk_by (N := ["name", "variables", "conditions", "given", "hands", "triples", "names", "variable", "sort"]) (sc := defScope sCP) (by decide +kernel)) (fun _ _ _ _ _ => (pg_tup rfl (pgs_cons (pg_name (i := 7) scCP.nd rfl (Or.inl rfl)) (pgs_cons (pg_name (i := 8) scCP.nd rfl (Or.inl rfl)) pgs_nil)))) (fun _ _ _ _ _ => pts_nil) (fun _ _ _ _ _ => (pv 7)))
      (pss_cons (ps_expr (pe_call GRT hr2 rfl RT.g RT.F.kp RT.b .nil pass0 (pa_cons (pv 6) pa_nil)))
      (pss_cons (ps_expr (pe_call GRV hr1 rfl RV.g RV.F.kp RV.b .nil pass0 (pa_cons (pv 6) (pa_cons (pe_lst (pa_star (pe_call GEO hr1 rfl EO.g EO.F.kp EO.b .nil pass0 (pa_cons (pv 5) pa_nil)) (pa_star (pv 4) pa_nil))) pa_nil))))
      (pss_cons (ps_expr (pe_call GRL hr2 rfl RL.g RL.F.kp RL.b .nil pass0 (pa_cons (pv 6) (pa_cons (pv 2) pa_nil))))
      (pss_one (ps_expr (pe_call GRA hr2 rfl RA.g RA.F.kp RA.b .nil pass0 (pa_cons (pv 2) pa_nil)))))))))))), ?_⟩
    refine ⟨_, rfl, a, _, rfl, .inr ha, _, _, _, _, rfl, ?_, ?_, ?_⟩
    · rw [List.length_map]; omega
    · rw [List.length_map]; omega
    refine ⟨_, rfl, b, _, rfl, .inr hb, _, _, _, _, rfl, ?_, ?_, ?_⟩
    · rw [List.length_map]; omega
    · rw [List.length_map]; omega
    -- triples = [*conditions, *given]
    refine ⟨_, rfl, b, _, rfl, .inl hb, _, rfl, g, _, rfl, .inr hg, ?_, fun tr htr => ?_⟩
    · show (qs.map V.ref ++ (us.map V.ref ++ [])).length ≤ sizeLine
      rw [List.append_nil, List.length_append, List.length_map, List.length_map]
      exact Nat.le_trans (show _ ≤ 1000 by omega) (by decide)
    have etr : qs.map V.ref ++ (us.map V.ref ++ []) = (qs ++ us).map V.ref := by rw [List.append_nil, List.map_append]
    have S1 : Same H (upd H tr (.lst (qs.map V.ref ++ (us.map V.ref ++ [])))) := Same.upd htr
    refine ⟨_, rfl, _, rfl, _, rfl, nm, a, tr, ps, qs ++ us, vars, cs ++ gs, rfl, same_seqT S1 ha, hva.same S1, SqL.of (by rw [upd_same, etr]), ?_, by omega, by rw [List.length_append]; omega, fun d H2 hd hS2 hl => ?_⟩
    · rw [List.map_append]
      exact (hcs.append hgs).same S1
    have S2 := S1.trans hS2
    refine ⟨d, _, rfl, SqL.of hl, ?_, hz, ?_⟩
    · unfold textsL
      have e : ∀ l : List Var, (l.flatMap varT).length ≤ 2 * l.length := flat_len
      have e2 := e vars
      rw [List.length_append, List.length_cons, List.length_map, List.length_append]
      omega
    refine DueN.next k S2 fun hn H3 hS3 => ?_
    have S3 := S2.trans hS3
    -- names = [variable for variable, sort in variables]
    refine ⟨_, rfl, a, rfl, ⟨_, same_seqT S3 ha⟩, fun D hD => ?_⟩
    refine lc_it walk_tup (fun i H' => Same H3 H' ∧ H' D = some (.lst (((vars.take i).map (·.1)).map V.str))) ⟨Same.upd hD, upd_same⟩ (fun i H' _ p => same_seqT (S3.trans p.1) ha) ?_ ?_
    · rintro i x H4 H5 hi ⟨hS4, hD4⟩ ⟨rfl, hx⟩
      obtain ⟨p, hp, rfl⟩ := map_ref_get hx
      obtain ⟨r, hr1', hr'⟩ := hva.get hp
      obtain ⟨⟨n, so⟩, ht, rfl⟩ := var_get hr1'
      refine ⟨p, _, rfl, same_seqT (S3.trans hS4) hr', rfl, _, _, rfl, _, _, rfl, rfl, rfl, ?_⟩
      refine ⟨_, rfl, _, hD4, ?_, ?_, ?_⟩
      · rw [List.length_map, List.length_map, List.length_take]
        exact Nat.lt_of_le_of_lt (show _ ≤ 1000 by omega) (by decide)
      · intro b' o h
        rw [upd_ne (ne_of_none h hD)]
        exact hS4 b' o h
      · rw [upd_same, List.take_add_one, ht, List.map_append, List.map_append]
        rfl
    rintro H4 ⟨hS4, hD4⟩
    rw [List.length_map, List.take_of_length_le (by omega)] at hD4
    have S4 := S3.trans hS4
    have tr4 : H4 tr = some (.lst ((qs ++ us).map V.ref)) := by
      have q : (upd H tr (.lst (qs.map V.ref ++ (us.map V.ref ++ [])))) tr = some (.lst ((qs ++ us).map V.ref)) := by rw [upd_same, etr]
      exact hS4 _ _ (hS3 _ _ (hS2 _ _ q))
    -- refuse_twice(names)
    refine ⟨_, rfl, D, _, rfl, .inl (SqL.of hD4), flat_strs _, ok.tw, fun H5 hS5 => ?_⟩
    have S5 := S4.trans hS5
    -- refuse_no_variable(names, [*ends_of(triples), *hands])
    refine ⟨_, rfl, _, rfl, tr, qs ++ us, cs ++ gs, rfl, .inl (SqL.of (hS5 _ _ tr4)), ?_, by rw [List.length_append]; omega, fun e H6 he hS6 hl6 => ?_⟩
    · rw [List.map_append]
      exact (hcs.append hgs).same S5
    have S6 := S5.trans hS6
    refine ⟨e, _, rfl, .inr (SqL.of hl6), _, rfl, h, _, rfl, .inr (S6.seq hh), ?_, fun l hl => ?_⟩
    · rw [List.length_append, List.length_map, endsL_len, List.length_append, List.append_nil, List.length_map]
      exact Nat.le_trans (show _ ≤ 1000 by omega) (by decide)
    refine ⟨D, l, _, endsL (cs ++ gs) ++ hs, rfl, SqL.of (Same.upd hl _ _ (hS6 _ _ (hS5 _ _ hD4))), SqL.of ?_, ok.en, fun H7 hS7 => ?_⟩
    · rw [upd_same, List.append_nil, List.map_append]
    have S7 := S6.trans ((Same.upd hl).trans hS7)
    have D7 := hS7 _ _ (Same.upd hl _ _ (hS6 _ _ (hS5 _ _ hD4)))
    -- refuse_loose(names, conditions)
    refine ⟨_, rfl, _, rfl, D, b, _, qs, cs, rfl, SqL.of D7, same_seqT S7 hb, hcs.same S7, by omega, ok.lo, fun H8 hS8 => ?_⟩
    have S8 := S7.trans hS8
    -- refuse_apart(conditions)
    refine ⟨_, rfl, b, qs, cs, rfl, same_seqT S8 hb, hcs.same S8, by omega, ok.ap, fun H9 hS9 => ?_⟩
    unfold DueN at k
    rw [hn] at k
    exact k H9 (S8.trans hS9)
end
end Wm
namespace Wm
open PySem L2 StX
def barF (nm : Str) (t1 t2 : Addr) : List (Str × V) := putF "conditions" (.ref t2) (putF "variables" (.ref t1) (putF "name" (.str nm) []))
theorem ne1 : ¬ (("variables" : Str) = "conditions") := by decide +kernel
theorem ne2 : ¬ (("name" : Str) = "conditions") := by decide +kernel
theorem ne3 : ¬ (("name" : Str) = "variables") := by decide +kernel
theorem barF_name (nm : Str) (t1 t2 : Addr) : (barF nm t1 t2).lookup ("name" : Str) = some (.str nm) := by
  unfold barF
  rw [lookup_putF, if_neg ne2, lookup_putF, if_neg ne3, lookup_putF, if_pos rfl]
theorem barF_vars (nm : Str) (t1 t2 : Addr) : (barF nm t1 t2).lookup ("variables" : Str) = some (.ref t1) := by
  unfold barF
  rw [lookup_putF, if_neg ne1, lookup_putF, if_pos rfl]
theorem barF_cond (nm : Str) (t1 t2 : Addr) : (barF nm t1 t2).lookup ("conditions" : Str) = some (.ref t2) := by
  unfold barF
  rw [lookup_putF, if_pos rfl]
theorem putF_len (f : Str) (v : V) : ∀ fs : List (Str × V), (putF f v fs).length ≤ fs.length + 1
  | [] => Nat.le_refl _
  | (g, x) :: r => by
    unfold putF
    split
    · exact Nat.le_succ _
    · have := putF_len f v r
      simp only [List.length_cons]
      omega
/-- what the making of an object that may be refused by a text is to bring; H0: what stood ahead of it -/
def DueM (C : Addr) (zs : List Str) (H0 : Hp) (ok : Hp → Prop) (E : XK) : Prop := match zs.find? (fun z => !isNm z) with
  | none => ∀ H', Same H0 H' → ok H'
  | some z => ∀ d H', H0 d = none → Same H0 H' → H' d = some (.xd (ef1 "name" "noname" (.str z))) → E (.ref C) (some d) H'
theorem DueM.toN {C : Addr} {zs : List Str} {H0 H1 : Hp} {ok : Hp → Prop} {Q : VK} {E : XK} (h : DueM C zs H0 ok E) (hS : Same H0 H1) (r : zs.find? (fun z => !isNm z) = none → ∀ H', Same H1 H' → Q .non H') : DueN C zs H1 Q E := by
  unfold DueM at h
  unfold DueN
  cases e : zs.find? (fun z => !isNm z) with
  | none => exact r e
  | some z =>
    rw [e] at h
    exact fun d H' h0 h1 h2 => h d H' (hS.free h0) (hS.trans h1) h2
structure TxBar (K : PySem.W.Frag) (mg : Str → Option Value) (B fB : Addr) : Prop where
  cl : Cls K B
  nn : NoAttr K B "name"
  nv : NoAttr K B "variables"
  nc : NoAttr K B "conditions"
  g : mg "Bar" = some (.ref B)
  m : Mk K B fB
def spBar (K : PySem.W.Frag) (C B : Addr) : Sp := fun vs H Q E => ∃ (H0 : Hp) (x dx l1 l2 : Addr) (nm : Str) (ps qs : List Addr) (vars : List Var) (cs : List Tri), vs = [.ref x, .str nm, .ref l1, .ref l2] ∧ Same H0 H ∧ H0 x = none ∧ H x = some (.ins B dx []) ∧
  SqL K H0 l1 (ps.map V.ref) ∧ RowsAt K H0 ps (vars.map varV) ∧ SqL K H0 l2 (qs.map V.ref) ∧ RowsAt K H0 qs (cs.map triV) ∧ PatOk vars cs [] [] ∧ (∀ z ∈ textsL nm vars cs, z.length ≤ 1000) ∧
  DueM C (textsL nm vars cs) H0 (fun H' => ∀ t1 t2, H' x = some (.ins B dx (barF nm t1 t2)) → H' t1 = some (.tup (ps.map V.ref)) → H' t2 = some (.tup (qs.map V.ref)) → Q .non H') E
section
variable {P : Program} {w : World} {K : PySem.W.Frag} {mg : Str → Option Value} {base : Heap}
theorem scBar : FnScope ["self", "name", "variables", "conditions"] ["self", "name", "variables", "conditions"] (defScope sBar) := ⟨rfl, rfl, rfl, by decide +kernel, rfl, by decide +kernel, by decide +kernel⟩
theorem ok_bar {f fTT fCP C B : Addr} {fd dTT dCP : FuncData} (F : Fun K "__init__" "Bar.__init__" sBar f fd) (T : TxB mg) (TB : TxBar K mg B f) (TT : Dn K mg "tuple_of_tuples" sTT ["rows"] fTT dTT)
    (CP : Dn K mg "check_pattern" sCP ["name", "variables", "conditions", "given", "hands"] fCP dCP) (GCP : FnOk P w K mg base (L2.CX P w) 5 fCP dCP ["name", "variables", "conditions", "given", "hands"] (spCP K C)) :
    FnOk P w K mg base (L2.CX P w) 6 f fd ["self", "name", "variables", "conditions"] (spBar K C B) := by
  have GTT : FnOk P w K mg base CX0 1 fTT dTT _ (spTT K) := ok_tt TT.F T
  refine F.okX scBar (fun vs H Q E h => ?_) (fun cdv A outer s H vs Q E hr h => ?_)
  · obtain ⟨H0, x, dx, l1, l2, nm, ps, qs, vars, cs, rfl, _⟩ := h
    rfl
  · obtain ⟨H0, x, dx, l1, l2, nm, ps, qs, vars, cs, rfl, S0, x0, hx, h1, hv, h2, hc, ok, hz, k⟩ := h
    have hr1 : Room 1 _ := hr.mono (by decide)
    have b1 := hv.len
    have b2 := hc.len
    rw [List.length_map] at b1 b2
    have o1 := ok.v4
    have o2 := ok.c3
    refine ⟨_, (pss_cons (ps_fld (pv 0) (pv 1) rfl)
      (pss_cons (ps_fld (pv 0) (pe_call GTT hr1 rfl TT.g TT.F.kp TT.b .nil pass0 (pa_cons (pv 2) pa_nil)) rfl)
      (pss_cons (ps_fld (pv 0) (pe_call GTT hr1 rfl TT.g TT.F.kp TT.b .nil pass0 (pa_cons (pv 3) pa_nil)) rfl)
      (pss_one (ps_expr (pe_call GCP hr rfl CP.g CP.F.kp CP.b .nil (passes_call (takes_of rfl rfl rfl rfl) (fun _ _ _ _ h => h)) (pa_cons (pv 1) (pa_cons (pe_fld (pv 0) rfl) (pa_cons (pe_fld (pv 0) rfl) (pa_cons (pe_lst pa_nil) (pa_cons (pe_lst pa_nil) pa_nil))))))))))), ?_⟩
    -- self.name = name
    refine ⟨_, rfl, _, rfl, x, B, dx, [], rfl, hx, TB.cl, TB.nn, (by show 0 < 1000; decide), ?_⟩
    have Sx : ∀ {H1 : Hp} {o : HO}, Same H0 H1 → Same H0 (upd H1 x o) := fun hs b o e => by
      rw [upd_ne (ne_of_none e x0)]
      exact hs b o e
    have S1 := Sx (o := .ins B dx (putF "name" (.str nm) [])) S0
    -- self.variables = tuple_of_tuples(variables)
    refine ⟨_, rfl, l1, ps, _, rfl, S1.seq h1, hv.same S1, by omega, fun t1 H2 ht1 hS2 hl1 => ?_⟩
    have S2 := S1.trans hS2
    have hx2 := hS2 _ _ (upd_same (H := H) (a := x) (o := .ins B dx (putF "name" (.str nm) [])))
    have n1x : t1 ≠ x := fun z => by
      rw [z, upd_same] at ht1
      cases ht1
    refine ⟨_, rfl, x, B, dx, _, rfl, hx2, TB.cl, TB.nv, Nat.lt_of_le_of_lt (putF_len _ _ _) (by decide), ?_⟩
    have S3 := Sx (o := .ins B dx (putF "variables" (.ref t1) (putF "name" (.str nm) []))) S2
    -- self.conditions = tuple_of_tuples(conditions)
    refine ⟨_, rfl, l2, qs, _, rfl, S3.seq h2, hc.same S3, by omega, fun t2 H4 ht2 hS4 hl2 => ?_⟩
    have S4 := S3.trans hS4
    have hx4 := hS4 _ _ (upd_same (H := H2) (a := x) (o := .ins B dx (putF "variables" (.ref t1) (putF "name" (.str nm) []))))
    have hl1' := hS4 t1 _ (by rw [upd_ne n1x]; exact hl1)
    have n2x : t2 ≠ x := fun z => by
      rw [z, upd_same] at ht2
      cases ht2
    refine ⟨_, rfl, x, B, dx, _, rfl, hx4, TB.cl, TB.nc, Nat.lt_of_le_of_lt (putF_len _ _ _) (Nat.lt_of_le_of_lt (Nat.succ_le_succ (putF_len _ _ _)) (by decide)), ?_⟩
    have S5 := Sx (o := .ins B dx (barF nm t1 t2)) S4
    have hx5 : (upd H4 x (.ins B dx (barF nm t1 t2))) x = some (.ins B dx (barF nm t1 t2)) := upd_same
    have h15 : (upd H4 x (.ins B dx (barF nm t1 t2))) t1 = some (.tup (ps.map V.ref)) := by rw [upd_ne n1x]; exact hl1'
    have h25 : (upd H4 x (.ins B dx (barF nm t1 t2))) t2 = some (.tup (qs.map V.ref)) := by rw [upd_ne n2x]; exact hl2
    -- check_pattern(name, self.variables, self.conditions, [], [])
    refine ⟨_, rfl, _, rfl, x, B, dx, _, _, rfl, hx5, TB.cl, TB.nv, barF_vars _ _ _, _, rfl, x, B, dx, _, _, rfl, hx5, TB.cl, TB.nc, barF_cond _ _ _, Nat.zero_le _, fun g hg => ⟨Nat.zero_le _, fun h hh => ?_⟩⟩
    have S7 : Same (upd H4 x (.ins B dx (barF nm t1 t2))) (upd (upd (upd H4 x (.ins B dx (barF nm t1 t2))) g (.lst [])) h (.lst [])) := (Same.upd hg).trans (Same.upd hh)
    have S57 := S5.trans S7
    have e0 : cs ++ ([] : List Tri) = cs := List.append_nil cs
    refine ⟨nm, t1, t2, g, h, ps, qs, [], vars, cs, [], [], rfl, SqT.of (S7 _ _ h15), hv.same S57, SqT.of (S7 _ _ h25), hc.same S57, SqL.of (Same.upd hh _ _ upd_same), True.intro, SqL.of upd_same, ok, by rw [e0]; exact hz, ?_⟩
    rw [e0]
    refine k.toN S57 fun hn H8 hS8 => ?_
    unfold DueM at k
    rw [hn] at k
    exact k H8 (S57.trans hS8) t1 t2 (hS8 _ _ (S7 _ _ hx5)) (hS8 _ _ (S7 _ _ h15)) (hS8 _ _ (S7 _ _ h25))
end
end Wm
namespace Wm
open PySem L2
/-- str(o), o an instance of the class at C, whose __str__ is the def at f -/
def rStrO (C : Addr) (sp : Sp) : List V → Hp → VK → Prop := fun xs H Q => ∃ (a dx : Addr) (fs : List (Str × V)), xs = [.ref a] ∧ H a = some (.ins C dx fs) ∧ sp [.ref a] H (fun v H' => ∃ z : Str, v = .str z ∧ Q (.str z) H') E0
theorem call_strO {X : Cx} {C f : Addr} {fd : FuncData} {k : Nat} {sp : Sp} (hs : PySem.W.findIn X.K (.ref C) "__str__" = some (some (.ref f))) (hf : PySem.W.isFn X.K (.ref f) = true) (F : FnOk X.prog X.w X.K X.mg X.base CX0 k f fd ["self"] sp) (hr : Room (k + 2) X.A) (hb : Binds X.K fd ["self"] []) :
    CallR X (.type "str") (rStrO C sp) := by
  intro pins s σ H xs us Q I r h
  obtain ⟨a, dx, fs, rfl, ha, h⟩ := h
  cases r with
  | cons rx rr =>
    cases rr
    cases rx
    obtain ⟨mA, ob, _⟩ := ins_get I.hok ha
    obtain ⟨od, J, _⟩ := ob.look
    have hr1 : Room (k + 1) X.A.in1 := hr.in1
    have hr2 : Room k X.A.in1.in1 := hr1.in1
    refine PySem.W.kso_call hr2.units0 I.kIn J hs hf ?_
    have hl : ([Value.ref a] ++ []).length = (["self"] : List Str).length := rfl
    have rv : Vals [V.ref a] [Value.ref a] := .cons rfl .nil
    refine wpAny_call (codeAny_mono (F.run X.A.in1.in1 X.stack s H ⟨[Value.ref a], []⟩ [Value.ref a] [V.ref a] _ E0 hr2 I.env0.in1.in1 (hb s [Value.ref a] I.kIn hl) rv h) fun r s' hq => ?_)
    cases r with
    | error e => exact hq.elim
    | ok fl =>
      cases fl with
      | ret u =>
        obtain ⟨v, H', J', ru, z, rfl, q⟩ := I.after (Q := fun v H' => ∃ z : Str, v = .str z ∧ Q (.str z) H') hq
        obtain ⟨t, rfl⟩ := ru
        exact ⟨.str z, H', J', ⟨t, rfl⟩, q⟩
      | next => exact False.elim hq
      | brk => exact False.elim hq
      | cont => exact False.elim hq
end Wm
namespace Wm
open PySem L2 PySem.W
/-- a == b, a an instance of the class at C, whose __eq__ is the def at f -/
def rEqO (K : Frag) (C : Addr) (sp : Sp) : V → V → Hp → VK → Prop := fun x y H Q => ∃ (a b D dx dy : Addr) (fs gs : List (Str × V)), x = .ref a ∧ y = .ref b ∧ H a = some (.ins C dx fs) ∧ H b = some (.ins D dy gs) ∧ notFirst K C (.ref D) = true ∧
  sp [.ref a, .ref b] H (fun v H' => ∃ t : Bool, v = .bl t ∧ Q (.bl t) H') E0
theorem op_eqO {X : Cx} {C f : Addr} {fd : FuncData} {k : Nat} {sp : Sp} {ps : List Str} (hs : findIn X.K (.ref C) "__eq__" = some (some (.ref f))) (hf : isFn X.K (.ref f) = true) (F : FnOk X.prog X.w X.K X.mg X.base CX0 k f fd ps sp) (hr : Room k X.A) (hb : L2.Binds X.K fd ps []) :
    OpR X (compareOp .Eq) (rEqO X.K C sp) := by
  intro pins s σ H x y v u Q I rx ry h
  obtain ⟨a, b, D, dx, dy, fs, gs, rfl, rfl, ha, hb', nf, h⟩ := h
  cases rx
  cases ry
  obtain ⟨mA, oa, _⟩ := ins_get I.hok ha
  obtain ⟨mB, ob, _⟩ := ins_get I.hok hb'
  obtain ⟨od, J, _⟩ := oa.look
  obtain ⟨od', J', _⟩ := ob.look
  obtain ⟨m, hF⟩ := I.fr
  show wpAny _ _ (richCompare .Eq (.ref a) (.ref b)) _ _ _
  refine cmp_K hr.units0 hF I.ok.mod.kin J (InstAt.type J') nf hs hf ?_
  have rv : Vals [V.ref a, V.ref b] [Value.ref a, Value.ref b] := .cons rfl (.cons rfl .nil)
  have hl : ([Value.ref a, Value.ref b] ++ []).length = ps.length := F.len _ _ _ _ h
  have bd := hb s [Value.ref a, Value.ref b] I.kIn hl
  rw [List.append_nil] at bd
  refine wpAny_call (codeAny_mono (F.run X.A X.stack s H ⟨[Value.ref a, Value.ref b], []⟩ [Value.ref a, Value.ref b] [V.ref a, V.ref b] _ E0 hr I.env0 bd rv h) fun r s' hq => ?_)
  cases r with
  | error e => exact hq.elim
  | ok fl =>
    cases fl with
    | next => exact hq.elim
    | brk => exact hq.elim
    | cont => exact hq.elim
    | ret u =>
      obtain ⟨v, H', I2, rv, t, rfl, q⟩ := I.after hq
      cases rv
      exact ⟨.bl t, H', I2, rfl, q⟩
/-- the class at C has its own __eq__, at f, and no __ne__ -/
structure EqNe (K : Frag) (C f : Addr) : Prop where
  ex : ∃ nm q N bs hdct sn sub ab col dd k0 k1 k2 k3 k5 newId oc od es ep osl of, K.lookup C = some (excClassObj nm q C N bs [.type "object"] hdct sn sub ab col dd k0 k1 k2 k3 k5 newId) ∧
    K.lookup N = some ⟨oc, od, .dict es ep, osl⟩ ∧ StrKeys es ∧ nsFind es "__eq__" = some (.ref f) ∧ nsFind es "__ne__" = none ∧ K.lookup f = some of ∧ of.cls = .type "function"
theorem EqNe.at {K : Frag} {C f x dx : Addr} (e : EqNe K C f) {h : Heap} (X : K.In h) (hx : h.get? x = some (instObj C dx)) : h.OwnEqNoNe x C f "object" [.type "object"] := by
  obtain ⟨nm, q, N, bs, hdct, sn, sub, ab, col, dd, k0, k1, k2, k3, k5, newId, oc, od, es, ep, osl, of, h1, h2, h3, h4, h5, h6, h7⟩ := e.ex
  exact ⟨_, of, nm, q, N, bs, hdct, sn, sub, ab, col, dd, k0, k1, k2, k3, k5, newId, nsFind es, _, hx, rfl, X C _ h1, ⟨_, es, ep, X N _ h2, rfl, h3, fun _ => rfl⟩, h4, X f _ h6, h7, PySem.F.cmp_object.mro, PySem.F.cmp_object.eq.lookup, h5⟩
def rNeO (C : Addr) (sp : Sp) : V → V → Hp → VK → Prop := fun x y H Q => ∃ (a b dx dy : Addr) (fs gs : List (Str × V)), x = .ref a ∧ y = .ref b ∧ H a = some (.ins C dx fs) ∧ H b = some (.ins C dy gs) ∧
  sp [.ref a, .ref b] H (fun v H' => ∃ t : Bool, v = .bl t ∧ Q (.bl !t) H') E0
theorem op_neO {X : Cx} {C f : Addr} {fd : FuncData} {k : Nat} {sp : Sp} {ps : List Str} (hs : EqNe X.K C f) (F : FnOk X.prog X.w X.K X.mg X.base CX0 k f fd ps sp) (hr : Room (k + 1) X.A) (hb : L2.Binds X.K fd ps []) :
    OpR X (compareOp .NotEq) (rNeO C sp) := by
  intro pins s σ H x y v u Q I rx ry h
  obtain ⟨a, b, dx, dy, fs, gs, rfl, rfl, ha, hb', h⟩ := h
  cases rx
  cases ry
  have oa := (I.hok a _ ha).2.2.2.1
  have ob := (I.hok b _ hb').2.2.2.1
  have hr1 : Room k X.A.in1 := hr.in1
  refine compareOp_ne_ownEq PySem.F.cmp_object (hs.at I.kIn oa) ob rfl ?_ ?_
  · exact hr1.units0
  have rv : Vals [V.ref a, V.ref b] [Value.ref a, Value.ref b] := .cons rfl (.cons rfl .nil)
  have hl : ([Value.ref a, Value.ref b] ++ []).length = ps.length := F.len _ _ _ _ h
  have bd := hb s [Value.ref a, Value.ref b] I.kIn hl
  rw [List.append_nil] at bd
  refine wpAny_call (codeAny_mono (F.run X.A.in1 X.stack s H ⟨[Value.ref a, Value.ref b], []⟩ [Value.ref a, Value.ref b] [V.ref a, V.ref b] _ E0 hr1 I.env0.in1 bd rv h) fun r s' hq => ?_)
  cases r with
  | error e => exact hq.elim
  | ok fl =>
    cases fl with
    | next => exact hq.elim
    | brk => exact hq.elim
    | cont => exact hq.elim
    | ret u =>
      obtain ⟨v, H', I2, rv, t, rfl, q⟩ := I.after (Q := fun v H' => ∃ t : Bool, v = .bl t ∧ Q (.bl !t) H') hq
      cases rv
      exact ⟨t, rfl, .bl !t, H', I2, rfl, q⟩
end Wm
namespace Wm
open PySem L2 StX
def rulF (nm : Str) (t1 t2 t3 : Addr) (by_ : Str) : List (Str × V) := putF "by" (.str by_) (putF "gives" (.ref t3) (barF nm t1 t2))
theorem nr1 : ¬ (("gives" : Str) = "by") := by decide +kernel
theorem nr2 : ¬ (("name" : Str) = "by") := by decide +kernel
theorem nr3 : ¬ (("name" : Str) = "gives") := by decide +kernel
theorem nr4 : ¬ (("variables" : Str) = "by") := by decide +kernel
theorem nr5 : ¬ (("variables" : Str) = "gives") := by decide +kernel
theorem nr6 : ¬ (("conditions" : Str) = "by") := by decide +kernel
theorem nr7 : ¬ (("conditions" : Str) = "gives") := by decide +kernel
theorem rulF_name (nm : Str) (t1 t2 t3 : Addr) (b : Str) : (rulF nm t1 t2 t3 b).lookup ("name" : Str) = some (.str nm) := by
  unfold rulF
  rw [lookup_putF, if_neg nr2, lookup_putF, if_neg nr3]
  exact barF_name _ _ _
theorem rulF_vars (nm : Str) (t1 t2 t3 : Addr) (b : Str) : (rulF nm t1 t2 t3 b).lookup ("variables" : Str) = some (.ref t1) := by
  unfold rulF
  rw [lookup_putF, if_neg nr4, lookup_putF, if_neg nr5]
  exact barF_vars _ _ _
theorem rulF_cond (nm : Str) (t1 t2 t3 : Addr) (b : Str) : (rulF nm t1 t2 t3 b).lookup ("conditions" : Str) = some (.ref t2) := by
  unfold rulF
  rw [lookup_putF, if_neg nr6, lookup_putF, if_neg nr7]
  exact barF_cond _ _ _
theorem rulF_gives (nm : Str) (t1 t2 t3 : Addr) (b : Str) : (rulF nm t1 t2 t3 b).lookup ("gives" : Str) = some (.ref t3) := by
  unfold rulF
  rw [lookup_putF, if_neg nr1, lookup_putF, if_pos rfl]
theorem rulF_by (nm : Str) (t1 t2 t3 : Addr) (b : Str) : (rulF nm t1 t2 t3 b).lookup ("by" : Str) = some (.str b) := by
  unfold rulF
  rw [lookup_putF, if_pos rfl]
theorem barF_len (nm : Str) (t1 t2 : Addr) : (barF nm t1 t2).length ≤ 3 := Nat.le_trans (putF_len _ _ _) (Nat.succ_le_succ (Nat.le_trans (putF_len _ _ _) (Nat.succ_le_succ (putF_len _ _ _))))
structure TxRul (K : PySem.W.Frag) (mg : Str → Option Value) (B fB : Addr) : Prop where
  cl : Cls K B
  nn : NoAttr K B "name"
  nv : NoAttr K B "variables"
  nc : NoAttr K B "conditions"
  ng : NoAttr K B "gives"
  nb : NoAttr K B "by"
  g : mg "Rule" = some (.ref B)
  m : Mk K B fB
def spRul (K : PySem.W.Frag) (C B : Addr) : Sp := fun vs H Q E => ∃ (H0 : Hp) (x dx l1 l2 g : Addr) (nm b : Str) (ps qs : List Addr) (vars : List Var) (cs : List Tri) (gt : Tri), vs = [.ref x, .str nm, .ref l1, .ref l2, .ref g, .str b] ∧ Same H0 H ∧ H0 x = none ∧ H x = some (.ins B dx []) ∧
  SqL K H0 l1 (ps.map V.ref) ∧ RowsAt K H0 ps (vars.map varV) ∧ SqL K H0 l2 (qs.map V.ref) ∧ RowsAt K H0 qs (cs.map triV) ∧ H0 g = some (.tup (triV gt)) ∧ PatOk vars cs [gt] [b] ∧ (∀ z ∈ textsL nm vars (cs ++ [gt]), z.length ≤ 1000) ∧
  DueM C (textsL nm vars (cs ++ [gt])) H0 (fun H' => ∀ t1 t2, H' x = some (.ins B dx (rulF nm t1 t2 g b)) → H' t1 = some (.tup (ps.map V.ref)) → H' t2 = some (.tup (qs.map V.ref)) → Q .non H') E
section
variable {P : Program} {w : World} {K : PySem.W.Frag} {mg : Str → Option Value} {base : Heap}
theorem scRul : FnScope ["self", "name", "variables", "conditions", "gives", "by"] ["self", "name", "variables", "conditions", "gives", "by"] (defScope sRul) := ⟨rfl, rfl, rfl, by decide +kernel, rfl, by decide +kernel, by decide +kernel⟩
theorem ok_rul {f fTT fCP C B : Addr} {fd dTT dCP : FuncData} (F : Fun K "__init__" "Rule.__init__" sRul f fd) (T : TxB mg) (TB : TxRul K mg B f) (TT : Dn K mg "tuple_of_tuples" sTT ["rows"] fTT dTT)
    (CP : Dn K mg "check_pattern" sCP ["name", "variables", "conditions", "given", "hands"] fCP dCP) (GCP : FnOk P w K mg base (L2.CX P w) 5 fCP dCP ["name", "variables", "conditions", "given", "hands"] (spCP K C)) :
    FnOk P w K mg base (L2.CX P w) 6 f fd ["self", "name", "variables", "conditions", "gives", "by"] (spRul K C B) := by
  have GTT : FnOk P w K mg base CX0 1 fTT dTT _ (spTT K) := ok_tt TT.F T
  refine F.okX scRul (fun vs H Q E h => ?_) (fun cdv A outer s H vs Q E hr h => ?_)
  · obtain ⟨H0, x, dx, l1, l2, g, nm, b, ps, qs, vars, cs, gt, rfl, _⟩ := h
    rfl
  · obtain ⟨H0, x, dx, l1, l2, g, nm, b, ps, qs, vars, cs, gt, rfl, S0, x0, hx, h1, hv, h2, hc, hg, ok, hz, k⟩ := h
    have hr1 : Room 1 _ := hr.mono (by decide)
    have b1 := hv.len
    have b2 := hc.len
    rw [List.length_map] at b1 b2
    have o1 := ok.v4
    have o2 := ok.c3
    have ngx : g ≠ x := ne_of_none hg x0
    refine ⟨_, (pss_cons (ps_fld (pv 0) (pv 1) rfl)
      (pss_cons (ps_fld (pv 0) (pe_call GTT hr1 rfl TT.g TT.F.kp TT.b .nil pass0 (pa_cons (pv 2) pa_nil)) rfl)
      (pss_cons (ps_fld (pv 0) (pe_call GTT hr1 rfl TT.g TT.F.kp TT.b .nil pass0 (pa_cons (pv 3) pa_nil)) rfl)
      (pss_cons (ps_fld (pv 0) (pe_callTy call_tupN (by rfl) T.tuple (by decide +kernel) (pa_cons (pv 4) pa_nil)) rfl)
      (pss_cons (ps_fld (pv 0) (pv 5) rfl)
      (pss_one (ps_expr (pe_call GCP hr rfl CP.g CP.F.kp CP.b .nil (passes_call (takes_of rfl rfl rfl rfl) (fun _ _ _ _ h => h)) (pa_cons (pv 1) (pa_cons (pe_fld (pv 0) rfl) (pa_cons (pe_fld (pv 0) rfl) (pa_cons (pe_lst (pa_cons (pe_fld (pv 0) rfl) pa_nil)) (pa_cons (pe_lst (pa_cons (pv 5) pa_nil)) pa_nil))))))))))))), ?_⟩
    have Sx : ∀ {H1 : Hp} {o : HO}, Same H0 H1 → Same H0 (upd H1 x o) := fun hs b o e => by
      rw [upd_ne (ne_of_none e x0)]
      exact hs b o e
    refine ⟨_, rfl, _, rfl, x, B, dx, [], rfl, hx, TB.cl, TB.nn, (by show 0 < 1000; decide), ?_⟩
    have S1 := Sx (o := .ins B dx (putF "name" (.str nm) [])) S0
    refine ⟨_, rfl, l1, ps, _, rfl, S1.seq h1, hv.same S1, by omega, fun t1 H2 ht1 hS2 hl1 => ?_⟩
    have S2 := S1.trans hS2
    have hx2 := hS2 _ _ (upd_same (H := H) (a := x) (o := .ins B dx (putF "name" (.str nm) [])))
    have n1x : t1 ≠ x := fun z => by
      rw [z, upd_same] at ht1
      cases ht1
    refine ⟨_, rfl, x, B, dx, _, rfl, hx2, TB.cl, TB.nv, Nat.lt_of_le_of_lt (putF_len _ _ _) (by decide), ?_⟩
    have S3 := Sx (o := .ins B dx (putF "variables" (.ref t1) (putF "name" (.str nm) []))) S2
    refine ⟨_, rfl, l2, qs, _, rfl, S3.seq h2, hc.same S3, by omega, fun t2 H4 ht2 hS4 hl2 => ?_⟩
    have S4 := S3.trans hS4
    have hx4 := hS4 _ _ (upd_same (H := H2) (a := x) (o := .ins B dx (putF "variables" (.ref t1) (putF "name" (.str nm) []))))
    have hl1' := hS4 t1 _ (by rw [upd_ne n1x]; exact hl1)
    have n2x : t2 ≠ x := fun z => by
      rw [z, upd_same] at ht2
      cases ht2
    refine ⟨_, rfl, x, B, dx, _, rfl, hx4, TB.cl, TB.nc, Nat.lt_of_le_of_lt (putF_len _ _ _) (Nat.lt_of_le_of_lt (Nat.succ_le_succ (putF_len _ _ _)) (by decide)), ?_⟩
    have S5 := Sx (o := .ins B dx (barF nm t1 t2)) S4
    -- self.gives = tuple(gives); self.by = by
    refine ⟨_, rfl, g, _, rfl, .inr ⟨SqT.of (S5 _ _ hg), ?_⟩⟩
    refine ⟨_, rfl, x, B, dx, _, rfl, upd_same, TB.cl, TB.ng, Nat.lt_of_le_of_lt (barF_len nm t1 t2) (by decide), ?_⟩
    refine ⟨_, rfl, _, rfl, x, B, dx, _, rfl, upd_same, TB.cl, TB.nb, Nat.lt_of_le_of_lt (Nat.le_trans (putF_len _ _ _) (Nat.succ_le_succ (barF_len nm t1 t2))) (by decide), ?_⟩
    rw [upd_upd, upd_upd]
    show _
    generalize hH6 : upd H4 x (.ins B dx (putF "by" (.str b) (putF "gives" (.ref g) (putF "conditions" (.ref t2) (putF "variables" (.ref t1) (putF "name" (.str nm) [])))))) = H6
    have S6 : Same H0 H6 := by
      rw [← hH6]
      exact Sx S4
    have hx6 : H6 x = some (.ins B dx (rulF nm t1 t2 g b)) := by rw [← hH6, upd_same]; rfl
    have h16 : H6 t1 = some (.tup (ps.map V.ref)) := by rw [← hH6, upd_ne n1x]; exact hl1'
    have h26 : H6 t2 = some (.tup (qs.map V.ref)) := by rw [← hH6, upd_ne n2x]; exact hl2
    -- check_pattern(name, self.variables, self.conditions, [self.gives], [by])
    refine ⟨_, rfl, _, rfl, x, B, dx, _, _, rfl, hx6, TB.cl, TB.nv, rulF_vars _ _ _ _ _, _, rfl, x, B, dx, _, _, rfl, hx6, TB.cl, TB.nc, rulF_cond _ _ _ _ _, _, rfl, x, B, dx, _, _, rfl, hx6, TB.cl, TB.ng, rulF_gives _ _ _ _ _, by show 1 ≤ sizeLine; decide, fun gl hgl => ⟨_, rfl, by show 1 ≤ sizeLine; decide, fun h hh => ?_⟩⟩
    have S7 : Same H6 (upd (upd H6 gl (.lst [.ref g])) h (.lst [.str b])) := (Same.upd hgl).trans (Same.upd hh)
    have S67 := S6.trans S7
    refine ⟨nm, t1, t2, gl, h, ps, qs, [g], vars, cs, [gt], [b], rfl, SqT.of (S7 _ _ h16), hv.same S67, SqT.of (S7 _ _ h26), hc.same S67, SqL.of (Same.upd hh _ _ upd_same), ⟨SqT.of (S67 _ _ hg), True.intro⟩, SqL.of upd_same, ok, hz, ?_⟩
    refine k.toN S67 fun hn H8 hS8 => ?_
    unfold DueM at k
    rw [hn] at k
    exact k H8 (S67.trans hS8) t1 t2 (hS8 _ _ (S7 _ _ hx6)) (hS8 _ _ (S7 _ _ h16)) (hS8 _ _ (S7 _ _ h26))
end
end Wm
namespace Wm
open PySem L2 StX
def sortD : Option Str → PyData
  | none => .none
  | some s => .str s
def varD (v : Var) : List PyData := [.str v.1, sortD v.2]
def triD (t : Tri) : List PyData := [.str t.1, .str t.2.1, .str t.2.2]
def rowsD (rs : List (List PyData)) : PyData := .tuple (rs.map PyData.tuple)
theorem dp_var {K : PySem.W.Frag} {H : Hp} (v : Var) : DpAll K H (varV v) (varD v) := by
  obtain ⟨n, s⟩ := v
  cases s with
  | none => exact .cons (.str _) (.cons .non .nil)
  | some s => exact .cons (.str _) (.cons (.str _) .nil)
theorem dp_tri {K : PySem.W.Frag} {H : Hp} (t : Tri) : DpAll K H (triV t) (triD t) := .cons (.str _) (.cons (.str _) (.cons (.str _) .nil))
theorem dp_rows {K : PySem.W.Frag} {H : Hp} {α : Type} {f : α → List V} {g : α → List PyData} (h : ∀ a, DpAll K H (f a) (g a)) : ∀ {ps : List Addr} {xs : List α}, RowsAt K H ps (xs.map f) → DpAll K H (ps.map V.ref) ((xs.map g).map PyData.tuple)
  | [], [], _ => .nil
  | _ :: _, x :: _, r => .cons (.tup r.1 (h x)) (dp_rows h r.2)
  | [], _ :: _, r => r.elim
  | _ :: _, [], r => r.elim
/-- the parts that rules and bars have alike, as they stand at t1 and t2 -/
structure RowsD (K : PySem.W.Frag) (H : Hp) (t1 t2 : Addr) (vars : List Var) (cs : List Tri) : Prop where
  ex : ∃ ps qs : List Addr, SqT K H t1 (ps.map V.ref) ∧ RowsAt K H ps (vars.map varV) ∧ SqT K H t2 (qs.map V.ref) ∧ RowsAt K H qs (cs.map triV)
  s1 : SeqAt.shaped (rowsD (vars.map varD)) = true
  s2 : SeqAt.shaped (rowsD (cs.map triD)) = true
theorem RowsD.d1 {K : PySem.W.Frag} {H : Hp} {t1 t2 : Addr} {vars : List Var} {cs : List Tri} (h : RowsD K H t1 t2 vars cs) : Dp K H (.ref t1) (rowsD (vars.map varD)) := by
  obtain ⟨ps, qs, a, b, _⟩ := h.ex
  exact .tup a (dp_rows dp_var b)
theorem RowsD.d2 {K : PySem.W.Frag} {H : Hp} {t1 t2 : Addr} {vars : List Var} {cs : List Tri} (h : RowsD K H t1 t2 vars cs) : Dp K H (.ref t2) (rowsD (cs.map triD)) := by
  obtain ⟨ps, qs, _, _, a, b⟩ := h.ex
  exact .tup a (dp_rows dp_tri b)
def sameB (nm : Str) (vars : List Var) (cs : List Tri) (nm' : Str) (vars' : List Var) (cs' : List Tri) : Bool := decide (nm = nm') && (PyData.eqv (rowsD (vars.map varD)) (rowsD (vars'.map varD)) && PyData.eqv (rowsD (cs.map triD)) (rowsD (cs'.map triD)))
def spBE (K : PySem.W.Frag) (B : Addr) : Sp := fun vs H Q _ => ∃ (x y : Addr), vs = [.ref x, .ref y] ∧
  ((∃ (dx dy t1 t2 s1 s2 : Addr) (nm nm' : Str) (vars vars' : List Var) (cs cs' : List Tri), H x = some (.ins B dx (barF nm t1 t2)) ∧ H y = some (.ins B dy (barF nm' s1 s2)) ∧ TyX K H (.ref y) (.ref B) ∧ RowsD K H t1 t2 vars cs ∧ RowsD K H s1 s2 vars' cs' ∧ Q (.bl (sameB nm vars cs nm' vars' cs')) H) ∨
   (∃ D, TyX K H (.ref y) (.ref D) ∧ PySem.W.kitOne K (.ref D) (.ref B) = some false ∧ Q (.bl false) H))
def sameR (nm : Str) (vars : List Var) (cs : List Tri) (g : Tri) (b : Str) (nm' : Str) (vars' : List Var) (cs' : List Tri) (g' : Tri) (b' : Str) : Bool := decide (nm = nm') && (PyData.eqv (rowsD (vars.map varD)) (rowsD (vars'.map varD)) && (PyData.eqv (rowsD (cs.map triD)) (rowsD (cs'.map triD)) && (PyData.eqv (.tuple (triD g)) (.tuple (triD g')) && decide (b = b'))))
def spRE (K : PySem.W.Frag) (B : Addr) : Sp := fun vs H Q _ => ∃ (x y : Addr), vs = [.ref x, .ref y] ∧
  ((∃ (dx dy t1 t2 t3 s1 s2 s3 : Addr) (nm nm' b b' : Str) (vars vars' : List Var) (cs cs' : List Tri) (g g' : Tri), H x = some (.ins B dx (rulF nm t1 t2 t3 b)) ∧ H y = some (.ins B dy (rulF nm' s1 s2 s3 b')) ∧ TyX K H (.ref y) (.ref B) ∧ RowsD K H t1 t2 vars cs ∧ RowsD K H s1 s2 vars' cs' ∧ SqT K H t3 (triV g) ∧ SqT K H s3 (triV g') ∧
      SeqAt.shaped (.tuple (triD g)) = true ∧ SeqAt.shaped (.tuple (triD g')) = true ∧ Q (.bl (sameR nm vars cs g b nm' vars' cs' g' b')) H) ∨
   (∃ D, TyX K H (.ref y) (.ref D) ∧ PySem.W.kitOne K (.ref D) (.ref B) = some false ∧ Q (.bl false) H))
section
variable {P : Program} {w : World} {K : PySem.W.Frag} {mg : Str → Option Value} {base : Heap}
theorem scBE : FnScope ["self", "other"] ["self", "other"] (defScope sBE) := ⟨rfl, rfl, rfl, by decide +kernel, rfl, by decide +kernel, by decide +kernel⟩
theorem ok_be {f fB B : Addr} {fd : FuncData} (F : Fun K "__eq__" "Bar.__eq__" sBE f fd) (T : TxB mg) (TB : TxBar K mg B fB) (kk : PySem.W.kitOne K (.ref B) (.ref B) = some true) : FnOk P w K mg base CX0 1 f fd ["self", "other"] (spBE K B) := by
  refine F.ok scBE (fun vs H Q E h => ?_) (fun cdv A outer s H vs Q E hr h => ?_)
  · obtain ⟨x, y, rfl, _⟩ := h
    rfl
  · obtain ⟨x, y, rfl, h⟩ := h
    refine ⟨_, (pss_one (ps_ret (pe_and (pe_callB call_isi (by rfl) T.isinstance (by decide +kernel) (pa_cons (pv 1) (pa_cons (pe_glob (v := .ref B) (by rfl) TB.g rfl) pa_nil)))
      (pe_and (pe_cmpR op_eq (pe_fld (pv 0) rfl) (pe_fld (pv 1) rfl) (nomark _))
      (pe_and (pe_cmpR (op_eqD hr.units) (pe_fld (pv 0) rfl) (pe_fld (pv 1) rfl) (nomark _))
      (pe_one (pe_cmpR (op_eqD hr.units) (pe_fld (pv 0) rfl) (pe_fld (pv 1) rfl) (nomark _)))))))), ?_⟩
    refine ⟨_, rfl, ?_⟩
    rcases h with ⟨dx, dy, t1, t2, s1, s2, nm, nm', vars, vars', cs, cs', hx, hy, ty, r, r', q⟩ | ⟨D, ty, kf, q⟩
    · refine ⟨_, _, _, _, _, rfl, .own B, ty, kk, true, rfl, ?_⟩
      refine iteT ?_
      refine ⟨_, rfl, x, B, dx, _, _, rfl, hx, TB.cl, TB.nn, barF_name _ _ _, _, rfl, y, B, dy, _, _, rfl, hy, TB.cl, TB.nn, barF_name _ _ _, rfl, _, rfl, ?_⟩
      unfold sameB at q
      refine ite2 (fun c => ?_) (fun c => ?_)
      rotate_left
      · have e : ¬ nm = nm' := fun e => c (by rw [e]; exact decide_eq_true rfl)
        rw [decide_eq_false e, Bool.false_and] at q
        exact q
      have e1 : nm = nm' := V.str.inj (of_decide_eq_true c)
      rw [decide_eq_true e1, Bool.true_and] at q
      refine ⟨_, rfl, x, B, dx, _, _, rfl, hx, TB.cl, TB.nv, barF_vars _ _ _, _, rfl, y, B, dy, _, _, rfl, hy, TB.cl, TB.nv, barF_vars _ _ _, _, _, r.d1, r'.d1, r.s1, r'.s1, _, rfl, ?_⟩
      refine ite2 (fun c => ?_) (fun c => ?_)
      rotate_left
      · rw [Bool.eq_false_iff.mpr c, Bool.false_and] at q
        exact q
      rw [c, Bool.true_and] at q
      exact ⟨_, rfl, x, B, dx, _, _, rfl, hx, TB.cl, TB.nc, barF_cond _ _ _, _, rfl, y, B, dy, _, _, rfl, hy, TB.cl, TB.nc, barF_cond _ _ _, _, _, r.d2, r'.d2, r.s2, r'.s2, q⟩
    · refine ⟨_, _, _, _, _, rfl, .own B, ty, kf, false, rfl, ?_⟩
      exact iteF q
theorem scRE : FnScope ["self", "other"] ["self", "other"] (defScope sRE) := ⟨rfl, rfl, rfl, by decide +kernel, rfl, by decide +kernel, by decide +kernel⟩
theorem ok_re {f fB B : Addr} {fd : FuncData} (F : Fun K "__eq__" "Rule.__eq__" sRE f fd) (T : TxB mg) (TB : TxRul K mg B fB) (kk : PySem.W.kitOne K (.ref B) (.ref B) = some true) : FnOk P w K mg base CX0 1 f fd ["self", "other"] (spRE K B) := by
  refine F.ok scRE (fun vs H Q E h => ?_) (fun cdv A outer s H vs Q E hr h => ?_)
  · obtain ⟨x, y, rfl, _⟩ := h
    rfl
  · obtain ⟨x, y, rfl, h⟩ := h
    refine ⟨_, (pss_one (ps_ret (pe_and (pe_callB call_isi (by rfl) T.isinstance (by decide +kernel) (pa_cons (pv 1) (pa_cons (pe_glob (v := .ref B) (by rfl) TB.g rfl) pa_nil)))
      (pe_and (pe_cmpR op_eq (pe_fld (pv 0) rfl) (pe_fld (pv 1) rfl) (nomark _))
      (pe_and (pe_cmpR (op_eqD hr.units) (pe_fld (pv 0) rfl) (pe_fld (pv 1) rfl) (nomark _))
      (pe_and (pe_cmpR (op_eqD hr.units) (pe_fld (pv 0) rfl) (pe_fld (pv 1) rfl) (nomark _))
      (pe_and (pe_cmpR (op_eqD hr.units) (pe_fld (pv 0) rfl) (pe_fld (pv 1) rfl) (nomark _))
      (pe_one (pe_cmpR op_eq (pe_fld (pv 0) rfl) (pe_fld (pv 1) rfl) (nomark _)))))))))), ?_⟩
    refine ⟨_, rfl, ?_⟩
    rcases h with ⟨dx, dy, t1, t2, t3, s1, s2, s3, nm, nm', b, b', vars, vars', cs, cs', g, g', hx, hy, ty, r, r', h3, h3', sg, sg', q⟩ | ⟨D, ty, kf, q⟩
    · refine ⟨_, _, _, _, _, rfl, .own B, ty, kk, true, rfl, ?_⟩
      refine iteT ?_
      refine ⟨_, rfl, x, B, dx, _, _, rfl, hx, TB.cl, TB.nn, rulF_name _ _ _ _ _, _, rfl, y, B, dy, _, _, rfl, hy, TB.cl, TB.nn, rulF_name _ _ _ _ _, rfl, _, rfl, ?_⟩
      unfold sameR at q
      refine ite2 (fun c => ?_) (fun c => ?_)
      rotate_left
      · have e : ¬ nm = nm' := fun e => c (by rw [e]; exact decide_eq_true rfl)
        rw [decide_eq_false e, Bool.false_and] at q
        exact q
      have e1 : nm = nm' := V.str.inj (of_decide_eq_true c)
      rw [decide_eq_true e1, Bool.true_and] at q
      refine ⟨_, rfl, x, B, dx, _, _, rfl, hx, TB.cl, TB.nv, rulF_vars _ _ _ _ _, _, rfl, y, B, dy, _, _, rfl, hy, TB.cl, TB.nv, rulF_vars _ _ _ _ _, _, _, r.d1, r'.d1, r.s1, r'.s1, _, rfl, ?_⟩
      refine ite2 (fun c => ?_) (fun c => ?_)
      rotate_left
      · rw [Bool.eq_false_iff.mpr c, Bool.false_and] at q
        exact q
      rw [c, Bool.true_and] at q
      refine ⟨_, rfl, x, B, dx, _, _, rfl, hx, TB.cl, TB.nc, rulF_cond _ _ _ _ _, _, rfl, y, B, dy, _, _, rfl, hy, TB.cl, TB.nc, rulF_cond _ _ _ _ _, _, _, r.d2, r'.d2, r.s2, r'.s2, _, rfl, ?_⟩
      refine ite2 (fun c => ?_) (fun c => ?_)
      rotate_left
      · rw [Bool.eq_false_iff.mpr c, Bool.false_and] at q
        exact q
      rw [c, Bool.true_and] at q
      refine ⟨_, rfl, x, B, dx, _, _, rfl, hx, TB.cl, TB.ng, rulF_gives _ _ _ _ _, _, rfl, y, B, dy, _, _, rfl, hy, TB.cl, TB.ng, rulF_gives _ _ _ _ _, _, _, .tup h3 (dp_tri g), .tup h3' (dp_tri g'), sg, sg', _, rfl, ?_⟩
      refine ite2 (fun c => ?_) (fun c => ?_)
      rotate_left
      · rw [Bool.eq_false_iff.mpr c, Bool.false_and] at q
        exact q
      rw [c, Bool.true_and] at q
      refine ⟨_, rfl, x, B, dx, _, _, rfl, hx, TB.cl, TB.nb, rulF_by _ _ _ _ _, _, rfl, y, B, dy, _, _, rfl, hy, TB.cl, TB.nb, rulF_by _ _ _ _ _, rfl, ?_⟩
      have eb : decide (V.str b = V.str b') = decide (b = b') := decide_eq_decide.mpr ⟨V.str.inj, fun e => by rw [e]⟩
      rw [eb]
      exact q
    · refine ⟨_, _, _, _, _, rfl, .own B, ty, kf, false, rfl, ?_⟩
      exact iteF q
end
end Wm
/-! names as the laws draw them: texts of at most six signs -/
namespace Wm
open PySem L2
def lowC (c : Nat) : Prop := 97 ≤ c ∧ c ≤ 122
def figC (c : Nat) : Prop := 48 ≤ c ∧ c ≤ 57
/-- a text of small letters and figures, the first a letter -/
def NmP (z : Str) : Prop := ∃ c cs, z.cps.toList = c :: cs ∧ lowC c ∧ ∀ d ∈ cs, lowC d ∨ figC d
theorem toList_app (a b : Str) : (a ++ b).cps.toList = a.cps.toList ++ b.cps.toList := by
  show (a.cps ++ b.cps).toList = _
  simp
theorem NmP.app {a b : Str} (h : NmP a) (hb : ∀ d ∈ b.cps.toList, lowC d ∨ figC d) : NmP (a ++ b) := by
  obtain ⟨c, cs, e, l, r⟩ := h
  refine ⟨c, cs ++ b.cps.toList, by rw [toList_app, e]; rfl, l, fun d hd => ?_⟩
  rcases List.mem_append.mp hd with h | h
  · exact r d h
  · exact hb d h
theorem NmP.one {c : Nat} (h : lowC c) : NmP ⟨#[c]⟩ := ⟨c, [], rfl, h, fun _ z => nomatch z⟩
theorem NmP.ok {z : Str} (h : NmP z) : ∀ c ∈ z.cps.toList, c < 1114112 := by
  obtain ⟨c, cs, e, l, r⟩ := h
  intro d hd
  rw [e] at hd
  rcases List.mem_cons.mp hd with h | h
  · rw [h]
    exact Nat.lt_of_le_of_lt l.2 (by decide)
  · rcases r d h with q | q
    · exact Nat.lt_of_le_of_lt q.2 (by decide)
    · exact Nat.lt_of_le_of_lt q.2 (by decide)
def ABC36 : Str := PySem.Str.ofString "abcdefghijklmnopqrstuvwxyz0123456789"
theorem abc36_len : ABC36.length = 36 := by decide +kernel
theorem abc_low {i : Nat} {c : Nat} (hi : i < 26) (h : ABC36.cps.toList[i]? = some c) : lowC c := by
  have q : ∀ j : Fin 26, ∀ d ∈ ABC36.cps.toList[j.1]?, 97 ≤ d ∧ d ≤ 122 := by decide +kernel
  exact q ⟨i, hi⟩ c (by rw [h]; exact rfl)
theorem abc_any {i : Nat} {c : Nat} (h : ABC36.cps.toList[i]? = some c) : lowC c ∨ figC c := by
  have q : ∀ d ∈ ABC36.cps.toList, (97 ≤ d ∧ d ≤ 122) ∨ (48 ≤ d ∧ d ≤ 57) := by decide +kernel
  exact q c (List.mem_of_getElem? h)
/-- the text of a number -/
def numS (n : Nat) : Str := PySem.Str.ofString (toString (n : Int))
def numB (n : Nat) : Bool := (numS n).cps.toList.all (fun d => decide (48 ≤ d ∧ d ≤ 57)) && (decide ((numS n).length ≤ 2) && decide (1 ≤ (numS n).length))
theorem num_all : ∀ n : Fin 70, numB n.1 = true := by decide +kernel
theorem num_inj0 : ∀ n m : Fin 70, (numS n.1).cps.toList = (numS m.1).cps.toList → n = m := by decide +kernel
theorem num_sign {n : Nat} (h : n < 70) : (∀ d ∈ (numS n).cps.toList, lowC d ∨ figC d) ∧ (numS n).length ≤ 2 ∧ 1 ≤ (numS n).length := by
  obtain ⟨a, b⟩ := Bool.and_eq_true_iff.mp (num_all ⟨n, h⟩)
  obtain ⟨b, c⟩ := Bool.and_eq_true_iff.mp b
  refine ⟨fun d hd => .inr ?_, of_decide_eq_true b, of_decide_eq_true c⟩
  have q := List.all_eq_true.mp a d hd
  exact of_decide_eq_true (p := 48 ≤ d ∧ d ≤ 57) q
theorem num_inj {n m : Nat} (hn : n < 70) (hm : m < 70) (h : numS n = numS m) : n = m := congrArg Fin.val (num_inj0 ⟨n, hn⟩ ⟨m, hm⟩ (by rw [h]))
/-- the tries for a name: the word, then the word with 1, 2 .. -/
def tryS (z : Str) : Nat → Str
  | 0 => z
  | n + 1 => z ++ numS (n + 1)
theorem app_inj {a b c : Str} (h : a ++ b = a ++ c) : b = c := by
  have e := congrArg (fun z : Str => z.cps.toList) h
  simp only [toList_app] at e
  have q := List.append_cancel_left e
  cases b; cases c
  simp only at q
  congr
  exact Array.toList_inj.mp q
theorem try_inj {z : Str} {n m : Nat} (hn : n < 70) (hm : m < 70) (h : tryS z n = tryS z m) : n = m := by
  have key : ∀ k, k + 1 < 70 → z ≠ z ++ numS (k + 1) := fun k hk e => by
    have l := congrArg (fun z : Str => z.cps.toList.length) e
    simp only [toList_app, List.length_append] at l
    have q := (num_sign hk).2.2
    have q' : 1 ≤ (numS (k + 1)).cps.toList.length := by simpa [PySem.Str.length] using q
    omega
  cases n with
  | zero =>
    cases m with
    | zero => rfl
    | succ m => exact (key m hm h).elim
  | succ n =>
    cases m with
    | zero => exact (key n hn h.symm).elim
    | succ m => exact num_inj hn hm (app_inj h)
theorem holes {α : Type} [BEq α] [LawfulBEq α] {f : Nat → α} : ∀ {n : Nat} {l : List α}, (∀ i j, i < n → j < n → f i = f j → i = j) → (∀ i, i < n → f i ∈ l) → n ≤ l.length
  | 0, _, _, _ => Nat.zero_le _
  | n + 1, l, inj, h => by
    have hm := h n (Nat.lt_succ_self n)
    have q := holes (n := n) (l := l.erase (f n)) (fun i j hi hj => inj i j (by omega) (by omega)) (fun i hi => by
      refine (List.mem_erase_of_ne fun e => ?_).mpr (h i (by omega))
      have := inj i n (by omega) (by omega) e
      omega)
    rw [List.length_erase_of_mem hm] at q
    have := List.length_pos_of_mem hm
    omega
theorem try_end {z : Str} {taken : List Str} {n : Nat} (ht : taken.length ≤ 60) (h : ∀ i, i < n → tryS z i ∈ taken) (hn : n ≤ 61) : n ≤ taken.length :=
  holes (f := tryS z) (fun i j hi hj e => try_inj (by omega) (by omega) e) h
theorem inV_strs {z : Str} {ns : List Str} : inV (.str z) (ns.map V.str) = decide (z ∈ ns) := by
  unfold inV
  rw [List.any_map]
  induction ns with
  | nil => simp
  | cons a r ih =>
    rw [List.any_cons, ih]
    have e : eqV (.str a) (.str z) = decide (a = z) := by
      unfold eqV
      by_cases h : a = z
      · simp [h]
      · simp [h]
    show (eqV (.str a) (.str z) || _) = _
    rw [e]
    by_cases h : a = z
    · simp [h]
    · have h' : ¬ z = a := fun x => h x.symm
      simp [h, h']
end Wm
namespace Wm
open PySem L2
theorem StOk.upd {p d : Addr} {H : Hp} {o : HO} (n : d ≠ p) (h : StOk H p) : StOk (L2.upd H d o) p := by
  obtain ⟨a, b, c, e, r⟩ := h
  exact ⟨a, b, c, by rw [upd_ne n.symm]; exact e, r⟩
theorem StOk.same {p : Addr} {H H' : Hp} (e : Same H H') (h : StOk H p) : StOk H' p := by
  obtain ⟨a, b, c, q, r⟩ := h
  exact ⟨a, b, c, e _ _ q, r⟩
theorem st_free {p d : Addr} {H : Hp} (h : StOk H p) (n : H d = none) : d ≠ p := by
  obtain ⟨a, b, c, e, _⟩ := h
  exact fun z => by
    rw [z, e] at n
    cases n
theorem but_new {p d : Addr} {H H1 : Hp} {o : HO} (b : But p H H1) (n : d ≠ p) (h0 : H d = none) : But p H (L2.upd H1 d o) := fun q u nq e => by
  rw [upd_ne (ne_of_none e h0)]
  exact b q u nq e
theorem flats (ns : List Str) : (ns.map V.str).all flatV = true := by
  induction ns with
  | nil => rfl
  | cons a r ih => rw [List.map_cons, List.all_cons, ih]; rfl
def spNam : Sp := fun vs H Q _ => ∃ (p ln : Addr) (taken : List Str), vs = [.ref p, .ref ln] ∧ StOk H p ∧ ln ≠ p ∧ H ln = some (.lst (taken.map V.str)) ∧ taken.length ≤ 60 ∧
  ∀ (z : Str) H', NmP z → z.length ≤ 6 → z ∉ taken → But p H H' → StOk H' p → Q (.str z) H'
def spNms : Sp := fun vs H Q _ => ∃ (p : Addr) (n : Int), vs = [.ref p, .int n] ∧ StOk H p ∧ 0 ≤ n ∧ n ≤ 60 ∧
  ∀ (zs : List Str) d H', H d = none → d ≠ p → But p H H' → StOk H' p → H' d = some (.lst (zs.map V.str)) → zs.length = n.toNat → zs.Nodup → (∀ z ∈ zs, NmP z ∧ z.length ≤ 6) → Q (.ref d) H'
/-- how many tries are left -/
def mu7 (σ : L2.St) : Nat := match (σ[7]? : Option (Option V)) with
  | some (some (V.int n)) => 100 - n.toNat
  | _ => 0
theorem log_small {n : Nat} (h : n ≤ 100) : ((n : Int) + 1).natAbs.log2 < 1920 := by
  have e : ((n : Int) + 1).natAbs = n + 1 := by omega
  rw [e]
  have q : (n + 1).log2 ≤ n + 1 := Nat.log2_le_self _
  omega
theorem try_nm {z : Str} (h : NmP z) (hl : z.length ≤ 4) {n : Nat} (hn : n ≤ 60) : NmP (tryS z n) ∧ (tryS z n).length ≤ 6 := by
  cases n with
  | zero => exact ⟨h, by show z.length ≤ 6; omega⟩
  | succ n =>
    have q := num_sign (n := n + 1) (by omega)
    refine ⟨h.app q.1, ?_⟩
    show (z ++ numS (n + 1)).length ≤ 6
    rw [len_app]
    omega
section
variable {P : Program} {w : World} {K : PySem.W.Frag} {mg : Str → Option Value} {base : Heap}
theorem scNam : FnScope ["_law_s", "_law_taken", "_law_some", "_law_kind", "_law_word", "_law_k", "_law_found", "_law_n"] ["_law_s", "_law_taken"] (defScope sNam) := ⟨rfl, rfl, rfl, by decide +kernel, rfl, by decide +kernel, by decide +kernel⟩
theorem ok_nam {f fg : Addr} {fd fdg : FuncData} (F : Fun K "_law_name" "_law_name" sNam f fd) (T : TxB mg) (tstr : mg "str" = none) (D : Dn K mg "_law_digit" sDigit ["_law_state_here", "_law_base"] fg fdg) : FnOk P w K mg base CX0 2 f fd ["_law_s", "_law_taken"] spNam := by
  have G : FnOk P w K mg base CX0 1 fg fdg ["_law_state_here", "_law_base"] spDigit := ok_digit D.F
  refine F.ok scNam (fun vs H Q E h => ?_) (fun cdv A outer s H vs Q E hr h => ?_)
  · obtain ⟨p, ln, tk, rfl, _⟩ := h
    rfl
  · obtain ⟨p, ln, taken, rfl, hS, nlp, hT, hl, k⟩ := h
    refine ⟨_, (pss_cons (ps_set (i := 2) scNam.nd rfl (Or.inl rfl) pe_str)
      (pss_cons (ps_set (i := 3) scNam.nd rfl (Or.inl rfl) (pe_call G hr rfl D.g D.F.kp D.b .nil pass0 (pa_cons (pv 0) (pa_cons pe_int pa_nil))))
      (pss_cons (ps_set (i := 4) scNam.nd rfl (Or.inl rfl) (pe_ix ix_str (pv 2) (pe_call G hr rfl D.g D.F.kp D.b .nil pass0 (pa_cons (pv 0) (pa_cons pe_int pa_nil))) (fun _ _ => rfl)))
      (pss_cons (ps_for PassesOwn.never rfl (pi_range1 rfl T.range (pa_cons (pe_call G hr rfl D.g D.F.kp D.b .nil pass0 (pa_cons (pv 0) (pa_cons pe_int pa_nil))) pa_nil)) (pg_name (i := 5) scNam.nd rfl (Or.inl rfl)) (pss_one (ps_set (i := 4) scNam.nd rfl (Or.inl rfl) (pe_op op_add_str (pv 4) (pe_ix ix_str (pv 2) (pe_call G hr rfl D.g D.F.kp D.b .nil pass0 (pa_cons (pv 0) (pa_cons pe_int pa_nil))) (fun _ _ => rfl))))))
      (pss_cons (ps_if (pt_cmpR op_eq (pv 3) pe_int (nomark _)) (pss_one (ps_set (i := 4) scNam.nd rfl (Or.inl rfl) (pe_ix ix_list (pe_lst (pa_cons pe_str (pa_cons pe_str (pa_cons pe_str (pa_cons pe_str pa_nil))))) (pe_call G hr rfl D.g D.F.kp D.b .nil pass0 (pa_cons (pv 0) (pa_cons pe_int pa_nil))) (fun _ _ => rfl)))) pss_nil)
      (pss_cons (ps_set (i := 6) scNam.nd rfl (Or.inl rfl) (pv 4))
      (pss_cons (ps_set (i := 7) scNam.nd rfl (Or.inl rfl) pe_int)
      (pss_cons (ps_while PassesOwn.never (pt_cmpR op_in_seq (pv 6) (pv 1) (by rfl)) (pss_cons (ps_set (i := 7) scNam.nd rfl (Or.inl rfl) (pe_op op_add (pv 7) pe_int))
      (pss_one (ps_set (i := 6) scNam.nd rfl (Or.inl rfl) (pe_op op_add_str (pv 4) (pe_callTy call_str_int (by rfl) tstr (by decide +kernel) (pa_cons (pv 7) pa_nil)))))))
      (pss_one (ps_ret (pv 6))))))))))), ?_⟩
    refine ⟨_, rfl, p, _, rfl, hS, by decide, by decide, fun d1 H1 a1 b1 B1 S1 => ?_⟩
    refine ⟨_, rfl, _, rfl, p, _, rfl, S1, by decide, by decide, fun d2 H2 a2 b2 B2 S2 => ?_⟩
    refine rdItem abc36_len a2 (by omega) (by decide) fun c hc => ?_
    have hc' : lowC c := abc_low (by omega) hc
    refine ⟨_, rfl, p, _, rfl, S2, by decide, by decide, fun d3 H3 a3 b3 B3 S3 => ?_⟩
    refine ⟨d3, rfl, by omega, by omega, ?_⟩
    refine for_range (n := d3.toNat) (fun i σ H' => ∃ (z : Str) (v : Option V), σ = [some (.ref p), some (.ref ln), some (.str ABC36), some (.int d1), some (.str z), v, none, none] ∧ z.length ≤ i + 1 ∧ NmP z ∧ But p H H' ∧ StOk H' p)
      ⟨⟨#[c]⟩, none, rfl, Nat.le_refl _, NmP.one hc', (B1.trans B2).trans B3, S3⟩ ?_ ?_
    · rintro i σ H' hi ⟨z, v, rfl, hz, hp, B, S⟩
      refine ⟨_, rfl, _, rfl, _, rfl, p, _, rfl, S, by decide, by decide, fun d5 H5 a5 b5 B5 S5 => ?_⟩
      refine rdItem abc36_len a5 (by omega) (by decide) fun c hc => ?_
      refine ⟨_, _, rfl, rfl, ?_, ?_⟩
      · rw [len_one]
        exact Nat.le_trans (show z.length + 1 ≤ 100 by omega) (by decide)
      · refine ⟨_, _, rfl, ?_, hp.app (fun d hd => ?_), B.trans B5, S5⟩
        · rw [len_app, len_one]
          omega
        · have e : d = c := by simpa using hd
          rw [e]
          exact abc_any hc
    · rintro σ H4 ⟨z, v, rfl, hz, hp, B, S⟩
      refine ⟨_, rfl, rfl, _, rfl, ?_⟩
      refine ite2 (fun _ => ?_) (fun _ => ?_)
      · refine ⟨by show 4 ≤ sizeLine; decide, fun l nl => ?_⟩
        have nlq := st_free S nl
        refine ⟨_, rfl, p, _, rfl, S.upd nlq, by decide, by decide, fun d6 H6 a6 b6 B6 S6 => ?_⟩
        have hq : ∀ z ∈ (["m1", "m2", "m3", "m10"] : List Str), (∃ c cs, z.cps.toList = c :: cs ∧ (97 ≤ c ∧ c ≤ 122) ∧ ∀ d ∈ cs, (97 ≤ d ∧ d ≤ 122) ∨ (48 ≤ d ∧ d ≤ 57)) ∧ z.length ≤ 4 := by
          intro z hz
          rcases List.mem_cons.mp hz with e | hz
          · rw [e]; exact ⟨⟨109, [49], by decide +kernel, by decide, by decide⟩, by decide +kernel⟩
          rcases List.mem_cons.mp hz with e | hz
          · rw [e]; exact ⟨⟨109, [50], by decide +kernel, by decide, by decide⟩, by decide +kernel⟩
          rcases List.mem_cons.mp hz with e | hz
          · rw [e]; exact ⟨⟨109, [51], by decide +kernel, by decide, by decide⟩, by decide +kernel⟩
          rcases List.mem_cons.mp hz with e | hz
          · rw [e]; exact ⟨⟨109, [49, 48], by decide +kernel, by decide, by decide⟩, by decide +kernel⟩
          cases hz
        have hj : d6.toNat < (["m1", "m2", "m3", "m10"] : List Str).length := by show _ < 4; omega
        refine rdList (B6 l _ nlq upd_same) (j := d6.toNat) (v := .str ((["m1", "m2", "m3", "m10"] : List Str)[d6.toNat])) (by omega) ?_ ?_
        · have e : ((["m1", "m2", "m3", "m10"] : List Str).map V.str)[d6.toNat]? = some (.str ((["m1", "m2", "m3", "m10"] : List Str)[d6.toNat])) := by
            rw [List.getElem?_map, List.getElem?_eq_getElem hj]
            rfl
          exact e
        · have hh := hq _ (List.getElem_mem hj)
          generalize (["m1", "m2", "m3", "m10"] : List Str)[d6.toNat] = zz at hh
          have hzz : NmP zz := hh.1
          have hzl : zz.length ≤ 4 := hh.2
          have BB : But p H H6 := (but_new B nlq ((B.free nlq nl))).trans B6
          have SS : StOk H6 p := S6
          clear hh hq hj B6 S6 B S hz hp nl
          revert zz
          intro zz hzz hzl
          refine ⟨_, rfl, ?_⟩
          have hTT : H6 ln = some (.lst (taken.map V.str)) := BB ln _ nlp hT
          refine while_by (fun σ H' => H' = H6 ∧ ∃ n : Nat, σ = [some (.ref p), some (.ref ln), some (.str ABC36), some (.int d1), some (.str zz), v, some (.str (tryS zz n)), some (.int (n : Int))] ∧ n ≤ 60 ∧ ∀ i, i < n → tryS zz i ∈ taken) (fun σ _ => mu7 σ)
            ⟨rfl, 0, rfl, Nat.zero_le _, fun i hi => absurd hi (Nat.not_lt_zero i)⟩ ?_ ?_
          · rintro σ H' ⟨rfl, n, rfl, hn, hall⟩
            refine ⟨_, rfl, _, rfl, ln, _, rfl, .inl (SqL.of hTT), rfl, flats taken, _, rfl, ?_⟩
            show if inV (.str (tryS zz n)) (taken.map V.str) = true then _ else _
            rw [inV_strs]
            by_cases hm : tryS zz n ∈ taken
            · rw [decide_eq_true hm]
              refine iteT ?_
              have hall' : ∀ i, i < n + 1 → tryS zz i ∈ taken := fun i hi => by
                by_cases e : i = n
                · rw [e]
                  exact hm
                · exact hall i (by omega)
              have hle := try_end hl hall' (by omega)
              refine ⟨_, rfl, _, _, rfl, rfl, ?_⟩
              refine ⟨_, rfl, _, rfl, _, rfl, log_small (by omega), _, _, rfl, rfl, ?_, ?_⟩
              · have q := num_sign (n := n + 1) (by omega)
                exact Nat.le_trans (show zz.length + (numS (n + 1)).length ≤ 100 by omega) (by decide)
              · refine ⟨⟨rfl, n + 1, rfl, by omega, hall'⟩, ?_⟩
                show 100 - ((n : Int) + 1).toNat < 100 - (n : Int).toNat
                omega
            · rw [decide_eq_false hm]
              refine iteF ?_
              exact ⟨_, rfl, k _ _ (try_nm hzz hzl hn).1 (try_nm hzz hzl hn).2 hm BB SS⟩
          · intro σ H' Q1 Q2 f h
            obtain ⟨x, e1, y, e2, p', xs, e3, a, b, c, bb, e4, q⟩ := h
            exact ⟨x, e1, y, e2, p', xs, e3, a, b, c, bb, e4, f _ _ q⟩
      · have hzz : NmP z := hp
        have hzl : z.length ≤ 4 := by omega
        have BB : But p H H4 := B
        have SS : StOk H4 p := S
        refine ⟨_, rfl, ?_⟩
        have hTT : H4 ln = some (.lst (taken.map V.str)) := BB ln _ nlp hT
        refine while_by (fun σ H' => H' = H4 ∧ ∃ n : Nat, σ = [some (.ref p), some (.ref ln), some (.str ABC36), some (.int d1), some (.str z), v, some (.str (tryS z n)), some (.int (n : Int))] ∧ n ≤ 60 ∧ ∀ i, i < n → tryS z i ∈ taken) (fun σ _ => mu7 σ)
          ⟨rfl, 0, rfl, Nat.zero_le _, fun i hi => absurd hi (Nat.not_lt_zero i)⟩ ?_ ?_
        · rintro σ H' ⟨rfl, n, rfl, hn, hall⟩
          refine ⟨_, rfl, _, rfl, ln, _, rfl, .inl (SqL.of hTT), rfl, flats taken, _, rfl, ?_⟩
          show if inV (.str (tryS z n)) (taken.map V.str) = true then _ else _
          rw [inV_strs]
          by_cases hm : tryS z n ∈ taken
          · rw [decide_eq_true hm]
            refine iteT ?_
            have hall' : ∀ i, i < n + 1 → tryS z i ∈ taken := fun i hi => by
              by_cases e : i = n
              · rw [e]
                exact hm
              · exact hall i (by omega)
            have hle := try_end hl hall' (by omega)
            refine ⟨_, rfl, _, _, rfl, rfl, ?_⟩
            refine ⟨_, rfl, _, rfl, _, rfl, log_small (by omega), _, _, rfl, rfl, ?_, ?_⟩
            · have q := num_sign (n := n + 1) (by omega)
              exact Nat.le_trans (show z.length + (numS (n + 1)).length ≤ 100 by omega) (by decide)
            · refine ⟨⟨rfl, n + 1, rfl, by omega, hall'⟩, ?_⟩
              show 100 - ((n : Int) + 1).toNat < 100 - (n : Int).toNat
              omega
          · rw [decide_eq_false hm]
            refine iteF ?_
            exact ⟨_, rfl, k _ _ (try_nm hzz hzl hn).1 (try_nm hzz hzl hn).2 hm BB SS⟩
        · intro σ H' Q1 Q2 f h
          obtain ⟨x, e1, y, e2, p', xs, e3, a, b, c, bb, e4, q⟩ := h
          exact ⟨x, e1, y, e2, p', xs, e3, a, b, c, bb, e4, f _ _ q⟩
theorem scNms : FnScope ["_law_s", "_law_many", "_law_found", "_law_k"] ["_law_s", "_law_many"] (defScope sNms) := ⟨rfl, rfl, rfl, by decide +kernel, rfl, by decide +kernel, by decide +kernel⟩
theorem ok_nms {f fL : Addr} {fd dL : FuncData} (F : Fun K "_law_names" "_law_names" sNms f fd) (T : TxB mg) (D : Dn K mg "_law_name" sNam ["_law_s", "_law_taken"] fL dL) (G : FnOk P w K mg base CX0 2 fL dL ["_law_s", "_law_taken"] spNam) : FnOk P w K mg base CX0 3 f fd ["_law_s", "_law_many"] spNms := by
  refine F.ok scNms (fun vs H Q E h => ?_) (fun cdv A outer s H vs Q E hr h => ?_)
  · obtain ⟨p, n, rfl, _⟩ := h
    rfl
  · obtain ⟨p, n, rfl, hS, n0, n6, k⟩ := h
    refine ⟨_, (pss_cons (ps_set (i := 2) scNms.nd rfl (Or.inl rfl) (pe_lst pa_nil))
      (pss_cons (ps_for PassesOwn.never rfl (pi_range1 rfl T.range (pa_cons (pv 1) pa_nil)) (pg_name (i := 3) scNms.nd rfl (Or.inl rfl)) (pss_one (ps_expr (pe_bm PySem.F.plainAttrs_list PySem.F.slot_list_append PySem.F.type_list_append mt_append (pv 2) (pa_cons (pe_call G hr rfl D.g D.F.kp D.b .nil pass0 (pa_cons (pv 0) (pa_cons (pv 2) pa_nil))) pa_nil)))))
      (pss_one (ps_ret (pv 2))))), ?_⟩
    refine ⟨Nat.zero_le _, fun d hd => ?_⟩
    have ndp := st_free hS hd
    refine ⟨_, rfl, n, rfl, by omega, by omega, ?_⟩
    refine for_range (n := n.toNat) (fun i σ H' => (∃ u, σ = [some (.ref p), some (.int n), some (.ref d), u]) ∧ ∃ zs : List Str, H' d = some (.lst (zs.map V.str)) ∧ zs.Nodup ∧ (∀ z ∈ zs, NmP z ∧ z.length ≤ 6) ∧ zs.length = i ∧ But p H H' ∧ StOk H' p)
      ⟨⟨none, rfl⟩, [], upd_same, List.nodup_nil, fun z hz => (List.not_mem_nil hz).elim, rfl, but_new (But.refl p H) ndp hd, hS.upd ndp⟩ ?_ ?_
    · rintro i σ H1 hi ⟨⟨u, rfl⟩, zs, hl, nd, nm, len, B, S⟩
      refine ⟨_, rfl, .inl ⟨rfl, _, SqL.of hl⟩, _, rfl, _, rfl, p, d, zs, rfl, S, ndp, hl, by omega, fun z H2 hz hz6 hm B2 S2 => ?_⟩
      have hl2 := B2 d _ ndp hl
      refine ⟨d, _, _, rfl, rfl, hl2, ?_, ?_⟩
      · rw [List.length_map]
        exact Nat.lt_of_le_of_lt (show _ ≤ 1000 by omega) (by decide)
      · refine ⟨⟨_, rfl⟩, zs ++ [z], ?_, ?_, ?_, ?_, but_new (B.trans B2) ndp hd, S2.upd ndp⟩
        · rw [upd_same, List.map_append]
          rfl
        · rw [List.nodup_append]
          exact ⟨nd, (by simp : [z].Nodup), fun a ha b hb e => by
            have eb : b = z := by simpa using hb
            rw [e, eb] at ha
            exact hm ha⟩
        · intro y hy
          rcases List.mem_append.mp hy with hy | hy
          · exact nm y hy
          · rw [List.mem_singleton.mp hy]
            exact ⟨hz, hz6⟩
        · rw [List.length_append, List.length_singleton]
          omega
    · rintro σ H1 ⟨⟨u, rfl⟩, zs, hl, nd, nm, len, B, S⟩
      exact ⟨_, rfl, k zs d H1 hd ndp B S hl len nd nm⟩
end
end Wm
namespace Wm
open PySem L2 StX
def makF (mk md : Str) (t1 t2 : Addr) : List (Str × V) := putF "up" (.ref t2) (putF "down" (.ref t1) (putF "made" (.str md) (putF "maker" (.str mk) [])))
theorem nm1 : ¬ (("maker" : Str) = "up") := by decide +kernel
theorem nm2 : ¬ (("maker" : Str) = "down") := by decide +kernel
theorem nm3 : ¬ (("maker" : Str) = "made") := by decide +kernel
theorem nm4 : ¬ (("made" : Str) = "up") := by decide +kernel
theorem nm5 : ¬ (("made" : Str) = "down") := by decide +kernel
theorem nm6 : ¬ (("down" : Str) = "up") := by decide +kernel
theorem makF_maker (mk md : Str) (t1 t2 : Addr) : (makF mk md t1 t2).lookup ("maker" : Str) = some (.str mk) := by
  unfold makF
  rw [lookup_putF, if_neg nm1, lookup_putF, if_neg nm2, lookup_putF, if_neg nm3, lookup_putF, if_pos rfl]
theorem makF_made (mk md : Str) (t1 t2 : Addr) : (makF mk md t1 t2).lookup ("made" : Str) = some (.str md) := by
  unfold makF
  rw [lookup_putF, if_neg nm4, lookup_putF, if_neg nm5, lookup_putF, if_pos rfl]
theorem makF_down (mk md : Str) (t1 t2 : Addr) : (makF mk md t1 t2).lookup ("down" : Str) = some (.ref t1) := by
  unfold makF
  rw [lookup_putF, if_neg nm6, lookup_putF, if_pos rfl]
theorem makF_up (mk md : Str) (t1 t2 : Addr) : (makF mk md t1 t2).lookup ("up" : Str) = some (.ref t2) := by
  unfold makF
  rw [lookup_putF, if_pos rfl]
structure TxMak (K : PySem.W.Frag) (mg : Str → Option Value) (B fB : Addr) : Prop where
  cl : Cls K B
  nk : NoAttr K B "maker"
  nd : NoAttr K B "made"
  nw : NoAttr K B "down"
  nu : NoAttr K B "up"
  g : mg "Making" = some (.ref B)
  m : Mk K B fB
def spMak (K : PySem.W.Frag) (C B : Addr) : Sp := fun vs H Q E => ∃ (H0 : Hp) (x dx l1 l2 : Addr) (mk md : Str) (ds us : List Str), vs = [.ref x, .str mk, .str md, .ref l1, .ref l2] ∧ Same H0 H ∧ H0 x = none ∧ H x = some (.ins B dx []) ∧
  SqL K H0 l1 (ds.map V.str) ∧ SqL K H0 l2 (us.map V.str) ∧ ds.length ≤ 100 ∧ us.length ≤ 100 ∧ NoTw (ds.map V.str) ∧ NoTw (us.map V.str) ∧ (∀ z ∈ mk :: md :: (ds ++ us), z.length ≤ 1000) ∧
  DueM C (mk :: md :: (ds ++ us)) H0 (fun H' => ∀ t1 t2, H' x = some (.ins B dx (makF mk md t1 t2)) → H' t1 = some (.tup (ds.map V.str)) → H' t2 = some (.tup (us.map V.str)) → Q .non H') E
section
variable {P : Program} {w : World} {K : PySem.W.Frag} {mg : Str → Option Value} {base : Heap}
theorem scMak : FnScope ["self", "maker", "made", "down", "up"] ["self", "maker", "made", "down", "up"] (defScope sMak) := ⟨rfl, rfl, rfl, by decide +kernel, rfl, by decide +kernel, by decide +kernel⟩
theorem ok_mak {f fRN fRT C B : Addr} {fd dRN dRT : FuncData} (F : Fun K "__init__" "Making.__init__" sMak f fd) (T : TxB mg) (TM : TxMak K mg B f) (RN : Dn K mg "refuse_no_name" sRN ["texts"] fRN dRN) (RT : Dn K mg "refuse_twice" sRT ["names"] fRT dRT)
    (GRN : FnOk P w K mg base (L2.CX P w) 4 fRN dRN ["texts"] (spRN K C)) (GRT : FnOk P w K mg base CX0 2 fRT dRT ["names"] (spFT K)) : FnOk P w K mg base (L2.CX P w) 5 f fd ["self", "maker", "made", "down", "up"] (spMak K C B) := by
  refine F.okX scMak (fun vs H Q E h => ?_) (fun cdv A outer s H vs Q E hr h => ?_)
  · obtain ⟨H0, x, dx, l1, l2, mk, md, ds, us, rfl, _⟩ := h
    rfl
  · obtain ⟨H0, x, dx, l1, l2, mk, md, ds, us, rfl, S0, x0, hx, h1, h2, n1, n2, w1, w2, hz, k⟩ := h
    have hr2 : Room 2 _ := hr.mono (by decide)
    have Sx : ∀ {H1 : Hp} {o : HO}, Same H0 H1 → Same H0 (upd H1 x o) := fun hs b o e => by
      rw [upd_ne (ne_of_none e x0)]
      exact hs b o e
    refine ⟨_, (pss_cons (ps_fld (pv 0) (pv 1) rfl)
      (pss_cons (ps_fld (pv 0) (pv 2) rfl)
      (pss_cons (ps_fld (pv 0) (pe_callTy call_tupN (by rfl) T.tuple (by decide +kernel) (pa_cons (pv 3) pa_nil)) rfl)
      (pss_cons (ps_fld (pv 0) (pe_callTy call_tupN (by rfl) T.tuple (by decide +kernel) (pa_cons (pv 4) pa_nil)) rfl)
      (pss_cons (ps_expr (pe_call GRN hr rfl RN.g RN.F.kp RN.b .nil (passes_call (takes_of rfl rfl rfl rfl) (fun _ _ _ _ h => h)) (pa_cons (pe_lst (pa_cons (pv 1) (pa_cons (pv 2) (pa_star (pe_fld (pv 0) rfl) (pa_star (pe_fld (pv 0) rfl) pa_nil))))) pa_nil)))
      (pss_cons (ps_expr (pe_call GRT hr2 rfl RT.g RT.F.kp RT.b .nil pass0 (pa_cons (pe_fld (pv 0) rfl) pa_nil)))
      (pss_one (ps_expr (pe_call GRT hr2 rfl RT.g RT.F.kp RT.b .nil pass0 (pa_cons (pe_fld (pv 0) rfl) pa_nil)))))))))), ?_⟩
    refine ⟨_, rfl, _, rfl, x, B, dx, [], rfl, hx, TM.cl, TM.nk, (by show 0 < 1000; decide), ?_⟩
    have S1 := Sx (o := .ins B dx (putF "maker" (.str mk) [])) S0
    refine ⟨_, rfl, _, rfl, x, B, dx, _, rfl, upd_same, TM.cl, TM.nd, Nat.lt_of_le_of_lt (putF_len _ _ _) (by decide), ?_⟩
    rw [upd_upd]
    have S2 := Sx (o := .ins B dx (putF "made" (.str md) (putF "maker" (.str mk) []))) S0
    have few2 : (putF "made" (.str md) (putF "maker" (.str mk) [])).length ≤ 10 := Nat.le_trans (putF_len _ _ _) (Nat.le_trans (Nat.succ_le_succ (putF_len _ _ _)) (by decide))
    -- self.down = tuple(down)
    refine ⟨_, rfl, l1, _, rfl, .inl ⟨S2.seq h1, fun t1 ht1 => ?_⟩⟩
    have n1x : t1 ≠ x := fun z => by
      rw [z, upd_same] at ht1
      cases ht1
    refine ⟨_, rfl, x, B, dx, _, rfl, Eq.trans (upd_ne n1x.symm) upd_same, TM.cl, TM.nw, Nat.lt_of_le_of_lt few2 (by decide), ?_⟩
    generalize hH3 : upd (upd (upd H x (.ins B dx (putF "made" (.str md) (putF "maker" (.str mk) [])))) t1 (.tup (ds.map V.str))) x (.ins B dx (putF "down" (.ref t1) (putF "made" (.str md) (putF "maker" (.str mk) [])))) = H3
    have S3 : Same H0 H3 := by
      rw [← hH3]
      exact Sx (S2.trans (Same.upd ht1))
    have hx3 : H3 x = some (.ins B dx (putF "down" (.ref t1) (putF "made" (.str md) (putF "maker" (.str mk) [])))) := by rw [← hH3, upd_same]
    have h13 : H3 t1 = some (.tup (ds.map V.str)) := by rw [← hH3, upd_ne n1x, upd_same]
    -- self.up = tuple(up)
    refine ⟨_, rfl, l2, _, rfl, .inl ⟨S3.seq h2, fun t2 ht2 => ?_⟩⟩
    have n2x : t2 ≠ x := (ne_of_none hx3 ht2).symm
    have n21 : t2 ≠ t1 := (ne_of_none h13 ht2).symm
    refine ⟨_, rfl, x, B, dx, _, rfl, Eq.trans (upd_ne n2x.symm) hx3, TM.cl, TM.nu, Nat.lt_of_le_of_lt (Nat.le_trans (putF_len _ _ _) (Nat.succ_le_succ few2)) (by decide), ?_⟩
    show _
    generalize hH4 : upd (upd H3 t2 (.tup (us.map V.str))) x (.ins B dx (putF "up" (.ref t2) (putF "down" (.ref t1) (putF "made" (.str md) (putF "maker" (.str mk) []))))) = H4
    have S4 : Same H0 H4 := by
      rw [← hH4]
      exact Sx (S3.trans (Same.upd ht2))
    have hx4 : H4 x = some (.ins B dx (makF mk md t1 t2)) := by rw [← hH4, upd_same]; rfl
    have h14 : H4 t1 = some (.tup (ds.map V.str)) := by rw [← hH4, upd_ne n1x, upd_ne n21.symm]; exact h13
    have h24 : H4 t2 = some (.tup (us.map V.str)) := by rw [← hH4, upd_ne n2x, upd_same]
    -- refuse_no_name([maker, made, *self.down, *self.up])
    refine ⟨_, rfl, _, rfl, _, rfl, x, B, dx, _, _, rfl, hx4, TM.cl, TM.nw, makF_down _ _ _ _, t1, _, rfl, .inl (SqT.of h14), _, rfl, x, B, dx, _, _, rfl, hx4, TM.cl, TM.nu, makF_up _ _ _ _, t2, _, rfl, .inl (SqT.of h24), ?_, fun l hl => ?_⟩
    · show (V.str mk :: V.str md :: (ds.map V.str ++ (us.map V.str ++ []))).length ≤ sizeLine
      rw [List.append_nil, List.length_cons, List.length_cons, List.length_append, List.length_map, List.length_map]
      exact Nat.le_trans (show _ ≤ 1000 by omega) (by decide)
    have el : V.str mk :: V.str md :: (ds.map V.str ++ (us.map V.str ++ [])) = (mk :: md :: (ds ++ us)).map V.str := by
      rw [List.append_nil, List.map_cons, List.map_cons, List.map_append]
    have S5 := S4.trans (Same.upd (o := .lst (V.str mk :: V.str md :: (ds.map V.str ++ (us.map V.str ++ [])))) hl)
    refine ⟨l, mk :: md :: (ds ++ us), rfl, SqL.of (by rw [upd_same, ← el]), ?_, hz, ?_⟩
    · rw [List.length_cons, List.length_cons, List.length_append]
      omega
    refine k.toN S5 fun hn H6 hS6 => ?_
    have hx6 := hS6 _ _ (Same.upd (o := .lst (V.str mk :: V.str md :: (ds.map V.str ++ (us.map V.str ++ [])))) hl _ _ hx4)
    have h16 := hS6 _ _ (Same.upd (o := .lst (V.str mk :: V.str md :: (ds.map V.str ++ (us.map V.str ++ [])))) hl _ _ h14)
    have h26 := hS6 _ _ (Same.upd (o := .lst (V.str mk :: V.str md :: (ds.map V.str ++ (us.map V.str ++ [])))) hl _ _ h24)
    refine ⟨_, rfl, x, B, dx, _, _, rfl, hx6, TM.cl, TM.nw, makF_down _ _ _ _, t1, _, rfl, .inr (SqT.of h16), flat_strs _, w1, fun H7 hS7 => ?_⟩
    refine ⟨_, rfl, x, B, dx, _, _, rfl, hS7 _ _ hx6, TM.cl, TM.nu, makF_up _ _ _ _, t2, _, rfl, .inr (SqT.of (hS7 _ _ h26)), flat_strs _, w2, fun H8 hS8 => ?_⟩
    unfold DueM at k
    rw [hn] at k
    exact k H8 (S5.trans (hS6.trans (hS7.trans hS8))) t1 t2 (hS8 _ _ (hS7 _ _ hx6)) (hS8 _ _ (hS7 _ _ h16)) (hS8 _ _ (hS7 _ _ h26))
end
end Wm
namespace Wm
open PySem L2 StX
theorem strOk_of {z : Str} (h : okS z) : PyData.strOk z = true := by
  unfold PyData.strOk
  rw [Array.all_eq_true_iff_forall_mem]
  intro c hc
  exact decide_eq_true (h c (by simpa using hc))
/-! ### rows of objects -/
def AllAt {α : Type} (R : Addr → α → Prop) : List Addr → List α → Prop
  | [], [] => True
  | a :: as, x :: xs => R a x ∧ AllAt R as xs
  | _, _ => False
theorem AllAt.imp {α : Type} {R R' : Addr → α → Prop} (h : ∀ a x, R a x → R' a x) : ∀ {as : List Addr} {xs : List α}, AllAt R as xs → AllAt R' as xs
  | [], [], _ => True.intro
  | _ :: _, _ :: _, q => ⟨h _ _ q.1, AllAt.imp h q.2⟩
  | [], _ :: _, q => q.elim
  | _ :: _, [], q => q.elim
theorem AllAt.len {α : Type} {R : Addr → α → Prop} : ∀ {as : List Addr} {xs : List α}, AllAt R as xs → as.length = xs.length
  | [], [], _ => rfl
  | _ :: _, _ :: _, q => congrArg (· + 1) (AllAt.len q.2)
  | [], _ :: _, q => q.elim
  | _ :: _, [], q => q.elim
theorem AllAt.get {α : Type} {R : Addr → α → Prop} : ∀ {as : List Addr} {xs : List α} {j : Nat} {y : V}, AllAt R as xs → (as.map V.ref)[j]? = some y → ∃ a x, y = .ref a ∧ xs[j]? = some x ∧ R a x
  | a :: as, x :: xs, 0, y, h, e => ⟨a, x, (Option.some.inj e).symm, rfl, h.1⟩
  | a :: as, x :: xs, j + 1, y, h, e => by
    obtain ⟨a', x', p, q, r⟩ := AllAt.get (j := j) h.2 (by simpa using e)
    exact ⟨a', x', p, by simpa using q, r⟩
  | [], _, _, _, _, e => by simp at e
  | _ :: _, [], _, _, h, _ => h.elim
theorem AllAt.append {α : Type} {R : Addr → α → Prop} : ∀ {as bs : List Addr} {xs ys : List α}, AllAt R as xs → AllAt R bs ys → AllAt R (as ++ bs) (xs ++ ys)
  | [], _, [], _, _, q => q
  | _ :: _, _, _ :: _, _, h, q => ⟨h.1, AllAt.append h.2 q⟩
  | [], _, _ :: _, _, h, _ => h.elim
  | _ :: _, _, [], _, h, _ => h.elim
structure MkD where
  mr : Str
  md : Str
  dn : List Str
  up : List Str
structure PtD where
  nm : Str
  vars : List Var
  cs : List Tri
structure RlD where
  p : PtD
  g : Tri
  bh : Str
def MkAt (K : PySem.W.Frag) (B : Addr) (H : Hp) (a : Addr) (m : MkD) : Prop := ∃ d t1 t2, H a = some (.ins B d (makF m.mr m.md t1 t2)) ∧ SqT K H t1 (m.dn.map V.str) ∧ SqT K H t2 (m.up.map V.str)
def BrAt (K : PySem.W.Frag) (B : Addr) (H : Hp) (a : Addr) (b : PtD) : Prop := ∃ d t1 t2 ps qs, H a = some (.ins B d (barF b.nm t1 t2)) ∧ SqT K H t1 (ps.map V.ref) ∧ RowsAt K H ps (b.vars.map varV) ∧ SqT K H t2 (qs.map V.ref) ∧ RowsAt K H qs (b.cs.map triV)
def RlAt (K : PySem.W.Frag) (B : Addr) (H : Hp) (a : Addr) (r : RlD) : Prop := ∃ d t1 t2 t3 ps qs, H a = some (.ins B d (rulF r.p.nm t1 t2 t3 r.bh)) ∧ SqT K H t1 (ps.map V.ref) ∧ RowsAt K H ps (r.p.vars.map varV) ∧ SqT K H t2 (qs.map V.ref) ∧ RowsAt K H qs (r.p.cs.map triV) ∧ SqT K H t3 (triV r.g)
theorem MkAt.same {K : PySem.W.Frag} {B : Addr} {H H' : Hp} {a : Addr} {m : MkD} (s : Same H H') (h : MkAt K B H a m) : MkAt K B H' a m := by
  obtain ⟨d, t1, t2, x, y, z⟩ := h
  exact ⟨d, t1, t2, s _ _ x, same_seqT s y, same_seqT s z⟩
theorem BrAt.same {K : PySem.W.Frag} {B : Addr} {H H' : Hp} {a : Addr} {b : PtD} (s : Same H H') (h : BrAt K B H a b) : BrAt K B H' a b := by
  obtain ⟨d, t1, t2, ps, qs, x, y, z, u, v⟩ := h
  exact ⟨d, t1, t2, ps, qs, s _ _ x, same_seqT s y, z.same s, same_seqT s u, v.same s⟩
theorem RlAt.same {K : PySem.W.Frag} {B : Addr} {H H' : Hp} {a : Addr} {r : RlD} (s : Same H H') (h : RlAt K B H a r) : RlAt K B H' a r := by
  obtain ⟨d, t1, t2, t3, ps, qs, x, y, z, u, v, w⟩ := h
  exact ⟨d, t1, t2, t3, ps, qs, s _ _ x, same_seqT s y, z.same s, same_seqT s u, v.same s, same_seqT s w⟩
/-! ### pairs that do not stand twice -/
def prV (p : Str × Str) : List V := [.str p.1, .str p.2]
def prD (p : Str × Str) : PyData := .tuple [.str p.1, .str p.2]
theorem prD_eqv (a b : Str × Str) : PyData.eqv (prD a) (prD b) = decide (a = b) := by
  obtain ⟨a1, a2⟩ := a
  obtain ⟨b1, b2⟩ := b
  simp only [prD, PyData.eqv, PyData.eqvAll, Prod.mk.injEq]
  by_cases h1 : a1 = b1 <;> by_cases h2 : a2 = b2 <;> simp [h1, h2]
theorem u65 {k : Nat} {A : Around} (r : Room k A) : A.units + 65 < cLine := by
  have := r.un
  omega
theorem prs_dp {K : PySem.W.Frag} {H : Hp} : ∀ {qs : List Addr} {ps : List (Str × Str)}, RowsAt K H qs (ps.map prV) → DpAll K H (qs.map V.ref) (ps.map prD)
  | [], [], _ => .nil
  | _ :: _, _ :: _, h => .cons (.tup h.1 (.cons (.str _) (.cons (.str _) .nil))) (prs_dp h.2)
  | [], _ :: _, h => h.elim
  | _ :: _, [], h => h.elim
theorem prs_sh : ∀ {ps : List (Str × Str)}, (∀ p ∈ ps, okS p.1 ∧ okS p.2) → PyData.canLayAll0 (ps.map prD) = true ∧ PyData.depthAll (ps.map prD) ≤ 2
  | [], _ => by simp [PyData.canLayAll0, PyData.depthAll]
  | p :: r, h => by
    obtain ⟨a, b⟩ := h p List.mem_cons_self
    obtain ⟨h2, h3⟩ := prs_sh (ps := r) fun y hy => h y (List.mem_cons_of_mem _ hy)
    have sa := strOk_of a
    have sb := strOk_of b
    have e : (prD p).canLay0 = true := by simp [prD, PyData.canLay0, PyData.canLayAll0, sa, sb]
    have d : (prD p).depth ≤ 2 := by simp [prD, PyData.depth, PyData.depthAll]
    refine ⟨by simp only [List.map_cons, PyData.canLayAll0, e, h2, Bool.and_self], ?_⟩
    simp only [List.map_cons, PyData.depthAll]
    omega
theorem rows_imp {K : PySem.W.Frag} {H H' : Hp} (s : ∀ {q : Addr} {xs : List V}, SqT K H q xs → SqT K H' q xs) : ∀ {ps : List Addr} {rs : List (List V)}, RowsAt K H ps rs → RowsAt K H' ps rs
  | [], [], _ => True.intro
  | _ :: _, _ :: _, h => ⟨s h.1, rows_imp s h.2⟩
  | [], _ :: _, h => h.elim
  | _ :: _, [], h => h.elim
def spFT2 (K : PySem.W.Frag) : Sp := fun vs H Q _ => ∃ (l : Addr) (qs : List Addr) (ps : List (Str × Str)), vs = [.ref l] ∧ SqL K H l (qs.map V.ref) ∧ RowsAt K H qs (ps.map prV) ∧ ps.Nodup ∧ (∀ p ∈ ps, okS p.1 ∧ okS p.2) ∧ ∀ H', Same H H' → Q .non H'
def spRMT (K : PySem.W.Frag) (B : Addr) : Sp := fun vs H Q _ => ∃ (m : Addr) (as : List Addr) (ms : List MkD), vs = [.ref m] ∧ SqL K H m (as.map V.ref) ∧ AllAt (MkAt K B H) as ms ∧ ms.length ≤ 1000 ∧ (ms.map fun x => (x.mr, x.md)).Nodup ∧ (∀ x ∈ ms, okS x.mr ∧ okS x.md) ∧ ∀ H', Same H H' → Q .non H'
section
variable {P : Program} {w : World} {K : PySem.W.Frag} {mg : Str → Option Value} {base : Heap}
theorem ok_ft2 {f : Addr} {fd : FuncData} (F : Fun K "first_twice" "first_twice" sFT f fd) (T : TxB mg) : FnOk P w K mg base CX0 1 f fd ["row"] (spFT2 K) := by
  refine F.ok scFT (fun vs H Q E h => ?_) (fun cdv A outer s H vs Q E hr h => ?_)
  · obtain ⟨l, qs, ps, rfl, _⟩ := h
    rfl
  · obtain ⟨l, qs, ps, rfl, hl, hq, hnd, hok, k⟩ := h
    refine ⟨_, (pss_cons (ps_for PassesOwn.never rfl (pi_enum rfl T.enumerate (pa_cons (pv 0) pa_nil)) (pg_tup rfl (pgs_cons (pg_name (i := 1) scFT.nd rfl (Or.inl rfl)) (pgs_cons (pg_name (i := 2) scFT.nd rfl (Or.inl rfl)) pgs_nil))) (pss_one (ps_if (pt_cmpR (op_inD (u65 hr)) (pv 2) (pe_slice sl_list (pv 0) po_none (po_some (pv 1))) (by rfl)) (pss_one (ps_ret (pv 1))) pss_nil)))
      (pss_one (ps_ret pe_non))), ?_⟩
    refine ⟨_, rfl, l, _, rfl, hl, for_it walk_enum (fun i σ H' => (∃ u v, σ = [some (.ref l), u, v]) ∧ Same H H') ⟨⟨none, none, rfl⟩, Same.refl H⟩ (fun i σ H' _ p => p.2.seq hl) ?_ ?_⟩
    · rintro i x σ H1 H2 hi ⟨⟨u, v, rfl⟩, hS⟩ ⟨t, y, z, rfl, ht, rfl, e1, e2⟩
      cases e1
      refine ⟨t, _, rfl, SqT.of upd_same, rfl, _, _, rfl, _, _, rfl, rfl, ?_⟩
      have S2 := hS.trans (Same.upd (o := .tup [.int (i : Nat), z]) ht)
      have e2 : (qs.map V.ref)[i]? = some z := e2
      rw [List.getElem?_map] at e2
      obtain ⟨q, hqi, rfl⟩ := Option.map_eq_some_iff.mp e2
      obtain ⟨r, hri, hqt⟩ := hq.get hqi
      rw [List.getElem?_map] at hri
      obtain ⟨p, hpi, rfl⟩ := Option.map_eq_some_iff.mp hri
      refine ⟨_, rfl, _, rfl, _, rfl, _, rfl, l, _, rfl, S2.seq hl, fun c hc => ?_⟩
      rw [show cutV (qs.map V.ref) none (some (i : Int)) = (qs.take i).map V.ref by rw [cut_take, List.map_take]]
      have S3 := S2.trans (Same.upd (o := .lst ((qs.take i).map V.ref)) hc)
      have hrow : RowsAt K (upd (upd H1 t (.tup [.int (i : Nat), .ref q])) c (.lst ((qs.take i).map V.ref))) (qs.take i) ((ps.take i).map prV) := by
        have e := (hq.same S3).take i
        rw [← List.map_take] at e
        exact e
      obtain ⟨l1, l2⟩ := prs_sh (ps := ps.take i) fun p hp => hok p (List.mem_of_mem_take hp)
      have shl : SeqAt.shaped (.list ((ps.take i).map prD)) = true := by
        generalize (ps.take i).map prD = X at l1 l2
        simp [SeqAt.shaped, PyData.canLay0, PyData.depth, l1]
        omega
      have shp : SeqAt.shaped (prD p) = true := by
        obtain ⟨a, b⟩ := hok p (List.mem_of_getElem? hpi)
        have sa := strOk_of a
        have sb := strOk_of b
        simp [prD, SeqAt.shaped, PyData.canLay0, PyData.canLayAll0, PyData.depth, PyData.depthAll, sa, sb]
      refine ⟨prD p, _, .tup (same_seqT S3 hqt) (.cons (.str _) (.cons (.str _) .nil)), .lst (SqL.of upd_same) (prs_dp hrow), shp, shl, _, rfl, ?_⟩
      have no : ((ps.take i).map prD).any (fun z => PyData.eqv z (prD p)) = false := by
        rw [List.any_map, List.any_eq_false]
        intro y hy
        show ¬ PyData.eqv (prD y) (prD p) = true
        rw [prD_eqv]
        intro e
        have e := of_decide_eq_true e
        subst e
        obtain ⟨j, hj⟩ := List.mem_iff_getElem?.mp hy
        have hlt : j < i := by
          have q := (List.getElem?_eq_some_iff.mp hj).1
          rw [List.length_take] at q
          omega
        rw [List.getElem?_take_of_lt hlt] at hj
        have hjl := (List.getElem?_eq_some_iff.mp hj).1
        have hil := (List.getElem?_eq_some_iff.mp hpi).1
        exact (List.pairwise_iff_getElem.mp hnd) j i hjl hil hlt ((List.getElem?_eq_some_iff.mp hj).2.trans (List.getElem?_eq_some_iff.mp hpi).2.symm)
      rw [no]
      exact iteF ⟨⟨_, _, rfl⟩, S3⟩
    · rintro σ H' ⟨_, hS⟩
      exact k H' hS
theorem scRMT : FnScope ["makings", "pairs", "place", "making"] ["makings"] (defScope sRMT) := ⟨rfl, rfl, rfl, by decide +kernel, rfl, by decide +kernel, by decide +kernel⟩
theorem ok_rmt {f fF B fB : Addr} {fd fdF : FuncData} (F : Fun K "refuse_makings_twice" "refuse_makings_twice" sRMT f fd) (T : TxB mg) (TM : TxMak K mg B fB) (D : Dn K mg "first_twice" sFT ["row"] fF fdF) : FnOk P w K mg base CX0 2 f fd ["makings"] (spRMT K B) := by
  have G : FnOk P w K mg base CX0 1 fF fdF ["row"] (spFT2 K) := ok_ft2 D.F T
  refine F.ok scRMT (fun vs H Q E h => ?_) (fun cdv A outer s H vs Q E hr h => ?_)
  · obtain ⟨m, as, ms, rfl, _⟩ := h
    rfl
  · obtain ⟨m, as, ms, rfl, hm, hms, hl, hnd, hok, k⟩ := h
    refine ⟨_, (pss_cons (ps_setLc (i := 1) (own := [("making", 3)]) (g := gName 3) (te := tTup (tCons (tFld K (tVar 3) "maker") (tCons (tFld K (tVar 3) "made") tNil))) rfl scRMT.nd rfl rfl (sw_true rfl rfl rfl (by decide +kernel)) (pi_list (pv 0)) (blkOk_by (N := ["makings", "pairs", "place", "making"]) (sc := defScope sRMT) (by decide +kernel)) (fun _ _ _ _ _ => (pg_name (i := 3) scRMT.nd rfl (Or.inl rfl))) (fun _ _ _ _ _ => pts_nil) (fun _ _ _ _ _ => (pe_tup (pa_cons (pe_fld (pv 3) rfl) (pa_cons (pe_fld (pv 3) rfl) pa_nil)))))
      (pss_cons (ps_set (i := 2) scRMT.nd rfl (Or.inl rfl) (pe_call G hr rfl D.g D.F.kp D.b .nil pass0 (pa_cons (pv 1) pa_nil)))
      (pss_one (ps_if (pt_cmp (pc_notN (pv 2))) (pss_one ps_never) pss_nil)))), ?_⟩
    refine ⟨_, rfl, m, rfl, ⟨_, hm⟩, fun D' hD => ?_⟩
    refine lc_list (K := K) (a := m) (xs := as.map V.ref) (fun i H' => Same H H' ∧ ∃ qs : List Addr, H' D' = some (.lst (qs.map V.ref)) ∧ qs.length = i ∧ RowsAt K H' qs (((ms.map fun x => (x.mr, x.md)).take i).map prV)) ⟨Same.upd hD, [], upd_same, rfl, True.intro⟩ (fun i H' _ p => p.1.seq hm) ?_ ?_
    · rintro i x H' hi ⟨hS, qs, hq, hql, hrow⟩
      obtain ⟨a, y, rfl, hy, hat⟩ := hms.get hi
      obtain ⟨d, t1, t2, ha, _, _⟩ := MkAt.same hS hat
      refine ⟨rfl, ?_⟩
      refine ⟨_, rfl, a, B, d, _, _, rfl, ha, TM.cl, TM.nk, makF_maker _ _ _ _, ?_⟩
      refine ⟨_, rfl, a, B, d, _, _, rfl, ha, TM.cl, TM.nd, makF_made _ _ _ _, ?_⟩
      refine ⟨by show 2 ≤ sizeLine; decide, fun t ht => ?_⟩
      have nt : t ≠ D' := (ne_of_none hq ht).symm
      have il : i < ms.length := (List.getElem?_eq_some_iff.mp hy).1
      refine ⟨_, Same.upd ht _ _ hq, ?_, ?_, qs ++ [t], ?_, ?_, ?_⟩
      · rw [List.length_map]
        exact Nat.lt_of_le_of_lt (show qs.length ≤ 1000 by omega) (by decide)
      · intro b o h
        rw [upd_ne (ne_of_none h hD)]
        exact Same.upd ht _ _ (hS b o h)
      · rw [upd_same, List.map_append]
        rfl
      · rw [List.length_append, List.length_singleton]
        omega
      · rw [List.take_add_one, List.getElem?_map, hy, List.map_append]
        have B' : But D' (upd H' t (.tup [.str y.mr, .str y.md])) (upd (upd H' t (.tup [.str y.mr, .str y.md])) D' (.lst (qs.map V.ref ++ [.ref t]))) := But.upd
        have keep : ∀ {q : Addr} {xs : List V}, SqT K (upd H' t (.tup [.str y.mr, .str y.md])) q xs → SqT K (upd (upd H' t (.tup [.str y.mr, .str y.md])) D' (.lst (qs.map V.ref ++ [.ref t]))) q xs := fun {q xs} h => by
          have hp : (upd H' t (.tup [.str y.mr, .str y.md])) D' = some (.lst (qs.map V.ref)) := Same.upd ht _ _ hq
          rcases h with (h | ⟨u, h⟩) | h
          · exact .inl (.inl (B' _ _ (ne_of h hp (by intro z; cases z)) h))
          · exact .inl (.inr ⟨u, B' _ _ (ne_of h hp (by intro z; cases z)) h⟩)
          · exact .inr h
        have r1 : RowsAt K (upd H' t (.tup [.str y.mr, .str y.md])) (qs ++ [t]) (((ms.map fun x => (x.mr, x.md)).take i).map prV ++ [prV (y.mr, y.md)]) := (hrow.same (Same.upd ht)).append ⟨SqT.of upd_same, True.intro⟩
        exact rows_imp keep r1
    · rintro H' ⟨hS, qs, hq, hql, hrow⟩
      rw [List.length_map, hms.len] at hql
      rw [List.length_map, hms.len, List.take_of_length_le (by rw [List.length_map]; exact Nat.le_refl _)] at hrow
      dsimp only [List.set_cons_succ, List.set_cons_zero]
      refine ⟨_, rfl, D', qs, _, rfl, SqL.of hq, hrow, hnd, fun p hp => ?_, fun H2 S2 => ?_⟩
      · obtain ⟨x, hx, rfl⟩ := List.mem_map.mp hp
        exact hok x hx
      · refine ⟨_, rfl, _, rfl, ?_⟩
        exact iteF (k _ (hS.trans S2))
end
end Wm
namespace Wm
open PySem L2 StX
/-- what a pattern's variables are, be it a rule or a bar -/
def PvAt (K : PySem.W.Frag) (H : Hp) (a : Addr) (vars : List Var) : Prop := ∃ C d fs t1 ps, H a = some (.ins C d fs) ∧ Cls K C ∧ NoAttr K C "variables" ∧ fs.lookup ("variables" : Str) = some (.ref t1) ∧ SqT K H t1 (ps.map V.ref) ∧ RowsAt K H ps (vars.map varV)
theorem PvAt.same {K : PySem.W.Frag} {H H' : Hp} {a : Addr} {v : List Var} (s : Same H H') (h : PvAt K H a v) : PvAt K H' a v := by
  obtain ⟨C, d, fs, t1, ps, a1, a2, a3, a4, a5, a6⟩ := h
  exact ⟨C, d, fs, t1, ps, s _ _ a1, a2, a3, a4, same_seqT s a5, a6.same s⟩
def spRNS (K : PySem.W.Frag) (B : Addr) : Sp := fun vs H Q _ => ∃ (s m p : Addr) (ss : List Str) (as bs : List Addr) (ms : List MkD) (vv : List (List Var)), vs = [.ref s, .ref m, .ref p] ∧ SqL K H s (ss.map V.str) ∧ SqL K H m (as.map V.ref) ∧ AllAt (MkAt K B H) as ms ∧ SqL K H p (bs.map V.ref) ∧ AllAt (PvAt K H) bs vv ∧ ms.length ≤ 1000 ∧ vv.length ≤ 1000 ∧ (∀ v ∈ vv, v.length ≤ 4) ∧ (∀ x ∈ ms, x.mr ∈ ss ∧ x.md ∈ ss) ∧ (∀ v ∈ vv, ∀ y ∈ v, ∀ z, y.2 = some z → z ∈ ss) ∧ ∀ H', Same H H' → Q .non H'
def spRU (K : PySem.W.Frag) (B : Addr) : Sp := fun vs H Q _ => ∃ (s m : Addr) (ss : List Str) (as : List Addr) (ms : List MkD), vs = [.ref s, .ref m] ∧ SqL K H s (ss.map V.str) ∧ SqL K H m (as.map V.ref) ∧ AllAt (MkAt K B H) as ms ∧ ss.Nodup ∧ (∀ x ∈ ms, ∃ i j : Nat, i < j ∧ ss[i]? = some x.mr ∧ ss[j]? = some x.md) ∧ Q .non H
theorem flat_of (zs : List Str) : (zs.map V.str).all flatV = true := by
  rw [List.all_map]
  exact List.all_eq_true.mpr fun _ _ => rfl
theorem idx_first {ss : List Str} {i m : Nat} {x z : Str} (nd : ss.Nodup) (hi : ss[i]? = some x) (hm : m < i) (hz : ss[m]? = some z) : eqV (.str z) (.str x) = false := by
  have hne : z ≠ x := fun e => by
    subst e
    have a := List.getElem?_eq_some_iff.mp hi
    have b := List.getElem?_eq_some_iff.mp hz
    exact (List.pairwise_iff_getElem.mp nd) m i b.1 a.1 hm (b.2.trans a.2.symm)
  unfold eqV
  simp [hne]
section
variable {P : Program} {w : World} {K : PySem.W.Frag} {mg : Str → Option Value} {base : Heap}
theorem scRU : FnScope ["sorts", "makings", "making"] ["sorts", "makings"] (defScope sRU) := ⟨rfl, rfl, rfl, by decide +kernel, rfl, by decide +kernel, by decide +kernel⟩
theorem ok_ru {f B fB : Addr} {fd : FuncData} (F : Fun K "refuse_upward" "refuse_upward" sRU f fd) (TM : TxMak K mg B fB) : FnOk P w K mg base CX0 1 f fd ["sorts", "makings"] (spRU K B) := by
  refine F.ok scRU (fun vs H Q E h => ?_) (fun cdv A outer s H vs Q E hr h => ?_)
  · obtain ⟨s, m, ss, as, ms, rfl, _⟩ := h
    rfl
  · obtain ⟨s, m, ss, as, ms, rfl, hs, hm, hms, nd, hx, k⟩ := h
    refine ⟨_, (pss_one (ps_for PassesOwn.never rfl (pi_list (pv 1)) (pg_name (i := 2) scRU.nd rfl (Or.inl rfl)) (pss_one (ps_if (pt_cmpR op_le (pe_bm PySem.F.plainAttrs_list PySem.F.slot_list_index PySem.F.type_list_index mt_index (pv 0) (pa_cons (pe_fld (pv 2) rfl) pa_nil)) (pe_bm PySem.F.plainAttrs_list PySem.F.slot_list_index PySem.F.type_list_index mt_index (pv 0) (pa_cons (pe_fld (pv 2) rfl) pa_nil)) (nomark _)) (pss_one ps_never) pss_nil)))), ?_⟩
    refine ⟨_, rfl, m, rfl, ⟨_, hm⟩, for_list (K := K) (a := m) (xs := as.map V.ref) (fun i σ H' => (∃ v, σ = [some (.ref s), some (.ref m), v]) ∧ H' = H) ⟨⟨none, rfl⟩, rfl⟩ (fun i σ H' _ p => by rw [p.2]; exact hm) ?_ (fun σ H' p => by rw [p.2]; exact k)⟩
    rintro i y σ H' hi ⟨⟨v, rfl⟩, rfl⟩
    obtain ⟨a, x, rfl, hxi, hat⟩ := hms.get hi
    obtain ⟨d, t1, t2, ha, _, _⟩ := hat
    obtain ⟨p, q, hpq, hp, hq⟩ := hx x (List.mem_of_getElem? hxi)
    have gp : (ss.map V.str)[p]? = some (.str x.mr) := by rw [List.getElem?_map, hp]; rfl
    have gq : (ss.map V.str)[q]? = some (.str x.md) := by rw [List.getElem?_map, hq]; rfl
    have first : ∀ {n : Nat} {z0 : Str}, ss[n]? = some z0 → ∀ (m : Nat) (z' : V), m < n → (ss.map V.str)[m]? = some z' → eqV z' (.str z0) = false := fun {n z0} hn m z' hm hz => by
      rw [List.getElem?_map] at hz
      obtain ⟨z, hz2, rfl⟩ := Option.map_eq_some_iff.mp hz
      exact idx_first nd hn hm hz2
    dsimp only [gName, List.set_cons_succ, List.set_cons_zero]
    refine ⟨_, rfl, .inl ⟨rfl, _, hs⟩, _, rfl, a, B, d, _, _, rfl, ha, TM.cl, TM.nd, makF_made _ _ _ _, ?_⟩
    refine ⟨s, _, .str x.md, q, .str x.md, rfl, rfl, hs, rfl, flat_of ss, gq, by unfold eqV; simp, first hq, ?_⟩
    refine ⟨_, rfl, .inl ⟨rfl, _, hs⟩, _, rfl, a, B, d, _, _, rfl, ha, TM.cl, TM.nk, makF_maker _ _ _ _, ?_⟩
    refine ⟨s, _, .str x.mr, p, .str x.mr, rfl, rfl, hs, rfl, flat_of ss, gp, by unfold eqV; simp, first hp, ?_⟩
    refine ⟨_, _, rfl, rfl, _, rfl, ?_⟩
    exact ite2 (fun z => absurd (of_decide_eq_true z) (by omega)) (fun _ => ⟨⟨_, rfl⟩, rfl⟩)
theorem scRNS : FnScope ["sorts", "makings", "patterns", "asked", "making", "pattern", "name", "variable", "sort"] ["sorts", "makings", "patterns"] (defScope sRNS) := ⟨rfl, rfl, rfl, by decide +kernel, rfl, by decide +kernel, by decide +kernel⟩
theorem ok_rns {f B fB : Addr} {fd : FuncData} (F : Fun K "refuse_no_sort" "refuse_no_sort" sRNS f fd) (TM : TxMak K mg B fB) : FnOk P w K mg base CX0 1 f fd ["sorts", "makings", "patterns"] (spRNS K B) := by
  refine F.ok scRNS (fun vs H Q E h => ?_) (fun cdv A outer s H vs Q E hr h => ?_)
  · obtain ⟨s, m, p, ss, as, bs, ms, vv, rfl, _⟩ := h
    rfl
  · obtain ⟨s, m, p, ss, as, bs, ms, vv, rfl, hs, hm, hms, hp, hvv, ml, vl, v4, hx, hy, k⟩ := h
    refine ⟨_, (pss_cons (ps_set (i := 3) scRNS.nd rfl (Or.inl rfl) (pe_lst pa_nil))
      (pss_cons (ps_for PassesOwn.never rfl (pi_list (pv 1)) (pg_name (i := 4) scRNS.nd rfl (Or.inl rfl)) (pss_one (ps_expr (pe_bm PySem.F.plainAttrs_list PySem.F.slot_list_extend PySem.F.type_list_extend mt_extend (pv 3) (pa_cons (pe_lst (pa_cons (pe_fld (pv 4) rfl) (pa_cons (pe_fld (pv 4) rfl) pa_nil))) pa_nil)))))
      (pss_cons (ps_for PassesOwn.never rfl (pi_list (pv 2)) (pg_name (i := 5) scRNS.nd rfl (Or.inl rfl)) (pss_one (ps_expr (pe_bm PySem.F.plainAttrs_list PySem.F.slot_list_extend PySem.F.type_list_extend mt_extend (pv 3) (pa_cons (pe_lc (own := [("variable", 7), ("sort", 8)]) (g := gTup K 2 (gCons (gName 7) (gCons (gName 8) gNil))) rfl scRNS.nd (pi_tup (pe_fld (pv 5) rfl)) (blkOk_by (N := ["sorts", "makings", "patterns", "asked", "making", "pattern", "name", "variable", "sort"]) (sc := defScope sRNS) (by decide +kernel)) (fun _ _ _ _ _ => (pg_tup rfl (pgs_cons (pg_name (i := 7) scRNS.nd rfl (Or.inl rfl)) (pgs_cons (pg_name (i := 8) scRNS.nd rfl (Or.inl rfl)) pgs_nil)))) (fun _ _ _ _ _ => (pts_one (pt_cmp (pc_notN (pv 8))))) (fun _ _ _ _ _ => (pv 8))) pa_nil)))))
      (pss_one (ps_for PassesOwn.never rfl (pi_list (pv 3)) (pg_name (i := 6) scRNS.nd rfl (Or.inl rfl)) (pss_one (ps_if (pt_cmpR op_notIn_seq (pv 6) (pv 0) (by rfl)) (pss_one ps_never) pss_nil))))))), ?_⟩
    refine ⟨Nat.zero_le _, fun d hd => ?_⟩
    dsimp only [List.set_cons_succ, List.set_cons_zero]
    have Sd : ∀ {H1 : Hp} {o : HO}, Same H H1 → Same H (upd H1 d o) := fun hs b o e => by
      rw [upd_ne (ne_of_none e hd)]
      exact hs b o e
    have S0 : Same H (upd H d (.lst [])) := Same.upd hd
    refine ⟨_, rfl, m, rfl, ⟨_, S0.seq hm⟩, for_list (K := K) (a := m) (xs := as.map V.ref) (fun i σ H' => (∃ v, σ = [some (.ref s), some (.ref m), some (.ref p), some (.ref d), v, none, none, none, none]) ∧ Same H H' ∧ ∃ zs : List Str, H' d = some (.lst (zs.map V.str)) ∧ zs.length ≤ 2 * i ∧ ∀ z ∈ zs, z ∈ ss) ⟨⟨none, rfl⟩, S0, [], upd_same, Nat.le_refl _, fun z hz => (List.not_mem_nil hz).elim⟩ (fun i σ H' _ p => p.2.1.seq hm) ?_ ?_⟩
    · rintro i y σ H' hi ⟨⟨v, rfl⟩, hS, zs, hz, zl, zo⟩
      obtain ⟨a, x, rfl, hxi, hat⟩ := hms.get hi
      obtain ⟨d', t1, t2, ha, _, _⟩ := MkAt.same hS hat
      have il : i < ms.length := (List.getElem?_eq_some_iff.mp hxi).1
      have ox := hx x (List.mem_of_getElem? hxi)
      dsimp only [gName, List.set_cons_succ, List.set_cons_zero]
      refine ⟨_, rfl, .inl ⟨rfl, _, SqL.of hz⟩, _, rfl, a, B, d', _, _, rfl, ha, TM.cl, TM.nk, makF_maker _ _ _ _, _, rfl, a, B, d', _, _, rfl, ha, TM.cl, TM.nd, makF_made _ _ _ _, by show 2 ≤ sizeLine; decide, fun l2 nl2 => ?_⟩
      refine ⟨d, l2, _, _, rfl, rfl, Same.upd nl2 _ _ hz, upd_same, ?_, ⟨_, rfl⟩, Sd (hS.trans (Same.upd nl2)), zs ++ [x.mr, x.md], ?_, ?_, ?_⟩
      · rw [List.length_map]
        exact Nat.le_trans (show zs.length + 2 ≤ 10000 by omega) (by decide)
      · rw [upd_same, List.map_append]
        rfl
      · rw [List.length_append]
        show zs.length + 2 ≤ _
        omega
      · intro z hzm
        rcases List.mem_append.mp hzm with q | q
        · exact zo z q
        · rcases List.mem_cons.mp q with e | q
          · rw [e]; exact ox.1
          · rw [List.mem_singleton.mp q]; exact ox.2
    rintro σ H1 ⟨⟨v, rfl⟩, hS1, zs, hz, zl, zo⟩
    rw [List.length_map, hms.len] at zl
    refine ⟨_, rfl, p, rfl, ⟨_, hS1.seq hp⟩, for_list (K := K) (a := p) (xs := bs.map V.ref) (fun i σ H' => (∃ v u, σ = [some (.ref s), some (.ref m), some (.ref p), some (.ref d), v, u, none, none, none]) ∧ Same H H' ∧ ∃ zs : List Str, H' d = some (.lst (zs.map V.str)) ∧ zs.length ≤ 2 * ms.length + 4 * i ∧ ∀ z ∈ zs, z ∈ ss) ⟨⟨_, none, rfl⟩, hS1, zs, hz, by omega, zo⟩ (fun i σ H' _ p => p.2.1.seq hp) ?_ ?_⟩
    · rintro i y σ H' hi ⟨⟨v, u, rfl⟩, hS, zs, hz, zl, zo⟩
      obtain ⟨a, x, rfl, hxi, hat⟩ := hvv.get hi
      obtain ⟨C, d', fs, t1, ps, ha, hc, hn, hlk, ht, hrow⟩ := PvAt.same hS hat
      have il : i < vv.length := (List.getElem?_eq_some_iff.mp hxi).1
      have xm := List.mem_of_getElem? hxi
      have x4 := v4 x xm
      dsimp only [gName, List.set_cons_succ, List.set_cons_zero]
      refine ⟨_, rfl, .inl ⟨rfl, _, SqL.of hz⟩, _, rfl, a, C, d', _, _, rfl, ha, hc, hn, hlk, t1, rfl, ⟨_, ht⟩, fun D hD => ?_⟩
      have ndD : d ≠ D := ne_of_none hz hD
      refine lc_it walk_tup (fun j G => Same H' G ∧ ∃ us : List Str, G D = some (.lst (us.map V.str)) ∧ us.length ≤ j ∧ ∀ z ∈ us, z ∈ ss) ⟨Same.upd hD, [], upd_same, Nat.le_refl _, fun z hz => (List.not_mem_nil hz).elim⟩ (fun j G _ p => same_seqT p.1 ht) ?_ ?_
      · rintro j x' G G' hj ⟨hSG, us, hu, ul, uo⟩ ⟨rfl, hxj⟩
        obtain ⟨q, hqj, rfl⟩ := map_ref_get hxj
        obtain ⟨r, hrj, hqr⟩ := hrow.get hqj
        obtain ⟨⟨n, so⟩, hvj, rfl⟩ := var_get hrj
        have jl : j < x.length := (List.getElem?_eq_some_iff.mp hvj).1
        refine ⟨q, _, rfl, same_seqT hSG hqr, rfl, _, _, rfl, _, _, rfl, rfl, rfl, ?_⟩
        cases so with
        | none =>
          refine ⟨_, rfl, _, rfl, ?_⟩
          refine iteF ?_
          exact ⟨hSG, us, hu, by omega, uo⟩
        | some z =>
          refine ⟨_, rfl, _, rfl, ?_⟩
          refine iteT ?_
          refine ⟨_, rfl, _, hu, ?_, ?_, us ++ [z], ?_, ?_, ?_⟩
          · rw [List.length_map]
            exact Nat.lt_of_le_of_lt (show us.length ≤ 100 by omega) (by decide)
          · intro b o h
            rw [upd_ne (ne_of_none h hD)]
            exact hSG b o h
          · rw [upd_same, List.map_append]
            rfl
          · rw [List.length_append, List.length_singleton]
            omega
          · intro y hyy
            rcases List.mem_append.mp hyy with q | q
            · exact uo y q
            · rw [List.mem_singleton.mp q]
              exact hy x xm (n, some z) (List.mem_of_getElem? hvj) z rfl
      · rintro G ⟨hSG, us, hu, ul, uo⟩
        have ul4 : us.length ≤ 4 := by
          rw [List.length_map, hrow.len, List.length_map] at ul
          omega
        refine ⟨d, D, _, _, rfl, rfl, hSG _ _ hz, hu, ?_, ⟨_, _, rfl⟩, Sd (hS.trans hSG), zs ++ us, ?_, ?_, ?_⟩
        · rw [List.length_map, List.length_map]
          exact Nat.le_trans (show zs.length + us.length ≤ 10000 by omega) (by decide)
        · rw [upd_same, List.map_append]
        · rw [List.length_append]
          omega
        · intro z hzm
          rcases List.mem_append.mp hzm with q | q
          · exact zo z q
          · exact uo z q
    rintro σ H2 ⟨⟨v, u, rfl⟩, hS2, zs, hz, zl, zo⟩
    refine ⟨_, rfl, d, rfl, ⟨_, SqL.of hz⟩, for_list (K := K) (a := d) (xs := zs.map V.str) (fun i σ H' => (∃ v u t, σ = [some (.ref s), some (.ref m), some (.ref p), some (.ref d), v, u, t, none, none]) ∧ H' = H2) ⟨⟨_, _, none, rfl⟩, rfl⟩ (fun i σ H' _ p => by rw [p.2]; exact SqL.of hz) ?_ (fun σ H' p => by rw [p.2]; exact k _ hS2)⟩
    rintro i y σ H' hi ⟨⟨v, u, t, rfl⟩, rfl⟩
    rw [List.getElem?_map] at hi
    obtain ⟨z, hzi, rfl⟩ := Option.map_eq_some_iff.mp hi
    dsimp only [gName, List.set_cons_succ, List.set_cons_zero]
    refine ⟨_, rfl, _, rfl, s, _, rfl, .inl (hS2.seq hs), rfl, flat_of ss, _, rfl, ?_⟩
    show if (!inV (.str z) (ss.map V.str)) = true then _ else _
    rw [inV_strs, decide_eq_true (zo z (List.mem_of_getElem? hzi))]
    exact iteF ⟨⟨_, _, _, rfl⟩, rfl⟩
end
end Wm
namespace Wm
open PySem L2 StX
def spRNW (K : PySem.W.Frag) (MB RB BB : Addr) : Sp := fun vs H Q _ => ∃ (w m r b : Addr) (ws : List Str) (as bs cs : List Addr) (ms : List MkD) (rs : List RlD) (ps : List PtD), vs = [.ref w, .ref m, .ref r, .ref b] ∧ SqL K H w (ws.map V.str) ∧ SqL K H m (as.map V.ref) ∧ AllAt (MkAt K MB H) as ms ∧ SqL K H r (bs.map V.ref) ∧ AllAt (RlAt K RB H) bs rs ∧ SqL K H b (cs.map V.ref) ∧ AllAt (BrAt K BB H) cs ps ∧
  ms.length ≤ 1000 ∧ rs.length ≤ 1000 ∧ ps.length ≤ 1000 ∧ (∀ x ∈ ms, x.dn.length ≤ 100 ∧ x.up.length ≤ 100) ∧ (∀ x ∈ rs, x.p.cs.length ≤ 3) ∧ (∀ x ∈ ps, x.cs.length ≤ 3) ∧ (∀ x ∈ ms, (∀ z ∈ x.dn, z ∈ ws) ∧ ∀ z ∈ x.up, z ∈ ws) ∧ (∀ x ∈ rs, (∀ t ∈ x.p.cs, t.2.1 ∈ ws) ∧ x.g.2.1 ∈ ws) ∧ (∀ x ∈ ps, ∀ t ∈ x.cs, t.2.1 ∈ ws) ∧ ∀ H', Same H H' → Q .non H'
section
variable {P : Program} {w : World} {K : PySem.W.Frag} {mg : Str → Option Value} {base : Heap}
theorem scRNW : FnScope ["words", "makings", "rules", "bars", "asked", "making", "rule", "bar", "name", "x", "word", "y"] ["words", "makings", "rules", "bars"] (defScope sRNW) := ⟨rfl, rfl, rfl, by decide +kernel, rfl, by decide +kernel, by decide +kernel⟩
theorem ok_rnw {f MB fM RB fR BB fB : Addr} {fd : FuncData} (F : Fun K "refuse_no_word" "refuse_no_word" sRNW f fd) (TM : TxMak K mg MB fM) (TR : TxRul K mg RB fR) (TB : TxBar K mg BB fB) : FnOk P w K mg base CX0 1 f fd ["words", "makings", "rules", "bars"] (spRNW K MB RB BB) := by
  refine F.ok scRNW (fun vs H Q E h => ?_) (fun cdv A outer s H vs Q E hr h => ?_)
  · obtain ⟨w, m, r, b, ws, as, bs, cs, ms, rs, ps, rfl, _⟩ := h
    rfl
  · obtain ⟨w, m, r, b, ws, as, bs, cs, ms, rs, ps, rfl, hw, hm, hms, hr', hrs, hb, hps, ml, rl, pl, m1, r1, p1, mo, ro, po, k⟩ := h
    refine ⟨_, (pss_cons (ps_set (i := 4) scRNW.nd rfl (Or.inl rfl) (pe_lst pa_nil))
      (pss_cons (ps_for PassesOwn.never rfl (pi_list (pv 1)) (pg_name (i := 5) scRNW.nd rfl (Or.inl rfl)) (pss_one (ps_expr (pe_bm PySem.F.plainAttrs_list PySem.F.slot_list_extend PySem.F.type_list_extend mt_extend (pv 4) (pa_cons (pe_lst (pa_star (pe_fld (pv 5) rfl) (pa_star (pe_fld (pv 5) rfl) pa_nil))) pa_nil)))))
      (pss_cons (ps_for PassesOwn.never rfl (pi_list (pv 2)) (pg_name (i := 6) scRNW.nd rfl (Or.inl rfl)) (pss_one (ps_expr (pe_bm PySem.F.plainAttrs_list PySem.F.slot_list_extend PySem.F.type_list_extend mt_extend (pv 4) (pa_cons (pe_lc (own := [("x", 9), ("word", 10), ("y", 11)]) (g := gTup K 3 (gCons (gName 9) (gCons (gName 10) (gCons (gName 11) gNil)))) rfl scRNW.nd (pi_list (pe_lst (pa_star (pe_fld (pv 6) rfl) (pa_cons (pe_fld (pv 6) rfl) pa_nil)))) (blkOk_by (N := ["words", "makings", "rules", "bars", "asked", "making", "rule", "bar", "name", "x", "word", "y"]) (sc := defScope sRNW) (by decide +kernel)) (fun _ _ _ _ _ => (pg_tup rfl (pgs_cons (pg_name (i := 9) scRNW.nd rfl (Or.inl rfl)) (pgs_cons (pg_name (i := 10) scRNW.nd rfl (Or.inl rfl)) (pgs_cons (pg_name (i := 11) scRNW.nd rfl (Or.inl rfl)) pgs_nil))))) (fun _ _ _ _ _ => pts_nil) (fun _ _ _ _ _ => (pv 10))) pa_nil)))))
      (pss_cons (ps_for PassesOwn.never rfl (pi_list (pv 3)) (pg_name (i := 7) scRNW.nd rfl (Or.inl rfl)) (pss_one (ps_expr (pe_bm PySem.F.plainAttrs_list PySem.F.slot_list_extend PySem.F.type_list_extend mt_extend (pv 4) (pa_cons (pe_lc (own := [("x", 9), ("word", 10), ("y", 11)]) (g := gTup K 3 (gCons (gName 9) (gCons (gName 10) (gCons (gName 11) gNil)))) rfl scRNW.nd (pi_tup (pe_fld (pv 7) rfl)) (blkOk_by (N := ["words", "makings", "rules", "bars", "asked", "making", "rule", "bar", "name", "x", "word", "y"]) (sc := defScope sRNW) (by decide +kernel)) (fun _ _ _ _ _ => (pg_tup rfl (pgs_cons (pg_name (i := 9) scRNW.nd rfl (Or.inl rfl)) (pgs_cons (pg_name (i := 10) scRNW.nd rfl (Or.inl rfl)) (pgs_cons (pg_name (i := 11) scRNW.nd rfl (Or.inl rfl)) pgs_nil))))) (fun _ _ _ _ _ => pts_nil) (fun _ _ _ _ _ => (pv 10))) pa_nil)))))
      (pss_one (ps_for PassesOwn.never rfl (pi_list (pv 4)) (pg_name (i := 8) scRNW.nd rfl (Or.inl rfl)) (pss_one (ps_if (pt_cmpR op_notIn_seq (pv 8) (pv 0) (by rfl)) (pss_one ps_never) pss_nil)))))))), ?_⟩
    refine ⟨Nat.zero_le _, fun d hd => ?_⟩
    dsimp only [List.set_cons_succ, List.set_cons_zero]
    have Sd : ∀ {H1 : Hp} {o : HO}, Same H H1 → Same H (upd H1 d o) := fun hs b o e => by
      rw [upd_ne (ne_of_none e hd)]
      exact hs b o e
    have S0 : Same H (upd H d (.lst [])) := Same.upd hd
    -- the words of the makings
    refine ⟨_, rfl, m, rfl, ⟨_, S0.seq hm⟩, for_list (K := K) (a := m) (xs := as.map V.ref) (fun i σ H' => (∃ v, σ = [some (.ref w), some (.ref m), some (.ref r), some (.ref b), some (.ref d), v, none, none, none, none, none, none]) ∧ Same H H' ∧ ∃ zs : List Str, H' d = some (.lst (zs.map V.str)) ∧ zs.length ≤ 200 * i ∧ ∀ z ∈ zs, z ∈ ws) ⟨⟨none, rfl⟩, S0, [], upd_same, Nat.le_refl _, fun z hz => (List.not_mem_nil hz).elim⟩ (fun i σ H' _ p => p.2.1.seq hm) ?_ ?_⟩
    · rintro i y σ H' hi ⟨⟨v, rfl⟩, hS, zs, hz, zl, zo⟩
      obtain ⟨a, x, rfl, hxi, hat⟩ := hms.get hi
      obtain ⟨d', t1, t2, ha, ht1, ht2⟩ := MkAt.same hS hat
      have il : i < ms.length := (List.getElem?_eq_some_iff.mp hxi).1
      have xm := List.mem_of_getElem? hxi
      have x1 := m1 x xm
      have xo := mo x xm
      dsimp only [gName, List.set_cons_succ, List.set_cons_zero]
      refine ⟨_, rfl, .inl ⟨rfl, _, SqL.of hz⟩, _, rfl, a, MB, d', _, _, rfl, ha, TM.cl, TM.nw, makF_down _ _ _ _, t1, _, rfl, .inl ht1, _, rfl, a, MB, d', _, _, rfl, ha, TM.cl, TM.nu, makF_up _ _ _ _, t2, _, rfl, .inl ht2, ?_⟩
      show (x.dn.map V.str ++ (x.up.map V.str ++ [])).length ≤ sizeLine ∧ _
      rw [show (x.dn.map V.str ++ (x.up.map V.str ++ [])) = (x.dn ++ x.up).map V.str by rw [List.append_nil, List.map_append]]
      refine ⟨Nat.le_trans (show _ ≤ 1000 by rw [List.length_map, List.length_append]; omega) (by decide), fun l2 nl2 => ?_⟩
      refine ⟨d, l2, _, _, rfl, rfl, Same.upd nl2 _ _ hz, upd_same, ?_, ⟨_, rfl⟩, Sd (hS.trans (Same.upd nl2)), zs ++ (x.dn ++ x.up), ?_, ?_, ?_⟩
      · rw [List.length_map, List.length_map, List.length_append]
        exact Nat.le_trans (show _ ≤ 1000000 by omega) (by decide)
      · rw [upd_same]
        simp
      · rw [List.length_append, List.length_append]
        omega
      · intro z hzm
        rcases List.mem_append.mp hzm with q | q
        · exact zo z q
        · rcases List.mem_append.mp q with q | q
          · exact xo.1 z q
          · exact xo.2 z q
    rintro σ H1 ⟨⟨v, rfl⟩, hS1, zs, hz, zl, zo⟩
    rw [List.length_map, hms.len] at zl
    -- those of the rules
    refine ⟨_, rfl, r, rfl, ⟨_, hS1.seq hr'⟩, for_list (K := K) (a := r) (xs := bs.map V.ref) (fun i σ H' => (∃ v u, σ = [some (.ref w), some (.ref m), some (.ref r), some (.ref b), some (.ref d), v, u, none, none, none, none, none]) ∧ Same H H' ∧ ∃ zs : List Str, H' d = some (.lst (zs.map V.str)) ∧ zs.length ≤ 200 * ms.length + 4 * i ∧ ∀ z ∈ zs, z ∈ ws) ⟨⟨_, none, rfl⟩, hS1, zs, hz, by omega, zo⟩ (fun i σ H' _ p => p.2.1.seq hr') ?_ ?_⟩
    · rintro i y σ H' hi ⟨⟨v, u, rfl⟩, hS, zs, hz, zl, zo⟩
      obtain ⟨a, x, rfl, hxi, hat⟩ := hrs.get hi
      obtain ⟨d', t1, t2, t3, us, qs, ha, ht1, hu, ht2, hq, ht3⟩ := RlAt.same hS hat
      have il : i < rs.length := (List.getElem?_eq_some_iff.mp hxi).1
      have xm := List.mem_of_getElem? hxi
      have x1 := r1 x xm
      have xo := ro x xm
      have ql : qs.length = x.p.cs.length := by rw [hq.len, List.length_map]
      dsimp only [gName, List.set_cons_succ, List.set_cons_zero]
      refine ⟨_, rfl, .inl ⟨rfl, _, SqL.of hz⟩, _, rfl, a, RB, d', _, _, rfl, ha, TR.cl, TR.nc, rulF_cond _ _ _ _ _, t2, _, rfl, .inl ht2, _, rfl, a, RB, d', _, _, rfl, ha, TR.cl, TR.ng, rulF_gives _ _ _ _ _, ?_⟩
      show (qs.map V.ref ++ [V.ref t3]).length ≤ sizeLine ∧ _
      rw [show (qs.map V.ref ++ [V.ref t3]) = (qs ++ [t3]).map V.ref by rw [List.map_append]; rfl]
      refine ⟨Nat.le_trans (show _ ≤ 1000 by rw [List.length_map, List.length_append, List.length_singleton]; omega) (by decide), fun l2 nl2 => ?_⟩
      have S2 : Same H' (upd H' l2 (.lst ((qs ++ [t3]).map V.ref))) := Same.upd nl2
      have e2 : (upd H' l2 (.lst ((qs ++ [t3]).map V.ref))) l2 = some (.lst ((qs ++ [t3]).map V.ref)) := upd_same
      have rows : RowsAt K (upd H' l2 (.lst ((qs ++ [t3]).map V.ref))) (qs ++ [t3]) ((x.p.cs ++ [x.g]).map triV) := by
        have e : (x.p.cs ++ [x.g]).map triV = x.p.cs.map triV ++ [triV x.g] := by rw [List.map_append]; rfl
        rw [e]
        exact (hq.same S2).append (show RowsAt K _ [t3] [triV x.g] from ⟨same_seqT S2 ht3, True.intro⟩)
      generalize upd H' l2 (.lst ((qs ++ [t3]).map V.ref)) = G2 at S2 e2 rows
      refine ⟨l2, rfl, ⟨_, SqL.of e2⟩, fun D hD => ?_⟩
      refine lc_it walk_list (fun j G => Same G2 G ∧ G D = some (.lst ((((x.p.cs ++ [x.g]).take j).map (·.2.1)).map V.str))) ⟨Same.upd hD, upd_same⟩ (fun j G _ p => p.1.seq (SqL.of e2)) ?_ ?_
      · rintro j x' G G' hj ⟨hSG, hu'⟩ ⟨rfl, hxj⟩
        obtain ⟨q, hqj, rfl⟩ := map_ref_get hxj
        obtain ⟨rr, hrj, hqr⟩ := rows.get hqj
        obtain ⟨t, htj, rfl⟩ := tri_get hrj
        have jl : j < (x.p.cs ++ [x.g]).length := (List.getElem?_eq_some_iff.mp htj).1
        refine ⟨q, _, rfl, same_seqT hSG hqr, rfl, _, _, rfl, _, _, rfl, _, _, rfl, rfl, rfl, ?_⟩
        refine ⟨_, rfl, _, hu', ?_, ?_, ?_⟩
        · rw [List.length_map, List.length_map, List.length_take]
          rw [List.length_append, List.length_singleton] at jl ⊢
          exact Nat.lt_of_le_of_lt (show _ ≤ 100 by omega) (by decide)
        · intro b o h
          rw [upd_ne (ne_of_none h hD)]
          exact hSG b o h
        · rw [upd_same, List.take_add_one, htj, List.map_append, List.map_append]
          rfl
      · rintro G ⟨hSG, hu'⟩
        rw [List.length_map, rows.len, List.length_map, List.take_length] at hu'
        have hzG := hSG _ _ (S2 _ _ hz)
        refine ⟨d, D, _, _, rfl, rfl, hzG, hu', ?_, ⟨_, _, rfl⟩, Sd ((hS.trans S2).trans hSG), zs ++ (x.p.cs ++ [x.g]).map (·.2.1), ?_, ?_, ?_⟩
        · rw [List.length_map, List.length_map, List.length_map, List.length_append, List.length_singleton]
          exact Nat.le_trans (show _ ≤ 1000000 by omega) (by decide)
        · rw [upd_same]
          simp
        · rw [List.length_append, List.length_map, List.length_append, List.length_singleton]
          omega
        · intro z hzm
          rcases List.mem_append.mp hzm with q | q
          · exact zo z q
          · obtain ⟨t, ht, rfl⟩ := List.mem_map.mp q
            rcases List.mem_append.mp ht with q | q
            · exact xo.1 t q
            · rw [List.mem_singleton.mp q]
              exact xo.2
    rintro σ H2 ⟨⟨v, u, rfl⟩, hS2, zs, hz, zl, zo⟩
    rw [List.length_map, hrs.len] at zl
    -- those of the bars
    refine ⟨_, rfl, b, rfl, ⟨_, hS2.seq hb⟩, for_list (K := K) (a := b) (xs := cs.map V.ref) (fun i σ H' => (∃ v u t, σ = [some (.ref w), some (.ref m), some (.ref r), some (.ref b), some (.ref d), v, u, t, none, none, none, none]) ∧ Same H H' ∧ ∃ zs : List Str, H' d = some (.lst (zs.map V.str)) ∧ zs.length ≤ 200 * ms.length + 4 * rs.length + 4 * i ∧ ∀ z ∈ zs, z ∈ ws) ⟨⟨_, _, none, rfl⟩, hS2, zs, hz, by omega, zo⟩ (fun i σ H' _ p => p.2.1.seq hb) ?_ ?_⟩
    · rintro i y σ H' hi ⟨⟨v, u, t, rfl⟩, hS, zs, hz, zl, zo⟩
      obtain ⟨a, x, rfl, hxi, hat⟩ := hps.get hi
      obtain ⟨d', t1, t2, us, qs, ha, ht1, hu, ht2, hq⟩ := BrAt.same hS hat
      have il : i < ps.length := (List.getElem?_eq_some_iff.mp hxi).1
      have xm := List.mem_of_getElem? hxi
      have x1 := p1 x xm
      have xo := po x xm
      dsimp only [gName, List.set_cons_succ, List.set_cons_zero]
      refine ⟨_, rfl, .inl ⟨rfl, _, SqL.of hz⟩, _, rfl, a, BB, d', _, _, rfl, ha, TB.cl, TB.nc, barF_cond _ _ _, t2, rfl, ⟨_, ht2⟩, fun D hD => ?_⟩
      refine lc_it walk_tup (fun j G => Same H' G ∧ G D = some (.lst (((x.cs.take j).map (·.2.1)).map V.str))) ⟨Same.upd hD, upd_same⟩ (fun j G _ p => same_seqT p.1 ht2) ?_ ?_
      · rintro j x' G G' hj ⟨hSG, hu'⟩ ⟨rfl, hxj⟩
        obtain ⟨q, hqj, rfl⟩ := map_ref_get hxj
        obtain ⟨rr, hrj, hqr⟩ := hq.get hqj
        obtain ⟨t, htj, rfl⟩ := tri_get hrj
        have jl : j < x.cs.length := (List.getElem?_eq_some_iff.mp htj).1
        refine ⟨q, _, rfl, same_seqT hSG hqr, rfl, _, _, rfl, _, _, rfl, _, _, rfl, rfl, rfl, ?_⟩
        refine ⟨_, rfl, _, hu', ?_, ?_, ?_⟩
        · rw [List.length_map, List.length_map, List.length_take]
          exact Nat.lt_of_le_of_lt (show _ ≤ 100 by omega) (by decide)
        · intro b o h
          rw [upd_ne (ne_of_none h hD)]
          exact hSG b o h
        · rw [upd_same, List.take_add_one, htj, List.map_append, List.map_append]
          rfl
      · rintro G ⟨hSG, hu'⟩
        rw [List.length_map, hq.len, List.length_map, List.take_length] at hu'
        refine ⟨d, D, _, _, rfl, rfl, hSG _ _ hz, hu', ?_, ⟨_, _, _, rfl⟩, Sd (hS.trans hSG), zs ++ x.cs.map (·.2.1), ?_, ?_, ?_⟩
        · rw [List.length_map, List.length_map, List.length_map]
          exact Nat.le_trans (show _ ≤ 1000000 by omega) (by decide)
        · rw [upd_same, List.map_append]
        · rw [List.length_append, List.length_map]
          omega
        · intro z hzm
          rcases List.mem_append.mp hzm with q | q
          · exact zo z q
          · obtain ⟨t, ht, rfl⟩ := List.mem_map.mp q
            exact xo t ht
    rintro σ H3 ⟨⟨v, u, t, rfl⟩, hS3, zs, hz, zl, zo⟩
    refine ⟨_, rfl, d, rfl, ⟨_, SqL.of hz⟩, for_list (K := K) (a := d) (xs := zs.map V.str) (fun i σ H' => (∃ v u t n, σ = [some (.ref w), some (.ref m), some (.ref r), some (.ref b), some (.ref d), v, u, t, n, none, none, none]) ∧ H' = H3) ⟨⟨_, _, _, none, rfl⟩, rfl⟩ (fun i σ H' _ p => by rw [p.2]; exact SqL.of hz) ?_ (fun σ H' p => by rw [p.2]; exact k _ hS3)⟩
    rintro i y σ H' hi ⟨⟨v, u, t, n, rfl⟩, rfl⟩
    rw [List.getElem?_map] at hi
    obtain ⟨z, hzi, rfl⟩ := Option.map_eq_some_iff.mp hi
    dsimp only [gName, List.set_cons_succ, List.set_cons_zero]
    refine ⟨_, rfl, _, rfl, w, _, rfl, .inl (hS3.seq hw), rfl, flat_of ws, _, rfl, ?_⟩
    show if (!inV (.str z) (ws.map V.str)) = true then _ else _
    rw [inV_strs, decide_eq_true (zo z (List.mem_of_getElem? hzi))]
    exact iteF ⟨⟨_, _, _, _, rfl⟩, rfl⟩
end
end Wm
namespace Wm
open PySem L2 StX
/-- names in a row, of which the program refuses none -/
structure Row (zs : List Str) : Prop where
  nm : ∀ z ∈ zs, isNm z = true ∧ z.length ≤ 12
  nd : zs.Nodup
theorem Row.noTw {zs : List Str} (h : Row zs) : NoTw (zs.map V.str) := fun i x e => by
  rw [List.getElem?_map] at e
  obtain ⟨z, ez, rfl⟩ := Option.map_eq_some_iff.mp e
  rw [← List.map_take, inV_strs]
  refine decide_eq_false fun hm => ?_
  obtain ⟨j, hj⟩ := List.mem_iff_getElem?.mp hm
  have hlt : j < i := by
    have q := (List.getElem?_eq_some_iff.mp hj).1
    rw [List.length_take] at q
    omega
  rw [List.getElem?_take_of_lt hlt] at hj
  have hil := (List.getElem?_eq_some_iff.mp ez).1
  have e1 := (List.getElem?_eq_some_iff.mp ez).2
  have hjl := (List.getElem?_eq_some_iff.mp hj).1
  have e2 := (List.getElem?_eq_some_iff.mp hj).2
  exact (List.pairwise_iff_getElem.mp h.nd) j i hjl hil hlt (e2.trans e1.symm)
structure TxS (mg : Str → Option Value) : Prop where
  so : ∃ t, mg "MOST_SORTS" = some (.int 4 t)
  wo : ∃ t, mg "MOST_WORDS" = some (.int 5 t)
  ru : ∃ t, mg "MOST_RULES" = some (.int 8 t)
  ba : ∃ t, mg "MOST_BARS" = some (.int 4 t)
def spRNv (K : PySem.W.Frag) : Sp := fun vs H Q _ => ∃ (l : Addr) (zs : List Str), vs = [.ref l] ∧ SqL K H l (zs.map V.str) ∧ (∀ z ∈ zs, isNm z = true ∧ z.length ≤ 12) ∧ ∀ H', Same H H' → Q .non H'
/-- a scheme that is refused by nothing -/
structure SchOk (ss ws : List Str) (ms : List MkD) (rs : List RlD) (ps : List PtD) : Prop where
  sr : Row ss
  wr : Row ws
  s1 : 1 ≤ ss.length
  s4 : ss.length ≤ 4
  w1 : 1 ≤ ws.length
  w5 : ws.length ≤ 5
  m9 : ms.length ≤ 1000
  r8 : rs.length ≤ 8
  b4 : ps.length ≤ 4
  mt : (ms.map fun x => (x.mr, x.md)).Nodup
  rn : (rs.map (·.p.nm)).Nodup
  bn : (ps.map (·.nm)).Nodup
  so : ∀ z ∈ ss, okS z
  mo : ∀ x ∈ ms, x.mr ∈ ss ∧ x.md ∈ ss
  mu : ∀ x ∈ ms, ∃ i j : Nat, i < j ∧ ss[i]? = some x.mr ∧ ss[j]? = some x.md
  ml : ∀ x ∈ ms, x.dn.length ≤ 100 ∧ x.up.length ≤ 100
  mw : ∀ x ∈ ms, (∀ z ∈ x.dn, z ∈ ws) ∧ ∀ z ∈ x.up, z ∈ ws
  rv : ∀ x ∈ rs, x.p.vars.length ≤ 4 ∧ x.p.cs.length ≤ 3 ∧ (∀ y ∈ x.p.vars, ∀ z, y.2 = some z → z ∈ ss) ∧ (∀ t ∈ x.p.cs, t.2.1 ∈ ws) ∧ x.g.2.1 ∈ ws
  bv : ∀ x ∈ ps, x.vars.length ≤ 4 ∧ x.cs.length ≤ 3 ∧ (∀ y ∈ x.vars, ∀ z, y.2 = some z → z ∈ ss) ∧ ∀ t ∈ x.cs, t.2.1 ∈ ws
def spOL (K : PySem.W.Frag) : Sp := fun vs H Q _ => ∃ x : V, vs = [x] ∧ ((x = .non ∧ ∀ d, H d = none → Q (.ref d) (upd H d (.lst []))) ∨ ∃ (l : Addr) (xs : List V), x = .ref l ∧ SqL K H l xs ∧ ∀ d, H d = none → Q (.ref d) (upd H d (.lst xs)))
def spCS (K : PySem.W.Frag) (MB RB BB : Addr) : Sp := fun vs H Q _ => ∃ (s w m r b : Addr) (ss ws : List Str) (as bs cs : List Addr) (ms : List MkD) (rs : List RlD) (ps : List PtD), vs = [.ref s, .ref w, .ref m, .ref r, .ref b] ∧ SqL K H s (ss.map V.str) ∧ SqL K H w (ws.map V.str) ∧ SqL K H m (as.map V.ref) ∧ AllAt (MkAt K MB H) as ms ∧ SqL K H r (bs.map V.ref) ∧ AllAt (RlAt K RB H) bs rs ∧ SqL K H b (cs.map V.ref) ∧ AllAt (BrAt K BB H) cs ps ∧ SchOk ss ws ms rs ps ∧ ∀ H', Same H H' → Q .non H'
theorem noTw_of {zs : List Str} (h : zs.Nodup) : NoTw (zs.map V.str) := fun i x e => by
  rw [List.getElem?_map] at e
  obtain ⟨z, ez, rfl⟩ := Option.map_eq_some_iff.mp e
  rw [← List.map_take, inV_strs]
  refine decide_eq_false fun hm => ?_
  obtain ⟨j, hj⟩ := List.mem_iff_getElem?.mp hm
  have hlt : j < i := by
    have q := (List.getElem?_eq_some_iff.mp hj).1
    rw [List.length_take] at q
    omega
  rw [List.getElem?_take_of_lt hlt] at hj
  have hil := (List.getElem?_eq_some_iff.mp ez).1
  have hjl := (List.getElem?_eq_some_iff.mp hj).1
  exact (List.pairwise_iff_getElem.mp h) j i hjl hil hlt ((List.getElem?_eq_some_iff.mp hj).2.trans (List.getElem?_eq_some_iff.mp ez).2.symm)
theorem RlAt.pv {K : PySem.W.Frag} {mg : Str → Option Value} {RB fR : Addr} {H : Hp} {a : Addr} {x : RlD} (T : TxRul K mg RB fR) (h : RlAt K RB H a x) : PvAt K H a x.p.vars := by
  obtain ⟨d, t1, t2, t3, ps, qs, a1, a2, a3, _⟩ := h
  exact ⟨RB, d, _, t1, ps, a1, T.cl, T.nv, rulF_vars _ _ _ _ _, a2, a3⟩
theorem BrAt.pv {K : PySem.W.Frag} {mg : Str → Option Value} {BB fB : Addr} {H : Hp} {a : Addr} {x : PtD} (T : TxBar K mg BB fB) (h : BrAt K BB H a x) : PvAt K H a x.vars := by
  obtain ⟨d, t1, t2, ps, qs, a1, a2, a3, _⟩ := h
  exact ⟨BB, d, _, t1, ps, a1, T.cl, T.nv, barF_vars _ _ _, a2, a3⟩
theorem AllAt.map {α β : Type} {R : Addr → β → Prop} {f : α → β} : ∀ {as : List Addr} {xs : List α}, AllAt (fun a x => R a (f x)) as xs → AllAt R as (xs.map f)
  | [], [], _ => True.intro
  | _ :: _, _ :: _, q => ⟨q.1, AllAt.map q.2⟩
  | [], _ :: _, q => q.elim
  | _ :: _, [], q => q.elim
section
variable {P : Program} {w : World} {K : PySem.W.Frag} {mg : Str → Option Value} {base : Heap}
theorem ok_rnv {f fN : Addr} {fd fdN : FuncData} (F : Fun K "refuse_no_name" "refuse_no_name" sRN f fd) (D : Dn K mg "is_name" sName ["text"] fN fdN) (GN : FnOk P w K mg base CX0 1 fN fdN ["text"] spName) : FnOk P w K mg base CX0 2 f fd ["texts"] (spRNv K) := by
  refine F.ok scRN (fun vs H Q E h => ?_) (fun cdv A outer s H vs Q E hr h => ?_)
  · obtain ⟨l, zs, rfl, _⟩ := h
    rfl
  · obtain ⟨l, zs, rfl, hl, hn, k⟩ := h
    refine ⟨_, (pss_one (ps_for PassesOwn.never rfl (pi_list (pv 0)) (pg_name (i := 1) scRN.nd rfl (Or.inl rfl)) (pss_one (ps_if (pt_not (pt_val (pe_call GN hr rfl D.g D.F.kp D.b .nil pass0 (pa_cons (pv 1) pa_nil)))) (pss_one ps_never) pss_nil)))), ?_⟩
    refine ⟨_, rfl, l, rfl, ⟨_, hl⟩, for_list (K := K) (a := l) (xs := zs.map V.str) (fun i σ H' => (∃ v, σ = [some (.ref l), v]) ∧ Same H H') ⟨⟨none, rfl⟩, Same.refl H⟩ (fun i σ H' _ p => p.2.seq hl) ?_ (fun σ H' p => k H' p.2)⟩
    rintro i y σ H' hi ⟨⟨v, rfl⟩, hS⟩
    rw [List.getElem?_map] at hi
    obtain ⟨z, hz, rfl⟩ := Option.map_eq_some_iff.mp hi
    have hq := hn z (List.mem_of_getElem? hz)
    refine ⟨_, rfl, z, rfl, Nat.le_trans hq.2 (by decide), fun H2 hS2 => ⟨_, rfl, ?_⟩⟩
    rw [hq.1]
    exact iteF ⟨⟨_, rfl⟩, hS.trans hS2⟩
theorem scOL : FnScope ["rows"] ["rows"] (defScope sOL) := ⟨rfl, rfl, rfl, by decide +kernel, rfl, by decide +kernel, by decide +kernel⟩
theorem ok_ol {f : Addr} {fd : FuncData} (F : Fun K "own_list" "own_list" sOL f fd) (tl : mg "list" = none) : FnOk P w K mg base CX0 1 f fd ["rows"] (spOL K) := by
  refine F.ok scOL (fun vs H Q E h => ?_) (fun cdv A outer s H vs Q E hr h => ?_)
  · obtain ⟨x, rfl, _⟩ := h
    rfl
  · obtain ⟨x, rfl, h⟩ := h
    refine ⟨_, (pss_cons (ps_if (pt_cmp (pc_isN (pv 0))) (pss_one (ps_ret (pe_lst pa_nil))) pss_nil)
      (pss_one (ps_ret (pe_callTy call_list_of (by rfl) tl (by decide +kernel) (pa_cons (pv 0) pa_nil))))), ?_⟩
    refine ⟨_, rfl, _, rfl, ?_⟩
    rcases h with ⟨rfl, k⟩ | ⟨l, xs, rfl, hl, k⟩
    · exact iteT ⟨Nat.zero_le _, fun d hd => k d hd⟩
    · exact iteF ⟨_, rfl, l, _, rfl, .inl hl, fun d hd => k d hd⟩
theorem scCS : FnScope ["sorts", "words", "makings", "rules", "bars", "rule", "bar"] ["sorts", "words", "makings", "rules", "bars"] (defScope sCS) := ⟨rfl, rfl, rfl, by decide +kernel, rfl, by decide +kernel, by decide +kernel⟩
theorem ok_cs {f fRC fRN fRT fRM fNS fRU fNW fF MB fM RB fR BB fB : Addr} {fd dRC dRN dRT dRM dNS dRU dNW dF : FuncData} (F : Fun K "check_scheme" "check_scheme" sCS f fd) (T : TxB mg) (TS : TxS mg) (TM : TxMak K mg MB fM) (TR : TxRul K mg RB fR) (TB : TxBar K mg BB fB)
    (DC : Dn K mg "refuse_count" sRC ["what", "count", "least", "most"] fRC dRC) (DN : Dn K mg "refuse_no_name" sRN ["texts"] fRN dRN) (DT : Dn K mg "refuse_twice" sRT ["names"] fRT dRT) (DM : Dn K mg "refuse_makings_twice" sRMT ["makings"] fRM dRM) (DS : Dn K mg "refuse_no_sort" sRNS ["sorts", "makings", "patterns"] fNS dNS) (DU : Dn K mg "refuse_upward" sRU ["sorts", "makings"] fRU dRU) (DW : Dn K mg "refuse_no_word" sRNW ["words", "makings", "rules", "bars"] fNW dNW) (DF : Dn K mg "first_twice" sFT ["row"] fF dF)
    (GN : FnOk P w K mg base CX0 2 fRN dRN ["texts"] (spRNv K)) (GT : FnOk P w K mg base CX0 2 fRT dRT ["names"] (spFT K)) : FnOk P w K mg base CX0 3 f fd ["sorts", "words", "makings", "rules", "bars"] (spCS K MB RB BB) := by
  have GC : FnOk P w K mg base CX0 1 fRC dRC _ spRC := ok_rc DC.F
  have GM : FnOk P w K mg base CX0 2 fRM dRM _ (spRMT K MB) := ok_rmt DM.F T TM DF
  have GS : FnOk P w K mg base CX0 1 fNS dNS _ (spRNS K MB) := ok_rns DS.F TM
  have GU : FnOk P w K mg base CX0 1 fRU dRU _ (spRU K MB) := ok_ru DU.F TM
  have GW : FnOk P w K mg base CX0 1 fNW dNW _ (spRNW K MB RB BB) := ok_rnw DW.F TM TR TB
  refine F.ok scCS (fun vs H Q E h => ?_) (fun cdv A outer s H vs Q E hr h => ?_)
  · obtain ⟨s, w, m, r, b, ss, ws, as, bs, cs, ms, rs, ps, rfl, _⟩ := h
    rfl
  · obtain ⟨s, w, m, r, b, ss, ws, as, bs, cs, ms, rs, ps, rfl, hs, hw, hm, hms, hr', hrs, hb, hps, ok, k⟩ := h
    have hr1 : Room 1 _ := hr.mono (by decide)
    obtain ⟨t1, g1⟩ := TS.so
    obtain ⟨t2, g2⟩ := TS.wo
    obtain ⟨t3, g3⟩ := TS.ru
    obtain ⟨t4, g4⟩ := TS.ba
    have sl1 := ok.s1
    have sl4 := ok.s4
    have wl1 := ok.w1
    have wl5 := ok.w5
    have rl8 := ok.r8
    have bl4 := ok.b4
    have lr := hrs.len
    have lb := hps.len
    refine ⟨_, (pss_cons (ps_expr (pe_call GC hr1 rfl DC.g DC.F.kp DC.b .nil pass0 (pa_cons pe_str (pa_cons (pe_callB call_len_seq (by rfl) T.len (by decide +kernel) (pa_cons (pv 0) pa_nil)) (pa_cons pe_int (pa_cons (pe_glob (v := .int 4) rfl g1 ⟨t1, rfl⟩) pa_nil))))))
      (pss_cons (ps_expr (pe_call GC hr1 rfl DC.g DC.F.kp DC.b .nil pass0 (pa_cons pe_str (pa_cons (pe_callB call_len_seq (by rfl) T.len (by decide +kernel) (pa_cons (pv 1) pa_nil)) (pa_cons pe_int (pa_cons (pe_glob (v := .int 5) rfl g2 ⟨t2, rfl⟩) pa_nil))))))
      (pss_cons (ps_expr (pe_call GC hr1 rfl DC.g DC.F.kp DC.b .nil pass0 (pa_cons pe_str (pa_cons (pe_callB call_len_seq (by rfl) T.len (by decide +kernel) (pa_cons (pv 3) pa_nil)) (pa_cons pe_int (pa_cons (pe_glob (v := .int 8) rfl g3 ⟨t3, rfl⟩) pa_nil))))))
      (pss_cons (ps_expr (pe_call GC hr1 rfl DC.g DC.F.kp DC.b .nil pass0 (pa_cons pe_str (pa_cons (pe_callB call_len_seq (by rfl) T.len (by decide +kernel) (pa_cons (pv 4) pa_nil)) (pa_cons pe_int (pa_cons (pe_glob (v := .int 4) rfl g4 ⟨t4, rfl⟩) pa_nil))))))
      (pss_cons (ps_expr (pe_call GN hr rfl DN.g DN.F.kp DN.b .nil pass0 (pa_cons (pv 0) pa_nil)))
      (pss_cons (ps_expr (pe_call GN hr rfl DN.g DN.F.kp DN.b .nil pass0 (pa_cons (pv 1) pa_nil)))
      (pss_cons (ps_expr (pe_call GT hr rfl DT.g DT.F.kp DT.b .nil pass0 (pa_cons (pv 0) pa_nil)))
      (pss_cons (ps_expr (pe_call GT hr rfl DT.g DT.F.kp DT.b .nil pass0 (pa_cons (pv 1) pa_nil)))
      (pss_cons (ps_expr (pe_call GM hr rfl DM.g DM.F.kp DM.b .nil pass0 (pa_cons (pv 2) pa_nil)))
      (pss_cons (ps_expr (pe_call GT hr rfl DT.g DT.F.kp DT.b .nil pass0 (pa_cons (pe_lc (own := [("rule", 5)]) (g := gName 5) (te := tFld K (tVar 5) "name") rfl scCS.nd (pi_list (pv 3)) (blkOk_by (N := ["sorts", "words", "makings", "rules", "bars", "rule", "bar"]) (sc := defScope sCS) (by decide +kernel)) (fun _ _ _ _ _ => (pg_name (i := 5) scCS.nd rfl (Or.inl rfl))) (fun _ _ _ _ _ => pts_nil) (fun _ _ _ _ _ => (pe_fld (pv 5) rfl))) pa_nil)))
      (pss_cons (ps_expr (pe_call GT hr rfl DT.g DT.F.kp DT.b .nil pass0 (pa_cons (pe_lc (own := [("bar", 6)]) (g := gName 6) (te := tFld K (tVar 6) "name") rfl scCS.nd (pi_list (pv 4)) (blkOk_by (N := ["sorts", "words", "makings", "rules", "bars", "rule", "bar"]) (sc := defScope sCS) (by decide +kernel)) (fun _ _ _ _ _ => (pg_name (i := 6) scCS.nd rfl (Or.inl rfl))) (fun _ _ _ _ _ => pts_nil) (fun _ _ _ _ _ => (pe_fld (pv 6) rfl))) pa_nil)))
      (pss_cons (ps_expr (pe_call GS hr1 rfl DS.g DS.F.kp DS.b .nil pass0 (pa_cons (pv 0) (pa_cons (pv 2) (pa_cons (pe_lst (pa_star (pv 3) (pa_star (pv 4) pa_nil))) pa_nil)))))
      (pss_cons (ps_expr (pe_call GU hr1 rfl DU.g DU.F.kp DU.b .nil pass0 (pa_cons (pv 0) (pa_cons (pv 2) pa_nil))))
      (pss_one (ps_expr (pe_call GW hr1 rfl DW.g DW.F.kp DW.b .nil pass0 (pa_cons (pv 1) (pa_cons (pv 2) (pa_cons (pv 3) (pa_cons (pv 4) pa_nil)))))))))))))))))))), ?_⟩
    refine ⟨_, rfl, s, _, rfl, .inl hs, _, _, _, _, rfl, by rw [List.length_map]; omega, by rw [List.length_map]; omega, ?_⟩
    refine ⟨_, rfl, w, _, rfl, .inl hw, _, _, _, _, rfl, by rw [List.length_map]; omega, by rw [List.length_map]; omega, ?_⟩
    refine ⟨_, rfl, r, _, rfl, .inl hr', _, _, _, _, rfl, by rw [List.length_map]; omega, by rw [List.length_map]; omega, ?_⟩
    refine ⟨_, rfl, b, _, rfl, .inl hb, _, _, _, _, rfl, by rw [List.length_map]; omega, by rw [List.length_map]; omega, ?_⟩
    refine ⟨_, rfl, s, ss, rfl, hs, ok.sr.nm, fun H1 S1 => ?_⟩
    refine ⟨_, rfl, w, ws, rfl, S1.seq hw, ok.wr.nm, fun H2 S2 => ?_⟩
    have S12 := S1.trans S2
    refine ⟨_, rfl, s, _, rfl, .inl (S12.seq hs), flat_of ss, ok.sr.noTw, fun H3 S3 => ?_⟩
    have S13 := S12.trans S3
    refine ⟨_, rfl, w, _, rfl, .inl (S13.seq hw), flat_of ws, ok.wr.noTw, fun H4 S4 => ?_⟩
    have S14 := S13.trans S4
    refine ⟨_, rfl, m, as, ms, rfl, S14.seq hm, hms.imp fun _ _ q => q.same S14, ok.m9, ok.mt, fun x hx => ⟨ok.so _ (ok.mo x hx).1, ok.so _ (ok.mo x hx).2⟩, fun H5 S5 => ?_⟩
    have S15 := S14.trans S5
    -- names of the rules
    refine ⟨_, rfl, r, rfl, ⟨_, S15.seq hr'⟩, fun D hD => ?_⟩
    refine lc_list (K := K) (a := r) (xs := bs.map V.ref) (fun i H' => Same H5 H' ∧ H' D = some (.lst (((rs.take i).map (·.p.nm)).map V.str))) ⟨Same.upd hD, upd_same⟩ (fun i H' _ p => (S15.trans p.1).seq hr') ?_ ?_
    · rintro i x H' hi ⟨hS, hl⟩
      obtain ⟨a, y, rfl, hy, hat⟩ := hrs.get hi
      obtain ⟨d, t1, t2, t3, us, qs, ha, _⟩ := RlAt.same (S15.trans hS) hat
      have il : i < rs.length := (List.getElem?_eq_some_iff.mp hy).1
      refine ⟨rfl, ?_⟩
      refine ⟨_, rfl, a, RB, d, _, _, rfl, ha, TR.cl, TR.nn, rulF_name _ _ _ _ _, _, hl, ?_, ?_, ?_⟩
      · rw [List.length_map, List.length_map, List.length_take]
        exact Nat.lt_of_le_of_lt (show _ ≤ 100 by omega) (by decide)
      · intro b o h
        rw [upd_ne (ne_of_none h hD)]
        exact hS b o h
      · rw [upd_same, List.take_add_one, hy, List.map_append, List.map_append]
        rfl
    rintro H6 ⟨S6, hl6⟩
    rw [List.length_map, lr, List.take_length] at hl6
    refine ⟨D, _, rfl, .inl (SqL.of hl6), flat_of _, noTw_of ok.rn, fun H7 S7 => ?_⟩
    have S17 := (S15.trans S6).trans S7
    -- names of the bars
    refine ⟨_, rfl, b, rfl, ⟨_, S17.seq hb⟩, fun D2 hD2 => ?_⟩
    refine lc_list (K := K) (a := b) (xs := cs.map V.ref) (fun i H' => Same H7 H' ∧ H' D2 = some (.lst (((ps.take i).map (·.nm)).map V.str))) ⟨Same.upd hD2, upd_same⟩ (fun i H' _ p => (S17.trans p.1).seq hb) ?_ ?_
    · rintro i x H' hi ⟨hS, hl⟩
      obtain ⟨a, y, rfl, hy, hat⟩ := hps.get hi
      obtain ⟨d, t1, t2, us, qs, ha, _⟩ := BrAt.same (S17.trans hS) hat
      have il : i < ps.length := (List.getElem?_eq_some_iff.mp hy).1
      refine ⟨rfl, ?_⟩
      refine ⟨_, rfl, a, BB, d, _, _, rfl, ha, TB.cl, TB.nn, barF_name _ _ _, _, hl, ?_, ?_, ?_⟩
      · rw [List.length_map, List.length_map, List.length_take]
        exact Nat.lt_of_le_of_lt (show _ ≤ 100 by omega) (by decide)
      · intro b o h
        rw [upd_ne (ne_of_none h hD2)]
        exact hS b o h
      · rw [upd_same, List.take_add_one, hy, List.map_append, List.map_append]
        rfl
    rintro H8 ⟨S8, hl8⟩
    rw [List.length_map, lb, List.take_length] at hl8
    refine ⟨D2, _, rfl, .inl (SqL.of hl8), flat_of _, noTw_of ok.bn, fun H9 S9 => ?_⟩
    have S19 := (S17.trans S8).trans S9
    -- sorts
    refine ⟨_, rfl, _, rfl, _, rfl, r, _, rfl, .inr (S19.seq hr'), _, rfl, b, _, rfl, .inr (S19.seq hb), ?_⟩
    show (bs.map V.ref ++ (cs.map V.ref ++ [])).length ≤ sizeLine ∧ _
    rw [show (bs.map V.ref ++ (cs.map V.ref ++ [])) = (bs ++ cs).map V.ref by rw [List.append_nil, List.map_append]]
    refine ⟨Nat.le_trans (show _ ≤ 1000 by rw [List.length_map, List.length_append]; omega) (by decide), fun q hq => ?_⟩
    have Sq : Same H9 (upd H9 q (.lst ((bs ++ cs).map V.ref))) := Same.upd hq
    have eq : (upd H9 q (.lst ((bs ++ cs).map V.ref))) q = some (.lst ((bs ++ cs).map V.ref)) := upd_same
    generalize upd H9 q (.lst ((bs ++ cs).map V.ref)) = Hq at Sq eq
    have S1q := S19.trans Sq
    have pvs : AllAt (PvAt K Hq) (bs ++ cs) (rs.map (·.p.vars) ++ ps.map (·.vars)) := (AllAt.map (f := fun x : RlD => x.p.vars) (hrs.imp fun _ _ z => (z.same S1q).pv TR)).append (AllAt.map (f := fun x : PtD => x.vars) (hps.imp fun _ _ z => (z.same S1q).pv TB))
    refine ⟨s, m, q, ss, as, bs ++ cs, ms, _, rfl, S1q.seq hs, S1q.seq hm, hms.imp fun _ _ z => z.same S1q, SqL.of eq, pvs, ok.m9, ?_, ?_, ok.mo, ?_, fun HA SA => ?_⟩
    · rw [List.length_append, List.length_map, List.length_map]
      omega
    · intro v hv
      rcases List.mem_append.mp hv with z | z
      · obtain ⟨x, hx, rfl⟩ := List.mem_map.mp z
        exact (ok.rv x hx).1
      · obtain ⟨x, hx, rfl⟩ := List.mem_map.mp z
        exact (ok.bv x hx).1
    · intro v hv
      rcases List.mem_append.mp hv with z | z
      · obtain ⟨x, hx, rfl⟩ := List.mem_map.mp z
        exact (ok.rv x hx).2.2.1
      · obtain ⟨x, hx, rfl⟩ := List.mem_map.mp z
        exact (ok.bv x hx).2.2.1
    have S1A := S1q.trans SA
    refine ⟨_, rfl, _, rfl, s, m, ss, as, ms, rfl, S1A.seq hs, S1A.seq hm, hms.imp fun _ _ z => z.same S1A, ok.sr.nd, ok.mu, ?_⟩
    exact ⟨_, rfl, _, rfl, _, rfl, _, rfl, w, m, r, b, ws, as, bs, cs, ms, rs, ps, rfl, S1A.seq hw, S1A.seq hm, hms.imp fun _ _ z => z.same S1A, S1A.seq hr', hrs.imp fun _ _ z => z.same S1A, S1A.seq hb, hps.imp fun _ _ z => z.same S1A, ok.m9, by omega, by omega, ok.ml, fun x hx => (ok.rv x hx).2.1, fun x hx => (ok.bv x hx).2.1, ok.mw, fun x hx => (ok.rv x hx).2.2.2, fun x hx => (ok.bv x hx).2.2.2, fun HB SB => k _ (S1A.trans SB)⟩
end
end Wm
namespace Wm
open PySem L2 StX
def schF (l1 l2 l3 l4 l5 : Addr) : List (Str × V) := putF "own_bars" (.ref l5) (putF "own_rules" (.ref l4) (putF "own_makings" (.ref l3) (putF "own_words" (.ref l2) (putF "own_sorts" (.ref l1) []))))
theorem lookF {f : Str} {v : V} {fs : List (Str × V)} : (putF f v fs).lookup f = some v := by rw [lookup_putF, if_pos rfl]
theorem lookN {f g : Str} {v : V} {fs : List (Str × V)} (h : ¬ g = f) : (putF f v fs).lookup g = fs.lookup g := by rw [lookup_putF, if_neg h]
theorem schF_so (l1 l2 l3 l4 l5 : Addr) : (schF l1 l2 l3 l4 l5).lookup ("own_sorts" : Str) = some (.ref l1) := by
  unfold schF
  rw [lookN (by decide +kernel), lookN (by decide +kernel), lookN (by decide +kernel), lookN (by decide +kernel), lookF]
theorem schF_wo (l1 l2 l3 l4 l5 : Addr) : (schF l1 l2 l3 l4 l5).lookup ("own_words" : Str) = some (.ref l2) := by
  unfold schF
  rw [lookN (by decide +kernel), lookN (by decide +kernel), lookN (by decide +kernel), lookF]
theorem schF_mk (l1 l2 l3 l4 l5 : Addr) : (schF l1 l2 l3 l4 l5).lookup ("own_makings" : Str) = some (.ref l3) := by
  unfold schF
  rw [lookN (by decide +kernel), lookN (by decide +kernel), lookF]
theorem schF_ru (l1 l2 l3 l4 l5 : Addr) : (schF l1 l2 l3 l4 l5).lookup ("own_rules" : Str) = some (.ref l4) := by
  unfold schF
  rw [lookN (by decide +kernel), lookF]
theorem schF_ba (l1 l2 l3 l4 l5 : Addr) : (schF l1 l2 l3 l4 l5).lookup ("own_bars" : Str) = some (.ref l5) := by
  unfold schF
  rw [lookF]
/-- no other field -/
theorem schF_no {g : Str} (h1 : ¬ g = "own_bars") (h2 : ¬ g = "own_rules") (h3 : ¬ g = "own_makings") (h4 : ¬ g = "own_words") (h5 : ¬ g = "own_sorts") (l1 l2 l3 l4 l5 : Addr) : (schF l1 l2 l3 l4 l5).lookup g = none := by
  unfold schF
  rw [lookN h1, lookN h2, lookN h3, lookN h4, lookN h5]
  rfl
structure TxSch (K : PySem.W.Frag) (mg : Str → Option Value) (S fS : Addr) : Prop where
  cl : Cls K S
  n1 : NoAttr K S "own_sorts"
  n2 : NoAttr K S "own_words"
  n3 : NoAttr K S "own_makings"
  n4 : NoAttr K S "own_rules"
  n5 : NoAttr K S "own_bars"
  g : mg "Scheme" = some (.ref S)
  m : Mk K S fS
/-- a scheme at x, of these sorts, words, makings, rules, bars -/
def SchAt (S : Addr) (H : Hp) (x : Addr) (ss ws : List Str) (as bs cs : List Addr) : Prop := ∃ dx l1 l2 l3 l4 l5, H x = some (.ins S dx (schF l1 l2 l3 l4 l5)) ∧ H l1 = some (.lst (ss.map V.str)) ∧ H l2 = some (.lst (ws.map V.str)) ∧ H l3 = some (.lst (as.map V.ref)) ∧ H l4 = some (.lst (bs.map V.ref)) ∧ H l5 = some (.lst (cs.map V.ref))
theorem SchAt.same {S : Addr} {H H' : Hp} {x : Addr} {ss ws : List Str} {as bs cs : List Addr} (s : Same H H') (h : SchAt S H x ss ws as bs cs) : SchAt S H' x ss ws as bs cs := by
  obtain ⟨dx, l1, l2, l3, l4, l5, h0, h1, h2, h3, h4, h5⟩ := h
  exact ⟨dx, l1, l2, l3, l4, l5, s _ _ h0, s _ _ h1, s _ _ h2, s _ _ h3, s _ _ h4, s _ _ h5⟩
/-- what is handed in for a list that may be left out -/
def Own (K : PySem.W.Frag) (H : Hp) (v : V) (xs : List V) : Prop := (v = .non ∧ xs = []) ∨ ∃ l, v = .ref l ∧ SqL K H l xs
theorem Own.same {K : PySem.W.Frag} {H H' : Hp} {v : V} {xs : List V} (s : Same H H') (h : Own K H v xs) : Own K H' v xs := by
  rcases h with h | ⟨l, e, h⟩
  · exact .inl h
  · exact .inr ⟨l, e, s.seq h⟩
def spOL2 (K : PySem.W.Frag) : Sp := fun vs H Q _ => ∃ (x : V) (xs : List V), vs = [x] ∧ Own K H x xs ∧ ∀ d, H d = none → Q (.ref d) (upd H d (.lst xs))
/-- the parts of a whole scheme stand -/
structure Parts (K : PySem.W.Frag) (MB RB BB : Addr) (H : Hp) (as bs cs : List Addr) (ms : List MkD) (rs : List RlD) (ps : List PtD) : Prop where
  am : AllAt (MkAt K MB H) as ms
  ar : AllAt (RlAt K RB H) bs rs
  ab : AllAt (BrAt K BB H) cs ps
theorem Parts.same {K : PySem.W.Frag} {MB RB BB : Addr} {H H' : Hp} {as bs cs : List Addr} {ms : List MkD} {rs : List RlD} {ps : List PtD} (s : Same H H') (h : Parts K MB RB BB H as bs cs ms rs ps) : Parts K MB RB BB H' as bs cs ms rs ps :=
  ⟨h.am.imp fun _ _ q => q.same s, h.ar.imp fun _ _ q => q.same s, h.ab.imp fun _ _ q => q.same s⟩
def spSch (K : PySem.W.Frag) (S MB RB BB : Addr) : Sp := fun vs H Q _ => ∃ (H0 : Hp) (x dx s w : Addr) (vm vr vb : V) (ss ws : List Str) (as bs cs : List Addr) (ms : List MkD) (rs : List RlD) (ps : List PtD), vs = [.ref x, .ref s, .ref w, vm, vr, vb] ∧ Same H0 H ∧ H0 x = none ∧ H x = some (.ins S dx []) ∧ SqL K H0 s (ss.map V.str) ∧ SqL K H0 w (ws.map V.str) ∧
  Own K H0 vm (as.map V.ref) ∧ Own K H0 vr (bs.map V.ref) ∧ Own K H0 vb (cs.map V.ref) ∧ Parts K MB RB BB H0 as bs cs ms rs ps ∧ SchOk ss ws ms rs ps ∧ ∀ H', Same H0 H' → SchAt S H' x ss ws as bs cs → Q .non H'
/-- all but x stands -/
def Keep (x : Addr) (H H' : Hp) : Prop := ∀ a o, a ≠ x → H a = some o → H' a = some o
theorem fstep {H0 H : Hp} {x l S dx : Addr} {fs : List (Str × V)} {f : Str} {xs : List V} (S0 : Same H0 H) (x0 : H0 x = none) (hx : H x = some (.ins S dx fs)) (hl : H l = none) :
    l ≠ x ∧ (upd H l (.lst xs)) x = some (.ins S dx fs) ∧ ∃ H', H' = upd (upd H l (.lst xs)) x (.ins S dx (putF f (.ref l) fs)) ∧ Same H0 H' ∧ H' l = some (.lst xs) ∧ H' x = some (.ins S dx (putF f (.ref l) fs)) ∧ Keep x H H' := by
  have n : l ≠ x := fun z => by
    rw [z, hx] at hl
    cases hl
  refine ⟨n, (upd_ne n.symm).trans hx, _, rfl, ?_, (upd_ne n).trans upd_same, upd_same, ?_⟩
  · intro b o e
    rw [upd_ne (ne_of_none e x0), upd_ne (ne_of_none (S0 b o e) hl)]
    exact S0 b o e
  · intro a o na e
    rw [upd_ne na, upd_ne (ne_of_none e hl)]
    exact e
section
variable {P : Program} {w : World} {K : PySem.W.Frag} {mg : Str → Option Value} {base : Heap}
theorem ok_ol2 {f : Addr} {fd : FuncData} (F : Fun K "own_list" "own_list" sOL f fd) (tl : mg "list" = none) : FnOk P w K mg base CX0 1 f fd ["rows"] (spOL2 K) := by
  refine F.ok scOL (fun vs H Q E h => ?_) (fun cdv A outer s H vs Q E hr h => ?_)
  · obtain ⟨x, xs, rfl, _⟩ := h
    rfl
  · obtain ⟨x, xs, rfl, h, k⟩ := h
    refine ⟨_, (pss_cons (ps_if (pt_cmp (pc_isN (pv 0))) (pss_one (ps_ret (pe_lst pa_nil))) pss_nil)
      (pss_one (ps_ret (pe_callTy call_list_of (by rfl) tl (by decide +kernel) (pa_cons (pv 0) pa_nil))))), ?_⟩
    refine ⟨_, rfl, _, rfl, ?_⟩
    rcases h with ⟨rfl, rfl⟩ | ⟨l, rfl, hl⟩
    · exact iteT ⟨Nat.zero_le _, fun d hd => k d hd⟩
    · exact iteF ⟨_, rfl, l, _, rfl, .inl hl, fun d hd => k d hd⟩
theorem scSch : FnScope ["self", "sorts", "words", "makings", "rules", "bars"] ["self", "sorts", "words", "makings", "rules", "bars"] (defScope sSch) := ⟨rfl, rfl, rfl, by decide +kernel, rfl, by decide +kernel, by decide +kernel⟩
theorem ok_sch {f fO fC S MB RB BB : Addr} {fd dO dC : FuncData} {dvs : List V} (F : FunD K "__init__" "Scheme.__init__" (defArgs sSch) (defBody sSch) (defScope sSch) dvs [] f fd) (tl : mg "list" = none) (TC : TxSch K mg S f) (DO : Dn K mg "own_list" sOL ["rows"] fO dO) (DC : Dn K mg "check_scheme" sCS ["sorts", "words", "makings", "rules", "bars"] fC dC)
    (GC : FnOk P w K mg base CX0 3 fC dC ["sorts", "words", "makings", "rules", "bars"] (spCS K MB RB BB)) : FnOk P w K mg base CX0 4 f fd ["self", "sorts", "words", "makings", "rules", "bars"] (spSch K S MB RB BB) := by
  have GO : FnOk P w K mg base CX0 1 fO dO _ (spOL2 K) := ok_ol2 DO.F tl
  refine F.ok scSch (fun vs H Q E h => ?_) (fun cdv A outer s H vs Q E hr h => ?_)
  · obtain ⟨H0, x, dx, s, w, vm, vr, vb, ss, ws, as, bs, cs, ms, rs, ps, rfl, _⟩ := h
    rfl
  · obtain ⟨H0, x, dx, s, w, vm, vr, vb, ss, ws, as, bs, cs, ms, rs, ps, rfl, S0, x0, hx, hs, hw, hm, hr', hb, pt, ok, k⟩ := h
    have hr1 : Room 1 _ := hr.mono (by decide)
    refine ⟨_, (pss_cons (ps_fld (pv 0) (pe_callTy call_list_of (by rfl) tl (by decide +kernel) (pa_cons (pv 1) pa_nil)) rfl)
      (pss_cons (ps_fld (pv 0) (pe_callTy call_list_of (by rfl) tl (by decide +kernel) (pa_cons (pv 2) pa_nil)) rfl)
      (pss_cons (ps_fld (pv 0) (pe_call GO hr1 rfl DO.g DO.F.kp DO.b .nil pass0 (pa_cons (pv 3) pa_nil)) rfl)
      (pss_cons (ps_fld (pv 0) (pe_call GO hr1 rfl DO.g DO.F.kp DO.b .nil pass0 (pa_cons (pv 4) pa_nil)) rfl)
      (pss_cons (ps_fld (pv 0) (pe_call GO hr1 rfl DO.g DO.F.kp DO.b .nil pass0 (pa_cons (pv 5) pa_nil)) rfl)
      (pss_one (ps_expr (pe_call GC hr rfl DC.g DC.F.kp DC.b .nil pass0 (pa_cons (pe_fld (pv 0) rfl) (pa_cons (pe_fld (pv 0) rfl) (pa_cons (pe_fld (pv 0) rfl) (pa_cons (pe_fld (pv 0) rfl) (pa_cons (pe_fld (pv 0) rfl) pa_nil))))))))))))), ?_⟩
    refine ⟨_, rfl, s, _, rfl, .inl (S0.seq hs), fun l1 h1 => ?_⟩
    obtain ⟨n1, u1, H1, e1, S1, a1, x1, _⟩ := fstep (f := "own_sorts") (xs := ss.map V.str) S0 x0 hx h1
    refine ⟨_, rfl, x, S, dx, _, rfl, u1, TC.cl, TC.n1, by show 0 < 1000; decide, ?_⟩
    rw [← e1]
    clear e1 u1 h1
    refine ⟨_, rfl, w, _, rfl, .inl (S1.seq hw), fun l2 h2 => ?_⟩
    obtain ⟨n2, u2, H2, e2, S2, a2, x2, k2⟩ := fstep (f := "own_words") (xs := ws.map V.str) S1 x0 x1 h2
    refine ⟨_, rfl, x, S, dx, _, rfl, u2, TC.cl, TC.n2, Nat.lt_of_le_of_lt (putF_len _ _ _) (by decide), ?_⟩
    rw [← e2]
    clear e2 u2 h2
    have b1 := k2 _ _ n1 a1
    refine ⟨_, rfl, _, _, rfl, hm.same S2, fun l3 h3 => ?_⟩
    obtain ⟨n3, u3, H3, e3, S3, a3, x3, k3⟩ := fstep (f := "own_makings") (xs := as.map V.ref) S2 x0 x2 h3
    refine ⟨_, rfl, x, S, dx, _, rfl, u3, TC.cl, TC.n3, ?_, ?_⟩
    · have q1 := putF_len "own_sorts" (.ref l1) []
      have q2 := putF_len "own_words" (.ref l2) (putF "own_sorts" (.ref l1) [])
      simp only [List.length_nil] at *
      omega
    rw [← e3]
    clear e3 u3 h3
    have b1 := k3 _ _ n1 b1
    have b2 := k3 _ _ n2 a2
    refine ⟨_, rfl, _, _, rfl, hr'.same S3, fun l4 h4 => ?_⟩
    obtain ⟨n4, u4, H4, e4, S4, a4, x4, k4⟩ := fstep (f := "own_rules") (xs := bs.map V.ref) S3 x0 x3 h4
    refine ⟨_, rfl, x, S, dx, _, rfl, u4, TC.cl, TC.n4, ?_, ?_⟩
    · have q1 := putF_len "own_sorts" (.ref l1) []
      have q2 := putF_len "own_words" (.ref l2) (putF "own_sorts" (.ref l1) [])
      have q3 := putF_len "own_makings" (.ref l3) (putF "own_words" (.ref l2) (putF "own_sorts" (.ref l1) []))
      simp only [List.length_nil] at *
      omega
    rw [← e4]
    clear e4 u4 h4
    have b1 := k4 _ _ n1 b1
    have b2 := k4 _ _ n2 b2
    have b3 := k4 _ _ n3 a3
    refine ⟨_, rfl, _, _, rfl, hb.same S4, fun l5 h5 => ?_⟩
    obtain ⟨n5, u5, H5, e5, S5, a5, x5, k5⟩ := fstep (f := "own_bars") (xs := cs.map V.ref) S4 x0 x4 h5
    refine ⟨_, rfl, x, S, dx, _, rfl, u5, TC.cl, TC.n5, ?_, ?_⟩
    · have q1 := putF_len "own_sorts" (.ref l1) []
      have q2 := putF_len "own_words" (.ref l2) (putF "own_sorts" (.ref l1) [])
      have q3 := putF_len "own_makings" (.ref l3) (putF "own_words" (.ref l2) (putF "own_sorts" (.ref l1) []))
      have q4 := putF_len "own_rules" (.ref l4) (putF "own_makings" (.ref l3) (putF "own_words" (.ref l2) (putF "own_sorts" (.ref l1) [])))
      simp only [List.length_nil] at *
      omega
    rw [← e5]
    clear e5 u5 h5
    have b1 := k5 _ _ n1 b1
    have b2 := k5 _ _ n2 b2
    have b3 := k5 _ _ n3 b3
    have b4 := k5 _ _ n4 a4
    have x5 : H5 x = some (.ins S dx (schF l1 l2 l3 l4 l5)) := x5
    have pt5 := pt.same S5
    refine ⟨_, rfl, x, S, dx, _, _, rfl, x5, TC.cl, TC.n1, schF_so _ _ _ _ _, _, rfl, x, S, dx, _, _, rfl, x5, TC.cl, TC.n2, schF_wo _ _ _ _ _, _, rfl, x, S, dx, _, _, rfl, x5, TC.cl, TC.n3, schF_mk _ _ _ _ _, _, rfl, x, S, dx, _, _, rfl, x5, TC.cl, TC.n4, schF_ru _ _ _ _ _, _, rfl, x, S, dx, _, _, rfl, x5, TC.cl, TC.n5, schF_ba _ _ _ _ _, ?_⟩
    exact ⟨l1, l2, l3, l4, l5, ss, ws, as, bs, cs, ms, rs, ps, rfl, SqL.of b1, SqL.of b2, SqL.of b3, pt5.am, SqL.of b4, pt5.ar, SqL.of a5, pt5.ab, ok, fun H6 S6 => k H6 (S5.trans S6) ⟨dx, l1, l2, l3, l4, l5, S6 _ _ x5, S6 _ _ b1, S6 _ _ b2, S6 _ _ b3, S6 _ _ b4, S6 _ _ a5⟩⟩
/-! ### lists told -/
def spSMk (S : Addr) : Sp := fun vs H Q _ => ∃ (x : Addr) (ss ws : List Str) (as bs cs : List Addr), vs = [.ref x] ∧ SchAt S H x ss ws as bs cs ∧ ∀ l, H l = none → Q (.ref l) (upd H l (.lst (as.map V.ref)))
def spSRu (S : Addr) : Sp := fun vs H Q _ => ∃ (x : Addr) (ss ws : List Str) (as bs cs : List Addr), vs = [.ref x] ∧ SchAt S H x ss ws as bs cs ∧ ∀ l, H l = none → Q (.ref l) (upd H l (.lst (bs.map V.ref)))
def spSBa (S : Addr) : Sp := fun vs H Q _ => ∃ (x : Addr) (ss ws : List Str) (as bs cs : List Addr), vs = [.ref x] ∧ SchAt S H x ss ws as bs cs ∧ ∀ l, H l = none → Q (.ref l) (upd H l (.lst (cs.map V.ref)))
theorem scSMk : FnScope ["self"] ["self"] (defScope sSMk) := ⟨rfl, rfl, rfl, by decide +kernel, rfl, by decide +kernel, by decide +kernel⟩
theorem ok_smk {f S fS : Addr} {fd : FuncData} (F : Fun K "makings" "Scheme.makings" sSMk f fd) (tl : mg "list" = none) (TC : TxSch K mg S fS) : FnOk P w K mg base CX0 1 f fd ["self"] (spSMk S) := by
  refine F.ok scSMk (fun vs H Q E h => ?_) (fun cdv A outer s H vs Q E hr h => ?_)
  · obtain ⟨x, ss, ws, as, bs, cs, rfl, _⟩ := h
    rfl
  · obtain ⟨x, ss, ws, as, bs, cs, rfl, ⟨dx, l1, l2, l3, l4, l5, h0, h1, h2, h3, h4, h5⟩, k⟩ := h
    refine ⟨_, (pss_one (ps_ret (pe_callTy call_list_of (by rfl) tl (by decide +kernel) (pa_cons (pe_fld (pv 0) rfl) pa_nil)))), ?_⟩
    exact ⟨_, rfl, x, S, dx, _, _, rfl, h0, TC.cl, TC.n3, schF_mk _ _ _ _ _, l3, _, rfl, .inl (SqL.of h3), fun l hl => k l hl⟩
theorem scSRu : FnScope ["self"] ["self"] (defScope sSRu) := ⟨rfl, rfl, rfl, by decide +kernel, rfl, by decide +kernel, by decide +kernel⟩
theorem ok_sru {f S fS : Addr} {fd : FuncData} (F : Fun K "rules" "Scheme.rules" sSRu f fd) (tl : mg "list" = none) (TC : TxSch K mg S fS) : FnOk P w K mg base CX0 1 f fd ["self"] (spSRu S) := by
  refine F.ok scSRu (fun vs H Q E h => ?_) (fun cdv A outer s H vs Q E hr h => ?_)
  · obtain ⟨x, ss, ws, as, bs, cs, rfl, _⟩ := h
    rfl
  · obtain ⟨x, ss, ws, as, bs, cs, rfl, ⟨dx, l1, l2, l3, l4, l5, h0, h1, h2, h3, h4, h5⟩, k⟩ := h
    refine ⟨_, (pss_one (ps_ret (pe_callTy call_list_of (by rfl) tl (by decide +kernel) (pa_cons (pe_fld (pv 0) rfl) pa_nil)))), ?_⟩
    exact ⟨_, rfl, x, S, dx, _, _, rfl, h0, TC.cl, TC.n4, schF_ru _ _ _ _ _, l4, _, rfl, .inl (SqL.of h4), fun l hl => k l hl⟩
theorem scSBa : FnScope ["self"] ["self"] (defScope sSBa) := ⟨rfl, rfl, rfl, by decide +kernel, rfl, by decide +kernel, by decide +kernel⟩
theorem ok_sba {f S fS : Addr} {fd : FuncData} (F : Fun K "bars" "Scheme.bars" sSBa f fd) (tl : mg "list" = none) (TC : TxSch K mg S fS) : FnOk P w K mg base CX0 1 f fd ["self"] (spSBa S) := by
  refine F.ok scSBa (fun vs H Q E h => ?_) (fun cdv A outer s H vs Q E hr h => ?_)
  · obtain ⟨x, ss, ws, as, bs, cs, rfl, _⟩ := h
    rfl
  · obtain ⟨x, ss, ws, as, bs, cs, rfl, ⟨dx, l1, l2, l3, l4, l5, h0, h1, h2, h3, h4, h5⟩, k⟩ := h
    refine ⟨_, (pss_one (ps_ret (pe_callTy call_list_of (by rfl) tl (by decide +kernel) (pa_cons (pe_fld (pv 0) rfl) pa_nil)))), ?_⟩
    exact ⟨_, rfl, x, S, dx, _, _, rfl, h0, TC.cl, TC.n5, schF_ba _ _ _ _ _, l5, _, rfl, .inl (SqL.of h5), fun l hl => k l hl⟩
end
end Wm
/-! methods called within a try, by place and by name -/
namespace Wm
open PySem PySem.Spec PyProof.Rows L2
def tMethZ (C : Addr) (m : Str) (sp : Sp) (E : L2.St → XK) (ta : TE) (t : TA) : TE := fun σ H Q => ta σ H fun x H1 => ∃ a dx fs, x = .ref a ∧ H1 a = some (.ins C dx fs) ∧ fs.lookup m = none ∧ t σ H1 fun vs H2 => sp (x :: vs) H2 Q (E σ)
section
variable {X : Cx} {CX : CXT} {k : Nat} {f C : Addr} {fd : FuncData} {ps : List Str} {sp : Sp} {E : L2.St → XK} {m : Str} {pos apos kpos : Pos} {e o : Expr} {es : List Expr} {ta te : TE} {t : TA}
theorem pe_methZ {pl : Sem Bool} (he : PE X o ta) (c : Cls X.K C) (hm : Meth X.K C m f) (F : FnOk X.prog X.w X.K X.mg X.base CX k f fd ps sp) (hr : Room k X.A) (hb : Binds X.K fd ps []) (hx : ∀ σ, PassesAt CX X σ (E σ)) (ha : PA X (e :: es) t)
    (hst : starEach (e :: es) X.env = (false, eval e X.env) :: starEach es X.env := by rfl) (hpl : (backTo pos (starEach es X.env)).any (·.1) = false := by rfl)
    (ht : eval (.Call (.Attribute o m apos) (e :: es) [] pos) X.env = (do
      let ov ← eval o X.env
      standAt apos.atName
      let (f, first) ← holding [ov] (getMethod ov m pl)
      callWith pos f first (backTo pos (starEach (e :: es) X.env)) (backToKw pos (keywordEach [] X.env))) := by rfl) :
    PE X (.Call (.Attribute o m apos) (e :: es) [] pos) (tMethZ C m sp E ta t) := by
  refine ⟨fun pins s σ H Q I h => ?_⟩
  refine PySem.W.methodCall_KW (pl := pl) (thn (he.run pins s σ H _ I h) fun u s1 hh => ?_) ht
  obtain ⟨x, H1, I1, rx, a, dx, fs, ex, ea, l, q⟩ := hh
  subst ex
  obtain rfl : u = Value.ref a := rx
  refine getmeth_ok I1 ea c hm l ?_
  refine PySem.W.callWith_K (first := [.ref a]) (h₀ := X.base) I.ok.mod.kin hm.kp (thn (ha.run pos pins s1 σ H1 _ I1 q) fun us s2 hh => ?_) hst hpl
  obtain ⟨vs, H2, I2, r, q2⟩ := hh
  exact ⟨I2.kIn, run_fnS (us := .ref a :: us) (vs := .ref a :: vs) F hr hb (hx σ) I2 (.cons rfl r) q2⟩
/-- how one keyword is bound behind the object itself -/
def KwOne (K : PySem.W.Frag) (fd : FuncData) (ps : List Str) (x : Str) : Prop := ∀ (s : Shared) (u v : Value), K.In s.heap → BindsTo s fd ⟨[u], [(x, v)]⟩ (ps.zip [u, v])
/-- o.m(x=e) -/
theorem pe_methKZ {pl : Sem Bool} {x : Str} (ho : PE X o ta) (c : Cls X.K C) (hm : Meth X.K C m f) (F : FnOk X.prog X.w X.K X.mg X.base CX k f fd ps sp) (hr : Room k X.A) (hb : KwOne X.K fd ps x) (hx : ∀ σ, PassesAt CX X σ (E σ)) (he : PE X e te)
    (ht : eval (.Call (.Attribute o m apos) [] [⟨some x, e, kpos⟩] pos) X.env = (do
      let ov ← eval o X.env
      standAt apos.atName
      let (f, first) ← holding [ov] (getMethod ov m pl)
      callWith pos f first (backTo pos (starEach [] X.env)) (backToKw pos (keywordEach [⟨some x, e, kpos⟩] X.env))) := by rfl)
    (hall : (backToKw pos (keywordEach [⟨some x, e, kpos⟩] X.env)).all (·.1.isSome) = true := by rfl) (hks : (backToKw pos (keywordEach [⟨some x, e, kpos⟩] X.env)).filterMap (·.1) = [x] := by rfl) (hpl : ((backTo pos (starEach [] X.env)).any (·.1) || (backToKw pos (keywordEach [⟨some x, e, kpos⟩] X.env)).any (·.1.isNone)) = false := by rfl) (hps : ps.length = 2 := by rfl) :
    PE X (.Call (.Attribute o m apos) [] [⟨some x, e, kpos⟩] pos) (tMethZ C m sp E ta (tCons te tNil)) := by
  refine ⟨fun pins s σ H Q I h => ?_⟩
  refine PySem.W.methodCall_KW (pl := pl) (thn (ho.run pins s σ H _ I h) fun u s1 hh => ?_) ht
  obtain ⟨y, H1, I1, rx, a, dx, fs, ex, ea, l, q⟩ := hh
  subst ex
  obtain rfl : u = Value.ref a := rx
  refine getmeth_ok I1 ea c hm l ?_
  have hkw : PK X [⟨some x, e, kpos⟩] (tCons te tNil) := pk_cons he pk_nil
  refine PySem.W.callWith_KW0 (first := [.ref a]) (h₀ := X.base) I.ok.mod.kin hm.kp hall (thn (hkw.run pos pins s1 σ H1 _ I1 q) fun ws s2 hh => ?_) hpl
  obtain ⟨zs, H2, I2, rz, q2⟩ := hh
  refine ⟨I2.kIn, ?_⟩
  rw [hks]
  have hl := F.len _ _ _ _ q2
  cases rz with
  | nil =>
    rw [hps] at hl
    simp at hl
  | @cons v0 u0 vr ur r1 r2 =>
    cases r2 with
    | cons _ _ =>
      rw [hps] at hl
      simp at hl
    | nil =>
      have rv : Vals [V.ref a, v0] [Value.ref a, u0] := .cons rfl (.cons r1 .nil)
      refine wpAny_call (codeAny_mono (F.run X.A X.stack s2 H2 ⟨[Value.ref a], [(x, u0)]⟩ [Value.ref a, u0] [V.ref a, v0] Q (E σ) hr I2.env0 (hb s2 _ u0 I2.kIn) rv q2) fun r s' hq => ?_)
      cases r with
      | error er => exact hx σ pins H2 s2 er s' I2 hq
      | ok fl =>
        cases fl with
        | ret u => exact I2.after hq
        | next => exact False.elim hq
        | brk => exact False.elim hq
        | cont => exact False.elim hq
end
end Wm
namespace Wm
open PySem L2 StX
/-! ### one of a name -/
def spSR1 (K : PySem.W.Frag) (S RB : Addr) : Sp := fun vs H Q _ => ∃ (x : Addr) (z : Str) (ss ws : List Str) (as bs cs : List Addr) (rs : List RlD) (j : Nat) (a : Addr) (y : RlD), vs = [.ref x, .str z] ∧ SchAt S H x ss ws as bs cs ∧ AllAt (RlAt K RB H) bs rs ∧ bs[j]? = some a ∧ rs[j]? = some y ∧ y.p.nm = z ∧ (∀ i y, i < j → rs[i]? = some y → y.p.nm ≠ z) ∧ Q (.ref a) H
def spSB1 (K : PySem.W.Frag) (S BB : Addr) : Sp := fun vs H Q _ => ∃ (x : Addr) (z : Str) (ss ws : List Str) (as bs cs : List Addr) (ps : List PtD) (j : Nat) (a : Addr) (y : PtD), vs = [.ref x, .str z] ∧ SchAt S H x ss ws as bs cs ∧ AllAt (BrAt K BB H) cs ps ∧ cs[j]? = some a ∧ ps[j]? = some y ∧ y.nm = z ∧ (∀ i y, i < j → ps[i]? = some y → y.nm ≠ z) ∧ Q (.ref a) H
def spSR1N (K : PySem.W.Frag) (S RB C : Addr) : Sp := fun vs H Q E => ∃ (x : Addr) (z : Str) (ss ws : List Str) (as bs cs : List Addr) (rs : List RlD), vs = [.ref x, .str z] ∧ SchAt S H x ss ws as bs cs ∧ AllAt (RlAt K RB H) bs rs ∧ (∀ y ∈ rs, y.p.nm ≠ z) ∧ ∀ d H', H d = none → Same H H' → H' d = some (.xd (ef1 "name" "norule" (.str z))) → E (.ref C) (some d) H'
def keepA {α : Type} (q : α → Bool) : List Addr → List α → List Addr
  | a :: as, x :: xs => if q x = true then a :: keepA q as xs else keepA q as xs
  | _, _ => []
theorem keepA_all {α : Type} {R : Addr → α → Prop} {q : α → Bool} : ∀ {as : List Addr} {xs : List α}, AllAt R as xs → AllAt R (keepA q as xs) (xs.filter q)
  | [], [], _ => True.intro
  | a :: as, x :: xs, h => by
    unfold keepA
    cases e : q x with
    | true =>
      rw [List.filter_cons_of_pos e, if_pos rfl]
      exact ⟨h.1, keepA_all h.2⟩
    | false =>
      rw [List.filter_cons_of_neg (by rw [e]; decide), if_neg (by decide)]
      exact keepA_all h.2
  | [], _ :: _, h => h.elim
  | _ :: _, [], h => h.elim
theorem keepA_step {α : Type} {q : α → Bool} : ∀ {as : List Addr} {xs : List α} {i : Nat} {a : Addr} {x : α}, as[i]? = some a → xs[i]? = some x → keepA q (as.take (i + 1)) (xs.take (i + 1)) = keepA q (as.take i) (xs.take i) ++ (if q x = true then [a] else [])
  | [], _, _, _, _, h, _ => by simp at h
  | _ :: _, [], _, _, _, _, h => by simp at h
  | b :: as, y :: xs, 0, a, x, h1, h2 => by
    obtain rfl : b = a := by simpa using h1
    obtain rfl : y = x := by simpa using h2
    simp [keepA]
  | b :: as, y :: xs, i + 1, a, x, h1, h2 => by
    have ih := keepA_step (q := q) (as := as) (xs := xs) (i := i) (a := a) (x := x) (by simpa using h1) (by simpa using h2)
    rw [List.take_succ_cons, List.take_succ_cons, List.take_succ_cons, List.take_succ_cons]
    unfold keepA
    rw [ih]
    split <;> simp
theorem keepA_len {α : Type} (q : α → Bool) : ∀ (as : List Addr) (xs : List α), (keepA q as xs).length ≤ as.length
  | [], _ => Nat.le_refl _
  | _ :: _, [] => Nat.zero_le _
  | a :: as, x :: xs => by
    have ih := keepA_len q as xs
    unfold keepA
    split <;> simp only [List.length_cons] <;> omega
theorem filter_lt {α : Type} {q : α → Bool} {xs : List α} (h : ∃ y ∈ xs, q y = false) : (xs.filter q).length < xs.length := by
  obtain ⟨y, hy, hq⟩ := h
  rcases Nat.lt_or_ge (xs.filter q).length xs.length with z | z
  · exact z
  · have e := List.length_filter_eq_length_iff.mp (Nat.le_antisymm (List.length_filter_le q xs) z) y hy
    rw [hq] at e
    cases e
theorem getA {as : List Addr} {i : Nat} {v : V} (h : (as.map V.ref)[i]? = some v) : ∃ a, v = .ref a ∧ as[i]? = some a := by
  rw [List.getElem?_map] at h
  obtain ⟨a, e, rfl⟩ := Option.map_eq_some_iff.mp h
  exact ⟨a, rfl, e⟩
def spSwr (K : PySem.W.Frag) (S MB RB BB : Addr) : Sp := fun vs H Q _ => ∃ (x r : Addr) (ss ws : List Str) (as bs cs : List Addr) (ms : List MkD) (rs : List RlD) (ps : List PtD), vs = [.ref x, .ref r] ∧ SchAt S H x ss ws as bs cs ∧ Parts K MB RB BB H as (bs ++ [r]) cs ms rs ps ∧ SchOk ss ws ms rs ps ∧ ∀ y H', H y = none → Same H H' → SchAt S H' y ss ws as (bs ++ [r]) cs → Q (.ref y) H'
def spSwb (K : PySem.W.Frag) (S MB RB BB : Addr) : Sp := fun vs H Q _ => ∃ (x r : Addr) (ss ws : List Str) (as bs cs : List Addr) (ms : List MkD) (rs : List RlD) (ps : List PtD), vs = [.ref x, .ref r] ∧ SchAt S H x ss ws as bs cs ∧ Parts K MB RB BB H as bs (cs ++ [r]) ms rs ps ∧ SchOk ss ws ms rs ps ∧ ∀ y H', H y = none → Same H H' → SchAt S H' y ss ws as bs (cs ++ [r]) → Q (.ref y) H'
def spSwm (K : PySem.W.Frag) (S MB RB BB : Addr) : Sp := fun vs H Q _ => ∃ (x r : Addr) (ss ws : List Str) (as bs cs : List Addr) (ms : List MkD) (rs : List RlD) (ps : List PtD), vs = [.ref x, .ref r] ∧ SchAt S H x ss ws as bs cs ∧ Parts K MB RB BB H (as ++ [r]) bs cs ms rs ps ∧ SchOk ss ws ms rs ps ∧ ∀ y H', H y = none → Same H H' → SchAt S H' y ss ws (as ++ [r]) bs cs → Q (.ref y) H'
def qR (z : Str) (y : RlD) : Bool := !decide (y.p.nm = z)
def qB (z : Str) (y : PtD) : Bool := !decide (y.nm = z)
def qM (z t : Str) (y : MkD) : Bool := !decide ((y.mr, y.md) = (z, t))
def spSor (K : PySem.W.Frag) (S MB RB BB : Addr) : Sp := fun vs H Q _ => ∃ (x : Addr) (z : Str) (ss ws : List Str) (as bs cs : List Addr) (ms : List MkD) (rs : List RlD) (ps : List PtD), vs = [.ref x, .str z] ∧ SchAt S H x ss ws as bs cs ∧ Parts K MB RB BB H as bs cs ms rs ps ∧ (∃ y ∈ rs, qR z y = false) ∧ rs.length ≤ 8 ∧ SchOk ss ws ms (rs.filter (qR z)) ps ∧ ∀ y H', H y = none → Same H H' → SchAt S H' y ss ws as (keepA (qR z) bs rs) cs → Q (.ref y) H'
def spSob (K : PySem.W.Frag) (S MB RB BB : Addr) : Sp := fun vs H Q _ => ∃ (x : Addr) (z : Str) (ss ws : List Str) (as bs cs : List Addr) (ms : List MkD) (rs : List RlD) (ps : List PtD), vs = [.ref x, .str z] ∧ SchAt S H x ss ws as bs cs ∧ Parts K MB RB BB H as bs cs ms rs ps ∧ (∃ y ∈ ps, qB z y = false) ∧ ps.length ≤ 4 ∧ SchOk ss ws ms rs (ps.filter (qB z)) ∧ ∀ y H', H y = none → Same H H' → SchAt S H' y ss ws as bs (keepA (qB z) cs ps) → Q (.ref y) H'
def spSom (K : PySem.W.Frag) (S MB RB BB : Addr) : Sp := fun vs H Q _ => ∃ (x : Addr) (z t : Str) (ss ws : List Str) (as bs cs : List Addr) (ms : List MkD) (rs : List RlD) (ps : List PtD), vs = [.ref x, .str z, .str t] ∧ SchAt S H x ss ws as bs cs ∧ Parts K MB RB BB H as bs cs ms rs ps ∧ (∃ y ∈ ms, qM z t y = false) ∧ ms.length ≤ 1000 ∧ (∀ y ∈ ms, okS y.mr ∧ okS y.md) ∧ okS z ∧ okS t ∧ SchOk ss ws (ms.filter (qM z t)) rs ps ∧ ∀ y H', H y = none → Same H H' → SchAt S H' y ss ws (keepA (qM z t) as ms) bs cs → Q (.ref y) H'
theorem sch_new {K : PySem.W.Frag} {S MB RB BB : Addr} {H : Hp} {s w : Addr} {vm vr vb : V} {ss ws : List Str} {as bs cs : List Addr} {ms : List MkD} {rs : List RlD} {ps : List PtD} {R : Addr → Hp → Prop} {E : XK} (hs : SqL K H s (ss.map V.str)) (hw : SqL K H w (ws.map V.str)) (hm : Own K H vm (as.map V.ref)) (hr : Own K H vr (bs.map V.ref)) (hb : Own K H vb (cs.map V.ref)) (pt : Parts K MB RB BB H as bs cs ms rs ps) (ok : SchOk ss ws ms rs ps)
    (k : ∀ x H', H x = none → Same H H' → SchAt S H' x ss ws as bs cs → R x H') : ∀ x dx, H x = none → H dx = none → dx ≠ x → spSch K S MB RB BB [.ref x, .ref s, .ref w, vm, vr, vb] (upd (upd H dx (.own x)) x (.ins S dx [])) (fun v H3 => v = .non ∧ R x H3) E := fun x dx hx hd ne => by
  refine ⟨H, x, dx, s, w, vm, vr, vb, ss, ws, as, bs, cs, ms, rs, ps, rfl, fun b o e => ?_, hx, upd_same, hs, hw, hm, hr, hb, pt, ok, fun H' S' a => ⟨rfl, k x H' hx S' a⟩⟩
  rw [upd_ne (ne_of_none e hx), upd_ne (ne_of_none e hd)]
  exact e
theorem Own.of {K : PySem.W.Frag} {H : Hp} {l : Addr} {xs : List V} (h : H l = some (.lst xs)) : Own K H (.ref l) xs := .inr ⟨l, rfl, SqL.of h⟩
section
variable {P : Program} {w : World} {K : PySem.W.Frag} {mg : Str → Option Value} {base : Heap}
abbrev psSch : List Str := ["self", "sorts", "words", "makings", "rules", "bars"]
theorem scSR1 : FnScope ["self", "name", "rule"] ["self", "name"] (defScope sSR1) := ⟨rfl, rfl, rfl, by decide +kernel, rfl, by decide +kernel, by decide +kernel⟩
theorem ok_sr1 {f S fS RB fR : Addr} {fd : FuncData} (F : Fun K "rule" "Scheme.rule" sSR1 f fd) (TC : TxSch K mg S fS) (TR : TxRul K mg RB fR) : FnOk P w K mg base CX0 1 f fd ["self", "name"] (spSR1 K S RB) := by
  refine F.ok scSR1 (fun vs H Q E h => ?_) (fun cdv A outer s H vs Q E hr h => ?_)
  · obtain ⟨x, z, ss, ws, as, bs, cs, rs, j, a, y, rfl, _⟩ := h
    rfl
  · obtain ⟨x, z, ss, ws, as, bs, cs, rs, j, a, y, rfl, ⟨dx, l1, l2, l3, l4, l5, h0, h1, h2, h3, h4, h5⟩, hat, ha, hy, hz, hn, k⟩ := h
    refine ⟨_, (pss_cons (ps_for PassesOwn.never rfl (pi_list (pe_fld (pv 0) rfl)) (pg_name (i := 2) scSR1.nd rfl (Or.inl rfl)) (pss_one (ps_if (pt_cmpR op_eq (pe_fld (pv 2) rfl) (pv 1) (nomark _)) (pss_one (ps_ret (pv 2))) pss_nil)))
      (pss_one ps_never)), ?_⟩
    refine ⟨_, rfl, x, S, dx, _, _, rfl, h0, TC.cl, TC.n4, schF_ru _ _ _ _ _, l4, rfl, ⟨_, SqL.of h4⟩, for_list (K := K) (a := l4) (xs := bs.map V.ref) (fun i σ H' => H' = H ∧ i ≤ j ∧ ∃ v, σ = [some (.ref x), some (.str z), v]) ⟨rfl, Nat.zero_le _, _, rfl⟩ (fun i σ H' _ p => by rw [p.1]; exact SqL.of h4) ?_ ?_⟩
    · rintro i v σ H' hi ⟨rfl, hij, u, rfl⟩
      obtain ⟨b, y', rfl, hy', d, t1, t2, t3, us, qs, hb, _⟩ := hat.get hi
      obtain ⟨b', e, hb'⟩ := getA hi
      cases e
      refine ⟨_, rfl, b, RB, d, _, _, rfl, hb, TR.cl, TR.nn, rulF_name _ _ _ _ _, _, rfl, rfl, _, rfl, ite2 (fun q => ?_) (fun q => ?_)⟩
      · have e : y'.p.nm = z := by simpa using of_decide_eq_true q
        rcases Nat.lt_or_ge i j with lt | ge
        · exact absurd e (hn i y' lt hy')
        · obtain rfl : i = j := by omega
          rw [ha] at hb'
          cases hb'
          exact ⟨_, rfl, k⟩
      · have e : y'.p.nm ≠ z := fun e => by
          rw [e] at q
          exact q (decide_eq_true rfl)
        refine ⟨rfl, ?_, _, rfl⟩
        rcases Nat.lt_or_ge i j with lt | ge
        · exact lt
        · obtain rfl : i = j := by omega
          rw [hy] at hy'
          cases hy'
          exact absurd hz e
    · rintro σ H' ⟨_, hj, _⟩
      rw [List.length_map] at hj
      exact absurd (List.getElem?_eq_some_iff.mp ha).1 (by omega)
theorem ok_sr1N {f S fS RB fR C fI : Addr} {fd fdI : FuncData} (F : Fun K "rule" "Scheme.rule" sSR1 f fd) (TC : TxSch K mg S fS) (TR : TxRul K mg RB fR) (TE : ErrT K mg "NoRule" "name" C fI) (bI : Binds K fdI ["self", "name"] []) (GI : FnOk P w K mg base CX0 2 fI fdI ["self", "name"] (spE1 C "name" "norule")) : FnOk P w K mg base (L2.CX P w) 4 f fd ["self", "name"] (spSR1N K S RB C) := by
  refine F.okX scSR1 (fun vs H Q E h => ?_) (fun cdv A outer s H vs Q E hr h => ?_)
  · obtain ⟨x, z, ss, ws, as, bs, cs, rs, rfl, _⟩ := h
    rfl
  · obtain ⟨x, z, ss, ws, as, bs, cs, rs, rfl, ⟨dx, l1, l2, l3, l4, l5, h0, h1, h2, h3, h4, h5⟩, hat, hn, k⟩ := h
    refine ⟨_, (pss_cons (ps_for (passes_of rfl) rfl (pi_list (pe_fld (pv 0) rfl)) (pg_name (i := 2) scSR1.nd rfl (Or.inl rfl)) (pss_one (ps_if (pt_cmpR op_eq (pe_fld (pv 2) rfl) (pv 1) (nomark _)) (pss_one (ps_ret (pv 2))) pss_nil)))
      (pss_one (ps_raise rfl (takes_of rfl rfl rfl rfl) (pmk_oex TE.o TE.iC TE.tI GI hr bI .nil pass0 rfl TE.g (pa_cons (pv 1) pa_nil))))), ?_⟩
    refine ⟨_, rfl, x, S, dx, _, _, rfl, h0, TC.cl, TC.n4, schF_ru _ _ _ _ _, l4, rfl, ⟨_, SqL.of h4⟩, for_list (K := K) (a := l4) (xs := bs.map V.ref) (fun i σ H' => H' = H ∧ ∃ v, σ = [some (.ref x), some (.str z), v]) ⟨rfl, _, rfl⟩ (fun i σ H' _ p => by rw [p.1]; exact SqL.of h4) ?_ ?_⟩
    · rintro i v σ H' hi ⟨rfl, u, rfl⟩
      obtain ⟨b, y', rfl, hy', d, t1, t2, t3, us, qs, hb, _⟩ := hat.get hi
      refine ⟨_, rfl, b, RB, d, _, _, rfl, hb, TR.cl, TR.nn, rulF_name _ _ _ _ _, _, rfl, rfl, _, rfl, ite2 (fun q => ?_) (fun q => ?_)⟩
      · have e : y'.p.nm = z := by simpa using of_decide_eq_true q
        exact absurd e (hn y' (List.mem_of_getElem? hy'))
      · exact ⟨rfl, _, rfl⟩
    · rintro σ H' ⟨rfl, v, rfl⟩
      exact ⟨_, rfl, mk1 k⟩
theorem scSB1 : FnScope ["self", "name", "bar"] ["self", "name"] (defScope sSB1) := ⟨rfl, rfl, rfl, by decide +kernel, rfl, by decide +kernel, by decide +kernel⟩
theorem ok_sb1 {f S fS BB fB : Addr} {fd : FuncData} (F : Fun K "bar" "Scheme.bar" sSB1 f fd) (TC : TxSch K mg S fS) (TB : TxBar K mg BB fB) : FnOk P w K mg base CX0 1 f fd ["self", "name"] (spSB1 K S BB) := by
  refine F.ok scSB1 (fun vs H Q E h => ?_) (fun cdv A outer s H vs Q E hr h => ?_)
  · obtain ⟨x, z, ss, ws, as, bs, cs, ps, j, a, y, rfl, _⟩ := h
    rfl
  · obtain ⟨x, z, ss, ws, as, bs, cs, ps, j, a, y, rfl, ⟨dx, l1, l2, l3, l4, l5, h0, h1, h2, h3, h4, h5⟩, hat, ha, hy, hz, hn, k⟩ := h
    refine ⟨_, (pss_cons (ps_for PassesOwn.never rfl (pi_list (pe_fld (pv 0) rfl)) (pg_name (i := 2) scSB1.nd rfl (Or.inl rfl)) (pss_one (ps_if (pt_cmpR op_eq (pe_fld (pv 2) rfl) (pv 1) (nomark _)) (pss_one (ps_ret (pv 2))) pss_nil)))
      (pss_one ps_never)), ?_⟩
    refine ⟨_, rfl, x, S, dx, _, _, rfl, h0, TC.cl, TC.n5, schF_ba _ _ _ _ _, l5, rfl, ⟨_, SqL.of h5⟩, for_list (K := K) (a := l5) (xs := cs.map V.ref) (fun i σ H' => H' = H ∧ i ≤ j ∧ ∃ v, σ = [some (.ref x), some (.str z), v]) ⟨rfl, Nat.zero_le _, _, rfl⟩ (fun i σ H' _ p => by rw [p.1]; exact SqL.of h5) ?_ ?_⟩
    · rintro i v σ H' hi ⟨rfl, hij, u, rfl⟩
      obtain ⟨b, y', rfl, hy', d, t1, t2, us, qs, hb, _⟩ := hat.get hi
      obtain ⟨b', e, hb'⟩ := getA hi
      cases e
      refine ⟨_, rfl, b, BB, d, _, _, rfl, hb, TB.cl, TB.nn, barF_name _ _ _, _, rfl, rfl, _, rfl, ite2 (fun q => ?_) (fun q => ?_)⟩
      · have e : y'.nm = z := by simpa using of_decide_eq_true q
        rcases Nat.lt_or_ge i j with lt | ge
        · exact absurd e (hn i y' lt hy')
        · obtain rfl : i = j := by omega
          rw [ha] at hb'
          cases hb'
          exact ⟨_, rfl, k⟩
      · have e : y'.nm ≠ z := fun e => by
          rw [e] at q
          exact q (decide_eq_true rfl)
        refine ⟨rfl, ?_, _, rfl⟩
        rcases Nat.lt_or_ge i j with lt | ge
        · exact lt
        · obtain rfl : i = j := by omega
          rw [hy] at hy'
          cases hy'
          exact absurd hz e
    · rintro σ H' ⟨_, hj, _⟩
      rw [List.length_map] at hj
      exact absurd (List.getElem?_eq_some_iff.mp ha).1 (by omega)
/-! ### one more -/
theorem scSwr : FnScope ["self", "rule"] ["self", "rule"] (defScope sSwr) := ⟨rfl, rfl, rfl, by decide +kernel, rfl, by decide +kernel, by decide +kernel⟩
theorem ok_swr {f S fS MB RB BB : Addr} {fd dS : FuncData} (F : Fun K "with_rule" "Scheme.with_rule" sSwr f fd) (TC : TxSch K mg S fS) (bS : Binds K dS psSch []) (GS : FnOk P w K mg base CX0 4 fS dS psSch (spSch K S MB RB BB)) : FnOk P w K mg base CX0 6 f fd ["self", "rule"] (spSwr K S MB RB BB) := by
  refine F.ok scSwr (fun vs H Q E h => ?_) (fun cdv A outer s H vs Q E hr h => ?_)
  · obtain ⟨x, r, ss, ws, as, bs, cs, ms, rs, ps, rfl, _⟩ := h
    rfl
  · obtain ⟨x, r, ss, ws, as, bs, cs, ms, rs, ps, rfl, ⟨dx, l1, l2, l3, l4, l5, h0, h1, h2, h3, h4, h5⟩, pt, ok, k⟩ := h
    refine ⟨_, (pss_one (ps_ret (pe_make TC.m GS hr rfl TC.g bS .nil pass0 (pa_cons (pe_fld (pv 0) rfl) (pa_cons (pe_fld (pv 0) rfl) (pa_cons (pe_fld (pv 0) rfl) (pa_cons (pe_lst (pa_star (pe_fld (pv 0) rfl) (pa_cons (pv 1) pa_nil))) (pa_cons (pe_fld (pv 0) rfl) pa_nil)))))))), ?_⟩
    have lb := pt.ar.len
    have r8 := ok.r8
    refine ⟨_, rfl, x, S, dx, _, _, rfl, h0, TC.cl, TC.n1, schF_so _ _ _ _ _, _, rfl, x, S, dx, _, _, rfl, h0, TC.cl, TC.n2, schF_wo _ _ _ _ _, _, rfl, x, S, dx, _, _, rfl, h0, TC.cl, TC.n3, schF_mk _ _ _ _ _, _, rfl, x, S, dx, _, _, rfl, h0, TC.cl, TC.n4, schF_ru _ _ _ _ _, l4, _, rfl, .inr (SqL.of h4), _, rfl, ?_⟩
    show (bs.map V.ref ++ [V.ref r]).length ≤ sizeLine ∧ _
    rw [show bs.map V.ref ++ [V.ref r] = (bs ++ [r]).map V.ref by rw [List.map_append]; rfl]
    refine ⟨Nat.le_trans (show _ ≤ 1000 by rw [List.length_map, lb]; omega) (by decide), fun l hl => ?_⟩
    have Sl : Same H (upd H l (.lst ((bs ++ [r]).map V.ref))) := Same.upd hl
    refine ⟨_, rfl, x, S, dx, _, _, rfl, Sl _ _ h0, TC.cl, TC.n5, schF_ba _ _ _ _ _, ?_⟩
    exact sch_new (SqL.of (Sl _ _ h1)) (SqL.of (Sl _ _ h2)) (.of (Sl _ _ h3)) (.of upd_same) (.of (Sl _ _ h5)) (pt.same Sl) ok fun y H' hy S' a => k y H' (Sl.free hy) (Sl.trans S') a
theorem scSwb : FnScope ["self", "bar"] ["self", "bar"] (defScope sSwb) := ⟨rfl, rfl, rfl, by decide +kernel, rfl, by decide +kernel, by decide +kernel⟩
theorem ok_swb {f S fS MB RB BB : Addr} {fd dS : FuncData} (F : Fun K "with_bar" "Scheme.with_bar" sSwb f fd) (TC : TxSch K mg S fS) (bS : Binds K dS psSch []) (GS : FnOk P w K mg base CX0 4 fS dS psSch (spSch K S MB RB BB)) : FnOk P w K mg base CX0 6 f fd ["self", "bar"] (spSwb K S MB RB BB) := by
  refine F.ok scSwb (fun vs H Q E h => ?_) (fun cdv A outer s H vs Q E hr h => ?_)
  · obtain ⟨x, r, ss, ws, as, bs, cs, ms, rs, ps, rfl, _⟩ := h
    rfl
  · obtain ⟨x, r, ss, ws, as, bs, cs, ms, rs, ps, rfl, ⟨dx, l1, l2, l3, l4, l5, h0, h1, h2, h3, h4, h5⟩, pt, ok, k⟩ := h
    refine ⟨_, (pss_one (ps_ret (pe_make TC.m GS hr rfl TC.g bS .nil pass0 (pa_cons (pe_fld (pv 0) rfl) (pa_cons (pe_fld (pv 0) rfl) (pa_cons (pe_fld (pv 0) rfl) (pa_cons (pe_fld (pv 0) rfl) (pa_cons (pe_lst (pa_star (pe_fld (pv 0) rfl) (pa_cons (pv 1) pa_nil))) pa_nil)))))))), ?_⟩
    have lb := pt.ab.len
    have r8 := ok.b4
    refine ⟨_, rfl, x, S, dx, _, _, rfl, h0, TC.cl, TC.n1, schF_so _ _ _ _ _, _, rfl, x, S, dx, _, _, rfl, h0, TC.cl, TC.n2, schF_wo _ _ _ _ _, _, rfl, x, S, dx, _, _, rfl, h0, TC.cl, TC.n3, schF_mk _ _ _ _ _, _, rfl, x, S, dx, _, _, rfl, h0, TC.cl, TC.n4, schF_ru _ _ _ _ _, _, rfl, x, S, dx, _, _, rfl, h0, TC.cl, TC.n5, schF_ba _ _ _ _ _, l5, _, rfl, .inr (SqL.of h5), _, rfl, ?_⟩
    show (cs.map V.ref ++ [V.ref r]).length ≤ sizeLine ∧ _
    rw [show cs.map V.ref ++ [V.ref r] = (cs ++ [r]).map V.ref by rw [List.map_append]; rfl]
    refine ⟨Nat.le_trans (show _ ≤ 1000 by rw [List.length_map, lb]; omega) (by decide), fun l hl => ?_⟩
    have Sl : Same H (upd H l (.lst ((cs ++ [r]).map V.ref))) := Same.upd hl
    exact sch_new (SqL.of (Sl _ _ h1)) (SqL.of (Sl _ _ h2)) (.of (Sl _ _ h3)) (.of (Sl _ _ h4)) (.of upd_same) (pt.same Sl) ok fun y H' hy S' a => k y H' (Sl.free hy) (Sl.trans S') a
theorem scSwm : FnScope ["self", "making"] ["self", "making"] (defScope sSwm) := ⟨rfl, rfl, rfl, by decide +kernel, rfl, by decide +kernel, by decide +kernel⟩
theorem ok_swm {f S fS MB RB BB : Addr} {fd dS : FuncData} (F : Fun K "with_making" "Scheme.with_making" sSwm f fd) (TC : TxSch K mg S fS) (bS : Binds K dS psSch []) (GS : FnOk P w K mg base CX0 4 fS dS psSch (spSch K S MB RB BB)) : FnOk P w K mg base CX0 6 f fd ["self", "making"] (spSwm K S MB RB BB) := by
  refine F.ok scSwm (fun vs H Q E h => ?_) (fun cdv A outer s H vs Q E hr h => ?_)
  · obtain ⟨x, r, ss, ws, as, bs, cs, ms, rs, ps, rfl, _⟩ := h
    rfl
  · obtain ⟨x, r, ss, ws, as, bs, cs, ms, rs, ps, rfl, ⟨dx, l1, l2, l3, l4, l5, h0, h1, h2, h3, h4, h5⟩, pt, ok, k⟩ := h
    refine ⟨_, (pss_one (ps_ret (pe_make TC.m GS hr rfl TC.g bS .nil pass0 (pa_cons (pe_fld (pv 0) rfl) (pa_cons (pe_fld (pv 0) rfl) (pa_cons (pe_lst (pa_star (pe_fld (pv 0) rfl) (pa_cons (pv 1) pa_nil))) (pa_cons (pe_fld (pv 0) rfl) (pa_cons (pe_fld (pv 0) rfl) pa_nil)))))))), ?_⟩
    have lb := pt.am.len
    have r8 := ok.m9
    refine ⟨_, rfl, x, S, dx, _, _, rfl, h0, TC.cl, TC.n1, schF_so _ _ _ _ _, _, rfl, x, S, dx, _, _, rfl, h0, TC.cl, TC.n2, schF_wo _ _ _ _ _, _, rfl, x, S, dx, _, _, rfl, h0, TC.cl, TC.n3, schF_mk _ _ _ _ _, l3, _, rfl, .inr (SqL.of h3), _, rfl, ?_⟩
    show (as.map V.ref ++ [V.ref r]).length ≤ sizeLine ∧ _
    rw [show as.map V.ref ++ [V.ref r] = (as ++ [r]).map V.ref by rw [List.map_append]; rfl]
    refine ⟨Nat.le_trans (show _ ≤ 1000 by rw [List.length_map, lb]; omega) (by decide), fun l hl => ?_⟩
    have Sl : Same H (upd H l (.lst ((as ++ [r]).map V.ref))) := Same.upd hl
    refine ⟨_, rfl, x, S, dx, _, _, rfl, Sl _ _ h0, TC.cl, TC.n4, schF_ru _ _ _ _ _, _, rfl, x, S, dx, _, _, rfl, Sl _ _ h0, TC.cl, TC.n5, schF_ba _ _ _ _ _, ?_⟩
    exact sch_new (SqL.of (Sl _ _ h1)) (SqL.of (Sl _ _ h2)) (.of upd_same) (.of (Sl _ _ h4)) (.of (Sl _ _ h5)) (pt.same Sl) ok fun y H' hy S' a => k y H' (Sl.free hy) (Sl.trans S') a
/-! ### one less -/
theorem scSor : FnScope ["self", "name", "rules", "rule"] ["self", "name"] (defScope sSor) := ⟨rfl, rfl, rfl, by decide +kernel, rfl, by decide +kernel, by decide +kernel⟩
theorem ok_sor {f S fS MB RB BB fR : Addr} {fd dS : FuncData} (F : Fun K "without_rule" "Scheme.without_rule" sSor f fd) (T : TxB mg) (TC : TxSch K mg S fS) (TR : TxRul K mg RB fR) (bS : Binds K dS psSch []) (GS : FnOk P w K mg base CX0 4 fS dS psSch (spSch K S MB RB BB)) : FnOk P w K mg base CX0 6 f fd ["self", "name"] (spSor K S MB RB BB) := by
  refine F.ok scSor (fun vs H Q E h => ?_) (fun cdv A outer s H vs Q E hr h => ?_)
  · obtain ⟨x, z, ss, ws, as, bs, cs, ms, rs, ps, rfl, _⟩ := h
    rfl
  · obtain ⟨x, z, ss, ws, as, bs, cs, ms, rs, ps, rfl, ⟨dx, l1, l2, l3, l4, l5, h0, h1, h2, h3, h4, h5⟩, pt, hq, r8, ok, k⟩ := h
    refine ⟨_, (pss_cons (ps_setLc (i := 2) (own := [("rule", 3)]) (g := gName 3) (tt := tTest (tOp rNe (tFld K (tVar 3) "name") (tVar 1))) (te := tVar 3) rfl scSor.nd rfl rfl (sw_true rfl rfl rfl (by decide +kernel)) (pi_list (pe_fld (pv 0) rfl)) (blkOk_by (N := ["self", "name", "rules", "rule"]) (sc := defScope sSor) (by decide +kernel)) (fun _ _ _ _ _ => (pg_name (i := 3) scSor.nd rfl (Or.inl rfl))) (fun _ _ _ _ _ => (pts_one (pt_cmpR op_ne (pe_fld (pv 3) rfl) (pv 1) (nomark _)))) (fun _ _ _ _ _ => (pv 3)))
      (pss_cons (ps_if (pt_cmpR op_eq (pe_callB call_len_seq (by rfl) T.len (by decide +kernel) (pa_cons (pv 2) pa_nil)) (pe_callB call_len_seq (by rfl) T.len (by decide +kernel) (pa_cons (pe_fld (pv 0) rfl) pa_nil)) (nomark _)) (pss_one ps_never) pss_nil)
      (pss_one (ps_ret (pe_make TC.m GS hr rfl TC.g bS .nil pass0 (pa_cons (pe_fld (pv 0) rfl) (pa_cons (pe_fld (pv 0) rfl) (pa_cons (pe_fld (pv 0) rfl) (pa_cons (pv 2) (pa_cons (pe_fld (pv 0) rfl) pa_nil)))))))))), ?_⟩
    have lb := pt.ar.len
    refine ⟨_, rfl, x, S, dx, _, _, rfl, h0, TC.cl, TC.n4, schF_ru _ _ _ _ _, l4, rfl, ⟨_, SqL.of h4⟩, fun D hD => ?_⟩
    refine lc_list (K := K) (a := l4) (xs := bs.map V.ref) (fun i H' => Same H H' ∧ H' D = some (.lst ((keepA (qR z) (bs.take i) (rs.take i)).map V.ref))) ⟨Same.upd hD, upd_same⟩ (fun i H' _ p => p.1.seq (SqL.of h4)) ?_ ?_
    · rintro i v H' hi ⟨hS, hl⟩
      obtain ⟨b, y, rfl, hy, hat⟩ := pt.ar.get hi
      obtain ⟨b', e, hb'⟩ := getA hi
      cases e
      obtain ⟨d, t1, t2, t3, us, qs, hb, _⟩ := hat.same hS
      have st := keepA_step (q := qR z) hb' hy
      refine ⟨rfl, ?_⟩
      refine ⟨_, rfl, b, RB, d, _, _, rfl, hb, TR.cl, TR.nn, rulF_name _ _ _ _ _, _, rfl, rfl, _, rfl, ite2 (fun q => ?_) (fun q => ?_)⟩
      · have e : qR z y = true := by
          unfold qR
          simpa using q
        refine ⟨_, rfl, _, hl, ?_, ?_, ?_⟩
        · have h1 := keepA_len (qR z) (bs.take i) (rs.take i)
          rw [List.length_map]
          rw [List.length_take] at h1
          exact Nat.lt_of_le_of_lt (show _ ≤ 100 by omega) (by decide)
        · intro b o h
          rw [upd_ne (ne_of_none h hD)]
          exact hS b o h
        · rw [upd_same, st, if_pos e, List.map_append]
          rfl
      · have e : ¬ qR z y = true := by
          unfold qR
          simpa using q
        refine ⟨hS, ?_⟩
        rw [st, if_neg e, List.append_nil]
        exact hl
    rintro H1 ⟨S1, hl⟩
    rw [List.length_map, show bs.take bs.length = bs from List.take_length, show rs.take bs.length = rs by rw [lb, List.take_length]] at hl
    have pk : Parts K MB RB BB H1 as (keepA (qR z) bs rs) cs ms (rs.filter (qR z)) ps := ⟨(pt.same S1).am, keepA_all (pt.same S1).ar, (pt.same S1).ab⟩
    have ll := pk.ar.len
    have lt := filter_lt hq
    refine ⟨_, rfl, D, _, rfl, .inl (SqL.of hl), _, rfl, x, S, dx, _, _, rfl, S1 _ _ h0, TC.cl, TC.n4, schF_ru _ _ _ _ _, l4, _, rfl, .inl (SqL.of (S1 _ _ h4)), rfl, _, rfl, ?_⟩
    refine ite2 (fun q => ?_) (fun _ => ?_)
    · have q := of_decide_eq_true q
      rw [List.length_map, List.length_map] at q
      have q : (keepA (qR z) bs rs).length = bs.length := by
        injection q with q
        omega
      omega
    refine ⟨_, rfl, x, S, dx, _, _, rfl, S1 _ _ h0, TC.cl, TC.n1, schF_so _ _ _ _ _, _, rfl, x, S, dx, _, _, rfl, S1 _ _ h0, TC.cl, TC.n2, schF_wo _ _ _ _ _, _, rfl, x, S, dx, _, _, rfl, S1 _ _ h0, TC.cl, TC.n3, schF_mk _ _ _ _ _, _, rfl, _, rfl, x, S, dx, _, _, rfl, S1 _ _ h0, TC.cl, TC.n5, schF_ba _ _ _ _ _, ?_⟩
    exact sch_new (SqL.of (S1 _ _ h1)) (SqL.of (S1 _ _ h2)) (.of (S1 _ _ h3)) (.of hl) (.of (S1 _ _ h5)) pk ok fun y H' hy S' a => k y H' (S1.free hy) (S1.trans S') a
theorem scSob : FnScope ["self", "name", "bars", "bar"] ["self", "name"] (defScope sSob) := ⟨rfl, rfl, rfl, by decide +kernel, rfl, by decide +kernel, by decide +kernel⟩
theorem ok_sob {f S fS MB RB BB fB : Addr} {fd dS : FuncData} (F : Fun K "without_bar" "Scheme.without_bar" sSob f fd) (T : TxB mg) (TC : TxSch K mg S fS) (TB : TxBar K mg BB fB) (bS : Binds K dS psSch []) (GS : FnOk P w K mg base CX0 4 fS dS psSch (spSch K S MB RB BB)) : FnOk P w K mg base CX0 6 f fd ["self", "name"] (spSob K S MB RB BB) := by
  refine F.ok scSob (fun vs H Q E h => ?_) (fun cdv A outer s H vs Q E hr h => ?_)
  · obtain ⟨x, z, ss, ws, as, bs, cs, ms, rs, ps, rfl, _⟩ := h
    rfl
  · obtain ⟨x, z, ss, ws, as, bs, cs, ms, rs, ps, rfl, ⟨dx, l1, l2, l3, l4, l5, h0, h1, h2, h3, h4, h5⟩, pt, hq, r8, ok, k⟩ := h
    refine ⟨_, (pss_cons (ps_setLc (i := 2) (own := [("bar", 3)]) (g := gName 3) (tt := tTest (tOp rNe (tFld K (tVar 3) "name") (tVar 1))) (te := tVar 3) rfl scSob.nd rfl rfl (sw_true rfl rfl rfl (by decide +kernel)) (pi_list (pe_fld (pv 0) rfl)) (blkOk_by (N := ["self", "name", "bars", "bar"]) (sc := defScope sSob) (by decide +kernel)) (fun _ _ _ _ _ => (pg_name (i := 3) scSob.nd rfl (Or.inl rfl))) (fun _ _ _ _ _ => (pts_one (pt_cmpR op_ne (pe_fld (pv 3) rfl) (pv 1) (nomark _)))) (fun _ _ _ _ _ => (pv 3)))
      (pss_cons (ps_if (pt_cmpR op_eq (pe_callB call_len_seq (by rfl) T.len (by decide +kernel) (pa_cons (pv 2) pa_nil)) (pe_callB call_len_seq (by rfl) T.len (by decide +kernel) (pa_cons (pe_fld (pv 0) rfl) pa_nil)) (nomark _)) (pss_one ps_never) pss_nil)
      (pss_one (ps_ret (pe_make TC.m GS hr rfl TC.g bS .nil pass0 (pa_cons (pe_fld (pv 0) rfl) (pa_cons (pe_fld (pv 0) rfl) (pa_cons (pe_fld (pv 0) rfl) (pa_cons (pe_fld (pv 0) rfl) (pa_cons (pv 2) pa_nil)))))))))), ?_⟩
    have lb := pt.ab.len
    refine ⟨_, rfl, x, S, dx, _, _, rfl, h0, TC.cl, TC.n5, schF_ba _ _ _ _ _, l5, rfl, ⟨_, SqL.of h5⟩, fun D hD => ?_⟩
    refine lc_list (K := K) (a := l5) (xs := cs.map V.ref) (fun i H' => Same H H' ∧ H' D = some (.lst ((keepA (qB z) (cs.take i) (ps.take i)).map V.ref))) ⟨Same.upd hD, upd_same⟩ (fun i H' _ p => p.1.seq (SqL.of h5)) ?_ ?_
    · rintro i v H' hi ⟨hS, hl⟩
      obtain ⟨b, y, rfl, hy, hat⟩ := pt.ab.get hi
      obtain ⟨b', e, hb'⟩ := getA hi
      cases e
      obtain ⟨d, t1, t2, us, qs, hb, _⟩ := hat.same hS
      have st := keepA_step (q := qB z) hb' hy
      refine ⟨rfl, ?_⟩
      refine ⟨_, rfl, b, BB, d, _, _, rfl, hb, TB.cl, TB.nn, barF_name _ _ _, _, rfl, rfl, _, rfl, ite2 (fun q => ?_) (fun q => ?_)⟩
      · have e : qB z y = true := by
          unfold qB
          simpa using q
        refine ⟨_, rfl, _, hl, ?_, ?_, ?_⟩
        · have h1 := keepA_len (qB z) (cs.take i) (ps.take i)
          rw [List.length_map]
          rw [List.length_take] at h1
          exact Nat.lt_of_le_of_lt (show _ ≤ 100 by omega) (by decide)
        · intro b o h
          rw [upd_ne (ne_of_none h hD)]
          exact hS b o h
        · rw [upd_same, st, if_pos e, List.map_append]
          rfl
      · have e : ¬ qB z y = true := by
          unfold qB
          simpa using q
        refine ⟨hS, ?_⟩
        rw [st, if_neg e, List.append_nil]
        exact hl
    rintro H1 ⟨S1, hl⟩
    rw [List.length_map, show cs.take cs.length = cs from List.take_length, show ps.take cs.length = ps by rw [lb, List.take_length]] at hl
    have pk : Parts K MB RB BB H1 as bs (keepA (qB z) cs ps) ms rs (ps.filter (qB z)) := ⟨(pt.same S1).am, (pt.same S1).ar, keepA_all (pt.same S1).ab⟩
    have ll := pk.ab.len
    have lt := filter_lt hq
    refine ⟨_, rfl, D, _, rfl, .inl (SqL.of hl), _, rfl, x, S, dx, _, _, rfl, S1 _ _ h0, TC.cl, TC.n5, schF_ba _ _ _ _ _, l5, _, rfl, .inl (SqL.of (S1 _ _ h5)), rfl, _, rfl, ?_⟩
    refine ite2 (fun q => ?_) (fun _ => ?_)
    · have q := of_decide_eq_true q
      rw [List.length_map, List.length_map] at q
      have q : (keepA (qB z) cs ps).length = cs.length := by
        injection q with q
        omega
      omega
    refine ⟨_, rfl, x, S, dx, _, _, rfl, S1 _ _ h0, TC.cl, TC.n1, schF_so _ _ _ _ _, _, rfl, x, S, dx, _, _, rfl, S1 _ _ h0, TC.cl, TC.n2, schF_wo _ _ _ _ _, _, rfl, x, S, dx, _, _, rfl, S1 _ _ h0, TC.cl, TC.n3, schF_mk _ _ _ _ _, _, rfl, x, S, dx, _, _, rfl, S1 _ _ h0, TC.cl, TC.n4, schF_ru _ _ _ _ _, _, rfl, ?_⟩
    exact sch_new (SqL.of (S1 _ _ h1)) (SqL.of (S1 _ _ h2)) (.of (S1 _ _ h3)) (.of (S1 _ _ h4)) (.of hl) pk ok fun y H' hy S' a => k y H' (S1.free hy) (S1.trans S') a
theorem scSom : FnScope ["self", "maker", "made", "makings", "making"] ["self", "maker", "made"] (defScope sSom) := ⟨rfl, rfl, rfl, by decide +kernel, rfl, by decide +kernel, by decide +kernel⟩
theorem ok_som {f S fS MB RB BB fM : Addr} {fd dS : FuncData} (F : Fun K "without_making" "Scheme.without_making" sSom f fd) (T : TxB mg) (TC : TxSch K mg S fS) (TM : TxMak K mg MB fM) (bS : Binds K dS psSch []) (GS : FnOk P w K mg base CX0 4 fS dS psSch (spSch K S MB RB BB)) : FnOk P w K mg base CX0 6 f fd ["self", "maker", "made"] (spSom K S MB RB BB) := by
  refine F.ok scSom (fun vs H Q E h => ?_) (fun cdv A outer s H vs Q E hr h => ?_)
  · obtain ⟨x, z, t, ss, ws, as, bs, cs, ms, rs, ps, rfl, _⟩ := h
    rfl
  · obtain ⟨x, z, t, ss, ws, as, bs, cs, ms, rs, ps, rfl, ⟨dx, l1, l2, l3, l4, l5, h0, h1, h2, h3, h4, h5⟩, pt, hq, r8, hok, okz, okt, ok, k⟩ := h
    refine ⟨_, (pss_cons (ps_setLc (i := 3) (own := [("making", 4)]) (g := gName 4) (tt := tTest (tOp (rNeD K) (tTup (tCons (tFld K (tVar 4) "maker") (tCons (tFld K (tVar 4) "made") tNil))) (tTup (tCons (tVar 1) (tCons (tVar 2) tNil))))) (te := tVar 4) rfl scSom.nd rfl rfl (sw_true rfl rfl rfl (by decide +kernel)) (pi_list (pe_fld (pv 0) rfl)) (blkOk_by (N := ["self", "maker", "made", "makings", "making"]) (sc := defScope sSom) (by decide +kernel)) (fun _ _ _ _ _ => (pg_name (i := 4) scSom.nd rfl (Or.inl rfl))) (fun _ _ _ _ _ => (pts_one (pt_cmpR (op_neD hr.units) (pe_tup (pa_cons (pe_fld (pv 4) rfl) (pa_cons (pe_fld (pv 4) rfl) pa_nil))) (pe_tup (pa_cons (pv 1) (pa_cons (pv 2) pa_nil))) (nomark _)))) (fun _ _ _ _ _ => (pv 4)))
      (pss_cons (ps_if (pt_cmpR op_eq (pe_callB call_len_seq (by rfl) T.len (by decide +kernel) (pa_cons (pv 3) pa_nil)) (pe_callB call_len_seq (by rfl) T.len (by decide +kernel) (pa_cons (pe_fld (pv 0) rfl) pa_nil)) (nomark _)) (pss_one ps_never) pss_nil)
      (pss_one (ps_ret (pe_make TC.m GS hr rfl TC.g bS .nil pass0 (pa_cons (pe_fld (pv 0) rfl) (pa_cons (pe_fld (pv 0) rfl) (pa_cons (pv 3) (pa_cons (pe_fld (pv 0) rfl) (pa_cons (pe_fld (pv 0) rfl) pa_nil)))))))))), ?_⟩
    have lb := pt.am.len
    refine ⟨_, rfl, x, S, dx, _, _, rfl, h0, TC.cl, TC.n3, schF_mk _ _ _ _ _, l3, rfl, ⟨_, SqL.of h3⟩, fun D hD => ?_⟩
    refine lc_list (K := K) (a := l3) (xs := as.map V.ref) (fun i H' => Same H H' ∧ H' D = some (.lst ((keepA (qM z t) (as.take i) (ms.take i)).map V.ref))) ⟨Same.upd hD, upd_same⟩ (fun i H' _ p => p.1.seq (SqL.of h3)) ?_ ?_
    · rintro i v H' hi ⟨hS, hl⟩
      obtain ⟨b, y, rfl, hy, hat⟩ := pt.am.get hi
      obtain ⟨b', e, hb'⟩ := getA hi
      cases e
      obtain ⟨d, t1, t2, hb, _⟩ := hat.same hS
      have st := keepA_step (q := qM z t) hb' hy
      have oy := hok y (List.mem_of_getElem? hy)
      refine ⟨rfl, ?_⟩
      refine ⟨_, rfl, b, MB, d, _, _, rfl, hb, TM.cl, TM.nk, makF_maker _ _ _ _, _, rfl, b, MB, d, _, _, rfl, hb, TM.cl, TM.nd, makF_made _ _ _ _, by show 2 ≤ sizeLine; decide, fun p1 hp1 => ?_⟩
      refine ⟨_, rfl, _, rfl, by show 2 ≤ sizeLine; decide, fun p2 hp2 => ?_⟩
      have Sa := Same.upd (o := .tup [.str y.mr, .str y.md]) hp1
      have Sb := Same.upd (o := .tup [.str z, .str t]) hp2
      have hS2 := (hS.trans Sa).trans Sb
      have hl2 := Sb _ _ (Sa _ _ hl)
      have sh : ∀ {u v : Str}, okS u → okS v → SeqAt.shaped (prD (u, v)) = true := fun hu hv => by
        have h := prs_sh (ps := [(_, _)]) (fun p hp => by obtain rfl := List.mem_singleton.mp hp; exact ⟨hu, hv⟩)
        simp [PyData.canLayAll0, PyData.depthAll] at h
        simp [SeqAt.shaped]
        exact ⟨h.1, by omega⟩
      have al : ∀ {H : Hp} {u v : Str}, DpAll K H [.str u, .str v] [.str u, .str v] := .cons (.str _) (.cons (.str _) .nil)
      refine ⟨prD (y.mr, y.md), prD (z, t), .tup (SqT.of (Sb _ _ upd_same)) al, .tup (SqT.of upd_same) al, sh oy.1 oy.2, sh okz okt, _, rfl, ?_⟩
      rw [prD_eqv]
      refine ite2 (fun q => ?_) (fun q => ?_)
      · refine ⟨_, rfl, _, hl2, ?_, ?_, ?_⟩
        · have h1 := keepA_len (qM z t) (as.take i) (ms.take i)
          rw [List.length_map]
          rw [List.length_take] at h1
          exact Nat.lt_of_le_of_lt (show _ ≤ 1000 by omega) (by decide)
        · intro b o h
          rw [upd_ne (ne_of_none h hD)]
          exact hS2 b o h
        · rw [upd_same, st, if_pos (show qM z t y = true from q), List.map_append]
          rfl
      · refine ⟨hS2, ?_⟩
        rw [st, if_neg (show ¬ qM z t y = true from q), List.append_nil]
        exact hl2
    rintro H1 ⟨S1, hl⟩
    rw [List.length_map, show as.take as.length = as from List.take_length, show ms.take as.length = ms by rw [lb, List.take_length]] at hl
    have pk : Parts K MB RB BB H1 (keepA (qM z t) as ms) bs cs (ms.filter (qM z t)) rs ps := ⟨keepA_all (pt.same S1).am, (pt.same S1).ar, (pt.same S1).ab⟩
    have ll := pk.am.len
    have lt := filter_lt hq
    refine ⟨_, rfl, D, _, rfl, .inl (SqL.of hl), _, rfl, x, S, dx, _, _, rfl, S1 _ _ h0, TC.cl, TC.n3, schF_mk _ _ _ _ _, l3, _, rfl, .inl (SqL.of (S1 _ _ h3)), rfl, _, rfl, ?_⟩
    refine ite2 (fun q => ?_) (fun _ => ?_)
    · have q := of_decide_eq_true q
      rw [List.length_map, List.length_map] at q
      have q : (keepA (qM z t) as ms).length = as.length := by
        injection q with q
        omega
      omega
    refine ⟨_, rfl, x, S, dx, _, _, rfl, S1 _ _ h0, TC.cl, TC.n1, schF_so _ _ _ _ _, _, rfl, x, S, dx, _, _, rfl, S1 _ _ h0, TC.cl, TC.n2, schF_wo _ _ _ _ _, _, rfl, _, rfl, x, S, dx, _, _, rfl, S1 _ _ h0, TC.cl, TC.n4, schF_ru _ _ _ _ _, _, rfl, x, S, dx, _, _, rfl, S1 _ _ h0, TC.cl, TC.n5, schF_ba _ _ _ _ _, ?_⟩
    exact sch_new (SqL.of (S1 _ _ h1)) (SqL.of (S1 _ _ h2)) (.of hl) (.of (S1 _ _ h4)) (.of (S1 _ _ h5)) pk ok fun y H' hy S' a => k y H' (S1.free hy) (S1.trans S') a
end
end Wm
/-! methods called by several names; != of two lists that hold the very same objects; what keywords bind -/
namespace Wm
open PySem PySem.Spec PyProof.Rows L2
def tMethK (C : Addr) (m : Str) (n : Nat) (sp : Sp) (gV : List V → List V → List V) (E : L2.St → XK) (ta : TE) (tk : TA) : TE := fun σ H Q => ta σ H fun x H1 => ∃ a dx fs, x = .ref a ∧ H1 a = some (.ins C dx fs) ∧ fs.lookup m = none ∧ tk σ H1 fun zs H2 => zs.length = n ∧ sp (gV [x] zs) H2 Q (E σ)
section
variable {X : Cx} {CX : CXT} {k : Nat} {f C : Addr} {fd : FuncData} {ps ks : List Str} {sp : Sp} {E : L2.St → XK} {m : Str} {pos apos : Pos} {o : Expr} {kws : List Keyword} {ta : TE} {tk : TA} {g : List Value → List Value → List Value} {gV : List V → List V → List V}
/-- o.m(k = v, ..) -/
theorem pe_methKN {pl : Sem Bool} (ho : PE X o ta) (c : Cls X.K C) (hm : Meth X.K C m f) (F : FnOk X.prog X.w X.K X.mg X.base CX k f fd ps sp) (hr : Room k X.A) (hb : KBn X.K fd ps 1 ks g gV) (hx : ∀ σ, PassesAt CX X σ (E σ)) (hkw : PK X kws tk)
    (ht : eval (.Call (.Attribute o m apos) [] kws pos) X.env = (do
      let ov ← eval o X.env
      standAt apos.atName
      let (f, first) ← holding [ov] (getMethod ov m pl)
      callWith pos f first (backTo pos (starEach [] X.env)) (backToKw pos (keywordEach kws X.env))) := by rfl)
    (hall : (backToKw pos (keywordEach kws X.env)).all (·.1.isSome) = true := by rfl) (hks : (backToKw pos (keywordEach kws X.env)).filterMap (·.1) = ks := by rfl) (hpl : ((backTo pos (starEach [] X.env)).any (·.1) || (backToKw pos (keywordEach kws X.env)).any (·.1.isNone)) = false := by rfl) :
    PE X (.Call (.Attribute o m apos) [] kws pos) (tMethK C m ks.length sp gV E ta tk) := by
  refine ⟨fun pins s σ H Q I h => ?_⟩
  refine PySem.W.methodCall_KW (pl := pl) (thn (ho.run pins s σ H _ I h) fun u s1 hh => ?_) ht
  obtain ⟨y, H1, I1, rx, a, dx, fs, ex, ea, l, q⟩ := hh
  subst ex
  obtain rfl : u = Value.ref a := rx
  refine getmeth_ok I1 ea c hm l ?_
  refine PySem.W.callWith_KW0 (first := [.ref a]) (h₀ := X.base) I.ok.mod.kin hm.kp hall (thn (hkw.run pos pins s1 σ H1 _ I1 q) fun ws s2 hh => ?_) hpl
  obtain ⟨zs, H2, I2, rz, l2, q2⟩ := hh
  refine ⟨I2.kIn, ?_⟩
  rw [hks]
  have rv : Vals (gV [V.ref a] zs) (g [Value.ref a] ws) := hb.rel (.cons rfl .nil) rz
  refine wpAny_call (codeAny_mono (F.run X.A X.stack s2 H2 ⟨[Value.ref a], ks.zip ws⟩ (g [Value.ref a] ws) (gV [V.ref a] zs) Q (E σ) hr I2.env0 (hb.to s2 [Value.ref a] ws I2.kIn rfl (rz.length.symm.trans l2)) rv q2) fun r s' hq => ?_)
  cases r with
  | error er => exact hx σ pins H2 s2 er s' I2 hq
  | ok fl =>
    cases fl with
    | ret u => exact I2.after hq
    | next => exact False.elim hq
    | brk => exact False.elim hq
    | cont => exact False.elim hq
end
theorem pass0At {X : Cx} {E : L2.St → XK} : ∀ σ, PassesAt CX0 X σ (E σ) := fun _ _ _ _ _ _ _ h => h.elim
theorem vals_refs : ∀ {as : List Addr} {us : List Value}, Vals (as.map V.ref) us → us = as.map Value.ref
  | [], _, .nil => rfl
  | a :: as, _, .cons h r => by
    have e := vals_refs (as := as) r
    cases h
    rw [e]
    rfl
/-- a != b, two lists that hold the very same objects -/
def rNeS : R2 := fun x y H Q => ∃ (a b : Addr) (as : List Addr), x = .ref a ∧ y = .ref b ∧ H a = some (.lst (as.map V.ref)) ∧ H b = some (.lst (as.map V.ref)) ∧ Q (.bl false) H
theorem op_neS {X : Cx} (hu : X.A.units < cLine) : OpR X (compareOp .NotEq) rNeS := by
  intro pins s σ H x y v u Q I rx ry h
  obtain ⟨a, b, as, rfl, rfl, ha, hb, q⟩ := h
  cases rx
  cases ry
  obtain ⟨z, its, k, r, e⟩ := I.hok a _ ha
  obtain ⟨z2, its2, k2, r2, e2⟩ := I.hok b _ hb
  have h1 := vals_refs r
  have h2 := vals_refs r2
  subst h1
  subst h2
  have hr := SeqAt.RcNeAt.lists (A := X.A) (s := s) (l := a) (b := b) (items := (as.map Value.ref).toArray) (items2 := (as.map Value.ref).toArray) (e := fun _ => true) ⟨_, e, rfl, _, rfl⟩ ⟨_, e2, rfl, _, rfl⟩ rfl hu (fun j h1 h2 => SeqAt.EqAt.same _)
  have e3 : (!(List.range (as.map Value.ref).toArray.size).all fun _ => true) = false := by simp
  rw [e3] at hr
  show wpAny _ _ (richCompare .NotEq (.ref a) (.ref b)) _ _ _
  exact hr X.prog X.w X.xe _ ⟨.bl false, H, I, rfl, q⟩
theorem FunD.kb0 {K : PySem.W.Frag} {x qual : Str} {params : Arguments} {body : List Stmt} {scope : Scope} {f : Addr} {fd : FuncData} {ps : List Str} (F : FunD K x qual params body scope [] [] f fd) (n : Nat) (ks : List Str) (g : {α : Type} → List α → List α → List α)
    (hrel : ∀ {vs zs : List V} {us ws : List Value}, Vals vs us → Vals zs ws → Vals (g vs zs) (g us ws))
    (h : ∀ (kV doc pm : Value) (an : Option Addr) (cdv ct : Value) (us ws : List Value), us.length = n → ws.length = ks.length → bindArgs (PySem.W.fnOf x qual params body scope .none kV doc pm an cdv ct) ⟨us, ks.zip ws⟩ = pure (ps.zip (g us ws))) : KBn K fd ps n ks (fun us ws => g us ws) (fun vs zs => g vs zs) := by
  obtain ⟨oc, od, dV, kV, doc, pm, an, cdv, ct, osl, rfl, lk, hcd, hD, hK⟩ := F.ex
  rcases hD with ⟨_, rfl⟩ | ⟨e, _⟩
  · exact ⟨fun s us ws X l1 l2 => .of_eq (h kV doc pm an cdv ct us ws l1 l2), fun r1 r2 => hrel r1 r2⟩
  · exact absurd rfl e
/-! ### orders of what is handed in by name -/
def g1 {α : Type} : List α → List α → List α
  | [x], [a] => [x, a]
  | _, _ => []
def g2 {α : Type} : List α → List α → List α
  | [x], [a, b] => [x, b, a]
  | _, _ => []
def g3 {α : Type} : List α → List α → List α
  | [x], [c, n, v] => [x, n, v, c]
  | _, _ => []
def g4 {α : Type} : List α → List α → List α
  | [x], [u, d, md, mk] => [x, mk, md, d, u]
  | _, _ => []
def g5 {α : Type} : List α → List α → List α
  | [x], [b, g, c, v, n] => [x, n, v, c, g, b]
  | _, _ => []
def g5s {α : Type} : List α → List α → List α
  | [x], [b, r, w, m, s] => [x, s, w, m, r, b]
  | _, _ => []
def g3s {α : Type} : List α → List α → List α → List α
  | [x], [m0, _, b0], [r, s, w] => [x, s, w, m0, r, b0]
  | _, _, _ => []
theorem g1_rel {vs zs : List V} {us ws : List Value} (h1 : Vals vs us) (h2 : Vals zs ws) : Vals (g1 vs zs) (g1 us ws) := by
  rcases h1 with _ | ⟨a, _ | ⟨_, _⟩⟩
  · exact .nil
  · rcases h2 with _ | ⟨b, _ | ⟨_, _⟩⟩
    · exact .nil
    · exact .cons a (.cons b .nil)
    · exact .nil
  · exact .nil
theorem g2_rel {vs zs : List V} {us ws : List Value} (h1 : Vals vs us) (h2 : Vals zs ws) : Vals (g2 vs zs) (g2 us ws) := by
  rcases h1 with _ | ⟨a, _ | ⟨_, _⟩⟩
  · exact .nil
  · rcases h2 with _ | ⟨b, _ | ⟨c, _ | ⟨_, _⟩⟩⟩
    · exact .nil
    · exact .nil
    · exact .cons a (.cons c (.cons b .nil))
    · exact .nil
  · exact .nil
theorem g3_rel {vs zs : List V} {us ws : List Value} (h1 : Vals vs us) (h2 : Vals zs ws) : Vals (g3 vs zs) (g3 us ws) := by
  rcases h1 with _ | ⟨a, _ | ⟨_, _⟩⟩
  · exact .nil
  · rcases h2 with _ | ⟨b, _ | ⟨c, _ | ⟨d, _ | ⟨_, _⟩⟩⟩⟩
    · exact .nil
    · exact .nil
    · exact .nil
    · exact .cons a (.cons c (.cons d (.cons b .nil)))
    · exact .nil
  · exact .nil
theorem g4_rel {vs zs : List V} {us ws : List Value} (h1 : Vals vs us) (h2 : Vals zs ws) : Vals (g4 vs zs) (g4 us ws) := by
  rcases h1 with _ | ⟨a, _ | ⟨_, _⟩⟩
  · exact .nil
  · rcases h2 with _ | ⟨b, _ | ⟨c, _ | ⟨d, _ | ⟨e, _ | ⟨_, _⟩⟩⟩⟩⟩
    · exact .nil
    · exact .nil
    · exact .nil
    · exact .nil
    · exact .cons a (.cons e (.cons d (.cons c (.cons b .nil))))
    · exact .nil
  · exact .nil
theorem g5_rel {vs zs : List V} {us ws : List Value} (h1 : Vals vs us) (h2 : Vals zs ws) : Vals (g5 vs zs) (g5 us ws) := by
  rcases h1 with _ | ⟨a, _ | ⟨_, _⟩⟩
  · exact .nil
  · rcases h2 with _ | ⟨b, _ | ⟨c, _ | ⟨d, _ | ⟨e, _ | ⟨f, _ | ⟨_, _⟩⟩⟩⟩⟩⟩
    · exact .nil
    · exact .nil
    · exact .nil
    · exact .nil
    · exact .nil
    · exact .cons a (.cons f (.cons e (.cons d (.cons c (.cons b .nil)))))
    · exact .nil
  · exact .nil
theorem g5s_rel {vs zs : List V} {us ws : List Value} (h1 : Vals vs us) (h2 : Vals zs ws) : Vals (g5s vs zs) (g5s us ws) := by
  rcases h1 with _ | ⟨a, _ | ⟨_, _⟩⟩
  · exact .nil
  · rcases h2 with _ | ⟨b, _ | ⟨c, _ | ⟨d, _ | ⟨e, _ | ⟨f, _ | ⟨_, _⟩⟩⟩⟩⟩⟩
    · exact .nil
    · exact .nil
    · exact .nil
    · exact .nil
    · exact .nil
    · exact .cons a (.cons f (.cons d (.cons e (.cons c (.cons b .nil)))))
    · exact .nil
  · exact .nil
theorem g3s_rel {vs ds zs : List V} {us its ws : List Value} (h1 : Vals vs us) (h0 : Vals ds its) (h2 : Vals zs ws) : Vals (g3s vs ds zs) (g3s us its ws) := by
  rcases h1 with _ | ⟨a, _ | ⟨_, _⟩⟩
  · exact .nil
  · rcases h0 with _ | ⟨p, _ | ⟨q, _ | ⟨r, _ | ⟨_, _⟩⟩⟩⟩
    · exact .nil
    · exact .nil
    · exact .nil
    · rcases h2 with _ | ⟨b, _ | ⟨c, _ | ⟨d, _ | ⟨_, _⟩⟩⟩⟩
      · exact .nil
      · exact .nil
      · exact .nil
      · exact .cons a (.cons c (.cons d (.cons p (.cons b (.cons r .nil)))))
      · exact .nil
    · exact .nil
  · exact .nil
end Wm
namespace Wm
open PySem L2 StX
theorem low_let : ∀ c : Fin 123, 97 ≤ c.1 → c.1 ∈ LET := by decide +kernel
theorem fig_fig : ∀ c : Fin 58, 48 ≤ c.1 → c.1 ∈ FIG := by decide +kernel
theorem nm_is {z : Str} (h : NmP z) (hl : z.length ≤ 12) : isNm z = true := by
  obtain ⟨c, cs, e, l, r⟩ := h
  have ol : ∀ d, lowC d → d ∈ LET := fun d q => low_let ⟨d, Nat.lt_succ_of_le q.2⟩ q.1
  have of' : ∀ d, figC d → d ∈ FIG := fun d q => fig_fig ⟨d, Nat.lt_succ_of_le q.2⟩ q.1
  have hlen : z.length = (c :: cs).length := by
    rw [← e]
    exact (Array.length_toList).symm
  unfold isNm
  rw [e]
  have a1 : (c :: cs).all okc = true := by
    rw [List.all_eq_true]
    intro d hd
    unfold okc
    rcases List.mem_cons.mp hd with h | h
    · rw [h, decide_eq_true (ol c l)]
      rfl
    · rcases r d h with q | q
      · rw [decide_eq_true (ol d q)]
        rfl
      · rw [decide_eq_true (of' d q), Bool.or_true]
  have a2 : first (c :: cs) = true := by
    unfold first
    exact decide_eq_true (ol c l)
  rw [a1, a2, decide_eq_true hl]
  simp [hlen]

theorem same_make {H : Hp} {x dx C : Addr} (nx : H x = none) (ndx : H dx = none) : Same H (upd (upd H dx (.own x)) x (.ins C dx [])) := fun b o e => by
  rw [upd_ne (ne_of_none e nx), upd_ne (ne_of_none e ndx)]
  exact e
theorem dueM_all {C : Addr} {zs : List Str} {H0 : Hp} {ok : Hp → Prop} {E : XK} (h : ∀ z ∈ zs, isNm z = true) (k : ∀ H', Same H0 H' → ok H') : DueM C zs H0 ok E := by
  unfold DueM
  have e : zs.find? (fun z => !isNm z) = none := by
    rw [List.find?_eq_none]
    intro z hz
    rw [h z hz]
    decide
  rw [e]
  exact k
theorem rul_new {K : PySem.W.Frag} {C RB : Addr} {H : Hp} {l1 l2 g : Addr} {nm b : Str} {ps qs : List Addr} {vars : List Var} {cs : List Tri} {gt : Tri} {R : Addr → Hp → Prop} {E : XK} (h1 : SqL K H l1 (ps.map V.ref)) (r1 : RowsAt K H ps (vars.map varV)) (h2 : SqL K H l2 (qs.map V.ref)) (r2 : RowsAt K H qs (cs.map triV)) (hg : H g = some (.tup (triV gt)))
    (ok : PatOk vars cs [gt] [b]) (hn : ∀ z ∈ textsL nm vars (cs ++ [gt]), isNm z = true ∧ z.length ≤ 12) (k : ∀ x H', H x = none → Same H H' → RlAt K RB H' x ⟨⟨nm, vars, cs⟩, gt, b⟩ → R x H') :
    ∀ x dx, H x = none → H dx = none → dx ≠ x → spRul K C RB [.ref x, .str nm, .ref l1, .ref l2, .ref g, .str b] (upd (upd H dx (.own x)) x (.ins RB dx [])) (fun v H3 => v = .non ∧ R x H3) E := fun x dx hx hd ne => by
  refine ⟨H, x, dx, l1, l2, g, nm, b, ps, qs, vars, cs, gt, rfl, same_make hx hd, hx, upd_same, h1, r1, h2, r2, hg, ok, fun z hz => Nat.le_trans (hn z hz).2 (by decide), dueM_all (fun z hz => (hn z hz).1) fun H' S' t1 t2 a1 a2 a3 => ⟨rfl, ?_⟩⟩
  exact k x H' hx S' ⟨dx, t1, t2, g, ps, qs, a1, SqT.of a2, r1.same S', SqT.of a3, r2.same S', SqT.of (S' _ _ hg)⟩
theorem bar_new {K : PySem.W.Frag} {C BB : Addr} {H : Hp} {l1 l2 : Addr} {nm : Str} {ps qs : List Addr} {vars : List Var} {cs : List Tri} {R : Addr → Hp → Prop} {E : XK} (h1 : SqL K H l1 (ps.map V.ref)) (r1 : RowsAt K H ps (vars.map varV)) (h2 : SqL K H l2 (qs.map V.ref)) (r2 : RowsAt K H qs (cs.map triV))
    (ok : PatOk vars cs [] []) (hn : ∀ z ∈ textsL nm vars cs, isNm z = true ∧ z.length ≤ 12) (k : ∀ x H', H x = none → Same H H' → BrAt K BB H' x ⟨nm, vars, cs⟩ → R x H') :
    ∀ x dx, H x = none → H dx = none → dx ≠ x → spBar K C BB [.ref x, .str nm, .ref l1, .ref l2] (upd (upd H dx (.own x)) x (.ins BB dx [])) (fun v H3 => v = .non ∧ R x H3) E := fun x dx hx hd ne => by
  refine ⟨H, x, dx, l1, l2, nm, ps, qs, vars, cs, rfl, same_make hx hd, hx, upd_same, h1, r1, h2, r2, ok, fun z hz => Nat.le_trans (hn z hz).2 (by decide), dueM_all (fun z hz => (hn z hz).1) fun H' S' t1 t2 a1 a2 a3 => ⟨rfl, ?_⟩⟩
  exact k x H' hx S' ⟨dx, t1, t2, ps, qs, a1, SqT.of a2, r1.same S', SqT.of a3, r2.same S'⟩
theorem mak_new {K : PySem.W.Frag} {C MB : Addr} {H : Hp} {l1 l2 : Addr} {mk md : Str} {ds us : List Str} {R : Addr → Hp → Prop} {E : XK} (h1 : SqL K H l1 (ds.map V.str)) (h2 : SqL K H l2 (us.map V.str)) (n1 : ds.length ≤ 100) (n2 : us.length ≤ 100) (w1 : NoTw (ds.map V.str)) (w2 : NoTw (us.map V.str))
    (hn : ∀ z ∈ mk :: md :: (ds ++ us), isNm z = true ∧ z.length ≤ 12) (k : ∀ x H', H x = none → Same H H' → MkAt K MB H' x ⟨mk, md, ds, us⟩ → R x H') :
    ∀ x dx, H x = none → H dx = none → dx ≠ x → spMak K C MB [.ref x, .str mk, .str md, .ref l1, .ref l2] (upd (upd H dx (.own x)) x (.ins MB dx [])) (fun v H3 => v = .non ∧ R x H3) E := fun x dx hx hd ne => by
  refine ⟨H, x, dx, l1, l2, mk, md, ds, us, rfl, same_make hx hd, hx, upd_same, h1, h2, n1, n2, w1, w2, fun z hz => Nat.le_trans (hn z hz).2 (by decide), dueM_all (fun z hz => (hn z hz).1) fun H' S' t1 t2 a1 a2 a3 => ⟨rfl, ?_⟩⟩
  exact k x H' hx S' ⟨dx, t1, t2, a1, SqT.of a2, SqT.of a3⟩
/-! ### what the law makes -/
def rlL (a b c d e f : Str) : RlD := ⟨⟨f, [(a, some e), (b, none)], [(a, c, b)]⟩, (a, d, b), b⟩
def brL (b d g : Str) : PtD := ⟨g, [(b, none)], [(b, d, b)]⟩
def mkL (c d e f : Str) : MkD := ⟨e, f, [d, c], [c]⟩
structure Seven (a b c d e f g : Str) : Prop where
  nm : ∀ z ∈ [a, b, c, d, e, f, g], isNm z = true ∧ z.length ≤ 12
  ok : ∀ z ∈ [a, b, c, d, e, f, g], okS z
  nd : [a, b, c, d, e, f, g].Nodup
theorem sch_ok {a b c d e f g : Str} (h : Seven a b c d e f g) {ms : List MkD} {rs : List RlD} {ps : List PtD} (hm : ms = [] ∨ ms = [mkL c d e f]) (hr : rs = [] ∨ rs = [rlL a b c d e f]) (hp : ps = [] ∨ ps = [brL b d g]) : SchOk [e, f] [c, d] ms rs ps := by
  have nd := h.nd
  simp only [List.nodup_cons, List.mem_cons, List.not_mem_nil, or_false, not_or, not_false_eq_true, List.nodup_nil, and_true] at nd
  have mm : ∀ x ∈ ms, x = mkL c d e f := fun x hx => by
    rcases hm with rfl | rfl
    · simp at hx
    · exact List.mem_singleton.mp hx
  have mr : ∀ x ∈ rs, x = rlL a b c d e f := fun x hx => by
    rcases hr with rfl | rfl
    · simp at hx
    · exact List.mem_singleton.mp hx
  have mp : ∀ x ∈ ps, x = brL b d g := fun x hx => by
    rcases hp with rfl | rfl
    · simp at hx
    · exact List.mem_singleton.mp hx
  have ml : ms.length ≤ 1 := by rcases hm with rfl | rfl <;> simp
  have rl : rs.length ≤ 1 := by rcases hr with rfl | rfl <;> simp
  have pl : ps.length ≤ 1 := by rcases hp with rfl | rfl <;> simp
  refine ⟨⟨fun z hz => h.nm z ?_, ?_⟩, ⟨fun z hz => h.nm z ?_, ?_⟩, by show 1 ≤ 2; decide, by show 2 ≤ 4; decide, by show 1 ≤ 2; decide, by show 2 ≤ 5; decide, by omega, by omega, by omega, ?_, ?_, ?_, fun z hz => h.ok z ?_, ?_, ?_, ?_, ?_, ?_, ?_⟩
  · simp at hz ⊢
    rcases hz with rfl | rfl <;> simp
  · simp
    exact nd.2.2.2.2.1.1
  · simp at hz ⊢
    rcases hz with rfl | rfl <;> simp
  · simp
    exact nd.2.2.1.1
  · rcases hm with rfl | rfl <;> simp
  · rcases hr with rfl | rfl <;> simp
  · rcases hp with rfl | rfl <;> simp
  · simp at hz ⊢
    rcases hz with rfl | rfl <;> simp
  · intro x hx
    rw [mm x hx]
    simp [mkL]
  · intro x hx
    rw [mm x hx]
    exact ⟨0, 1, by decide, rfl, rfl⟩
  · intro x hx
    rw [mm x hx]
    exact ⟨by show 2 ≤ 100; decide, by show 1 ≤ 100; decide⟩
  · intro x hx
    rw [mm x hx]
    refine ⟨fun z hz => ?_, fun z hz => ?_⟩
    · simp [mkL] at hz ⊢
      rcases hz with rfl | rfl <;> simp
    · simp [mkL] at hz ⊢
      simp [hz]
  · intro x hx
    rw [mr x hx]
    refine ⟨by show 2 ≤ 4; decide, by show 1 ≤ 3; decide, fun y hy z hz => ?_, fun t ht => ?_, ?_⟩
    · simp [rlL] at hy
      rcases hy with rfl | rfl
      · simp at hz
        simp [hz]
      · simp at hz
    · simp [rlL] at ht
      simp [ht]
    · simp [rlL]
  · intro x hx
    rw [mp x hx]
    refine ⟨by show 1 ≤ 4; decide, by show 1 ≤ 3; decide, fun y hy z hz => ?_, fun t ht => ?_⟩
    · simp [brL] at hy
      rw [hy] at hz
      simp at hz
    · simp [brL] at ht
      simp [ht]
theorem hangs_one {t : Tri} : Hangs [t] := fun i u hi e => by
  cases i with
  | zero => exact absurd hi (Nat.lt_irrefl _)
  | succ i => simp at e
theorem rl_ok {a b c d : Str} {e : Option Str} (h : a ≠ b) : PatOk [(a, e), (b, none)] [(a, c, b)] [(a, d, b)] [b] where
  v1 := by show 1 ≤ 2; decide
  v4 := by show 2 ≤ 4; decide
  c1 := by show 1 ≤ 1; decide
  c3 := by show 1 ≤ 3; decide
  g3 := Nat.le_refl _
  h3 := Nat.le_refl _
  tw := noTw_of (zs := [a, b]) (by simp [h])
  en := fun z hz => by
    simp [endsL] at hz ⊢
    rcases hz with rfl | rfl | rfl | rfl | rfl <;> simp
  lo := fun z hz => by
    simp [endsL] at hz ⊢
    exact hz
  ap := hangs_one
theorem br_ok {b d : Str} : PatOk [(b, none)] [(b, d, b)] [] [] where
  v1 := Nat.le_refl _
  v4 := by show 1 ≤ 4; decide
  c1 := by show 1 ≤ 1; decide
  c3 := by show 1 ≤ 3; decide
  g3 := Nat.zero_le _
  h3 := Nat.zero_le _
  tw := noTw_of (zs := [b]) (by simp)
  en := fun z hz => by
    simp [endsL] at hz ⊢
    exact hz
  lo := fun z hz => by
    simp [endsL] at hz ⊢
    exact hz
  ap := hangs_one
structure TxE (K : PySem.W.Frag) (mg : Str → Option Value) (C : Addr) : Prop where
  gC : mg "NoRule" = some (.ref C)
  te : PySem.W.exmOne K (.ref C) (.ref C) = some true
  xf : XfC K C
  nf : PySem.W.findIn K (.ref C) "name" = some none
def tSuite (C : Addr) : Addr → Value → Option Addr → TS := fun a cls d => tAsg (tOp rEq (tXf a cls d C "name" (tVar 3)) (tVar 1)) (gName 2)
def tBody (K : PySem.W.Frag) (S RB C : Addr) (W : WX) : TS := tDrop (tMethK S "rule" 1 (spSR1N K S RB C) (fun vs zs => g1 vs zs) (WE W) (tVar 0) (tCons (tVar 1) tNil))
def spNon (K : PySem.W.Frag) (S RB : Addr) : Sp := fun vs H Q _ => ∃ (x : Addr) (z : Str) (ss ws : List Str) (as bs cs : List Addr) (rs : List RlD), vs = [.ref x, .str z] ∧ SchAt S H x ss ws as bs cs ∧ AllAt (RlAt K RB H) bs rs ∧ (∀ y ∈ rs, y.p.nm ≠ z) ∧ ∀ H', Same H H' → Q (.bl true) H'
section
variable {P : Program} {w : World} {K : PySem.W.Frag} {mg : Str → Option Value} {base : Heap}
theorem scNon : FnScope ["_law_chart", "_law_text", "_law_found", "_law_e"] ["_law_chart", "_law_text"] (defScope sNon) := ⟨rfl, rfl, rfl, by decide +kernel, rfl, by decide +kernel, by decide +kernel⟩
theorem ok_non {f fR S RB C fS : Addr} {fd dR : FuncData} {gR : List Value → List Value → List Value} (F : Fun K "_law_none" "_law_none" sNon f fd) (TC : TxSch K mg S fS) (TE : TxE K mg C) (mR : Meth K S "rule" fR) (kR : KBn K dR ["self", "name"] 1 ["name"] gR (fun vs zs => g1 vs zs)) (GR : FnOk P w K mg base (L2.CX P w) 4 fR dR ["self", "name"] (spSR1N K S RB C)) : FnOk P w K mg base CX0 5 f fd ["_law_chart", "_law_text"] (spNon K S RB) := by
  refine F.ok scNon (fun vs H Q E h => ?_) (fun cdv A outer s H vs Q E hr h => ?_)
  · obtain ⟨x, z, ss, ws, as, bs, cs, rs, rfl, _⟩ := h
    rfl
  · obtain ⟨x, z, ss, ws, as, bs, cs, rs, rfl, hc, hat, hn, k⟩ := h
    refine ⟨_, (pss_cons (ps_set (i := 2) scNon.nd rfl (Or.inl rfl) pe_bl)
      (pss_cons (ps_try_as (i := 3) (tb := tBody K S RB C) (ts := tSuite C) (Wout := fun _ _ _ _ => False) rfl rfl scNon.nd rfl rfl ⟨rfl, by decide, Or.inl TE.gC⟩ takes0
        (fun W_ pn xe tk _ => (pss_one (ps_expr (pe_methKN (pv 0) TC.cl mR GR hr kR (fun σ => passAt tk σ) (pk_cons (pv 1) pk_nil)))))
        (fun a oe cls d pn hz hf => (pss_one (ps_set (i := 2) scNon.nd rfl (Or.inl rfl) (pe_cmpR op_eq (pe_xf TE.xf TE.nf hz hf (pv 3)) (pv 1) (nomark _))))))
      (pss_one (ps_ret (pv 2))))), ?_⟩
    have hc' := hc
    obtain ⟨dx, l1, l2, l3, l4, l5, h0, _⟩ := hc'
    refine ⟨_, rfl, x, dx, _, rfl, h0, schF_no (by decide +kernel) (by decide +kernel) (by decide +kernel) (by decide +kernel) (by decide +kernel) _ _ _ _ _, _, rfl, rfl, ?_⟩
    refine ⟨x, z, ss, ws, as, bs, cs, rs, rfl, hc, hat, hn, fun dd H9 ndd S9 hx9 => ?_⟩
    refine ⟨true, TE.te, fun _ a0 _ => ?_, fun q => Bool.noConfusion q⟩
    refine ⟨_, rfl, rfl, rfl, dd, _, _, rfl, hx9, rfl, ?_⟩
    refine ⟨_, rfl, rfl, ?_⟩
    dsimp only [List.set_cons_succ, List.set_cons_zero]
    refine ⟨_, rfl, ?_⟩
    rw [decide_eq_true rfl]
    exact k _ S9
end
end Wm
namespace Wm
open PySem L2 StX
def spLaw (K : PySem.W.Frag) : Sp := fun vs H Q _ => ∃ (a : Addr) (ns : List Int), vs = [.ref a] ∧ SqL K H a (ns.map V.int) ∧ ns.length ≤ 63 ∧ ∀ H', Q (.bl true) H'
theorem sameR_self {nm b : Str} {vars : List Var} {cs : List Tri} {g : Tri} (h1 : SeqAt.shaped (rowsD (vars.map varD)) = true) (h2 : SeqAt.shaped (rowsD (cs.map triD)) = true) (h3 : SeqAt.shaped (.tuple (triD g)) = true) : sameR nm vars cs g b nm vars cs g b = true := by
  unfold sameR
  rw [SeqAt.eqv_refl _ (SeqAt.canLay_of_shaped h1), SeqAt.eqv_refl _ (SeqAt.canLay_of_shaped h2), SeqAt.eqv_refl _ (SeqAt.canLay_of_shaped h3)]
  simp
theorem sameB_self {nm : Str} {vars : List Var} {cs : List Tri} (h1 : SeqAt.shaped (rowsD (vars.map varD)) = true) (h2 : SeqAt.shaped (rowsD (cs.map triD)) = true) : sameB nm vars cs nm vars cs = true := by
  unfold sameB
  rw [SeqAt.eqv_refl _ (SeqAt.canLay_of_shaped h1), SeqAt.eqv_refl _ (SeqAt.canLay_of_shaped h2)]
  simp
section
variable {P : Program} {w : World} {K : PySem.W.Frag} {mg : Str → Option Value} {base : Heap}
theorem scLaw : FnScope ["_law_script", "_law_cell", "_law_s", "_law_a", "_law_b", "_law_c", "_law_d", "_law_e", "_law_f", "_law_g", "_law_first", "_law_second", "_law_third", "_law_chart", "_law_other"] ["_law_script"] (defScope sLaw) := ⟨rfl, rfl, rfl, by decide +kernel, rfl, by decide +kernel, by decide +kernel⟩
structure Kws (P : Program) (w : World) (K : PySem.W.Frag) (mg : Str → Option Value) (base : Heap) (C S fS MB fM RB fR BB fB fRE fBE : Addr) (dS dM dR dB dRE dBE : FuncData) : Prop where
  TC : TxSch K mg S fS
  TM : TxMak K mg MB fM
  TR : TxRul K mg RB fR
  TB : TxBar K mg BB fB
  GM : FnOk P w K mg base (L2.CX P w) 5 fM dM ["self", "maker", "made", "down", "up"] (spMak K C MB)
  GR : FnOk P w K mg base (L2.CX P w) 6 fR dR ["self", "name", "variables", "conditions", "gives", "by"] (spRul K C RB)
  GB : FnOk P w K mg base (L2.CX P w) 6 fB dB ["self", "name", "variables", "conditions"] (spBar K C BB)
  GS : FnOk P w K mg base CX0 4 fS dS psSch (spSch K S MB RB BB)
  kM : KBn K dM ["self", "maker", "made", "down", "up"] 1 ["up", "down", "made", "maker"] (fun us ws => g4 us ws) (fun vs zs => g4 vs zs)
  kR : KBn K dR ["self", "name", "variables", "conditions", "gives", "by"] 1 ["by", "gives", "conditions", "variables", "name"] (fun us ws => g5 us ws) (fun vs zs => g5 vs zs)
  kB : KBn K dB ["self", "name", "variables", "conditions"] 1 ["conditions", "name", "variables"] (fun us ws => g3 us ws) (fun vs zs => g3 vs zs)
  kS5 : ∃ its : List Value, KBn K dS psSch 1 ["bars", "rules", "words", "makings", "sorts"] (fun us ws => g5s us ws) (fun vs zs => g5s vs zs)
  kS3 : ∃ its : List Value, KBn K dS psSch 1 ["rules", "sorts", "words"] (fun us ws => g3s us its ws) (fun vs zs => g3s vs [.non, .non, .non] zs)
  tyR : ∀ {H : Hp} {a d : Addr} {fs : List (Str × V)}, H a = some (.ins RB d fs) → TyX K H (.ref a) (.ref RB)
  tyB : ∀ {H : Hp} {a d : Addr} {fs : List (Str × V)}, H a = some (.ins BB d fs) → TyX K H (.ref a) (.ref BB)
  eR : EqNe K RB fRE
  eB : EqNe K BB fBE
  GRE : FnOk P w K mg base CX0 1 fRE dRE ["self", "other"] (spRE K RB)
  GBE : FnOk P w K mg base CX0 1 fBE dBE ["self", "other"] (spBE K BB)
  bRE : Binds K dRE ["self", "other"] []
  bBE : Binds K dBE ["self", "other"] []
structure Mets (P : Program) (w : World) (K : PySem.W.Frag) (mg : Str → Option Value) (base : Heap) (S MB RB BB fSMk fSRu fSBa fR1 fB1 fwr fwb fwm f_or fob fom : Addr) (dSMk dSRu dSBa dR1 dB1 dwr dwb dwm d_or dob dom : FuncData) : Prop where
  mMk : Meth K S "makings" fSMk
  bMk : Binds K dSMk ["self"] []
  GMk : FnOk P w K mg base CX0 1 fSMk dSMk ["self"] (spSMk S)
  mRu : Meth K S "rules" fSRu
  bRu : Binds K dSRu ["self"] []
  GRu : FnOk P w K mg base CX0 1 fSRu dSRu ["self"] (spSRu S)
  mBa : Meth K S "bars" fSBa
  bBa : Binds K dSBa ["self"] []
  GBa : FnOk P w K mg base CX0 1 fSBa dSBa ["self"] (spSBa S)
  mR1 : Meth K S "rule" fR1
  kR1 : KBn K dR1 ["self", "name"] 1 ["name"] (fun us ws => g1 us ws) (fun vs zs => g1 vs zs)
  GR1 : FnOk P w K mg base CX0 1 fR1 dR1 ["self", "name"] (spSR1 K S RB)
  mB1 : Meth K S "bar" fB1
  kB1 : KBn K dB1 ["self", "name"] 1 ["name"] (fun us ws => g1 us ws) (fun vs zs => g1 vs zs)
  GB1 : FnOk P w K mg base CX0 1 fB1 dB1 ["self", "name"] (spSB1 K S BB)
  mwr : Meth K S "with_rule" fwr
  kwr : KBn K dwr ["self", "rule"] 1 ["rule"] (fun us ws => g1 us ws) (fun vs zs => g1 vs zs)
  Gwr : FnOk P w K mg base CX0 6 fwr dwr ["self", "rule"] (spSwr K S MB RB BB)
  mwb : Meth K S "with_bar" fwb
  kwb : KBn K dwb ["self", "bar"] 1 ["bar"] (fun us ws => g1 us ws) (fun vs zs => g1 vs zs)
  Gwb : FnOk P w K mg base CX0 6 fwb dwb ["self", "bar"] (spSwb K S MB RB BB)
  mwm : Meth K S "with_making" fwm
  kwm : KBn K dwm ["self", "making"] 1 ["making"] (fun us ws => g1 us ws) (fun vs zs => g1 vs zs)
  Gwm : FnOk P w K mg base CX0 6 fwm dwm ["self", "making"] (spSwm K S MB RB BB)
  mor : Meth K S "without_rule" f_or
  kor : KBn K d_or ["self", "name"] 1 ["name"] (fun us ws => g1 us ws) (fun vs zs => g1 vs zs)
  Gor : FnOk P w K mg base CX0 6 f_or d_or ["self", "name"] (spSor K S MB RB BB)
  mob : Meth K S "without_bar" fob
  kob : KBn K dob ["self", "name"] 1 ["name"] (fun us ws => g1 us ws) (fun vs zs => g1 vs zs)
  Gob : FnOk P w K mg base CX0 6 fob dob ["self", "name"] (spSob K S MB RB BB)
  mom : Meth K S "without_making" fom
  kom : KBn K dom ["self", "maker", "made"] 1 ["made", "maker"] (fun us ws => g2 us ws) (fun vs zs => g2 vs zs)
  Gom : FnOk P w K mg base CX0 6 fom dom ["self", "maker", "made"] (spSom K S MB RB BB)
theorem ok_law {f fSt fN fNo C S fS MB fM RB fR BB fB fRE fBE fSMk fSRu fSBa fR1 fB1 fwr fwb fwm f_or fob fom : Addr} {fd dSt dN dNo dS dM dR dB dRE dBE dSMk dSRu dSBa dR1 dB1 dwr dwb dwm d_or dob dom : FuncData} (F : Fun K "law" "law" sLaw f fd) (T : TxB mg)
    (KW : Kws P w K mg base C S fS MB fM RB fR BB fB fRE fBE dS dM dR dB dRE dBE) (ME : Mets P w K mg base S MB RB BB fSMk fSRu fSBa fR1 fB1 fwr fwb fwm f_or fob fom dSMk dSRu dSBa dR1 dB1 dwr dwb dwm d_or dob dom)
    (DS : Dn K mg "_law_state" sState ["_law_cell"] fSt dSt) (DN : Dn K mg "_law_names" sNms ["_law_s", "_law_many"] fN dN) (GN : FnOk P w K mg base CX0 3 fN dN ["_law_s", "_law_many"] spNms) (DNo : Dn K mg "_law_none" sNon ["_law_chart", "_law_text"] fNo dNo) (GNo : FnOk P w K mg base CX0 5 fNo dNo ["_law_chart", "_law_text"] (spNon K S RB)) :
    FnOk P w K mg base CX0 8 f fd ["_law_script"] (spLaw K) := by
  have GSt : FnOk P w K mg base CX0 1 fSt dSt _ spState := ok_state DS.F T
  obtain ⟨TC, TM, TR, TB, GM, GR, GB, GS, kM, kR, kB, ⟨i5, kS5⟩, ⟨i3, kS3⟩, tyR, tyB, eR, eB, GRE, GBE, bRE, bBE⟩ := KW
  refine F.ok scLaw (fun vs H Q E h => ?_) (fun cdv A outer s H vs Q E hr h => ?_)
  · obtain ⟨a, ns, rfl, _⟩ := h
    rfl
  · obtain ⟨a, ns, rfl, hA, hlen, kk⟩ := h
    have hr1 : Room 1 _ := hr.mono (by decide)
    have hr2 : Room 2 _ := hr.mono (by decide)
    have hr3 : Room 3 _ := hr.mono (by decide)
    have hr5 : Room 5 _ := hr.mono (by decide)
    have hr6 : Room 6 _ := hr.mono (by decide)
    have hr7 : Room 7 _ := hr
    refine ⟨_, (pss_cons (ps_for PassesOwn.never rfl (pi_list (pe_slice sl_list (pe_op op_catR (pv 0) (pe_lst (pa_cons pe_int pa_nil))) po_none (po_some pe_int))) (pg_name (i := 1) scLaw.nd rfl (Or.inl rfl)) (pss_cons (ps_set (i := 2) scLaw.nd rfl (Or.inl rfl) (pe_call GSt hr1 rfl DS.g DS.F.kp DS.b .nil pass0 (pa_cons (pv 1) pa_nil)))
      (pss_cons (ps_asg (pe_call GN hr3 rfl DN.g DN.F.kp DN.b .nil pass0 (pa_cons (pv 2) (pa_cons pe_int pa_nil))) (pg_lst rfl (pgs_cons (pg_name (i := 3) scLaw.nd rfl (Or.inl rfl)) (pgs_cons (pg_name (i := 4) scLaw.nd rfl (Or.inl rfl)) (pgs_cons (pg_name (i := 5) scLaw.nd rfl (Or.inl rfl)) (pgs_cons (pg_name (i := 6) scLaw.nd rfl (Or.inl rfl)) (pgs_cons (pg_name (i := 7) scLaw.nd rfl (Or.inl rfl)) (pgs_cons (pg_name (i := 8) scLaw.nd rfl (Or.inl rfl)) (pgs_cons (pg_name (i := 9) scLaw.nd rfl (Or.inl rfl)) pgs_nil)))))))))
      (pss_cons (ps_set (i := 10) scLaw.nd rfl (Or.inl rfl) (pe_makeK0 TR.m GR hr7 rfl TR.g kR passL (pk_cons (pv 4) (pk_cons (pe_tup (pa_cons (pv 3) (pa_cons (pv 6) (pa_cons (pv 4) pa_nil)))) (pk_cons (pe_lst (pa_cons (pe_tup (pa_cons (pv 3) (pa_cons (pv 5) (pa_cons (pv 4) pa_nil)))) pa_nil)) (pk_cons (pe_lst (pa_cons (pe_tup (pa_cons (pv 3) (pa_cons (pv 7) pa_nil))) (pa_cons (pe_tup (pa_cons (pv 4) (pa_cons pe_non pa_nil))) pa_nil))) (pk_cons (pv 8) pk_nil)))))))
      (pss_cons (ps_set (i := 11) scLaw.nd rfl (Or.inl rfl) (pe_makeK0 TB.m GB hr7 rfl TB.g kB passL (pk_cons (pe_lst (pa_cons (pe_tup (pa_cons (pv 4) (pa_cons (pv 6) (pa_cons (pv 4) pa_nil)))) pa_nil)) (pk_cons (pv 9) (pk_cons (pe_lst (pa_cons (pe_tup (pa_cons (pv 4) (pa_cons pe_non pa_nil))) pa_nil)) pk_nil)))))
      (pss_cons (ps_set (i := 12) scLaw.nd rfl (Or.inl rfl) (pe_makeK0 TM.m GM hr6 rfl TM.g kM passL (pk_cons (pe_lst (pa_cons (pv 5) pa_nil)) (pk_cons (pe_lst (pa_cons (pv 6) (pa_cons (pv 5) pa_nil))) (pk_cons (pv 8) (pk_cons (pv 7) pk_nil))))))
      (pss_cons (ps_if (PW.pt (pw_or (pt_cmpR (op_neD hr.units) (pe_tup (pa_cons (pe_fld (pv 10) rfl) (pa_cons (pe_fld (pv 10) rfl) (pa_cons (pe_fld (pv 10) rfl) pa_nil)))) (pe_tup (pa_cons (pv 8) (pa_cons (pe_tup (pa_cons (pv 3) (pa_cons (pv 6) (pa_cons (pv 4) pa_nil)))) (pa_cons (pv 4) pa_nil)))) (nomark _)) (pw_or1 (pt_cmpR (op_neD hr.units) (pe_fld (pv 10) rfl) (pe_tup (pa_cons (pe_tup (pa_cons (pv 3) (pa_cons (pv 7) pa_nil))) (pa_cons (pe_tup (pa_cons (pv 4) (pa_cons pe_non pa_nil))) pa_nil))) (nomark _))))) (pss_one (ps_ret pe_bl)) pss_nil)
      (pss_cons (ps_if (PW.pt (pw_or (pt_cmpR (op_neD hr.units) (pe_tup (pa_cons (pe_fld (pv 11) rfl) (pa_cons (pe_fld (pv 11) rfl) pa_nil))) (pe_tup (pa_cons (pv 9) (pa_cons (pe_tup (pa_cons (pe_tup (pa_cons (pv 4) (pa_cons (pv 6) (pa_cons (pv 4) pa_nil)))) pa_nil)) pa_nil))) (nomark _)) (pw_or1 (pt_cmpR (op_neD hr.units) (pe_tup (pa_cons (pe_fld (pv 12) rfl) (pa_cons (pe_fld (pv 12) rfl) pa_nil))) (pe_tup (pa_cons (pe_tup (pa_cons (pv 6) (pa_cons (pv 5) pa_nil))) (pa_cons (pe_tup (pa_cons (pv 5) pa_nil)) pa_nil))) (nomark _))))) (pss_one (ps_ret pe_bl)) pss_nil)
      (pss_cons (ps_set (i := 13) scLaw.nd rfl (Or.inl rfl) (pe_makeK0 TC.m GS hr5 rfl TC.g kS5 pass0 (pk_cons (pe_lst (pa_cons (pv 11) pa_nil)) (pk_cons (pe_lst (pa_cons (pv 10) pa_nil)) (pk_cons (pe_lst (pa_cons (pv 5) (pa_cons (pv 6) pa_nil))) (pk_cons (pe_lst (pa_cons (pv 12) pa_nil)) (pk_cons (pe_lst (pa_cons (pv 7) (pa_cons (pv 8) pa_nil))) pk_nil)))))))
      (pss_cons (ps_if (PW.pt (pw_or (pt_cmpR (op_neO eR GRE hr2 bRE) (pe_methKN (E := fun _ => E0) (pv 13) TC.cl ME.mR1 ME.GR1 hr1 ME.kR1 pass0At (pk_cons (pv 8) pk_nil)) (pv 10) (nomark _)) (pw_or (pt_cmpR (op_neO eB GBE hr2 bBE) (pe_methKN (E := fun _ => E0) (pv 13) TC.cl ME.mB1 ME.GB1 hr1 ME.kB1 pass0At (pk_cons (pv 9) pk_nil)) (pv 11) (nomark _)) (pw_or1 (pt_not (pt_val (pe_call GNo hr5 rfl DNo.g DNo.F.kp DNo.b .nil pass0 (pa_cons (pv 13) (pa_cons (pv 3) pa_nil))))))))) (pss_one (ps_ret pe_bl)) pss_nil)
      (pss_cons (ps_set (i := 14) scLaw.nd rfl (Or.inl rfl) (pe_makeK0 TC.m GS hr5 rfl TC.g kS3 pass0 (pk_cons pe_non (pk_cons (pe_lst (pa_cons (pv 7) (pa_cons (pv 8) pa_nil))) (pk_cons (pe_lst (pa_cons (pv 5) (pa_cons (pv 6) pa_nil))) pk_nil)))))
      (pss_cons (ps_set (i := 14) scLaw.nd rfl (Or.inl rfl) (pe_methKN (E := fun _ => E0) (pe_methKN (E := fun _ => E0) (pe_methKN (E := fun _ => E0) (pv 14) TC.cl ME.mwm ME.Gwm hr6 ME.kwm pass0At (pk_cons (pv 12) pk_nil)) TC.cl ME.mwb ME.Gwb hr6 ME.kwb pass0At (pk_cons (pv 11) pk_nil)) TC.cl ME.mwr ME.Gwr hr6 ME.kwr pass0At (pk_cons (pv 10) pk_nil)))
      (pss_cons (ps_if (PW.pt (pw_or (pt_cmpR (op_neS hr.units0) (pe_meth0 (pv 14) TC.cl ME.mRu ME.GRu hr1 ME.bRu .nil pass0) (pe_meth0 (pv 13) TC.cl ME.mRu ME.GRu hr1 ME.bRu .nil pass0) (nomark _)) (pw_or (pt_cmpR (op_neS hr.units0) (pe_meth0 (pv 14) TC.cl ME.mBa ME.GBa hr1 ME.bBa .nil pass0) (pe_meth0 (pv 13) TC.cl ME.mBa ME.GBa hr1 ME.bBa .nil pass0) (nomark _)) (pw_or1 (pt_cmpR (op_neS hr.units0) (pe_meth0 (pv 14) TC.cl ME.mMk ME.GMk hr1 ME.bMk .nil pass0) (pe_meth0 (pv 13) TC.cl ME.mMk ME.GMk hr1 ME.bMk .nil pass0) (nomark _)))))) (pss_one (ps_ret pe_bl)) pss_nil)
      (pss_cons (ps_set (i := 14) scLaw.nd rfl (Or.inl rfl) (pe_methKN (E := fun _ => E0) (pe_methKN (E := fun _ => E0) (pv 14) TC.cl ME.mom ME.Gom hr6 ME.kom pass0At (pk_cons (pv 8) (pk_cons (pv 7) pk_nil))) TC.cl ME.mor ME.Gor hr6 ME.kor pass0At (pk_cons (pv 8) pk_nil)))
      (pss_one (ps_if (PW.pt (pw_or (pt_cmpR (op_neD hr.units) (pe_meth0 (pv 14) TC.cl ME.mRu ME.GRu hr1 ME.bRu .nil pass0) (pe_lst pa_nil) (nomark _)) (pw_or (pt_cmpR (op_neD hr.units) (pe_meth0 (pv 14) TC.cl ME.mMk ME.GMk hr1 ME.bMk .nil pass0) (pe_lst pa_nil) (nomark _)) (pw_or1 (pt_cmpR (op_neD hr.units) (pe_meth0 (pe_methKN (E := fun _ => E0) (pv 14) TC.cl ME.mob ME.Gob hr6 ME.kob pass0At (pk_cons (pv 9) pk_nil)) TC.cl ME.mBa ME.GBa hr1 ME.bBa .nil pass0) (pe_lst pa_nil) (nomark _)))))) (pss_one (ps_ret pe_bl)) pss_nil))))))))))))))))
      (pss_one (ps_ret pe_bl))), ?_⟩
    refine ⟨_, rfl, by show 1 ≤ sizeLine; decide, fun l0 n0 => ?_⟩
    have R0 := Same.upd (o := .lst [.int 0]) n0
    refine ⟨a, l0, _, _, rfl, rfl, R0.seq hA, SqL.of upd_same, ?_, fun l1 n1 => ?_⟩
    · rw [List.length_map]
      exact Nat.le_trans (show ns.length + 1 ≤ 1000 by omega) (by decide)
    refine ⟨_, rfl, l1, _, rfl, SqL.of upd_same, fun l2 n2 => ?_⟩
    generalize hH3 : upd (upd (upd H l0 (.lst [.int 0])) l1 (.lst (ns.map V.int ++ [V.int 0]))) l2 (.lst (cutV (ns.map V.int ++ [V.int 0]) none (some 12))) = H3
    have hl2 : H3 l2 = some (.lst ((ns.map V.int ++ [V.int 0]).take 12)) := by
      rw [← hH3, upd_same]
      have e := cut_take (ns.map V.int ++ [V.int 0]) 12
      exact congrArg (fun l => some (HO.lst l)) e
    refine ⟨l2, rfl, ⟨_, SqL.of hl2⟩, for_list (K := K) (a := l2) (xs := (ns.map V.int ++ [V.int 0]).take 12) (fun i σ H' => (∃ u1 u2 u3 u4 u5 u6 u7 u8 u9 u10 u11 u12 u13 u14, σ = [some (.ref a), u1, u2, u3, u4, u5, u6, u7, u8, u9, u10, u11, u12, u13, u14]) ∧ Same H3 H')
      ⟨⟨none, none, none, none, none, none, none, none, none, none, none, none, none, none, rfl⟩, Same.refl _⟩ (fun i σ H' _ q => SqL.of (q.2 _ _ hl2)) ?_ (fun σ H' _ => kk H')⟩
    rintro i y σ Ha hi ⟨⟨u1, u2, u3, u4, u5, u6, u7, u8, u9, u10, u11, u12, u13, u14, rfl⟩, hS⟩
    obtain ⟨c0, rfl⟩ : ∃ c, y = V.int c := by
      have hm := List.mem_of_mem_take (List.mem_of_getElem? hi)
      rcases List.mem_append.mp hm with h | h
      · obtain ⟨c, _, rfl⟩ := List.mem_map.mp h
        exact ⟨c, rfl⟩
      · exact ⟨0, List.mem_singleton.mp h⟩
    refine ⟨_, rfl, c0, rfl, fun p Hb np Sb stb => ?_⟩
    refine ⟨_, rfl, p, _, rfl, stb, by decide, by decide, fun zs ln Hc nln nlp Bc stc hlc zl znd znm => ?_⟩
    have p3 : H3 p = none := hS.free np
    have Sc : Same H3 Hc := But.same p3 (hS.trans Sb) Bc
    obtain ⟨xa, xb, xc, xd, xe, xf, xg, rfl⟩ : ∃ xa xb xc xd xe xf xg, zs = [xa, xb, xc, xd, xe, xf, xg] := by
      match zs, zl with
      | [xa, xb, xc, xd, xe, xf, xg], _ => exact ⟨_, _, _, _, _, _, _, rfl⟩
    have sv : Seven xa xb xc xd xe xf xg := ⟨fun z hz => ⟨nm_is (znm z hz).1 (Nat.le_trans (znm z hz).2 (by decide)), Nat.le_trans (znm z hz).2 (by decide)⟩, fun z hz => (znm z hz).1.ok, znd⟩
    refine ⟨ln, _, rfl, SqL.of hlc, rfl, _, _, rfl, _, _, rfl, _, _, rfl, _, _, rfl, _, _, rfl, _, _, rfl, _, _, rfl, rfl, ?_⟩
    dsimp only [List.set_cons_succ, List.set_cons_zero]
    clear hi np Sb stb znm zl nln Bc hlc
    have nn := sv.nd
    simp only [List.nodup_cons, List.mem_cons, List.not_mem_nil, or_false, not_or, not_false_eq_true, List.nodup_nil, and_true] at nn
    obtain ⟨⟨nab, nac, nad, nae, naf, nag⟩, ⟨nbc, nbd, nbe, nbf, nbg⟩, ⟨ncd, nce, ncf, ncg⟩, ⟨nde, ndf, ndg⟩, ⟨nef, neg⟩, nfg⟩ := nn
    have ia : isNm xa = true ∧ xa.length ≤ 12 := sv.nm _ (by simp)
    have ib : isNm xb = true ∧ xb.length ≤ 12 := sv.nm _ (by simp)
    have ic : isNm xc = true ∧ xc.length ≤ 12 := sv.nm _ (by simp)
    have id' : isNm xd = true ∧ xd.length ≤ 12 := sv.nm _ (by simp)
    have ie : isNm xe = true ∧ xe.length ≤ 12 := sv.nm _ (by simp)
    have if' : isNm xf = true ∧ xf.length ≤ 12 := sv.nm _ (by simp)
    have ig : isNm xg = true ∧ xg.length ≤ 12 := sv.nm _ (by simp)
    have oa : okS xa := sv.ok _ (by simp)
    have ob : okS xb := sv.ok _ (by simp)
    have oc : okS xc := sv.ok _ (by simp)
    have od : okS xd := sv.ok _ (by simp)
    have oe : okS xe := sv.ok _ (by simp)
    have of' : okS xf := sv.ok _ (by simp)
    have og : okS xg := sv.ok _ (by simp)
    -- first
    refine ⟨_, rfl, _, rfl, _, rfl, _, rfl, by show 3 ≤ sizeLine; decide, fun q1 m1 => ?_⟩
    refine ⟨_, rfl, _, rfl, _, rfl, by show 3 ≤ sizeLine; decide, fun q2 m2 => ⟨by show 1 ≤ sizeLine; decide, fun q3 m3 => ?_⟩⟩
    refine ⟨_, rfl, _, rfl, by show 2 ≤ sizeLine; decide, fun q4 m4 => ⟨_, rfl, by show 2 ≤ sizeLine; decide, fun q5 m5 => ⟨by show 2 ≤ sizeLine; decide, fun q6 m6 => ?_⟩⟩⟩
    refine ⟨_, rfl, rfl, rfl, ?_⟩
    have A1 := Same.upd (o := .tup [.str xa, .str xd, .str xb]) m1
    have A2 := Same.upd (o := .tup [.str xa, .str xc, .str xb]) m2
    have A3 := Same.upd (o := .lst [.ref q2]) m3
    have A4 := Same.upd (o := .tup [.str xa, .str xe]) m4
    have A5 := Same.upd (o := .tup [.str xb, .non]) m5
    have A6 := Same.upd (o := .lst [.ref q4, .ref q5]) m6
    have e1 := (A2.trans (A3.trans (A4.trans (A5.trans A6)))) _ _ (upd_same (H := Hc) (a := q1))
    have e2 := (A3.trans (A4.trans (A5.trans A6))) _ _ (upd_same (a := q2))
    have e3 := (A4.trans (A5.trans A6)) _ _ (upd_same (a := q3))
    have e4 := (A5.trans A6) _ _ (upd_same (a := q4))
    have e5 := A6 _ _ (upd_same (a := q5))
    have A := A1.trans (A2.trans (A3.trans (A4.trans (A5.trans A6))))
    show ∀ x dx, _ → _ → _ → spRul K C RB [.ref x, .str xf, .ref q6, .ref q3, .ref q1, .str xb] _ _ _
    refine rul_new (nm := xf) (b := xb) (vars := [(xa, some xe), (xb, none)]) (cs := [(xa, xc, xb)]) (gt := (xa, xd, xb)) (ps := [q4, q5]) (qs := [q2]) (show SqL K _ q6 [V.ref q4, V.ref q5] from SqL.of upd_same) ⟨SqT.of e4, SqT.of e5, True.intro⟩ (SqL.of e3) ⟨SqT.of e2, True.intro⟩ e1 (rl_ok nab) ?_ ?_
    · intro z hz
      simp [textsL, varT] at hz
      rcases hz with rfl | rfl | rfl | rfl | rfl | rfl
      · exact if'
      · exact ia
      · exact ie
      · exact ib
      · exact ic
      · exact id'
    intro r H1 nr S1 hrl
    have T1 := (Sc.trans A).trans S1
    clear e1 e2 e3 e4 e5 A1 A2 A3 A4 A5 A6 m1 m2 m3 m4 m5 m6 A S1 nr
    dsimp only [List.set_cons_succ, List.set_cons_zero]
    -- second
    refine ⟨_, rfl, _, rfl, _, rfl, by show 3 ≤ sizeLine; decide, fun q1 m1 => ⟨by show 1 ≤ sizeLine; decide, fun q2 m2 => ?_⟩⟩
    refine ⟨_, rfl, _, rfl, by show 2 ≤ sizeLine; decide, fun q3 m3 => ⟨by show 1 ≤ sizeLine; decide, fun q4 m4 => ⟨rfl, rfl, ?_⟩⟩⟩
    have A1 := Same.upd (o := .tup [.str xb, .str xd, .str xb]) m1
    have A2 := Same.upd (o := .lst [.ref q1]) m2
    have A3 := Same.upd (o := .tup [.str xb, .non]) m3
    have A4 := Same.upd (o := .lst [.ref q3]) m4
    have e1 := (A2.trans (A3.trans A4)) _ _ (upd_same (H := H1) (a := q1))
    have e2 := (A3.trans A4) _ _ (upd_same (a := q2))
    have e3 := A4 _ _ (upd_same (a := q3))
    have A := A1.trans (A2.trans (A3.trans A4))
    show ∀ x dx, _ → _ → _ → spBar K C BB [.ref x, .str xg, .ref q4, .ref q2] _ _ _
    refine bar_new (nm := xg) (vars := [(xb, none)]) (cs := [(xb, xd, xb)]) (ps := [q3]) (qs := [q1]) (show SqL K _ q4 [V.ref q3] from SqL.of upd_same) ⟨SqT.of e3, True.intro⟩ (SqL.of e2) ⟨SqT.of e1, True.intro⟩ br_ok ?_ ?_
    · intro z hz
      simp [textsL, varT] at hz
      rcases hz with rfl | rfl | rfl
      · exact ig
      · exact ib
      · exact id'
    intro b H2 nb S2 hbr
    have T2 := T1.trans (A.trans S2)
    have hrl := hrl.same (A.trans S2)
    clear e1 e2 e3 A1 A2 A3 A4 m1 m2 m3 m4 A S2 nb T1
    dsimp only [List.set_cons_succ, List.set_cons_zero]
    -- third
    refine ⟨_, rfl, by show 1 ≤ sizeLine; decide, fun q1 m1 => ⟨_, rfl, _, rfl, by show 2 ≤ sizeLine; decide, fun q2 m2 => ⟨_, rfl, _, rfl, rfl, rfl, ?_⟩⟩⟩
    have A1 := Same.upd (o := .lst [.str xc]) m1
    have A2 := Same.upd (o := .lst [.str xd, .str xc]) m2
    have e1 := A2 _ _ (upd_same (H := H2) (a := q1))
    show ∀ x dx, _ → _ → _ → spMak K C MB [.ref x, .str xe, .str xf, .ref q2, .ref q1] _ _ _
    refine mak_new (mk := xe) (md := xf) (ds := [xd, xc]) (us := [xc]) (show SqL K _ q2 [V.str xd, V.str xc] from SqL.of upd_same) (SqL.of e1) (by show 2 ≤ 100; decide) (by show 1 ≤ 100; decide) (noTw_of (by simp [Ne.symm ncd])) (noTw_of (by simp)) ?_ ?_
    · intro z hz
      simp at hz
      rcases hz with rfl | rfl | rfl | rfl
      · exact ie
      · exact if'
      · exact id'
      · exact ic
    intro m H3' nm' S3 hmk
    have A := (A1.trans A2).trans S3
    have T3 := T2.trans A
    have hrl := hrl.same A
    have hbr := hbr.same A
    clear e1 A1 A2 m1 m2 S3 nm' T2 A
    dsimp only [List.set_cons_succ, List.set_cons_zero]
    -- the fields
    obtain ⟨dr, t1, t2, t3, vs, cs, r0, r1, r2, r3, r4, r5⟩ := id hrl
    obtain ⟨db, y1, y2, bs, ds, b0, b1, b2, b3, b4⟩ := id hbr
    obtain ⟨dm, z1, z2, k0, k1, k2⟩ := id hmk
    have r0 : H3' r = some (.ins RB dr (rulF xf t1 t2 t3 xb)) := r0
    have r5 : SqT K H3' t3 [.str xa, .str xd, .str xb] := r5
    have b0 : H3' b = some (.ins BB db (barF xg y1 y2)) := b0
    have k0 : H3' m = some (.ins MB dm (makF xe xf z1 z2)) := k0
    have sa := strOk_of oa
    have sb := strOk_of ob
    have sc := strOk_of oc
    have sd := strOk_of od
    have se := strOk_of oe
    have sf := strOk_of of'
    have sg := strOk_of og
    have t3d : ∀ {H : Hp} {q : Addr} {x y z : Str}, SqT K H q [.str x, .str y, .str z] → Dp K H (.ref q) (.tuple [.str x, .str y, .str z]) := fun h => .tup h (.cons (.str _) (.cons (.str _) (.cons (.str _) .nil)))
    have t2d : ∀ {H : Hp} {q : Addr} {x y : Str}, SqT K H q [.str x, .str y] → Dp K H (.ref q) (.tuple [.str x, .str y]) := fun h => .tup h (.cons (.str _) (.cons (.str _) .nil))
    have t1d : ∀ {H : Hp} {q : Addr} {x : Str}, SqT K H q [.str x] → Dp K H (.ref q) (.tuple [.str x]) := fun h => .tup h (.cons (.str _) .nil)
    refine ⟨_, rfl, r, RB, dr, _, _, rfl, r0, TR.cl, TR.nn, rulF_name _ _ _ _ _, _, rfl, r, RB, dr, _, _, rfl, r0, TR.cl, TR.ng, rulF_gives _ _ _ _ _, _, rfl, r, RB, dr, _, _, rfl, r0, TR.cl, TR.nb, rulF_by _ _ _ _ _, by show 3 ≤ sizeLine; decide, fun q1 m1 => ?_⟩
    refine ⟨_, rfl, _, rfl, _, rfl, _, rfl, by show 3 ≤ sizeLine; decide, fun q2 m2 => ⟨_, rfl, by show 3 ≤ sizeLine; decide, fun q3 m3 => ?_⟩⟩
    have A1 := Same.upd (o := .tup [.str xf, .ref t3, .str xb]) m1
    have A2 := Same.upd (o := .tup [.str xa, .str xd, .str xb]) m2
    have A3 := Same.upd (o := .tup [.str xf, .ref q2, .str xb]) m3
    have A := A1.trans (A2.trans A3)
    have sh : SeqAt.shaped (.tuple [.str xf, .tuple [.str xa, .str xd, .str xb], .str xb]) = true := by simp [SeqAt.shaped, PyData.canLay0, PyData.canLayAll0, PyData.depth, PyData.depthAll, sa, sb, sd, sf]
    refine ⟨_, _, .tup (SqT.of ((A2.trans A3) _ _ upd_same)) (.cons (.str _) (.cons (t3d (same_seqT A r5)) (.cons (.str _) .nil))), .tup (SqT.of upd_same) (.cons (.str _) (.cons (t3d (SqT.of (A3 _ _ upd_same))) (.cons (.str _) .nil))), sh, sh, _, rfl, ?_⟩
    rw [SeqAt.eqv_refl _ (SeqAt.canLay_of_shaped sh)]
    refine iteF ?_
    clear sh A1 A2 A3 m1 m2 m3
    -- variables
    refine ⟨_, rfl, r, RB, dr, _, _, rfl, A _ _ r0, TR.cl, TR.nv, rulF_vars _ _ _ _ _, _, rfl, _, rfl, by show 2 ≤ sizeLine; decide, fun q4 m4 => ⟨_, rfl, by show 2 ≤ sizeLine; decide, fun q5 m5 => ⟨by show 2 ≤ sizeLine; decide, fun q6 m6 => ?_⟩⟩⟩
    have A4 := Same.upd (o := .tup [.str xa, .str xe]) m4
    have A5 := Same.upd (o := .tup [.str xb, .non]) m5
    have A6 := Same.upd (o := .tup [.ref q4, .ref q5]) m6
    have sv1 : SeqAt.shaped (rowsD ([(xa, some xe), (xb, none)].map varD)) = true := by simp [rowsD, varD, sortD, SeqAt.shaped, PyData.canLay0, PyData.canLayAll0, PyData.depth, PyData.depthAll, sa, sb, se]
    have B := A.trans (A4.trans (A5.trans A6))
    refine ⟨rowsD ([(xa, some xe), (xb, none)].map varD), rowsD ([(xa, some xe), (xb, none)].map varD), .tup (same_seqT B r1) (dp_rows dp_var (r2.same B)), .tup (SqT.of upd_same) (.cons (t2d (SqT.of ((A5.trans A6) _ _ upd_same))) (.cons (.tup (SqT.of (A6 _ _ upd_same)) (.cons (.str _) (.cons .non .nil))) .nil)), sv1, sv1, _, rfl, ?_⟩
    rw [SeqAt.eqv_refl _ (SeqAt.canLay_of_shaped sv1)]
    refine iteF ?_
    clear A A4 A5 A6 m4 m5 m6
    -- second
    refine ⟨_, rfl, b, BB, db, _, _, rfl, B _ _ b0, TB.cl, TB.nn, barF_name _ _ _, _, rfl, b, BB, db, _, _, rfl, B _ _ b0, TB.cl, TB.nc, barF_cond _ _ _, by show 2 ≤ sizeLine; decide, fun p1 m1 => ?_⟩
    refine ⟨_, rfl, _, rfl, _, rfl, _, rfl, by show 3 ≤ sizeLine; decide, fun p2 m2 => ⟨by show 1 ≤ sizeLine; decide, fun p3 m3 => ⟨by show 2 ≤ sizeLine; decide, fun p4 m4 => ?_⟩⟩⟩
    have A1 := Same.upd (o := .tup [.str xg, .ref y2]) m1
    have A2 := Same.upd (o := .tup [.str xb, .str xd, .str xb]) m2
    have A3 := Same.upd (o := .tup [.ref p2]) m3
    have A4 := Same.upd (o := .tup [.str xg, .ref p3]) m4
    have sc1 : SeqAt.shaped (rowsD ([(xb, xd, xb)].map triD)) = true := by simp [rowsD, triD, SeqAt.shaped, PyData.canLay0, PyData.canLayAll0, PyData.depth, PyData.depthAll, sb, sd]
    have sh : SeqAt.shaped (.tuple [.str xg, rowsD ([(xb, xd, xb)].map triD)]) = true := by simp [rowsD, triD, SeqAt.shaped, PyData.canLay0, PyData.canLayAll0, PyData.depth, PyData.depthAll, sb, sd, sg]
    have C' := B.trans (A1.trans (A2.trans (A3.trans A4)))
    refine ⟨.tuple [.str xg, rowsD ([(xb, xd, xb)].map triD)], .tuple [.str xg, rowsD ([(xb, xd, xb)].map triD)], .tup (SqT.of ((A2.trans (A3.trans A4)) _ _ upd_same)) (.cons (.str _) (.cons (.tup (same_seqT C' b3) (dp_rows dp_tri (b4.same C'))) .nil)), .tup (SqT.of upd_same) (.cons (.str _) (.cons (.tup (SqT.of (A4 _ _ upd_same)) (.cons (t3d (SqT.of ((A3.trans A4) _ _ upd_same))) .nil)) .nil)), sh, sh, _, rfl, ?_⟩
    rw [SeqAt.eqv_refl _ (SeqAt.canLay_of_shaped sh)]
    refine iteF ?_
    clear A1 A2 A3 A4 m1 m2 m3 m4 sh B
    -- third
    refine ⟨_, rfl, m, MB, dm, _, _, rfl, C' _ _ k0, TM.cl, TM.nw, makF_down _ _ _ _, _, rfl, m, MB, dm, _, _, rfl, C' _ _ k0, TM.cl, TM.nu, makF_up _ _ _ _, by show 2 ≤ sizeLine; decide, fun n1 m1 => ?_⟩
    refine ⟨_, rfl, _, rfl, by show 2 ≤ sizeLine; decide, fun n2 m2 => ⟨_, rfl, by show 1 ≤ sizeLine; decide, fun n3 m3 => ⟨by show 2 ≤ sizeLine; decide, fun n4 m4 => ?_⟩⟩⟩
    have A1 := Same.upd (o := .tup [.ref z1, .ref z2]) m1
    have A2 := Same.upd (o := .tup [.str xd, .str xc]) m2
    have A3 := Same.upd (o := .tup [.str xc]) m3
    have A4 := Same.upd (o := .tup [.ref n2, .ref n3]) m4
    have sh : SeqAt.shaped (.tuple [.tuple [.str xd, .str xc], .tuple [.str xc]]) = true := by simp [SeqAt.shaped, PyData.canLay0, PyData.canLayAll0, PyData.depth, PyData.depthAll, sc, sd]
    have D := C'.trans (A1.trans (A2.trans (A3.trans A4)))
    refine ⟨.tuple [.tuple [.str xd, .str xc], .tuple [.str xc]], .tuple [.tuple [.str xd, .str xc], .tuple [.str xc]], .tup (SqT.of ((A2.trans (A3.trans A4)) _ _ upd_same)) (.cons (t2d (same_seqT D k1)) (.cons (t1d (same_seqT D k2)) .nil)), .tup (SqT.of upd_same) (.cons (t2d (SqT.of ((A3.trans A4) _ _ upd_same))) (.cons (t1d (SqT.of (A4 _ _ upd_same))) .nil)), sh, sh, _, rfl, ?_⟩
    rw [SeqAt.eqv_refl _ (SeqAt.canLay_of_shaped sh)]
    refine iteF ?_
    clear A1 A2 A3 A4 m1 m2 m3 m4 sh C'
    -- the chart
    refine ⟨_, rfl, by show 1 ≤ sizeLine; decide, fun l5 m5 => ⟨_, rfl, by show 1 ≤ sizeLine; decide, fun l4 m4 => ⟨_, rfl, _, rfl, by show 2 ≤ sizeLine; decide, fun l2' m2 => ⟨_, rfl, by show 1 ≤ sizeLine; decide, fun l3 m3 => ⟨_, rfl, _, rfl, by show 2 ≤ sizeLine; decide, fun l1' m1 => ⟨rfl, rfl, ?_⟩⟩⟩⟩⟩⟩
    have A5 := Same.upd (o := .lst [.ref b]) m5
    have A4 := Same.upd (o := .lst [.ref r]) m4
    have A2 := Same.upd (o := .lst [.str xc, .str xd]) m2
    have A3 := Same.upd (o := .lst [.ref m]) m3
    have A1 := Same.upd (o := .lst [.str xe, .str xf]) m1
    have e5 := (A4.trans (A2.trans (A3.trans A1))) _ _ (upd_same (a := l5))
    have e4 := (A2.trans (A3.trans A1)) _ _ (upd_same (a := l4))
    have e2 := (A3.trans A1) _ _ (upd_same (a := l2'))
    have e3 := A1 _ _ (upd_same (a := l3))
    have A := D.trans (A5.trans (A4.trans (A2.trans (A3.trans A1))))
    have pt : Parts K MB RB BB H3' [m] [r] [b] [mkL xc xd xe xf] [rlL xa xb xc xd xe xf] [brL xb xd xg] := ⟨⟨hmk, True.intro⟩, ⟨hrl, True.intro⟩, ⟨hbr, True.intro⟩⟩
    show ∀ x dx, _ → _ → _ → spSch K S MB RB BB [.ref x, .ref l1', .ref l2', .ref l3, .ref l4, .ref l5] _ _ _
    refine sch_new (ss := [xe, xf]) (ws := [xc, xd]) (as := [m]) (bs := [r]) (cs := [b]) (show SqL K _ l1' [V.str xe, V.str xf] from SqL.of upd_same) (SqL.of e2) (.of e3) (.of e4) (.of e5) (pt.same A) (sch_ok sv (.inr rfl) (.inr rfl) (.inr rfl)) ?_
    intro ch H5 nch S5 hch
    have T := A.trans S5
    clear A1 A2 A3 A4 A5 e2 e3 e4 e5 m1 m2 m3 m4 m5 A S5 D nch
    dsimp only [List.set_cons_succ, List.set_cons_zero]
    have r0 := T _ _ r0
    have b0 := T _ _ b0
    have pt5 := pt.same T
    have hrd : RowsD K H5 t1 t2 [(xa, some xe), (xb, none)] [(xa, xc, xb)] := ⟨⟨vs, cs, same_seqT T r1, r2.same T, same_seqT T r3, r4.same T⟩, sv1, by simp [rowsD, triD, SeqAt.shaped, PyData.canLay0, PyData.canLayAll0, PyData.depth, PyData.depthAll, sa, sb, sc]⟩
    have hbd : RowsD K H5 y1 y2 [(xb, none)] [(xb, xd, xb)] := ⟨⟨bs, ds, same_seqT T b1, b2.same T, same_seqT T b3, b4.same T⟩, by simp [rowsD, varD, sortD, SeqAt.shaped, PyData.canLay0, PyData.canLayAll0, PyData.depth, PyData.depthAll, sb], sc1⟩
    have shg : SeqAt.shaped (.tuple (triD (xa, xd, xb))) = true := by simp [triD, SeqAt.shaped, PyData.canLay0, PyData.canLayAll0, PyData.depth, PyData.depthAll, sa, sb, sd]
    have hch5 := hch
    obtain ⟨dc, j1, j2, j3, j4, j5, c0', _⟩ := hch5
    have no : ∀ {g : Str}, ¬ g = "own_bars" → ¬ g = "own_rules" → ¬ g = "own_makings" → ¬ g = "own_words" → ¬ g = "own_sorts" → (schF j1 j2 j3 j4 j5).lookup g = none := fun a b c d e => schF_no a b c d e _ _ _ _ _
    refine ⟨_, rfl, ch, dc, _, rfl, c0', no (by decide +kernel) (by decide +kernel) (by decide +kernel) (by decide +kernel) (by decide +kernel), _, rfl, rfl, ch, xf, _, _, _, _, _, [rlL xa xb xc xd xe xf], 0, r, rlL xa xb xc xd xe xf, rfl, hch, pt5.ar, rfl, rfl, rfl, fun i y h _ => absurd h (Nat.not_lt_zero _), ?_⟩
    refine ⟨_, rfl, r, r, dr, dr, _, _, rfl, rfl, r0, r0, r, r, rfl, .inl ⟨dr, dr, t1, t2, t3, t1, t2, t3, xf, xf, xb, xb, _, _, _, _, (xa, xd, xb), (xa, xd, xb), r0, r0, tyR r0, hrd, hrd, same_seqT T r5, same_seqT T r5, shg, shg, _, rfl, _, rfl, ?_⟩⟩
    rw [sameR_self hrd.s1 hrd.s2 shg]
    refine iteF ?_
    refine ⟨_, rfl, ch, dc, _, rfl, c0', no (by decide +kernel) (by decide +kernel) (by decide +kernel) (by decide +kernel) (by decide +kernel), _, rfl, rfl, ch, xg, _, _, _, _, _, [brL xb xd xg], 0, b, brL xb xd xg, rfl, hch, pt5.ab, rfl, rfl, rfl, fun i y h _ => absurd h (Nat.not_lt_zero _), ?_⟩
    refine ⟨_, rfl, b, b, db, db, _, _, rfl, rfl, b0, b0, b, b, rfl, .inl ⟨db, db, y1, y2, y1, y2, xg, xg, _, _, _, _, b0, b0, tyB b0, hbd, hbd, _, rfl, _, rfl, ?_⟩⟩
    rw [sameB_self hbd.s1 hbd.s2]
    refine iteF ?_
    refine ⟨_, rfl, _, rfl, ch, xa, _, _, _, _, _, [rlL xa xb xc xd xe xf], rfl, hch, pt5.ar, fun y hy => ?_, fun H6 S6 => ?_⟩
    · rw [List.mem_singleton.mp hy]
      exact Ne.symm naf
    refine ⟨_, rfl, ?_⟩
    refine iteF ?_
    have hch := hch.same S6
    have T := T.trans S6
    have c0' := S6 _ _ c0'
    clear S6 hrd hbd pt5 shg sv1 sc1 r0 b0
    -- other
    refine ⟨_, rfl, _, rfl, by show 2 ≤ sizeLine; decide, fun l1' m1 => ⟨_, rfl, _, rfl, by show 2 ≤ sizeLine; decide, fun l2' m2 => ⟨rfl, rfl, ?_⟩⟩⟩
    have A1 := Same.upd (o := .lst [.str xe, .str xf]) m1
    have A2 := Same.upd (o := .lst [.str xc, .str xd]) m2
    have e1 := A2 _ _ (upd_same (a := l1'))
    show ∀ x dx, _ → _ → _ → spSch K S MB RB BB [.ref x, .ref l1', .ref l2', .non, .non, .non] _ _ _
    refine sch_new (ss := [xe, xf]) (ws := [xc, xd]) (as := []) (bs := []) (cs := []) (ms := []) (rs := []) (ps := []) (SqL.of e1) (show SqL K _ l2' [V.str xc, V.str xd] from SqL.of upd_same) (.inl ⟨rfl, rfl⟩) (.inl ⟨rfl, rfl⟩) (.inl ⟨rfl, rfl⟩) ⟨True.intro, True.intro, True.intro⟩ (sch_ok sv (.inl rfl) (.inl rfl) (.inl rfl)) ?_
    intro ot H7 not S7 hot
    have A := (A1.trans A2).trans S7
    have T7 := T.trans A
    have hch := hch.same A
    clear A1 A2 e1 m1 m2 A S7 not T c0' no
    dsimp only [List.set_cons_succ, List.set_cons_zero]
    -- with
    have no : ∀ {j1 j2 j3 j4 j5 : Addr} {g : Str}, ¬ g = "own_bars" → ¬ g = "own_rules" → ¬ g = "own_makings" → ¬ g = "own_words" → ¬ g = "own_sorts" → (schF j1 j2 j3 j4 j5).lookup g = none := fun a b c d e => schF_no a b c d e _ _ _ _ _
    have pt7 := pt.same T7
    have hot7 := hot
    obtain ⟨do7, _, _, _, _, _, o7, _⟩ := hot7
    refine ⟨_, rfl, ot, do7, _, rfl, o7, no (by decide +kernel) (by decide +kernel) (by decide +kernel) (by decide +kernel) (by decide +kernel), _, rfl, rfl, ot, m, _, _, [], [], [], [mkL xc xd xe xf], [], [], rfl, hot, ⟨pt7.am, True.intro, True.intro⟩, sch_ok sv (.inr rfl) (.inl rfl) (.inl rfl), fun w1 H8 nw1 S8 hw1 => ?_⟩
    have hw8 := hw1
    obtain ⟨do8, _, _, _, _, _, o8, _⟩ := hw8
    have pt8 := pt7.same S8
    refine ⟨w1, do8, _, rfl, o8, no (by decide +kernel) (by decide +kernel) (by decide +kernel) (by decide +kernel) (by decide +kernel), _, rfl, rfl, w1, b, _, _, _, [], [], [mkL xc xd xe xf], [], [brL xb xd xg], rfl, hw1, ⟨pt8.am, True.intro, pt8.ab⟩, sch_ok sv (.inr rfl) (.inl rfl) (.inr rfl), fun w2 H9 nw2 S9 hw2 => ?_⟩
    have hw9 := hw2
    obtain ⟨do9, _, _, _, _, _, o9, _⟩ := hw9
    have pt9 := pt8.same S9
    refine ⟨w2, do9, _, rfl, o9, no (by decide +kernel) (by decide +kernel) (by decide +kernel) (by decide +kernel) (by decide +kernel), _, rfl, rfl, w2, r, _, _, _, [], _, [mkL xc xd xe xf], [rlL xa xb xc xd xe xf], [brL xb xd xg], rfl, hw2, pt9, sch_ok sv (.inr rfl) (.inr rfl) (.inr rfl), fun w3 HA nw3 SA hw3 => ?_⟩
    dsimp only [List.set_cons_succ, List.set_cons_zero]
    have SC := S8.trans (S9.trans SA)
    have hch := hch.same SC
    have TA := T7.trans SC
    have ptA := pt9.same SA
    clear S8 S9 SA SC hot o7 o8 o9 pt7 pt8 pt9 hw1 hw2 T7 nw1 nw2 nw3
    -- the lists of both
    have NO : ∀ {H : Hp} {x : Addr} {ss ws : List Str} {as bs cs : List Addr}, SchAt S H x ss ws as bs cs → ∃ dx fs, H x = some (.ins S dx fs) ∧ ∀ {g : Str}, ¬ g = "own_bars" → ¬ g = "own_rules" → ¬ g = "own_makings" → ¬ g = "own_words" → ¬ g = "own_sorts" → fs.lookup g = none := fun h => by
      obtain ⟨dx, l1, l2, l3, l4, l5, h0, _⟩ := h
      exact ⟨dx, _, h0, fun a b c d e => schF_no a b c d e _ _ _ _ _⟩
    obtain ⟨d1, f1, o1, n1'⟩ := NO hw3
    obtain ⟨d2, f2, o2, n2'⟩ := NO hch
    refine ⟨_, rfl, w3, d1, f1, rfl, o1, n1' (by decide +kernel) (by decide +kernel) (by decide +kernel) (by decide +kernel) (by decide +kernel), w3, _, _, _, _, _, rfl, hw3, fun la ma => ?_⟩
    have A1 := Same.upd (o := .lst [.ref r]) ma
    refine ⟨_, rfl, ch, d2, f2, rfl, A1 _ _ o2, n2' (by decide +kernel) (by decide +kernel) (by decide +kernel) (by decide +kernel) (by decide +kernel), ch, _, _, _, _, _, rfl, hch.same A1, fun lb mb => ?_⟩
    have A2 := Same.upd (o := .lst [.ref r]) mb
    refine ⟨la, lb, [r], rfl, rfl, A2 _ _ upd_same, upd_same, _, rfl, ?_⟩
    refine iteF ?_
    have A := A1.trans A2
    refine ⟨_, rfl, w3, d1, f1, rfl, A _ _ o1, n1' (by decide +kernel) (by decide +kernel) (by decide +kernel) (by decide +kernel) (by decide +kernel), w3, _, _, _, _, _, rfl, hw3.same A, fun lc mc => ?_⟩
    have A3 := Same.upd (o := .lst [.ref b]) mc
    refine ⟨_, rfl, ch, d2, f2, rfl, (A.trans A3) _ _ o2, n2' (by decide +kernel) (by decide +kernel) (by decide +kernel) (by decide +kernel) (by decide +kernel), ch, _, _, _, _, _, rfl, hch.same (A.trans A3), fun ld md => ?_⟩
    have A4 := Same.upd (o := .lst [.ref b]) md
    refine ⟨lc, ld, [b], rfl, rfl, A4 _ _ upd_same, upd_same, _, rfl, ?_⟩
    refine iteF ?_
    have B := A.trans (A3.trans A4)
    refine ⟨_, rfl, w3, d1, f1, rfl, B _ _ o1, n1' (by decide +kernel) (by decide +kernel) (by decide +kernel) (by decide +kernel) (by decide +kernel), w3, _, _, _, _, _, rfl, hw3.same B, fun le me => ?_⟩
    have A5 := Same.upd (o := .lst [.ref m]) me
    refine ⟨_, rfl, ch, d2, f2, rfl, (B.trans A5) _ _ o2, n2' (by decide +kernel) (by decide +kernel) (by decide +kernel) (by decide +kernel) (by decide +kernel), ch, _, _, _, _, _, rfl, hch.same (B.trans A5), fun lf mf => ?_⟩
    have A6 := Same.upd (o := .lst [.ref m]) mf
    refine ⟨le, lf, [m], rfl, rfl, A6 _ _ upd_same, upd_same, _, rfl, ?_⟩
    refine iteF ?_
    have B2 := B.trans (A5.trans A6)
    have hw3 := hw3.same B2
    have ptB := ptA.same B2
    have TB' := TA.trans B2
    have o1 := B2 _ _ o1
    clear A1 A2 A3 A4 A5 A6 A B B2 ma mb mc md me mf ptA TA hch o2 n2'
    -- without
    have km : keepA (qM xe xf) [m] [mkL xc xd xe xf] = [] := by simp [keepA, qM, mkL]
    have kf : [mkL xc xd xe xf].filter (qM xe xf) = [] := by simp [qM, mkL]
    refine ⟨_, rfl, w3, d1, f1, rfl, o1, n1' (by decide +kernel) (by decide +kernel) (by decide +kernel) (by decide +kernel) (by decide +kernel), _, rfl, _, rfl, rfl, w3, xe, xf, _, _, _, _, _, [mkL xc xd xe xf], [rlL xa xb xc xd xe xf], [brL xb xd xg], rfl, hw3, ptB, ⟨_, List.mem_singleton.mpr rfl, by simp [qM, mkL]⟩, by show 1 ≤ 1000; decide, fun y hy => ?_, oe, of', sch_ok sv (.inl kf) (.inr rfl) (.inr rfl), fun v1 HB nv1 SB hv1 => ?_⟩
    · rw [List.mem_singleton.mp hy]
      exact ⟨oe, of'⟩
    have hv1 : SchAt S HB v1 [xe, xf] [xc, xd] [] [r] [b] := by
      have h : SchAt S HB v1 [xe, xf] [xc, xd] (keepA (qM xe xf) [m] [mkL xc xd xe xf]) [r] [b] := hv1
      rw [km] at h
      exact h
    obtain ⟨d3, f3, o3, n3'⟩ := NO hv1
    have ptC := ptB.same SB
    have kr : keepA (qR xf) [r] [rlL xa xb xc xd xe xf] = [] := by simp [keepA, qR, rlL]
    have kg : [rlL xa xb xc xd xe xf].filter (qR xf) = [] := by simp [qR, rlL]
    refine ⟨v1, d3, f3, rfl, o3, n3' (by decide +kernel) (by decide +kernel) (by decide +kernel) (by decide +kernel) (by decide +kernel), _, rfl, rfl, v1, xf, _, _, [], _, _, [], [rlL xa xb xc xd xe xf], [brL xb xd xg], rfl, hv1, ⟨True.intro, ptC.ar, ptC.ab⟩, ⟨_, List.mem_singleton.mpr rfl, by simp [qR, rlL]⟩, by show 1 ≤ 8; decide, sch_ok sv (.inl rfl) (.inl kg) (.inr rfl), fun v2 HC nv2 SC hv2 => ?_⟩
    have hv2 : SchAt S HC v2 [xe, xf] [xc, xd] [] [] [b] := by
      have h := hv2
      rw [kr] at h
      exact h
    obtain ⟨d4, f4, o4, n4'⟩ := NO hv2
    have ptD := ptC.same SC
    have TD := TB'.trans (SB.trans SC)
    dsimp only [List.set_cons_succ, List.set_cons_zero]
    clear hv1 SB SC ptB ptC hw3 o1 o3 n1' n3' nv1 nv2 TB'
    have de : ∀ {H : Hp} {l : Addr}, H l = some (.lst []) → Dp K H (.ref l) (.list []) := fun h => .lst (SqL.of h) .nil
    have she : SeqAt.shaped (.list []) = true := by decide +kernel
    have eve : PyData.eqv (.list []) (.list []) = true := by decide +kernel
    refine ⟨_, rfl, v2, d4, f4, rfl, o4, n4' (by decide +kernel) (by decide +kernel) (by decide +kernel) (by decide +kernel) (by decide +kernel), v2, _, _, _, _, _, rfl, hv2, fun la ma => ?_⟩
    refine ⟨Nat.zero_le _, fun lb mb => ?_⟩
    have A1 := Same.upd (o := .lst []) ma
    have A2 := Same.upd (o := .lst []) mb
    refine ⟨.list [], .list [], de (A2 _ _ upd_same), de upd_same, she, she, _, rfl, ?_⟩
    rw [eve]
    refine iteF ?_
    have A := A1.trans A2
    refine ⟨_, rfl, v2, d4, f4, rfl, A _ _ o4, n4' (by decide +kernel) (by decide +kernel) (by decide +kernel) (by decide +kernel) (by decide +kernel), v2, _, _, _, _, _, rfl, hv2.same A, fun lc mc => ?_⟩
    refine ⟨Nat.zero_le _, fun ld md => ?_⟩
    have A3 := Same.upd (o := .lst []) mc
    have A4 := Same.upd (o := .lst []) md
    refine ⟨.list [], .list [], de (A4 _ _ upd_same), de upd_same, she, she, _, rfl, ?_⟩
    rw [eve]
    refine iteF ?_
    have B := A.trans (A3.trans A4)
    have kb : keepA (qB xg) [b] [brL xb xd xg] = [] := by simp [keepA, qB, brL]
    have kh : [brL xb xd xg].filter (qB xg) = [] := by simp [qB, brL]
    refine ⟨_, rfl, v2, d4, f4, rfl, B _ _ o4, n4' (by decide +kernel) (by decide +kernel) (by decide +kernel) (by decide +kernel) (by decide +kernel), _, rfl, rfl, v2, xg, _, _, [], [], _, [], [], [brL xb xd xg], rfl, hv2.same B, ⟨True.intro, True.intro, (ptD.same B).ab⟩, ⟨_, List.mem_singleton.mpr rfl, by simp [qB, brL]⟩, by show 1 ≤ 4; decide, sch_ok sv (.inl rfl) (.inl rfl) (.inl kh), fun v3 HD nv3 SD hv3 => ?_⟩
    have hv3 : SchAt S HD v3 [xe, xf] [xc, xd] [] [] [] := by
      have h := hv3
      rw [kb] at h
      exact h
    obtain ⟨d5, f5, o5, n5'⟩ := NO hv3
    refine ⟨v3, d5, f5, rfl, o5, n5' (by decide +kernel) (by decide +kernel) (by decide +kernel) (by decide +kernel) (by decide +kernel), v3, _, _, _, _, _, rfl, hv3, fun le me => ?_⟩
    refine ⟨Nat.zero_le _, fun lf mf => ?_⟩
    have A5 := Same.upd (o := .lst []) me
    have A6 := Same.upd (o := .lst []) mf
    refine ⟨.list [], .list [], de (A6 _ _ upd_same), de upd_same, she, she, _, rfl, ?_⟩
    rw [eve]
    refine iteF ?_
    exact ⟨⟨_, _, _, _, _, _, _, _, _, _, _, _, _, _, rfl⟩, T3.trans (TD.trans (B.trans (SD.trans (A5.trans A6))))⟩
end
end Wm
namespace Wm
open PySem L2 He ClX StX
section
variable {P : Program} {w : World} {K : PySem.W.Frag} {mg : Str → Option Value} {base : Heap}
theorem scNRu : FnScope ["self", "name"] ["self", "name"] (defScope sNRu) := ⟨rfl, rfl, rfl, by decide +kernel, rfl, by decide +kernel, by decide +kernel⟩
theorem ok_norule {f C f0 W : Addr} {fd fd0 : FuncData} (F : Fun K "__init__" "NoRule.__init__" sNRu f fd) (T : ErrT K mg "NoRule" "name" C f) (TW : WhoT K mg W f0 fd0) (G0 : FnOk P w K mg base CX0 1 f0 fd0 ["self", "kind"] (spWI K)) :
    FnOk P w K mg base CX0 2 f fd ["self", "name"] (spE1 C "name" "norule") := by
  refine F.ok scNRu (fun vs H Q E h => ?_) (fun cdv A outer s H vs Q E hr h => ?_)
  · obtain ⟨a, v, rfl, _⟩ := h
    rfl
  · obtain ⟨a, v, rfl, ha, k⟩ := h
    refine ⟨_, pss_cons (ps_expr (pe_clsFn rfl TW.g TW.r TW.m TW.k G0 hr TW.b .nil pass0 (pa_cons (pv 0) (pa_cons pe_str pa_nil)))) (pss_one (ps_ost (pv 0) (pv 1))), ?_⟩
    refine ⟨_, rfl, a, C, _, rfl, T.o, T.nk, ha, fun dx n ne => ?_⟩
    refine ⟨_, rfl, _, rfl, a, C, rfl, T.o, T.nf, .inr ⟨dx, _, upd_same, Eq.trans (upd_ne ne) upd_same, by decide, ?_⟩⟩
    refine k dx _ n ne (fun b o nb e => ?_) ?_ upd_same
    · have nd : b ≠ dx := ne_of_none e n
      rw [upd_ne nd, upd_ne nb, upd_ne nd]
      exact e
    · rw [upd_ne ne.symm, upd_same]
end
theorem errB_ok {K : PySem.W.Frag} {mg : Str → Option Value} {x f : Str} {C fI : Addr} (h : errB K C fI f = true) (g : mg x = some (.ref C)) : ErrT K mg x f C fI ∧ XfC K C ∧ ExcC K C ∧ PySem.W.exmOne K (.ref C) (.ref C) = some true := by
  unfold errB at h
  obtain ⟨h1, h⟩ := ba h
  obtain ⟨h2, h⟩ := ba h
  obtain ⟨h3, h⟩ := ba h
  obtain ⟨h4, h⟩ := ba h
  obtain ⟨h5, h⟩ := ba h
  obtain ⟨h6, h⟩ := ba h
  obtain ⟨h7, h⟩ := ba h
  obtain ⟨h8, h⟩ := ba h
  obtain ⟨h9, h⟩ := ba h
  obtain ⟨h10, h⟩ := ba h
  obtain ⟨h11, h⟩ := ba h
  obtain ⟨h12, h⟩ := ba h
  obtain ⟨h13, h⟩ := ba h
  obtain ⟨h14, h⟩ := ba h
  obtain ⟨h15, h⟩ := ba h
  obtain ⟨h16, h17⟩ := ba h
  exact ⟨⟨⟨excB_ok h14, eqO_ok h1, of_decide_eq_true h2, of_decide_eq_true h3, h4⟩, g, eqO_ok h13, of_decide_eq_true h5, eqO_ok h6, eqO_ok h7⟩, ⟨eqO_ok h8, eqO_ok h9, of_decide_eq_true h2, h10⟩,
    ⟨eqO_ok h8, eqO_ok h9, of_decide_eq_true h2, h10, eqO_ok h11, eqO_ok h16, of_decide_eq_true h17, of_decide_eq_true h12⟩, of_decide_eq_true h15⟩
theorem strKB_ok {es : Array DictEntry} (h : strKB es = true) : StrKeys es := fun e he => by
  have q := List.all_eq_true.mp h e (by simpa using he)
  cases k : e.key with
  | str n t => exact ⟨n, t, rfl⟩
  | _ =>
    rw [k] at q
    simp at q
theorem eqneB_ok {K : PySem.W.Frag} {C f : Addr} (q : eqneB K C f = true) : EqNe K C f := by
  unfold eqneB at q
  split at q
  · rename_i dd cd sl ho
    split at q
    · rename_i C' k0 k1 k2 k3 n k5 oc od es ep osl of hm hs hN hf
      simp only [Bool.and_eq_true, beq_iff_eq, Bool.not_eq_true'] at q
      obtain ⟨rfl, hdel, h1, h2, h3, h4⟩ := q
      obtain ⟨nm, bs, mro, ns, qn, hd, sn, sub, ab, col, del⟩ := cd
      dsimp only at hm hdel hN
      subst hm hdel
      have hsl : sl = #[k0, k1, k2, k3, some (.builtin n), k5] := by
        obtain ⟨l⟩ := sl
        simp only at hs
        rw [hs]
      subst hsl
      exact ⟨nm, qn, ns, bs, hd, sn, sub, ab, col, dd, k0, k1, k2, k3, k5, n, oc, od, es, ep, osl, of, ho, hN, strKB_ok h1, of_decide_eq_true h2, of_decide_eq_true h3, hf, of_decide_eq_true h4⟩
    · cases q
  · cases q
theorem insB_ok {K : PySem.W.Frag} {C : Addr} (h : insB K C = true) (c : Cls K C) : (∀ {H : Hp} {a d : Addr} {fs : List (Str × V)}, H a = some (.ins C d fs) → TyX K H (.ref a) (.ref C)) ∧ PySem.W.kitOne K (.ref C) (.ref C) = some true := by
  unfold insB at h
  obtain ⟨h1, h⟩ := ba h
  obtain ⟨h2, h⟩ := ba h
  obtain ⟨h3, h⟩ := ba h
  obtain ⟨h4, h5⟩ := ba h
  exact ⟨fun e => .base (.ins e c (eqO_ok h1) (eqO_ok h3) (of_decide_eq_true h4) (of_decide_eq_true h2)), of_decide_eq_true h5⟩
theorem facts {P : Program} {w : World} {K : PySem.W.Frag} {h : Heap} {mg : Str → Option Value} {fa : Addr} (X : K.In h) (G : h.Ns mainGlobals mg) (hfa : mg "law" = some (.ref fa)) (c : SaysM ck fnL K) :
    ∃ fd : FuncData, (∀ (s : Shared) (v : Value), BindsTo s fd ⟨[v], []⟩ [("_law_script", v)]) ∧ ∀ base : Heap, K.In base → base.Ns mainGlobals mg → FnOk P w K mg base CX0 8 fa fd ["_law_script"] (spLaw K) := by
  have q := c.says
  unfold ck at q
  obtain ⟨qf, q⟩ := ba q
  obtain ⟨qw, q⟩ := ba q
  obtain ⟨qe0, q⟩ := ba q
  obtain ⟨qe1, q⟩ := ba q
  obtain ⟨qR, q⟩ := ba q
  obtain ⟨qB, q⟩ := ba q
  obtain ⟨iR, iB⟩ := ba q
  have ft : ∀ (i : Nat) {f : Fa}, factL[i]? = some f → f.ok K = true := fun i {f} e => List.all_eq_true.mp qf f (List.mem_of_getElem? e)
  have g_WhoError := glo_ok X G (ft 0 (f := .glo "WhoError") rfl)
  have g_NoName := glo_ok X G (ft 1 (f := .glo "NoName") rfl)
  have g_NoRule := glo_ok X G (ft 2 (f := .glo "NoRule") rfl)
  have g_is_name := glo_ok X G (ft 3 (f := .glo "is_name") rfl)
  obtain ⟨fd_is_name, Fk_is_name⟩ := c.def_ 0 (d := d_is_name) rfl
  have Fk_is_name : FunD K "is_name" "is_name" (defArgs sName) (defBody sName) (defScope sName) [] [] (ga K "is_name") fd_is_name := Fk_is_name
  have F_is_name : Fun K "is_name" "is_name" sName (ga K "is_name") fd_is_name := fun_of Fk_is_name
  have D_is_name : Dn K mg "is_name" sName ["text"] (ga K "is_name") fd_is_name := ⟨F_is_name, g_is_name, F_is_name.binds (ps := ["text"]) fun _ _ _ _ _ _ us hl => match us, hl with | [_], _ => rfl⟩
  have g_refuse_no_name := glo_ok X G (ft 4 (f := .glo "refuse_no_name") rfl)
  obtain ⟨fd_refuse_no_name, Fk_refuse_no_name⟩ := c.def_ 1 (d := d_refuse_no_name) rfl
  have Fk_refuse_no_name : FunD K "refuse_no_name" "refuse_no_name" (defArgs sRN) (defBody sRN) (defScope sRN) [] [] (ga K "refuse_no_name") fd_refuse_no_name := Fk_refuse_no_name
  have F_refuse_no_name : Fun K "refuse_no_name" "refuse_no_name" sRN (ga K "refuse_no_name") fd_refuse_no_name := fun_of Fk_refuse_no_name
  have D_refuse_no_name : Dn K mg "refuse_no_name" sRN ["texts"] (ga K "refuse_no_name") fd_refuse_no_name := ⟨F_refuse_no_name, g_refuse_no_name, F_refuse_no_name.binds (ps := ["texts"]) fun _ _ _ _ _ _ us hl => match us, hl with | [_], _ => rfl⟩
  have g_first_twice := glo_ok X G (ft 5 (f := .glo "first_twice") rfl)
  obtain ⟨fd_first_twice, Fk_first_twice⟩ := c.def_ 2 (d := d_first_twice) rfl
  have Fk_first_twice : FunD K "first_twice" "first_twice" (defArgs sFT) (defBody sFT) (defScope sFT) [] [] (ga K "first_twice") fd_first_twice := Fk_first_twice
  have F_first_twice : Fun K "first_twice" "first_twice" sFT (ga K "first_twice") fd_first_twice := fun_of Fk_first_twice
  have D_first_twice : Dn K mg "first_twice" sFT ["row"] (ga K "first_twice") fd_first_twice := ⟨F_first_twice, g_first_twice, F_first_twice.binds (ps := ["row"]) fun _ _ _ _ _ _ us hl => match us, hl with | [_], _ => rfl⟩
  have g_refuse_twice := glo_ok X G (ft 6 (f := .glo "refuse_twice") rfl)
  obtain ⟨fd_refuse_twice, Fk_refuse_twice⟩ := c.def_ 3 (d := d_refuse_twice) rfl
  have Fk_refuse_twice : FunD K "refuse_twice" "refuse_twice" (defArgs sRT) (defBody sRT) (defScope sRT) [] [] (ga K "refuse_twice") fd_refuse_twice := Fk_refuse_twice
  have F_refuse_twice : Fun K "refuse_twice" "refuse_twice" sRT (ga K "refuse_twice") fd_refuse_twice := fun_of Fk_refuse_twice
  have D_refuse_twice : Dn K mg "refuse_twice" sRT ["names"] (ga K "refuse_twice") fd_refuse_twice := ⟨F_refuse_twice, g_refuse_twice, F_refuse_twice.binds (ps := ["names"]) fun _ _ _ _ _ _ us hl => match us, hl with | [_], _ => rfl⟩
  have g_refuse_count := glo_ok X G (ft 7 (f := .glo "refuse_count") rfl)
  obtain ⟨fd_refuse_count, Fk_refuse_count⟩ := c.def_ 4 (d := d_refuse_count) rfl
  have Fk_refuse_count : FunD K "refuse_count" "refuse_count" (defArgs sRC) (defBody sRC) (defScope sRC) [] [] (ga K "refuse_count") fd_refuse_count := Fk_refuse_count
  have F_refuse_count : Fun K "refuse_count" "refuse_count" sRC (ga K "refuse_count") fd_refuse_count := fun_of Fk_refuse_count
  have D_refuse_count : Dn K mg "refuse_count" sRC ["what", "count", "least", "most"] (ga K "refuse_count") fd_refuse_count := ⟨F_refuse_count, g_refuse_count, F_refuse_count.binds (ps := ["what", "count", "least", "most"]) fun _ _ _ _ _ _ us hl => match us, hl with | [_, _, _, _], _ => rfl⟩
  have g_own_list := glo_ok X G (ft 8 (f := .glo "own_list") rfl)
  obtain ⟨fd_own_list, Fk_own_list⟩ := c.def_ 5 (d := d_own_list) rfl
  have Fk_own_list : FunD K "own_list" "own_list" (defArgs sOL) (defBody sOL) (defScope sOL) [] [] (ga K "own_list") fd_own_list := Fk_own_list
  have F_own_list : Fun K "own_list" "own_list" sOL (ga K "own_list") fd_own_list := fun_of Fk_own_list
  have D_own_list : Dn K mg "own_list" sOL ["rows"] (ga K "own_list") fd_own_list := ⟨F_own_list, g_own_list, F_own_list.binds (ps := ["rows"]) fun _ _ _ _ _ _ us hl => match us, hl with | [_], _ => rfl⟩
  have g_refuse_makings_twice := glo_ok X G (ft 9 (f := .glo "refuse_makings_twice") rfl)
  obtain ⟨fd_refuse_makings_twice, Fk_refuse_makings_twice⟩ := c.def_ 6 (d := d_refuse_makings_twice) rfl
  have Fk_refuse_makings_twice : FunD K "refuse_makings_twice" "refuse_makings_twice" (defArgs sRMT) (defBody sRMT) (defScope sRMT) [] [] (ga K "refuse_makings_twice") fd_refuse_makings_twice := Fk_refuse_makings_twice
  have F_refuse_makings_twice : Fun K "refuse_makings_twice" "refuse_makings_twice" sRMT (ga K "refuse_makings_twice") fd_refuse_makings_twice := fun_of Fk_refuse_makings_twice
  have D_refuse_makings_twice : Dn K mg "refuse_makings_twice" sRMT ["makings"] (ga K "refuse_makings_twice") fd_refuse_makings_twice := ⟨F_refuse_makings_twice, g_refuse_makings_twice, F_refuse_makings_twice.binds (ps := ["makings"]) fun _ _ _ _ _ _ us hl => match us, hl with | [_], _ => rfl⟩
  have g_refuse_no_sort := glo_ok X G (ft 10 (f := .glo "refuse_no_sort") rfl)
  obtain ⟨fd_refuse_no_sort, Fk_refuse_no_sort⟩ := c.def_ 7 (d := d_refuse_no_sort) rfl
  have Fk_refuse_no_sort : FunD K "refuse_no_sort" "refuse_no_sort" (defArgs sRNS) (defBody sRNS) (defScope sRNS) [] [] (ga K "refuse_no_sort") fd_refuse_no_sort := Fk_refuse_no_sort
  have F_refuse_no_sort : Fun K "refuse_no_sort" "refuse_no_sort" sRNS (ga K "refuse_no_sort") fd_refuse_no_sort := fun_of Fk_refuse_no_sort
  have D_refuse_no_sort : Dn K mg "refuse_no_sort" sRNS ["sorts", "makings", "patterns"] (ga K "refuse_no_sort") fd_refuse_no_sort := ⟨F_refuse_no_sort, g_refuse_no_sort, F_refuse_no_sort.binds (ps := ["sorts", "makings", "patterns"]) fun _ _ _ _ _ _ us hl => match us, hl with | [_, _, _], _ => rfl⟩
  have g_refuse_upward := glo_ok X G (ft 11 (f := .glo "refuse_upward") rfl)
  obtain ⟨fd_refuse_upward, Fk_refuse_upward⟩ := c.def_ 8 (d := d_refuse_upward) rfl
  have Fk_refuse_upward : FunD K "refuse_upward" "refuse_upward" (defArgs sRU) (defBody sRU) (defScope sRU) [] [] (ga K "refuse_upward") fd_refuse_upward := Fk_refuse_upward
  have F_refuse_upward : Fun K "refuse_upward" "refuse_upward" sRU (ga K "refuse_upward") fd_refuse_upward := fun_of Fk_refuse_upward
  have D_refuse_upward : Dn K mg "refuse_upward" sRU ["sorts", "makings"] (ga K "refuse_upward") fd_refuse_upward := ⟨F_refuse_upward, g_refuse_upward, F_refuse_upward.binds (ps := ["sorts", "makings"]) fun _ _ _ _ _ _ us hl => match us, hl with | [_, _], _ => rfl⟩
  have g_refuse_no_word := glo_ok X G (ft 12 (f := .glo "refuse_no_word") rfl)
  obtain ⟨fd_refuse_no_word, Fk_refuse_no_word⟩ := c.def_ 9 (d := d_refuse_no_word) rfl
  have Fk_refuse_no_word : FunD K "refuse_no_word" "refuse_no_word" (defArgs sRNW) (defBody sRNW) (defScope sRNW) [] [] (ga K "refuse_no_word") fd_refuse_no_word := Fk_refuse_no_word
  have F_refuse_no_word : Fun K "refuse_no_word" "refuse_no_word" sRNW (ga K "refuse_no_word") fd_refuse_no_word := fun_of Fk_refuse_no_word
  have D_refuse_no_word : Dn K mg "refuse_no_word" sRNW ["words", "makings", "rules", "bars"] (ga K "refuse_no_word") fd_refuse_no_word := ⟨F_refuse_no_word, g_refuse_no_word, F_refuse_no_word.binds (ps := ["words", "makings", "rules", "bars"]) fun _ _ _ _ _ _ us hl => match us, hl with | [_, _, _, _], _ => rfl⟩
  have g_check_scheme := glo_ok X G (ft 13 (f := .glo "check_scheme") rfl)
  obtain ⟨fd_check_scheme, Fk_check_scheme⟩ := c.def_ 10 (d := d_check_scheme) rfl
  have Fk_check_scheme : FunD K "check_scheme" "check_scheme" (defArgs sCS) (defBody sCS) (defScope sCS) [] [] (ga K "check_scheme") fd_check_scheme := Fk_check_scheme
  have F_check_scheme : Fun K "check_scheme" "check_scheme" sCS (ga K "check_scheme") fd_check_scheme := fun_of Fk_check_scheme
  have D_check_scheme : Dn K mg "check_scheme" sCS ["sorts", "words", "makings", "rules", "bars"] (ga K "check_scheme") fd_check_scheme := ⟨F_check_scheme, g_check_scheme, F_check_scheme.binds (ps := ["sorts", "words", "makings", "rules", "bars"]) fun _ _ _ _ _ _ us hl => match us, hl with | [_, _, _, _, _], _ => rfl⟩
  have g_tuple_of_tuples := glo_ok X G (ft 14 (f := .glo "tuple_of_tuples") rfl)
  obtain ⟨fd_tuple_of_tuples, Fk_tuple_of_tuples⟩ := c.def_ 11 (d := d_tuple_of_tuples) rfl
  have Fk_tuple_of_tuples : FunD K "tuple_of_tuples" "tuple_of_tuples" (defArgs sTT) (defBody sTT) (defScope sTT) [] [] (ga K "tuple_of_tuples") fd_tuple_of_tuples := Fk_tuple_of_tuples
  have F_tuple_of_tuples : Fun K "tuple_of_tuples" "tuple_of_tuples" sTT (ga K "tuple_of_tuples") fd_tuple_of_tuples := fun_of Fk_tuple_of_tuples
  have D_tuple_of_tuples : Dn K mg "tuple_of_tuples" sTT ["rows"] (ga K "tuple_of_tuples") fd_tuple_of_tuples := ⟨F_tuple_of_tuples, g_tuple_of_tuples, F_tuple_of_tuples.binds (ps := ["rows"]) fun _ _ _ _ _ _ us hl => match us, hl with | [_], _ => rfl⟩
  have g_ends_of := glo_ok X G (ft 15 (f := .glo "ends_of") rfl)
  obtain ⟨fd_ends_of, Fk_ends_of⟩ := c.def_ 12 (d := d_ends_of) rfl
  have Fk_ends_of : FunD K "ends_of" "ends_of" (defArgs sEO) (defBody sEO) (defScope sEO) [] [] (ga K "ends_of") fd_ends_of := Fk_ends_of
  have F_ends_of : Fun K "ends_of" "ends_of" sEO (ga K "ends_of") fd_ends_of := fun_of Fk_ends_of
  have D_ends_of : Dn K mg "ends_of" sEO ["triples"] (ga K "ends_of") fd_ends_of := ⟨F_ends_of, g_ends_of, F_ends_of.binds (ps := ["triples"]) fun _ _ _ _ _ _ us hl => match us, hl with | [_], _ => rfl⟩
  have g_texts_of_pattern := glo_ok X G (ft 16 (f := .glo "texts_of_pattern") rfl)
  obtain ⟨fd_texts_of_pattern, Fk_texts_of_pattern⟩ := c.def_ 13 (d := d_texts_of_pattern) rfl
  have Fk_texts_of_pattern : FunD K "texts_of_pattern" "texts_of_pattern" (defArgs sTP) (defBody sTP) (defScope sTP) [] [] (ga K "texts_of_pattern") fd_texts_of_pattern := Fk_texts_of_pattern
  have F_texts_of_pattern : Fun K "texts_of_pattern" "texts_of_pattern" sTP (ga K "texts_of_pattern") fd_texts_of_pattern := fun_of Fk_texts_of_pattern
  have D_texts_of_pattern : Dn K mg "texts_of_pattern" sTP ["name", "variables", "triples"] (ga K "texts_of_pattern") fd_texts_of_pattern := ⟨F_texts_of_pattern, g_texts_of_pattern, F_texts_of_pattern.binds (ps := ["name", "variables", "triples"]) fun _ _ _ _ _ _ us hl => match us, hl with | [_, _, _], _ => rfl⟩
  have g_refuse_no_variable := glo_ok X G (ft 17 (f := .glo "refuse_no_variable") rfl)
  obtain ⟨fd_refuse_no_variable, Fk_refuse_no_variable⟩ := c.def_ 14 (d := d_refuse_no_variable) rfl
  have Fk_refuse_no_variable : FunD K "refuse_no_variable" "refuse_no_variable" (defArgs sRV) (defBody sRV) (defScope sRV) [] [] (ga K "refuse_no_variable") fd_refuse_no_variable := Fk_refuse_no_variable
  have F_refuse_no_variable : Fun K "refuse_no_variable" "refuse_no_variable" sRV (ga K "refuse_no_variable") fd_refuse_no_variable := fun_of Fk_refuse_no_variable
  have D_refuse_no_variable : Dn K mg "refuse_no_variable" sRV ["names", "texts"] (ga K "refuse_no_variable") fd_refuse_no_variable := ⟨F_refuse_no_variable, g_refuse_no_variable, F_refuse_no_variable.binds (ps := ["names", "texts"]) fun _ _ _ _ _ _ us hl => match us, hl with | [_, _], _ => rfl⟩
  have g_refuse_loose := glo_ok X G (ft 18 (f := .glo "refuse_loose") rfl)
  obtain ⟨fd_refuse_loose, Fk_refuse_loose⟩ := c.def_ 15 (d := d_refuse_loose) rfl
  have Fk_refuse_loose : FunD K "refuse_loose" "refuse_loose" (defArgs sRL) (defBody sRL) (defScope sRL) [] [] (ga K "refuse_loose") fd_refuse_loose := Fk_refuse_loose
  have F_refuse_loose : Fun K "refuse_loose" "refuse_loose" sRL (ga K "refuse_loose") fd_refuse_loose := fun_of Fk_refuse_loose
  have D_refuse_loose : Dn K mg "refuse_loose" sRL ["names", "conditions"] (ga K "refuse_loose") fd_refuse_loose := ⟨F_refuse_loose, g_refuse_loose, F_refuse_loose.binds (ps := ["names", "conditions"]) fun _ _ _ _ _ _ us hl => match us, hl with | [_, _], _ => rfl⟩
  have g_refuse_apart := glo_ok X G (ft 19 (f := .glo "refuse_apart") rfl)
  obtain ⟨fd_refuse_apart, Fk_refuse_apart⟩ := c.def_ 16 (d := d_refuse_apart) rfl
  have Fk_refuse_apart : FunD K "refuse_apart" "refuse_apart" (defArgs sRA) (defBody sRA) (defScope sRA) [] [] (ga K "refuse_apart") fd_refuse_apart := Fk_refuse_apart
  have F_refuse_apart : Fun K "refuse_apart" "refuse_apart" sRA (ga K "refuse_apart") fd_refuse_apart := fun_of Fk_refuse_apart
  have D_refuse_apart : Dn K mg "refuse_apart" sRA ["conditions"] (ga K "refuse_apart") fd_refuse_apart := ⟨F_refuse_apart, g_refuse_apart, F_refuse_apart.binds (ps := ["conditions"]) fun _ _ _ _ _ _ us hl => match us, hl with | [_], _ => rfl⟩
  have g_check_pattern := glo_ok X G (ft 20 (f := .glo "check_pattern") rfl)
  obtain ⟨fd_check_pattern, Fk_check_pattern⟩ := c.def_ 17 (d := d_check_pattern) rfl
  have Fk_check_pattern : FunD K "check_pattern" "check_pattern" (defArgs sCP) (defBody sCP) (defScope sCP) [] [] (ga K "check_pattern") fd_check_pattern := Fk_check_pattern
  have F_check_pattern : Fun K "check_pattern" "check_pattern" sCP (ga K "check_pattern") fd_check_pattern := fun_of Fk_check_pattern
  have D_check_pattern : Dn K mg "check_pattern" sCP ["name", "variables", "conditions", "given", "hands"] (ga K "check_pattern") fd_check_pattern := ⟨F_check_pattern, g_check_pattern, F_check_pattern.binds (ps := ["name", "variables", "conditions", "given", "hands"]) fun _ _ _ _ _ _ us hl => match us, hl with | [_, _, _, _, _], _ => rfl⟩
  have g__law_state := glo_ok X G (ft 21 (f := .glo "_law_state") rfl)
  obtain ⟨fd__law_state, Fk__law_state⟩ := c.def_ 18 (d := d__law_state) rfl
  have Fk__law_state : FunD K "_law_state" "_law_state" (defArgs sState) (defBody sState) (defScope sState) [] [] (ga K "_law_state") fd__law_state := Fk__law_state
  have F__law_state : Fun K "_law_state" "_law_state" sState (ga K "_law_state") fd__law_state := fun_of Fk__law_state
  have D__law_state : Dn K mg "_law_state" sState ["_law_cell"] (ga K "_law_state") fd__law_state := ⟨F__law_state, g__law_state, F__law_state.binds (ps := ["_law_cell"]) fun _ _ _ _ _ _ us hl => match us, hl with | [_], _ => rfl⟩
  have g__law_digit := glo_ok X G (ft 22 (f := .glo "_law_digit") rfl)
  obtain ⟨fd__law_digit, Fk__law_digit⟩ := c.def_ 19 (d := d__law_digit) rfl
  have Fk__law_digit : FunD K "_law_digit" "_law_digit" (defArgs sDigit) (defBody sDigit) (defScope sDigit) [] [] (ga K "_law_digit") fd__law_digit := Fk__law_digit
  have F__law_digit : Fun K "_law_digit" "_law_digit" sDigit (ga K "_law_digit") fd__law_digit := fun_of Fk__law_digit
  have D__law_digit : Dn K mg "_law_digit" sDigit ["_law_state_here", "_law_base"] (ga K "_law_digit") fd__law_digit := ⟨F__law_digit, g__law_digit, F__law_digit.binds (ps := ["_law_state_here", "_law_base"]) fun _ _ _ _ _ _ us hl => match us, hl with | [_, _], _ => rfl⟩
  have g__law_name := glo_ok X G (ft 23 (f := .glo "_law_name") rfl)
  obtain ⟨fd__law_name, Fk__law_name⟩ := c.def_ 20 (d := d__law_name) rfl
  have Fk__law_name : FunD K "_law_name" "_law_name" (defArgs sNam) (defBody sNam) (defScope sNam) [] [] (ga K "_law_name") fd__law_name := Fk__law_name
  have F__law_name : Fun K "_law_name" "_law_name" sNam (ga K "_law_name") fd__law_name := fun_of Fk__law_name
  have D__law_name : Dn K mg "_law_name" sNam ["_law_s", "_law_taken"] (ga K "_law_name") fd__law_name := ⟨F__law_name, g__law_name, F__law_name.binds (ps := ["_law_s", "_law_taken"]) fun _ _ _ _ _ _ us hl => match us, hl with | [_, _], _ => rfl⟩
  have g__law_names := glo_ok X G (ft 24 (f := .glo "_law_names") rfl)
  obtain ⟨fd__law_names, Fk__law_names⟩ := c.def_ 21 (d := d__law_names) rfl
  have Fk__law_names : FunD K "_law_names" "_law_names" (defArgs sNms) (defBody sNms) (defScope sNms) [] [] (ga K "_law_names") fd__law_names := Fk__law_names
  have F__law_names : Fun K "_law_names" "_law_names" sNms (ga K "_law_names") fd__law_names := fun_of Fk__law_names
  have D__law_names : Dn K mg "_law_names" sNms ["_law_s", "_law_many"] (ga K "_law_names") fd__law_names := ⟨F__law_names, g__law_names, F__law_names.binds (ps := ["_law_s", "_law_many"]) fun _ _ _ _ _ _ us hl => match us, hl with | [_, _], _ => rfl⟩
  have g__law_none := glo_ok X G (ft 25 (f := .glo "_law_none") rfl)
  obtain ⟨fd__law_none, Fk__law_none⟩ := c.def_ 22 (d := d__law_none) rfl
  have Fk__law_none : FunD K "_law_none" "_law_none" (defArgs sNon) (defBody sNon) (defScope sNon) [] [] (ga K "_law_none") fd__law_none := Fk__law_none
  have F__law_none : Fun K "_law_none" "_law_none" sNon (ga K "_law_none") fd__law_none := fun_of Fk__law_none
  have D__law_none : Dn K mg "_law_none" sNon ["_law_chart", "_law_text"] (ga K "_law_none") fd__law_none := ⟨F__law_none, g__law_none, F__law_none.binds (ps := ["_law_chart", "_law_text"]) fun _ _ _ _ _ _ us hl => match us, hl with | [_, _], _ => rfl⟩
  have g_law := glo_ok X G (ft 26 (f := .glo "law") rfl)
  obtain ⟨fd_law, Fk_law⟩ := c.def_ 23 (d := d_law) rfl
  have Fk_law : FunD K "law" "law" (defArgs sLaw) (defBody sLaw) (defScope sLaw) [] [] (ga K "law") fd_law := Fk_law
  have F_law : Fun K "law" "law" sLaw (ga K "law") fd_law := fun_of Fk_law
  have FLb := FunD.bindsA (ps := ["_law_script"]) Fk_law fun _ _ _ _ _ _ us hl => match us, hl with | [_], _ => rfl
  have g_Scheme := glo_ok X G (ft 27 (f := .glo "Scheme") rfl)
  have cls_Scheme := cls_ok (ft 28 (f := .cls "Scheme") rfl)
  have na_Scheme_own_sorts := noat_ok (ft 29 (f := .noat "Scheme" "own_sorts") rfl)
  have na_Scheme_own_words := noat_ok (ft 30 (f := .noat "Scheme" "own_words") rfl)
  have na_Scheme_own_makings := noat_ok (ft 31 (f := .noat "Scheme" "own_makings") rfl)
  have na_Scheme_own_rules := noat_ok (ft 32 (f := .noat "Scheme" "own_rules") rfl)
  have na_Scheme_own_bars := noat_ok (ft 33 (f := .noat "Scheme" "own_bars") rfl)
  have mk_Scheme := mkr_ok (ft 34 (f := .mkr "Scheme") rfl)
  have g_Bar := glo_ok X G (ft 35 (f := .glo "Bar") rfl)
  have cls_Bar := cls_ok (ft 36 (f := .cls "Bar") rfl)
  have na_Bar_name := noat_ok (ft 37 (f := .noat "Bar" "name") rfl)
  have na_Bar_variables := noat_ok (ft 38 (f := .noat "Bar" "variables") rfl)
  have na_Bar_conditions := noat_ok (ft 39 (f := .noat "Bar" "conditions") rfl)
  have mk_Bar := mkr_ok (ft 40 (f := .mkr "Bar") rfl)
  have g_Rule := glo_ok X G (ft 41 (f := .glo "Rule") rfl)
  have cls_Rule := cls_ok (ft 42 (f := .cls "Rule") rfl)
  have na_Rule_name := noat_ok (ft 43 (f := .noat "Rule" "name") rfl)
  have na_Rule_variables := noat_ok (ft 44 (f := .noat "Rule" "variables") rfl)
  have na_Rule_conditions := noat_ok (ft 45 (f := .noat "Rule" "conditions") rfl)
  have na_Rule_gives := noat_ok (ft 46 (f := .noat "Rule" "gives") rfl)
  have na_Rule_by := noat_ok (ft 47 (f := .noat "Rule" "by") rfl)
  have mk_Rule := mkr_ok (ft 48 (f := .mkr "Rule") rfl)
  have g_Making := glo_ok X G (ft 49 (f := .glo "Making") rfl)
  have cls_Making := cls_ok (ft 50 (f := .cls "Making") rfl)
  have na_Making_maker := noat_ok (ft 51 (f := .noat "Making" "maker") rfl)
  have na_Making_made := noat_ok (ft 52 (f := .noat "Making" "made") rfl)
  have na_Making_down := noat_ok (ft 53 (f := .noat "Making" "down") rfl)
  have na_Making_up := noat_ok (ft 54 (f := .noat "Making" "up") rfl)
  have mk_Making := mkr_ok (ft 55 (f := .mkr "Making") rfl)
  obtain ⟨fd_NoName___init__, Fk_NoName___init__⟩ := c.def_ 24 (d := d_NoName___init__) rfl
  have Fk_NoName___init__ : FunD K "__init__" "NoName.__init__" (defArgs sN0) (defBody sN0) (defScope sN0) [] [] (ma K (ga K "NoName") "__init__") fd_NoName___init__ := Fk_NoName___init__
  have F_NoName___init__ : Fun K "__init__" "NoName.__init__" sN0 (ma K (ga K "NoName") "__init__") fd_NoName___init__ := fun_of Fk_NoName___init__
  have b_NoName___init__ := F_NoName___init__.binds (ps := ["self", "name"]) fun _ _ _ _ _ _ us hl => match us, hl with | [_, _], _ => rfl
  obtain ⟨fd_NoRule___init__, Fk_NoRule___init__⟩ := c.def_ 25 (d := d_NoRule___init__) rfl
  have Fk_NoRule___init__ : FunD K "__init__" "NoRule.__init__" (defArgs sNRu) (defBody sNRu) (defScope sNRu) [] [] (ma K (ga K "NoRule") "__init__") fd_NoRule___init__ := Fk_NoRule___init__
  have F_NoRule___init__ : Fun K "__init__" "NoRule.__init__" sNRu (ma K (ga K "NoRule") "__init__") fd_NoRule___init__ := fun_of Fk_NoRule___init__
  have b_NoRule___init__ := F_NoRule___init__.binds (ps := ["self", "name"]) fun _ _ _ _ _ _ us hl => match us, hl with | [_, _], _ => rfl
  obtain ⟨fd_Bar___init__, Fk_Bar___init__⟩ := c.def_ 26 (d := d_Bar___init__) rfl
  have Fk_Bar___init__ : FunD K "__init__" "Bar.__init__" (defArgs sBar) (defBody sBar) (defScope sBar) [] [] (ma K (ga K "Bar") "__init__") fd_Bar___init__ := Fk_Bar___init__
  have F_Bar___init__ : Fun K "__init__" "Bar.__init__" sBar (ma K (ga K "Bar") "__init__") fd_Bar___init__ := fun_of Fk_Bar___init__
  have b_Bar___init__ := F_Bar___init__.binds (ps := ["self", "name", "variables", "conditions"]) fun _ _ _ _ _ _ us hl => match us, hl with | [_, _, _, _], _ => rfl
  obtain ⟨fd_Rule___init__, Fk_Rule___init__⟩ := c.def_ 27 (d := d_Rule___init__) rfl
  have Fk_Rule___init__ : FunD K "__init__" "Rule.__init__" (defArgs sRul) (defBody sRul) (defScope sRul) [] [] (ma K (ga K "Rule") "__init__") fd_Rule___init__ := Fk_Rule___init__
  have F_Rule___init__ : Fun K "__init__" "Rule.__init__" sRul (ma K (ga K "Rule") "__init__") fd_Rule___init__ := fun_of Fk_Rule___init__
  have b_Rule___init__ := F_Rule___init__.binds (ps := ["self", "name", "variables", "conditions", "gives", "by"]) fun _ _ _ _ _ _ us hl => match us, hl with | [_, _, _, _, _, _], _ => rfl
  obtain ⟨fd_Making___init__, Fk_Making___init__⟩ := c.def_ 28 (d := d_Making___init__) rfl
  have Fk_Making___init__ : FunD K "__init__" "Making.__init__" (defArgs sMak) (defBody sMak) (defScope sMak) [] [] (ma K (ga K "Making") "__init__") fd_Making___init__ := Fk_Making___init__
  have F_Making___init__ : Fun K "__init__" "Making.__init__" sMak (ma K (ga K "Making") "__init__") fd_Making___init__ := fun_of Fk_Making___init__
  have b_Making___init__ := F_Making___init__.binds (ps := ["self", "maker", "made", "down", "up"]) fun _ _ _ _ _ _ us hl => match us, hl with | [_, _, _, _, _], _ => rfl
  have m_Bar___eq__ := meth_ok (ft 56 (f := .meth "Bar" "__eq__") rfl)
  obtain ⟨fd_Bar___eq__, Fk_Bar___eq__⟩ := c.def_ 29 (d := d_Bar___eq__) rfl
  have Fk_Bar___eq__ : FunD K "__eq__" "Bar.__eq__" (defArgs sBE) (defBody sBE) (defScope sBE) [] [] (ma K (ga K "Bar") "__eq__") fd_Bar___eq__ := Fk_Bar___eq__
  have F_Bar___eq__ : Fun K "__eq__" "Bar.__eq__" sBE (ma K (ga K "Bar") "__eq__") fd_Bar___eq__ := fun_of Fk_Bar___eq__
  have b_Bar___eq__ := F_Bar___eq__.binds (ps := ["self", "other"]) fun _ _ _ _ _ _ us hl => match us, hl with | [_, _], _ => rfl
  have m_Rule___eq__ := meth_ok (ft 57 (f := .meth "Rule" "__eq__") rfl)
  obtain ⟨fd_Rule___eq__, Fk_Rule___eq__⟩ := c.def_ 30 (d := d_Rule___eq__) rfl
  have Fk_Rule___eq__ : FunD K "__eq__" "Rule.__eq__" (defArgs sRE) (defBody sRE) (defScope sRE) [] [] (ma K (ga K "Rule") "__eq__") fd_Rule___eq__ := Fk_Rule___eq__
  have F_Rule___eq__ : Fun K "__eq__" "Rule.__eq__" sRE (ma K (ga K "Rule") "__eq__") fd_Rule___eq__ := fun_of Fk_Rule___eq__
  have b_Rule___eq__ := F_Rule___eq__.binds (ps := ["self", "other"]) fun _ _ _ _ _ _ us hl => match us, hl with | [_, _], _ => rfl
  have m_Scheme_makings := meth_ok (ft 58 (f := .meth "Scheme" "makings") rfl)
  obtain ⟨fd_Scheme_makings, Fk_Scheme_makings⟩ := c.def_ 31 (d := d_Scheme_makings) rfl
  have Fk_Scheme_makings : FunD K "makings" "Scheme.makings" (defArgs sSMk) (defBody sSMk) (defScope sSMk) [] [] (ma K (ga K "Scheme") "makings") fd_Scheme_makings := Fk_Scheme_makings
  have F_Scheme_makings : Fun K "makings" "Scheme.makings" sSMk (ma K (ga K "Scheme") "makings") fd_Scheme_makings := fun_of Fk_Scheme_makings
  have b_Scheme_makings := F_Scheme_makings.binds (ps := ["self"]) fun _ _ _ _ _ _ us hl => match us, hl with | [_], _ => rfl
  have m_Scheme_rules := meth_ok (ft 59 (f := .meth "Scheme" "rules") rfl)
  obtain ⟨fd_Scheme_rules, Fk_Scheme_rules⟩ := c.def_ 32 (d := d_Scheme_rules) rfl
  have Fk_Scheme_rules : FunD K "rules" "Scheme.rules" (defArgs sSRu) (defBody sSRu) (defScope sSRu) [] [] (ma K (ga K "Scheme") "rules") fd_Scheme_rules := Fk_Scheme_rules
  have F_Scheme_rules : Fun K "rules" "Scheme.rules" sSRu (ma K (ga K "Scheme") "rules") fd_Scheme_rules := fun_of Fk_Scheme_rules
  have b_Scheme_rules := F_Scheme_rules.binds (ps := ["self"]) fun _ _ _ _ _ _ us hl => match us, hl with | [_], _ => rfl
  have m_Scheme_bars := meth_ok (ft 60 (f := .meth "Scheme" "bars") rfl)
  obtain ⟨fd_Scheme_bars, Fk_Scheme_bars⟩ := c.def_ 33 (d := d_Scheme_bars) rfl
  have Fk_Scheme_bars : FunD K "bars" "Scheme.bars" (defArgs sSBa) (defBody sSBa) (defScope sSBa) [] [] (ma K (ga K "Scheme") "bars") fd_Scheme_bars := Fk_Scheme_bars
  have F_Scheme_bars : Fun K "bars" "Scheme.bars" sSBa (ma K (ga K "Scheme") "bars") fd_Scheme_bars := fun_of Fk_Scheme_bars
  have b_Scheme_bars := F_Scheme_bars.binds (ps := ["self"]) fun _ _ _ _ _ _ us hl => match us, hl with | [_], _ => rfl
  have m_Scheme_rule := meth_ok (ft 61 (f := .meth "Scheme" "rule") rfl)
  obtain ⟨fd_Scheme_rule, Fk_Scheme_rule⟩ := c.def_ 34 (d := d_Scheme_rule) rfl
  have Fk_Scheme_rule : FunD K "rule" "Scheme.rule" (defArgs sSR1) (defBody sSR1) (defScope sSR1) [] [] (ma K (ga K "Scheme") "rule") fd_Scheme_rule := Fk_Scheme_rule
  have F_Scheme_rule : Fun K "rule" "Scheme.rule" sSR1 (ma K (ga K "Scheme") "rule") fd_Scheme_rule := fun_of Fk_Scheme_rule
  have b_Scheme_rule := F_Scheme_rule.binds (ps := ["self", "name"]) fun _ _ _ _ _ _ us hl => match us, hl with | [_, _], _ => rfl
  have m_Scheme_bar := meth_ok (ft 62 (f := .meth "Scheme" "bar") rfl)
  obtain ⟨fd_Scheme_bar, Fk_Scheme_bar⟩ := c.def_ 35 (d := d_Scheme_bar) rfl
  have Fk_Scheme_bar : FunD K "bar" "Scheme.bar" (defArgs sSB1) (defBody sSB1) (defScope sSB1) [] [] (ma K (ga K "Scheme") "bar") fd_Scheme_bar := Fk_Scheme_bar
  have F_Scheme_bar : Fun K "bar" "Scheme.bar" sSB1 (ma K (ga K "Scheme") "bar") fd_Scheme_bar := fun_of Fk_Scheme_bar
  have b_Scheme_bar := F_Scheme_bar.binds (ps := ["self", "name"]) fun _ _ _ _ _ _ us hl => match us, hl with | [_, _], _ => rfl
  have m_Scheme_with_rule := meth_ok (ft 63 (f := .meth "Scheme" "with_rule") rfl)
  obtain ⟨fd_Scheme_with_rule, Fk_Scheme_with_rule⟩ := c.def_ 36 (d := d_Scheme_with_rule) rfl
  have Fk_Scheme_with_rule : FunD K "with_rule" "Scheme.with_rule" (defArgs sSwr) (defBody sSwr) (defScope sSwr) [] [] (ma K (ga K "Scheme") "with_rule") fd_Scheme_with_rule := Fk_Scheme_with_rule
  have F_Scheme_with_rule : Fun K "with_rule" "Scheme.with_rule" sSwr (ma K (ga K "Scheme") "with_rule") fd_Scheme_with_rule := fun_of Fk_Scheme_with_rule
  have b_Scheme_with_rule := F_Scheme_with_rule.binds (ps := ["self", "rule"]) fun _ _ _ _ _ _ us hl => match us, hl with | [_, _], _ => rfl
  have m_Scheme_with_bar := meth_ok (ft 64 (f := .meth "Scheme" "with_bar") rfl)
  obtain ⟨fd_Scheme_with_bar, Fk_Scheme_with_bar⟩ := c.def_ 37 (d := d_Scheme_with_bar) rfl
  have Fk_Scheme_with_bar : FunD K "with_bar" "Scheme.with_bar" (defArgs sSwb) (defBody sSwb) (defScope sSwb) [] [] (ma K (ga K "Scheme") "with_bar") fd_Scheme_with_bar := Fk_Scheme_with_bar
  have F_Scheme_with_bar : Fun K "with_bar" "Scheme.with_bar" sSwb (ma K (ga K "Scheme") "with_bar") fd_Scheme_with_bar := fun_of Fk_Scheme_with_bar
  have b_Scheme_with_bar := F_Scheme_with_bar.binds (ps := ["self", "bar"]) fun _ _ _ _ _ _ us hl => match us, hl with | [_, _], _ => rfl
  have m_Scheme_with_making := meth_ok (ft 65 (f := .meth "Scheme" "with_making") rfl)
  obtain ⟨fd_Scheme_with_making, Fk_Scheme_with_making⟩ := c.def_ 38 (d := d_Scheme_with_making) rfl
  have Fk_Scheme_with_making : FunD K "with_making" "Scheme.with_making" (defArgs sSwm) (defBody sSwm) (defScope sSwm) [] [] (ma K (ga K "Scheme") "with_making") fd_Scheme_with_making := Fk_Scheme_with_making
  have F_Scheme_with_making : Fun K "with_making" "Scheme.with_making" sSwm (ma K (ga K "Scheme") "with_making") fd_Scheme_with_making := fun_of Fk_Scheme_with_making
  have b_Scheme_with_making := F_Scheme_with_making.binds (ps := ["self", "making"]) fun _ _ _ _ _ _ us hl => match us, hl with | [_, _], _ => rfl
  have m_Scheme_without_rule := meth_ok (ft 66 (f := .meth "Scheme" "without_rule") rfl)
  obtain ⟨fd_Scheme_without_rule, Fk_Scheme_without_rule⟩ := c.def_ 39 (d := d_Scheme_without_rule) rfl
  have Fk_Scheme_without_rule : FunD K "without_rule" "Scheme.without_rule" (defArgs sSor) (defBody sSor) (defScope sSor) [] [] (ma K (ga K "Scheme") "without_rule") fd_Scheme_without_rule := Fk_Scheme_without_rule
  have F_Scheme_without_rule : Fun K "without_rule" "Scheme.without_rule" sSor (ma K (ga K "Scheme") "without_rule") fd_Scheme_without_rule := fun_of Fk_Scheme_without_rule
  have b_Scheme_without_rule := F_Scheme_without_rule.binds (ps := ["self", "name"]) fun _ _ _ _ _ _ us hl => match us, hl with | [_, _], _ => rfl
  have m_Scheme_without_bar := meth_ok (ft 67 (f := .meth "Scheme" "without_bar") rfl)
  obtain ⟨fd_Scheme_without_bar, Fk_Scheme_without_bar⟩ := c.def_ 40 (d := d_Scheme_without_bar) rfl
  have Fk_Scheme_without_bar : FunD K "without_bar" "Scheme.without_bar" (defArgs sSob) (defBody sSob) (defScope sSob) [] [] (ma K (ga K "Scheme") "without_bar") fd_Scheme_without_bar := Fk_Scheme_without_bar
  have F_Scheme_without_bar : Fun K "without_bar" "Scheme.without_bar" sSob (ma K (ga K "Scheme") "without_bar") fd_Scheme_without_bar := fun_of Fk_Scheme_without_bar
  have b_Scheme_without_bar := F_Scheme_without_bar.binds (ps := ["self", "name"]) fun _ _ _ _ _ _ us hl => match us, hl with | [_, _], _ => rfl
  have m_Scheme_without_making := meth_ok (ft 68 (f := .meth "Scheme" "without_making") rfl)
  obtain ⟨fd_Scheme_without_making, Fk_Scheme_without_making⟩ := c.def_ 41 (d := d_Scheme_without_making) rfl
  have Fk_Scheme_without_making : FunD K "without_making" "Scheme.without_making" (defArgs sSom) (defBody sSom) (defScope sSom) [] [] (ma K (ga K "Scheme") "without_making") fd_Scheme_without_making := Fk_Scheme_without_making
  have F_Scheme_without_making : Fun K "without_making" "Scheme.without_making" sSom (ma K (ga K "Scheme") "without_making") fd_Scheme_without_making := fun_of Fk_Scheme_without_making
  have b_Scheme_without_making := F_Scheme_without_making.binds (ps := ["self", "maker", "made"]) fun _ _ _ _ _ _ us hl => match us, hl with | [_, _, _], _ => rfl
  have t_abs := free_ok X G (ft 69 (f := .free "abs") rfl)
  have t_int := free_ok X G (ft 70 (f := .free "int") rfl)
  have t_len := free_ok X G (ft 71 (f := .free "len") rfl)
  have t_range := free_ok X G (ft 72 (f := .free "range") rfl)
  have t_all := free_ok X G (ft 73 (f := .free "all") rfl)
  have t_tuple := free_ok X G (ft 74 (f := .free "tuple") rfl)
  have t_enumerate := free_ok X G (ft 75 (f := .free "enumerate") rfl)
  have t_isinstance := free_ok X G (ft 76 (f := .free "isinstance") rfl)
  have t_ValueError := free_ok X G (ft 77 (f := .free "ValueError") rfl)
  have t_list := free_ok X G (ft 78 (f := .free "list") rfl)
  have t_str := free_ok X G (ft 79 (f := .free "str") rfl)
  have e := hfa.symm.trans g_law
  cases e
  have T : TxB mg := ⟨t_abs, t_int, t_len, t_range, t_all, t_tuple, t_enumerate, t_isinstance, t_ValueError⟩
  have TN : TxN mg := ⟨str_ok X G (ft 80 rfl), str_ok X G (ft 81 rfl), int_ok X G (ft 82 rfl)⟩
  have TS : TxS mg := ⟨int_ok X G (ft 83 rfl), int_ok X G (ft 84 rfl), int_ok X G (ft 85 rfl), int_ok X G (ft 86 rfl)⟩
  have TP : TxP mg := ⟨int_ok X G (ft 87 rfl), int_ok X G (ft 88 rfl)⟩
  obtain ⟨dW0, FW⟩ := c.def_ 42 (d := dWho) rfl
  have FW : FunD K "__init__" "WhoError.__init__" (defArgs sW0) (defBody sW0) (defScope sW0) [.str (PySem.Str.ofString "whoerror")] [] (ma K (ga K "WhoError") "__init__") dW0 := FW
  obtain ⟨ds, hds, bW⟩ := FW.binds1 (ps := ["self", "kind"]) 2 1 (by simp) (by rfl) (fun T kV doc pm an cdv ct us its hu hi => match us, hu, its, hi with | [_, _], _, [_], _ => ⟨_, rfl, rfl⟩)
  cases hds
  have ww := whoB_ok qw
  have TW : WhoT K mg (ga K "WhoError") (ma K (ga K "WhoError") "__init__") dW0 := ⟨g_WhoError, ww.1, ww.2, FW.kp, bW⟩
  have E0 := errB_ok (x := "NoName") qe0 g_NoName
  have E1 := errB_ok (x := "NoRule") qe1 g_NoRule
  have TE : TxE K mg (ga K "NoRule") := ⟨g_NoRule, E1.2.2.2, E1.2.1, E1.1.nf⟩
  have TC : TxSch K mg (ga K "Scheme") (ma K (ga K "Scheme") "__init__") := ⟨cls_Scheme, na_Scheme_own_sorts, na_Scheme_own_words, na_Scheme_own_makings, na_Scheme_own_rules, na_Scheme_own_bars, g_Scheme, mk_Scheme⟩
  have TB : TxBar K mg (ga K "Bar") (ma K (ga K "Bar") "__init__") := ⟨cls_Bar, na_Bar_name, na_Bar_variables, na_Bar_conditions, g_Bar, mk_Bar⟩
  have TR : TxRul K mg (ga K "Rule") (ma K (ga K "Rule") "__init__") := ⟨cls_Rule, na_Rule_name, na_Rule_variables, na_Rule_conditions, na_Rule_gives, na_Rule_by, g_Rule, mk_Rule⟩
  have TM : TxMak K mg (ga K "Making") (ma K (ga K "Making") "__init__") := ⟨cls_Making, na_Making_maker, na_Making_made, na_Making_down, na_Making_up, g_Making, mk_Making⟩
  obtain ⟨dSi, FSi⟩ := c.def_ 43 (d := dSch) rfl
  have FSi : FunD K "__init__" "Scheme.__init__" (defArgs sSch) (defBody sSch) (defScope sSch) [.non, .non, .non] [] (ma K (ga K "Scheme") "__init__") dSi := FSi
  obtain ⟨dss, hdss, bSi⟩ := FSi.binds1 (ps := psSch) 6 3 (by simp) (by rfl) (fun T kV doc pm an cdv ct us its hu hi => match us, hu, its, hi with | [_, _, _, _, _, _], _, [_, _, _], _ => ⟨_, rfl, rfl⟩)
  cases hdss
  have kS5 := FSi.kbindsD (ps := psSch) 1 ["bars", "rules", "words", "makings", "sorts"] (fun vs _ zs => g5s vs zs) (by simp) (fun a _ b => g5s_rel a b) (fun T kV doc pm an cdv ct us its ws hu hi hw => match us, hu, its, hi, ws, hw with | [_], _, [_, _, _], _, [_, _, _, _, _], _ => ⟨_, rfl, rfl⟩)
  have kS3 := FSi.kbindsD (ps := psSch) 1 ["rules", "sorts", "words"] (fun vs ds zs => g3s vs ds zs) (by simp) (fun a d b => g3s_rel a d b) (fun T kV doc pm an cdv ct us its ws hu hi hw => match us, hu, its, hi, ws, hw with | [_], _, [_, _, _], _, [_, _, _], _ => ⟨_, rfl, rfl⟩)
  have tR := insB_ok iR cls_Rule
  have tB := insB_ok iB cls_Bar
  refine ⟨_, fun s v => FLb s [v] rfl, fun base _ _ => ?_⟩
  have GW : FnOk P w K mg base CX0 1 _ dW0 ["self", "kind"] (spWI K) := ok_who FW
  have GI0 : FnOk P w K mg base CX0 2 _ _ ["self", "name"] (spE1 (ga K "NoName") "name" "noname") := ok_noname F_NoName___init__ E0.1 TW GW
  have GI1 : FnOk P w K mg base CX0 2 _ _ ["self", "name"] (spE1 (ga K "NoRule") "name" "norule") := ok_norule F_NoRule___init__ E1.1 TW GW
  have GIs : FnOk P w K mg base CX0 1 _ _ ["text"] spName := ok_name F_is_name T TN
  have GRN : FnOk P w K mg base (L2.CX P w) 4 _ _ ["texts"] (spRN K (ga K "NoName")) := ok_rn F_refuse_no_name D_is_name GIs E0.1 b_NoName___init__ GI0
  have GRV : FnOk P w K mg base CX0 2 _ _ ["texts"] (spRNv K) := ok_rnv F_refuse_no_name D_is_name GIs
  have GRT : FnOk P w K mg base CX0 2 _ _ ["names"] (spFT K) := ok_rt F_refuse_twice T D_first_twice
  have GCP : FnOk P w K mg base (L2.CX P w) 5 _ _ ["name", "variables", "conditions", "given", "hands"] (spCP K (ga K "NoName")) := ok_cp F_check_pattern T TP D_refuse_count D_refuse_no_name D_texts_of_pattern D_refuse_twice D_refuse_no_variable D_ends_of D_refuse_loose D_refuse_apart GRN GRT
  have GB : FnOk P w K mg base (L2.CX P w) 6 _ _ ["self", "name", "variables", "conditions"] (spBar K (ga K "NoName") (ga K "Bar")) := ok_bar F_Bar___init__ T TB D_tuple_of_tuples D_check_pattern GCP
  have GR : FnOk P w K mg base (L2.CX P w) 6 _ _ ["self", "name", "variables", "conditions", "gives", "by"] (spRul K (ga K "NoName") (ga K "Rule")) := ok_rul F_Rule___init__ T TR D_tuple_of_tuples D_check_pattern GCP
  have GM : FnOk P w K mg base (L2.CX P w) 5 _ _ ["self", "maker", "made", "down", "up"] (spMak K (ga K "NoName") (ga K "Making")) := ok_mak F_Making___init__ T TM D_refuse_no_name D_refuse_twice GRN GRT
  have GCS : FnOk P w K mg base CX0 3 _ _ ["sorts", "words", "makings", "rules", "bars"] (spCS K (ga K "Making") (ga K "Rule") (ga K "Bar")) := ok_cs F_check_scheme T TS TM TR TB D_refuse_count D_refuse_no_name D_refuse_twice D_refuse_makings_twice D_refuse_no_sort D_refuse_upward D_refuse_no_word D_first_twice GRV GRT
  have GS : FnOk P w K mg base CX0 4 _ dSi psSch (spSch K (ga K "Scheme") (ga K "Making") (ga K "Rule") (ga K "Bar")) := ok_sch FSi t_list TC D_own_list D_check_scheme GCS
  have GRE : FnOk P w K mg base CX0 1 _ _ ["self", "other"] (spRE K (ga K "Rule")) := ok_re F_Rule___eq__ T TR tR.2
  have GBE : FnOk P w K mg base CX0 1 _ _ ["self", "other"] (spBE K (ga K "Bar")) := ok_be F_Bar___eq__ T TB tB.2
  have GRN1 : FnOk P w K mg base (L2.CX P w) 4 _ _ ["self", "name"] (spSR1N K (ga K "Scheme") (ga K "Rule") (ga K "NoRule")) := ok_sr1N F_Scheme_rule TC TR E1.1 b_NoRule___init__ GI1
  have kR1 := (FunD.kb0 (ps := ["self", "name"]) Fk_Scheme_rule 1 ["name"] (fun vs zs => g1 vs zs) g1_rel (fun kV doc pm an cdv ct us ws hu hw => match us, hu, ws, hw with | [_], _, [_], _ => rfl))
  have GNo : FnOk P w K mg base CX0 5 _ _ ["_law_chart", "_law_text"] (spNon K (ga K "Scheme") (ga K "Rule")) := ok_non F__law_none TC TE m_Scheme_rule kR1 GRN1
  have GNm : FnOk P w K mg base CX0 2 _ _ ["_law_s", "_law_taken"] spNam := ok_nam F__law_name T t_str D__law_digit
  have GN : FnOk P w K mg base CX0 3 _ _ ["_law_s", "_law_many"] spNms := ok_nms F__law_names T D__law_name GNm
  have KW : Kws P w K mg base (ga K "NoName") (ga K "Scheme") (ma K (ga K "Scheme") "__init__") (ga K "Making") (ma K (ga K "Making") "__init__") (ga K "Rule") (ma K (ga K "Rule") "__init__") (ga K "Bar") (ma K (ga K "Bar") "__init__") (ma K (ga K "Rule") "__eq__") (ma K (ga K "Bar") "__eq__") dSi fd_Making___init__ fd_Rule___init__ fd_Bar___init__ fd_Rule___eq__ fd_Bar___eq__ := ⟨TC, TM, TR, TB, GM, GR, GB, GS, (FunD.kb0 (ps := ["self", "maker", "made", "down", "up"]) Fk_Making___init__ 1 ["up", "down", "made", "maker"] (fun vs zs => g4 vs zs) g4_rel (fun kV doc pm an cdv ct us ws hu hw => match us, hu, ws, hw with | [_], _, [_, _, _, _], _ => rfl)), (FunD.kb0 (ps := ["self", "name", "variables", "conditions", "gives", "by"]) Fk_Rule___init__ 1 ["by", "gives", "conditions", "variables", "name"] (fun vs zs => g5 vs zs) g5_rel (fun kV doc pm an cdv ct us ws hu hw => match us, hu, ws, hw with | [_], _, [_, _, _, _, _], _ => rfl)), (FunD.kb0 (ps := ["self", "name", "variables", "conditions"]) Fk_Bar___init__ 1 ["conditions", "name", "variables"] (fun vs zs => g3 vs zs) g3_rel (fun kV doc pm an cdv ct us ws hu hw => match us, hu, ws, hw with | [_], _, [_, _, _], _ => rfl)), kS5, kS3, tR.1, tB.1, eqneB_ok qR, eqneB_ok qB, GRE, GBE, b_Rule___eq__, b_Bar___eq__⟩
  have ME : Mets P w K mg base (ga K "Scheme") (ga K "Making") (ga K "Rule") (ga K "Bar") (ma K (ga K "Scheme") "makings") (ma K (ga K "Scheme") "rules") (ma K (ga K "Scheme") "bars") (ma K (ga K "Scheme") "rule") (ma K (ga K "Scheme") "bar") (ma K (ga K "Scheme") "with_rule") (ma K (ga K "Scheme") "with_bar") (ma K (ga K "Scheme") "with_making") (ma K (ga K "Scheme") "without_rule") (ma K (ga K "Scheme") "without_bar") (ma K (ga K "Scheme") "without_making") fd_Scheme_makings fd_Scheme_rules fd_Scheme_bars fd_Scheme_rule fd_Scheme_bar fd_Scheme_with_rule fd_Scheme_with_bar fd_Scheme_with_making fd_Scheme_without_rule fd_Scheme_without_bar fd_Scheme_without_making := ⟨m_Scheme_makings, b_Scheme_makings, ok_smk F_Scheme_makings t_list TC, m_Scheme_rules, b_Scheme_rules, ok_sru F_Scheme_rules t_list TC, m_Scheme_bars, b_Scheme_bars, ok_sba F_Scheme_bars t_list TC, m_Scheme_rule, kR1, ok_sr1 F_Scheme_rule TC TR, m_Scheme_bar, (FunD.kb0 (ps := ["self", "name"]) Fk_Scheme_bar 1 ["name"] (fun vs zs => g1 vs zs) g1_rel (fun kV doc pm an cdv ct us ws hu hw => match us, hu, ws, hw with | [_], _, [_], _ => rfl)), ok_sb1 F_Scheme_bar TC TB, m_Scheme_with_rule, (FunD.kb0 (ps := ["self", "rule"]) Fk_Scheme_with_rule 1 ["rule"] (fun vs zs => g1 vs zs) g1_rel (fun kV doc pm an cdv ct us ws hu hw => match us, hu, ws, hw with | [_], _, [_], _ => rfl)), ok_swr F_Scheme_with_rule TC bSi GS, m_Scheme_with_bar, (FunD.kb0 (ps := ["self", "bar"]) Fk_Scheme_with_bar 1 ["bar"] (fun vs zs => g1 vs zs) g1_rel (fun kV doc pm an cdv ct us ws hu hw => match us, hu, ws, hw with | [_], _, [_], _ => rfl)), ok_swb F_Scheme_with_bar TC bSi GS, m_Scheme_with_making, (FunD.kb0 (ps := ["self", "making"]) Fk_Scheme_with_making 1 ["making"] (fun vs zs => g1 vs zs) g1_rel (fun kV doc pm an cdv ct us ws hu hw => match us, hu, ws, hw with | [_], _, [_], _ => rfl)), ok_swm F_Scheme_with_making TC bSi GS, m_Scheme_without_rule, (FunD.kb0 (ps := ["self", "name"]) Fk_Scheme_without_rule 1 ["name"] (fun vs zs => g1 vs zs) g1_rel (fun kV doc pm an cdv ct us ws hu hw => match us, hu, ws, hw with | [_], _, [_], _ => rfl)), ok_sor F_Scheme_without_rule T TC TR bSi GS, m_Scheme_without_bar, (FunD.kb0 (ps := ["self", "name"]) Fk_Scheme_without_bar 1 ["name"] (fun vs zs => g1 vs zs) g1_rel (fun kV doc pm an cdv ct us ws hu hw => match us, hu, ws, hw with | [_], _, [_], _ => rfl)), ok_sob F_Scheme_without_bar T TC TB bSi GS, m_Scheme_without_making, (FunD.kb0 (ps := ["self", "maker", "made"]) Fk_Scheme_without_making 1 ["made", "maker"] (fun vs zs => g2 vs zs) g2_rel (fun kV doc pm an cdv ct us ws hu hw => match us, hu, ws, hw with | [_], _, [_, _], _ => rfl)), ok_som F_Scheme_without_making T TC TM bSi GS⟩
  exact ok_law F_law T KW ME D__law_state D__law_names GN D__law_none GNo
end Wm

open PySem PySem.W PySem.Calls PyProof.Rows
set_option maxRecDepth 100000 in
set_option maxHeartbeats 0 in
theorem PySem.Challenge.cw_whomay_k09_by_their_names_holds : PySem.Challenge.rw_whomay_k09_by_their_names.Holds := by
  w_on; o_law
  refine HandSHeadRun.head_any (r := OpenLaw.row PySem.Challenge.rw_whomay_k09_by_their_names) (q := view (OpenLaw.row PySem.Challenge.rw_whomay_k09_by_their_names).prog [60]) (H := Wm.hkW) (ob := Wm.obW) (M := 20000) (loose := Wm.loW) (d := HandSHeadRun.topDef (OpenLaw.row PySem.Challenge.rw_whomay_k09_by_their_names).prog 60) (kwd := []) Wm.obW_eq
    (by kernel_rfl) (fun s => by kernel_rfl) Wm.runW (by kernel_rfl) (by kernel_rfl) (by kernel_rfl) (by rfl) (by first | assumption | decide +kernel) (by decide +kernel) ⟨rfl, rfl, rfl, rfl, rfl, by decide +kernel⟩ ?hw ?hc
  case hw => w_witness2
  case hc =>
    refine L2.walk_ofE (l := PySem.Challenge.rw_whomay_k09_by_their_names) (n := 63) (k := 8) (x := "_law_script") (CX := L2.CX0) rfl (by decide) (by kernel_rfl) ⟨rfl, by decide, by decide⟩ ?F (fun _ _ _ _ z => z)
    intro w mg fa h Y G hmg0
    obtain ⟨K, KX, c⟩ := Y
    have hmg : mg ("law" : PySem.Str) = some (.ref fa) := by
      have e : (HandSHeadRun.topDef (OpenLaw.row PySem.Challenge.rw_whomay_k09_by_their_names).prog 60).name = ("law" : PySem.Str) := by kernel_rfl
      rw [← e]
      exact hmg0
    obtain ⟨fd, hb, hF⟩ := Wm.facts (P := (PySem.Challenge.rw_whomay_k09_by_their_names).prog) (w := w) KX G hmg c
    exact ⟨K, fd, Wm.spLaw K, KX, hb, fun H a ns hl _ hS => ⟨a, ns, rfl, hS, hl, fun _ => rfl⟩, hF⟩
