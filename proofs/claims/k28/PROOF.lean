import PyProof.Rows.All
import Wide.All
import OpenK.AllK
import Wide.FinOn
import HandS.ForMost
import HandS.ForExc
import HandS.Walk
import HandS.Star
import HandS.Style
import HandS.TupAny
import HandS.ExcInit
import HandS.ExcIs
import HandS.ExcField
import HandS.Defaults
import HandS.Wide
import HandS.ClsMeth
import KE.KExcIs
import KE.GoesEnum
import HandS.FStr
import KE.KCallOwn
import HandS.OwnEq
import HandS.IsInst
import HandS.Codes
import HandS.Deep
import HandS.Text
import PyProof.StrLawsChain
import PyProof.StrLawsTight
import HandS.HotCalls
import HandS.ExcOwn
import PyProof.EqAt
import PyProof.NeKinds
import PyProof.MeetsIn
import HandS.MakeKwOnly
import HandS.MakeKw
import PyProof.EqKinds
import HandS.Words
import HandS.WordsExc
import KE.KStateDown
import HandS.Head0
import HandS.Head1
import HandS.Head2
import HandS.HeadEnd
import HandS.HeadHook1
import HandS.HeadHook2
import PySem.Challenge.RW_whomay_k28_a_scheme_written
set_option Elab.async false
set_option linter.all false
set_option maxRecDepth 100000
set_option maxHeartbeats 4000000
namespace Wm
open PySem L2
def top (i : Nat) : Stmt := PySem.Challenge.pw_whomay_k28_a_scheme_written.main.body.getD i (.Pass ⟨0, 0, 0, 0⟩)
abbrev sW0 : Stmt := inClass (top 2) 0
abbrev sN0 : Stmt := inClass (top 3) 0
abbrev sName : Stmt := top 19
abbrev sRN : Stmt := top 20
abbrev sFT : Stmt := top 21
abbrev sRT : Stmt := top 22
abbrev sRC : Stmt := top 23
abbrev sTT : Stmt := top 27
abbrev sEO : Stmt := top 28
abbrev sTP : Stmt := top 29
abbrev sRV : Stmt := top 30
abbrev sRL : Stmt := top 31
abbrev sRA : Stmt := top 32
abbrev sCP : Stmt := top 33
abbrev sBar : Stmt := inClass (top 38) 0
abbrev sRul : Stmt := inClass (top 39) 0
abbrev sRE : Stmt := inClass (top 39) 1
abbrev sBE : Stmt := inClass (top 38) 1
abbrev sMak : Stmt := inClass (top 40) 0
abbrev sPot : Stmt := top 67
abbrev sMix : Stmt := top 68
abbrev sTak : Stmt := top 69
abbrev sNAt : Stmt := top 70
abbrev sLrg : Stmt := top 71
abbrev sNam : Stmt := top 72
abbrev sNms : Stmt := top 73
abbrev sSom : Stmt := top 74
abbrev sPat : Stmt := top 75
abbrev sVP : Stmt := top 34
abbrev sPP : Stmt := top 35
abbrev sRP : Stmt := top 36
abbrev sMP : Stmt := top 37
abbrev sBS : Stmt := inClass (top 38) 2
abbrev sRS : Stmt := inClass (top 39) 2
abbrev sMS : Stmt := inClass (top 40) 2
abbrev sME : Stmt := inClass (top 40) 1
abbrev sPpt : Stmt := top 77
abbrev sPl : Stmt := top 55
abbrev sVo : Stmt := top 56
abbrev sPd : Stmt := top 57
abbrev sBd : Stmt := top 58
abbrev sRd : Stmt := top 59
abbrev sMd : Stmt := top 60
abbrev sPo : Stmt := top 54
abbrev sDf : Stmt := top 61
abbrev sMo : Stmt := top 62
abbrev sRu : Stmt := top 76
abbrev sRr : Stmt := top 78
abbrev sMr : Stmt := top 79
abbrev sOL : Stmt := top 46
abbrev sRMT : Stmt := top 47
abbrev sRNS : Stmt := top 48
abbrev sRU : Stmt := top 49
abbrev sRNW : Stmt := top 50
abbrev sCS : Stmt := top 51
abbrev sSch : Stmt := inClass (top 52) 0
abbrev sSMk : Stmt := inClass (top 52) 3
abbrev sSRu : Stmt := inClass (top 52) 4
abbrev sSBa : Stmt := inClass (top 52) 5
abbrev sSor : Stmt := inClass (top 52) 1
abbrev sWor : Stmt := inClass (top 52) 2
abbrev sSR1 : Stmt := inClass (top 52) 6
abbrev sSB1 : Stmt := inClass (top 52) 7
abbrev sNb : Stmt := top 63
abbrev sSw : Stmt := top 64
abbrev sRs : Stmt := top 65
abbrev sMks : Stmt := top 80
abbrev sLe : Stmt := top 81
abbrev sSr : Stmt := top 83
abbrev sRo : Stmt := top 84
abbrev sSc : Stmt := top 82
abbrev sMi : Stmt := top 85
abbrev sMa : Stmt := top 86
abbrev sAl : Stmt := top 87
abbrev sLaw : Stmt := top 88
end Wm
/-! a head by one run: what is asked of the written part is one Bool of one's own -/
namespace Wm
open PySem PySem.Spec PyProof.Rows L2 He ClX
def obsM (ck : PySem.W.Frag → Bool) (fn : List DefD) (K : PySem.W.Frag) : AlD := (ck K && fn.all fun d => d.ok K, fn.map fun d => fnW K d.at_)
def SaysM (ck : PySem.W.Frag → Bool) (fn : List DefD) (K : PySem.W.Frag) : Prop := obsM ck fn K = valD fn
/-- what the module's names, and what the C code keeps, reach in n steps -/
def asM (g : Addr → Option Obj) : Nat → List Addr
  | 0 => [mainGlobals, cStatics]
  | n + 1 => growD g (asM g n)
def obsMG (n : Nat) (ck : PySem.W.Frag → Bool) (fn : List DefD) (g : Addr → Option Obj) : AlD := obsM ck fn (frG g (asM g n))
def hookM (n : Nat) (ck : PySem.W.Frag → Bool) (fn : List DefD) : PySem.W.Hook where
  α := AlD
  obs := fun s => obsMG n ck fn s.heap.get?
  val := fun _ => valD fn
  says := fun _ h => ∃ K : PySem.W.Frag, K.In h ∧ SaysM ck fn K
  of := fun _ _ e => ⟨_, frG_in, e⟩
  keeps := fun _ _ _ ⟨K, hK, c⟩ k => ⟨K, PySem.W.Frag.In.keeps hK k, c⟩
theorem obsMG_eq {n : Nat} {ck : PySem.W.Frag → Bool} {fn : List DefD} {g : Addr → Option Obj} {s : Shared} (h : ∀ a, g a = s.heap.get? a) : obsMG n ck fn g = (hookM n ck fn).obs s := by
  have e : g = s.heap.get? := funext h
  rw [e] <;> rfl
section
variable {ck : PySem.W.Frag → Bool} {fn : List DefD} {K : PySem.W.Frag}
theorem SaysM.says (c : SaysM ck fn K) : ck K = true := (ba (show (ck K && fn.all fun d => d.ok K) = true from congrArg (fun z : AlD => z.1) c)).1
theorem SaysM.def_ (c : SaysM ck fn K) (i : Nat) {d : DefD} (h : fn[i]? = some d := by rfl) : ∃ fd, FunD K d.name d.qual d.params d.body d.scope (d.dvs K) (d.kws K) (fAd K d.at_) fd := by
  have c2 := (ba (show (ck K && fn.all fun d => d.ok K) = true from congrArg (fun z : AlD => z.1) c)).2
  have e : fn.map (fun d => fnW K d.at_) = fn.map DefD.val := congrArg (fun z : AlD => z.2) c
  have e2 : (fn.map fun d => fnW K d.at_)[i]? = (fn.map DefD.val)[i]? := by rw [e]
  rw [List.getElem?_map, List.getElem?_map, h] at e2
  exact DefD.funD (Option.some.inj e2) (List.all_eq_true.mp c2 d (List.mem_of_getElem? h))
end
/-- a def without defaults -/
theorem fun_of {K : PySem.W.Frag} {x q : Str} {st : Stmt} {f : Addr} {fd : FuncData} (F : FunD K x q (defArgs st) (defBody st) (defScope st) [] [] f fd) : Fun K x q st f fd := by
  obtain ⟨oc, od, dV, kV, doc, pm, an, cdv, ct, osl, rfl, l, c, d, _⟩ := F.ex
  have e : dV = .none := by
    rcases d with ⟨_, e⟩ | ⟨n, _⟩
    · exact e
    · exact absurd rfl n
  subst e
  exact ⟨⟨oc, od, kV, doc, pm, an, cdv, ct, osl, rfl, l, c⟩, F.kp⟩
/-- an error class whose objects are made by an __init__ of its own -/
def excB (K : PySem.W.Frag) (C : Addr) : Bool := match K.lookup C with
  | some ⟨.type "type", _, .cls cd, sl⟩ => (match cd.mro, sl.toList with
    | .ref C' :: bm, [_, _, _, _, some (.builtin n), _] => C' == C && (n == "ValueError.__new__" && (!cd.hasDel && (cd.hasDict && PySem.HandSPX.refsVE bm)))
    | _, _ => false)
  | _ => false
theorem excB_ok {K : PySem.W.Frag} {C : Addr} (q : excB K C = true) : ∃ nm q N bs bm sn sub ab col dd k0 k1 k2 k3 k5, K.lookup C = some (excClassObj nm q C N bs bm true sn sub ab col dd k0 k1 k2 k3 k5 "ValueError.__new__") ∧ PySem.HandSPX.refsVE bm = true := by
  unfold excB at q
  split at q
  · rename_i dd cd sl ho
    split at q
    · rename_i C' bm k0 k1 k2 k3 n k5 hm hs
      simp only [Bool.and_eq_true, beq_iff_eq, Bool.not_eq_true'] at q
      obtain ⟨rfl, rfl, hdel, hdi, ht⟩ := q
      obtain ⟨nm, bs, mro, ns, qn, hd, sn, sub, ab, col, del⟩ := cd
      dsimp only at hm hdel hdi
      subst hm hdel hdi
      have hsl : sl = #[k0, k1, k2, k3, some (.builtin "ValueError.__new__"), k5] := by
        obtain ⟨l⟩ := sl
        simp only at hs
        rw [hs]
      subst hsl
      exact ⟨nm, qn, ns, bs, bm, sn, sub, ab, col, dd, k0, k1, k2, k3, k5, ho, ht⟩
    · cases q
  · cases q
/-- WhoError, whose __init__ the others call -/
def whoB (K : PySem.W.Frag) (W : Addr) : Bool := PySem.W.readsIn K W (.type "type") && (eqO (PySem.W.specialIn K (.ref W) "__getattribute__") (some (some (.builtin "type.__getattribute__"))) && (match PySem.W.findCls K (.ref W) (.type "type") "__init__" with
  | some (.val (.ref a)) => decide (a = ma K W "__init__")
  | _ => false))
theorem whoB_ok {K : PySem.W.Frag} {W : Addr} (h : whoB K W = true) : CRead K W (.type "type") ∧ PySem.W.findCls K (.ref W) (.type "type") "__init__" = some (.val (.ref (ma K W "__init__"))) := by
  unfold whoB at h
  obtain ⟨h1, h⟩ := ba h
  obtain ⟨h2, h3⟩ := ba h
  refine ⟨⟨h1, eqO_ok h2⟩, ?_⟩
  split at h3
  · rename_i a e
    rw [e, of_decide_eq_true h3]
  · cases h3
end Wm
/-! the reached fragment, gone through once: what was seen is kept as bits of a number -/
namespace Wm
open PySem PySem.Spec PyProof.Rows L2 He ClX
noncomputable def pushB (as : List Addr) : Nat → List Addr → Nat × List Addr := List.rec (motive := fun _ => Nat → List Addr → Nat × List Addr) (fun v acc => (v, acc)) (fun a _ ih v acc => Bool.rec (motive := fun _ => Nat × List Addr) (ih (Nat.lor v (Nat.shiftLeft 1 a)) (a :: acc)) (ih v acc) (Nat.beq (Nat.mod (Nat.shiftRight v a) 2) 1)) as
noncomputable def lvB (g : Addr → Option Obj) (n : Nat) : List Addr → Nat → List Addr := Nat.rec (motive := fun _ => List Addr → Nat → List Addr) (fun fr _ => fr) (fun _ ih fr v => fr ++ (match pushB (fr.flatMap fun a => match g a with
  | some o => refsD o
  | none => []) v [] with
  | (v', nf) => ih nf v')) n
noncomputable def asB (g : Addr → Option Obj) (n : Nat) : List Addr := lvB g n [mainGlobals, cStatics] (Nat.lor (Nat.shiftLeft 1 mainGlobals) (Nat.shiftLeft 1 cStatics))
noncomputable def obsBG (n : Nat) (ck : PySem.W.Frag → Bool) (fn : List DefD) (g : Addr → Option Obj) : AlD := obsM ck fn (frG g (asB g n))
noncomputable def hookB (n : Nat) (ck : PySem.W.Frag → Bool) (fn : List DefD) : PySem.W.Hook where
  α := AlD
  obs := fun s => obsBG n ck fn s.heap.get?
  val := fun _ => valD fn
  says := fun _ h => ∃ K : PySem.W.Frag, K.In h ∧ SaysM ck fn K
  of := fun _ _ e => ⟨_, frG_in, e⟩
  keeps := fun _ _ _ ⟨K, hK, c⟩ k => ⟨K, PySem.W.Frag.In.keeps hK k, c⟩
theorem obsBG_eq {n : Nat} {ck : PySem.W.Frag → Bool} {fn : List DefD} {g : Addr → Option Obj} {s : Shared} (h : ∀ a, g a = s.heap.get? a) : obsBG n ck fn g = (hookB n ck fn).obs s := by
  have e : g = s.heap.get? := funext h
  rw [e] <;> rfl
end Wm
/-! the run's equation in two: what is looked at behind the top, and the facts, each by a run of its own -/
namespace Wm
open PySem PySem.W PySem.Calls PyProof.Rows HandSHeadRun
noncomputable def RunA (r : OpenRow) (q : Program) (M : Nat) (loose : List PySem.Str) (w : World) : Prop :=
  ∀ os : OsState, (endF (stepQ (denQ tabQ) r.prog w) M r.prog w os).map (fun s => (looksF r.prog (boot_heap w.params) s.abs, seenQ q loose (importedModules r.prog.main.body) (fun s => xlAt q [] s && recOk r.toRowW.records s) s.abs)) = some (true, openGood q loose)
noncomputable def RunB (r : OpenRow) (H : Hook) (ob : SharedT → H.α) (M : Nat) (w : World) : Prop :=
  ∀ os : OsState, (endF (stepQ (denQ tabQ) r.prog w) M r.prog w os).map ob = some (H.val w)
theorem runEq_of {r : OpenRow} {q : Program} {H : Hook} {ob : SharedT → H.α} {M : Nat} {loose : List PySem.Str} {w : World} (a : RunA r q M loose w) (b : RunB r H ob M w) : RunEq r q H ob M loose w := fun os => by
  have a := a os
  have b := b os
  revert a b
  generalize endF (stepQ (denQ tabQ) r.prog w) M r.prog w os = z
  cases z with
  | none =>
    intro a
    cases a
  | some s =>
    intro a b
    have e1 := Option.some.inj a
    have e2 : ob s = H.val w := Option.some.inj b
    obtain ⟨e3, e4⟩ := Prod.mk.inj e1
    show some (_, _, _) = _
    rw [e2]
    exact congrArg some (Prod.ext e3 (Prod.ext e4 rfl))
end Wm
namespace Wm
open PySem L2 He ClX StX
/-- what is asked of an error class of one field -/
def errB (K : PySem.W.Frag) (C fI : Addr) (f : Str) : Bool :=
  eqO (PySem.W.findIn K (.ref C) "__setattr__") (some (some (.builtin "object.__setattr__"))) && (decide (PySem.W.subIn K (.ref C) (.type "BaseException") = some true) && (decide (PySem.W.typeIn K (.ref C) = some (.type "type")) && (PySem.W.keepIn K (.ref C) &&
  (decide (PySem.W.typeIn K (.ref fI) = some (.type "function")) && (eqO (PySem.W.findIn K (.ref C) "kind") (some none) && (eqO (PySem.W.findIn K (.ref C) f) (some none) && (eqO (PySem.W.findIn K (.ref C) "__getattribute__") (some (some (.builtin "BaseException.__getattribute__"))) &&
  (eqO (PySem.W.findIn K (.ref C) "__getattr__") (some none) && (PySem.W.hasDictIn K C && (eqO (PySem.W.findIn K (.ref C) "__class__") (some (some (.builtin "object.__class__"))) && (decide (PySem.W.mroIn K C (.type "object") = some true) &&
  (eqO (PySem.W.findIn K (.ref C) "__init__") (some (some (.ref fI))) && (excB K C && (decide (PySem.W.exmOne K (.ref C) (.ref C) = some true) && (eqO (PySem.W.specialIn K (.builtin "object.__class__") "__get__") (some (some (.builtin "getset_descriptor.__get__"))) && decide (PySem.W.takesIn K (.builtin "object.__class__") = some true))))))))))))))))
def strKB (es : Array DictEntry) : Bool := es.toList.all fun e => match e.key with | .str _ _ => true | _ => false
/-- a class with an __eq__ of its own and no __ne__ -/
def eqneB (K : PySem.W.Frag) (C f : Addr) : Bool := match K.lookup C with
  | some ⟨.type "type", _, .cls cd, sl⟩ => (match cd.mro, sl.toList, K.lookup cd.ns, K.lookup f with
    | [.ref C', .type "object"], [_, _, _, _, some (.builtin _), _], some ⟨_, _, .dict es _, _⟩, some of => C' == C && (!cd.hasDel && (strKB es && (decide (nsFind es "__eq__" = some (.ref f)) && (decide (nsFind es "__ne__" = none) && decide (of.cls = .type "function")))))
    | _, _, _, _ => false)
  | _ => false
def insB (K : PySem.W.Frag) (C : Addr) : Bool := eqO (PySem.W.findIn K (.ref C) "__class__") (some (some (.builtin "object.__class__"))) && (decide (PySem.W.mroIn K C (.type "object") = some true) && (eqO (PySem.W.specialIn K (.builtin "object.__class__") "__get__") (some (some (.builtin "getset_descriptor.__get__"))) && (decide (PySem.W.takesIn K (.builtin "object.__class__") = some true) && decide (PySem.W.kitOne K (.ref C) (.ref C) = some true))))
def mtB (K : PySem.W.Frag) (C : Addr) (m : Str) : Bool := eqO (PySem.W.findIn K (.ref C) m) (some (some (.ref (ma K C m)))) && PySem.W.isFn K (.ref (ma K C m))
def factL : List Fa := [.glo "WhoError", .glo "NoName", .glo "is_name", .glo "refuse_no_name", .glo "first_twice", .glo "refuse_twice", .glo "refuse_count", .glo "tuple_of_tuples", .glo "ends_of", .glo "texts_of_pattern", .glo "refuse_no_variable", .glo "refuse_loose", .glo "refuse_apart", .glo "check_pattern", .glo "variable_part", .glo "pattern_parts", .glo "rule_parts", .glo "making_parts", .glo "own_list", .glo "refuse_makings_twice", .glo "refuse_no_sort", .glo "refuse_upward", .glo "refuse_no_word", .glo "check_scheme", .glo "parts_of", .glo "place_of", .glo "variable_of", .glo "pattern_draft", .glo "bar_draft", .glo "rule_draft", .glo "making_draft", .glo "draft_of", .glo "made_of", .glo "names_behind", .glo "scheme_rows", .glo "read_scheme", .glo "_law_pot", .glo "_law_mixed", .glo "_law_take", .glo "_law_name_at", .glo "_law_large", .glo "_law_name", .glo "_law_names", .glo "_law_some", .glo "_law_pattern", .glo "_law_rule", .glo "_law_pattern_parts", .glo "_law_rule_row", .glo "_law_making_row", .glo "_law_makers", .glo "_law_lends", .glo "_law_scheme", .glo "_law_stop_row", .glo "_law_rows", .glo "_law_mingled", .glo "_law_made", .glo "_law_alike", .glo "law", .glo "Scheme", .cls "Scheme", .noat "Scheme" "own_sorts", .noat "Scheme" "own_words", .noat "Scheme" "own_makings", .noat "Scheme" "own_rules", .noat "Scheme" "own_bars", .mkr "Scheme", .glo "Bar", .cls "Bar", .noat "Bar" "name", .noat "Bar" "variables", .noat "Bar" "conditions", .mkr "Bar", .glo "Rule", .cls "Rule", .noat "Rule" "name", .noat "Rule" "variables", .noat "Rule" "conditions", .noat "Rule" "gives", .noat "Rule" "by", .mkr "Rule", .glo "Making", .cls "Making", .noat "Making" "maker", .noat "Making" "made", .noat "Making" "down", .noat "Making" "up", .mkr "Making", .meth "Scheme" "sorts", .meth "Scheme" "words", .meth "Scheme" "makings", .meth "Scheme" "rules", .meth "Scheme" "bars", .meth "Scheme" "rule", .meth "Scheme" "bar", .free "abs", .free "int", .free "len", .free "range", .free "all", .free "tuple", .free "enumerate", .free "isinstance", .free "ValueError", .free "list", .free "str", .free "min", .free "max", .str "LETTERS" "abcdefghijklmnopqrstuvwxyz", .str "FIGURES" "0123456789", .int "LONGEST_NAME" 12, .int "MOST_SORTS" 4, .int "MOST_WORDS" 5, .int "MOST_RULES" 8, .int "MOST_BARS" 4, .int "MOST_VARIABLES" 4, .int "MOST_CONDITIONS" 3]
def ck (K : PySem.W.Frag) : Bool := factL.all (fun f => f.ok K) && (whoB K (ga K "WhoError") && (errB K (ga K "NoName") (ma K (ga K "NoName") "__init__") "name" && (insB K (ga K "Rule") && (insB K (ga K "Bar") && (insB K (ga K "Making") && (mtB K (ga K "Rule") "__str__" && (mtB K (ga K "Bar") "__str__" && (mtB K (ga K "Making") "__str__" && (mtB K (ga K "Rule") "__eq__" && (mtB K (ga K "Bar") "__eq__" && (mtB K (ga K "Making") "__eq__" && (PySem.W.notFirst K (ga K "Rule") (.ref (ga K "Rule")) && (PySem.W.notFirst K (ga K "Bar") (.ref (ga K "Bar")) && (PySem.W.notFirst K (ga K "Making") (.ref (ga K "Making")) && (PySem.W.notFirst K (ga K "Rule") (.ref (ga K "Bar")) && (PySem.W.notFirst K (ga K "Bar") (.ref (ga K "Rule")) && (decide (PySem.W.kitOne K (.ref (ga K "Rule")) (.ref (ga K "Bar")) = some false) && (decide (PySem.W.kitOne K (.ref (ga K "Bar")) (.ref (ga K "Rule")) = some false) && (decide (PySem.W.kitOne K (.ref (ga K "Rule")) (.ref (ga K "Making")) = some false) && (decide (PySem.W.kitOne K (.ref (ga K "Bar")) (.ref (ga K "Making")) = some false) && (decide (PySem.W.kitOne K (.ref (ga K "Making")) (.ref (ga K "Rule")) = some false) && (decide (PySem.W.kitOne K (.ref (ga K "Making")) (.ref (ga K "Bar")) = some false) && (eqneB K (ga K "Rule") (ma K (ga K "Rule") "__eq__") && (eqneB K (ga K "Bar") (ma K (ga K "Bar") "__eq__")))))))))))))))))))))))))
def d_is_name : DefD := ⟨("is_name", none), "is_name", "is_name", defArgs sName, defBody sName, defScope sName, [], []⟩
def d_refuse_no_name : DefD := ⟨("refuse_no_name", none), "refuse_no_name", "refuse_no_name", defArgs sRN, defBody sRN, defScope sRN, [], []⟩
def d_first_twice : DefD := ⟨("first_twice", none), "first_twice", "first_twice", defArgs sFT, defBody sFT, defScope sFT, [], []⟩
def d_refuse_twice : DefD := ⟨("refuse_twice", none), "refuse_twice", "refuse_twice", defArgs sRT, defBody sRT, defScope sRT, [], []⟩
def d_refuse_count : DefD := ⟨("refuse_count", none), "refuse_count", "refuse_count", defArgs sRC, defBody sRC, defScope sRC, [], []⟩
def d_tuple_of_tuples : DefD := ⟨("tuple_of_tuples", none), "tuple_of_tuples", "tuple_of_tuples", defArgs sTT, defBody sTT, defScope sTT, [], []⟩
def d_ends_of : DefD := ⟨("ends_of", none), "ends_of", "ends_of", defArgs sEO, defBody sEO, defScope sEO, [], []⟩
def d_texts_of_pattern : DefD := ⟨("texts_of_pattern", none), "texts_of_pattern", "texts_of_pattern", defArgs sTP, defBody sTP, defScope sTP, [], []⟩
def d_refuse_no_variable : DefD := ⟨("refuse_no_variable", none), "refuse_no_variable", "refuse_no_variable", defArgs sRV, defBody sRV, defScope sRV, [], []⟩
def d_refuse_loose : DefD := ⟨("refuse_loose", none), "refuse_loose", "refuse_loose", defArgs sRL, defBody sRL, defScope sRL, [], []⟩
def d_refuse_apart : DefD := ⟨("refuse_apart", none), "refuse_apart", "refuse_apart", defArgs sRA, defBody sRA, defScope sRA, [], []⟩
def d_check_pattern : DefD := ⟨("check_pattern", none), "check_pattern", "check_pattern", defArgs sCP, defBody sCP, defScope sCP, [], []⟩
def d_variable_part : DefD := ⟨("variable_part", none), "variable_part", "variable_part", defArgs sVP, defBody sVP, defScope sVP, [], []⟩
def d_pattern_parts : DefD := ⟨("pattern_parts", none), "pattern_parts", "pattern_parts", defArgs sPP, defBody sPP, defScope sPP, [], []⟩
def d_rule_parts : DefD := ⟨("rule_parts", none), "rule_parts", "rule_parts", defArgs sRP, defBody sRP, defScope sRP, [], []⟩
def d_making_parts : DefD := ⟨("making_parts", none), "making_parts", "making_parts", defArgs sMP, defBody sMP, defScope sMP, [], []⟩
def d_own_list : DefD := ⟨("own_list", none), "own_list", "own_list", defArgs sOL, defBody sOL, defScope sOL, [], []⟩
def d_refuse_makings_twice : DefD := ⟨("refuse_makings_twice", none), "refuse_makings_twice", "refuse_makings_twice", defArgs sRMT, defBody sRMT, defScope sRMT, [], []⟩
def d_refuse_no_sort : DefD := ⟨("refuse_no_sort", none), "refuse_no_sort", "refuse_no_sort", defArgs sRNS, defBody sRNS, defScope sRNS, [], []⟩
def d_refuse_upward : DefD := ⟨("refuse_upward", none), "refuse_upward", "refuse_upward", defArgs sRU, defBody sRU, defScope sRU, [], []⟩
def d_refuse_no_word : DefD := ⟨("refuse_no_word", none), "refuse_no_word", "refuse_no_word", defArgs sRNW, defBody sRNW, defScope sRNW, [], []⟩
def d_check_scheme : DefD := ⟨("check_scheme", none), "check_scheme", "check_scheme", defArgs sCS, defBody sCS, defScope sCS, [], []⟩
def d_parts_of : DefD := ⟨("parts_of", none), "parts_of", "parts_of", defArgs sPo, defBody sPo, defScope sPo, [], []⟩
def d_place_of : DefD := ⟨("place_of", none), "place_of", "place_of", defArgs sPl, defBody sPl, defScope sPl, [], []⟩
def d_variable_of : DefD := ⟨("variable_of", none), "variable_of", "variable_of", defArgs sVo, defBody sVo, defScope sVo, [], []⟩
def d_pattern_draft : DefD := ⟨("pattern_draft", none), "pattern_draft", "pattern_draft", defArgs sPd, defBody sPd, defScope sPd, [], []⟩
def d_bar_draft : DefD := ⟨("bar_draft", none), "bar_draft", "bar_draft", defArgs sBd, defBody sBd, defScope sBd, [], []⟩
def d_rule_draft : DefD := ⟨("rule_draft", none), "rule_draft", "rule_draft", defArgs sRd, defBody sRd, defScope sRd, [], []⟩
def d_making_draft : DefD := ⟨("making_draft", none), "making_draft", "making_draft", defArgs sMd, defBody sMd, defScope sMd, [], []⟩
def d_draft_of : DefD := ⟨("draft_of", none), "draft_of", "draft_of", defArgs sDf, defBody sDf, defScope sDf, [], []⟩
def d_made_of : DefD := ⟨("made_of", none), "made_of", "made_of", defArgs sMo, defBody sMo, defScope sMo, [], []⟩
def d_names_behind : DefD := ⟨("names_behind", none), "names_behind", "names_behind", defArgs sNb, defBody sNb, defScope sNb, [], []⟩
def d_scheme_rows : DefD := ⟨("scheme_rows", none), "scheme_rows", "scheme_rows", defArgs sSw, defBody sSw, defScope sSw, [], []⟩
def d_read_scheme : DefD := ⟨("read_scheme", none), "read_scheme", "read_scheme", defArgs sRs, defBody sRs, defScope sRs, [], []⟩
def d__law_pot : DefD := ⟨("_law_pot", none), "_law_pot", "_law_pot", defArgs sPot, defBody sPot, defScope sPot, [], []⟩
def d__law_mixed : DefD := ⟨("_law_mixed", none), "_law_mixed", "_law_mixed", defArgs sMix, defBody sMix, defScope sMix, [], []⟩
def d__law_take : DefD := ⟨("_law_take", none), "_law_take", "_law_take", defArgs sTak, defBody sTak, defScope sTak, [], []⟩
def d__law_name_at : DefD := ⟨("_law_name_at", none), "_law_name_at", "_law_name_at", defArgs sNAt, defBody sNAt, defScope sNAt, [], []⟩
def d__law_large : DefD := ⟨("_law_large", none), "_law_large", "_law_large", defArgs sLrg, defBody sLrg, defScope sLrg, [], []⟩
def d__law_name : DefD := ⟨("_law_name", none), "_law_name", "_law_name", defArgs sNam, defBody sNam, defScope sNam, [], []⟩
def d__law_names : DefD := ⟨("_law_names", none), "_law_names", "_law_names", defArgs sNms, defBody sNms, defScope sNms, [], []⟩
def d__law_some : DefD := ⟨("_law_some", none), "_law_some", "_law_some", defArgs sSom, defBody sSom, defScope sSom, [], []⟩
def d__law_pattern : DefD := ⟨("_law_pattern", none), "_law_pattern", "_law_pattern", defArgs sPat, defBody sPat, defScope sPat, [], []⟩
def d__law_rule : DefD := ⟨("_law_rule", none), "_law_rule", "_law_rule", defArgs sRu, defBody sRu, defScope sRu, [], []⟩
def d__law_pattern_parts : DefD := ⟨("_law_pattern_parts", none), "_law_pattern_parts", "_law_pattern_parts", defArgs sPpt, defBody sPpt, defScope sPpt, [], []⟩
def d__law_rule_row : DefD := ⟨("_law_rule_row", none), "_law_rule_row", "_law_rule_row", defArgs sRr, defBody sRr, defScope sRr, [], []⟩
def d__law_making_row : DefD := ⟨("_law_making_row", none), "_law_making_row", "_law_making_row", defArgs sMr, defBody sMr, defScope sMr, [], []⟩
def d__law_makers : DefD := ⟨("_law_makers", none), "_law_makers", "_law_makers", defArgs sMks, defBody sMks, defScope sMks, [], []⟩
def d__law_lends : DefD := ⟨("_law_lends", none), "_law_lends", "_law_lends", defArgs sLe, defBody sLe, defScope sLe, [], []⟩
def d__law_scheme : DefD := ⟨("_law_scheme", none), "_law_scheme", "_law_scheme", defArgs sSc, defBody sSc, defScope sSc, [], []⟩
def d__law_stop_row : DefD := ⟨("_law_stop_row", none), "_law_stop_row", "_law_stop_row", defArgs sSr, defBody sSr, defScope sSr, [], []⟩
def d__law_rows : DefD := ⟨("_law_rows", none), "_law_rows", "_law_rows", defArgs sRo, defBody sRo, defScope sRo, [], []⟩
def d__law_mingled : DefD := ⟨("_law_mingled", none), "_law_mingled", "_law_mingled", defArgs sMi, defBody sMi, defScope sMi, [], []⟩
def d__law_made : DefD := ⟨("_law_made", none), "_law_made", "_law_made", defArgs sMa, defBody sMa, defScope sMa, [], []⟩
def d__law_alike : DefD := ⟨("_law_alike", none), "_law_alike", "_law_alike", defArgs sAl, defBody sAl, defScope sAl, [], []⟩
def d_law : DefD := ⟨("law", none), "law", "law", defArgs sLaw, defBody sLaw, defScope sLaw, [], []⟩
def d_NoName___init__ : DefD := ⟨("NoName", some "__init__"), "__init__", "NoName.__init__", defArgs sN0, defBody sN0, defScope sN0, [], []⟩
def d_Bar___init__ : DefD := ⟨("Bar", some "__init__"), "__init__", "Bar.__init__", defArgs sBar, defBody sBar, defScope sBar, [], []⟩
def d_Rule___init__ : DefD := ⟨("Rule", some "__init__"), "__init__", "Rule.__init__", defArgs sRul, defBody sRul, defScope sRul, [], []⟩
def d_Making___init__ : DefD := ⟨("Making", some "__init__"), "__init__", "Making.__init__", defArgs sMak, defBody sMak, defScope sMak, [], []⟩
def d_Bar___eq__ : DefD := ⟨("Bar", some "__eq__"), "__eq__", "Bar.__eq__", defArgs sBE, defBody sBE, defScope sBE, [], []⟩
def d_Bar___str__ : DefD := ⟨("Bar", some "__str__"), "__str__", "Bar.__str__", defArgs sBS, defBody sBS, defScope sBS, [], []⟩
def d_Rule___eq__ : DefD := ⟨("Rule", some "__eq__"), "__eq__", "Rule.__eq__", defArgs sRE, defBody sRE, defScope sRE, [], []⟩
def d_Rule___str__ : DefD := ⟨("Rule", some "__str__"), "__str__", "Rule.__str__", defArgs sRS, defBody sRS, defScope sRS, [], []⟩
def d_Making___eq__ : DefD := ⟨("Making", some "__eq__"), "__eq__", "Making.__eq__", defArgs sME, defBody sME, defScope sME, [], []⟩
def d_Making___str__ : DefD := ⟨("Making", some "__str__"), "__str__", "Making.__str__", defArgs sMS, defBody sMS, defScope sMS, [], []⟩
def d_Scheme_sorts : DefD := ⟨("Scheme", some "sorts"), "sorts", "Scheme.sorts", defArgs sSor, defBody sSor, defScope sSor, [], []⟩
def d_Scheme_words : DefD := ⟨("Scheme", some "words"), "words", "Scheme.words", defArgs sWor, defBody sWor, defScope sWor, [], []⟩
def d_Scheme_makings : DefD := ⟨("Scheme", some "makings"), "makings", "Scheme.makings", defArgs sSMk, defBody sSMk, defScope sSMk, [], []⟩
def d_Scheme_rules : DefD := ⟨("Scheme", some "rules"), "rules", "Scheme.rules", defArgs sSRu, defBody sSRu, defScope sSRu, [], []⟩
def d_Scheme_bars : DefD := ⟨("Scheme", some "bars"), "bars", "Scheme.bars", defArgs sSBa, defBody sSBa, defScope sSBa, [], []⟩
def d_Scheme_rule : DefD := ⟨("Scheme", some "rule"), "rule", "Scheme.rule", defArgs sSR1, defBody sSR1, defScope sSR1, [], []⟩
def d_Scheme_bar : DefD := ⟨("Scheme", some "bar"), "bar", "Scheme.bar", defArgs sSB1, defBody sSB1, defScope sSB1, [], []⟩
def dSch : DefD := ⟨("Scheme", some "__init__"), "__init__", "Scheme.__init__", defArgs sSch, defBody sSch, defScope sSch, [.non, .non, .non], []⟩
def dWho : DefD := ⟨("WhoError", some "__init__"), "__init__", "WhoError.__init__", defArgs sW0, defBody sW0, defScope sW0, [.str "whoerror"], []⟩
def fnL : List DefD := [d_is_name, d_refuse_no_name, d_first_twice, d_refuse_twice, d_refuse_count, d_tuple_of_tuples, d_ends_of, d_texts_of_pattern, d_refuse_no_variable, d_refuse_loose, d_refuse_apart, d_check_pattern, d_variable_part, d_pattern_parts, d_rule_parts, d_making_parts, d_own_list, d_refuse_makings_twice, d_refuse_no_sort, d_refuse_upward, d_refuse_no_word, d_check_scheme, d_parts_of, d_place_of, d_variable_of, d_pattern_draft, d_bar_draft, d_rule_draft, d_making_draft, d_draft_of, d_made_of, d_names_behind, d_scheme_rows, d_read_scheme, d__law_pot, d__law_mixed, d__law_take, d__law_name_at, d__law_large, d__law_name, d__law_names, d__law_some, d__law_pattern, d__law_rule, d__law_pattern_parts, d__law_rule_row, d__law_making_row, d__law_makers, d__law_lends, d__law_scheme, d__law_stop_row, d__law_rows, d__law_mingled, d__law_made, d__law_alike, d_law, d_NoName___init__, d_Bar___init__, d_Rule___init__, d_Making___init__, d_Bar___eq__, d_Bar___str__, d_Rule___eq__, d_Rule___str__, d_Making___eq__, d_Making___str__, d_Scheme_sorts, d_Scheme_words, d_Scheme_makings, d_Scheme_rules, d_Scheme_bars, d_Scheme_rule, d_Scheme_bar, dSch, dWho]
end Wm
set_option maxHeartbeats 0
namespace Wm
open PySem PySem.W PySem.Calls PyProof.Rows
abbrev RW : OpenRow := OpenLaw.row PySem.Challenge.rw_whomay_k28_a_scheme_written
noncomputable abbrev hkW : Hook := hookB 4 ck fnL
noncomputable def obW (s : SharedT) : He.AlD := obsBG 4 ck fnL (HandSHeadRun.getT s)
theorem obW_eq (s : SharedT) : obW s = hkW.obs s.abs := obsBG_eq (HandSHeadRun.getT_eq s)
def lo0 : List PySem.Str := ["_wall", "WhoError", "NoName", "BadCount", "Twice", "NoVariable", "Loose", "Apart", "NoSort", "Upward", "NoWord", "NoRule", "NoBar", "BadRow", "LETTERS", "FIGURES", "LONGEST_NAME", "is_name", "refuse_no_name", "first_twice", "refuse_twice", "refuse_count", "MOST_VARIABLES", "MOST_CONDITIONS", "tuple_of_tuples", "ends_of", "texts_of_pattern", "refuse_no_variable", "refuse_loose", "refuse_apart"]
def lo1 : List PySem.Str := ["check_pattern", "variable_part", "pattern_parts", "rule_parts", "making_parts", "Bar", "Rule", "Making", "MOST_SORTS", "MOST_WORDS", "MOST_RULES", "MOST_BARS", "own_list", "refuse_makings_twice", "refuse_no_sort", "refuse_upward", "refuse_no_word", "check_scheme", "Scheme", "parts_of", "place_of", "variable_of", "pattern_draft", "bar_draft", "rule_draft", "making_draft", "draft_of", "made_of", "names_behind", "scheme_rows"]
def lo2 : List PySem.Str := ["read_scheme", "_law_pot", "_law_mixed", "_law_take", "_law_name_at", "_law_large", "_law_name", "_law_names", "_law_some", "_law_pattern", "_law_rule", "_law_pattern_parts", "_law_rule_row", "_law_making_row", "_law_makers", "_law_lends", "_law_scheme", "_law_stop_row", "_law_rows", "_law_mingled", "_law_made", "_law_alike"]
def loW : List PySem.Str := lo0 ++ lo1 ++ lo2
theorem runWA (w : World) : RunA RW (view RW.prog [88]) 20000 loW w := by
  intro os
  kernel_rfl
theorem runWB (w : World) : RunB RW hkW obW 20000 w := by
  intro os
  kernel_rfl
theorem runW (w : World) : HandSHeadRun.RunEq RW (view RW.prog [88]) hkW obW 20000 loW w := runEq_of (runWA w) (runWB w)
end Wm
namespace Wm
open PySem L2
/-- all that was tracked is as it was, but at p -/
def But (p : Addr) (H H' : Hp) : Prop := ∀ q o, q ≠ p → H q = some o → H' q = some o
theorem But.refl (p : Addr) (H : Hp) : But p H H := fun _ _ _ h => h
theorem But.trans {p : Addr} {H H1 H2 : Hp} (a : But p H H1) (b : But p H1 H2) : But p H H2 := fun q o n h => b q o n (a q o n h)
theorem But.upd {p : Addr} {H : Hp} {o : HO} : But p H (upd H p o) := fun q o n h => by rw [upd_ne n]; exact h
theorem Same.but {p : Addr} {H H1 : Hp} (a : Same H H1) : But p H H1 := fun q o _ h => a q o h
theorem Same.upd {p : Addr} {H : Hp} {o : HO} (n : H p = none) : Same H (upd H p o) := fun q o h => by rw [upd_ne (ne_of_none h n)]; exact h
theorem But.same {p : Addr} {H0 H H1 : Hp} (n : H0 p = none) (a : Same H0 H) (b : But p H H1) : Same H0 H1 := fun q o h => b q o (ne_of_none h n) (a q o h)
structure TxB (mg : Str → Option Value) : Prop where
  abs : mg "abs" = none
  int : mg "int" = none
  len : mg "len" = none
  range : mg "range" = none
  all : mg "all" = none
  tuple : mg "tuple" = none
  enumerate : mg "enumerate" = none
  isinstance : mg "isinstance" = none
  ve : mg "ValueError" = none
section
variable {P : Program} {w : World} {K : PySem.W.Frag} {mg : Str → Option Value} {base : Heap}
end
end Wm
namespace Wm
open PySem L2
/-- a def of the module's top -/
structure Dn (K : PySem.W.Frag) (mg : Str → Option Value) (x : Str) (st : Stmt) (ps : List Str) (f : Addr) (fd : FuncData) : Prop where
  F : Fun K x x st f fd
  g : mg x = some (.ref f)
  b : Binds K fd ps []
theorem str_at (z : Str) {i : Int} (h0 : 0 ≤ i) (h1 : i < z.length) : ∃ c, z.cps[i.toNat]? = some c := by
  have h : i.toNat < z.cps.size := by
    have e : z.length = z.cps.size := rfl
    omega
  exact ⟨z.cps[i.toNat], Array.getElem?_eq_getElem h⟩
/-- every sign is one of unicode's -/
def okS (z : Str) : Prop := ∀ c ∈ z.cps.toList, c < 1114112
theorem okS_one {c : Nat} (h : c < 1114112) : okS ⟨#[c]⟩ := fun d hd => by
  have e : d = c := by simpa using hd
  rw [e]
  exact h
theorem okS_app {a b : Str} (ha : okS a) (hb : okS b) : okS (a ++ b) := fun c hc => by
  have e : (a ++ b).cps.toList = a.cps.toList ++ b.cps.toList := by
    show (a.cps ++ b.cps).toList = _
    simp
  rw [e] at hc
  rcases List.mem_append.mp hc with h | h
  · exact ha c h
  · exact hb c h
theorem rdItem {z : Str} {i : Int} {n : Nat} {H : Hp} {Q : VK} (hz : z.length = n) (h0 : 0 ≤ i) (h1 : i < n) (hn : n < 1000000) (h : ∀ c, z.cps.toList[i.toNat]? = some c → Q (.str ⟨#[c]⟩) H) : rIxS (.str z) (.int i) H Q := by
  have h2 : i < z.length := by rw [hz]; exact h1
  obtain ⟨c, hc⟩ := str_at z h0 h2
  have hl : z.cps.toList[i.toNat]? = some c := by simpa using hc
  have e : i = ((i.toNat : Nat) : Int) := by omega
  refine ⟨z, i, c, rfl, rfl, by rw [hz]; exact Nat.le_trans (Nat.le_of_lt hn) (by decide), ?_, h c hl⟩
  rw [e]
  exact atI_nat hl
theorem abcOk : ∀ c ∈ (PySem.Str.ofString "abcdefghijklmnopqrstuvwxyz0123456789").cps.toList, c < 1114112 := by decide +kernel
theorem abc36 : (PySem.Str.ofString "abcdefghijklmnopqrstuvwxyz0123456789").length = 36 := by decide +kernel
theorem len_app (a b : Str) : (a ++ b).length = a.length + b.length := by
  show (a.cps ++ b.cps).size = a.cps.size + b.cps.size
  exact Array.size_append
theorem len_one (c : Nat) : (⟨#[c]⟩ : Str).length = 1 := rfl
section
variable {P : Program} {w : World} {K : PySem.W.Frag} {mg : Str → Option Value} {base : Heap}
end
end Wm
namespace Wm
open PySem L2
theorem strs_at {zs : List Str} {n : Nat} (h : ∀ z ∈ zs, z.length ≤ n) (ho : ∀ z ∈ zs, ∀ c ∈ z.cps.toList, c < 1114112) {j : Nat} (hj : j < zs.length) : ∃ z, (zs.map V.str)[j]? = some (.str z) ∧ z.length ≤ n ∧ okS z :=
  ⟨zs[j], by simp [hj], h _ (List.getElem_mem hj), ho _ (List.getElem_mem hj)⟩
theorem okS_cut {z : Str} (h : okS z) (lo hi : Option Int) : okS (cutS z lo hi) := fun c hc => by
  have hc' : c ∈ (z.cps.toList.drop (HT.sIx z.length 0 lo)).take (HT.sIx z.length z.length hi - HT.sIx z.length 0 lo) := hc
  exact h c (List.mem_of_mem_drop (List.mem_of_mem_take hc'))
theorem okS_join {a : Str} {ys : List Str} (ha : okS a) (h : ∀ y ∈ ys, okS y) : okS (Txt.join a ys) := by
  have e : Txt.join a ys = Str.join a ys := StrLaws.glued_eq_join a ys
  rw [e]
  clear e
  induction ys with
  | nil => exact fun c hc => (List.not_mem_nil (show c ∈ ([] : List Nat) from hc)).elim
  | cons y r ih =>
    cases r with
    | nil => exact h y List.mem_cons_self
    | cons z r =>
      show okS (y ++ a ++ Str.join a (z :: r))
      exact okS_app (okS_app (h y List.mem_cons_self) ha) (ih fun x hx => h x (List.mem_cons_of_mem _ hx))
theorem rdList {K : PySem.W.Frag} {p : Addr} {xs : List V} {i : Int} {j : Nat} {v : V} {H : Hp} {Q : VK} (hp : H p = some (.lst xs)) (e : i = (j : Int)) (hv : xs[j]? = some v) (h : Q v H) : rIxL K (.ref p) (.int i) H Q :=
  ⟨p, xs, i, v, rfl, rfl, SqL.of hp, at_of e hv, h⟩
theorem But.free {p D : Addr} {H H' : Hp} (b : But p H H') (n : D ≠ p) (h : H' D = none) : H D = none := by
  cases e : H D with
  | none => rfl
  | some o =>
    rw [b D o n e] at h
    cases h
theorem sum_ones : ∀ {ys : List Str}, (∀ y ∈ ys, y.length = 1) → (ys.map (·.length)).sum = ys.length
  | [], _ => rfl
  | y :: ys, h => by
    rw [List.map_cons, List.sum_cons, List.length_cons, h y List.mem_cons_self, sum_ones fun z hz => h z (List.mem_cons_of_mem _ hz)]
    omega
theorem join_len (a : Str) (ys : List Str) : (Txt.join a ys).length ≤ (ys.map (·.length)).sum + ys.length * a.length := by
  show (Builtin.Str.glued a ys).length ≤ _
  rw [StrLaws.glued_eq_join]
  exact StrLaws.join_length_le a ys
section
variable {P : Program} {w : World} {K : PySem.W.Frag} {mg : Str → Option Value} {base : Heap}
end
end Wm
namespace Wm
open PySem PySem.Spec PyProof.Rows L2 ClX
section
variable {X : Cx} {CX : CXT} {k : Nat} {C f : Addr} {fd : FuncData} {ps : List Str} {sp : Sp} {E : XK} {e : Expr} {es : List Expr} {t : TA} {x m : Str} {p1 p2 pos : Pos} {ds : List Value} {dvs : List V}
/-- C.f(e, ..), f a def of the class C -/
theorem pe_clsFn {pl : Sem Bool} {mc : Value} (hg : Gl X x) (hm : X.mg x = some (.ref C)) (r : CRead X.K C mc) (ht : PySem.W.findCls X.K (.ref C) mc m = some (.val (.ref f))) (hk : PySem.W.keepIn X.K (.ref f) = true) (F : FnOk X.prog X.w X.K X.mg X.base CX k f fd ps sp)
    (hr : Room k X.A) (hb : Binds X.K fd ps ds) (hd : Vals dvs ds) (hx : Passes CX X E) (ha : PA X (e :: es) t)
    (hc : eval (.Call (.Attribute (.Name x p1) m p2) (e :: es) [] pos) X.env = (do
      let ov ← eval (.Name x p1) X.env
      standAt p2.atName
      let (f, first) ← holding [ov] (getMethod ov m pl)
      callWith pos f first (backTo pos (starEach (e :: es) X.env)) (backToKw pos (keywordEach [] X.env))) := by rfl)
    (hdb : (x == ("__debug__" : Str)) = false := by decide) (he : starEach (e :: es) X.env = (false, eval e X.env) :: starEach es X.env := by rfl) (hpl : (backTo pos (starEach es X.env)).any (·.1) = false := by rfl) :
    PE X (.Call (.Attribute (.Name x p1) m p2) (e :: es) [] pos) (tCall sp dvs E t) := by
  refine ⟨fun pins s σ H Q I h => ?_⟩
  refine PySem.W.methodCall_KW (ld_glob I hg hm ?_ hdb) hc
  refine PySem.W.method_cls I.kIn r.ga (PySem.W.cls_value I.kIn r.rd ht rfl ?_)
  show wpAny _ _ (callWith pos (Value.ref f) [] (backTo pos (starEach (e :: es) X.env)) []) _ _ _
  refine PySem.W.callWith_K (h₀ := X.base) I.ok.mod.kin hk (thn (ha.run pos pins _ σ H _ (I.tok _) h) fun us s1 ⟨vs, H1, I1, r1, q⟩ => ⟨I1.kIn, ?_⟩) he hpl
  exact run_fn F hr hb hd hx I1 r1 q
/-- xs + ys, both to be read -/
def rCatR (K : PySem.W.Frag) : R2 := fun x y H Q => ∃ l b xs zs, x = .ref l ∧ y = .ref b ∧ SqL K H l xs ∧ SqL K H b zs ∧ xs.length + zs.length ≤ sizeLine ∧ ∀ p, H p = none → Q (.ref p) (upd H p (.lst (xs ++ zs)))
theorem op_catR : OpR X (binaryOp .Add) (rCatR X.K) := by
  intro pins s σ H x y v u Q I rx ry h
  obtain ⟨l, b, xs, zs, rfl, rfl, hH, hB, hz, q⟩ := h
  cases rx
  cases ry
  obtain ⟨its, r, e, hl⟩ := I.list hH
  obtain ⟨its2, r2, e2, hl2⟩ := I.list hB
  have l1 := r.length
  have l2 := r2.length
  obtain ⟨⟨cls, dd, data, sl⟩, ho, hc, n, hd⟩ := e.isList
  obtain ⟨⟨cls2, dd2, data2, sl2⟩, ho2, hc2, n2, hd2⟩ := e2.isList
  simp only at hc hd hc2 hd2
  subst hc hd hc2 hd2
  refine concat_meets ⟨_, ho, rfl⟩ ⟨_, ho2, rfl⟩ noFill_list_add seq_list_add PySem.F.slot_list_add PySem.F.entry_list_add (PySem.F.args_list_add_2 _ _) (list_addW l b its.toArray its2.toArray n n2 dd dd2 sl sl2 (by rw [List.size_toArray, List.size_toArray]; omega)) ⟨ho, ho2, ?_⟩
  have ea : its.toArray ++ its2.toArray = (its ++ its2).toArray := by simp
  rw [ea]
  exact ⟨.ref _, _, I.lnew (t' := s.toks) (r.append r2) (by rw [List.length_append]; omega), rfl, q _ I.fresh⟩
end
end Wm
namespace Wm
open PySem PySem.Spec PyProof.Rows L2 ClX
/-- isinstance(e, c) in an except suite, e the exception that it holds (its class D, its dict at dd) -/
def rIsX (K : PySem.W.Frag) (D a dd : Addr) : List V → Hp → VK → Prop := fun xs H Q => ∃ (c : V) (cv : Value) (b : Bool) (fs : List (Str × V)), xs = [.ref a, c] ∧ H dd = some (.xd fs) ∧ (∀ u, RelV c u → u = cv) ∧ PySem.W.kitOne K (.ref D) cv = some b ∧ Q (.bl b) H
theorem call_isX {X : Cx} {a D dd : Addr} {oe : Obj} {pn : List (Addr × Obj)} (C : ExcC X.K D) (hz : Zc (.ref D) (some dd) oe) (hf : ∃ vs, oe.data = .fields vs) : CallR (X.suite a ((a, oe) :: pn)) (.builtin "isinstance") (rIsX X.K D a dd) := by
  intro pins s σ H xs us Q I r h
  obtain ⟨c, cv, b, fs, rfl, hdd, hcv, e, q⟩ := h
  cases r with
  | cons rx rr =>
    cases rr with
    | cons rt rr =>
      cases rr
      cases rx
      have ec := hcv _ rt
      subst ec
      obtain ⟨hget, _⟩ := I.pin (a, oe) (List.mem_append.mpr (.inl List.mem_cons_self))
      obtain ⟨vs, hv⟩ := hf
      have hx : ObjOk X.prog X.w H s.heap dd (.xd fs) := I.hok dd _ hdd
      obtain ⟨mA, hns, hr⟩ := hx
      obtain ⟨od, ho, hl⟩ := lookIn_ns hns
      have J : PySem.W.InstAt s.heap a oe D (some od) := ⟨hget, hz.1, by unfold PySem.W.notCls; rw [hv] <;> rfl, by rw [hz.2]; exact ho⟩
      have hcl : (PySem.W.clsIn X.K D).isSome = true := by
        obtain ⟨cd, hc, _⟩ := PySem.W.any_some C.hd
        rw [hc]
        rfl
      exact PySem.W.kia_one (PySem.W.kitx_exc hcl C.hg C.hk C.hs C.ha C.hn C.ht C.hm) I.kIn J e (fun z => nomatch z) fun tk => ⟨.bl b, H, I.kept (t' := tk) fun _ _ z => z, rfl, q⟩
/-! ### errors of one field -/
def spWI (K : PySem.W.Frag) : Sp := fun vs H Q _ => ∃ (a C : Addr) (v : V), vs = [.ref a, v] ∧ OexC K C ∧ PySem.W.findIn K (.ref C) "kind" = some none ∧ H a = some (exo a C none) ∧ ∀ dx, H dx = none → dx ≠ a → Q .non (upd (upd H dx (exd dx [("kind", v)])) a (exo a C (some dx)))
/-- the dict of an error of one field -/
def ef1 (f kd : Str) (v : V) : List (Str × V) := [(f, v), ("kind", .str kd)]
def spE1 (C : Addr) (f kd : Str) : Sp := fun vs H Q _ => ∃ (a : Addr) (v : V), vs = [.ref a, v] ∧ H a = some (exo a C none) ∧ ∀ dx H', H dx = none → dx ≠ a → (∀ b o, b ≠ a → H b = some o → H' b = some o) → H' a = some (exo a C (some dx)) → H' dx = some (exd dx (ef1 f kd v)) → Q .non H'
/-- what is known of WhoError -/
structure WhoT (K : PySem.W.Frag) (mg : Str → Option Value) (W f0 : Addr) (fd0 : FuncData) : Prop where
  g : mg "WhoError" = some (.ref W)
  r : CRead K W (.type "type")
  m : PySem.W.findCls K (.ref W) (.type "type") "__init__" = some (.val (.ref f0))
  k : PySem.W.keepIn K (.ref f0) = true
  b : Binds K fd0 ["self", "kind"] []
/-- what is known of an error class of one field -/
structure ErrT (K : PySem.W.Frag) (mg : Str → Option Value) (x f : Str) (C fI : Addr) : Prop where
  o : OexC K C
  g : mg x = some (.ref C)
  iC : PySem.W.findIn K (.ref C) "__init__" = some (some (.ref fI))
  tI : PySem.W.typeIn K (.ref fI) = some (.type "function")
  nk : PySem.W.findIn K (.ref C) "kind" = some none
  nf : PySem.W.findIn K (.ref C) f = some none
end Wm
namespace Wm
open PySem L2
section
variable {P : Program} {w : World} {K : PySem.W.Frag} {mg : Str → Option Value} {base : Heap}
theorem scW0 : FnScope ["self", "kind"] ["self", "kind"] (defScope sW0) := ⟨rfl, rfl, rfl, by decide +kernel, rfl, by decide +kernel, by decide +kernel⟩
theorem ok_who {f : Addr} {fd : FuncData} {dvs : List V} (F : FunD K "__init__" "WhoError.__init__" (defArgs sW0) (defBody sW0) (defScope sW0) dvs [] f fd) : FnOk P w K mg base CX0 1 f fd ["self", "kind"] (spWI K) := by
  refine F.ok scW0 (fun vs H Q E h => ?_) (fun cdv A outer s H vs Q E hr h => ?_)
  · obtain ⟨a, C, v, rfl, _⟩ := h
    rfl
  · obtain ⟨a, C, v, rfl, o, nk, ha, k⟩ := h
    refine ⟨_, pss_one (ps_ost (pv 0) (pv 1)), ?_⟩
    exact ⟨_, rfl, _, rfl, a, C, rfl, o, nk, .inl ⟨ha, fun dx n ne => k dx n ne⟩⟩
theorem scN0 : FnScope ["self", "name"] ["self", "name"] (defScope sN0) := ⟨rfl, rfl, rfl, by decide +kernel, rfl, by decide +kernel, by decide +kernel⟩
theorem ok_noname {f C f0 W : Addr} {fd fd0 : FuncData} (F : Fun K "__init__" "NoName.__init__" sN0 f fd) (T : ErrT K mg "NoName" "name" C f) (TW : WhoT K mg W f0 fd0) (G0 : FnOk P w K mg base CX0 1 f0 fd0 ["self", "kind"] (spWI K)) :
    FnOk P w K mg base CX0 2 f fd ["self", "name"] (spE1 C "name" "noname") := by
  refine F.ok scN0 (fun vs H Q E h => ?_) (fun cdv A outer s H vs Q E hr h => ?_)
  · obtain ⟨a, v, rfl, _⟩ := h
    rfl
  · obtain ⟨a, v, rfl, ha, k⟩ := h
    refine ⟨_, pss_cons (ps_expr (pe_clsFn rfl TW.g TW.r TW.m TW.k G0 hr TW.b .nil pass0 (pa_cons (pv 0) (pa_cons pe_str pa_nil)))) (pss_one (ps_ost (pv 0) (pv 1))), ?_⟩
    refine ⟨_, rfl, a, C, _, rfl, T.o, T.nk, ha, fun dx n ne => ?_⟩
    refine ⟨_, rfl, _, rfl, a, C, rfl, T.o, T.nf, .inr ⟨dx, _, upd_same, Eq.trans (upd_ne ne) upd_same, by decide, ?_⟩⟩
    refine k dx _ n ne (fun b o nb e => ?_) ?_ upd_same
    · have nd : b ≠ dx := ne_of_none e n
      rw [upd_ne nd, upd_ne nb, upd_ne nd]
      exact e
    · rw [upd_ne ne.symm, upd_same]
end
end Wm
namespace Wm
open PySem L2
/-! ### names -/
def LET : List Nat := (PySem.Str.ofString "abcdefghijklmnopqrstuvwxyz").cps.toList
def FIG : List Nat := (PySem.Str.ofString "0123456789").cps.toList
def okc (c : Nat) : Bool := decide (c ∈ LET) || decide (c ∈ FIG)
def first (l : List Nat) : Bool := match l with
  | [] => false
  | c :: _ => decide (c ∈ LET)
def isNm (z : Str) : Bool := decide (1 ≤ z.length) && (decide (z.length ≤ 12) && (first z.cps.toList && z.cps.toList.all okc))
theorem alnum : (PySem.Str.ofString "abcdefghijklmnopqrstuvwxyz0123456789").cps.toList = LET ++ FIG := by decide +kernel
theorem let_fig : ∀ c ∈ LET, ¬ c ∈ FIG := by decide +kernel
theorem okc_alnum (c : Nat) : decide (c ∈ (PySem.Str.ofString "abcdefghijklmnopqrstuvwxyz0123456789").cps.toList) = okc c := by
  rw [alnum]
  unfold okc
  by_cases h : c ∈ LET <;> by_cases h2 : c ∈ FIG <;> simp [h, h2]
theorem len_eq (z : Str) : z.length = z.cps.toList.length := by
  show z.cps.size = _
  simp
theorem isNm_small {z : Str} (h : z.length < 1 ∨ 12 < z.length) : isNm z = false := by
  unfold isNm
  rcases h with h | h
  · rw [decide_eq_false (by omega)]
    rfl
  · rw [decide_eq_false (p := z.length ≤ 12) (by omega)]
    simp
theorem isNm_first {z : Str} {c : Nat} (h1 : z.cps.toList[0]? = some c) (hc : ¬ c ∈ LET) : isNm z = false := by
  unfold isNm
  have e : first z.cps.toList = false := by
    cases q : z.cps.toList with
    | nil => rfl
    | cons d r =>
      rw [q] at h1
      have e : d = c := Option.some.inj h1
      rw [e]
      exact decide_eq_false hc
  rw [e]
  simp
theorem isNm_all {z : Str} {c : Nat} (h0 : ¬ z.length < 1) (h12 : ¬ 12 < z.length) (h1 : z.cps.toList[0]? = some c) (hc : c ∈ LET) : isNm z = z.cps.toList.all okc := by
  unfold isNm
  have e : first z.cps.toList = true := by
    cases q : z.cps.toList with
    | nil =>
      rw [q] at h1
      cases h1
    | cons d r =>
      rw [q] at h1
      have e : d = c := Option.some.inj h1
      rw [e]
      exact decide_eq_true hc
  rw [e, decide_eq_true (by omega), decide_eq_true (by omega)]
  rfl
theorem isNm_fig {z : Str} {c : Nat} (h1 : z.cps.toList[0]? = some c) (hc : c ∈ FIG) : isNm z = false := isNm_first h1 fun h => let_fig c h hc
theorem isNm_all2 {z : Str} {c : Nat} (h0 : ¬ z.length < 1) (h12 : ¬ 12 < z.length) (h1 : z.cps.toList[0]? = some c) (hc : ¬ c ∈ FIG) : isNm z = z.cps.toList.all okc := by
  by_cases h : c ∈ LET
  · exact isNm_all h0 h12 h1 h
  · rw [isNm_first h1 h]
    have hm : c ∈ z.cps.toList := List.mem_of_getElem? h1
    have e : okc c = false := by
      unfold okc
      rw [decide_eq_false h, decide_eq_false hc]
      rfl
    symm
    rw [List.all_eq_false]
    exact ⟨c, hm, by rw [e]; decide⟩
theorem all_map {l : List Nat} {f : Nat → Bool} : (l.map f).all id = l.all f := by
  induction l with
  | nil => rfl
  | cons a r ih => rw [List.map_cons, List.all_cons, List.all_cons, ih]; rfl
def spName : Sp := fun vs H Q _ => ∃ z : Str, vs = [.str z] ∧ z.length ≤ 1000 ∧ ∀ H', Same H H' → Q (.bl (isNm z)) H'
/-- the constants of names.py -/
structure TxN (mg : Str → Option Value) : Prop where
  lets : ∃ t, mg "LETTERS" = some (.str (PySem.Str.ofString "abcdefghijklmnopqrstuvwxyz") t)
  figs : ∃ t, mg "FIGURES" = some (.str (PySem.Str.ofString "0123456789") t)
  long : ∃ t, mg "LONGEST_NAME" = some (.int 12 t)
/-- the reading of [f(sign) for sign in text] -/
theorem lc_signs {z : Str} {f : Nat → Bool} {g : TG} {te : TE} {vs : List Nat} {σ : St} {H1 : Hp} {D : Addr} {Qd : Hp → Prop} (hz : z.length ≤ 1000) (hD : H1 D = none)
    (he : ∀ (c : Nat) (H : Hp) (Q : St → Hp → Prop), (∀ σ2, wipe σ2 vs = wipe σ vs → (∀ Q2 : VK, Q2 (.bl (f c)) H → te σ2 H Q2) → Q σ2 H) → g (.str ⟨#[c]⟩) (wipe σ vs) H Q)
    (hd : ∀ H, Same H1 H → H D = some (.lst ((z.cps.toList.map f).map V.bl)) → Qd H) :
    ∃ W : Nat → Nat → Hp → Prop, (∃ m, W 0 m (upd H1 D (.lst []))) ∧ ∀ i m H, W i m H →
      ((Its z).stop i H ∧ Qd H) ∨ ((Its z).go i H ∧ ∃ Nx : Hp → Prop, (∀ H', Nx H' → ∃ m', m' < m ∧ W (i + 1) m' H') ∧ ∀ x H', (Its z).yld i H x H' → g x (wipe σ vs) H' fun σ2 H2 => wipe σ2 vs = wipe σ vs ∧ tYes σ2 H2 fun b H3 =>
        if b = true then te σ2 H3 fun y H4 => ∃ acc, H4 D = some (.lst acc) ∧ acc.length < sizeLine ∧ Nx (upd H4 D (.lst (acc ++ [y]))) else Nx H3) := by
  refine lc_it (walk_str (z := z)) (fun i H' => Same H1 H' ∧ H' D = some (.lst (((z.cps.toList.take i).map f).map V.bl))) ⟨Same.upd hD, upd_same⟩ (fun _ _ _ _ => True.intro) ?_ ?_
  · rintro i x H H' hi ⟨hS, hl⟩ ⟨rfl, c, hc, rfl⟩
    refine he c H' _ fun σ2 hw hq => ⟨hw, hq _ ?_⟩
    refine ⟨_, hl, ?_, ?_, ?_⟩
    · rw [List.length_map, List.length_map, List.length_take]
      have e := len_eq z
      exact Nat.lt_of_le_of_lt (show _ ≤ 1000 by omega) (by decide)
    · intro b o h
      have nb : b ≠ D := ne_of_none h hD
      rw [upd_ne nb]
      exact hS b o h
    · rw [upd_same]
      have e : z.cps.toList[i]? = some c := by simpa using hc
      have hlt : i < z.cps.toList.length := (List.getElem?_eq_some_iff.mp e).1
      rw [List.take_add_one, e, List.map_append, List.map_append]
      rfl
  · rintro H ⟨hS, hl⟩
    refine hd H hS ?_
    rw [hl, List.take_of_length_le (by simp)]
section
variable {P : Program} {w : World} {K : PySem.W.Frag} {mg : Str → Option Value} {base : Heap}
theorem scName : FnScope ["text", "sign"] ["text"] (defScope sName) := ⟨rfl, rfl, rfl, by decide +kernel, rfl, by decide +kernel, by decide +kernel⟩
theorem ok_name {f : Addr} {fd : FuncData} (F : Fun K "is_name" "is_name" sName f fd) (T : TxB mg) (TN : TxN mg) : FnOk P w K mg base CX0 1 f fd ["text"] spName := by
  obtain ⟨t1, hlet⟩ := TN.lets
  obtain ⟨t2, hfig⟩ := TN.figs
  obtain ⟨t3, hlong⟩ := TN.long
  refine F.ok scName (fun vs H Q E h => ?_) (fun cdv A outer s H vs Q E hr h => ?_)
  · obtain ⟨z, rfl, _⟩ := h
    rfl
  · obtain ⟨z, rfl, hz, k⟩ := h
    have hzl : z.length ≤ sizeLine := Nat.le_trans hz (by decide)
    refine ⟨_, (pss_cons (ps_if (PW.pt (pw_or (pt_cmpR op_lt (pe_callB call_len_str (by rfl) T.len (by decide +kernel) (pa_cons (pv 0) pa_nil)) pe_int (nomark _)) (pw_or1 (pt_cmpR op_gt (pe_callB call_len_str (by rfl) T.len (by decide +kernel) (pa_cons (pv 0) pa_nil)) (pe_glob (v := .int 12) (by rfl) hlong ⟨_, rfl⟩) (nomark _))))) (pss_one (ps_ret pe_bl)) pss_nil)
      (pss_cons (ps_if (pt_cmpR op_notIn_sign (pe_ix ix_str (pv 0) pe_int (fun _ _ => rfl)) (pe_glob (v := .str (PySem.Str.ofString "abcdefghijklmnopqrstuvwxyz")) (by rfl) hlet ⟨_, rfl⟩) (by rfl)) (pss_one (ps_ret pe_bl)) pss_nil)
      (pss_one (ps_ret (pe_callB (cr_all rfl) (by rfl) T.all (by decide +kernel) (pa_cons (pe_lc (own := [("sign", 1)]) (g := gName 1) rfl scName.nd (pi_str (pv 0)) (blkOk_by (N := ["text", "sign"]) (sc := defScope sName) (by decide +kernel)) (fun _ _ _ _ _ => (pg_name (i := 1) scName.nd rfl (Or.inl rfl))) (fun _ _ _ _ _ => pts_nil) (fun _ _ _ _ _ => (pe_or (pe_cmpR op_in_sign (pv 1) (pe_glob (v := .str (PySem.Str.ofString "abcdefghijklmnopqrstuvwxyz")) (by rfl) hlet ⟨_, rfl⟩) (by rfl)) (pe_one (pe_cmpR op_in_sign (pv 1) (pe_glob (v := .str (PySem.Str.ofString "0123456789")) (by rfl) hfig ⟨_, rfl⟩) (by rfl)))))) pa_nil)))))), ?_⟩
    refine ⟨_, rfl, z, rfl, hzl, _, _, rfl, rfl, _, rfl, ?_⟩
    refine ite2 (fun h1 => ?_) (fun h1 => ?_)
    · have h1' : (z.length : Int) < 1 := of_decide_eq_true h1
      refine iteT ?_
      have e : isNm z = false := isNm_small (.inl (by omega))
      have q := k H (Same.refl H)
      rw [e] at q
      exact q
    refine ⟨_, rfl, z, rfl, hzl, _, _, rfl, rfl, _, rfl, ?_⟩
    refine ite2 (fun h2 => ?_) (fun h2 => ?_)
    · have h2' : (12 : Int) < z.length := of_decide_eq_true h2
      have e : isNm z = false := isNm_small (.inr (by omega))
      have q := k H (Same.refl H)
      rw [e] at q
      exact q
    have h1' : ¬ z.length < 1 := fun x => h1 (decide_eq_true (by omega))
    have h2' : ¬ 12 < z.length := fun x => h2 (decide_eq_true (by omega))
    refine ⟨_, rfl, ?_⟩
    dsimp only [tC]
    refine rdItem (n := z.length) rfl (by decide) (by omega) (by omega) fun c hc => ?_
    refine ⟨c, _, rfl, rfl, _, rfl, ?_⟩
    refine ite2 (fun h3 => ?_) (fun h3 => ?_)
    · have h3' : ¬ c ∈ LET := fun x => by
        rw [show decide (c ∈ (PySem.Str.ofString "abcdefghijklmnopqrstuvwxyz").cps.toList) = true from decide_eq_true x] at h3
        cases h3
      have q := k H (Same.refl H)
      rw [isNm_first hc h3'] at q
      exact q
    have h3' : c ∈ LET := by
      by_cases x : c ∈ LET
      · exact x
      · rw [show decide (c ∈ (PySem.Str.ofString "abcdefghijklmnopqrstuvwxyz").cps.toList) = false from decide_eq_false x] at h3
        exact absurd rfl h3
    refine ⟨_, rfl, z, rfl, fun D hD => ?_⟩
    refine lc_signs (z := z) (f := okc) hz hD (fun c H Q q => ?_) fun H' hS hl => ?_
    · refine q _ rfl fun Q2 q2 => ?_
      refine ⟨_, rfl, c, _, rfl, rfl, _, rfl, ?_⟩
      unfold okc at q2
      refine ite2 (fun h => ?_) (fun h => ?_)
      · have h' : decide (c ∈ LET) = true := h
        rw [h'] at q2
        exact q2
      · have h' : decide (c ∈ LET) = false := Bool.eq_false_iff.mpr h
        rw [h'] at q2
        exact ⟨_, rfl, c, _, rfl, rfl, q2⟩
    · refine ⟨D, _, rfl, SqL.of hl, ?_⟩
      have q := k H' hS
      rw [isNm_all h1' h2' hc h3', ← all_map] at q
      exact q
end
end Wm
namespace Wm
open PySem L2
theorem mk1 {C : Addr} {f kd : Str} {v : V} {H : Hp} {Q : XK} (k : ∀ d H', H d = none → Same H H' → H' d = some (.xd (ef1 f kd v)) → Q (.ref C) (some d) H') :
    [v].length ≤ 1000 ∧ ∀ a, H a = none → spE1 C f kd (.ref a :: ([v] ++ [])) (upd H a (exo a C none)) (fun u H2 => u = .non ∧ ∃ (d : Addr) (fs : List (Str × V)), H2 a = some (exo a C (some d)) ∧ H2 d = some (exd d fs) ∧ H d = none ∧ Q (.ref C) (some d) (upd (del H2 a) d (.xd fs))) (fun _ _ _ => False) := by
  refine ⟨by show 1 ≤ 1000; decide, fun a na => ⟨a, v, rfl, upd_same, fun dx H' n ne kp ha hd => ⟨rfl, dx, _, ha, hd, ?_, ?_⟩⟩⟩
  · rw [upd_ne ne] at n
    exact n
  · rw [upd_ne ne] at n
    refine k dx _ n (fun b o e => ?_) upd_same
    have nb : b ≠ a := ne_of_none e na
    rw [upd_ne (ne_of_none e n), del_ne nb]
    exact kp b o nb (by rw [upd_ne nb]; exact e)
/-- what is due of the first text that is no name -/
def DueN (C : Addr) (zs : List Str) (H : Hp) (Q : VK) (E : XK) : Prop := match zs.find? (fun z => !isNm z) with
  | none => ∀ H', Same H H' → Q .non H'
  | some z => ∀ d H', H d = none → Same H H' → H' d = some (.xd (ef1 "name" "noname" (.str z))) → E (.ref C) (some d) H'
def spRN (K : PySem.W.Frag) (C : Addr) : Sp := fun vs H Q E => ∃ (l : Addr) (zs : List Str), vs = [.ref l] ∧ SqL K H l (zs.map V.str) ∧ zs.length ≤ 1000 ∧ (∀ z ∈ zs, z.length ≤ 1000) ∧ DueN C zs H Q E
theorem find_none_take {zs : List Str} {i : Nat} {z : Str} {p : Str → Bool} (h : ∀ y ∈ zs.take i, p y = false) (e : zs[i]? = some z) (hz : p z = true) : zs.find? p = some z := by
  have hlt : i < zs.length := (List.getElem?_eq_some_iff.mp e).1
  have e2 : zs = zs.take i ++ z :: zs.drop (i + 1) := by
    have q := List.take_append_drop i zs
    have q2 := List.drop_eq_getElem_cons hlt
    have q3 : zs[i] = z := (List.getElem?_eq_some_iff.mp e).2
    rw [q2, q3] at q
    exact q.symm
  rw [e2, List.find?_append]
  have n : (zs.take i).find? p = none := by
    rw [List.find?_eq_none]
    intro y hy
    rw [h y hy]
    decide
  rw [n]
  simp [hz]
section
variable {P : Program} {w : World} {K : PySem.W.Frag} {mg : Str → Option Value} {base : Heap}
theorem scRN : FnScope ["texts", "text"] ["texts"] (defScope sRN) := ⟨rfl, rfl, rfl, by decide +kernel, rfl, by decide +kernel, by decide +kernel⟩
theorem ok_rn {f fN C fI : Addr} {fd fdN fdI : FuncData} (F : Fun K "refuse_no_name" "refuse_no_name" sRN f fd) (D : Dn K mg "is_name" sName ["text"] fN fdN) (GN : FnOk P w K mg base CX0 1 fN fdN ["text"] spName) (TE : ErrT K mg "NoName" "name" C fI) (bI : Binds K fdI ["self", "name"] [])
    (GI : FnOk P w K mg base CX0 2 fI fdI ["self", "name"] (spE1 C "name" "noname")) : FnOk P w K mg base (L2.CX P w) 4 f fd ["texts"] (spRN K C) := by
  refine F.okX scRN (fun vs H Q E h => ?_) (fun cdv A outer s H vs Q E hr h => ?_)
  · obtain ⟨l, zs, rfl, _⟩ := h
    rfl
  · obtain ⟨l, zs, rfl, hl, hn, hz, k⟩ := h
    have hr1 : Room 1 _ := hr.mono (by decide)
    refine ⟨_, (pss_one (ps_for (passes_of rfl) rfl (pi_list (pv 0)) (pg_name (i := 1) scRN.nd rfl (Or.inl rfl)) (pss_one (ps_if (pt_not (pt_val (pe_call GN hr1 rfl D.g D.F.kp D.b .nil pass0 (pa_cons (pv 1) pa_nil)))) (pss_one (ps_raise rfl (takes_of rfl rfl rfl rfl) (pmk_oex TE.o TE.iC TE.tI GI hr bI .nil pass0 rfl TE.g (pa_cons (pv 1) pa_nil)))) pss_nil)))), ?_⟩
    refine ⟨_, rfl, l, rfl, ⟨_, hl⟩, for_list (K := K) (a := l) (xs := zs.map V.str) (fun i σ H' => ∃ v, σ = [some (.ref l), v] ∧ Same H H' ∧ ∀ y ∈ zs.take i, (!isNm y) = false) ⟨none, rfl, Same.refl H, fun y hy => (List.not_mem_nil hy).elim⟩
      (fun i σ H' _ ⟨_, _, hS, _⟩ => hS.seq hl) ?_ ?_⟩
    · rintro i y σ H' hi ⟨v, rfl, hS, hno⟩
      obtain ⟨z, hzi, rfl⟩ : ∃ z, zs[i]? = some z ∧ y = V.str z := by
        rw [List.getElem?_map] at hi
        cases e : zs[i]? with
        | none =>
          rw [e] at hi
          cases hi
        | some z =>
          rw [e] at hi
          exact ⟨z, rfl, (Option.some.inj hi).symm⟩
      refine ⟨_, rfl, z, rfl, hz z (List.mem_of_getElem? hzi), fun H2 hS2 => ⟨_, rfl, ?_⟩⟩
      refine ite2 (fun h => ?_) (fun h => ?_)
      · refine ⟨_, rfl, ?_⟩
        have e := find_none_take hno hzi h
        unfold DueN at k
        rw [e] at k
        refine mk1 fun d H3 hd hS3 hx => k d H3 (hS.free (hS2.free hd)) (hS.trans (hS2.trans hS3)) hx
      · refine ⟨_, rfl, hS.trans hS2, fun y hy => ?_⟩
        rw [List.take_add_one, hzi] at hy
        rcases List.mem_append.mp hy with hy | hy
        · exact hno y hy
        · have e : y = z := by simpa using hy
          rw [e]
          exact Bool.eq_false_iff.mpr h
    · rintro σ H' ⟨v, rfl, hS, hno⟩
      have e : zs.find? (fun z => !isNm z) = none := by
        rw [List.find?_eq_none]
        intro y hy
        rw [List.length_map, List.take_length] at hno
        rw [hno y hy]
        decide
      unfold DueN at k
      rw [e] at k
      exact k H' hS
end
end Wm
namespace Wm
open PySem PySem.Spec PyProof.Rows L2
/-- enumerate(v): its two new cells -/
theorem meets_enum1 {v : Value} {o : Obj} {H : Heap → Prop} (B : Begins v o H) :
    Meets (Builtin.«enumerate.__new__» ⟨[.type "enumerate", v], []⟩) (fun _ R s => H s.heap ∧
      R (.ok (.ret (.ref (s.heap.push o).objs.size))) { s with heap := (s.heap.push o).push { cls := .type "enumerate", data := .fields #[.none, .bool false, .ref s.heap.objs.size, rawInt 0, .none, .none] } }) :=
  .of_wp fun prog w A R s hh => by
    obtain ⟨hp, g, d, tk, os⟩ := s
    obtain ⟨h1, h⟩ := hh
    have hsub := sub_enumerate
    have q1 : ∀ {A' : Around} {E : Value → Shared → Prop} {Q : Value → Shared → Prop}, Q (.ref hp.objs.size) ⟨hp.push o, g, d, tk, os⟩ → wpAny (model prog w) A' (pyIter v) Q E ⟨hp, g, d, tk, os⟩ := fun q => B.iter prog w _ _ ⟨hp, g, d, tk, os⟩ _ h1 q
    wp_walk using q1
    refine wpAny_stack_any fun stk => wpAny_pure ?_
    split
    · rename_i c _ _ _ _ _
      cases (c == Value.type "enumerate") <;> (wp_walk using q1; exact ⟨_, rfl, h⟩)
    · wp_walk using q1
      exact ⟨_, rfl, h⟩
theorem call_enum_tup {prog : Program} {w : World} {A : Around} {E : Value → Shared → Prop} {s : Shared} {t : Addr} {items : Array Value} {Q : Value → Shared → Prop} (hL : s.heap.IsTuple t items)
    (h : ∀ h', IsEnum h' (s.heap.objs.size + 1) s.heap.objs.size 0 .none → h'.IsTupleIter s.heap.objs.size t 0 → (∀ b o, s.heap.get? b = some o → h'.get? b = some o) → Q (.ref (s.heap.objs.size + 1)) { s with heap := h' }) :
    wpAny (model prog w) A (call (.type "enumerate") [.ref t]) Q E s := by
  refine callType_new F.called_enumerate (by decide) (F.typeCall_enumerate_1 _) (F.newCall_enumerate_1 _) (fun obj => F.args_object_init_2 obj _) F.entry_enumerate_new (meets_enum1 (begins_tuple t items)) ⟨hL, ?_⟩
  generalize ho : ({ cls := .type "tuple_iterator", data := .fields #[.ref t, .int 0 0] } : Obj) = o
  have hz : (s.heap.push o).objs.size = s.heap.objs.size + 1 := Heap.size_push ..
  show _ ∧ _
  rw [hz]
  generalize he : ({ cls := .type "enumerate", data := .fields #[.none, .bool false, .ref s.heap.objs.size, rawInt 0, .none, .none] } : Obj) = eo
  have h2 : ((s.heap.push o).push eo).get? (s.heap.objs.size + 1) = some eo := by
    have q := Heap.get?_push_size (s.heap.push o) (o := eo) (by rw [← he]; rfl)
    rw [hz] at q
    exact q
  have h3 : ((s.heap.push o).push eo).get? s.heap.objs.size = some o := Heap.get?_push_of_some _ (Heap.get?_push_size _ (by rw [← ho]; rfl))
  refine ⟨⟨_, h2, by rw [← he]⟩, h _ ?_ ⟨o, h3, by rw [← ho], by rw [← ho]; rfl⟩ fun b o x => Heap.get?_push_of_some _ (Heap.get?_push_of_some _ x)⟩
  show ((s.heap.push o).push eo).get? (s.heap.objs.size + 1) = some _
  rw [h2, ← he]
/-- the tuple at a, each item in a new pair -/
def IteT (K : PySem.W.Frag) (a : Addr) (xs : List V) : It :=
  ⟨fun i H => SqT K H a xs ∧ i < xs.length, fun i H v H' => ∃ T x, v = .ref T ∧ H T = none ∧ H' = upd H T (.tup [.int (i : Nat), x]) ∧ xs[i]? = some x, fun i H => SqT K H a xs ∧ i = xs.length⟩
theorem turn_enumT {P : Program} {w : World} {K : PySem.W.Frag} {elts : List Expr} {kk : Nat} {tpos : Pos} {xs : List V} (a e it : Addr) (his : List Value) :
    Turn P w K (.Tuple elts kk tpos) (IteT K a xs) [e, it] e (fun i h => (∃ old, IsEnum h e it ((i : Nat) : Int) old) ∧ h.IsTupleIter it a i ∧ e ≠ it ∧ a ≠ it ∧ a ≠ e) where
  mem := by simp
  obj := fun i h st b hb => by
    obtain ⟨⟨old, he⟩, ⟨o, ho, hc, hd⟩, _⟩ := st
    rcases (show b = e ∨ b = it by simpa using hb) with z | z
    · rw [z]
      exact ⟨_, he, fun v q => nomatch q⟩
    · rw [z]
      exact ⟨o, ho, fun v q => by rw [hd] at q; cases q⟩
  keep := fun i h h' st k => let ⟨⟨old, he⟩, hi, hne⟩ := st; ⟨⟨old, k e (by simp) _ he⟩, hi.at fun o q => k it (by simp) o q, hne⟩
  item := by
    intro X hP hw hK hc i pins s σ H E I hf st hg
    subst hP hw hK
    obtain ⟨⟨old, he⟩, hit, hne, nai, nae⟩ := st
    obtain ⟨hq, hlt⟩ := hg
    obtain ⟨its, rv, p, hz⟩ := I.tuple hq
    have hlen := rv.length
    have hel : e < s.heap.objs.size := Heap.lt_size he
    have hil : it < s.heap.objs.size := by obtain ⟨_, q, _⟩ := hit; exact Heap.lt_size q
    have D : Draws X.prog X.w X.A.in1 it [it, a] its.toArray.size (fun i v => its.toArray[i]? = some v) (fun i h => h.IsTupleIter it a i ∧ h.IsTuple a its.toArray) := Draws.tuple (A := X.A.in1) (show X.A.in1.handled = none from I.ok.hd hc) it a nai its.toArray
    refine wpAny_pyNext_enum_itemC D he ⟨hit, p⟩ (by rw [List.size_toArray]; omega) hne (by simp [hne, Ne.symm nae]) fun u h' tk hu ho hst' hT hsz hk => ?_
    have hu' : its[i]? = some u := by simpa using hu
    obtain ⟨x, hx, ru⟩ : ∃ x, xs[i]? = some x ∧ RelV x u := by
      obtain ⟨u2, h2, r2⟩ := rv.get (List.getElem?_eq_getElem hlt)
      rw [hu'] at h2
      cases h2
      exact ⟨_, List.getElem?_eq_getElem hlt, r2⟩
    refine ⟨_, rfl, wpAny_letOwnedTupleGo_enum (s := { s with heap := h', toks := tk + 1 }) ho fun h'' he' sb => ?_⟩
    have hT2 : h''.get? s.heap.objs.size = some { cls := .type "tuple", data := .seq #[.int i tk, u] } := (sb.2 _ (Nat.ne_of_gt hel)).trans hT
    have new : ObjOk X.prog X.w (upd H s.heap.objs.size (.tup [.int (i : Nat), x])) h'' s.heap.objs.size (.tup [.int (i : Nat), x]) := ⟨by show 2 ≤ sizeLine; decide, [.int i tk, u], .cons ⟨_, rfl⟩ (.cons ru .nil), ⟨_, hT2, rfl, _, rfl⟩⟩
    have I1 : Inv X pins σ (upd H s.heap.objs.size (.tup [.int (i : Nat), x])) { s with heap := h'', toks := tk + 1 } :=
      I.turnedNew (ch := [e, it]) (fun b ob hb q => (sb.2 b (fun z => hb (by simp [z]))).trans (hk b ob (fun z => hb (by simp [z])) (fun z => hb (by simp [z])) q)) hf (Nat.le_refl _) new
    refine ⟨.ref s.heap.objs.size, _, I1, rfl, ⟨_, x, rfl, I.hok.fresh (Nat.le_refl _), rfl, hx⟩, ⟨⟨u, ?_⟩, hst'.1.at fun o q => (sb.2 it (Ne.symm hne)).trans q, hne, nai, nae⟩, fun b hb => ?_⟩
    · have e1 : ((i + 1 : Nat) : Int) = (i : Int) + 1 := by omega
      rw [e1]
      exact he'
    · have hb' : b < s.heap.objs.size := by
        rcases (show b = e ∨ b = it by simpa using hb) with z | z
        · rw [z]; exact hel
        · rw [z]; exact hil
      rw [upd_ne (Nat.ne_of_lt hb')]
      exact (hf b hb).1
  done := by
    intro X hP hw hK hc i pins s σ H E I hf st hg
    subst hP hw hK
    obtain ⟨⟨old, he⟩, hit, hne, nai, nae⟩ := st
    obtain ⟨hq, hi⟩ := hg
    obtain ⟨its, rv, p, hz⟩ := I.tuple hq
    have hlen := rv.length
    obtain ⟨f0, f1, f2, f3, f4, f5⟩ := hf it (by simp)
    have D : Draws X.prog X.w X.A.in1 it [it, a] its.toArray.size (fun i v => its.toArray[i]? = some v) (fun i h => h.IsTupleIter it a i ∧ h.IsTuple a its.toArray) := Draws.tuple (A := X.A.in1) (show X.A.in1.handled = none from I.ok.hd hc) it a nai its.toArray
    have en : i = its.toArray.size := by rw [List.size_toArray]; omega
    rw [en] at he hit
    exact wpAny_pyNext_enum_endD D he ⟨hit, p⟩ fun h' eb => ⟨rfl, I.turned (t' := s.toks) (fun b o hb q => eb b o hb q) f0 f1 f3 f4 f5⟩
  self := fun A i s Q E st h => let ⟨⟨_, he⟩, _⟩ := st; wpAny_pyIter_enum he h
def iEnumT (K : PySem.W.Frag) (ta : TA) : TI := fun σ H R => ta σ H fun vs H1 => ∃ a xs, vs = [.ref a] ∧ SqT K H1 a xs ∧ R (IteT K a xs) H1
theorem pi_enumT {X : Cx} {e : Expr} {ta : TA} {p pos tpos : Pos} {elts : List Expr} {kk : Nat} (hg : Gl X "enumerate") (hm : X.mg "enumerate" = none) (ha : PA X [e] ta) (hs : starEach [e] X.env = [(false, eval e X.env)] := by rfl) :
    PI X (.Tuple elts kk tpos) (.Call (.Name "enumerate" p) [e] [] pos) (iEnumT X.K ta) := by
  refine ⟨fun pins s σ H R I h => ?_⟩
  refine Call_ (ld_blt I hg hm boot_enumerate (PyProof.Rows.callWith_type1 (thn (ha.run pos pins s σ H _ I h) fun us s1 ⟨vs, H1, I1, r1, a, xs, ex, hq, q⟩ => ?_) hs rfl))
  subst ex
  cases r1 with
  | cons r rr =>
    cases rr
    cases r
    obtain ⟨its, rv, p', hz⟩ := I1.tuple hq
    have hal : a < s1.heap.objs.size := by obtain ⟨_, z, _⟩ := p'; exact Heap.lt_size z
    refine call_enum_tup (items := its.toArray) p' fun h' he hit hk => wpAny_pyIter_enum he ?_
    have I2 : Inv X pins σ H1 { s1 with heap := h' } := I1.kept (t' := s1.toks) hk
    refine ⟨s1.heap.objs.size + 1, [s1.heap.objs.size + 1, s1.heap.objs.size], _, _, H1, rfl, I2, turn_enumT a (s1.heap.objs.size + 1) s1.heap.objs.size its, ⟨⟨.none, he⟩, hit, Nat.succ_ne_self _, Nat.ne_of_lt hal, Nat.ne_of_lt (Nat.lt_succ_of_lt hal)⟩, fun b hb => ?_, q⟩
    have hle : s1.heap.objs.size ≤ b := by
      rcases (show b = s1.heap.objs.size + 1 ∨ b = s1.heap.objs.size by simpa using hb) with z | z
      · rw [z]; exact Nat.le_add_right _ _
      · rw [z]; exact Nat.le_refl _
    exact I1.fpOk hle (I1.hok.fresh hle)
theorem walk_enumT {K : PySem.W.Frag} {a : Addr} {xs : List V} : Walk (IteT K a xs) xs.length (fun H => SqT K H a xs) (YPair (fun i => some (.int (i : Nat))) (fun i => xs[i]?)) := by
  refine ⟨fun i _ hi q => ⟨q, hi⟩, fun _ q => ⟨q, rfl⟩, fun i H v H' _ q y => ?_⟩
  obtain ⟨T, x, h1, h2, h3, h4⟩ := y
  exact ⟨T, .int (i : Nat), x, h1, h2, h3, rfl, h4⟩
end Wm
namespace Wm
open PySem L2
/-- the outer walk of a comprehension of two clauses -/
theorem lc2_it {J : It} {n : Nat} {G : Hp → Prop} {Y : Nat → Hp → V → Hp → Prop} (w : Walk J n G Y) {g : TG} {vs : List Nat} {σ : St} {H1 : Hp} {D : Addr} {Qd : Hp → Prop} {inner : St → Hp → (Hp → Prop) → Prop} (Pv : Nat → Hp → Prop) (h0 : Pv 0 (upd H1 D (.lst []))) (hG : ∀ i H, i ≤ n → Pv i H → G H)
    (hs : ∀ i x H H', i < n → Pv i H → Y i H x H' → g x (wipe σ vs) H' fun σ2 H2 => wipe σ2 vs = wipe σ vs ∧ inner σ2 H2 (Pv (i + 1))) (hd : ∀ H, Pv n H → Qd H) :
    ∃ W : Nat → Nat → Hp → Prop, (∃ m, W 0 m (upd H1 D (.lst []))) ∧ ∀ i m H, W i m H →
      (J.stop i H ∧ Qd H) ∨ (J.go i H ∧ ∃ Nx : Hp → Prop, (∀ H', Nx H' → ∃ m', m' < m ∧ W (i + 1) m' H') ∧ ∀ x H', J.yld i H x H' → g x (wipe σ vs) H' fun σ2 H2 => wipe σ2 vs = wipe σ vs ∧ inner σ2 H2 Nx) := by
  refine ⟨fun i m H => m = n - i ∧ i ≤ n ∧ Pv i H, ⟨n, by simp, Nat.zero_le _, h0⟩, ?_⟩
  rintro i m H ⟨rfl, hi, p⟩
  have q := hG i H hi p
  by_cases hlt : i < n
  · exact .inr ⟨w.goes i H hlt q, Pv (i + 1), fun H' p' => ⟨n - (i + 1), by omega, rfl, hlt, p'⟩, fun x H' y => hs i x H H' hlt p (w.yields i H x H' hlt q y)⟩
  · have e : i = n := by omega
    subst e
    exact .inl ⟨w.stops H q, hd H p⟩
/-- the inner one -/
theorem lc1_it {J : It} {n : Nat} {G : Hp → Prop} {Y : Nat → Hp → V → Hp → Prop} (w : Walk J n G Y) {g : TG} {te : TE} {vs : List Nat} {σ : St} {H4 : Hp} {D : Addr} {Nx : Hp → Prop} (Pv : Nat → Hp → Prop) (h0 : Pv 0 H4) (hG : ∀ i H, i ≤ n → Pv i H → G H)
    (hs : ∀ i x H H', i < n → Pv i H → Y i H x H' → g x (wipe σ vs) H' fun σ3 H5 => wipe σ3 vs = wipe σ vs ∧ te σ3 H5 fun y H7 => ∃ acc, H7 D = some (.lst acc) ∧ acc.length < sizeLine ∧ Pv (i + 1) (upd H7 D (.lst (acc ++ [y])))) (hd : ∀ H, Pv n H → Nx H) :
    ∃ W1 : Nat → Nat → Hp → Prop, (∃ m, W1 0 m H4) ∧ ∀ j k H, W1 j k H →
      (J.stop j H ∧ Nx H) ∨ (J.go j H ∧ ∃ Nx1 : Hp → Prop, (∀ H', Nx1 H' → ∃ k', k' < k ∧ W1 (j + 1) k' H') ∧ ∀ x H', J.yld j H x H' → g x (wipe σ vs) H' fun σ3 H5 => wipe σ3 vs = wipe σ vs ∧ tYes σ3 H5 fun b H6 =>
        if b = true then te σ3 H6 fun y H7 => ∃ acc, H7 D = some (.lst acc) ∧ acc.length < sizeLine ∧ Nx1 (upd H7 D (.lst (acc ++ [y]))) else Nx1 H6) := by
  refine ⟨fun i m H => m = n - i ∧ i ≤ n ∧ Pv i H, ⟨n, by simp, Nat.zero_le _, h0⟩, ?_⟩
  rintro i m H ⟨rfl, hi, p⟩
  have q := hG i H hi p
  by_cases hlt : i < n
  · exact .inr ⟨w.goes i H hlt q, Pv (i + 1), fun H' p' => ⟨n - (i + 1), by omega, rfl, hlt, p'⟩, fun x H' y => hs i x H H' hlt p (w.yields i H x H' hlt q y)⟩
  · have e : i = n := by omega
    subst e
    exact .inl ⟨w.stops H q, hd H p⟩
/-- tuple(x) of a list or a tuple -/
def rTupOf (K : PySem.W.Frag) : List V → Hp → VK → Prop := fun xs H Q => ∃ p ys, xs = [.ref p] ∧ ((SqL K H p ys ∧ ∀ l, H l = none → Q (.ref l) (upd H l (.tup ys))) ∨ (SqT K H p ys ∧ Q (.ref p) H))
theorem call_tupN {X : Cx} : CallR X (.type "tuple") (rTupOf X.K) := call_tuple_of
theorem same_seqT {K : PySem.W.Frag} {H H' : Hp} {a : Addr} {xs : List V} (e : Same H H') (h : SqT K H a xs) : SqT K H' a xs := by
  rcases h with (h | ⟨o, h⟩) | h
  · exact .inl (.inl (e _ _ h))
  · exact .inl (.inr ⟨o, e _ _ h⟩)
  · exact .inr h
/-- to be read as a list or a tuple -/
def Sq (K : PySem.W.Frag) (H : Hp) (a : Addr) (xs : List V) : Prop := SqL K H a xs ∨ SqT K H a xs
theorem same_sq {K : PySem.W.Frag} {H H' : Hp} {a : Addr} {xs : List V} (e : Same H H') (h : Sq K H a xs) : Sq K H' a xs := h.imp (fun h => e.seq h) (fun h => same_seqT e h)
theorem cut_take (xs : List V) (i : Nat) : cutV xs none (some (i : Int)) = xs.take i := by
  unfold cutV
  rw [HT.sIx_none, HT.sIx_nat, List.drop_zero, Nat.sub_zero]
  by_cases h : i ≤ xs.length
  · rw [Nat.min_eq_left h]
  · rw [Nat.min_eq_right (by omega), List.take_length, List.take_of_length_le (by omega)]
theorem all_take {xs : List V} (h : xs.all flatV = true) (i : Nat) : (xs.take i).all flatV = true := by
  rw [List.all_eq_true] at h ⊢
  exact fun x hx => h x (List.mem_of_mem_take hx)
end Wm
namespace Wm
open PySem L2
/-- no item stands ahead of itself -/
def NoTw (xs : List V) : Prop := ∀ (i : Nat) (x : V), xs[i]? = some x → inV x (xs.take i) = false
def spFT (K : PySem.W.Frag) : Sp := fun vs H Q _ => ∃ (l : Addr) (xs : List V), vs = [.ref l] ∧ Sq K H l xs ∧ xs.all flatV = true ∧ NoTw xs ∧ ∀ H', Same H H' → Q .non H'
def spRC : Sp := fun vs H Q _ => ∃ (z : V) (c lo hi : Int), vs = [z, .int c, .int lo, .int hi] ∧ lo ≤ c ∧ c ≤ hi ∧ Q .non H
section
variable {P : Program} {w : World} {K : PySem.W.Frag} {mg : Str → Option Value} {base : Heap}
theorem scRC : FnScope ["what", "count", "least", "most"] ["what", "count", "least", "most"] (defScope sRC) := ⟨rfl, rfl, rfl, by decide +kernel, rfl, by decide +kernel, by decide +kernel⟩
theorem ok_rc {f : Addr} {fd : FuncData} (F : Fun K "refuse_count" "refuse_count" sRC f fd) : FnOk P w K mg base CX0 1 f fd ["what", "count", "least", "most"] spRC := by
  refine F.ok scRC (fun vs H Q E h => ?_) (fun cdv A outer s H vs Q E hr h => ?_)
  · obtain ⟨z, c, lo, hi, rfl, _⟩ := h
    rfl
  · obtain ⟨z, c, lo, hi, rfl, h1, h2, k⟩ := h
    refine ⟨_, (pss_one (ps_if (PW.pt (pw_or (pt_cmpR op_lt (pv 1) (pv 2) (nomark _)) (pw_or1 (pt_cmpR op_gt (pv 1) (pv 3) (nomark _))))) (pss_one ps_never) pss_nil)), ?_⟩
    refine ⟨_, rfl, _, rfl, _, _, rfl, rfl, _, rfl, ?_⟩
    refine ite2 (fun h => absurd (of_decide_eq_true h) (by omega)) (fun _ => ?_)
    refine ⟨_, rfl, _, rfl, _, _, rfl, rfl, _, rfl, ?_⟩
    exact ite2 (fun h => absurd (of_decide_eq_true h) (by omega)) (fun _ => k)
theorem scFT : FnScope ["row", "place", "part"] ["row"] (defScope sFT) := ⟨rfl, rfl, rfl, by decide +kernel, rfl, by decide +kernel, by decide +kernel⟩
theorem ok_ft {f : Addr} {fd : FuncData} (F : Fun K "first_twice" "first_twice" sFT f fd) (T : TxB mg) : FnOk P w K mg base CX0 1 f fd ["row"] (spFT K) := by
  refine F.ok scFT (fun vs H Q E h => ?_) (fun cdv A outer s H vs Q E hr h => ?_)
  · obtain ⟨l, xs, rfl, _⟩ := h
    rfl
  · obtain ⟨l, xs, rfl, hl, hf, hno, k⟩ := h
    rcases hl with hl | hl
    · refine ⟨_, (pss_cons (ps_for PassesOwn.never rfl (pi_enum rfl T.enumerate (pa_cons (pv 0) pa_nil)) (pg_tup rfl (pgs_cons (pg_name (i := 1) scFT.nd rfl (Or.inl rfl)) (pgs_cons (pg_name (i := 2) scFT.nd rfl (Or.inl rfl)) pgs_nil))) (pss_one (ps_if (pt_cmpR op_in_seq (pv 2) (pe_slice sl_list (pv 0) po_none (po_some (pv 1))) (by rfl)) (pss_one (ps_ret (pv 1))) pss_nil)))
      (pss_one (ps_ret pe_non))), ?_⟩
      refine ⟨_, rfl, l, xs, rfl, hl, for_it walk_enum (fun i σ H' => (∃ u v, σ = [some (.ref l), u, v]) ∧ Same H H') ⟨⟨none, none, rfl⟩, Same.refl H⟩ (fun i σ H' _ p => p.2.seq hl) ?_ ?_⟩
      · rintro i x σ H1 H2 hi ⟨⟨u, v, rfl⟩, hS⟩ ⟨t, y, z, rfl, ht, rfl, e1, e2⟩
        cases e1
        refine ⟨t, _, rfl, SqT.of upd_same, rfl, _, _, rfl, _, _, rfl, rfl, ?_⟩
        have S2 := hS.trans (Same.upd (o := .tup [.int (i : Nat), z]) ht)
        refine ⟨_, rfl, _, rfl, _, rfl, _, rfl, l, xs, rfl, S2.seq hl, fun p hp => ?_⟩
        refine ⟨p, _, rfl, .inl (SqL.of upd_same), ?_, ?_, _, rfl, ?_⟩
        · exact List.all_eq_true.mp hf _ (List.mem_of_getElem? e2)
        · show (cutV xs none (some (i : Int))).all flatV = true
          rw [cut_take]
          exact all_take hf i
        · have e : inV z (cutV xs none (some (i : Int))) = false := by
            rw [cut_take]
            exact hno i z e2
          show if inV z (cutV xs none (some (i : Int))) = true then _ else _
          rw [e]
          exact iteF ⟨⟨_, _, rfl⟩, S2.trans (Same.upd hp)⟩
      · rintro σ H' ⟨_, hS⟩
        exact k H' hS
    · refine ⟨_, (pss_cons (ps_for PassesOwn.never rfl (pi_enumT rfl T.enumerate (pa_cons (pv 0) pa_nil)) (pg_tup rfl (pgs_cons (pg_name (i := 1) scFT.nd rfl (Or.inl rfl)) (pgs_cons (pg_name (i := 2) scFT.nd rfl (Or.inl rfl)) pgs_nil))) (pss_one (ps_if (pt_cmpR op_in_seq (pv 2) (pe_slice sl_tupA (pv 0) po_none (po_some (pv 1))) (by rfl)) (pss_one (ps_ret (pv 1))) pss_nil)))
      (pss_one (ps_ret pe_non))), ?_⟩
      refine ⟨_, rfl, l, xs, rfl, hl, for_it walk_enumT (fun i σ H' => (∃ u v, σ = [some (.ref l), u, v]) ∧ Same H H') ⟨⟨none, none, rfl⟩, Same.refl H⟩ (fun i σ H' _ p => same_seqT p.2 hl) ?_ ?_⟩
      · rintro i x σ H1 H2 hi ⟨⟨u, v, rfl⟩, hS⟩ ⟨t, y, z, rfl, ht, rfl, e1, e2⟩
        cases e1
        refine ⟨t, _, rfl, SqT.of upd_same, rfl, _, _, rfl, _, _, rfl, rfl, ?_⟩
        have S2 := hS.trans (Same.upd (o := .tup [.int (i : Nat), z]) ht)
        refine ⟨_, rfl, _, rfl, _, rfl, _, rfl, l, xs, rfl, same_seqT S2 hl, fun h => ?_, fun h p hp => ?_⟩
        · have en : xs.take i = xs := by
            rw [HT.sIx_nat] at h
            exact List.take_of_length_le (by omega)
          have e : inV z xs = false := by
            have q := hno i z e2
            rw [en] at q
            exact q
          refine ⟨l, xs, rfl, .inr (same_seqT S2 hl), List.all_eq_true.mp hf _ (List.mem_of_getElem? e2), hf, _, rfl, ?_⟩
          show if inV z xs = true then _ else _
          rw [e]
          exact iteF ⟨⟨_, _, rfl⟩, S2⟩
        · refine ⟨p, _, rfl, .inr (SqT.of upd_same), List.all_eq_true.mp hf _ (List.mem_of_getElem? e2), ?_, _, rfl, ?_⟩
          · show (cutV xs none (some (i : Int))).all flatV = true
            rw [cut_take]
            exact all_take hf i
          · have e : inV z (cutV xs none (some (i : Int))) = false := by
              rw [cut_take]
              exact hno i z e2
            show if inV z (cutV xs none (some (i : Int))) = true then _ else _
            rw [e]
            exact iteF ⟨⟨_, _, rfl⟩, S2.trans (Same.upd hp)⟩
      · rintro σ H' ⟨_, hS⟩
        exact k H' hS
theorem scRT : FnScope ["names", "place"] ["names"] (defScope sRT) := ⟨rfl, rfl, rfl, by decide +kernel, rfl, by decide +kernel, by decide +kernel⟩
theorem ok_rt {f fF : Addr} {fd fdF : FuncData} (F : Fun K "refuse_twice" "refuse_twice" sRT f fd) (T : TxB mg) (D : Dn K mg "first_twice" sFT ["row"] fF fdF) : FnOk P w K mg base CX0 2 f fd ["names"] (spFT K) := by
  have G : FnOk P w K mg base CX0 1 fF fdF ["row"] (spFT K) := ok_ft D.F T
  refine F.ok scRT (fun vs H Q E h => ?_) (fun cdv A outer s H vs Q E hr h => ?_)
  · obtain ⟨l, xs, rfl, _⟩ := h
    rfl
  · obtain ⟨l, xs, rfl, hl, hf, hno, k⟩ := h
    refine ⟨_, (pss_cons (ps_set (i := 1) scRT.nd rfl (Or.inl rfl) (pe_call G hr rfl D.g D.F.kp D.b .nil pass0 (pa_cons (pv 0) pa_nil)))
      (pss_one (ps_if (pt_cmp (pc_notN (pv 1))) (pss_one ps_never) pss_nil))), ?_⟩
    refine ⟨_, rfl, l, xs, rfl, hl, hf, hno, fun H' hS => ?_⟩
    refine ⟨_, rfl, _, rfl, ?_⟩
    exact iteF (k H' hS)
end
end Wm
namespace Wm
open PySem L2
/-- the tuples at the addresses -/
def RowsAt (K : PySem.W.Frag) (H : Hp) : List Addr → List (List V) → Prop
  | [], [] => True
  | p :: ps, r :: rs => SqT K H p r ∧ RowsAt K H ps rs
  | _, _ => False
theorem RowsAt.same {K : PySem.W.Frag} {H H' : Hp} (e : Same H H') : ∀ {ps : List Addr} {rs : List (List V)}, RowsAt K H ps rs → RowsAt K H' ps rs
  | [], [], _ => True.intro
  | _ :: _, _ :: _, h => ⟨same_seqT e h.1, RowsAt.same e h.2⟩
  | [], _ :: _, h => h.elim
  | _ :: _, [], h => h.elim
theorem RowsAt.len {K : PySem.W.Frag} {H : Hp} : ∀ {ps : List Addr} {rs : List (List V)}, RowsAt K H ps rs → ps.length = rs.length
  | [], [], _ => rfl
  | _ :: _, _ :: _, h => congrArg Nat.succ (RowsAt.len h.2)
  | [], _ :: _, h => h.elim
  | _ :: _, [], h => h.elim
theorem RowsAt.get {K : PySem.W.Frag} {H : Hp} : ∀ {ps : List Addr} {rs : List (List V)} {i : Nat} {p : Addr}, RowsAt K H ps rs → ps[i]? = some p → ∃ r, rs[i]? = some r ∧ SqT K H p r
  | [], [], i, p, _, e => by simp at e
  | _ :: _, r :: _, 0, p, h, e => by
    have e' := Option.some.inj e
    subst e'
    exact ⟨r, rfl, h.1⟩
  | _ :: ps, _ :: rs, i + 1, p, h, e => by
    obtain ⟨r, h1, h2⟩ := RowsAt.get (i := i) h.2 (by simpa using e)
    exact ⟨r, by simpa using h1, h2⟩
  | [], _ :: _, _, _, h, _ => h.elim
  | _ :: _, [], _, _, h, _ => h.elim
theorem RowsAt.append {K : PySem.W.Frag} {H : Hp} : ∀ {ps qs : List Addr} {rs us : List (List V)}, RowsAt K H ps rs → RowsAt K H qs us → RowsAt K H (ps ++ qs) (rs ++ us)
  | [], _, [], _, _, h => h
  | _ :: _, _, _ :: _, _, h, g => ⟨h.1, RowsAt.append h.2 g⟩
  | [], _, _ :: _, _, h, _ => h.elim
  | _ :: _, _, [], _, h, _ => h.elim
theorem RowsAt.take {K : PySem.W.Frag} {H : Hp} : ∀ {ps : List Addr} {rs : List (List V)} (n : Nat), RowsAt K H ps rs → RowsAt K H (ps.take n) (rs.take n)
  | _, _, 0, _ => True.intro
  | [], [], _ + 1, _ => True.intro
  | _ :: _, _ :: _, n + 1, h => ⟨h.1, RowsAt.take n h.2⟩
  | [], _ :: _, _ + 1, h => h.elim
  | _ :: _, [], _ + 1, h => h.elim
theorem map_ref_get {ps : List Addr} {i : Nat} {x : V} (h : (ps.map V.ref)[i]? = some x) : ∃ p, ps[i]? = some p ∧ x = .ref p := by
  rw [List.getElem?_map] at h
  cases e : ps[i]? with
  | none =>
    rw [e] at h
    cases h
  | some p =>
    rw [e] at h
    exact ⟨p, rfl, (Option.some.inj h).symm⟩
theorem map_str_get {ps : List Str} {i : Nat} {x : V} (h : (ps.map V.str)[i]? = some x) : ∃ p, ps[i]? = some p ∧ x = .str p := by
  rw [List.getElem?_map] at h
  cases e : ps[i]? with
  | none =>
    rw [e] at h
    cases h
  | some p =>
    rw [e] at h
    exact ⟨p, rfl, (Option.some.inj h).symm⟩
abbrev Tri := Str × Str × Str
def triV (t : Tri) : List V := [.str t.1, .str t.2.1, .str t.2.2]
def endsL (ts : List Tri) : List Str := ts.flatMap fun t => [t.1, t.2.2]
theorem endsL_take {ts : List Tri} {i : Nat} {t : Tri} (h : ts[i]? = some t) : endsL (ts.take (i + 1)) = endsL (ts.take i) ++ [t.1, t.2.2] := by
  unfold endsL
  rw [List.take_add_one, h, List.flatMap_append]
  rfl
theorem endsL_len (ts : List Tri) : (endsL ts).length = 2 * ts.length := by
  induction ts with
  | nil => rfl
  | cons t r ih =>
    have e : (endsL (t :: r)).length = 2 + (endsL r).length := by
      show ([t.1, t.2.2] ++ endsL r).length = _
      rw [List.length_append]
      rfl
    have e2 : (t :: r).length = r.length + 1 := rfl
    omega
theorem tri_get {ts : List Tri} {i : Nat} {r : List V} (h : (ts.map triV)[i]? = some r) : ∃ t, ts[i]? = some t ∧ r = triV t := by
  rw [List.getElem?_map] at h
  cases e : ts[i]? with
  | none =>
    rw [e] at h
    cases h
  | some p =>
    rw [e] at h
    exact ⟨p, rfl, (Option.some.inj h).symm⟩
def spTT (K : PySem.W.Frag) : Sp := fun vs H Q _ => ∃ (l : Addr) (ps : List Addr) (rs : List (List V)), vs = [.ref l] ∧ SqL K H l (ps.map V.ref) ∧ RowsAt K H ps rs ∧ ps.length ≤ 1000 ∧ ∀ t H', H t = none → Same H H' → H' t = some (.tup (ps.map V.ref)) → Q (.ref t) H'
def spEO (K : PySem.W.Frag) : Sp := fun vs H Q _ => ∃ (l : Addr) (ps : List Addr) (ts : List Tri), vs = [.ref l] ∧ Sq K H l (ps.map V.ref) ∧ RowsAt K H ps (ts.map triV) ∧ ps.length ≤ 1000 ∧ ∀ d H', H d = none → Same H H' → H' d = some (.lst ((endsL ts).map V.str)) → Q (.ref d) H'
section
variable {P : Program} {w : World} {K : PySem.W.Frag} {mg : Str → Option Value} {base : Heap}
theorem scTT : FnScope ["rows", "row"] ["rows"] (defScope sTT) := ⟨rfl, rfl, rfl, by decide +kernel, rfl, by decide +kernel, by decide +kernel⟩
theorem ok_tt {f : Addr} {fd : FuncData} (F : Fun K "tuple_of_tuples" "tuple_of_tuples" sTT f fd) (T : TxB mg) : FnOk P w K mg base CX0 1 f fd ["rows"] (spTT K) := by
  refine F.ok scTT (fun vs H Q E h => ?_) (fun cdv A outer s H vs Q E hr h => ?_)
  · obtain ⟨l, ps, rs, rfl, _⟩ := h
    rfl
  · obtain ⟨l, ps, rs, rfl, hl, hrs, hn, k⟩ := h
    refine ⟨_, (pss_one (ps_ret (pe_callTy call_tupN (by rfl) T.tuple (by decide +kernel) (pa_cons (pe_lc (own := [("row", 1)]) (g := gName 1) (te := tCB (rTupOf K) (tCons (tVar 1) tNil)) rfl scTT.nd (pi_list (pv 0)) (blkOk_by (N := ["rows", "row"]) (sc := defScope sTT) (by decide +kernel)) (fun _ _ _ _ _ => (pg_name (i := 1) scTT.nd rfl (Or.inl rfl))) (fun _ _ _ _ _ => pts_nil) (fun _ _ _ _ _ => (pe_callTy call_tupN (by rfl) T.tuple (by decide +kernel) (pa_cons (pv 1) pa_nil)))) pa_nil)))), ?_⟩
    refine ⟨_, rfl, l, rfl, ⟨_, hl⟩, fun D hD => ?_⟩
    refine lc_it walk_list (fun i H' => Same H H' ∧ H' D = some (.lst ((ps.take i).map V.ref))) ⟨Same.upd hD, upd_same⟩ (fun i H' _ p => p.1.seq hl) ?_ ?_
    · rintro i x H1 H2 hi ⟨hS, hd⟩ ⟨rfl, hx⟩
      obtain ⟨p, hp, rfl⟩ := map_ref_get hx
      obtain ⟨r, _, hr'⟩ := hrs.get hp
      refine ⟨rfl, ?_⟩
      refine ⟨_, rfl, p, r, rfl, .inr ⟨same_seqT hS hr', _, hd, ?_, ?_, ?_⟩⟩
      · rw [List.length_map, List.length_take]
        exact Nat.lt_of_le_of_lt (show _ ≤ 1000 by omega) (by decide)
      · intro b o h
        rw [upd_ne (ne_of_none h hD)]
        exact hS b o h
      · rw [upd_same, List.take_add_one, hp, List.map_append]
        rfl
    · rintro H' ⟨hS, hd⟩
      rw [List.length_map, List.take_length] at hd
      exact ⟨D, _, rfl, .inl ⟨SqL.of hd, fun t ht => k t _ (hS.free ht) (hS.trans (Same.upd ht)) upd_same⟩⟩
theorem scEO : FnScope ["triples", "x", "word", "y", "end"] ["triples"] (defScope sEO) := ⟨rfl, rfl, rfl, by decide +kernel, rfl, by decide +kernel, by decide +kernel⟩
theorem ok_eo {f : Addr} {fd : FuncData} (F : Fun K "ends_of" "ends_of" sEO f fd) : FnOk P w K mg base CX0 1 f fd ["triples"] (spEO K) := by
  refine F.ok scEO (fun vs H Q E h => ?_) (fun cdv A outer s H vs Q E hr h => ?_)
  · obtain ⟨l, ps, ts, rfl, _⟩ := h
    rfl
  · obtain ⟨l, ps, ts, rfl, hl, hrs, hn, k⟩ := h
    have hlen := hrs.len
    rw [List.length_map] at hlen
    rcases hl with hl | hl
    · refine ⟨_, (pss_one (ps_ret (pe_lc2 (own := [("x", 1), ("word", 2), ("y", 3), ("end", 4)]) (vs1 := [4]) (g := gTup K 3 (gCons (gName 1) (gCons (gName 2) (gCons (gName 3) gNil)))) (g1 := gName 4) (wi1 := iTup K (tTup (tCons (tVar 1) (tCons (tVar 3) tNil)))) rfl scEO.nd (pi_list (pv 0)) (blkOk_by (N := ["triples", "x", "word", "y", "end"]) (sc := defScope sEO) (by decide +kernel)) (by decide) (fun _ _ _ _ _ => (pg_tup rfl (pgs_cons (pg_name (i := 1) scEO.nd rfl (Or.inl rfl)) (pgs_cons (pg_name (i := 2) scEO.nd rfl (Or.inl rfl)) (pgs_cons (pg_name (i := 3) scEO.nd rfl (Or.inl rfl)) pgs_nil))))) (fun _ _ _ _ _ => pts_nil) (fun _ _ _ _ _ => (pi_tup (pe_tup (pa_cons (pv 1) (pa_cons (pv 3) pa_nil))))) (fun _ _ _ _ _ => (pg_name (i := 4) scEO.nd rfl (Or.inl rfl))) (fun _ _ _ _ _ => pts_nil) (fun _ _ _ _ _ => (pv 4))))), ?_⟩
      refine ⟨_, rfl, l, rfl, ⟨_, hl⟩, fun D hD => ?_⟩
      refine lc2_it walk_list (fun i H' => Same H H' ∧ H' D = some (.lst ((endsL (ts.take i)).map V.str))) ⟨Same.upd hD, upd_same⟩ (fun i H' _ p => p.1.seq hl) ?_ ?_
      · rintro i x H1 H2 hi ⟨hS, hd⟩ ⟨rfl, hx⟩
        obtain ⟨p, hp, rfl⟩ := map_ref_get hx
        obtain ⟨r, hr1, hr'⟩ := hrs.get hp
        obtain ⟨t, ht, rfl⟩ := tri_get hr1
        refine ⟨p, _, rfl, same_seqT hS hr', rfl, _, _, rfl, _, _, rfl, _, _, rfl, rfl, rfl, ?_⟩
        refine ⟨_, rfl, _, rfl, by show 2 ≤ sizeLine; decide, fun q hq => ⟨q, rfl, ⟨_, SqT.of upd_same⟩, ?_⟩⟩
        have nDq : D ≠ q := ne_of_none hd hq
        refine lc1_it walk_tup (fun j H' => Same H H' ∧ SqT K H' q [.str t.1, .str t.2.2] ∧ H' D = some (.lst ((endsL (ts.take i) ++ [t.1, t.2.2].take j).map V.str))) ⟨hS.trans (Same.upd hq), SqT.of upd_same, ?_⟩ (fun _ _ _ p => p.2.1) ?_ ?_
        · rw [upd_ne nDq, hd, List.take_zero, List.append_nil]
        · rintro j y H3 H4 hj ⟨hS3, hq3, hd3⟩ ⟨rfl, hy⟩
          refine ⟨rfl, _, rfl, _, hd3, ?_, ?_, ?_, ?_⟩
          · rw [List.length_map, List.length_append, endsL_len, List.length_take, List.length_take]
            have l2 : [t.1, t.2.2].length = 2 := rfl
            exact Nat.lt_of_le_of_lt (show _ ≤ 4000 by omega) (by decide)
          · intro b o h
            rw [upd_ne (ne_of_none h hD)]
            exact hS3 b o h
          · rcases hq3 with (h | ⟨o, h⟩) | h
            · exact .inl (.inl (by rw [upd_ne (ne_of h hd3 (by intro z; cases z))]; exact h))
            · exact .inl (.inr ⟨o, by rw [upd_ne (ne_of h hd3 (by intro z; cases z))]; exact h⟩)
            · exact .inr h
          · have hy' : ([t.1, t.2.2].map V.str)[j]? = some y := hy
            obtain ⟨z, hz, rfl⟩ := map_str_get hy'
            have e : ∀ l : List Str, (l ++ (some z).toList).map V.str = l.map V.str ++ [V.str z] := fun l => by
              rw [List.map_append]
              rfl
            rw [upd_same, List.take_add_one, hz, ← List.append_assoc, e]
        · rintro H3 ⟨hS3, hq3, hd3⟩
          refine ⟨hS3, ?_⟩
          rw [hd3, endsL_take ht]
          rfl
      · rintro H' ⟨hS, hd⟩
        refine k D H' hD hS ?_
        rw [hd, List.length_map, List.take_of_length_le (by omega)]
    · refine ⟨_, (pss_one (ps_ret (pe_lc2 (own := [("x", 1), ("word", 2), ("y", 3), ("end", 4)]) (vs1 := [4]) (g := gTup K 3 (gCons (gName 1) (gCons (gName 2) (gCons (gName 3) gNil)))) (g1 := gName 4) (wi1 := iTup K (tTup (tCons (tVar 1) (tCons (tVar 3) tNil)))) rfl scEO.nd (pi_tup (pv 0)) (blkOk_by (N := ["triples", "x", "word", "y", "end"]) (sc := defScope sEO) (by decide +kernel)) (by decide) (fun _ _ _ _ _ => (pg_tup rfl (pgs_cons (pg_name (i := 1) scEO.nd rfl (Or.inl rfl)) (pgs_cons (pg_name (i := 2) scEO.nd rfl (Or.inl rfl)) (pgs_cons (pg_name (i := 3) scEO.nd rfl (Or.inl rfl)) pgs_nil))))) (fun _ _ _ _ _ => pts_nil) (fun _ _ _ _ _ => (pi_tup (pe_tup (pa_cons (pv 1) (pa_cons (pv 3) pa_nil))))) (fun _ _ _ _ _ => (pg_name (i := 4) scEO.nd rfl (Or.inl rfl))) (fun _ _ _ _ _ => pts_nil) (fun _ _ _ _ _ => (pv 4))))), ?_⟩
      refine ⟨_, rfl, l, rfl, ⟨_, hl⟩, fun D hD => ?_⟩
      refine lc2_it walk_tup (fun i H' => Same H H' ∧ H' D = some (.lst ((endsL (ts.take i)).map V.str))) ⟨Same.upd hD, upd_same⟩ (fun i H' _ p => same_seqT p.1 hl) ?_ ?_
      · rintro i x H1 H2 hi ⟨hS, hd⟩ ⟨rfl, hx⟩
        obtain ⟨p, hp, rfl⟩ := map_ref_get hx
        obtain ⟨r, hr1, hr'⟩ := hrs.get hp
        obtain ⟨t, ht, rfl⟩ := tri_get hr1
        refine ⟨p, _, rfl, same_seqT hS hr', rfl, _, _, rfl, _, _, rfl, _, _, rfl, rfl, rfl, ?_⟩
        refine ⟨_, rfl, _, rfl, by show 2 ≤ sizeLine; decide, fun q hq => ⟨q, rfl, ⟨_, SqT.of upd_same⟩, ?_⟩⟩
        have nDq : D ≠ q := ne_of_none hd hq
        refine lc1_it walk_tup (fun j H' => Same H H' ∧ SqT K H' q [.str t.1, .str t.2.2] ∧ H' D = some (.lst ((endsL (ts.take i) ++ [t.1, t.2.2].take j).map V.str))) ⟨hS.trans (Same.upd hq), SqT.of upd_same, ?_⟩ (fun _ _ _ p => p.2.1) ?_ ?_
        · rw [upd_ne nDq, hd, List.take_zero, List.append_nil]
        · rintro j y H3 H4 hj ⟨hS3, hq3, hd3⟩ ⟨rfl, hy⟩
          refine ⟨rfl, _, rfl, _, hd3, ?_, ?_, ?_, ?_⟩
          · rw [List.length_map, List.length_append, endsL_len, List.length_take, List.length_take]
            have l2 : [t.1, t.2.2].length = 2 := rfl
            exact Nat.lt_of_le_of_lt (show _ ≤ 4000 by omega) (by decide)
          · intro b o h
            rw [upd_ne (ne_of_none h hD)]
            exact hS3 b o h
          · rcases hq3 with (h | ⟨o, h⟩) | h
            · exact .inl (.inl (by rw [upd_ne (ne_of h hd3 (by intro z; cases z))]; exact h))
            · exact .inl (.inr ⟨o, by rw [upd_ne (ne_of h hd3 (by intro z; cases z))]; exact h⟩)
            · exact .inr h
          · have hy' : ([t.1, t.2.2].map V.str)[j]? = some y := hy
            obtain ⟨z, hz, rfl⟩ := map_str_get hy'
            have e : ∀ l : List Str, (l ++ (some z).toList).map V.str = l.map V.str ++ [V.str z] := fun l => by
              rw [List.map_append]
              rfl
            rw [upd_same, List.take_add_one, hz, ← List.append_assoc, e]
        · rintro H3 ⟨hS3, hq3, hd3⟩
          refine ⟨hS3, ?_⟩
          rw [hd3, endsL_take ht]
          rfl
      · rintro H' ⟨hS, hd⟩
        refine k D H' hD hS ?_
        rw [hd, List.length_map, List.take_of_length_le (by omega)]
end
end Wm
namespace Wm
open PySem L2
abbrev Var := Str × Option Str
def sortV : Option Str → V
  | none => .non
  | some s => .str s
def varV (v : Var) : List V := [.str v.1, sortV v.2]
def varT (v : Var) : List Str := v.1 :: v.2.toList
def textsL (nm : Str) (vars : List Var) (ts : List Tri) : List Str := (nm :: vars.flatMap varT) ++ ts.map (·.2.1)
theorem flat_take {vars : List Var} {i : Nat} {v : Var} (h : vars[i]? = some v) : (vars.take (i + 1)).flatMap varT = (vars.take i).flatMap varT ++ varT v := by
  rw [List.take_add_one, h, List.flatMap_append]
  simp
theorem var_get {vars : List Var} {i : Nat} {r : List V} (h : (vars.map varV)[i]? = some r) : ∃ t, vars[i]? = some t ∧ r = varV t := by
  rw [List.getElem?_map] at h
  cases e : vars[i]? with
  | none =>
    rw [e] at h
    cases h
  | some p =>
    rw [e] at h
    exact ⟨p, rfl, (Option.some.inj h).symm⟩
theorem inV_str {z : Str} {ns : List Str} : inV (.str z) (ns.map V.str) = decide (z ∈ ns) := by
  unfold inV
  induction ns with
  | nil => rfl
  | cons a r ih =>
    rw [List.map_cons, List.any_cons, ih]
    show (a == z || _) = _
    by_cases h : a = z
    · subst h
      simp
    · have h2 : ¬ z = a := fun q => h q.symm
      by_cases h3 : z ∈ r <;> simp [h, h2, h3]
theorem flat_strs (ns : List Str) : (ns.map V.str).all flatV = true := by
  rw [List.all_eq_true]
  intro x hx
  obtain ⟨z, _, rfl⟩ := List.mem_map.mp hx
  rfl
def spTP (K : PySem.W.Frag) : Sp := fun vs H Q _ => ∃ (nm : Str) (a b : Addr) (ps qs : List Addr) (vars : List Var) (ts : List Tri), vs = [.str nm, .ref a, .ref b] ∧ SqT K H a (ps.map V.ref) ∧ RowsAt K H ps (vars.map varV) ∧ SqL K H b (qs.map V.ref) ∧ RowsAt K H qs (ts.map triV) ∧
  ps.length ≤ 1000 ∧ qs.length ≤ 1000 ∧ ∀ d H', H d = none → Same H H' → H' d = some (.lst ((textsL nm vars ts).map V.str)) → Q (.ref d) H'
def spRV (K : PySem.W.Frag) : Sp := fun vs H Q _ => ∃ (a b : Addr) (ns zs : List Str), vs = [.ref a, .ref b] ∧ SqL K H a (ns.map V.str) ∧ SqL K H b (zs.map V.str) ∧ (∀ z ∈ zs, z ∈ ns) ∧ ∀ H', Same H H' → Q .non H'
def spRL (K : PySem.W.Frag) : Sp := fun vs H Q _ => ∃ (a b : Addr) (ns : List Str) (ps : List Addr) (ts : List Tri), vs = [.ref a, .ref b] ∧ SqL K H a (ns.map V.str) ∧ SqT K H b (ps.map V.ref) ∧ RowsAt K H ps (ts.map triV) ∧ ps.length ≤ 1000 ∧ (∀ z ∈ ns, z ∈ endsL ts) ∧ ∀ H', Same H H' → Q .non H'
def Hangs (ts : List Tri) : Prop := ∀ (i : Nat) (t : Tri), 0 < i → ts[i]? = some t → t.1 ∈ endsL (ts.take i) ∨ t.2.2 ∈ endsL (ts.take i)
def spRA (K : PySem.W.Frag) : Sp := fun vs H Q _ => ∃ (b : Addr) (ps : List Addr) (ts : List Tri), vs = [.ref b] ∧ SqT K H b (ps.map V.ref) ∧ RowsAt K H ps (ts.map triV) ∧ ps.length ≤ 1000 ∧ Hangs ts ∧ ∀ H', Same H H' → Q .non H'
section
variable {P : Program} {w : World} {K : PySem.W.Frag} {mg : Str → Option Value} {base : Heap}
theorem scTP : FnScope ["name", "variables", "triples", "texts", "variable", "sort", "x", "word", "y"] ["name", "variables", "triples"] (defScope sTP) := ⟨rfl, rfl, rfl, by decide +kernel, rfl, by decide +kernel, by decide +kernel⟩
theorem ok_tp {f : Addr} {fd : FuncData} (F : Fun K "texts_of_pattern" "texts_of_pattern" sTP f fd) : FnOk P w K mg base CX0 1 f fd ["name", "variables", "triples"] (spTP K) := by
  refine F.ok scTP (fun vs H Q E h => ?_) (fun cdv A outer s H vs Q E hr h => ?_)
  · obtain ⟨nm, a, b, ps, qs, vars, ts, rfl, _⟩ := h
    rfl
  · obtain ⟨nm, a, b, ps, qs, vars, ts, rfl, ha, hva, hb, htr, hn, hn2, k⟩ := h
    have hlen := hva.len
    rw [List.length_map] at hlen
    have hlen2 := htr.len
    rw [List.length_map] at hlen2
    have fl : ∀ i, ((vars.take i).flatMap varT).length ≤ 2 * vars.length := fun i => by
      have e : ∀ l : List Var, (l.flatMap varT).length ≤ 2 * l.length := fun l => by
        induction l with
        | nil => exact Nat.le_refl _
        | cons v r ih =>
          have e : ((v :: r).flatMap varT).length = (varT v).length + (r.flatMap varT).length := by
            rw [List.flatMap_cons, List.length_append]
          have e2 : (varT v).length ≤ 2 := by
            unfold varT
            cases v.2 <;> simp
          have e3 : (v :: r).length = r.length + 1 := rfl
          omega
      have q := e (vars.take i)
      rw [List.length_take] at q
      omega
    refine ⟨_, (pss_cons (ps_set (i := 3) scTP.nd rfl (Or.inl rfl) (pe_lst (pa_cons (pv 0) pa_nil)))
      (pss_cons (ps_for PassesOwn.never rfl (pi_tup (pv 1)) (pg_tup rfl (pgs_cons (pg_name (i := 4) scTP.nd rfl (Or.inl rfl)) (pgs_cons (pg_name (i := 5) scTP.nd rfl (Or.inl rfl)) pgs_nil))) (pss_cons (ps_expr (pe_bm PySem.F.plainAttrs_list PySem.F.slot_list_append PySem.F.type_list_append mt_append (pv 3) (pa_cons (pv 4) pa_nil)))
      (pss_one (ps_if (pt_cmp (pc_notN (pv 5))) (pss_one (ps_expr (pe_bm PySem.F.plainAttrs_list PySem.F.slot_list_append PySem.F.type_list_append mt_append (pv 3) (pa_cons (pv 5) pa_nil)))) pss_nil))))
      (pss_cons (ps_expr (pe_bm PySem.F.plainAttrs_list PySem.F.slot_list_extend PySem.F.type_list_extend mt_extend (pv 3) (pa_cons (pe_lc (own := [("x", 6), ("word", 7), ("y", 8)]) (g := gTup K 3 (gCons (gName 6) (gCons (gName 7) (gCons (gName 8) gNil)))) rfl scTP.nd (pi_list (pv 2)) (blkOk_by (N := ["name", "variables", "triples", "texts", "variable", "sort", "x", "word", "y"]) (sc := defScope sTP) (by decide +kernel)) (fun _ _ _ _ _ => (pg_tup rfl (pgs_cons (pg_name (i := 6) scTP.nd rfl (Or.inl rfl)) (pgs_cons (pg_name (i := 7) scTP.nd rfl (Or.inl rfl)) (pgs_cons (pg_name (i := 8) scTP.nd rfl (Or.inl rfl)) pgs_nil))))) (fun _ _ _ _ _ => pts_nil) (fun _ _ _ _ _ => (pv 7))) pa_nil)))
      (pss_one (ps_ret (pv 3)))))), ?_⟩
    refine ⟨_, rfl, by show 1 ≤ sizeLine; decide, fun d hd => ?_⟩
    have S0 : Same H (upd H d (.lst [.str nm])) := Same.upd hd
    refine ⟨_, rfl, a, rfl, ⟨_, same_seqT S0 ha⟩, for_it walk_tup (fun i σ H' => (∃ u v, σ = [some (.str nm), some (.ref a), some (.ref b), some (.ref d), u, v, none, none, none]) ∧ Same H H' ∧ H' d = some (.lst ((nm :: (vars.take i).flatMap varT).map V.str)))
      ⟨⟨none, none, rfl⟩, S0, upd_same⟩ (fun i σ H' _ p => same_seqT p.2.1 ha) ?_ ?_⟩
    · rintro i x σ H1 H2 hi ⟨⟨u, v, rfl⟩, hS, hl⟩ ⟨rfl, hx⟩
      obtain ⟨p, hp, rfl⟩ := map_ref_get hx
      obtain ⟨r, hr1, hr'⟩ := hva.get hp
      obtain ⟨⟨n, so⟩, ht, rfl⟩ := var_get hr1
      have fi := fl i
      refine ⟨p, _, rfl, same_seqT hS hr', rfl, _, _, rfl, _, _, rfl, rfl, ?_⟩
      refine ⟨_, rfl, .inl ⟨rfl, _, SqL.of hl⟩, _, rfl, d, _, _, rfl, rfl, hl, ?_, ?_⟩
      · rw [List.length_map, List.length_cons]
        exact Nat.lt_of_le_of_lt (show _ ≤ 4000 by omega) (by decide)
      have S1 : Same H (upd H2 d (.lst ((nm :: (vars.take i).flatMap varT).map V.str ++ [.str n]))) := fun b' o h => by
        rw [upd_ne (ne_of_none h hd)]
        exact hS b' o h
      refine ⟨_, rfl, _, rfl, ?_⟩
      cases so with
      | none =>
        refine iteF ⟨⟨_, _, rfl⟩, S1, ?_⟩
        rw [upd_same, flat_take ht]
        have e : (nm :: ((vars.take i).flatMap varT ++ varT (n, none))) = (nm :: (vars.take i).flatMap varT) ++ [n] := rfl
        rw [e, List.map_append]
        rfl
      | some so =>
        refine iteT ?_
        refine ⟨_, rfl, .inl ⟨rfl, _, SqL.of upd_same⟩, _, rfl, d, _, _, rfl, rfl, upd_same, ?_, ?_⟩
        · rw [List.length_append, List.length_map, List.length_cons, List.length_singleton]
          exact Nat.lt_of_le_of_lt (show _ ≤ 4000 by omega) (by decide)
        · refine ⟨⟨_, _, rfl⟩, fun b' o h => ?_, ?_⟩
          · rw [upd_ne (ne_of_none h hd)]
            exact S1 b' o h
          · rw [upd_same, flat_take ht]
            have e : (nm :: ((vars.take i).flatMap varT ++ varT (n, some so))) = (nm :: (vars.take i).flatMap varT) ++ [n, so] := rfl
            rw [e, List.map_append, List.append_assoc]
            rfl
    · rintro σ H1 ⟨⟨u, v, rfl⟩, hS, hl⟩
      rw [List.length_map, List.take_of_length_le (by omega)] at hl
      have fi := fl vars.length
      rw [List.take_length] at fi
      refine ⟨_, rfl, .inl ⟨rfl, _, SqL.of hl⟩, _, rfl, b, rfl, ⟨_, hS.seq hb⟩, fun D hD => ?_⟩
      have nDd : D ≠ d := (ne_of_none hl hD).symm
      refine lc_it walk_list (fun i H' => Same H H' ∧ H' d = some (.lst ((nm :: vars.flatMap varT).map V.str)) ∧ H' D = some (.lst (((ts.take i).map (·.2.1)).map V.str))) ⟨hS.trans (Same.upd hD), by rw [upd_ne nDd.symm]; exact hl, upd_same⟩ (fun i H' _ p => p.1.seq hb) ?_ ?_
      · rintro i x H2 H3 hi ⟨hS2, hl2, hD2⟩ ⟨rfl, hx⟩
        obtain ⟨p, hp, rfl⟩ := map_ref_get hx
        obtain ⟨r, hr1, hr'⟩ := htr.get hp
        obtain ⟨t, ht, rfl⟩ := tri_get hr1
        refine ⟨p, _, rfl, same_seqT hS2 hr', rfl, _, _, rfl, _, _, rfl, _, _, rfl, rfl, rfl, ?_⟩
        refine ⟨_, rfl, _, hD2, ?_, ?_, ?_, ?_⟩
        · rw [List.length_map, List.length_map, List.length_take]
          exact Nat.lt_of_le_of_lt (show _ ≤ 1000 by omega) (by decide)
        · intro b' o h
          rw [upd_ne (ne_of_none h (hS.free hD))]
          exact hS2 b' o h
        · rw [upd_ne nDd.symm]
          exact hl2
        · rw [upd_same, List.take_add_one, ht, List.map_append, List.map_append]
          rfl
      · rintro H2 ⟨hS2, hl2, hD2⟩
        rw [List.length_map, List.take_of_length_le (by omega)] at hD2
        refine ⟨d, D, _, _, rfl, rfl, hl2, hD2, ?_, ?_⟩
        · rw [List.length_map, List.length_map, List.length_map, List.length_cons]
          exact Nat.le_trans (show _ ≤ 4000 by omega) (by decide)
        · refine ⟨_, rfl, ?_⟩
          refine k d _ hd (fun b' o h => ?_) ?_
          · rw [upd_ne (ne_of_none h hd)]
            exact hS2 b' o h
          · rw [upd_same]
            unfold textsL
            rw [List.map_append]
theorem scRV : FnScope ["names", "texts", "text"] ["names", "texts"] (defScope sRV) := ⟨rfl, rfl, rfl, by decide +kernel, rfl, by decide +kernel, by decide +kernel⟩
theorem ok_rv {f : Addr} {fd : FuncData} (F : Fun K "refuse_no_variable" "refuse_no_variable" sRV f fd) : FnOk P w K mg base CX0 1 f fd ["names", "texts"] (spRV K) := by
  refine F.ok scRV (fun vs H Q E h => ?_) (fun cdv A outer s H vs Q E hr h => ?_)
  · obtain ⟨a, b, ns, zs, rfl, _⟩ := h
    rfl
  · obtain ⟨a, b, ns, zs, rfl, ha, hb, hin, k⟩ := h
    refine ⟨_, (pss_one (ps_for PassesOwn.never rfl (pi_list (pv 1)) (pg_name (i := 2) scRV.nd rfl (Or.inl rfl)) (pss_one (ps_if (pt_cmpR op_notIn_seq (pv 2) (pv 0) (by rfl)) (pss_one ps_never) pss_nil)))), ?_⟩
    refine ⟨_, rfl, b, rfl, ⟨_, hb⟩, for_list (K := K) (a := b) (xs := zs.map V.str) (fun i σ H' => (∃ v, σ = [some (.ref a), some (.ref b), v]) ∧ H' = H) ⟨⟨none, rfl⟩, rfl⟩ (fun i σ H' _ p => by rw [p.2]; exact hb) ?_ ?_⟩
    · rintro i y σ H' hi ⟨⟨v, rfl⟩, rfl⟩
      obtain ⟨z, hz, rfl⟩ := map_str_get hi
      refine ⟨_, rfl, _, rfl, a, _, rfl, .inl ha, rfl, flat_strs ns, _, rfl, ?_⟩
      show if (!inV (.str z) (ns.map V.str)) = true then _ else _
      rw [inV_str, decide_eq_true (hin z (List.mem_of_getElem? hz))]
      exact iteF ⟨⟨_, rfl⟩, rfl⟩
    · rintro σ H' ⟨_, rfl⟩
      exact k H' (Same.refl H')
theorem scRL : FnScope ["names", "conditions", "tied", "name"] ["names", "conditions"] (defScope sRL) := ⟨rfl, rfl, rfl, by decide +kernel, rfl, by decide +kernel, by decide +kernel⟩
theorem ok_rl {f fE : Addr} {fd fdE : FuncData} (F : Fun K "refuse_loose" "refuse_loose" sRL f fd) (D : Dn K mg "ends_of" sEO ["triples"] fE fdE) : FnOk P w K mg base CX0 2 f fd ["names", "conditions"] (spRL K) := by
  have G : FnOk P w K mg base CX0 1 fE fdE ["triples"] (spEO K) := ok_eo D.F
  refine F.ok scRL (fun vs H Q E h => ?_) (fun cdv A outer s H vs Q E hr h => ?_)
  · obtain ⟨a, b, ns, ps, ts, rfl, _⟩ := h
    rfl
  · obtain ⟨a, b, ns, ps, ts, rfl, ha, hb, htr, hn, hin, k⟩ := h
    refine ⟨_, (pss_cons (ps_set (i := 2) scRL.nd rfl (Or.inl rfl) (pe_call G hr rfl D.g D.F.kp D.b .nil pass0 (pa_cons (pv 1) pa_nil)))
      (pss_one (ps_for PassesOwn.never rfl (pi_list (pv 0)) (pg_name (i := 3) scRL.nd rfl (Or.inl rfl)) (pss_one (ps_if (pt_cmpR op_notIn_seq (pv 3) (pv 2) (by rfl)) (pss_one ps_never) pss_nil))))), ?_⟩
    refine ⟨_, rfl, b, ps, ts, rfl, .inr hb, htr, hn, fun d H1 hd hS hl => ?_⟩
    refine ⟨_, rfl, a, rfl, ⟨_, hS.seq ha⟩, for_list (K := K) (a := a) (xs := ns.map V.str) (fun i σ H' => (∃ v, σ = [some (.ref a), some (.ref b), some (.ref d), v]) ∧ H' = H1) ⟨⟨none, rfl⟩, rfl⟩ (fun i σ H' _ p => by rw [p.2]; exact hS.seq ha) ?_ ?_⟩
    · rintro i y σ H' hi ⟨⟨v, rfl⟩, rfl⟩
      obtain ⟨z, hz, rfl⟩ := map_str_get hi
      refine ⟨_, rfl, _, rfl, d, _, rfl, .inl (SqL.of hl), rfl, flat_strs _, _, rfl, ?_⟩
      show if (!inV (.str z) ((endsL ts).map V.str)) = true then _ else _
      rw [inV_str, decide_eq_true (hin z (List.mem_of_getElem? hz))]
      exact iteF ⟨⟨_, rfl⟩, rfl⟩
    · rintro σ H' ⟨_, rfl⟩
      exact k H' hS
theorem scRA : FnScope ["conditions", "place", "x", "word", "y", "ahead"] ["conditions"] (defScope sRA) := ⟨rfl, rfl, rfl, by decide +kernel, rfl, by decide +kernel, by decide +kernel⟩
theorem ok_ra {f fE : Addr} {fd fdE : FuncData} (F : Fun K "refuse_apart" "refuse_apart" sRA f fd) (T : TxB mg) (D : Dn K mg "ends_of" sEO ["triples"] fE fdE) : FnOk P w K mg base CX0 2 f fd ["conditions"] (spRA K) := by
  have G : FnOk P w K mg base CX0 1 fE fdE ["triples"] (spEO K) := ok_eo D.F
  refine F.ok scRA (fun vs H Q E h => ?_) (fun cdv A outer s H vs Q E hr h => ?_)
  · obtain ⟨b, ps, ts, rfl, _⟩ := h
    rfl
  · obtain ⟨b, ps, ts, rfl, hb, htr, hn, hh, k⟩ := h
    have hlen := htr.len
    rw [List.length_map] at hlen
    refine ⟨_, (pss_one (ps_for PassesOwn.never rfl (pi_enumT rfl T.enumerate (pa_cons (pv 0) pa_nil)) (pg_tup rfl (pgs_cons (pg_name (i := 1) scRA.nd rfl (Or.inl rfl)) (pgs_cons (pg_tup rfl (pgs_cons (pg_name (i := 2) scRA.nd rfl (Or.inl rfl)) (pgs_cons (pg_name (i := 3) scRA.nd rfl (Or.inl rfl)) (pgs_cons (pg_name (i := 4) scRA.nd rfl (Or.inl rfl)) pgs_nil)))) pgs_nil))) (pss_cons (ps_set (i := 5) scRA.nd rfl (Or.inl rfl) (pe_call G hr rfl D.g D.F.kp D.b .nil pass0 (pa_cons (pe_slice sl_tupA (pv 0) po_none (po_some (pv 1))) pa_nil)))
      (pss_one (ps_if (PW.pt (pw_and (pt_cmpR op_gt (pv 1) pe_int (nomark _)) (pw_and (pt_cmpR op_notIn_seq (pv 2) (pv 5) (by rfl)) (pw_and1 (pt_cmpR op_notIn_seq (pv 4) (pv 5) (by rfl)))))) (pss_one ps_never) pss_nil))))), ?_⟩
    refine ⟨_, rfl, b, _, rfl, hb, for_it walk_enumT (fun i σ H' => (∃ u v x y z, σ = [some (.ref b), u, v, x, y, z]) ∧ Same H H') ⟨⟨none, none, none, none, none, rfl⟩, Same.refl H⟩ (fun i σ H' _ p => same_seqT p.2 hb) ?_ ?_⟩
    · rintro i x σ H1 H2 hi ⟨⟨u, v, x1, x2, x3, rfl⟩, hS⟩ ⟨q, y, z, rfl, hq, rfl, e1, e2⟩
      cases e1
      obtain ⟨p, hp, rfl⟩ := map_ref_get e2
      obtain ⟨r, hr1, hr'⟩ := htr.get hp
      obtain ⟨t, ht, rfl⟩ := tri_get hr1
      have S2 := hS.trans (Same.upd (o := .tup [.int (i : Nat), .ref p]) hq)
      have hi' : i < ps.length := by rw [List.length_map] at hi; exact hi
      refine ⟨q, _, rfl, SqT.of upd_same, rfl, _, _, rfl, _, _, rfl, ⟨p, _, rfl, same_seqT S2 hr', rfl, _, _, rfl, _, _, rfl, _, _, rfl, rfl, rfl, ?_⟩⟩
      refine ⟨_, rfl, _, rfl, _, rfl, b, _, rfl, same_seqT S2 hb, fun h => ?_, fun _ c hc => ?_⟩
      · exfalso
        rw [HT.sIx_nat, List.length_map] at h
        omega
      have S3 := S2.trans (Same.upd (o := .tup (cutV (ps.map V.ref) none (some (i : Int)))) hc)
      have hcut : cutV (ps.map V.ref) none (some (i : Int)) = (ps.take i).map V.ref := by rw [cut_take, List.map_take]
      refine ⟨c, ps.take i, ts.take i, rfl, .inr (SqT.of (by rw [upd_same, hcut])), ?_, by rw [List.length_take]; omega, fun d H3 hd hS3 hl => ?_⟩
      · rw [List.map_take]
        exact (htr.take i).same S3
      refine ⟨_, rfl, _, _, rfl, rfl, _, rfl, ?_⟩
      refine ite2 (fun h0 => ?_) (fun _ => ?_)
      · have h0' : (0 : Int) < (i : Int) := of_decide_eq_true h0
        refine ⟨_, rfl, _, rfl, d, _, rfl, .inl (SqL.of hl), rfl, flat_strs _, _, rfl, ?_⟩
        show if (!inV (.str t.1) ((endsL (ts.take i)).map V.str)) = true then _ else _
        rw [inV_str]
        by_cases m1 : t.1 ∈ endsL (ts.take i)
        · rw [decide_eq_true m1]
          exact iteF (iteF ⟨⟨_, _, _, _, _, rfl⟩, S3.trans hS3⟩)
        · rw [decide_eq_false m1]
          refine iteT ?_
          refine ⟨_, rfl, _, rfl, d, _, rfl, .inl (SqL.of hl), rfl, flat_strs _, _, rfl, ?_⟩
          show if (!inV (.str t.2.2) ((endsL (ts.take i)).map V.str)) = true then _ else _
          have m2 : t.2.2 ∈ endsL (ts.take i) := (hh i t (by omega) ht).resolve_left m1
          rw [inV_str, decide_eq_true m2]
          exact iteF ⟨⟨_, _, _, _, _, rfl⟩, S3.trans hS3⟩
      · exact iteF ⟨⟨_, _, _, _, _, rfl⟩, S3.trans hS3⟩
    · rintro σ H' ⟨_, hS⟩
      exact k H' hS
end
end Wm
namespace Wm
open PySem L2 StX
structure TxP (mg : Str → Option Value) : Prop where
  mv : ∃ t, mg "MOST_VARIABLES" = some (.int 4 t)
  mc : ∃ t, mg "MOST_CONDITIONS" = some (.int 3 t)
theorem DueN.mono {C : Addr} {zs : List Str} {H H1 : Hp} {Q : VK} {E : XK} (hS : Same H H1) (h : DueN C zs H Q E) : DueN C zs H1 Q E := by
  unfold DueN at h ⊢
  split
  · rename_i e
    rw [e] at h
    exact fun H' h1 => h H' (hS.trans h1)
  · rename_i z e
    rw [e] at h
    exact fun d H' h0 h1 h2 => h d H' (hS.free h0) (hS.trans h1) h2
theorem DueN.next {C : Addr} {zs : List Str} {H H1 : Hp} {Q Q' : VK} {E : XK} (h : DueN C zs H Q E) (hS : Same H H1) (r : zs.find? (fun z => !isNm z) = none → ∀ H', Same H1 H' → Q' .non H') : DueN C zs H1 Q' E := by
  have h' := DueN.mono hS h
  unfold DueN at h' ⊢
  cases e : zs.find? (fun z => !isNm z) with
  | none => exact r e
  | some z =>
    rw [e] at h'
    exact h'
theorem flat_len (l : List Var) : (l.flatMap varT).length ≤ 2 * l.length := by
  induction l with
  | nil => exact Nat.le_refl _
  | cons v r ih =>
    have e : ((v :: r).flatMap varT).length = (varT v).length + (r.flatMap varT).length := by
      rw [List.flatMap_cons, List.length_append]
    have e2 : (varT v).length ≤ 2 := by
      unfold varT
      cases v.2 <;> simp
    have e3 : (v :: r).length = r.length + 1 := rfl
    omega
/-- a pattern of which nothing but a text that is no name is to be refused -/
structure PatOk (vars : List Var) (cs gs : List Tri) (hs : List Str) : Prop where
  v1 : 1 ≤ vars.length
  v4 : vars.length ≤ 4
  c1 : 1 ≤ cs.length
  c3 : cs.length ≤ 3
  g3 : gs.length ≤ 1
  h3 : hs.length ≤ 1
  tw : NoTw ((vars.map (·.1)).map V.str)
  en : ∀ z ∈ endsL (cs ++ gs) ++ hs, z ∈ vars.map (·.1)
  lo : ∀ z ∈ vars.map (·.1), z ∈ endsL cs
  ap : Hangs cs
def spCP (K : PySem.W.Frag) (C : Addr) : Sp := fun vs H Q E => ∃ (nm : Str) (a b g h : Addr) (ps qs us : List Addr) (vars : List Var) (cs gs : List Tri) (hs : List Str), vs = [.str nm, .ref a, .ref b, .ref g, .ref h] ∧ SqT K H a (ps.map V.ref) ∧ RowsAt K H ps (vars.map varV) ∧
  SqT K H b (qs.map V.ref) ∧ RowsAt K H qs (cs.map triV) ∧ SqL K H g (us.map V.ref) ∧ RowsAt K H us (gs.map triV) ∧ SqL K H h (hs.map V.str) ∧ PatOk vars cs gs hs ∧ (∀ z ∈ textsL nm vars (cs ++ gs), z.length ≤ 1000) ∧ DueN C (textsL nm vars (cs ++ gs)) H Q E
section
variable {P : Program} {w : World} {K : PySem.W.Frag} {mg : Str → Option Value} {base : Heap}
theorem scCP : FnScope ["name", "variables", "conditions", "given", "hands", "triples", "names", "variable", "sort"] ["name", "variables", "conditions", "given", "hands"] (defScope sCP) := ⟨rfl, rfl, rfl, by decide +kernel, rfl, by decide +kernel, by decide +kernel⟩
theorem ok_cp {f fRC fRN fTP fRT fRV fEO fRL fRA C : Addr} {fd dRC dRN dTP dRT dRV dEO dRL dRA : FuncData} (F : Fun K "check_pattern" "check_pattern" sCP f fd) (T : TxB mg) (TP : TxP mg)
    (RC : Dn K mg "refuse_count" sRC ["what", "count", "least", "most"] fRC dRC) (RN : Dn K mg "refuse_no_name" sRN ["texts"] fRN dRN) (TX : Dn K mg "texts_of_pattern" sTP ["name", "variables", "triples"] fTP dTP) (RT : Dn K mg "refuse_twice" sRT ["names"] fRT dRT)
    (RV : Dn K mg "refuse_no_variable" sRV ["names", "texts"] fRV dRV) (EO : Dn K mg "ends_of" sEO ["triples"] fEO dEO) (RL : Dn K mg "refuse_loose" sRL ["names", "conditions"] fRL dRL) (RA : Dn K mg "refuse_apart" sRA ["conditions"] fRA dRA)
    (GRN : FnOk P w K mg base (L2.CX P w) 4 fRN dRN ["texts"] (spRN K C)) (GRT : FnOk P w K mg base CX0 2 fRT dRT ["names"] (spFT K)) :
    FnOk P w K mg base (L2.CX P w) 5 f fd ["name", "variables", "conditions", "given", "hands"] (spCP K C) := by
  have GRC : FnOk P w K mg base CX0 1 fRC dRC _ spRC := ok_rc RC.F
  have GTX : FnOk P w K mg base CX0 1 fTP dTP _ (spTP K) := ok_tp TX.F
  have GRV : FnOk P w K mg base CX0 1 fRV dRV _ (spRV K) := ok_rv RV.F
  have GEO : FnOk P w K mg base CX0 1 fEO dEO _ (spEO K) := ok_eo EO.F
  have GRL : FnOk P w K mg base CX0 2 fRL dRL _ (spRL K) := ok_rl RL.F EO
  have GRA : FnOk P w K mg base CX0 2 fRA dRA _ (spRA K) := ok_ra RA.F T EO
  obtain ⟨t1, hmv⟩ := TP.mv
  obtain ⟨t2, hmc⟩ := TP.mc
  refine F.okX scCP (fun vs H Q E h => ?_) (fun cdv A outer s H vs Q E hr h => ?_)
  · obtain ⟨nm, a, b, g, h, ps, qs, us, vars, cs, gs, hs, rfl, _⟩ := h
    rfl
  · obtain ⟨nm, a, b, g, h, ps, qs, us, vars, cs, gs, hs, rfl, ha, hva, hb, hcs, hg, hgs, hh, ok, hz, k⟩ := h
    have hr1 : Room 1 _ := hr.mono (by decide)
    have hr2 : Room 2 _ := hr.mono (by decide)
    have l1 := hva.len
    have l2 := hcs.len
    have l3 := hgs.len
    rw [List.length_map] at l1 l2 l3
    have o1 := ok.v4
    have o2 := ok.c3
    have o3 := ok.g3
    have o4 := ok.v1
    have o5 := ok.c1
    have o6 := ok.h3
    refine ⟨_, (pss_cons (ps_expr (pe_call GRC hr1 rfl RC.g RC.F.kp RC.b .nil pass0 (pa_cons pe_str (pa_cons (pe_callB call_len_seq (by rfl) T.len (by decide +kernel) (pa_cons (pv 1) pa_nil)) (pa_cons pe_int (pa_cons (pe_glob (v := .int 4) (by rfl) hmv ⟨_, rfl⟩) pa_nil))))))
      (pss_cons (ps_expr (pe_call GRC hr1 rfl RC.g RC.F.kp RC.b .nil pass0 (pa_cons pe_str (pa_cons (pe_callB call_len_seq (by rfl) T.len (by decide +kernel) (pa_cons (pv 2) pa_nil)) (pa_cons pe_int (pa_cons (pe_glob (v := .int 3) (by rfl) hmc ⟨_, rfl⟩) pa_nil))))))
      (pss_cons (ps_set (i := 5) scCP.nd rfl (Or.inl rfl) (pe_lst (pa_star (pv 2) (pa_star (pv 3) pa_nil))))
      (pss_cons (ps_expr (pe_call GRN hr rfl RN.g RN.F.kp RN.b .nil (passes_call (takes_of rfl rfl rfl rfl) (fun _ _ _ _ h => h)) (pa_cons (pe_call GTX hr1 rfl TX.g TX.F.kp TX.b .nil pass0 (pa_cons (pv 0) (pa_cons (pv 1) (pa_cons (pv 5) pa_nil)))) pa_nil)))
      (pss_cons (ps_setLc (i := 6) (own := [("variable", 7), ("sort", 8)]) (g := gTup K 2 (gCons (gName 7) (gCons (gName 8) gNil))) rfl scCP.nd rfl rfl (sw_true rfl rfl rfl (by decide +kernel)) (pi_tup (pv 1)) (blkOk_by (N := ["name", "variables", "conditions", "given", "hands", "triples", "names", "variable", "sort"]) (sc := defScope sCP) (by decide +kernel)) (fun _ _ _ _ _ => (pg_tup rfl (pgs_cons (pg_name (i := 7) scCP.nd rfl (Or.inl rfl)) (pgs_cons (pg_name (i := 8) scCP.nd rfl (Or.inl rfl)) pgs_nil)))) (fun _ _ _ _ _ => pts_nil) (fun _ _ _ _ _ => (pv 7)))
      (pss_cons (ps_expr (pe_call GRT hr2 rfl RT.g RT.F.kp RT.b .nil pass0 (pa_cons (pv 6) pa_nil)))
      (pss_cons (ps_expr (pe_call GRV hr1 rfl RV.g RV.F.kp RV.b .nil pass0 (pa_cons (pv 6) (pa_cons (pe_lst (pa_star (pe_call GEO hr1 rfl EO.g EO.F.kp EO.b .nil pass0 (pa_cons (pv 5) pa_nil)) (pa_star (pv 4) pa_nil))) pa_nil))))
      (pss_cons (ps_expr (pe_call GRL hr2 rfl RL.g RL.F.kp RL.b .nil pass0 (pa_cons (pv 6) (pa_cons (pv 2) pa_nil))))
      (pss_one (ps_expr (pe_call GRA hr2 rfl RA.g RA.F.kp RA.b .nil pass0 (pa_cons (pv 2) pa_nil)))))))))))), ?_⟩
    refine ⟨_, rfl, a, _, rfl, .inr ha, _, _, _, _, rfl, ?_, ?_, ?_⟩
    · rw [List.length_map]; omega
    · rw [List.length_map]; omega
    refine ⟨_, rfl, b, _, rfl, .inr hb, _, _, _, _, rfl, ?_, ?_, ?_⟩
    · rw [List.length_map]; omega
    · rw [List.length_map]; omega
    -- triples = [*conditions, *given]
    refine ⟨_, rfl, b, _, rfl, .inl hb, _, rfl, g, _, rfl, .inr hg, ?_, fun tr htr => ?_⟩
    · show (qs.map V.ref ++ (us.map V.ref ++ [])).length ≤ sizeLine
      rw [List.append_nil, List.length_append, List.length_map, List.length_map]
      exact Nat.le_trans (show _ ≤ 1000 by omega) (by decide)
    have etr : qs.map V.ref ++ (us.map V.ref ++ []) = (qs ++ us).map V.ref := by rw [List.append_nil, List.map_append]
    have S1 : Same H (upd H tr (.lst (qs.map V.ref ++ (us.map V.ref ++ [])))) := Same.upd htr
    refine ⟨_, rfl, _, rfl, _, rfl, nm, a, tr, ps, qs ++ us, vars, cs ++ gs, rfl, same_seqT S1 ha, hva.same S1, SqL.of (by rw [upd_same, etr]), ?_, by omega, by rw [List.length_append]; omega, fun d H2 hd hS2 hl => ?_⟩
    · rw [List.map_append]
      exact (hcs.append hgs).same S1
    have S2 := S1.trans hS2
    refine ⟨d, _, rfl, SqL.of hl, ?_, hz, ?_⟩
    · unfold textsL
      have e : ∀ l : List Var, (l.flatMap varT).length ≤ 2 * l.length := flat_len
      have e2 := e vars
      rw [List.length_append, List.length_cons, List.length_map, List.length_append]
      omega
    refine DueN.next k S2 fun hn H3 hS3 => ?_
    have S3 := S2.trans hS3
    -- names = [variable for variable, sort in variables]
    refine ⟨_, rfl, a, rfl, ⟨_, same_seqT S3 ha⟩, fun D hD => ?_⟩
    refine lc_it walk_tup (fun i H' => Same H3 H' ∧ H' D = some (.lst (((vars.take i).map (·.1)).map V.str))) ⟨Same.upd hD, upd_same⟩ (fun i H' _ p => same_seqT (S3.trans p.1) ha) ?_ ?_
    · rintro i x H4 H5 hi ⟨hS4, hD4⟩ ⟨rfl, hx⟩
      obtain ⟨p, hp, rfl⟩ := map_ref_get hx
      obtain ⟨r, hr1', hr'⟩ := hva.get hp
      obtain ⟨⟨n, so⟩, ht, rfl⟩ := var_get hr1'
      refine ⟨p, _, rfl, same_seqT (S3.trans hS4) hr', rfl, _, _, rfl, _, _, rfl, rfl, rfl, ?_⟩
      refine ⟨_, rfl, _, hD4, ?_, ?_, ?_⟩
      · rw [List.length_map, List.length_map, List.length_take]
        exact Nat.lt_of_le_of_lt (show _ ≤ 1000 by omega) (by decide)
      · intro b' o h
        rw [upd_ne (ne_of_none h hD)]
        exact hS4 b' o h
      · rw [upd_same, List.take_add_one, ht, List.map_append, List.map_append]
        rfl
    rintro H4 ⟨hS4, hD4⟩
    rw [List.length_map, List.take_of_length_le (by omega)] at hD4
    have S4 := S3.trans hS4
    have tr4 : H4 tr = some (.lst ((qs ++ us).map V.ref)) := by
      have q : (upd H tr (.lst (qs.map V.ref ++ (us.map V.ref ++ [])))) tr = some (.lst ((qs ++ us).map V.ref)) := by rw [upd_same, etr]
      exact hS4 _ _ (hS3 _ _ (hS2 _ _ q))
    -- refuse_twice(names)
    refine ⟨_, rfl, D, _, rfl, .inl (SqL.of hD4), flat_strs _, ok.tw, fun H5 hS5 => ?_⟩
    have S5 := S4.trans hS5
    -- refuse_no_variable(names, [*ends_of(triples), *hands])
    refine ⟨_, rfl, _, rfl, tr, qs ++ us, cs ++ gs, rfl, .inl (SqL.of (hS5 _ _ tr4)), ?_, by rw [List.length_append]; omega, fun e H6 he hS6 hl6 => ?_⟩
    · rw [List.map_append]
      exact (hcs.append hgs).same S5
    have S6 := S5.trans hS6
    refine ⟨e, _, rfl, .inr (SqL.of hl6), _, rfl, h, _, rfl, .inr (S6.seq hh), ?_, fun l hl => ?_⟩
    · rw [List.length_append, List.length_map, endsL_len, List.length_append, List.append_nil, List.length_map]
      exact Nat.le_trans (show _ ≤ 1000 by omega) (by decide)
    refine ⟨D, l, _, endsL (cs ++ gs) ++ hs, rfl, SqL.of (Same.upd hl _ _ (hS6 _ _ (hS5 _ _ hD4))), SqL.of ?_, ok.en, fun H7 hS7 => ?_⟩
    · rw [upd_same, List.append_nil, List.map_append]
    have S7 := S6.trans ((Same.upd hl).trans hS7)
    have D7 := hS7 _ _ (Same.upd hl _ _ (hS6 _ _ (hS5 _ _ hD4)))
    -- refuse_loose(names, conditions)
    refine ⟨_, rfl, _, rfl, D, b, _, qs, cs, rfl, SqL.of D7, same_seqT S7 hb, hcs.same S7, by omega, ok.lo, fun H8 hS8 => ?_⟩
    have S8 := S7.trans hS8
    -- refuse_apart(conditions)
    refine ⟨_, rfl, b, qs, cs, rfl, same_seqT S8 hb, hcs.same S8, by omega, ok.ap, fun H9 hS9 => ?_⟩
    unfold DueN at k
    rw [hn] at k
    exact k H9 (S8.trans hS9)
end
end Wm
namespace Wm
open PySem L2 StX
def barF (nm : Str) (t1 t2 : Addr) : List (Str × V) := putF "conditions" (.ref t2) (putF "variables" (.ref t1) (putF "name" (.str nm) []))
theorem ne1 : ¬ (("variables" : Str) = "conditions") := by decide +kernel
theorem ne2 : ¬ (("name" : Str) = "conditions") := by decide +kernel
theorem ne3 : ¬ (("name" : Str) = "variables") := by decide +kernel
theorem barF_name (nm : Str) (t1 t2 : Addr) : (barF nm t1 t2).lookup ("name" : Str) = some (.str nm) := by
  unfold barF
  rw [lookup_putF, if_neg ne2, lookup_putF, if_neg ne3, lookup_putF, if_pos rfl]
theorem barF_vars (nm : Str) (t1 t2 : Addr) : (barF nm t1 t2).lookup ("variables" : Str) = some (.ref t1) := by
  unfold barF
  rw [lookup_putF, if_neg ne1, lookup_putF, if_pos rfl]
theorem barF_cond (nm : Str) (t1 t2 : Addr) : (barF nm t1 t2).lookup ("conditions" : Str) = some (.ref t2) := by
  unfold barF
  rw [lookup_putF, if_pos rfl]
theorem putF_len (f : Str) (v : V) : ∀ fs : List (Str × V), (putF f v fs).length ≤ fs.length + 1
  | [] => Nat.le_refl _
  | (g, x) :: r => by
    unfold putF
    split
    · exact Nat.le_succ _
    · have := putF_len f v r
      simp only [List.length_cons]
      omega
/-- what the making of an object that may be refused by a text is to bring; H0: what stood ahead of it -/
def DueM (C : Addr) (zs : List Str) (H0 : Hp) (ok : Hp → Prop) (E : XK) : Prop := match zs.find? (fun z => !isNm z) with
  | none => ∀ H', Same H0 H' → ok H'
  | some z => ∀ d H', H0 d = none → Same H0 H' → H' d = some (.xd (ef1 "name" "noname" (.str z))) → E (.ref C) (some d) H'
theorem DueM.toN {C : Addr} {zs : List Str} {H0 H1 : Hp} {ok : Hp → Prop} {Q : VK} {E : XK} (h : DueM C zs H0 ok E) (hS : Same H0 H1) (r : zs.find? (fun z => !isNm z) = none → ∀ H', Same H1 H' → Q .non H') : DueN C zs H1 Q E := by
  unfold DueM at h
  unfold DueN
  cases e : zs.find? (fun z => !isNm z) with
  | none => exact r e
  | some z =>
    rw [e] at h
    exact fun d H' h0 h1 h2 => h d H' (hS.free h0) (hS.trans h1) h2
structure TxBar (K : PySem.W.Frag) (mg : Str → Option Value) (B fB : Addr) : Prop where
  cl : Cls K B
  nn : NoAttr K B "name"
  nv : NoAttr K B "variables"
  nc : NoAttr K B "conditions"
  g : mg "Bar" = some (.ref B)
  m : Mk K B fB
def spBar (K : PySem.W.Frag) (C B : Addr) : Sp := fun vs H Q E => ∃ (H0 : Hp) (x dx l1 l2 : Addr) (nm : Str) (ps qs : List Addr) (vars : List Var) (cs : List Tri), vs = [.ref x, .str nm, .ref l1, .ref l2] ∧ Same H0 H ∧ H0 x = none ∧ H x = some (.ins B dx []) ∧
  SqL K H0 l1 (ps.map V.ref) ∧ RowsAt K H0 ps (vars.map varV) ∧ SqL K H0 l2 (qs.map V.ref) ∧ RowsAt K H0 qs (cs.map triV) ∧ PatOk vars cs [] [] ∧ (∀ z ∈ textsL nm vars cs, z.length ≤ 1000) ∧
  DueM C (textsL nm vars cs) H0 (fun H' => ∀ t1 t2, H' x = some (.ins B dx (barF nm t1 t2)) → H' t1 = some (.tup (ps.map V.ref)) → H' t2 = some (.tup (qs.map V.ref)) → Q .non H') E
section
variable {P : Program} {w : World} {K : PySem.W.Frag} {mg : Str → Option Value} {base : Heap}
theorem scBar : FnScope ["self", "name", "variables", "conditions"] ["self", "name", "variables", "conditions"] (defScope sBar) := ⟨rfl, rfl, rfl, by decide +kernel, rfl, by decide +kernel, by decide +kernel⟩
theorem ok_bar {f fTT fCP C B : Addr} {fd dTT dCP : FuncData} (F : Fun K "__init__" "Bar.__init__" sBar f fd) (T : TxB mg) (TB : TxBar K mg B f) (TT : Dn K mg "tuple_of_tuples" sTT ["rows"] fTT dTT)
    (CP : Dn K mg "check_pattern" sCP ["name", "variables", "conditions", "given", "hands"] fCP dCP) (GCP : FnOk P w K mg base (L2.CX P w) 5 fCP dCP ["name", "variables", "conditions", "given", "hands"] (spCP K C)) :
    FnOk P w K mg base (L2.CX P w) 6 f fd ["self", "name", "variables", "conditions"] (spBar K C B) := by
  have GTT : FnOk P w K mg base CX0 1 fTT dTT _ (spTT K) := ok_tt TT.F T
  refine F.okX scBar (fun vs H Q E h => ?_) (fun cdv A outer s H vs Q E hr h => ?_)
  · obtain ⟨H0, x, dx, l1, l2, nm, ps, qs, vars, cs, rfl, _⟩ := h
    rfl
  · obtain ⟨H0, x, dx, l1, l2, nm, ps, qs, vars, cs, rfl, S0, x0, hx, h1, hv, h2, hc, ok, hz, k⟩ := h
    have hr1 : Room 1 _ := hr.mono (by decide)
    have b1 := hv.len
    have b2 := hc.len
    rw [List.length_map] at b1 b2
    have o1 := ok.v4
    have o2 := ok.c3
    refine ⟨_, (pss_cons (ps_fld (pv 0) (pv 1) rfl)
      (pss_cons (ps_fld (pv 0) (pe_call GTT hr1 rfl TT.g TT.F.kp TT.b .nil pass0 (pa_cons (pv 2) pa_nil)) rfl)
      (pss_cons (ps_fld (pv 0) (pe_call GTT hr1 rfl TT.g TT.F.kp TT.b .nil pass0 (pa_cons (pv 3) pa_nil)) rfl)
      (pss_one (ps_expr (pe_call GCP hr rfl CP.g CP.F.kp CP.b .nil (passes_call (takes_of rfl rfl rfl rfl) (fun _ _ _ _ h => h)) (pa_cons (pv 1) (pa_cons (pe_fld (pv 0) rfl) (pa_cons (pe_fld (pv 0) rfl) (pa_cons (pe_lst pa_nil) (pa_cons (pe_lst pa_nil) pa_nil))))))))))), ?_⟩
    -- self.name = name
    refine ⟨_, rfl, _, rfl, x, B, dx, [], rfl, hx, TB.cl, TB.nn, (by show 0 < 1000; decide), ?_⟩
    have Sx : ∀ {H1 : Hp} {o : HO}, Same H0 H1 → Same H0 (upd H1 x o) := fun hs b o e => by
      rw [upd_ne (ne_of_none e x0)]
      exact hs b o e
    have S1 := Sx (o := .ins B dx (putF "name" (.str nm) [])) S0
    -- self.variables = tuple_of_tuples(variables)
    refine ⟨_, rfl, l1, ps, _, rfl, S1.seq h1, hv.same S1, by omega, fun t1 H2 ht1 hS2 hl1 => ?_⟩
    have S2 := S1.trans hS2
    have hx2 := hS2 _ _ (upd_same (H := H) (a := x) (o := .ins B dx (putF "name" (.str nm) [])))
    have n1x : t1 ≠ x := fun z => by
      rw [z, upd_same] at ht1
      cases ht1
    refine ⟨_, rfl, x, B, dx, _, rfl, hx2, TB.cl, TB.nv, Nat.lt_of_le_of_lt (putF_len _ _ _) (by decide), ?_⟩
    have S3 := Sx (o := .ins B dx (putF "variables" (.ref t1) (putF "name" (.str nm) []))) S2
    -- self.conditions = tuple_of_tuples(conditions)
    refine ⟨_, rfl, l2, qs, _, rfl, S3.seq h2, hc.same S3, by omega, fun t2 H4 ht2 hS4 hl2 => ?_⟩
    have S4 := S3.trans hS4
    have hx4 := hS4 _ _ (upd_same (H := H2) (a := x) (o := .ins B dx (putF "variables" (.ref t1) (putF "name" (.str nm) []))))
    have hl1' := hS4 t1 _ (by rw [upd_ne n1x]; exact hl1)
    have n2x : t2 ≠ x := fun z => by
      rw [z, upd_same] at ht2
      cases ht2
    refine ⟨_, rfl, x, B, dx, _, rfl, hx4, TB.cl, TB.nc, Nat.lt_of_le_of_lt (putF_len _ _ _) (Nat.lt_of_le_of_lt (Nat.succ_le_succ (putF_len _ _ _)) (by decide)), ?_⟩
    have S5 := Sx (o := .ins B dx (barF nm t1 t2)) S4
    have hx5 : (upd H4 x (.ins B dx (barF nm t1 t2))) x = some (.ins B dx (barF nm t1 t2)) := upd_same
    have h15 : (upd H4 x (.ins B dx (barF nm t1 t2))) t1 = some (.tup (ps.map V.ref)) := by rw [upd_ne n1x]; exact hl1'
    have h25 : (upd H4 x (.ins B dx (barF nm t1 t2))) t2 = some (.tup (qs.map V.ref)) := by rw [upd_ne n2x]; exact hl2
    -- check_pattern(name, self.variables, self.conditions, [], [])
    refine ⟨_, rfl, _, rfl, x, B, dx, _, _, rfl, hx5, TB.cl, TB.nv, barF_vars _ _ _, _, rfl, x, B, dx, _, _, rfl, hx5, TB.cl, TB.nc, barF_cond _ _ _, Nat.zero_le _, fun g hg => ⟨Nat.zero_le _, fun h hh => ?_⟩⟩
    have S7 : Same (upd H4 x (.ins B dx (barF nm t1 t2))) (upd (upd (upd H4 x (.ins B dx (barF nm t1 t2))) g (.lst [])) h (.lst [])) := (Same.upd hg).trans (Same.upd hh)
    have S57 := S5.trans S7
    have e0 : cs ++ ([] : List Tri) = cs := List.append_nil cs
    refine ⟨nm, t1, t2, g, h, ps, qs, [], vars, cs, [], [], rfl, SqT.of (S7 _ _ h15), hv.same S57, SqT.of (S7 _ _ h25), hc.same S57, SqL.of (Same.upd hh _ _ upd_same), True.intro, SqL.of upd_same, ok, by rw [e0]; exact hz, ?_⟩
    rw [e0]
    refine k.toN S57 fun hn H8 hS8 => ?_
    unfold DueM at k
    rw [hn] at k
    exact k H8 (S57.trans hS8) t1 t2 (hS8 _ _ (S7 _ _ hx5)) (hS8 _ _ (S7 _ _ h15)) (hS8 _ _ (S7 _ _ h25))
end
end Wm
namespace Wm
open PySem L2
/-- str(o), o an instance of the class at C, whose __str__ is the def at f -/
def rStrO (C : Addr) (sp : Sp) : List V → Hp → VK → Prop := fun xs H Q => ∃ (a dx : Addr) (fs : List (Str × V)), xs = [.ref a] ∧ H a = some (.ins C dx fs) ∧ sp [.ref a] H (fun v H' => ∃ z : Str, v = .str z ∧ Q (.str z) H') E0
theorem call_strO {X : Cx} {C f : Addr} {fd : FuncData} {k : Nat} {sp : Sp} (hs : PySem.W.findIn X.K (.ref C) "__str__" = some (some (.ref f))) (hf : PySem.W.isFn X.K (.ref f) = true) (F : FnOk X.prog X.w X.K X.mg X.base CX0 k f fd ["self"] sp) (hr : Room (k + 2) X.A) (hb : Binds X.K fd ["self"] []) :
    CallR X (.type "str") (rStrO C sp) := by
  intro pins s σ H xs us Q I r h
  obtain ⟨a, dx, fs, rfl, ha, h⟩ := h
  cases r with
  | cons rx rr =>
    cases rr
    cases rx
    obtain ⟨mA, ob, _⟩ := ins_get I.hok ha
    obtain ⟨od, J, _⟩ := ob.look
    have hr1 : Room (k + 1) X.A.in1 := hr.in1
    have hr2 : Room k X.A.in1.in1 := hr1.in1
    refine PySem.W.kso_call hr2.units0 I.kIn J hs hf ?_
    have hl : ([Value.ref a] ++ []).length = (["self"] : List Str).length := rfl
    have rv : Vals [V.ref a] [Value.ref a] := .cons rfl .nil
    refine wpAny_call (codeAny_mono (F.run X.A.in1.in1 X.stack s H ⟨[Value.ref a], []⟩ [Value.ref a] [V.ref a] _ E0 hr2 I.env0.in1.in1 (hb s [Value.ref a] I.kIn hl) rv h) fun r s' hq => ?_)
    cases r with
    | error e => exact hq.elim
    | ok fl =>
      cases fl with
      | ret u =>
        obtain ⟨v, H', J', ru, z, rfl, q⟩ := I.after (Q := fun v H' => ∃ z : Str, v = .str z ∧ Q (.str z) H') hq
        obtain ⟨t, rfl⟩ := ru
        exact ⟨.str z, H', J', ⟨t, rfl⟩, q⟩
      | next => exact False.elim hq
      | brk => exact False.elim hq
      | cont => exact False.elim hq
end Wm
namespace Wm
open PySem L2 PySem.W
/-- a == b, a an instance of the class at C, whose __eq__ is the def at f -/
def rEqO (K : Frag) (C : Addr) (sp : Sp) : V → V → Hp → VK → Prop := fun x y H Q => ∃ (a b D dx dy : Addr) (fs gs : List (Str × V)), x = .ref a ∧ y = .ref b ∧ H a = some (.ins C dx fs) ∧ H b = some (.ins D dy gs) ∧ notFirst K C (.ref D) = true ∧
  sp [.ref a, .ref b] H (fun v H' => ∃ t : Bool, v = .bl t ∧ Q (.bl t) H') E0
theorem op_eqO {X : Cx} {C f : Addr} {fd : FuncData} {k : Nat} {sp : Sp} {ps : List Str} (hs : findIn X.K (.ref C) "__eq__" = some (some (.ref f))) (hf : isFn X.K (.ref f) = true) (F : FnOk X.prog X.w X.K X.mg X.base CX0 k f fd ps sp) (hr : Room k X.A) (hb : L2.Binds X.K fd ps []) :
    OpR X (compareOp .Eq) (rEqO X.K C sp) := by
  intro pins s σ H x y v u Q I rx ry h
  obtain ⟨a, b, D, dx, dy, fs, gs, rfl, rfl, ha, hb', nf, h⟩ := h
  cases rx
  cases ry
  obtain ⟨mA, oa, _⟩ := ins_get I.hok ha
  obtain ⟨mB, ob, _⟩ := ins_get I.hok hb'
  obtain ⟨od, J, _⟩ := oa.look
  obtain ⟨od', J', _⟩ := ob.look
  obtain ⟨m, hF⟩ := I.fr
  show wpAny _ _ (richCompare .Eq (.ref a) (.ref b)) _ _ _
  refine cmp_K hr.units0 hF I.ok.mod.kin J (InstAt.type J') nf hs hf ?_
  have rv : Vals [V.ref a, V.ref b] [Value.ref a, Value.ref b] := .cons rfl (.cons rfl .nil)
  have hl : ([Value.ref a, Value.ref b] ++ []).length = ps.length := F.len _ _ _ _ h
  have bd := hb s [Value.ref a, Value.ref b] I.kIn hl
  rw [List.append_nil] at bd
  refine wpAny_call (codeAny_mono (F.run X.A X.stack s H ⟨[Value.ref a, Value.ref b], []⟩ [Value.ref a, Value.ref b] [V.ref a, V.ref b] _ E0 hr I.env0 bd rv h) fun r s' hq => ?_)
  cases r with
  | error e => exact hq.elim
  | ok fl =>
    cases fl with
    | next => exact hq.elim
    | brk => exact hq.elim
    | cont => exact hq.elim
    | ret u =>
      obtain ⟨v, H', I2, rv, t, rfl, q⟩ := I.after hq
      cases rv
      exact ⟨.bl t, H', I2, rfl, q⟩
/-- the class at C has its own __eq__, at f, and no __ne__ -/
structure EqNe (K : Frag) (C f : Addr) : Prop where
  ex : ∃ nm q N bs hdct sn sub ab col dd k0 k1 k2 k3 k5 newId oc od es ep osl of, K.lookup C = some (excClassObj nm q C N bs [.type "object"] hdct sn sub ab col dd k0 k1 k2 k3 k5 newId) ∧
    K.lookup N = some ⟨oc, od, .dict es ep, osl⟩ ∧ StrKeys es ∧ nsFind es "__eq__" = some (.ref f) ∧ nsFind es "__ne__" = none ∧ K.lookup f = some of ∧ of.cls = .type "function"
theorem EqNe.at {K : Frag} {C f x dx : Addr} (e : EqNe K C f) {h : Heap} (X : K.In h) (hx : h.get? x = some (instObj C dx)) : h.OwnEqNoNe x C f "object" [.type "object"] := by
  obtain ⟨nm, q, N, bs, hdct, sn, sub, ab, col, dd, k0, k1, k2, k3, k5, newId, oc, od, es, ep, osl, of, h1, h2, h3, h4, h5, h6, h7⟩ := e.ex
  exact ⟨_, of, nm, q, N, bs, hdct, sn, sub, ab, col, dd, k0, k1, k2, k3, k5, newId, nsFind es, _, hx, rfl, X C _ h1, ⟨_, es, ep, X N _ h2, rfl, h3, fun _ => rfl⟩, h4, X f _ h6, h7, PySem.F.cmp_object.mro, PySem.F.cmp_object.eq.lookup, h5⟩
def rNeO (C : Addr) (sp : Sp) : V → V → Hp → VK → Prop := fun x y H Q => ∃ (a b dx dy : Addr) (fs gs : List (Str × V)), x = .ref a ∧ y = .ref b ∧ H a = some (.ins C dx fs) ∧ H b = some (.ins C dy gs) ∧
  sp [.ref a, .ref b] H (fun v H' => ∃ t : Bool, v = .bl t ∧ Q (.bl !t) H') E0
theorem op_neO {X : Cx} {C f : Addr} {fd : FuncData} {k : Nat} {sp : Sp} {ps : List Str} (hs : EqNe X.K C f) (F : FnOk X.prog X.w X.K X.mg X.base CX0 k f fd ps sp) (hr : Room (k + 1) X.A) (hb : L2.Binds X.K fd ps []) :
    OpR X (compareOp .NotEq) (rNeO C sp) := by
  intro pins s σ H x y v u Q I rx ry h
  obtain ⟨a, b, dx, dy, fs, gs, rfl, rfl, ha, hb', h⟩ := h
  cases rx
  cases ry
  have oa := (I.hok a _ ha).2.2.2.1
  have ob := (I.hok b _ hb').2.2.2.1
  have hr1 : Room k X.A.in1 := hr.in1
  refine compareOp_ne_ownEq PySem.F.cmp_object (hs.at I.kIn oa) ob rfl ?_ ?_
  · exact hr1.units0
  have rv : Vals [V.ref a, V.ref b] [Value.ref a, Value.ref b] := .cons rfl (.cons rfl .nil)
  have hl : ([Value.ref a, Value.ref b] ++ []).length = ps.length := F.len _ _ _ _ h
  have bd := hb s [Value.ref a, Value.ref b] I.kIn hl
  rw [List.append_nil] at bd
  refine wpAny_call (codeAny_mono (F.run X.A.in1 X.stack s H ⟨[Value.ref a, Value.ref b], []⟩ [Value.ref a, Value.ref b] [V.ref a, V.ref b] _ E0 hr1 I.env0.in1 bd rv h) fun r s' hq => ?_)
  cases r with
  | error e => exact hq.elim
  | ok fl =>
    cases fl with
    | next => exact hq.elim
    | brk => exact hq.elim
    | cont => exact hq.elim
    | ret u =>
      obtain ⟨v, H', I2, rv, t, rfl, q⟩ := I.after (Q := fun v H' => ∃ t : Bool, v = .bl t ∧ Q (.bl !t) H') hq
      cases rv
      exact ⟨t, rfl, .bl !t, H', I2, rfl, q⟩
end Wm
namespace Wm
open PySem L2 StX
def rulF (nm : Str) (t1 t2 t3 : Addr) (by_ : Str) : List (Str × V) := putF "by" (.str by_) (putF "gives" (.ref t3) (barF nm t1 t2))
theorem nr1 : ¬ (("gives" : Str) = "by") := by decide +kernel
theorem nr2 : ¬ (("name" : Str) = "by") := by decide +kernel
theorem nr3 : ¬ (("name" : Str) = "gives") := by decide +kernel
theorem nr4 : ¬ (("variables" : Str) = "by") := by decide +kernel
theorem nr5 : ¬ (("variables" : Str) = "gives") := by decide +kernel
theorem nr6 : ¬ (("conditions" : Str) = "by") := by decide +kernel
theorem nr7 : ¬ (("conditions" : Str) = "gives") := by decide +kernel
theorem rulF_name (nm : Str) (t1 t2 t3 : Addr) (b : Str) : (rulF nm t1 t2 t3 b).lookup ("name" : Str) = some (.str nm) := by
  unfold rulF
  rw [lookup_putF, if_neg nr2, lookup_putF, if_neg nr3]
  exact barF_name _ _ _
theorem rulF_vars (nm : Str) (t1 t2 t3 : Addr) (b : Str) : (rulF nm t1 t2 t3 b).lookup ("variables" : Str) = some (.ref t1) := by
  unfold rulF
  rw [lookup_putF, if_neg nr4, lookup_putF, if_neg nr5]
  exact barF_vars _ _ _
theorem rulF_cond (nm : Str) (t1 t2 t3 : Addr) (b : Str) : (rulF nm t1 t2 t3 b).lookup ("conditions" : Str) = some (.ref t2) := by
  unfold rulF
  rw [lookup_putF, if_neg nr6, lookup_putF, if_neg nr7]
  exact barF_cond _ _ _
theorem rulF_gives (nm : Str) (t1 t2 t3 : Addr) (b : Str) : (rulF nm t1 t2 t3 b).lookup ("gives" : Str) = some (.ref t3) := by
  unfold rulF
  rw [lookup_putF, if_neg nr1, lookup_putF, if_pos rfl]
theorem rulF_by (nm : Str) (t1 t2 t3 : Addr) (b : Str) : (rulF nm t1 t2 t3 b).lookup ("by" : Str) = some (.str b) := by
  unfold rulF
  rw [lookup_putF, if_pos rfl]
theorem barF_len (nm : Str) (t1 t2 : Addr) : (barF nm t1 t2).length ≤ 3 := Nat.le_trans (putF_len _ _ _) (Nat.succ_le_succ (Nat.le_trans (putF_len _ _ _) (Nat.succ_le_succ (putF_len _ _ _))))
structure TxRul (K : PySem.W.Frag) (mg : Str → Option Value) (B fB : Addr) : Prop where
  cl : Cls K B
  nn : NoAttr K B "name"
  nv : NoAttr K B "variables"
  nc : NoAttr K B "conditions"
  ng : NoAttr K B "gives"
  nb : NoAttr K B "by"
  g : mg "Rule" = some (.ref B)
  m : Mk K B fB
def spRul (K : PySem.W.Frag) (C B : Addr) : Sp := fun vs H Q E => ∃ (H0 : Hp) (x dx l1 l2 g : Addr) (nm b : Str) (ps qs : List Addr) (vars : List Var) (cs : List Tri) (gt : Tri), vs = [.ref x, .str nm, .ref l1, .ref l2, .ref g, .str b] ∧ Same H0 H ∧ H0 x = none ∧ H x = some (.ins B dx []) ∧
  SqL K H0 l1 (ps.map V.ref) ∧ RowsAt K H0 ps (vars.map varV) ∧ SqL K H0 l2 (qs.map V.ref) ∧ RowsAt K H0 qs (cs.map triV) ∧ H0 g = some (.tup (triV gt)) ∧ PatOk vars cs [gt] [b] ∧ (∀ z ∈ textsL nm vars (cs ++ [gt]), z.length ≤ 1000) ∧
  DueM C (textsL nm vars (cs ++ [gt])) H0 (fun H' => ∀ t1 t2, H' x = some (.ins B dx (rulF nm t1 t2 g b)) → H' t1 = some (.tup (ps.map V.ref)) → H' t2 = some (.tup (qs.map V.ref)) → Q .non H') E
section
variable {P : Program} {w : World} {K : PySem.W.Frag} {mg : Str → Option Value} {base : Heap}
theorem scRul : FnScope ["self", "name", "variables", "conditions", "gives", "by"] ["self", "name", "variables", "conditions", "gives", "by"] (defScope sRul) := ⟨rfl, rfl, rfl, by decide +kernel, rfl, by decide +kernel, by decide +kernel⟩
theorem ok_rul {f fTT fCP C B : Addr} {fd dTT dCP : FuncData} (F : Fun K "__init__" "Rule.__init__" sRul f fd) (T : TxB mg) (TB : TxRul K mg B f) (TT : Dn K mg "tuple_of_tuples" sTT ["rows"] fTT dTT)
    (CP : Dn K mg "check_pattern" sCP ["name", "variables", "conditions", "given", "hands"] fCP dCP) (GCP : FnOk P w K mg base (L2.CX P w) 5 fCP dCP ["name", "variables", "conditions", "given", "hands"] (spCP K C)) :
    FnOk P w K mg base (L2.CX P w) 6 f fd ["self", "name", "variables", "conditions", "gives", "by"] (spRul K C B) := by
  have GTT : FnOk P w K mg base CX0 1 fTT dTT _ (spTT K) := ok_tt TT.F T
  refine F.okX scRul (fun vs H Q E h => ?_) (fun cdv A outer s H vs Q E hr h => ?_)
  · obtain ⟨H0, x, dx, l1, l2, g, nm, b, ps, qs, vars, cs, gt, rfl, _⟩ := h
    rfl
  · obtain ⟨H0, x, dx, l1, l2, g, nm, b, ps, qs, vars, cs, gt, rfl, S0, x0, hx, h1, hv, h2, hc, hg, ok, hz, k⟩ := h
    have hr1 : Room 1 _ := hr.mono (by decide)
    have b1 := hv.len
    have b2 := hc.len
    rw [List.length_map] at b1 b2
    have o1 := ok.v4
    have o2 := ok.c3
    have ngx : g ≠ x := ne_of_none hg x0
    refine ⟨_, (pss_cons (ps_fld (pv 0) (pv 1) rfl)
      (pss_cons (ps_fld (pv 0) (pe_call GTT hr1 rfl TT.g TT.F.kp TT.b .nil pass0 (pa_cons (pv 2) pa_nil)) rfl)
      (pss_cons (ps_fld (pv 0) (pe_call GTT hr1 rfl TT.g TT.F.kp TT.b .nil pass0 (pa_cons (pv 3) pa_nil)) rfl)
      (pss_cons (ps_fld (pv 0) (pe_callTy call_tupN (by rfl) T.tuple (by decide +kernel) (pa_cons (pv 4) pa_nil)) rfl)
      (pss_cons (ps_fld (pv 0) (pv 5) rfl)
      (pss_one (ps_expr (pe_call GCP hr rfl CP.g CP.F.kp CP.b .nil (passes_call (takes_of rfl rfl rfl rfl) (fun _ _ _ _ h => h)) (pa_cons (pv 1) (pa_cons (pe_fld (pv 0) rfl) (pa_cons (pe_fld (pv 0) rfl) (pa_cons (pe_lst (pa_cons (pe_fld (pv 0) rfl) pa_nil)) (pa_cons (pe_lst (pa_cons (pv 5) pa_nil)) pa_nil))))))))))))), ?_⟩
    have Sx : ∀ {H1 : Hp} {o : HO}, Same H0 H1 → Same H0 (upd H1 x o) := fun hs b o e => by
      rw [upd_ne (ne_of_none e x0)]
      exact hs b o e
    refine ⟨_, rfl, _, rfl, x, B, dx, [], rfl, hx, TB.cl, TB.nn, (by show 0 < 1000; decide), ?_⟩
    have S1 := Sx (o := .ins B dx (putF "name" (.str nm) [])) S0
    refine ⟨_, rfl, l1, ps, _, rfl, S1.seq h1, hv.same S1, by omega, fun t1 H2 ht1 hS2 hl1 => ?_⟩
    have S2 := S1.trans hS2
    have hx2 := hS2 _ _ (upd_same (H := H) (a := x) (o := .ins B dx (putF "name" (.str nm) [])))
    have n1x : t1 ≠ x := fun z => by
      rw [z, upd_same] at ht1
      cases ht1
    refine ⟨_, rfl, x, B, dx, _, rfl, hx2, TB.cl, TB.nv, Nat.lt_of_le_of_lt (putF_len _ _ _) (by decide), ?_⟩
    have S3 := Sx (o := .ins B dx (putF "variables" (.ref t1) (putF "name" (.str nm) []))) S2
    refine ⟨_, rfl, l2, qs, _, rfl, S3.seq h2, hc.same S3, by omega, fun t2 H4 ht2 hS4 hl2 => ?_⟩
    have S4 := S3.trans hS4
    have hx4 := hS4 _ _ (upd_same (H := H2) (a := x) (o := .ins B dx (putF "variables" (.ref t1) (putF "name" (.str nm) []))))
    have hl1' := hS4 t1 _ (by rw [upd_ne n1x]; exact hl1)
    have n2x : t2 ≠ x := fun z => by
      rw [z, upd_same] at ht2
      cases ht2
    refine ⟨_, rfl, x, B, dx, _, rfl, hx4, TB.cl, TB.nc, Nat.lt_of_le_of_lt (putF_len _ _ _) (Nat.lt_of_le_of_lt (Nat.succ_le_succ (putF_len _ _ _)) (by decide)), ?_⟩
    have S5 := Sx (o := .ins B dx (barF nm t1 t2)) S4
    -- self.gives = tuple(gives); self.by = by
    refine ⟨_, rfl, g, _, rfl, .inr ⟨SqT.of (S5 _ _ hg), ?_⟩⟩
    refine ⟨_, rfl, x, B, dx, _, rfl, upd_same, TB.cl, TB.ng, Nat.lt_of_le_of_lt (barF_len nm t1 t2) (by decide), ?_⟩
    refine ⟨_, rfl, _, rfl, x, B, dx, _, rfl, upd_same, TB.cl, TB.nb, Nat.lt_of_le_of_lt (Nat.le_trans (putF_len _ _ _) (Nat.succ_le_succ (barF_len nm t1 t2))) (by decide), ?_⟩
    rw [upd_upd, upd_upd]
    show _
    generalize hH6 : upd H4 x (.ins B dx (putF "by" (.str b) (putF "gives" (.ref g) (putF "conditions" (.ref t2) (putF "variables" (.ref t1) (putF "name" (.str nm) [])))))) = H6
    have S6 : Same H0 H6 := by
      rw [← hH6]
      exact Sx S4
    have hx6 : H6 x = some (.ins B dx (rulF nm t1 t2 g b)) := by rw [← hH6, upd_same]; rfl
    have h16 : H6 t1 = some (.tup (ps.map V.ref)) := by rw [← hH6, upd_ne n1x]; exact hl1'
    have h26 : H6 t2 = some (.tup (qs.map V.ref)) := by rw [← hH6, upd_ne n2x]; exact hl2
    -- check_pattern(name, self.variables, self.conditions, [self.gives], [by])
    refine ⟨_, rfl, _, rfl, x, B, dx, _, _, rfl, hx6, TB.cl, TB.nv, rulF_vars _ _ _ _ _, _, rfl, x, B, dx, _, _, rfl, hx6, TB.cl, TB.nc, rulF_cond _ _ _ _ _, _, rfl, x, B, dx, _, _, rfl, hx6, TB.cl, TB.ng, rulF_gives _ _ _ _ _, by show 1 ≤ sizeLine; decide, fun gl hgl => ⟨_, rfl, by show 1 ≤ sizeLine; decide, fun h hh => ?_⟩⟩
    have S7 : Same H6 (upd (upd H6 gl (.lst [.ref g])) h (.lst [.str b])) := (Same.upd hgl).trans (Same.upd hh)
    have S67 := S6.trans S7
    refine ⟨nm, t1, t2, gl, h, ps, qs, [g], vars, cs, [gt], [b], rfl, SqT.of (S7 _ _ h16), hv.same S67, SqT.of (S7 _ _ h26), hc.same S67, SqL.of (Same.upd hh _ _ upd_same), ⟨SqT.of (S67 _ _ hg), True.intro⟩, SqL.of upd_same, ok, hz, ?_⟩
    refine k.toN S67 fun hn H8 hS8 => ?_
    unfold DueM at k
    rw [hn] at k
    exact k H8 (S67.trans hS8) t1 t2 (hS8 _ _ (S7 _ _ hx6)) (hS8 _ _ (S7 _ _ h16)) (hS8 _ _ (S7 _ _ h26))
end
end Wm
namespace Wm
open PySem L2 StX
def sortD : Option Str → PyData
  | none => .none
  | some s => .str s
def varD (v : Var) : List PyData := [.str v.1, sortD v.2]
def triD (t : Tri) : List PyData := [.str t.1, .str t.2.1, .str t.2.2]
def rowsD (rs : List (List PyData)) : PyData := .tuple (rs.map PyData.tuple)
theorem dp_var {K : PySem.W.Frag} {H : Hp} (v : Var) : DpAll K H (varV v) (varD v) := by
  obtain ⟨n, s⟩ := v
  cases s with
  | none => exact .cons (.str _) (.cons .non .nil)
  | some s => exact .cons (.str _) (.cons (.str _) .nil)
theorem dp_tri {K : PySem.W.Frag} {H : Hp} (t : Tri) : DpAll K H (triV t) (triD t) := .cons (.str _) (.cons (.str _) (.cons (.str _) .nil))
theorem dp_rows {K : PySem.W.Frag} {H : Hp} {α : Type} {f : α → List V} {g : α → List PyData} (h : ∀ a, DpAll K H (f a) (g a)) : ∀ {ps : List Addr} {xs : List α}, RowsAt K H ps (xs.map f) → DpAll K H (ps.map V.ref) ((xs.map g).map PyData.tuple)
  | [], [], _ => .nil
  | _ :: _, x :: _, r => .cons (.tup r.1 (h x)) (dp_rows h r.2)
  | [], _ :: _, r => r.elim
  | _ :: _, [], r => r.elim
/-- the parts that rules and bars have alike, as they stand at t1 and t2 -/
structure RowsD (K : PySem.W.Frag) (H : Hp) (t1 t2 : Addr) (vars : List Var) (cs : List Tri) : Prop where
  ex : ∃ ps qs : List Addr, SqT K H t1 (ps.map V.ref) ∧ RowsAt K H ps (vars.map varV) ∧ SqT K H t2 (qs.map V.ref) ∧ RowsAt K H qs (cs.map triV)
  s1 : SeqAt.shaped (rowsD (vars.map varD)) = true
  s2 : SeqAt.shaped (rowsD (cs.map triD)) = true
theorem RowsD.d1 {K : PySem.W.Frag} {H : Hp} {t1 t2 : Addr} {vars : List Var} {cs : List Tri} (h : RowsD K H t1 t2 vars cs) : Dp K H (.ref t1) (rowsD (vars.map varD)) := by
  obtain ⟨ps, qs, a, b, _⟩ := h.ex
  exact .tup a (dp_rows dp_var b)
theorem RowsD.d2 {K : PySem.W.Frag} {H : Hp} {t1 t2 : Addr} {vars : List Var} {cs : List Tri} (h : RowsD K H t1 t2 vars cs) : Dp K H (.ref t2) (rowsD (cs.map triD)) := by
  obtain ⟨ps, qs, _, _, a, b⟩ := h.ex
  exact .tup a (dp_rows dp_tri b)
def sameB (nm : Str) (vars : List Var) (cs : List Tri) (nm' : Str) (vars' : List Var) (cs' : List Tri) : Bool := decide (nm = nm') && (PyData.eqv (rowsD (vars.map varD)) (rowsD (vars'.map varD)) && PyData.eqv (rowsD (cs.map triD)) (rowsD (cs'.map triD)))
def spBE (K : PySem.W.Frag) (B : Addr) : Sp := fun vs H Q _ => ∃ (x y : Addr), vs = [.ref x, .ref y] ∧
  ((∃ (dx dy t1 t2 s1 s2 : Addr) (nm nm' : Str) (vars vars' : List Var) (cs cs' : List Tri), H x = some (.ins B dx (barF nm t1 t2)) ∧ H y = some (.ins B dy (barF nm' s1 s2)) ∧ TyX K H (.ref y) (.ref B) ∧ RowsD K H t1 t2 vars cs ∧ RowsD K H s1 s2 vars' cs' ∧ Q (.bl (sameB nm vars cs nm' vars' cs')) H) ∨
   (∃ D, TyX K H (.ref y) (.ref D) ∧ PySem.W.kitOne K (.ref D) (.ref B) = some false ∧ Q (.bl false) H))
def sameR (nm : Str) (vars : List Var) (cs : List Tri) (g : Tri) (b : Str) (nm' : Str) (vars' : List Var) (cs' : List Tri) (g' : Tri) (b' : Str) : Bool := decide (nm = nm') && (PyData.eqv (rowsD (vars.map varD)) (rowsD (vars'.map varD)) && (PyData.eqv (rowsD (cs.map triD)) (rowsD (cs'.map triD)) && (PyData.eqv (.tuple (triD g)) (.tuple (triD g')) && decide (b = b'))))
def spRE (K : PySem.W.Frag) (B : Addr) : Sp := fun vs H Q _ => ∃ (x y : Addr), vs = [.ref x, .ref y] ∧
  ((∃ (dx dy t1 t2 t3 s1 s2 s3 : Addr) (nm nm' b b' : Str) (vars vars' : List Var) (cs cs' : List Tri) (g g' : Tri), H x = some (.ins B dx (rulF nm t1 t2 t3 b)) ∧ H y = some (.ins B dy (rulF nm' s1 s2 s3 b')) ∧ TyX K H (.ref y) (.ref B) ∧ RowsD K H t1 t2 vars cs ∧ RowsD K H s1 s2 vars' cs' ∧ SqT K H t3 (triV g) ∧ SqT K H s3 (triV g') ∧
      SeqAt.shaped (.tuple (triD g)) = true ∧ SeqAt.shaped (.tuple (triD g')) = true ∧ Q (.bl (sameR nm vars cs g b nm' vars' cs' g' b')) H) ∨
   (∃ D, TyX K H (.ref y) (.ref D) ∧ PySem.W.kitOne K (.ref D) (.ref B) = some false ∧ Q (.bl false) H))
section
variable {P : Program} {w : World} {K : PySem.W.Frag} {mg : Str → Option Value} {base : Heap}
theorem scBE : FnScope ["self", "other"] ["self", "other"] (defScope sBE) := ⟨rfl, rfl, rfl, by decide +kernel, rfl, by decide +kernel, by decide +kernel⟩
theorem ok_be {f fB B : Addr} {fd : FuncData} (F : Fun K "__eq__" "Bar.__eq__" sBE f fd) (T : TxB mg) (TB : TxBar K mg B fB) (kk : PySem.W.kitOne K (.ref B) (.ref B) = some true) : FnOk P w K mg base CX0 1 f fd ["self", "other"] (spBE K B) := by
  refine F.ok scBE (fun vs H Q E h => ?_) (fun cdv A outer s H vs Q E hr h => ?_)
  · obtain ⟨x, y, rfl, _⟩ := h
    rfl
  · obtain ⟨x, y, rfl, h⟩ := h
    refine ⟨_, (pss_one (ps_ret (pe_and (pe_callB call_isi (by rfl) T.isinstance (by decide +kernel) (pa_cons (pv 1) (pa_cons (pe_glob (v := .ref B) (by rfl) TB.g rfl) pa_nil)))
      (pe_and (pe_cmpR op_eq (pe_fld (pv 0) rfl) (pe_fld (pv 1) rfl) (nomark _))
      (pe_and (pe_cmpR (op_eqD hr.units) (pe_fld (pv 0) rfl) (pe_fld (pv 1) rfl) (nomark _))
      (pe_one (pe_cmpR (op_eqD hr.units) (pe_fld (pv 0) rfl) (pe_fld (pv 1) rfl) (nomark _)))))))), ?_⟩
    refine ⟨_, rfl, ?_⟩
    rcases h with ⟨dx, dy, t1, t2, s1, s2, nm, nm', vars, vars', cs, cs', hx, hy, ty, r, r', q⟩ | ⟨D, ty, kf, q⟩
    · refine ⟨_, _, _, _, _, rfl, .own B, ty, kk, true, rfl, ?_⟩
      refine iteT ?_
      refine ⟨_, rfl, x, B, dx, _, _, rfl, hx, TB.cl, TB.nn, barF_name _ _ _, _, rfl, y, B, dy, _, _, rfl, hy, TB.cl, TB.nn, barF_name _ _ _, rfl, _, rfl, ?_⟩
      unfold sameB at q
      refine ite2 (fun c => ?_) (fun c => ?_)
      rotate_left
      · have e : ¬ nm = nm' := fun e => c (by rw [e]; exact decide_eq_true rfl)
        rw [decide_eq_false e, Bool.false_and] at q
        exact q
      have e1 : nm = nm' := V.str.inj (of_decide_eq_true c)
      rw [decide_eq_true e1, Bool.true_and] at q
      refine ⟨_, rfl, x, B, dx, _, _, rfl, hx, TB.cl, TB.nv, barF_vars _ _ _, _, rfl, y, B, dy, _, _, rfl, hy, TB.cl, TB.nv, barF_vars _ _ _, _, _, r.d1, r'.d1, r.s1, r'.s1, _, rfl, ?_⟩
      refine ite2 (fun c => ?_) (fun c => ?_)
      rotate_left
      · rw [Bool.eq_false_iff.mpr c, Bool.false_and] at q
        exact q
      rw [c, Bool.true_and] at q
      exact ⟨_, rfl, x, B, dx, _, _, rfl, hx, TB.cl, TB.nc, barF_cond _ _ _, _, rfl, y, B, dy, _, _, rfl, hy, TB.cl, TB.nc, barF_cond _ _ _, _, _, r.d2, r'.d2, r.s2, r'.s2, q⟩
    · refine ⟨_, _, _, _, _, rfl, .own B, ty, kf, false, rfl, ?_⟩
      exact iteF q
theorem scRE : FnScope ["self", "other"] ["self", "other"] (defScope sRE) := ⟨rfl, rfl, rfl, by decide +kernel, rfl, by decide +kernel, by decide +kernel⟩
theorem ok_re {f fB B : Addr} {fd : FuncData} (F : Fun K "__eq__" "Rule.__eq__" sRE f fd) (T : TxB mg) (TB : TxRul K mg B fB) (kk : PySem.W.kitOne K (.ref B) (.ref B) = some true) : FnOk P w K mg base CX0 1 f fd ["self", "other"] (spRE K B) := by
  refine F.ok scRE (fun vs H Q E h => ?_) (fun cdv A outer s H vs Q E hr h => ?_)
  · obtain ⟨x, y, rfl, _⟩ := h
    rfl
  · obtain ⟨x, y, rfl, h⟩ := h
    refine ⟨_, (pss_one (ps_ret (pe_and (pe_callB call_isi (by rfl) T.isinstance (by decide +kernel) (pa_cons (pv 1) (pa_cons (pe_glob (v := .ref B) (by rfl) TB.g rfl) pa_nil)))
      (pe_and (pe_cmpR op_eq (pe_fld (pv 0) rfl) (pe_fld (pv 1) rfl) (nomark _))
      (pe_and (pe_cmpR (op_eqD hr.units) (pe_fld (pv 0) rfl) (pe_fld (pv 1) rfl) (nomark _))
      (pe_and (pe_cmpR (op_eqD hr.units) (pe_fld (pv 0) rfl) (pe_fld (pv 1) rfl) (nomark _))
      (pe_and (pe_cmpR (op_eqD hr.units) (pe_fld (pv 0) rfl) (pe_fld (pv 1) rfl) (nomark _))
      (pe_one (pe_cmpR op_eq (pe_fld (pv 0) rfl) (pe_fld (pv 1) rfl) (nomark _)))))))))), ?_⟩
    refine ⟨_, rfl, ?_⟩
    rcases h with ⟨dx, dy, t1, t2, t3, s1, s2, s3, nm, nm', b, b', vars, vars', cs, cs', g, g', hx, hy, ty, r, r', h3, h3', sg, sg', q⟩ | ⟨D, ty, kf, q⟩
    · refine ⟨_, _, _, _, _, rfl, .own B, ty, kk, true, rfl, ?_⟩
      refine iteT ?_
      refine ⟨_, rfl, x, B, dx, _, _, rfl, hx, TB.cl, TB.nn, rulF_name _ _ _ _ _, _, rfl, y, B, dy, _, _, rfl, hy, TB.cl, TB.nn, rulF_name _ _ _ _ _, rfl, _, rfl, ?_⟩
      unfold sameR at q
      refine ite2 (fun c => ?_) (fun c => ?_)
      rotate_left
      · have e : ¬ nm = nm' := fun e => c (by rw [e]; exact decide_eq_true rfl)
        rw [decide_eq_false e, Bool.false_and] at q
        exact q
      have e1 : nm = nm' := V.str.inj (of_decide_eq_true c)
      rw [decide_eq_true e1, Bool.true_and] at q
      refine ⟨_, rfl, x, B, dx, _, _, rfl, hx, TB.cl, TB.nv, rulF_vars _ _ _ _ _, _, rfl, y, B, dy, _, _, rfl, hy, TB.cl, TB.nv, rulF_vars _ _ _ _ _, _, _, r.d1, r'.d1, r.s1, r'.s1, _, rfl, ?_⟩
      refine ite2 (fun c => ?_) (fun c => ?_)
      rotate_left
      · rw [Bool.eq_false_iff.mpr c, Bool.false_and] at q
        exact q
      rw [c, Bool.true_and] at q
      refine ⟨_, rfl, x, B, dx, _, _, rfl, hx, TB.cl, TB.nc, rulF_cond _ _ _ _ _, _, rfl, y, B, dy, _, _, rfl, hy, TB.cl, TB.nc, rulF_cond _ _ _ _ _, _, _, r.d2, r'.d2, r.s2, r'.s2, _, rfl, ?_⟩
      refine ite2 (fun c => ?_) (fun c => ?_)
      rotate_left
      · rw [Bool.eq_false_iff.mpr c, Bool.false_and] at q
        exact q
      rw [c, Bool.true_and] at q
      refine ⟨_, rfl, x, B, dx, _, _, rfl, hx, TB.cl, TB.ng, rulF_gives _ _ _ _ _, _, rfl, y, B, dy, _, _, rfl, hy, TB.cl, TB.ng, rulF_gives _ _ _ _ _, _, _, .tup h3 (dp_tri g), .tup h3' (dp_tri g'), sg, sg', _, rfl, ?_⟩
      refine ite2 (fun c => ?_) (fun c => ?_)
      rotate_left
      · rw [Bool.eq_false_iff.mpr c, Bool.false_and] at q
        exact q
      rw [c, Bool.true_and] at q
      refine ⟨_, rfl, x, B, dx, _, _, rfl, hx, TB.cl, TB.nb, rulF_by _ _ _ _ _, _, rfl, y, B, dy, _, _, rfl, hy, TB.cl, TB.nb, rulF_by _ _ _ _ _, rfl, ?_⟩
      have eb : decide (V.str b = V.str b') = decide (b = b') := decide_eq_decide.mpr ⟨V.str.inj, fun e => by rw [e]⟩
      rw [eb]
      exact q
    · refine ⟨_, _, _, _, _, rfl, .own B, ty, kf, false, rfl, ?_⟩
      exact iteF q
end
end Wm
/-! names as the laws draw them: texts of at most six signs -/
namespace Wm
open PySem L2
def lowC (c : Nat) : Prop := 97 ≤ c ∧ c ≤ 122
def figC (c : Nat) : Prop := 48 ≤ c ∧ c ≤ 57
/-- a text of small letters and figures, the first a letter -/
def NmP (z : Str) : Prop := ∃ c cs, z.cps.toList = c :: cs ∧ lowC c ∧ ∀ d ∈ cs, lowC d ∨ figC d
theorem toList_app (a b : Str) : (a ++ b).cps.toList = a.cps.toList ++ b.cps.toList := by
  show (a.cps ++ b.cps).toList = _
  simp
theorem NmP.app {a b : Str} (h : NmP a) (hb : ∀ d ∈ b.cps.toList, lowC d ∨ figC d) : NmP (a ++ b) := by
  obtain ⟨c, cs, e, l, r⟩ := h
  refine ⟨c, cs ++ b.cps.toList, by rw [toList_app, e]; rfl, l, fun d hd => ?_⟩
  rcases List.mem_append.mp hd with h | h
  · exact r d h
  · exact hb d h
theorem NmP.one {c : Nat} (h : lowC c) : NmP ⟨#[c]⟩ := ⟨c, [], rfl, h, fun _ z => nomatch z⟩
theorem NmP.ok {z : Str} (h : NmP z) : ∀ c ∈ z.cps.toList, c < 1114112 := by
  obtain ⟨c, cs, e, l, r⟩ := h
  intro d hd
  rw [e] at hd
  rcases List.mem_cons.mp hd with h | h
  · rw [h]
    exact Nat.lt_of_le_of_lt l.2 (by decide)
  · rcases r d h with q | q
    · exact Nat.lt_of_le_of_lt q.2 (by decide)
    · exact Nat.lt_of_le_of_lt q.2 (by decide)
def ABC36 : Str := PySem.Str.ofString "abcdefghijklmnopqrstuvwxyz0123456789"
theorem abc36_len : ABC36.length = 36 := by decide +kernel
theorem abc_low {i : Nat} {c : Nat} (hi : i < 26) (h : ABC36.cps.toList[i]? = some c) : lowC c := by
  have q : ∀ j : Fin 26, ∀ d ∈ ABC36.cps.toList[j.1]?, 97 ≤ d ∧ d ≤ 122 := by decide +kernel
  exact q ⟨i, hi⟩ c (by rw [h]; exact rfl)
theorem abc_any {i : Nat} {c : Nat} (h : ABC36.cps.toList[i]? = some c) : lowC c ∨ figC c := by
  have q : ∀ d ∈ ABC36.cps.toList, (97 ≤ d ∧ d ≤ 122) ∨ (48 ≤ d ∧ d ≤ 57) := by decide +kernel
  exact q c (List.mem_of_getElem? h)
/-- the text of a number -/
def numS (n : Nat) : Str := PySem.Str.ofString (toString (n : Int))
def numB (n : Nat) : Bool := (numS n).cps.toList.all (fun d => decide (48 ≤ d ∧ d ≤ 57)) && (decide ((numS n).length ≤ 2) && decide (1 ≤ (numS n).length))
theorem num_all : ∀ n : Fin 70, numB n.1 = true := by decide +kernel
theorem num_inj0 : ∀ n m : Fin 70, (numS n.1).cps.toList = (numS m.1).cps.toList → n = m := by decide +kernel
theorem num_sign {n : Nat} (h : n < 70) : (∀ d ∈ (numS n).cps.toList, lowC d ∨ figC d) ∧ (numS n).length ≤ 2 ∧ 1 ≤ (numS n).length := by
  obtain ⟨a, b⟩ := Bool.and_eq_true_iff.mp (num_all ⟨n, h⟩)
  obtain ⟨b, c⟩ := Bool.and_eq_true_iff.mp b
  refine ⟨fun d hd => .inr ?_, of_decide_eq_true b, of_decide_eq_true c⟩
  have q := List.all_eq_true.mp a d hd
  exact of_decide_eq_true (p := 48 ≤ d ∧ d ≤ 57) q
theorem num_inj {n m : Nat} (hn : n < 70) (hm : m < 70) (h : numS n = numS m) : n = m := congrArg Fin.val (num_inj0 ⟨n, hn⟩ ⟨m, hm⟩ (by rw [h]))
/-- the tries for a name: the word, then the word with 1, 2 .. -/
def tryS (z : Str) : Nat → Str
  | 0 => z
  | n + 1 => z ++ numS (n + 1)
theorem app_inj {a b c : Str} (h : a ++ b = a ++ c) : b = c := by
  have e := congrArg (fun z : Str => z.cps.toList) h
  simp only [toList_app] at e
  have q := List.append_cancel_left e
  cases b; cases c
  simp only at q
  congr
  exact Array.toList_inj.mp q
theorem try_inj {z : Str} {n m : Nat} (hn : n < 70) (hm : m < 70) (h : tryS z n = tryS z m) : n = m := by
  have key : ∀ k, k + 1 < 70 → z ≠ z ++ numS (k + 1) := fun k hk e => by
    have l := congrArg (fun z : Str => z.cps.toList.length) e
    simp only [toList_app, List.length_append] at l
    have q := (num_sign hk).2.2
    have q' : 1 ≤ (numS (k + 1)).cps.toList.length := by simpa [PySem.Str.length] using q
    omega
  cases n with
  | zero =>
    cases m with
    | zero => rfl
    | succ m => exact (key m hm h).elim
  | succ n =>
    cases m with
    | zero => exact (key n hn h.symm).elim
    | succ m => exact num_inj hn hm (app_inj h)
theorem holes {α : Type} [BEq α] [LawfulBEq α] {f : Nat → α} : ∀ {n : Nat} {l : List α}, (∀ i j, i < n → j < n → f i = f j → i = j) → (∀ i, i < n → f i ∈ l) → n ≤ l.length
  | 0, _, _, _ => Nat.zero_le _
  | n + 1, l, inj, h => by
    have hm := h n (Nat.lt_succ_self n)
    have q := holes (n := n) (l := l.erase (f n)) (fun i j hi hj => inj i j (by omega) (by omega)) (fun i hi => by
      refine (List.mem_erase_of_ne fun e => ?_).mpr (h i (by omega))
      have := inj i n (by omega) (by omega) e
      omega)
    rw [List.length_erase_of_mem hm] at q
    have := List.length_pos_of_mem hm
    omega
theorem try_end {z : Str} {taken : List Str} {n : Nat} (ht : taken.length ≤ 60) (h : ∀ i, i < n → tryS z i ∈ taken) (hn : n ≤ 61) : n ≤ taken.length :=
  holes (f := tryS z) (fun i j hi hj e => try_inj (by omega) (by omega) e) h
theorem inV_strs {z : Str} {ns : List Str} : inV (.str z) (ns.map V.str) = decide (z ∈ ns) := by
  unfold inV
  rw [List.any_map]
  induction ns with
  | nil => simp
  | cons a r ih =>
    rw [List.any_cons, ih]
    have e : eqV (.str a) (.str z) = decide (a = z) := by
      unfold eqV
      by_cases h : a = z
      · simp [h]
      · simp [h]
    show (eqV (.str a) (.str z) || _) = _
    rw [e]
    by_cases h : a = z
    · simp [h]
    · have h' : ¬ z = a := fun x => h x.symm
      simp [h, h']
end Wm
namespace Wm
open PySem L2 StX
def makF (mk md : Str) (t1 t2 : Addr) : List (Str × V) := putF "up" (.ref t2) (putF "down" (.ref t1) (putF "made" (.str md) (putF "maker" (.str mk) [])))
theorem nm1 : ¬ (("maker" : Str) = "up") := by decide +kernel
theorem nm2 : ¬ (("maker" : Str) = "down") := by decide +kernel
theorem nm3 : ¬ (("maker" : Str) = "made") := by decide +kernel
theorem nm4 : ¬ (("made" : Str) = "up") := by decide +kernel
theorem nm5 : ¬ (("made" : Str) = "down") := by decide +kernel
theorem nm6 : ¬ (("down" : Str) = "up") := by decide +kernel
theorem makF_maker (mk md : Str) (t1 t2 : Addr) : (makF mk md t1 t2).lookup ("maker" : Str) = some (.str mk) := by
  unfold makF
  rw [lookup_putF, if_neg nm1, lookup_putF, if_neg nm2, lookup_putF, if_neg nm3, lookup_putF, if_pos rfl]
theorem makF_made (mk md : Str) (t1 t2 : Addr) : (makF mk md t1 t2).lookup ("made" : Str) = some (.str md) := by
  unfold makF
  rw [lookup_putF, if_neg nm4, lookup_putF, if_neg nm5, lookup_putF, if_pos rfl]
theorem makF_down (mk md : Str) (t1 t2 : Addr) : (makF mk md t1 t2).lookup ("down" : Str) = some (.ref t1) := by
  unfold makF
  rw [lookup_putF, if_neg nm6, lookup_putF, if_pos rfl]
theorem makF_up (mk md : Str) (t1 t2 : Addr) : (makF mk md t1 t2).lookup ("up" : Str) = some (.ref t2) := by
  unfold makF
  rw [lookup_putF, if_pos rfl]
structure TxMak (K : PySem.W.Frag) (mg : Str → Option Value) (B fB : Addr) : Prop where
  cl : Cls K B
  nk : NoAttr K B "maker"
  nd : NoAttr K B "made"
  nw : NoAttr K B "down"
  nu : NoAttr K B "up"
  g : mg "Making" = some (.ref B)
  m : Mk K B fB
def spMak (K : PySem.W.Frag) (C B : Addr) : Sp := fun vs H Q E => ∃ (H0 : Hp) (x dx l1 l2 : Addr) (mk md : Str) (ds us : List Str), vs = [.ref x, .str mk, .str md, .ref l1, .ref l2] ∧ Same H0 H ∧ H0 x = none ∧ H x = some (.ins B dx []) ∧
  SqL K H0 l1 (ds.map V.str) ∧ SqL K H0 l2 (us.map V.str) ∧ ds.length ≤ 100 ∧ us.length ≤ 100 ∧ NoTw (ds.map V.str) ∧ NoTw (us.map V.str) ∧ (∀ z ∈ mk :: md :: (ds ++ us), z.length ≤ 1000) ∧
  DueM C (mk :: md :: (ds ++ us)) H0 (fun H' => ∀ t1 t2, H' x = some (.ins B dx (makF mk md t1 t2)) → H' t1 = some (.tup (ds.map V.str)) → H' t2 = some (.tup (us.map V.str)) → Q .non H') E
section
variable {P : Program} {w : World} {K : PySem.W.Frag} {mg : Str → Option Value} {base : Heap}
theorem scMak : FnScope ["self", "maker", "made", "down", "up"] ["self", "maker", "made", "down", "up"] (defScope sMak) := ⟨rfl, rfl, rfl, by decide +kernel, rfl, by decide +kernel, by decide +kernel⟩
theorem ok_mak {f fRN fRT C B : Addr} {fd dRN dRT : FuncData} (F : Fun K "__init__" "Making.__init__" sMak f fd) (T : TxB mg) (TM : TxMak K mg B f) (RN : Dn K mg "refuse_no_name" sRN ["texts"] fRN dRN) (RT : Dn K mg "refuse_twice" sRT ["names"] fRT dRT)
    (GRN : FnOk P w K mg base (L2.CX P w) 4 fRN dRN ["texts"] (spRN K C)) (GRT : FnOk P w K mg base CX0 2 fRT dRT ["names"] (spFT K)) : FnOk P w K mg base (L2.CX P w) 5 f fd ["self", "maker", "made", "down", "up"] (spMak K C B) := by
  refine F.okX scMak (fun vs H Q E h => ?_) (fun cdv A outer s H vs Q E hr h => ?_)
  · obtain ⟨H0, x, dx, l1, l2, mk, md, ds, us, rfl, _⟩ := h
    rfl
  · obtain ⟨H0, x, dx, l1, l2, mk, md, ds, us, rfl, S0, x0, hx, h1, h2, n1, n2, w1, w2, hz, k⟩ := h
    have hr2 : Room 2 _ := hr.mono (by decide)
    have Sx : ∀ {H1 : Hp} {o : HO}, Same H0 H1 → Same H0 (upd H1 x o) := fun hs b o e => by
      rw [upd_ne (ne_of_none e x0)]
      exact hs b o e
    refine ⟨_, (pss_cons (ps_fld (pv 0) (pv 1) rfl)
      (pss_cons (ps_fld (pv 0) (pv 2) rfl)
      (pss_cons (ps_fld (pv 0) (pe_callTy call_tupN (by rfl) T.tuple (by decide +kernel) (pa_cons (pv 3) pa_nil)) rfl)
      (pss_cons (ps_fld (pv 0) (pe_callTy call_tupN (by rfl) T.tuple (by decide +kernel) (pa_cons (pv 4) pa_nil)) rfl)
      (pss_cons (ps_expr (pe_call GRN hr rfl RN.g RN.F.kp RN.b .nil (passes_call (takes_of rfl rfl rfl rfl) (fun _ _ _ _ h => h)) (pa_cons (pe_lst (pa_cons (pv 1) (pa_cons (pv 2) (pa_star (pe_fld (pv 0) rfl) (pa_star (pe_fld (pv 0) rfl) pa_nil))))) pa_nil)))
      (pss_cons (ps_expr (pe_call GRT hr2 rfl RT.g RT.F.kp RT.b .nil pass0 (pa_cons (pe_fld (pv 0) rfl) pa_nil)))
      (pss_one (ps_expr (pe_call GRT hr2 rfl RT.g RT.F.kp RT.b .nil pass0 (pa_cons (pe_fld (pv 0) rfl) pa_nil)))))))))), ?_⟩
    refine ⟨_, rfl, _, rfl, x, B, dx, [], rfl, hx, TM.cl, TM.nk, (by show 0 < 1000; decide), ?_⟩
    have S1 := Sx (o := .ins B dx (putF "maker" (.str mk) [])) S0
    refine ⟨_, rfl, _, rfl, x, B, dx, _, rfl, upd_same, TM.cl, TM.nd, Nat.lt_of_le_of_lt (putF_len _ _ _) (by decide), ?_⟩
    rw [upd_upd]
    have S2 := Sx (o := .ins B dx (putF "made" (.str md) (putF "maker" (.str mk) []))) S0
    have few2 : (putF "made" (.str md) (putF "maker" (.str mk) [])).length ≤ 10 := Nat.le_trans (putF_len _ _ _) (Nat.le_trans (Nat.succ_le_succ (putF_len _ _ _)) (by decide))
    -- self.down = tuple(down)
    refine ⟨_, rfl, l1, _, rfl, .inl ⟨S2.seq h1, fun t1 ht1 => ?_⟩⟩
    have n1x : t1 ≠ x := fun z => by
      rw [z, upd_same] at ht1
      cases ht1
    refine ⟨_, rfl, x, B, dx, _, rfl, Eq.trans (upd_ne n1x.symm) upd_same, TM.cl, TM.nw, Nat.lt_of_le_of_lt few2 (by decide), ?_⟩
    generalize hH3 : upd (upd (upd H x (.ins B dx (putF "made" (.str md) (putF "maker" (.str mk) [])))) t1 (.tup (ds.map V.str))) x (.ins B dx (putF "down" (.ref t1) (putF "made" (.str md) (putF "maker" (.str mk) [])))) = H3
    have S3 : Same H0 H3 := by
      rw [← hH3]
      exact Sx (S2.trans (Same.upd ht1))
    have hx3 : H3 x = some (.ins B dx (putF "down" (.ref t1) (putF "made" (.str md) (putF "maker" (.str mk) [])))) := by rw [← hH3, upd_same]
    have h13 : H3 t1 = some (.tup (ds.map V.str)) := by rw [← hH3, upd_ne n1x, upd_same]
    -- self.up = tuple(up)
    refine ⟨_, rfl, l2, _, rfl, .inl ⟨S3.seq h2, fun t2 ht2 => ?_⟩⟩
    have n2x : t2 ≠ x := (ne_of_none hx3 ht2).symm
    have n21 : t2 ≠ t1 := (ne_of_none h13 ht2).symm
    refine ⟨_, rfl, x, B, dx, _, rfl, Eq.trans (upd_ne n2x.symm) hx3, TM.cl, TM.nu, Nat.lt_of_le_of_lt (Nat.le_trans (putF_len _ _ _) (Nat.succ_le_succ few2)) (by decide), ?_⟩
    show _
    generalize hH4 : upd (upd H3 t2 (.tup (us.map V.str))) x (.ins B dx (putF "up" (.ref t2) (putF "down" (.ref t1) (putF "made" (.str md) (putF "maker" (.str mk) []))))) = H4
    have S4 : Same H0 H4 := by
      rw [← hH4]
      exact Sx (S3.trans (Same.upd ht2))
    have hx4 : H4 x = some (.ins B dx (makF mk md t1 t2)) := by rw [← hH4, upd_same]; rfl
    have h14 : H4 t1 = some (.tup (ds.map V.str)) := by rw [← hH4, upd_ne n1x, upd_ne n21.symm]; exact h13
    have h24 : H4 t2 = some (.tup (us.map V.str)) := by rw [← hH4, upd_ne n2x, upd_same]
    -- refuse_no_name([maker, made, *self.down, *self.up])
    refine ⟨_, rfl, _, rfl, _, rfl, x, B, dx, _, _, rfl, hx4, TM.cl, TM.nw, makF_down _ _ _ _, t1, _, rfl, .inl (SqT.of h14), _, rfl, x, B, dx, _, _, rfl, hx4, TM.cl, TM.nu, makF_up _ _ _ _, t2, _, rfl, .inl (SqT.of h24), ?_, fun l hl => ?_⟩
    · show (V.str mk :: V.str md :: (ds.map V.str ++ (us.map V.str ++ []))).length ≤ sizeLine
      rw [List.append_nil, List.length_cons, List.length_cons, List.length_append, List.length_map, List.length_map]
      exact Nat.le_trans (show _ ≤ 1000 by omega) (by decide)
    have el : V.str mk :: V.str md :: (ds.map V.str ++ (us.map V.str ++ [])) = (mk :: md :: (ds ++ us)).map V.str := by
      rw [List.append_nil, List.map_cons, List.map_cons, List.map_append]
    have S5 := S4.trans (Same.upd (o := .lst (V.str mk :: V.str md :: (ds.map V.str ++ (us.map V.str ++ [])))) hl)
    refine ⟨l, mk :: md :: (ds ++ us), rfl, SqL.of (by rw [upd_same, ← el]), ?_, hz, ?_⟩
    · rw [List.length_cons, List.length_cons, List.length_append]
      omega
    refine k.toN S5 fun hn H6 hS6 => ?_
    have hx6 := hS6 _ _ (Same.upd (o := .lst (V.str mk :: V.str md :: (ds.map V.str ++ (us.map V.str ++ [])))) hl _ _ hx4)
    have h16 := hS6 _ _ (Same.upd (o := .lst (V.str mk :: V.str md :: (ds.map V.str ++ (us.map V.str ++ [])))) hl _ _ h14)
    have h26 := hS6 _ _ (Same.upd (o := .lst (V.str mk :: V.str md :: (ds.map V.str ++ (us.map V.str ++ [])))) hl _ _ h24)
    refine ⟨_, rfl, x, B, dx, _, _, rfl, hx6, TM.cl, TM.nw, makF_down _ _ _ _, t1, _, rfl, .inr (SqT.of h16), flat_strs _, w1, fun H7 hS7 => ?_⟩
    refine ⟨_, rfl, x, B, dx, _, _, rfl, hS7 _ _ hx6, TM.cl, TM.nu, makF_up _ _ _ _, t2, _, rfl, .inr (SqT.of (hS7 _ _ h26)), flat_strs _, w2, fun H8 hS8 => ?_⟩
    unfold DueM at k
    rw [hn] at k
    exact k H8 (S5.trans (hS6.trans (hS7.trans hS8))) t1 t2 (hS8 _ _ (hS7 _ _ hx6)) (hS8 _ _ (hS7 _ _ h16)) (hS8 _ _ (hS7 _ _ h26))
end
end Wm
namespace Wm
open PySem L2
/-- all that was tracked is as it was, but at p and q -/
def Bt (p q : Addr) (H H' : Hp) : Prop := ∀ a o, a ≠ p → a ≠ q → H a = some o → H' a = some o
theorem Bt.refl (p q : Addr) (H : Hp) : Bt p q H H := fun _ _ _ _ h => h
theorem Bt.trans {p q : Addr} {H H1 H2 : Hp} (a : Bt p q H H1) (b : Bt p q H1 H2) : Bt p q H H2 := fun x o n m h => b x o n m (a x o n m h)
theorem Same.bt {p q : Addr} {H H1 : Hp} (a : Same H H1) : Bt p q H H1 := fun x o _ _ h => a x o h
theorem Bt.updq {p q : Addr} {H : Hp} {o : HO} : Bt p q H (upd H q o) := fun x u _ m h => by rw [upd_ne m]; exact h
theorem Bt.updp {p q : Addr} {H : Hp} {o : HO} : Bt p q H (upd H p o) := fun x u n _ h => by rw [upd_ne n]; exact h
theorem Bt.new {p q d : Addr} {H H1 : Hp} {o : HO} (b : Bt p q H H1) (h0 : H d = none) : Bt p q H (upd H1 d o) := fun x u n m e => by
  rw [upd_ne (ne_of_none e h0)]
  exact b x u n m e
theorem Bt.free {p q d : Addr} {H H' : Hp} (b : Bt p q H H') (n : d ≠ p) (m : d ≠ q) (h : H' d = none) : H d = none := by
  cases e : H d with
  | none => rfl
  | some o =>
    rw [b d o n m e] at h
    cases h
/-- the pot: large numbers, how many were drawn, the cells -/
structure PotAt (H : Hp) (p q r : Addr) (n : Nat) : Prop where
  ex : ∃ (k : Nat) (xs ys : List Int), H p = some (.lst [.ref q, .int k, .ref r]) ∧ H q = some (.lst (xs.map V.int)) ∧ H r = some (.lst (ys.map V.int)) ∧ k ≤ n ∧ (∀ x ∈ xs, 0 ≤ x) ∧ ys ≠ [] ∧ xs.length ≤ 100 ∧ ys.length ≤ 100
  pq : p ≠ q
  pr : p ≠ r
  qr : q ≠ r
theorem PotAt.same {H H' : Hp} {p q r : Addr} {n : Nat} (s : Same H H') (h : PotAt H p q r n) : PotAt H' p q r n := by
  obtain ⟨k, xs, ys, a, b, c, d⟩ := h.ex
  exact ⟨⟨k, xs, ys, s _ _ a, s _ _ b, s _ _ c, d⟩, h.pq, h.pr, h.qr⟩
theorem PotAt.mono {H : Hp} {p q r : Addr} {n m : Nat} (le : n ≤ m) (h : PotAt H p q r n) : PotAt H p q r m := by
  obtain ⟨k, xs, ys, a, b, c, d, e⟩ := h.ex
  exact ⟨⟨k, xs, ys, a, b, c, Nat.le_trans d le, e⟩, h.pq, h.pr, h.qr⟩
theorem PotAt.ne {H : Hp} {p q r d : Addr} {n : Nat} (h : PotAt H p q r n) (e : H d = none) : d ≠ p ∧ d ≠ q ∧ d ≠ r := by
  obtain ⟨k, xs, ys, a, b, c, _⟩ := h.ex
  exact ⟨(ne_of_none a e).symm, (ne_of_none b e).symm, (ne_of_none c e).symm⟩
theorem PotAt.upd {H : Hp} {p q r d : Addr} {n : Nat} {o : HO} (h : PotAt H p q r n) (n1 : d ≠ p) (n2 : d ≠ q) (n3 : d ≠ r) : PotAt (L2.upd H d o) p q r n := by
  obtain ⟨k, xs, ys, a, b, c, e⟩ := h.ex
  exact ⟨⟨k, xs, ys, by rw [upd_ne n1.symm]; exact a, by rw [upd_ne n2.symm]; exact b, by rw [upd_ne n3.symm]; exact c, e⟩, h.pq, h.pr, h.qr⟩
def spMix : Sp := fun vs H Q _ => ∃ (c : Int) (k : Nat), vs = [.int c, .int k] ∧ k ≤ 1000000 ∧ ∀ d : Int, 0 ≤ d → d < 2147483399 → Q (.int d) H
def spTak : Sp := fun vs H Q _ => ∃ (p q r : Addr) (n : Nat) (m : Int), vs = [.ref p, .int m] ∧ PotAt H p q r n ∧ n ≤ 100000 ∧ 0 < m ∧ m < 1073741824 ∧ ∀ (d : Int) H', 0 ≤ d → d < m → Bt p q H H' → PotAt H' p q r (n + 1) → Q (.int d) H'
theorem dp_ints {K : PySem.W.Frag} {H : Hp} : ∀ zs : List Int, DpAll K H (zs.map V.int) (zs.map PyData.int)
  | [] => .nil
  | z :: r => .cons (.int z) (dp_ints r)
theorem lay_ints : ∀ zs : List Int, PyData.canLayAll0 (zs.map PyData.int) = true ∧ PyData.depthAll (zs.map PyData.int) ≤ 1
  | [] => by simp [PyData.canLayAll0, PyData.depthAll]
  | z :: r => by
    obtain ⟨h2, h3⟩ := lay_ints r
    refine ⟨by simp only [List.map_cons, PyData.canLayAll0, PyData.canLay0, h2, Bool.and_self], ?_⟩
    simp [PyData.depthAll, PyData.depth]
    omega
theorem shaped_ints (zs : List Int) : SeqAt.shaped (.list (zs.map PyData.int)) = true := by
  obtain ⟨h1, h2⟩ := lay_ints zs
  simp [SeqAt.shaped, PyData.canLay0, PyData.depth, h1]
  omega
theorem eqv_nil_ints (zs : List Int) : PyData.eqv (.list (zs.map PyData.int)) (.list []) = decide (zs = []) := by
  cases zs with
  | nil => decide +kernel
  | cons a r => simp [PyData.eqv, PyData.eqvAll]
def lenAt (q : Addr) (H : Hp) : Nat := match H q with
  | some (.lst xs) => xs.length
  | _ => 0
def spPot (K : PySem.W.Frag) : Sp := fun vs H Q _ => ∃ (a : Addr) (ns : List Int), vs = [.ref a] ∧ SqL K H a (ns.map V.int) ∧ ns.length ≤ 63 ∧ ∀ p q r H', H p = none → H q = none → H r = none → Same H H' → PotAt H' p q r 0 → Q (.ref p) H'
theorem cut1 {a R : TS} {D : Ends} {σ : L2.St} {H : Hp} (Good : L2.St → Hp → Prop) (fin : ∀ σ' H', Good σ' H' → R D σ' H') (h : ∀ R' : TS, (∀ σ' H', Good σ' H' → R' D σ' H') → tSeq a R' D σ H) : tSeq a R D σ H := h R fin
section
variable {P : Program} {w : World} {K : PySem.W.Frag} {mg : Str → Option Value} {base : Heap}
theorem scMix : FnScope ["_law_cell", "_law_k", "_law_number"] ["_law_cell", "_law_k"] (defScope sMix) := ⟨rfl, rfl, rfl, by decide +kernel, rfl, by decide +kernel, by decide +kernel⟩
theorem ok_mix {f : Addr} {fd : FuncData} (F : Fun K "_law_mixed" "_law_mixed" sMix f fd) : FnOk P w K mg base CX0 1 f fd ["_law_cell", "_law_k"] spMix := by
  refine F.ok scMix (fun vs H Q E h => ?_) (fun cdv A outer s H vs Q E hr h => ?_)
  · obtain ⟨c, k, rfl, _⟩ := h
    rfl
  · obtain ⟨c, k, rfl, hk, kk⟩ := h
    have k0 : (0 : Int) ≤ (k : Int) := by omega
    have k1 : (k : Int) ≤ 1000000 := by omega
    have kk0 : (0 : Int) ≤ (k : Int) * k := Int.mul_nonneg k0 k0
    have kk1 : (k : Int) * k ≤ 1000000 * 1000000 := Int.mul_le_mul k1 k1 k0 (by decide)
    refine ⟨_, (pss_cons (ps_set (i := 2) scMix.nd rfl (Or.inl rfl) (pe_op op_mod (pe_op op_mul (pe_op op_add (pv 0) pe_int) (pe_op op_add (pe_op op_mul (pv 1) (pv 1)) pe_int)) pe_int))
      (pss_cons (ps_set (i := 2) scMix.nd rfl (Or.inl rfl) (pe_op op_mod (pe_op op_pow (pe_op op_add (pe_op op_add (pv 2) (pe_op op_mul pe_int (pv 1))) pe_int) pe_int) pe_int))
      (pss_cons (ps_set (i := 2) scMix.nd rfl (Or.inl rfl) (pe_op op_mod (pe_op op_mul (pv 2) (pe_op op_add (pe_op op_add (pe_op op_fdiv (pv 2) pe_int) pe_int) (pe_op op_mul pe_int (pv 1)))) pe_int))
      (pss_one (ps_ret (pe_op op_mod (pe_op op_mul (pv 2) (pe_op op_add (pe_op op_fdiv (pv 2) pe_int) pe_int)) pe_int)))))), ?_⟩
    refine ⟨_, rfl, _, _, rfl, rfl, _, rfl, _, rfl, _, _, rfl, rfl, .inl ⟨by omega, by omega⟩, _, _, rfl, rfl, _, _, rfl, rfl, .inr ⟨by omega, by omega⟩, _, _, rfl, rfl, (show (0 : Int) < 2147483647 by decide), ?_⟩
    dsimp only [List.set_cons_succ, List.set_cons_zero]
    generalize ha : (c + 1) * ((k : Int) * k + 48271) % 2147483647 = a
    have a0 : 0 ≤ a := by rw [← ha]; exact Int.emod_nonneg _ (by decide)
    have a1 : a < 2147483647 := by rw [← ha]; exact Int.emod_lt_of_pos _ (by decide)
    refine ⟨_, rfl, _, rfl, _, _, rfl, rfl, .inl ⟨by omega, by omega⟩, _, _, rfl, rfl, _, _, rfl, rfl, _, _, rfl, rfl, ⟨by decide, by decide, by omega⟩, _, _, rfl, rfl, (show (0 : Int) < 2147483399 by decide), ?_⟩
    dsimp only [List.set_cons_succ, List.set_cons_zero]
    generalize hb : (a + 7919 * (k : Int) + 1) ^ Int.toNat 5 % 2147483399 = b
    have b0 : 0 ≤ b := by rw [← hb]; exact Int.emod_nonneg _ (by decide)
    have b1 : b < 2147483399 := by rw [← hb]; exact Int.emod_lt_of_pos _ (by decide)
    refine ⟨_, rfl, _, rfl, _, _, rfl, rfl, ⟨by decide, by decide⟩, _, _, rfl, rfl, _, rfl, _, _, rfl, rfl, .inl ⟨by omega, by omega⟩, _, _, rfl, rfl, _, _, rfl, rfl, .inl ⟨by omega, by omega⟩, _, _, rfl, rfl, (show (0 : Int) < 2147483647 by decide), ?_⟩
    dsimp only [List.set_cons_succ, List.set_cons_zero]
    generalize hc : b * (b / 1009 + 69621 + 2 * (k : Int)) % 2147483647 = c'
    have c0 : 0 ≤ c' := by rw [← hc]; exact Int.emod_nonneg _ (by decide)
    have c1 : c' < 2147483647 := by rw [← hc]; exact Int.emod_lt_of_pos _ (by decide)
    refine ⟨_, rfl, _, rfl, _, _, rfl, rfl, ⟨by decide, by decide⟩, _, _, rfl, rfl, _, _, rfl, rfl, .inl ⟨by omega, by omega⟩, _, _, rfl, rfl, (show (0 : Int) < 2147483399 by decide), ?_⟩
    exact kk _ (Int.emod_nonneg _ (by decide)) (Int.emod_lt_of_pos _ (by decide))
theorem scTak : FnScope ["_law_pot_here", "_law_many", "_law_found"] ["_law_pot_here", "_law_many"] (defScope sTak) := ⟨rfl, rfl, rfl, by decide +kernel, rfl, by decide +kernel, by decide +kernel⟩
theorem ok_tak {f fM : Addr} {fd dM : FuncData} (F : Fun K "_law_take" "_law_take" sTak f fd) (T : TxB mg) (DM : Dn K mg "_law_mixed" sMix ["_law_cell", "_law_k"] fM dM) : FnOk P w K mg base CX0 2 f fd ["_law_pot_here", "_law_many"] spTak := by
  have GM : FnOk P w K mg base CX0 1 fM dM _ spMix := ok_mix DM.F
  refine F.ok scTak (fun vs H Q E h => ?_) (fun cdv A outer s H vs Q E hr h => ?_)
  · obtain ⟨p, q, r, n, m, rfl, _⟩ := h
    rfl
  · obtain ⟨p, q, r, n, m, rfl, hP, hn, m0, m1, k⟩ := h
    have hr1 : Room 1 _ := hr
    refine ⟨_, (pss_cons (ps_while PassesOwn.never (PW.pt (pw_and (pt_cmpR (op_neD hr.units) (pe_ix ix_list (pv 0) pe_int (fun _ _ => rfl)) (pe_lst pa_nil) (nomark _)) (pw_and1 (pt_cmpR op_eq (pe_ix ix_list (pe_ix ix_list (pv 0) pe_int (fun _ _ => rfl)) pe_int (fun _ _ => rfl)) pe_int (nomark _))))) (pss_one (ps_expr (pe_bm PySem.F.plainAttrs_list PySem.F.slot_list_pop PySem.F.type_list_pop mt_popAt (pe_ix ix_list (pv 0) pe_int (fun _ _ => rfl)) (pa_cons pe_int pa_nil)))))
      (pss_cons (ps_if (pt_cmpR (op_neD hr.units) (pe_ix ix_list (pv 0) pe_int (fun _ _ => rfl)) (pe_lst pa_nil) (nomark _)) (pss_cons (ps_set (i := 2) scTak.nd rfl (Or.inl rfl) (pe_op op_mod (pe_ix ix_list (pe_ix ix_list (pv 0) pe_int (fun _ _ => rfl)) pe_int (fun _ _ => rfl)) (pv 1)))
      (pss_cons (ps_asg (pe_op op_fdiv (pe_ix ix_list (pe_ix ix_list (pv 0) pe_int (fun _ _ => rfl)) pe_int (fun _ _ => rfl)) (pv 1)) (pg_sub (pe_ix ix_list (pv 0) pe_int (fun _ _ => rfl)) pe_int set_list))
      (pss_one (ps_ret (pv 2))))) pss_nil)
      (pss_cons (ps_asg (pe_op op_add (pe_ix ix_list (pv 0) pe_int (fun _ _ => rfl)) pe_int) (pg_sub (pv 0) pe_int set_list))
      (pss_one (ps_ret (pe_op op_mod (pe_call GM hr1 rfl DM.g DM.F.kp DM.b .nil pass0 (pa_cons (pe_ix ix_list (pe_ix ix_list (pv 0) pe_int (fun _ _ => rfl)) (pe_op op_mod (pe_ix ix_list (pv 0) pe_int (fun _ _ => rfl)) (pe_callB call_len_seq (by rfl) T.len (by decide +kernel) (pa_cons (pe_ix ix_list (pv 0) pe_int (fun _ _ => rfl)) pa_nil))) (fun _ _ => rfl)) (pa_cons (pe_ix ix_list (pv 0) pe_int (fun _ _ => rfl)) pa_nil))) (pv 1))))))), ?_⟩
    refine while_by (fun σ H' => σ = [some (.ref p), some (.int m), none] ∧ PotAt H' p q r n ∧ Bt p q H H') (fun _ H' => lenAt q H') ⟨rfl, hP, Bt.refl _ _ _⟩ ?_ ?_
    · rintro σ H1 ⟨rfl, P1, B1⟩
      obtain ⟨kc, xs, ys, e1, e2, e3, hk, hx, hy, x100, y100⟩ := P1.ex
      refine ⟨_, rfl, ?_⟩
      dsimp only [tC]
      refine rdList e1 (j := 0) (v := .ref q) rfl rfl ?_
      refine ⟨Nat.zero_le _, fun l hl => ?_⟩
      have SL : Same H1 (upd H1 l (.lst [])) := Same.upd hl
      have el : (upd H1 l (.lst [])) l = some (.lst []) := upd_same
      have P2 := P1.same SL
      have lenE : lenAt q (upd H1 l (.lst [])) = lenAt q H1 := by
        unfold lenAt
        rw [SL _ _ e2, e2]
      generalize upd H1 l (.lst []) = H2 at SL el P2 lenE
      have e1' := SL _ _ e1
      have e2' := SL _ _ e2
      have e3' := SL _ _ e3
      refine ⟨_, _, .lst (SqL.of e2') (dp_ints xs), .lst (SqL.of el) .nil, shaped_ints xs, by decide +kernel, _, rfl, ?_⟩
      rw [eqv_nil_ints]
      have B2 : Bt p q H H2 := B1.trans (Same.bt SL)
      by_cases hxs : xs = []
      · subst hxs
        rw [decide_eq_true rfl]
        refine iteF ?_
        refine iteF ?_
        -- no large number is left
        refine ⟨_, rfl, ?_⟩
        dsimp only [tC]
        refine rdList e1' (j := 0) (v := .ref q) rfl rfl ?_
        refine ⟨Nat.zero_le _, fun l3 hl3 => ?_⟩
        have S3 : Same H2 (upd H2 l3 (.lst [])) := Same.upd hl3
        have el3 : (upd H2 l3 (.lst [])) l3 = some (.lst []) := upd_same
        have P3 := P2.same S3
        generalize upd H2 l3 (.lst []) = H3 at S3 el3 P3
        refine ⟨_, _, .lst (SqL.of (S3 _ _ e2')) (dp_ints []), .lst (SqL.of el3) .nil, by decide +kernel, by decide +kernel, _, rfl, ?_⟩
        rw [show PyData.eqv (.list (([] : List Int).map PyData.int)) (.list []) = true by decide +kernel]
        refine iteF ?_
        have e13 := S3 _ _ e1'
        have e23 := S3 _ _ e2'
        have e33 := S3 _ _ e3'
        refine ⟨_, rfl, ?_⟩
        dsimp only [tC]
        refine rdList e13 (j := 1) (v := .int kc) rfl rfl ?_
        refine ⟨_, _, rfl, rfl, ?_⟩
        refine ⟨_, rfl, p, _, _, 1, rfl, rfl, e13, rfl, ?_⟩
        have B4 : Bt p q H (upd H3 p (.lst [.ref q, .int (kc + 1), .ref r])) := (B2.trans (Same.bt S3)).trans Bt.updp
        have f1 : (upd H3 p (.lst [.ref q, .int ((kc : Int) + 1), .ref r])) p = some (.lst [.ref q, .int ((kc + 1 : Nat) : Int), .ref r]) := upd_same
        have f2 : (upd H3 p (.lst [.ref q, .int ((kc : Int) + 1), .ref r])) q = some (.lst (([] : List Int).map V.int)) := (upd_ne P1.pq.symm).trans e23
        have f3 : (upd H3 p (.lst [.ref q, .int ((kc : Int) + 1), .ref r])) r = some (.lst (ys.map V.int)) := (upd_ne P1.pr.symm).trans e33
        show tRet _ _ _ (upd H3 p (.lst [.ref q, .int ((kc : Int) + 1), .ref r]))
        have B4 : Bt p q H (upd H3 p (.lst [.ref q, .int ((kc : Int) + 1), .ref r])) := (B2.trans (Same.bt S3)).trans Bt.updp
        generalize upd H3 p (.lst [.ref q, .int ((kc : Int) + 1), .ref r]) = H4 at B4 f1 f2 f3
        have P4 : PotAt H4 p q r (n + 1) := ⟨⟨kc + 1, [], ys, f1, f2, f3, by omega, hx, hy, by simp, y100⟩, P1.pq, P1.pr, P1.qr⟩
        have ypos : 0 < ys.length := List.length_pos_iff.mpr hy
        refine ⟨_, rfl, ?_⟩
        dsimp only [tC]
        refine rdList f1 (j := 2) (v := .ref r) rfl rfl ?_
        refine ⟨_, rfl, ?_⟩
        dsimp only [tC]
        refine rdList f1 (j := 1) (v := .int ((kc + 1 : Nat) : Int)) rfl rfl ?_
        refine ⟨_, rfl, ?_⟩
        dsimp only [tC]
        refine rdList f1 (j := 2) (v := .ref r) rfl rfl ?_
        refine ⟨r, _, rfl, .inl (SqL.of f3), _, _, rfl, rfl, (show (0 : Int) < _ by rw [List.length_map]; omega), ?_⟩
        have jlt : (kc + 1) % ys.length < ys.length := Nat.mod_lt _ ypos
        refine rdList f3 (j := (kc + 1) % ys.length) (v := .int (ys[(kc + 1) % ys.length]'jlt)) (by rw [List.length_map]; omega) (by rw [List.getElem?_map, List.getElem?_eq_getElem jlt]; rfl) ?_
        refine ⟨_, rfl, ?_⟩
        dsimp only [tC]
        refine rdList f1 (j := 1) (v := .int ((kc + 1 : Nat) : Int)) rfl rfl ?_
        refine ⟨_, kc + 1, rfl, by omega, fun d d0 d1 => ?_⟩
        refine ⟨_, rfl, _, _, rfl, rfl, m0, ?_⟩
        exact k _ _ (Int.emod_nonneg _ (by omega)) (Int.emod_lt_of_pos _ m0) B4 P4
      · rw [decide_eq_false hxs]
        refine iteT ?_
        obtain ⟨x0, xr, rfl⟩ : ∃ x0 xr, xs = x0 :: xr := by
          cases xs with
          | nil => exact absurd rfl hxs
          | cons a b => exact ⟨a, b, rfl⟩
        refine ⟨_, rfl, ?_⟩
        dsimp only [tC]
        refine rdList e1' (j := 0) (v := .ref q) rfl rfl ?_
        refine rdList e2' (j := 0) (v := .int x0) rfl rfl ?_
        refine ⟨rfl, _, rfl, ?_⟩
        refine ite2 (fun z => ?_) (fun z => ?_)
        · -- a nought goes
          refine ⟨_, rfl, ?_⟩
          dsimp only [tC]
          refine rdList e1' (j := 0) (v := .ref q) rfl rfl ?_
          have sq : seqIndex? 0 ((x0 :: xr).map V.int).length = some 0 := by
            unfold seqIndex?
            simp
          refine ⟨.inl ⟨rfl, _, SqL.of e2'⟩, q, _, 0, 0, .int x0, rfl, rfl, e2', by decide, by decide, sq, rfl, ?_⟩
          have f1 : (upd H2 q (.lst (xr.map V.int))) p = _ := (upd_ne P1.pq).trans e1'
          have f3 : (upd H2 q (.lst (xr.map V.int))) r = _ := (upd_ne P1.qr.symm).trans e3'
          refine ⟨⟨rfl, ⟨⟨kc, xr, ys, f1, upd_same, f3, hk, fun x hxm => hx x (List.mem_cons_of_mem _ hxm), hy, by simp at x100; omega, y100⟩, P1.pq, P1.pr, P1.qr⟩, B2.trans Bt.updq⟩, ?_⟩
          show lenAt q (upd H2 q (.lst (xr.map V.int))) < lenAt q H1
          unfold lenAt
          rw [upd_same, e2]
          simp
        · -- a large number is used
          have x0p : 0 < x0 := by
            have a := hx x0 List.mem_cons_self
            have b : x0 ≠ 0 := fun e => z (by rw [e]; rfl)
            omega
          refine ⟨_, rfl, ?_⟩
          dsimp only [tC]
          refine rdList e1' (j := 0) (v := .ref q) rfl rfl ?_
          refine ⟨Nat.zero_le _, fun l3 hl3 => ?_⟩
          have S3 : Same H2 (upd H2 l3 (.lst [])) := Same.upd hl3
          have el3 : (upd H2 l3 (.lst [])) l3 = some (.lst []) := upd_same
          generalize upd H2 l3 (.lst []) = H3 at S3 el3
          refine ⟨_, _, .lst (SqL.of (S3 _ _ e2')) (dp_ints _), .lst (SqL.of el3) .nil, shaped_ints _, by decide +kernel, _, rfl, ?_⟩
          rw [eqv_nil_ints, decide_eq_false hxs]
          refine iteT ?_
          have e13 := S3 _ _ e1'
          have e23 := S3 _ _ e2'
          have e33 := S3 _ _ e3'
          refine ⟨_, rfl, ?_⟩
          dsimp only [tC]
          refine rdList e13 (j := 0) (v := .ref q) rfl rfl ?_
          refine rdList e23 (j := 0) (v := .int x0) rfl rfl ?_
          refine ⟨_, rfl, _, _, rfl, rfl, m0, ?_⟩
          dsimp only [List.set_cons_succ, List.set_cons_zero]
          refine ⟨_, rfl, ?_⟩
          dsimp only [tC]
          refine rdList e13 (j := 0) (v := .ref q) rfl rfl ?_
          refine rdList e23 (j := 0) (v := .int x0) rfl rfl ?_
          refine ⟨_, rfl, _, _, rfl, rfl, ⟨m0, m1⟩, ?_⟩
          refine ⟨_, rfl, ?_⟩
          dsimp only [tC]
          refine rdList e13 (j := 0) (v := .ref q) rfl rfl ?_
          have ix : ixN ((x0 :: xr).map V.int).length 0 = some 0 := by
            unfold ixN
            simp
          refine ⟨q, _, _, 0, rfl, rfl, e23, ix, ?_⟩
          refine ⟨_, rfl, ?_⟩
          have f1 : (upd H3 q (.lst ((x0 / m :: xr).map V.int))) p = _ := (upd_ne P1.pq).trans e13
          have f3 : (upd H3 q (.lst ((x0 / m :: xr).map V.int))) r = _ := (upd_ne P1.qr.symm).trans e33
          refine k _ _ (Int.emod_nonneg _ (by omega)) (Int.emod_lt_of_pos _ m0) ((B2.trans (Same.bt S3)).trans Bt.updq) ⟨⟨kc, x0 / m :: xr, ys, f1, upd_same, f3, by omega, fun x hxm => ?_, hy, x100, y100⟩, P1.pq, P1.pr, P1.qr⟩
          rcases List.mem_cons.mp hxm with e | e
          · rw [e]
            exact Int.ediv_nonneg (by omega) (by omega)
          · exact hx x (List.mem_cons_of_mem _ e)
    · intro σ H' Q1 Q2 f h
      obtain ⟨v, e0, p1, xs1, i1, v1, a1, a2, a3, a4, sz, h⟩ := h
      refine ⟨v, e0, p1, xs1, i1, v1, a1, a2, a3, a4, sz, fun d hd => ?_⟩
      obtain ⟨d1, d2, b1, b2, b3, b4, kb, ek, h2⟩ := h d hd
      refine ⟨d1, d2, b1, b2, b3, b4, kb, ek, ?_⟩
      cases kb with
      | false => exact f _ _ h2
      | true =>
        obtain ⟨w0, e1, p2, xs2, i2, w2, c1, c2, c3, c4, p3, xs3, i3, w3, g1, g2, g3, g4, fl, kc, ec, q⟩ := h2
        exact ⟨w0, e1, p2, xs2, i2, w2, c1, c2, c3, c4, p3, xs3, i3, w3, g1, g2, g3, g4, fl, kc, ec, f _ _ q⟩
theorem scPot : FnScope ["_law_script", "_law_cells", "_law_cell"] ["_law_script"] (defScope sPot) := ⟨rfl, rfl, rfl, by decide +kernel, rfl, by decide +kernel, by decide +kernel⟩
theorem ok_pot {f : Addr} {fd : FuncData} (F : Fun K "_law_pot" "_law_pot" sPot f fd) (T : TxB mg) (tl : mg "list" = none) : FnOk P w K mg base CX0 1 f fd ["_law_script"] (spPot K) := by
  refine F.ok scPot (fun vs H Q E h => ?_) (fun cdv A outer s H vs Q E hr h => ?_)
  · obtain ⟨a, ns, rfl, _⟩ := h
    rfl
  · obtain ⟨a, ns, rfl, hA, hlen, k⟩ := h
    refine ⟨_, (pss_cons (ps_set (i := 1) scPot.nd rfl (Or.inl rfl) (pe_callTy call_list_of (by rfl) tl (by decide +kernel) (pa_cons (pe_slice sl_list (pv 0) po_none (po_some pe_int)) pa_nil)))
      (pss_cons (ps_if (pt_cmpR (op_eqD hr.units) (pv 1) (pe_lst pa_nil) (nomark _)) (pss_one (ps_set (i := 1) scPot.nd rfl (Or.inl rfl) (pe_lst (pa_cons pe_int pa_nil)))) pss_nil)
      (pss_one (ps_ret (pe_lst (pa_cons (pe_lc (own := [("_law_cell", 2)]) (g := gName 2) rfl scPot.nd (pi_list (pv 1)) (blkOk_by (N := ["_law_script", "_law_cells", "_law_cell"]) (sc := defScope sPot) (by decide +kernel)) (fun _ _ _ _ _ => (pg_name (i := 2) scPot.nd rfl (Or.inl rfl))) (fun _ _ _ _ _ => (pts_one (pt_cmpR op_ge (pe_callB call_abs (by rfl) T.abs (by decide +kernel) (pa_cons (pv 2) pa_nil)) (pe_op op_pow pe_int pe_int) (nomark _)))) (fun _ _ _ _ _ => (pe_callB call_abs (by rfl) T.abs (by decide +kernel) (pa_cons (pv 2) pa_nil)))) (pa_cons pe_int (pa_cons (pv 1) pa_nil)))))))), ?_⟩
    refine ⟨_, rfl, _, rfl, a, _, rfl, hA, fun l1 n1 => ?_⟩
    rw [show cutV (ns.map V.int) none (some 63) = (ns.take 63).map V.int by rw [List.map_take]; exact cut_take _ 63]
    rw [List.take_of_length_le hlen]
    refine ⟨l1, _, rfl, .inl (SqL.of upd_same), fun l2 n2 => ?_⟩
    dsimp only [List.set_cons_succ, List.set_cons_zero]
    have S2 : Same H (upd (upd H l1 (.lst (ns.map V.int))) l2 (.lst (ns.map V.int))) := (Same.upd n1).trans (Same.upd n2)
    have f2 : H l2 = none := (Same.upd (o := .lst (ns.map V.int)) n1).free n2
    have e2 : (upd (upd H l1 (.lst (ns.map V.int))) l2 (.lst (ns.map V.int))) l2 = some (.lst (ns.map V.int)) := upd_same
    generalize upd (upd H l1 (.lst (ns.map V.int))) l2 (.lst (ns.map V.int)) = H2 at S2 e2
    refine cut1 (fun σ' H' => ∃ (l : Addr) (ys : List Int), σ' = [some (.ref a), some (.ref l), none] ∧ H l = none ∧ Same H H' ∧ H' l = some (.lst (ys.map V.int)) ∧ ys ≠ [] ∧ ys.length ≤ 100) ?_ (fun R' fin => ?_)
    · rintro σ' H3 ⟨l, ys, rfl, fl, S3, el, yne, y100⟩
      refine ⟨_, rfl, l, rfl, ⟨_, SqL.of el⟩, fun D hD => ?_⟩
      have nlD : l ≠ D := ne_of_none el hD
      refine lc_list (K := K) (a := l) (xs := ys.map V.int) (fun i H' => Same H3 H' ∧ ∃ xs : List Int, H' D = some (.lst (xs.map V.int)) ∧ xs.length ≤ i ∧ ∀ x ∈ xs, 0 ≤ x) ⟨Same.upd hD, [], upd_same, Nat.le_refl _, fun x hx => (List.not_mem_nil hx).elim⟩ (fun i H' _ p => SqL.of (p.1 _ _ el)) ?_ ?_
      · rintro i x H' hi ⟨hS, xs, hx, xl, xp⟩
        rw [List.getElem?_map] at hi
        obtain ⟨c, hc, rfl⟩ := Option.map_eq_some_iff.mp hi
        have il : i < ys.length := (List.getElem?_eq_some_iff.mp hc).1
        refine ⟨rfl, ?_⟩
        refine ⟨_, rfl, _, rfl, _, _, rfl, rfl, ⟨by decide, by decide, by decide⟩, _, _, rfl, rfl, _, rfl, ?_⟩
        refine ite2 (fun _ => ?_) (fun _ => ?_)
        · refine ⟨_, rfl, _, rfl, _, hx, ?_, ?_, ?_⟩
          · rw [List.length_map]
            exact Nat.lt_of_le_of_lt (show xs.length ≤ 100 by omega) (by decide)
          · intro b o h
            rw [upd_ne (ne_of_none h hD)]
            exact hS b o h
          · refine ⟨xs ++ [if c < 0 then -c else c], by rw [upd_same, List.map_append]; rfl, by rw [List.length_append, List.length_singleton]; omega, fun x hx' => ?_⟩
            rcases List.mem_append.mp hx' with q | q
            · exact xp x q
            · rw [List.mem_singleton.mp q]
              split <;> omega
        · exact ⟨hS, xs, hx, by omega, xp⟩
      · rintro H4 ⟨S4, xs, hx, xl, xp⟩
        rw [List.length_map] at xl
        refine ⟨_, rfl, by show 3 ≤ sizeLine; decide, fun pp np => ?_⟩
        have S5 : Same H4 (upd H4 pp (.lst [.ref D, .int 0, .ref l])) := Same.upd np
        exact k pp D l _ (S3.free (S4.free np)) (S3.free hD) fl ((S3.trans S4).trans S5) ⟨⟨0, xs, ys, upd_same, S5 _ _ hx, S5 _ _ (S4 _ _ el), Nat.le_refl _, xp, yne, by omega, y100⟩, (ne_of_none hx np).symm, (ne_of_none (S4 _ _ el) np).symm, nlD.symm⟩
    refine ⟨_, rfl, Nat.zero_le _, fun l3 n3 => ?_⟩
    have S3 : Same H2 (upd H2 l3 (.lst [])) := Same.upd n3
    have e3 : (upd H2 l3 (.lst [])) l3 = some (.lst []) := upd_same
    generalize upd H2 l3 (.lst []) = H3 at S3 e3
    refine ⟨_, _, .lst (SqL.of (S3 _ _ e2)) (dp_ints _), .lst (SqL.of e3) .nil, shaped_ints _, by decide +kernel, _, rfl, ?_⟩
    rw [eqv_nil_ints]
    by_cases hns : ns = []
    · rw [decide_eq_true hns]
      refine iteT ?_
      refine ⟨by show 1 ≤ sizeLine; decide, fun l4 n4 => ?_⟩
      exact fin _ _ ⟨l4, [0], rfl, (S2.trans S3).free n4, (S2.trans S3).trans (Same.upd n4), upd_same, by simp, by decide⟩
    · rw [decide_eq_false hns]
      refine iteF ?_
      exact fin _ _ ⟨l2, ns, rfl, f2, S2.trans S3, S3 _ _ e2, hns, by omega⟩
end
end Wm
namespace Wm
open PySem L2
def abcZ : Str := PySem.Str.ofString "abcdefghijklmnopqrstuvwxyz0123456789"
def sg (j : Nat) : Nat := abcZ.cps.toList.getD j 0
theorem sg_inj0 : ∀ i j : Fin 36, sg i.1 = sg j.1 → i = j := by decide +kernel
theorem sg_inj {i j : Nat} (hi : i < 36) (hj : j < 36) (h : sg i = sg j) : i = j := congrArg Fin.val (sg_inj0 ⟨i, hi⟩ ⟨j, hj⟩ h)
theorem sg_ok0 : ∀ i : Fin 36, lowC (sg i.1) ∨ figC (sg i.1) := by
  unfold lowC figC
  decide +kernel
theorem sg_lo0 : ∀ i : Fin 26, lowC (sg i.1) := by
  unfold lowC
  decide +kernel
theorem sg_at0 : ∀ i : Fin 36, abcZ.cps.toList[i.1]? = some (sg i.1) := by decide +kernel
theorem sg_at {j : Nat} (h : j < 36) : abcZ.cps.toList[j]? = some (sg j) := sg_at0 ⟨j, h⟩
theorem sg_le0 : ∀ i : Fin 26, (PySem.Str.ofString "abcdefghijklmnopqrstuvwxyz").cps.toList[i.1]? = some (sg i.1) := by decide +kernel
theorem abc26 : (PySem.Str.ofString "abcdefghijklmnopqrstuvwxyz").length = 26 := by decide +kernel
theorem m_nm0 : ∀ k : Fin 70, ("m" ++ numS k.1 : Str).cps.toList = 109 :: (numS k.1).cps.toList := by decide +kernel
theorem m_nm {k : Nat} (h : k < 70) : NmP ("m" ++ numS k) ∧ ("m" ++ numS k : Str).length ≤ 12 := by
  have q := num_sign h
  refine ⟨⟨109, (numS k).cps.toList, m_nm0 ⟨k, h⟩, by unfold lowC; decide, q.1⟩, ?_⟩
  have e : ("m" ++ numS k : Str).length = 1 + (numS k).length := len_app _ _
  omega
theorem log_sm {n : Nat} (h : n ≤ 100) : (n : Int).natAbs.log2 < 1920 := by
  have e : (n : Int).natAbs = n := by omega
  rw [e]
  have q : n.log2 ≤ n := Nat.log2_le_self _
  omega

/-- j signs behind the first, of a number -/
def wdL : Nat → Nat → List Nat
  | 0, i => [sg i]
  | j + 1, i => wdL j (i / 36) ++ [sg (i % 36)]
/-- how many names have at most j signs -/
def bsN : Nat → Nat
  | 0 => 0
  | j + 1 => bsN j + 26 * 36 ^ j
def szF : Nat → Nat → Nat → Nat × Nat
  | 0, j, i => (j, i)
  | f + 1, j, i => if i < 26 * 36 ^ j then (j, i) else szF f (j + 1) (i - 26 * 36 ^ j)
def nmA (i : Nat) : Str := ⟨(wdL (szF 12 0 i).1 (szF 12 0 i).2).toArray⟩
def Mx : Nat := 3519940422753201122
theorem bs12 : bsN 12 = Mx := by decide +kernel
theorem szF_ok : ∀ f j i, j + f = 12 → i + bsN j < bsN 12 → (szF f j i).1 ≤ 11 ∧ (szF f j i).2 < 26 * 36 ^ (szF f j i).1 ∧ (szF f j i).2 + bsN (szF f j i).1 = i + bsN j := by
  intro f
  induction f with
  | zero =>
    intro j i hj h
    have e : j = 12 := by omega
    subst e
    omega
  | succ f ih =>
    intro j i hj h
    unfold szF
    by_cases q : i < 26 * 36 ^ j
    · rw [if_pos q]
      exact ⟨by show j ≤ 11; omega, q, rfl⟩
    · rw [if_neg q]
      have e : bsN (j + 1) = bsN j + 26 * 36 ^ j := rfl
      have z := ih (j + 1) (i - 26 * 36 ^ j) (by omega) (by omega)
      exact ⟨z.1, z.2.1, by have := z.2.2; omega⟩
theorem wd_ok : ∀ j r, r < 26 * 36 ^ j → ∃ c cs, wdL j r = c :: cs ∧ lowC c ∧ (∀ d ∈ cs, lowC d ∨ figC d) ∧ cs.length = j := by
  intro j
  induction j with
  | zero =>
    intro r h
    have h : r < 26 := by omega
    exact ⟨sg r, [], rfl, sg_lo0 ⟨r, h⟩, fun d hd => (List.not_mem_nil hd).elim, rfl⟩
  | succ j ih =>
    intro r h
    rw [Nat.pow_succ] at h
    obtain ⟨c, cs, e, a, b, l⟩ := ih (r / 36) (by omega)
    refine ⟨c, cs ++ [sg (r % 36)], by show wdL j (r / 36) ++ _ = _; rw [e]; rfl, a, fun d hd => ?_, by rw [List.length_append, l]; rfl⟩
    rcases List.mem_append.mp hd with q | q
    · exact b d q
    · rw [List.mem_singleton.mp q]
      exact sg_ok0 ⟨r % 36, Nat.mod_lt _ (by decide)⟩
theorem wd_inj : ∀ j r r', r < 26 * 36 ^ j → r' < 26 * 36 ^ j → wdL j r = wdL j r' → r = r' := by
  intro j
  induction j with
  | zero =>
    intro r r' h h' e
    have h : r < 26 := by omega
    have h' : r' < 26 := by omega
    exact sg_inj (by omega) (by omega) (List.cons.inj e).1
  | succ j ih =>
    intro r r' h h' e
    rw [Nat.pow_succ] at h h'
    have q := List.append_inj' (show wdL j (r / 36) ++ [sg (r % 36)] = wdL j (r' / 36) ++ [sg (r' % 36)] from e) rfl
    have a := ih _ _ (by omega) (by omega) q.1
    have b := sg_inj (Nat.mod_lt _ (by decide)) (Nat.mod_lt _ (by decide)) (List.cons.inj q.2).1
    omega
theorem szF_at {i : Nat} (h : i < Mx) : (szF 12 0 i).1 ≤ 11 ∧ (szF 12 0 i).2 < 26 * 36 ^ (szF 12 0 i).1 ∧ (szF 12 0 i).2 + bsN (szF 12 0 i).1 = i := szF_ok 12 0 i rfl (by rw [bs12]; exact h)
theorem nmA_nm {i : Nat} (h : i < Mx) : NmP (nmA i) ∧ (nmA i).length ≤ 12 := by
  obtain ⟨a, b, _⟩ := szF_at h
  obtain ⟨c, cs, e, l, o, n⟩ := wd_ok _ _ b
  refine ⟨⟨c, cs, by simp [nmA, e], l, o⟩, ?_⟩
  have q : (nmA i).length = cs.length + 1 := by simp [nmA, e, PySem.Str.length]
  omega
theorem nmA_inj {i j : Nat} (hi : i < Mx) (hj : j < Mx) (h : nmA i = nmA j) : i = j := by
  have e : wdL (szF 12 0 i).1 (szF 12 0 i).2 = wdL (szF 12 0 j).1 (szF 12 0 j).2 := by
    have q := congrArg (fun z : Str => z.cps.toList) h
    simpa [nmA] using q
  obtain ⟨a, b, c⟩ := szF_at hi
  obtain ⟨a', b', c'⟩ := szF_at hj
  have el : (szF 12 0 i).1 = (szF 12 0 j).1 := by
    obtain ⟨_, cs, e1, _, _, n1⟩ := wd_ok _ _ b
    obtain ⟨_, cs', e2, _, _, n2⟩ := wd_ok _ _ b'
    have q := congrArg List.length e
    rw [e1, e2, List.length_cons, List.length_cons] at q
    omega
  rw [el] at e b c
  have er := wd_inj _ _ _ b b' e
  rw [er] at c
  exact c.symm.trans c'
theorem pw_le0 : ∀ j : Fin 12, (26 : Int) * 36 ^ j.1 < 2 ^ 64 := by decide +kernel
theorem pw_le (j : Nat) (h : j ≤ 11) : (26 : Int) * 36 ^ j < 2 ^ 64 := pw_le0 ⟨j, by omega⟩
theorem pw_cast (j : Nat) : ((26 * 36 ^ j : Nat) : Int) = 26 * 36 ^ j := by
  rw [Int.natCast_mul, Int.natCast_pow]
  rfl
theorem emp0 : (PySem.Str.ofString "").cps.toList = [] := by decide +kernel
def spNAt : Sp := fun vs H Q _ => ∃ i : Nat, vs = [.int i] ∧ i < Mx ∧ Q (.str (nmA i)) H
theorem flats (ns : List Str) : (ns.map V.str).all flatV = true := by
  induction ns with
  | nil => rfl
  | cons a r ih => rw [List.map_cons, List.all_cons, ih]; rfl
def spLrg : Sp := fun vs H Q _ => ∃ (p q r : Addr) (n : Nat) (m : Int), vs = [.ref p, .int m] ∧ PotAt H p q r n ∧ n ≤ 90000 ∧ 0 < m ∧ ∀ (d : Int) H', 0 ≤ d → d < m → Bt p q H H' → PotAt H' p q r (n + 7) → Q (.int d) H'

theorem cut3 {a b c R : TS} {D : Ends} {σ : L2.St} {H : Hp} (Good : L2.St → Hp → Prop) (fin : ∀ σ' H', Good σ' H' → R D σ' H') (h : ∀ R' : TS, (∀ σ' H', Good σ' H' → R' D σ' H') → tSeq a (tSeq b (tSeq c R')) D σ H) : tSeq a (tSeq b (tSeq c R)) D σ H := h R fin

def mu0 (σ : L2.St) : Nat := match σ with
  | some (.int i) :: _ => i.toNat
  | _ => 0
def oddL : List Str := ["by", "rule", "bar", "making", "sorts", "words", "thing", "holds", "awake", "asleep", "do", "make", "drop", "done", "yes", "no"]
def chkN (l : List Nat) : Bool := match l with
  | c :: cs => (decide (97 ≤ c) && decide (c ≤ 122)) && cs.all fun d => (decide (97 ≤ d) && decide (d ≤ 122)) || (decide (48 ≤ d) && decide (d ≤ 57))
  | [] => false
theorem chk_nm {z : Str} (h : chkN z.cps.toList = true) : NmP z := by
  cases e : z.cps.toList with
  | nil =>
    rw [e] at h
    cases h
  | cons c cs =>
    rw [e] at h
    unfold chkN at h
    simp only [Bool.and_eq_true, decide_eq_true_eq, List.all_eq_true, Bool.or_eq_true] at h
    exact ⟨c, cs, e, h.1, fun d hd => h.2 d hd⟩
theorem odd_nm : ∀ z ∈ oddL, NmP z ∧ z.length ≤ 12 := by
  have h : ∀ z ∈ oddL, chkN z.cps.toList = true ∧ z.length ≤ 12 := by decide +kernel
  exact fun z hz => ⟨chk_nm (h z hz).1, (h z hz).2⟩
def spNam : Sp := fun vs H Q _ => ∃ (p q r l : Addr) (n : Nat) (taken : List Str), vs = [.ref p, .ref l] ∧ PotAt H p q r n ∧ H l = some (.lst (taken.map V.str)) ∧ l ≠ p ∧ l ≠ q ∧ n ≤ 80000 ∧ taken.length ≤ 60 ∧ ∀ z H', NmP z → z.length ≤ 12 → z ∉ taken → Bt p q H H' → PotAt H' p q r (n + 12) → Q (.str z) H'
def spNms : Sp := fun vs H Q _ => ∃ (p q r : Addr) (n : Nat) (m : Int), vs = [.ref p, .int m] ∧ PotAt H p q r n ∧ n ≤ 50000 ∧ 0 ≤ m ∧ m ≤ 60 ∧ ∀ (zs : List Str) d H', H d = none → zs.Nodup → Bt p q H H' → PotAt H' p q r (n + 12 * m.toNat) → H' d = some (.lst (zs.map V.str)) → zs.length = m.toNat → (∀ z ∈ zs, NmP z ∧ z.length ≤ 12) → Q (.ref d) H'
def muA (a : Nat) (σ : L2.St) : Nat := match σ with
  | [_, _, _, some (.int i), _, _, _] => a + 62 - i.toNat
  | _ => 0
def muI (a : Nat) (σ : L2.St) : Nat := match σ with
  | [_, _, _, _, _, _, some (.int i)] => a + 62 - i.toNat
  | _ => 0
section
variable {P : Program} {w : World} {K : PySem.W.Frag} {mg : Str → Option Value} {base : Heap}
theorem scLrg : FnScope ["_law_pot_here", "_law_many", "_law_found", "_law_k"] ["_law_pot_here", "_law_many"] (defScope sLrg) := ⟨rfl, rfl, rfl, by decide +kernel, rfl, by decide +kernel, by decide +kernel⟩
theorem ok_lrg {f fT : Addr} {fd dT : FuncData} (F : Fun K "_law_large" "_law_large" sLrg f fd) (T : TxB mg) (DT : Dn K mg "_law_take" sTak ["_law_pot_here", "_law_many"] fT dT) (GT : FnOk P w K mg base CX0 2 fT dT ["_law_pot_here", "_law_many"] spTak) : FnOk P w K mg base CX0 3 f fd ["_law_pot_here", "_law_many"] spLrg := by
  refine F.ok scLrg (fun vs H Q E h => ?_) (fun cdv A outer s H vs Q E hr h => ?_)
  · obtain ⟨p, q, r, n, m, rfl, _⟩ := h
    rfl
  · obtain ⟨p, q, r, n, m, rfl, hP, hn, m0, k⟩ := h
    refine ⟨_, (pss_cons (ps_set (i := 2) scLrg.nd rfl (Or.inl rfl) pe_int)
      (pss_cons (ps_for PassesOwn.never rfl (pi_range1 rfl T.range (pa_cons pe_int pa_nil)) (pg_name (i := 3) scLrg.nd rfl (Or.inl rfl)) (pss_one (ps_set (i := 2) scLrg.nd rfl (Or.inl rfl) (pe_op op_add (pe_op op_mul (pv 2) pe_int) (pe_call GT hr rfl DT.g DT.F.kp DT.b .nil pass0 (pa_cons (pv 0) (pa_cons pe_int pa_nil)))))))
      (pss_one (ps_ret (pe_op op_mod (pv 2) (pv 1)))))), ?_⟩
    refine ⟨7, rfl, by decide, by decide, ?_⟩
    refine for_range (lo := 0) (n := 7) (fun t σ H' => (∃ (fo : Int) (v : Option V), σ = [some (.ref p), some (.int m), some (.int fo), v]) ∧ PotAt H' p q r (n + t) ∧ Bt p q H H') ⟨⟨0, none, rfl⟩, hP, Bt.refl _ _ _⟩ ?_ ?_
    · rintro t σ H1 ht ⟨⟨fo, v, rfl⟩, P1, B1⟩
      dsimp only [gName, List.set_cons_succ, List.set_cons_zero]
      refine ⟨_, rfl, _, _, rfl, rfl, .inr ⟨by decide, by decide⟩, _, rfl, p, q, r, n + t, 1000, rfl, P1, by omega, by decide, by decide, fun d H2 d0 d1 B2 P2 => ⟨_, _, rfl, rfl, ?_⟩⟩
      exact ⟨⟨_, _, rfl⟩, P2, B1.trans B2⟩
    · rintro σ H1 ⟨⟨fo, v, rfl⟩, P1, B1⟩
      refine ⟨_, rfl, _, rfl, _, _, rfl, rfl, m0, ?_⟩
      exact k _ _ (Int.emod_nonneg _ (by omega)) (Int.emod_lt_of_pos _ m0) B1 P1

theorem scNAt : FnScope ["_law_index", "_law_size", "_law_many", "_law_word", "_law_k"] ["_law_index"] (defScope sNAt) := ⟨rfl, rfl, rfl, by decide +kernel, rfl, by decide +kernel, by decide +kernel⟩
theorem ok_nat {f : Addr} {fd : FuncData} (F : Fun K "_law_name_at" "_law_name_at" sNAt f fd) (T : TxB mg) : FnOk P w K mg base CX0 1 f fd ["_law_index"] spNAt := by
  refine F.ok scNAt (fun vs H Q E h => ?_) (fun cdv A outer s H vs Q E hr h => ?_)
  · obtain ⟨i, rfl, _⟩ := h
    rfl
  · obtain ⟨i, rfl, hi, k⟩ := h
    refine ⟨_, (pss_cons (ps_set (i := 1) scNAt.nd rfl (Or.inl rfl) pe_int)
      (pss_cons (ps_set (i := 2) scNAt.nd rfl (Or.inl rfl) pe_int)
      (pss_cons (ps_while PassesOwn.never (pt_cmpR op_ge (pv 0) (pv 2) (nomark _)) (pss_cons (ps_set (i := 0) scNAt.nd rfl (Or.inl rfl) (pe_op op_sub (pv 0) (pv 2)))
      (pss_cons (ps_set (i := 2) scNAt.nd rfl (Or.inl rfl) (pe_op op_mul (pv 2) pe_int))
      (pss_one (ps_set (i := 1) scNAt.nd rfl (Or.inl rfl) (pe_op op_add (pv 1) pe_int))))))
      (pss_cons (ps_set (i := 3) scNAt.nd rfl (Or.inl rfl) pe_str)
      (pss_cons (ps_for PassesOwn.never rfl (pi_range1 rfl T.range (pa_cons (pv 1) pa_nil)) (pg_name (i := 4) scNAt.nd rfl (Or.inl rfl)) (pss_cons (ps_set (i := 3) scNAt.nd rfl (Or.inl rfl) (pe_op op_add_str (pe_ix ix_str pe_str (pe_op op_mod (pv 0) pe_int) (fun _ _ => rfl)) (pv 3)))
      (pss_one (ps_set (i := 0) scNAt.nd rfl (Or.inl rfl) (pe_op op_fdiv (pv 0) pe_int)))))
      (pss_one (ps_ret (pe_op op_add_str (pe_ix ix_str pe_str (pv 0) (fun _ _ => rfl)) (pv 3))))))))), ?_⟩
    refine while_by (fun σ H' => H' = H ∧ ∃ (j i' : Nat), σ = [some (.int (i' : Int)), some (.int (j : Int)), some (.int ((26 * 36 ^ j : Nat) : Int)), none, none] ∧ szF (12 - j) j i' = szF 12 0 i ∧ i' + bsN j = i ∧ j ≤ 11) (fun σ _ => mu0 σ) ⟨rfl, 0, i, rfl, rfl, rfl, by omega⟩ ?_ ?_
    · rintro σ H' ⟨rfl, j, i', rfl, hs, hb, j11⟩
      have f12 : 12 - j = (11 - j) + 1 := by omega
      rw [f12] at hs
      have hu : szF ((11 - j) + 1) j i' = if i' < 26 * 36 ^ j then (j, i') else szF (11 - j) (j + 1) (i' - 26 * 36 ^ j) := rfl
      rw [hu] at hs
      refine ⟨_, rfl, _, rfl, _, _, rfl, rfl, _, rfl, ?_⟩
      refine ite2 (fun z => ?_) (fun z => ?_)
      · have hz : ((26 * 36 ^ j : Nat) : Int) ≤ (i' : Int) := of_decide_eq_true z
        have hz : 26 * 36 ^ j ≤ i' := by omega
        rw [if_neg (by omega)] at hs
        have j10 : j + 1 ≤ 11 := by
          rcases Nat.lt_or_ge j 11 with q | q
          · omega
          · have ej : j = 11 := by omega
            subst ej
            have e12 : bsN 12 = bsN 11 + 26 * 36 ^ 11 := rfl
            rw [bs12] at e12
            omega
        refine ⟨_, rfl, _, rfl, _, _, rfl, rfl, ?_⟩
        dsimp only [List.set_cons_succ, List.set_cons_zero]
        refine ⟨_, rfl, _, _, rfl, rfl, .inl ⟨by omega, by rw [pw_cast]; exact pw_le j j11⟩, ?_⟩
        dsimp only [List.set_cons_succ, List.set_cons_zero]
        refine ⟨_, rfl, _, _, rfl, rfl, ?_⟩
        dsimp only [List.set_cons_succ, List.set_cons_zero]
        have p0 : 0 < 26 * 36 ^ j := Nat.mul_pos (by decide) (Nat.pow_pos (by decide))
        have ej : 12 - (j + 1) = 11 - j := by omega
        have eb : bsN (j + 1) = bsN j + 26 * 36 ^ j := rfl
        refine ⟨⟨rfl, j + 1, i' - 26 * 36 ^ j, ?_, by rw [ej]; exact hs, by omega, j10⟩, ?_⟩
        · have e1 : (i' : Int) - ((26 * 36 ^ j : Nat) : Int) = ((i' - 26 * 36 ^ j : Nat) : Int) := by omega
          have e2 : ((26 * 36 ^ j : Nat) : Int) * 36 = ((26 * 36 ^ (j + 1) : Nat) : Int) := by rw [Nat.pow_succ, ← Nat.mul_assoc]; omega
          have e3 : (j : Int) + 1 = ((j + 1 : Nat) : Int) := by omega
          rw [e1, e2, e3]
          rfl
        · show ((i' : Int) - ((26 * 36 ^ j : Nat) : Int)).toNat < (i' : Int).toNat
          omega
      · have hz : i' < 26 * 36 ^ j := by
          rcases Nat.lt_or_ge i' (26 * 36 ^ j) with q | q
          · exact q
          · exact absurd (decide_eq_true (show ((26 * 36 ^ j : Nat) : Int) ≤ (i' : Int) by omega)) z
        rw [if_pos hz] at hs
        have en : nmA i = ⟨(wdL j i').toArray⟩ := by
          unfold nmA
          rw [← hs]
        rw [en] at k
        refine ⟨_, rfl, (j : Int), rfl, by omega, by omega, ?_⟩
        refine for_range (lo := 0) (n := j) (fun t σ H'' => H'' = H' ∧ ∃ (i2 : Nat) (z : Str) (v : Option V), σ = [some (.int (i2 : Int)), some (.int j), some (.int ((26 * 36 ^ j : Nat) : Int)), some (.str z), v] ∧ i2 < 26 * 36 ^ (j - t) ∧ wdL (j - t) i2 ++ z.cps.toList = wdL j i' ∧ z.length = t) ⟨rfl, i', PySem.Str.ofString "", none, rfl, hz, (by rw [emp0, List.append_nil]; rfl), by rfl⟩ ?_ ?_
        · rintro t σ H'' ht ⟨rfl, i2, z, v, rfl, a1, wz, lz⟩
          dsimp only [gName, List.set_cons_succ, List.set_cons_zero]
          refine ⟨_, rfl, _, _, rfl, rfl, (show (0 : Int) < 36 by decide), ?_⟩
          refine rdItem (n := 36) abc36 (Int.emod_nonneg _ (by decide)) (Int.emod_lt_of_pos _ (by decide)) (by decide) fun c hc => ?_
          have em : ((i2 : Int) % 36).toNat = i2 % 36 := by omega
          rw [em] at hc
          have ec : c = sg (i2 % 36) := Option.some.inj (hc.symm.trans (sg_at (Nat.mod_lt _ (by decide))))
          subst ec
          refine ⟨_, rfl, _, _, rfl, rfl, Nat.le_trans (show 1 + z.length ≤ 100 by omega) (by decide), ?_⟩
          dsimp only [gName, List.set_cons_succ, List.set_cons_zero]
          refine ⟨_, rfl, _, _, rfl, rfl, ⟨by decide, by decide⟩, ?_⟩
          dsimp only [gName, List.set_cons_succ, List.set_cons_zero]
          have ed : (i2 : Int) / 36 = ((i2 / 36 : Nat) : Int) := by omega
          rw [ed]
          have e : j - t = (j - (t + 1)) + 1 := by omega
          rw [e] at a1 wz
          rw [Nat.pow_succ] at a1
          refine ⟨rfl, i2 / 36, _, _, rfl, by omega, ?_, ?_⟩
          · rw [toList_app]
            have wz : (wdL (j - (t + 1)) (i2 / 36) ++ [sg (i2 % 36)]) ++ z.cps.toList = wdL j i' := wz
            rw [List.append_assoc] at wz
            exact wz
          · rw [len_app]
            show 1 + z.length = t + 1
            omega
        · rintro σ H'' ⟨rfl, i2, z, v, rfl, a1, wz, lz⟩
          rw [Nat.sub_self] at a1 wz
          have a2 : i2 < 26 := by omega
          refine ⟨_, rfl, ?_⟩
          refine rdItem (n := 26) abc26 (by omega) (by omega) (by decide) fun c hc => ?_
          have em : (i2 : Int).toNat = i2 := by omega
          rw [em] at hc
          have ec : c = sg i2 := Option.some.inj (hc.symm.trans (sg_le0 ⟨i2, a2⟩))
          subst ec
          refine ⟨_, rfl, _, _, rfl, rfl, Nat.le_trans (show 1 + z.length ≤ 100 by omega) (by decide), ?_⟩
          have ez : (⟨#[sg i2]⟩ ++ z : Str) = ⟨(wdL j i').toArray⟩ := by
            rw [← wz]
            have q : (⟨#[sg i2]⟩ ++ z : Str).cps.toList = [sg i2] ++ z.cps.toList := toList_app _ _
            have q2 : ((⟨#[sg i2]⟩ ++ z : Str)).cps = ([sg i2] ++ z.cps.toList).toArray := Array.toList_inj.mp (by rw [q])
            cases h : (⟨#[sg i2]⟩ ++ z : Str)
            rw [h] at q2
            simp only at q2
            rw [q2]
            rfl
          rw [ez]
          exact k
    · intro σ H' Q1 Q2 f h
      obtain ⟨x, e1, y, e2, a, b, ha, hb, kb, ek, q⟩ := h
      exact ⟨x, e1, y, e2, a, b, ha, hb, kb, ek, f _ _ q⟩
theorem scNam : FnScope ["_law_pot_here", "_law_taken", "_law_kind", "_law_at", "_law_odd", "_law_word", "_law_index"] ["_law_pot_here", "_law_taken"] (defScope sNam) := ⟨rfl, rfl, rfl, by decide +kernel, rfl, by decide +kernel, by decide +kernel⟩
theorem ok_nam {f fT fA fL : Addr} {fd dT dA dL : FuncData} (F : Fun K "_law_name" "_law_name" sNam f fd) (T : TxB mg) (tstr : mg "str" = none) (DT : Dn K mg "_law_take" sTak ["_law_pot_here", "_law_many"] fT dT) (GT : FnOk P w K mg base CX0 2 fT dT ["_law_pot_here", "_law_many"] spTak)
    (DA : Dn K mg "_law_name_at" sNAt ["_law_index"] fA dA) (DL : Dn K mg "_law_large" sLrg ["_law_pot_here", "_law_many"] fL dL) (GL : FnOk P w K mg base CX0 3 fL dL ["_law_pot_here", "_law_many"] spLrg) : FnOk P w K mg base CX0 4 f fd ["_law_pot_here", "_law_taken"] spNam := by
  have GA : FnOk P w K mg base CX0 1 fA dA _ spNAt := ok_nat DA.F T
  refine F.ok scNam (fun vs H Q E h => ?_) (fun cdv A outer s H vs Q E hr h => ?_)
  · obtain ⟨p, q, r, l, n, taken, rfl, _⟩ := h
    rfl
  · obtain ⟨p, q, r, l, n, taken, rfl, hP, hl, nlp, nlq, hn, h60, k⟩ := h
    have hr1 : Room 1 _ := hr.mono (by decide)
    have hr2 : Room 2 _ := hr.mono (by decide)
    have hr3 : Room 3 _ := hr.mono (by decide)
    refine ⟨_, (pss_cons (ps_set (i := 2) scNam.nd rfl (Or.inl rfl) (pe_call GT hr2 rfl DT.g DT.F.kp DT.b .nil pass0 (pa_cons (pv 0) (pa_cons pe_int pa_nil))))
      (pss_cons (ps_if (pt_cmpR op_eq (pv 2) pe_int (nomark _)) (pss_cons (ps_set (i := 3) scNam.nd rfl (Or.inl rfl) (pe_op op_add pe_int (pe_call GT hr2 rfl DT.g DT.F.kp DT.b .nil pass0 (pa_cons (pv 0) (pa_cons pe_int pa_nil)))))
      (pss_cons (ps_while PassesOwn.never (pt_cmpR op_in_seq (pe_op op_add_str pe_str (pe_callTy call_str_int (by rfl) tstr (by decide +kernel) (pa_cons (pv 3) pa_nil))) (pv 1) (by rfl)) (pss_one (ps_set (i := 3) scNam.nd rfl (Or.inl rfl) (pe_op op_add (pv 3) pe_int))))
      (pss_one (ps_ret (pe_op op_add_str pe_str (pe_callTy call_str_int (by rfl) tstr (by decide +kernel) (pa_cons (pv 3) pa_nil))))))) pss_nil)
      (pss_cons (ps_set (i := 4) scNam.nd rfl (Or.inl rfl) (pe_lst (pa_cons pe_str (pa_cons pe_str (pa_cons pe_str (pa_cons pe_str (pa_cons pe_str (pa_cons pe_str (pa_cons pe_str (pa_cons pe_str (pa_cons pe_str (pa_cons pe_str pa_nil))))))))))))
      (pss_cons (ps_set (i := 4) scNam.nd rfl (Or.inl rfl) (pe_op op_cat (pv 4) (pe_lst (pa_cons pe_str (pa_cons pe_str (pa_cons pe_str (pa_cons pe_str (pa_cons pe_str (pa_cons pe_str pa_nil)))))))))
      (pss_cons (ps_set (i := 5) scNam.nd rfl (Or.inl rfl) (pe_ix ix_list (pv 4) (pe_call GT hr2 rfl DT.g DT.F.kp DT.b .nil pass0 (pa_cons (pv 0) (pa_cons pe_int pa_nil))) (fun _ _ => rfl)))
      (pss_cons (ps_if (PW.pt (pw_and (pt_cmpR op_eq (pv 2) pe_int (nomark _)) (pw_and1 (pt_cmpR op_notIn_seq (pv 5) (pv 1) (by rfl))))) (pss_one (ps_ret (pv 5))) pss_nil)
      (pss_cons (ps_set (i := 6) scNam.nd rfl (Or.inl rfl) (pe_call GT hr2 rfl DT.g DT.F.kp DT.b .nil pass0 (pa_cons (pv 0) (pa_cons pe_int pa_nil))))
      (pss_cons (ps_if (pt_cmpR op_eq (pv 2) pe_int (nomark _)) (pss_one (ps_set (i := 6) scNam.nd rfl (Or.inl rfl) (pe_call GT hr2 rfl DT.g DT.F.kp DT.b .nil pass0 (pa_cons (pv 0) (pa_cons pe_int pa_nil))))) pss_nil)
      (pss_cons (ps_if (pt_cmpR op_eq (pv 2) pe_int (nomark _)) (pss_one (ps_set (i := 6) scNam.nd rfl (Or.inl rfl) (pe_call GL hr3 rfl DL.g DL.F.kp DL.b .nil pass0 (pa_cons (pv 0) (pa_cons (pe_op op_pow pe_int pe_int) pa_nil))))) pss_nil)
      (pss_cons (ps_if (pt_cmpR op_eq (pv 2) pe_int (nomark _)) (pss_one (ps_set (i := 6) scNam.nd rfl (Or.inl rfl) (pe_op op_add (pe_op op_fdiv (pe_op op_mul pe_int (pe_op op_sub (pe_op op_pow pe_int pe_int) pe_int)) pe_int) (pe_call GL hr3 rfl DL.g DL.F.kp DL.b .nil pass0 (pa_cons (pv 0) (pa_cons (pe_op op_sub (pe_op op_mul pe_int (pe_op op_pow pe_int pe_int)) pe_int) pa_nil)))))) pss_nil)
      (pss_cons (ps_while PassesOwn.never (pt_cmpR op_in_seq (pe_call GA hr1 rfl DA.g DA.F.kp DA.b .nil pass0 (pa_cons (pv 6) pa_nil)) (pv 1) (by rfl)) (pss_one (ps_set (i := 6) scNam.nd rfl (Or.inl rfl) (pe_op op_add (pv 6) pe_int))))
      (pss_one (ps_ret (pe_call GA hr1 rfl DA.g DA.F.kp DA.b .nil pass0 (pa_cons (pv 6) pa_nil))))))))))))))), ?_⟩
    refine ⟨_, rfl, p, q, r, n, 7, rfl, hP, by omega, by decide, by decide, fun kd H1 k0 k7 B1 P1 => ?_⟩
    dsimp only [List.set_cons_succ, List.set_cons_zero]
    have l1 := B1 _ _ nlp nlq hl
    refine ⟨_, rfl, rfl, _, rfl, ?_⟩
    refine ite2 (fun z => ?_) (fun z => ?_)
    · -- one that finishing makes
      refine ⟨_, rfl, p, q, r, n + 1, 5, rfl, P1, by omega, by decide, by decide, fun d H2 d0 d5 B2 P2 => ⟨_, _, rfl, rfl, ?_⟩⟩
      dsimp only [List.set_cons_succ, List.set_cons_zero]
      obtain ⟨a, ea, a5⟩ : ∃ a : Nat, 1 + d = (a : Int) ∧ a ≤ 5 := ⟨(1 + d).toNat, by omega, by omega⟩
      rw [ea]
      have l2 := B2 _ _ nlp nlq l1
      refine while_by (fun σ H' => H' = H2 ∧ ∃ t : Nat, σ = [some (.ref p), some (.ref l), some (.int kd), some (.int ((a + t : Nat) : Int)), none, none, none] ∧ t ≤ 60 ∧ ∀ s, s < t → ("m" ++ numS (a + s) : Str) ∈ taken) (fun σ _ => muA a σ) ⟨rfl, 0, rfl, by omega, fun s hs => absurd hs (Nat.not_lt_zero s)⟩ ?_ ?_
      · rintro σ H' ⟨rfl, t, rfl, t6, al⟩
        have sz : (PySem.Str.ofString "m").length + (numS (a + t)).length ≤ sizeLine := by
          have nq := num_sign (n := a + t) (by omega)
          exact Nat.le_trans (show 1 + (numS (a + t)).length ≤ 100 by omega) (by decide)
        refine ⟨_, rfl, _, rfl, log_sm (by omega), _, _, rfl, rfl, sz, _, rfl, l, _, rfl, .inl (SqL.of l2), rfl, flats taken, _, rfl, ?_⟩
        show if inV (.str ("m" ++ numS (a + t))) (taken.map V.str) = true then _ else _
        rw [inV_strs]
        by_cases hm : ("m" ++ numS (a + t) : Str) ∈ taken
        · rw [decide_eq_true hm]
          refine iteT ?_
          have al' : ∀ s, s < t + 1 → ("m" ++ numS (a + s) : Str) ∈ taken := fun s hs => by
            by_cases e : s = t
            · rw [e]
              exact hm
            · exact al s (by omega)
          have hle := holes (f := fun s => ("m" ++ numS (a + s) : Str)) (n := t + 1) (fun x y hx hy e => by
            have := num_inj (show a + x < 70 by omega) (show a + y < 70 by omega) (app_inj e)
            omega) al'
          refine ⟨_, rfl, _, _, rfl, rfl, ?_⟩
          refine ⟨⟨rfl, t + 1, ?_, by omega, al'⟩, ?_⟩
          · have e : ((a + t : Nat) : Int) + 1 = ((a + (t + 1) : Nat) : Int) := by omega
            dsimp only [gName, List.set_cons_succ, List.set_cons_zero]
            rw [e]
          · show a + 62 - (((a + t : Nat) : Int) + 1).toNat < a + 62 - ((a + t : Nat) : Int).toNat
            omega
        · rw [decide_eq_false hm]
          refine iteF ?_
          refine ⟨_, rfl, _, rfl, log_sm (by omega), _, _, rfl, rfl, sz, ?_⟩
          have z := m_nm (k := a + t) (by omega)
          exact k _ _ z.1 z.2 hm (B1.trans B2) (P2.mono (by omega))
      · intro σ H' Q1 Q2 f h
        obtain ⟨x, e1, y, e2, lg, a', b', ea', eb', sz', u, eu, p', xs, e3, aa, b, c, bb, e4, q⟩ := h
        exact ⟨x, e1, y, e2, lg, a', b', ea', eb', sz', u, eu, p', xs, e3, aa, b, c, bb, e4, f _ _ q⟩
    -- an odd word, or one at an index
    refine ⟨by show 10 ≤ sizeLine; decide, fun la hla => ?_⟩
    dsimp only [List.set_cons_succ, List.set_cons_zero]
    have SA : Same H1 (upd H1 la (.lst [.str "by", .str "rule", .str "bar", .str "making", .str "sorts", .str "words", .str "thing", .str "holds", .str "awake", .str "asleep"])) := Same.upd hla
    have ea : (upd H1 la (.lst [.str "by", .str "rule", .str "bar", .str "making", .str "sorts", .str "words", .str "thing", .str "holds", .str "awake", .str "asleep"])) la = some (.lst [.str "by", .str "rule", .str "bar", .str "making", .str "sorts", .str "words", .str "thing", .str "holds", .str "awake", .str "asleep"]) := upd_same
    generalize upd H1 la (.lst [.str "by", .str "rule", .str "bar", .str "making", .str "sorts", .str "words", .str "thing", .str "holds", .str "awake", .str "asleep"]) = Ha at SA ea
    refine ⟨_, rfl, by show 6 ≤ sizeLine; decide, fun lb hlb => ?_⟩
    have SB : Same Ha (upd Ha lb (.lst [.str "do", .str "make", .str "drop", .str "done", .str "yes", .str "no"])) := Same.upd hlb
    have eb : (upd Ha lb (.lst [.str "do", .str "make", .str "drop", .str "done", .str "yes", .str "no"])) lb = some (.lst [.str "do", .str "make", .str "drop", .str "done", .str "yes", .str "no"]) := upd_same
    have ea2 := SB _ _ ea
    generalize upd Ha lb (.lst [.str "do", .str "make", .str "drop", .str "done", .str "yes", .str "no"]) = Hb at SB eb ea2
    refine ⟨la, lb, _, _, rfl, rfl, ea2, eb, by show 16 ≤ sizeLine; decide, fun lo hlo => ?_⟩
    dsimp only [List.set_cons_succ, List.set_cons_zero]
    have SC : Same Hb (upd Hb lo (.lst ([.str "by", .str "rule", .str "bar", .str "making", .str "sorts", .str "words", .str "thing", .str "holds", .str "awake", .str "asleep"] ++ [.str "do", .str "make", .str "drop", .str "done", .str "yes", .str "no"]))) := Same.upd hlo
    have eo : (upd Hb lo (.lst ([.str "by", .str "rule", .str "bar", .str "making", .str "sorts", .str "words", .str "thing", .str "holds", .str "awake", .str "asleep"] ++ [.str "do", .str "make", .str "drop", .str "done", .str "yes", .str "no"]))) lo = some (.lst (oddL.map V.str)) := upd_same
    have S1 := (SA.trans SB).trans SC
    have P2 := P1.same S1
    have nlo := ((P1.same (SA.trans SB)).ne hlo)
    generalize upd Hb lo (.lst ([.str "by", .str "rule", .str "bar", .str "making", .str "sorts", .str "words", .str "thing", .str "holds", .str "awake", .str "asleep"] ++ [.str "do", .str "make", .str "drop", .str "done", .str "yes", .str "no"])) = H2 at SC eo S1 P2
    have l2 := S1 _ _ l1
    have B2 : Bt p q H H2 := B1.trans (Same.bt S1)
    refine ⟨_, rfl, _, rfl, p, q, r, n + 1, 16, rfl, P2, by omega, by decide, by decide, fun d H3 d0 d16 B3 P3 => ?_⟩
    have jlt : d.toNat < oddL.length := by show d.toNat < 16; omega
    refine rdList (B3 _ _ nlo.1 nlo.2.1 eo) (j := d.toNat) (v := .str (oddL[d.toNat]'jlt)) (by omega) (by rw [List.getElem?_map, List.getElem?_eq_getElem jlt]; rfl) ?_
    dsimp only [List.set_cons_succ, List.set_cons_zero]
    have oz := odd_nm _ (List.getElem_mem jlt)
    have l3 := B3 _ _ nlp nlq l2
    have B03 := B2.trans B3
    generalize oddL[d.toNat]'jlt = zo at oz
    refine cut1 (fun σ' H' => σ' = [some (.ref p), some (.ref l), some (.int kd), none, some (.ref lo), some (.str zo), none] ∧ H' = H3) ?_ (fun R' fin => ?_)
    rotate_left
    · refine ⟨_, rfl, rfl, _, rfl, ?_⟩
      refine ite2 (fun z1 => ?_) (fun z1 => ?_)
      · refine ⟨_, rfl, _, rfl, l, _, rfl, .inl (SqL.of l3), rfl, flats taken, _, rfl, ?_⟩
        rw [inV_strs]
        by_cases hm : zo ∈ taken
        · rw [decide_eq_true hm]
          refine iteF ?_
          exact fin _ _ ⟨rfl, rfl⟩
        · rw [decide_eq_false hm]
          refine iteT ?_
          exact ⟨_, rfl, k _ _ oz.1 oz.2 hm B03 (P3.mono (by omega))⟩
      · refine iteF ?_
        exact fin _ _ ⟨rfl, rfl⟩
    rintro σ' H' ⟨rfl, rfl⟩
    refine ⟨_, rfl, p, q, r, n + 2, 26, rfl, P3, by omega, by decide, by decide, fun d4 H4 d40 d41 B4 P4 => ?_⟩
    dsimp only [List.set_cons_succ, List.set_cons_zero]
    have B04 := B03.trans B4
    have l4 := B4 _ _ nlp nlq l3
    have R : Mx = 3519940422753201122 := rfl
    refine cut3 (fun σ' H' => ∃ ix : Nat, σ' = [some (.ref p), some (.ref l), some (.int kd), none, some (.ref lo), some (.str zo), some (.int (ix : Int))] ∧ ix + 100 < Mx ∧ Bt p q H H' ∧ PotAt H' p q r (n + 12) ∧ H' l = some (.lst (taken.map V.str))) ?_ (fun R' fin => ?_)
    · rintro σ' H5 ⟨ix, rfl, x1, B5, P5, l5⟩
      refine while_by (fun σ H' => H' = H5 ∧ ∃ t : Nat, σ = [some (.ref p), some (.ref l), some (.int kd), none, some (.ref lo), some (.str zo), some (.int ((ix + t : Nat) : Int))] ∧ t ≤ 60 ∧ ∀ s, s < t → nmA (ix + s) ∈ taken) (fun σ _ => muI ix σ) ⟨rfl, 0, rfl, by omega, fun s hs => absurd hs (Nat.not_lt_zero s)⟩ ?_ ?_
      · rintro σ H' ⟨rfl, t, rfl, t6, al⟩
        refine ⟨_, rfl, ix + t, rfl, by omega, ?_⟩
        refine ⟨_, rfl, l, _, rfl, .inl (SqL.of l5), rfl, flats taken, _, rfl, ?_⟩
        show if inV (.str (nmA (ix + t))) (taken.map V.str) = true then _ else _
        rw [inV_strs]
        by_cases hm : nmA (ix + t) ∈ taken
        · rw [decide_eq_true hm]
          refine iteT ?_
          have al' : ∀ s, s < t + 1 → nmA (ix + s) ∈ taken := fun s hs => by
            by_cases e : s = t
            · rw [e]
              exact hm
            · exact al s (by omega)
          have hle := holes (f := fun s => nmA (ix + s)) (n := t + 1) (fun x y hx hy e => by
            have := nmA_inj (show ix + x < Mx by omega) (show ix + y < Mx by omega) e
            omega) al'
          refine ⟨_, rfl, _, _, rfl, rfl, ?_⟩
          refine ⟨⟨rfl, t + 1, ?_, by omega, al'⟩, ?_⟩
          · have e : ((ix + t : Nat) : Int) + 1 = ((ix + (t + 1) : Nat) : Int) := by omega
            dsimp only [gName, List.set_cons_succ, List.set_cons_zero]
            rw [e]
          · show ix + 62 - (((ix + t : Nat) : Int) + 1).toNat < ix + 62 - ((ix + t : Nat) : Int).toNat
            omega
        · rw [decide_eq_false hm]
          refine iteF ?_
          have z := nmA_nm (i := ix + t) (by omega)
          exact ⟨_, rfl, ix + t, rfl, by omega, k _ _ z.1 z.2 hm B5 P5⟩
      · intro σ H' Q1 Q2 f h
        obtain ⟨x, e1, i, ei, i0, u, eu, p', xs, e3, aa, b, c, bb, e4, q⟩ := h
        exact ⟨x, e1, i, ei, i0, u, eu, p', xs, e3, aa, b, c, bb, e4, f _ _ q⟩
    have nat : ∀ d : Int, 0 ≤ d → ∃ m : Nat, d = (m : Int) := fun d h => ⟨d.toNat, by omega⟩
    refine ⟨_, rfl, rfl, _, rfl, ?_⟩
    refine ite2 (fun z2 => ?_) (fun z2 => ?_)
    · have e2 : kd = 2 := V.int.inj (of_decide_eq_true z2)
      subst e2
      refine ⟨_, rfl, p, q, r, n + 3, 962, rfl, P4, by omega, by decide, by decide, fun d5 H5 d50 d51 B5 P5 => ?_⟩
      dsimp only [gName, List.set_cons_succ, List.set_cons_zero]
      refine ⟨_, rfl, rfl, _, rfl, ?_⟩
      refine ite2 (fun q => absurd (V.int.inj (of_decide_eq_true q)) (by decide)) (fun _ => ?_)
      refine ⟨_, rfl, rfl, _, rfl, ?_⟩
      refine ite2 (fun q => absurd (V.int.inj (of_decide_eq_true q)) (by decide)) (fun _ => ?_)
      obtain ⟨m5, rfl⟩ := nat d5 d50
      exact fin _ _ ⟨m5, rfl, by omega, B04.trans B5, P5.mono (by omega), B5 _ _ nlp nlq l4⟩
    refine ⟨_, rfl, rfl, _, rfl, ?_⟩
    refine ite2 (fun z3 => ?_) (fun z3 => ?_)
    · have e3 : kd = 3 := V.int.inj (of_decide_eq_true z3)
      subst e3
      refine ⟨_, rfl, _, _, rfl, rfl, ⟨by decide, by decide, by decide⟩, p, q, r, n + 3, _, rfl, P4, by omega, by decide, fun d5 H5 d50 d51 B5 P5 => ?_⟩
      dsimp only [gName, List.set_cons_succ, List.set_cons_zero]
      have d52 : d5 < 1000000000 := d51
      refine ⟨_, rfl, rfl, _, rfl, ?_⟩
      refine ite2 (fun q => absurd (V.int.inj (of_decide_eq_true q)) (by decide)) (fun _ => ?_)
      obtain ⟨m5, rfl⟩ := nat d5 d50
      exact fin _ _ ⟨m5, rfl, by omega, B04.trans B5, P5.mono (by omega), B5 _ _ nlp nlq l4⟩
    refine ⟨_, rfl, rfl, _, rfl, ?_⟩
    refine ite2 (fun z4 => ?_) (fun z4 => ?_)
    · refine ⟨_, _, rfl, rfl, ⟨by decide, by decide, by decide⟩, _, _, rfl, rfl, _, _, rfl, rfl, .inl ⟨by decide, by decide⟩, _, _, rfl, rfl, ⟨by decide, by decide⟩, ?_⟩
      refine ⟨_, rfl, _, _, rfl, rfl, ⟨by decide, by decide, by decide⟩, _, _, rfl, rfl, .inl ⟨by decide, by decide⟩, _, _, rfl, rfl, p, q, r, n + 3, _, rfl, P4, by omega, by decide, fun d5 H5 d50 d51 B5 P5 => ⟨_, _, rfl, rfl, ?_⟩⟩
      dsimp only [gName, List.set_cons_succ, List.set_cons_zero]
      have d52 : d5 < 3422164299898945336 := d51
      obtain ⟨m5, rfl⟩ := nat d5 d50
      refine fin _ _ ⟨97776122854255586 + m5, ?_, ?_, B04.trans B5, P5.mono (by omega), B5 _ _ nlp nlq l4⟩
      · have e : ((97776122854255586 + m5 : Nat) : Int) = (97776122854255586 : Int) + (m5 : Int) := by omega
        rw [e]
        rfl
      · omega
    · obtain ⟨m4, rfl⟩ := nat d4 d40
      exact fin _ _ ⟨m4, rfl, by omega, B04, P4.mono (by omega), l4⟩
end
end Wm
namespace Wm
open PySem L2
theorem grow {ws : List Str} {i : Nat} {z : Str} {ds : List Str} (hz : ws[i]? = some z) (hd : ds.Sublist (ws.take i)) : (ds ++ [z]).Sublist (ws.take (i + 1)) ∧ ds.Sublist (ws.take (i + 1)) := by
  rw [List.take_add_one, hz]
  exact ⟨hd.append (List.Sublist.refl _), hd.trans (List.sublist_append_left _ _)⟩
def spSom : Sp := fun vs H Q _ => ∃ (p q r l : Addr) (n : Nat) (ws : List Str), vs = [.ref p, .ref l] ∧ PotAt H p q r n ∧ n ≤ 80000 ∧ H l = some (.lst (ws.map V.str)) ∧ l ≠ p ∧ l ≠ q ∧ ws.length ≤ 60 ∧ ws.Nodup ∧ ∀ (zs : List Str) d H', H d = none → zs.Nodup → (∀ z ∈ zs, z ∈ ws) → zs.length ≤ ws.length → Bt p q H H' → PotAt H' p q r (n + ws.length + 1) → H' d = some (.lst (zs.map V.str)) → Q (.ref d) H'
section
variable {P : Program} {w : World} {K : PySem.W.Frag} {mg : Str → Option Value} {base : Heap}
theorem scNms : FnScope ["_law_pot_here", "_law_many", "_law_found", "_law_k"] ["_law_pot_here", "_law_many"] (defScope sNms) := ⟨rfl, rfl, rfl, by decide +kernel, rfl, by decide +kernel, by decide +kernel⟩
theorem ok_nms {f fN : Addr} {fd dN : FuncData} (F : Fun K "_law_names" "_law_names" sNms f fd) (T : TxB mg) (DNa : Dn K mg "_law_name" sNam ["_law_pot_here", "_law_taken"] fN dN) (GNa : FnOk P w K mg base CX0 4 fN dN ["_law_pot_here", "_law_taken"] spNam) : FnOk P w K mg base CX0 5 f fd ["_law_pot_here", "_law_many"] spNms := by
  refine F.ok scNms (fun vs H Q E h => ?_) (fun cdv A outer s H vs Q E hr h => ?_)
  · obtain ⟨p, q, r, n, m, rfl, _⟩ := h
    rfl
  · obtain ⟨p, q, r, n, m, rfl, hP, hn, m0, m6, k⟩ := h
    have hr4 : Room 4 _ := hr
    refine ⟨_, (pss_cons (ps_set (i := 2) scNms.nd rfl (Or.inl rfl) (pe_lst pa_nil))
      (pss_cons (ps_for PassesOwn.never rfl (pi_range1 rfl T.range (pa_cons (pv 1) pa_nil)) (pg_name (i := 3) scNms.nd rfl (Or.inl rfl)) (pss_one (ps_expr (pe_bm PySem.F.plainAttrs_list PySem.F.slot_list_append PySem.F.type_list_append mt_append (pv 2) (pa_cons (pe_call GNa hr4 rfl DNa.g DNa.F.kp DNa.b .nil pass0 (pa_cons (pv 0) (pa_cons (pv 2) pa_nil))) pa_nil)))))
      (pss_one (ps_ret (pv 2))))), ?_⟩
    refine ⟨Nat.zero_le _, fun d hd => ?_⟩
    have nd3 := hP.ne hd
    refine ⟨_, rfl, m, rfl, by omega, by omega, ?_⟩
    refine for_range (n := m.toNat) (fun i σ H' => (∃ u, σ = [some (.ref p), some (.int m), some (.ref d), u]) ∧ ∃ zs : List Str, H' d = some (.lst (zs.map V.str)) ∧ zs.Nodup ∧ (∀ z ∈ zs, NmP z ∧ z.length ≤ 12) ∧ zs.length = i ∧ Bt p q H H' ∧ PotAt H' p q r (n + 12 * i))
      ⟨⟨none, rfl⟩, [], upd_same, List.nodup_nil, fun z hz => (List.not_mem_nil hz).elim, rfl, (Bt.refl p q H).new hd, hP.upd nd3.1 nd3.2.1 nd3.2.2⟩ ?_ ?_
    · rintro i σ H1 hi ⟨⟨u, rfl⟩, zs, hl, nd, nm, len, B, PA⟩
      refine ⟨_, rfl, .inl ⟨rfl, _, SqL.of hl⟩, _, rfl, _, rfl, p, q, r, d, n + 12 * i, zs, rfl, PA, hl, nd3.1, nd3.2.1, by omega, by omega, fun z H2 hz hz6 hm B2 P2 => ?_⟩
      have hl2 := B2 d _ nd3.1 nd3.2.1 hl
      refine ⟨d, _, _, rfl, rfl, hl2, ?_, ?_⟩
      · rw [List.length_map]
        exact Nat.lt_of_le_of_lt (show _ ≤ 1000 by omega) (by decide)
      · refine ⟨⟨_, rfl⟩, zs ++ [z], ?_, ?_, ?_, ?_, (B.trans B2).new hd, (P2.upd nd3.1 nd3.2.1 nd3.2.2).mono (by omega)⟩
        · rw [upd_same, List.map_append]
          rfl
        · rw [List.nodup_append]
          exact ⟨nd, (by simp : [z].Nodup), fun a ha b hb e => by
            have eb : b = z := by simpa using hb
            rw [e, eb] at ha
            exact hm ha⟩
        · intro y hy
          rcases List.mem_append.mp hy with hy | hy
          · exact nm y hy
          · rw [List.mem_singleton.mp hy]
            exact ⟨hz, hz6⟩
        · rw [List.length_append, List.length_singleton]
          omega
    · rintro σ H1 ⟨⟨u, rfl⟩, zs, hl, nd, nm, len, B, PA⟩
      exact ⟨_, rfl, k zs d H1 hd nd B PA hl len nm⟩
theorem scSom : FnScope ["_law_pot_here", "_law_words", "_law_found", "_law_word"] ["_law_pot_here", "_law_words"] (defScope sSom) := ⟨rfl, rfl, rfl, by decide +kernel, rfl, by decide +kernel, by decide +kernel⟩
theorem ok_som {f fT : Addr} {fd dT : FuncData} (F : Fun K "_law_some" "_law_some" sSom f fd) (T : TxB mg) (DT : Dn K mg "_law_take" sTak ["_law_pot_here", "_law_many"] fT dT) (GT : FnOk P w K mg base CX0 2 fT dT ["_law_pot_here", "_law_many"] spTak) : FnOk P w K mg base CX0 3 f fd ["_law_pot_here", "_law_words"] spSom := by
  refine F.ok scSom (fun vs H Q E h => ?_) (fun cdv A outer s H vs Q E hr h => ?_)
  · obtain ⟨p, q, r, l, n, ws, rfl, _⟩ := h
    rfl
  · obtain ⟨p, q, r, l, n, ws, rfl, hP, hn, hl, nlp, nlq, h60, hnd, k⟩ := h
    have hr2 : Room 2 _ := hr
    refine ⟨_, (pss_cons (ps_setLc (i := 2) (own := [("_law_word", 3)]) (g := gName 3) rfl scSom.nd rfl rfl (sw_true rfl rfl rfl (by decide +kernel)) (pi_list (pv 1)) (blkOk_by (N := ["_law_pot_here", "_law_words", "_law_found", "_law_word"]) (sc := defScope sSom) (by decide +kernel)) (fun _ _ _ _ _ => (pg_name (i := 3) scSom.nd rfl (Or.inl rfl))) (fun _ _ _ _ _ => (pts_one (pt_cmpR op_eq (pe_call GT hr2 rfl DT.g DT.F.kp DT.b .nil pass0 (pa_cons (pv 0) (pa_cons pe_int pa_nil))) pe_int (nomark _)))) (fun _ _ _ _ _ => (pv 3)))
      (pss_cons (ps_if (pt_cmpR op_eq (pe_call GT hr2 rfl DT.g DT.F.kp DT.b .nil pass0 (pa_cons (pv 0) (pa_cons pe_int pa_nil))) pe_int (nomark _)) (pss_one (ps_ret (pe_revL (pv 2)))) pss_nil)
      (pss_one (ps_ret (pv 2))))), ?_⟩
    refine ⟨_, rfl, l, rfl, ⟨_, SqL.of hl⟩, fun D hD => ?_⟩
    have nD := hP.ne hD
    refine lc_list (K := K) (a := l) (xs := ws.map V.str) (fun i H' => ∃ ds : List Str, ds.Sublist (ws.take i) ∧ H' D = some (.lst (ds.map V.str)) ∧ Bt p q H H' ∧ PotAt H' p q r (n + i)) ⟨[], List.Sublist.refl _, upd_same, (Bt.refl p q H).new hD, hP.upd nD.1 nD.2.1 nD.2.2⟩ (fun i H' _ ⟨ds, _, _, B, _⟩ => SqL.of (B _ _ nlp nlq hl)) ?_ ?_
    · rintro i x H1 hx ⟨ds, sb, hd, B, S⟩
      obtain ⟨z, hz, rfl⟩ := map_str_get hx
      obtain ⟨g1, g2⟩ := grow hz sb
      have iw : i < ws.length := (List.getElem?_eq_some_iff.mp hz).1
      refine ⟨rfl, _, rfl, p, q, r, n + i, 2, rfl, S, by omega, by decide, by decide, fun d2 H2 d0 d1 B2 S2 => ⟨rfl, _, rfl, ?_⟩⟩
      have hd2 := B2 _ _ nD.1 nD.2.1 hd
      refine ite2 (fun _ => ⟨_, rfl, _, hd2, ?_, ds ++ [z], g1, ?_, (B.trans B2).new hD, S2.upd nD.1 nD.2.1 nD.2.2⟩) (fun _ => ⟨ds, g2, hd2, B.trans B2, S2⟩)
      · have q := sb.length_le
        rw [List.length_take] at q
        rw [List.length_map]
        exact Nat.lt_of_le_of_lt (show _ ≤ 1000 by omega) (by decide)
      · rw [upd_same, List.map_append]
        rfl
    rintro H1 ⟨ds, sb, hd, B, S⟩
    rw [List.length_map, List.take_length] at sb
    rw [List.length_map] at S
    dsimp only [gName, List.set_cons_succ, List.set_cons_zero]
    have ll := sb.length_le
    refine ⟨_, rfl, p, q, r, _, 2, rfl, S, by omega, by decide, by decide, fun d2 H2 d0 d1 B2 S2 => ⟨rfl, _, rfl, ?_⟩⟩
    have hd2 := B2 _ _ nD.1 nD.2.1 hd
    have BB := B.trans B2
    refine ite2 (fun _ => ?_) (fun _ => ?_)
    · refine ⟨_, rfl, D, _, rfl, SqL.of hd2, fun E1 hE => ?_⟩
      have nE := S2.ne hE
      have e : (ds.map V.str).reverse = ds.reverse.map V.str := by rw [List.map_reverse]
      rw [e]
      exact k ds.reverse E1 _ (BB.free nE.1 nE.2.1 hE) (by unfold List.Nodup; rw [List.pairwise_reverse]; exact (sb.nodup hnd).imp Ne.symm) (fun z hz => sb.subset (List.mem_reverse.mp hz)) (by rw [List.length_reverse]; exact ll) (BB.new (BB.free nE.1 nE.2.1 hE)) (S2.upd nE.1 nE.2.1 nE.2.2) upd_same
    · exact ⟨_, rfl, k ds D _ hD (sb.nodup hnd) (fun z hz => sb.subset hz) ll BB S2 hd2⟩
end
end Wm
namespace Wm
open PySem L2
/-- a condition by the places of its ends -/
abbrev En := Nat × Str × Nat
def enV (e : En) : List V := [.int (e.1 : Int), .str e.2.1, .int (e.2.2 : Int)]
structure EnOk (c : Nat) (ws : List Str) (es : List En) : Prop where
  c1 : 1 ≤ c
  c4 : c ≤ 4
  nl : es = [] → c = 1
  el : ∀ e ∈ es, e.1 < c ∧ e.2.2 < c ∧ e.2.1 ∈ ws
  al : es ≠ [] → ∀ i, i < c → ∃ e ∈ es, i = e.1 ∨ i = e.2.2
  hg : ∀ (j : Nat) (e : En), 0 < j → es[j]? = some e → ∃ i, (i = e.1 ∨ i = e.2.2) ∧ ∃ e' ∈ es.take j, i = e'.1 ∨ i = e'.2.2
theorem EnOk.start (ws : List Str) : EnOk 1 ws [] where
  c1 := by omega
  c4 := by omega
  nl := fun _ => rfl
  el := fun e he => (List.not_mem_nil he).elim
  al := fun h => absurd rfl h
  hg := fun j e _ h => by simp at h
theorem EnOk.add {c : Nat} {ws : List Str} {es : List En} {one other : Nat} {wd : Str} {e : En} (h : EnOk c ws es) (h1 : one < c) (h2 : other < c + 1) (h3 : other < 4) (hw : wd ∈ ws) (he : e = (one, wd, other) ∨ e = (other, wd, one)) : EnOk (max c (other + 1)) ws (es ++ [e]) := by
  have ends : ∀ i, i = one ∨ i = other → i = e.1 ∨ i = e.2.2 := fun i hi => by
    rcases he with rfl | rfl
    · exact hi
    · exact hi.symm
  refine ⟨by have := h.c1; omega, by have := h.c4; omega, fun z => ?_, fun x hx => ?_, fun _ i hi => ?_, fun j x hj hx => ?_⟩
  · simp at z
  · rcases List.mem_append.mp hx with q | q
    · obtain ⟨a, b, d⟩ := h.el x q
      exact ⟨by omega, by omega, d⟩
    · rw [List.mem_singleton.mp q]
      rcases he with rfl | rfl
      · exact ⟨by show one < _; omega, by show other < _; omega, hw⟩
      · exact ⟨by show other < _; omega, by show one < _; omega, hw⟩
  · by_cases ne : es = []
    · have c0 := h.nl ne
      refine ⟨e, List.mem_append_right _ (List.mem_singleton.mpr rfl), ends i ?_⟩
      omega
    · by_cases ic : i < c
      · obtain ⟨x, hx, q⟩ := h.al ne i ic
        exact ⟨x, List.mem_append_left _ hx, q⟩
      · refine ⟨e, List.mem_append_right _ (List.mem_singleton.mpr rfl), ends i (.inr ?_)⟩
        omega
  · rcases Nat.lt_or_ge j es.length with q | q
    · rw [List.getElem?_append_left q] at hx
      obtain ⟨i, hi, e', he', z⟩ := h.hg j x hj hx
      refine ⟨i, hi, e', ?_, z⟩
      rw [List.take_append_of_le_length (by omega)]
      exact he'
    · rw [List.getElem?_append_right q] at hx
      have j0 : j - es.length = 0 := by
        rcases Nat.eq_zero_or_pos (j - es.length) with z | z
        · exact z
        · rw [List.getElem?_eq_none (by simp; omega)] at hx
          cases hx
      rw [j0] at hx
      have ex : x = e := (Option.some.inj hx).symm
      subst ex
      have ne : es ≠ [] := fun z => by
        rw [z] at q j0
        simp at q j0
        omega
      obtain ⟨e', he', z⟩ := h.al ne one h1
      refine ⟨one, ends one (.inl rfl), e', ?_, z⟩
      have ej : j = es.length := by omega
      rw [ej, List.take_append_of_le_length (Nat.le_refl _), List.take_length]
      exact he'
def atZ (zs : List Str) (i : Nat) : Str := zs.getD i ""
def csOf (zs : List Str) (es : List En) : List Tri := es.map fun e => (atZ zs e.1, e.2.1, atZ zs e.2.2)
theorem atZ_get {zs : List Str} {i : Nat} (h : i < zs.length) : zs[i]? = some (atZ zs i) := by
  unfold atZ
  rw [List.getD_eq_getElem?_getD, List.getElem?_eq_getElem h]
  rfl
theorem atZ_mem {zs : List Str} {i : Nat} (h : i < zs.length) : atZ zs i ∈ zs := List.mem_of_getElem? (atZ_get h)
theorem mem_ends {ts : List Tri} {z : Str} : z ∈ endsL ts ↔ ∃ t ∈ ts, z = t.1 ∨ z = t.2.2 := by
  unfold endsL
  rw [List.mem_flatMap]
  constructor
  · rintro ⟨t, ht, hz⟩
    refine ⟨t, ht, ?_⟩
    simpa using hz
  · rintro ⟨t, ht, hz⟩
    refine ⟨t, ht, ?_⟩
    simpa using hz
theorem noTw_nd {zs : List Str} (h : zs.Nodup) : NoTw (zs.map V.str) := fun i x e => by
  rw [List.getElem?_map] at e
  obtain ⟨z, ez, rfl⟩ := Option.map_eq_some_iff.mp e
  rw [← List.map_take, inV_strs]
  refine decide_eq_false fun hm => ?_
  obtain ⟨j, hj⟩ := List.mem_iff_getElem?.mp hm
  have hlt : j < i := by
    have q := (List.getElem?_eq_some_iff.mp hj).1
    rw [List.length_take] at q
    omega
  rw [List.getElem?_take_of_lt hlt] at hj
  have hil := (List.getElem?_eq_some_iff.mp ez).1
  have e1 := (List.getElem?_eq_some_iff.mp ez).2
  have hjl := (List.getElem?_eq_some_iff.mp hj).1
  have e2 := (List.getElem?_eq_some_iff.mp hj).2
  exact (List.pairwise_iff_getElem.mp h) j i hjl hil hlt (e2.trans e1.symm)
theorem pat_ok {zs ws : List Str} {es : List En} {vars : List Var} {gs : List Tri} {hs : List Str} (h : EnOk zs.length ws es) (ne : es ≠ []) (l3 : es.length ≤ 3) (nd : zs.Nodup) (hp : (vars.map (·.1)).Perm zs) (g1 : gs.length ≤ 1) (h1 : hs.length ≤ 1) (hg : ∀ z ∈ endsL gs ++ hs, z ∈ zs) : PatOk vars (csOf zs es) gs hs := by
  have lv : vars.length = zs.length := by
    have := hp.length_eq
    rw [List.length_map] at this
    exact this
  have lc : (csOf zs es).length = es.length := List.length_map ..
  have inE : ∀ z ∈ endsL (csOf zs es), z ∈ zs := fun z hz => by
    obtain ⟨t, ht, q⟩ := mem_ends.mp hz
    obtain ⟨e, he, rfl⟩ := List.mem_map.mp ht
    obtain ⟨a, b, _⟩ := h.el e he
    rcases q with rfl | rfl
    · exact atZ_mem a
    · exact atZ_mem b
  refine ⟨by rw [lv]; exact h.c1, by rw [lv]; exact h.c4, ?_, by rw [lc]; exact l3, g1, h1, noTw_nd (hp.nodup_iff.mpr nd), fun z hz => ?_, fun z hz => ?_, fun i t hi ht => ?_⟩
  · rw [lc]
    exact List.length_pos_iff.mpr ne
  · refine hp.mem_iff.mpr ?_
    rcases List.mem_append.mp hz with q | q
    · have e : endsL (csOf zs es ++ gs) = endsL (csOf zs es) ++ endsL gs := by
        unfold endsL
        rw [List.flatMap_append]
      rw [e] at q
      rcases List.mem_append.mp q with q | q
      · exact inE z q
      · exact hg z (List.mem_append_left _ q)
    · exact hg z (List.mem_append_right _ q)
  · obtain ⟨j, hj⟩ := List.mem_iff_getElem?.mp (hp.mem_iff.mp hz)
    have jl : j < zs.length := (List.getElem?_eq_some_iff.mp hj).1
    have ez : z = atZ zs j := Option.some.inj (hj.symm.trans (atZ_get jl))
    obtain ⟨e, he, q⟩ := h.al ne j jl
    refine mem_ends.mpr ⟨_, List.mem_map.mpr ⟨e, he, rfl⟩, ?_⟩
    rw [ez]
    rcases q with rfl | rfl
    · exact .inl rfl
    · exact .inr rfl
  · unfold csOf at ht
    rw [List.getElem?_map] at ht
    obtain ⟨e, he, rfl⟩ := Option.map_eq_some_iff.mp ht
    obtain ⟨k, hk, e', he', q⟩ := h.hg i e hi he
    have m : atZ zs k ∈ endsL ((csOf zs es).take i) := by
      refine mem_ends.mpr ⟨(atZ zs e'.1, e'.2.1, atZ zs e'.2.2), ?_, ?_⟩
      · unfold csOf
        rw [← List.map_take]
        exact List.mem_map.mpr ⟨e', he', rfl⟩
      · rcases q with rfl | rfl
        · exact .inl rfl
        · exact .inr rfl
    rcases hk with rfl | rfl
    · exact .inl m
    · exact .inr m
end Wm
namespace Wm
open PySem L2
/-- what stands but the pot's two lists, of tuples -/
theorem bt_seqT {K : PySem.W.Frag} {p q r a : Addr} {H H' : Hp} {n : Nat} {xs : List V} (b : Bt p q H H') (hP : PotAt H p q r n) (h : SqT K H a xs) : SqT K H' a xs := by
  obtain ⟨k, us, ys, ep, eq, _⟩ := hP.ex
  rcases h with (h | ⟨u, h⟩) | h
  · exact .inl (.inl (b _ _ (ne_of h ep (fun z => by cases z)) (ne_of h eq (fun z => by cases z)) h))
  · exact .inl (.inr ⟨u, b _ _ (ne_of h ep (fun z => by cases z)) (ne_of h eq (fun z => by cases z)) h⟩)
  · exact .inr h
theorem bt_rows {K : PySem.W.Frag} {p q r : Addr} {H H' : Hp} {n : Nat} (b : Bt p q H H') (hP : PotAt H p q r n) : ∀ {ps : List Addr} {rs : List (List V)}, RowsAt K H ps rs → RowsAt K H' ps rs
  | [], [], _ => True.intro
  | _ :: _, _ :: _, h => ⟨bt_seqT b hP h.1, bt_rows b hP h.2⟩
  | [], _ :: _, h => h.elim
  | _ :: _, [], h => h.elim
theorem rows_imp {K : PySem.W.Frag} {H H' : Hp} (s : ∀ {q : Addr} {xs : List V}, SqT K H q xs → SqT K H' q xs) : ∀ {ps : List Addr} {rs : List (List V)}, RowsAt K H ps rs → RowsAt K H' ps rs
  | [], [], _ => True.intro
  | _ :: _, _ :: _, h => ⟨s h.1, rows_imp s h.2⟩
  | [], _ :: _, h => h.elim
  | _ :: _, [], h => h.elim
/-- a list is written: tuples stand -/
theorem sqT_put {K : PySem.W.Frag} {H : Hp} {l a : Addr} {ys : List V} {o : HO} {xs : List V} (hl : H l = some (.lst ys)) (h : SqT K H a xs) : SqT K (upd H l o) a xs := by
  rcases h with (h | ⟨ob, h⟩) | h
  · exact .inl (.inl (by rw [upd_ne (ne_of h hl (by intro z; cases z))]; exact h))
  · exact .inl (.inr ⟨ob, by rw [upd_ne (ne_of h hl (by intro z; cases z))]; exact h⟩)
  · exact .inr h
theorem rows_put {K : PySem.W.Frag} {H : Hp} {l : Addr} {ys : List V} {o : HO} (hl : H l = some (.lst ys)) {ps : List Addr} {rs : List (List V)} (h : RowsAt K H ps rs) : RowsAt K (upd H l o) ps rs := rows_imp (fun q => sqT_put hl q) h
theorem cut_drop (xs : List V) (i : Nat) : cutV xs (some (i : Int)) none = xs.drop i := by
  unfold cutV
  rw [HT.sIx_none, HT.sIx_nat]
  by_cases h : i ≤ xs.length
  · rw [Nat.min_eq_left h, List.take_of_length_le (by rw [List.length_drop]; omega)]
  · rw [Nat.min_eq_right (by omega), List.drop_of_length_le (Nat.le_refl _), List.drop_of_length_le (by omega)]
    simp
theorem rows_drop {K : PySem.W.Frag} {H : Hp} : ∀ {ps : List Addr} {rs : List (List V)} (n : Nat), RowsAt K H ps rs → RowsAt K H (ps.drop n) (rs.drop n)
  | [], [], _, _ => by
    rw [List.drop_nil, List.drop_nil]
    exact True.intro
  | _ :: _, _ :: _, 0, h => h
  | _ :: _, _ :: _, n + 1, h => rows_drop n h.2
  | [], _ :: _, _, h => h.elim
  | _ :: _, [], _, h => h.elim
theorem cut2 {a b R : TS} {D : Ends} {σ : L2.St} {H : Hp} (Good : L2.St → Hp → Prop) (fin : ∀ σ' H', Good σ' H' → R D σ' H') (h : ∀ R' : TS, (∀ σ' H', Good σ' H' → R' D σ' H') → tSeq a (tSeq b R') D σ H) : tSeq a (tSeq b R) D σ H := h R fin
/-- a pattern that was drawn: its variables and conditions -/
def spPat (K : PySem.W.Frag) : Sp := fun vs H Q _ => ∃ (p q r ls lw : Addr) (n : Nat) (ss ws : List Str), vs = [.ref p, .ref ls, .ref lw] ∧ PotAt H p q r n ∧ n ≤ 40000 ∧ H ls = some (.lst (ss.map V.str)) ∧ ls ≠ p ∧ ls ≠ q ∧ ss ≠ [] ∧ ss.length ≤ 60 ∧ H lw = some (.lst (ws.map V.str)) ∧ lw ≠ p ∧ lw ≠ q ∧ ws ≠ [] ∧ ws.length ≤ 60 ∧
  ∀ (zs : List Str) (es : List En) (vars : List Var) (ps qs : List Addr) (t lv lc : Addr) H', EnOk zs.length ws es → es ≠ [] → es.length ≤ 3 → zs.Nodup → (∀ z ∈ zs, NmP z ∧ z.length ≤ 12) → (vars.map (·.1)).Perm zs → (∀ v ∈ vars, ∀ s, v.2 = some s → s ∈ ss) →
    Bt p q H H' → PotAt H' p q r (n + 100) → H t = none → H lv = none → H lc = none → lv ≠ lc → H' t = some (.tup [.ref lv, .ref lc]) → H' lv = some (.lst (ps.map V.ref)) → RowsAt K H' ps (vars.map varV) → H' lc = some (.lst (qs.map V.ref)) → RowsAt K H' qs ((csOf zs es).map triV) → Q (.ref t) H'
section
variable {P : Program} {w : World} {K : PySem.W.Frag} {mg : Str → Option Value} {base : Heap}
theorem scPat : FnScope ["_law_pot_here", "_law_sorts", "_law_words", "_law_ends", "_law_count", "_law_k", "_law_one", "_law_other", "_law_names_here", "_law_variables", "_law_name_here", "_law_sort", "_law_turn", "_law_conditions", "_law_word"] ["_law_pot_here", "_law_sorts", "_law_words"] (defScope sPat) := ⟨rfl, rfl, rfl, by decide +kernel, rfl, by decide +kernel, by decide +kernel⟩
theorem ok_pat {f fT fN : Addr} {fd dT dN : FuncData} (F : Fun K "_law_pattern" "_law_pattern" sPat f fd) (T : TxB mg) (hmin : mg "min" = none) (hmax : mg "max" = none) (DT : Dn K mg "_law_take" sTak ["_law_pot_here", "_law_many"] fT dT) (GT : FnOk P w K mg base CX0 2 fT dT ["_law_pot_here", "_law_many"] spTak)
    (DNs : Dn K mg "_law_names" sNms ["_law_pot_here", "_law_many"] fN dN) (GNs : FnOk P w K mg base CX0 5 fN dN ["_law_pot_here", "_law_many"] spNms) : FnOk P w K mg base CX0 6 f fd ["_law_pot_here", "_law_sorts", "_law_words"] (spPat K) := by
  refine F.ok scPat (fun vs H Q E h => ?_) (fun cdv A outer s H vs Q E hr h => ?_)
  · obtain ⟨p, q, r, ls, lw, n, ss, ws, rfl, _⟩ := h
    rfl
  · obtain ⟨p, q, r, ls, lw, n, ss, ws, rfl, hP, hn, hls, sp, sq, sn, s60, hlw, wp, wq, wn, w60, k⟩ := h
    have hr5 : Room 5 _ := hr
    have hr2 : Room 2 _ := hr.mono (by decide)
    refine ⟨_, (pss_cons (ps_set (i := 3) scPat.nd rfl (Or.inl rfl) (pe_lst pa_nil))
      (pss_cons (ps_set (i := 4) scPat.nd rfl (Or.inl rfl) pe_int)
      (pss_cons (ps_for PassesOwn.never rfl (pi_range1 rfl T.range (pa_cons (pe_op op_add pe_int (pe_call GT hr2 rfl DT.g DT.F.kp DT.b .nil pass0 (pa_cons (pv 0) (pa_cons pe_int pa_nil)))) pa_nil)) (pg_name (i := 5) scPat.nd rfl (Or.inl rfl)) (pss_cons (ps_set (i := 6) scPat.nd rfl (Or.inl rfl) (pe_call GT hr2 rfl DT.g DT.F.kp DT.b .nil pass0 (pa_cons (pv 0) (pa_cons (pv 4) pa_nil))))
      (pss_cons (ps_set (i := 7) scPat.nd rfl (Or.inl rfl) (pe_call GT hr2 rfl DT.g DT.F.kp DT.b .nil pass0 (pa_cons (pv 0) (pa_cons (pe_callB (call_min2 rfl) (by rfl) hmin (by decide +kernel) (pa_cons (pe_op op_add (pv 4) pe_int) (pa_cons pe_int pa_nil))) pa_nil))))
      (pss_cons (ps_set (i := 4) scPat.nd rfl (Or.inl rfl) (pe_callB (call_max2 rfl) (by rfl) hmax (by decide +kernel) (pa_cons (pv 4) (pa_cons (pe_op op_add (pv 7) pe_int) pa_nil))))
      (pss_cons (ps_if (pt_cmpR op_eq (pe_call GT hr2 rfl DT.g DT.F.kp DT.b .nil pass0 (pa_cons (pv 0) (pa_cons pe_int pa_nil))) pe_int (nomark _)) (pss_one (ps_par (i := 6) (j := 7) (by rfl) scPat.nd rfl rfl (by decide) rfl rfl (pa_cons (pv 7) (pa_cons (pv 6) pa_nil)) (by rfl))) pss_nil)
      (pss_one (ps_expr (pe_bm PySem.F.plainAttrs_list PySem.F.slot_list_append PySem.F.type_list_append mt_append (pv 3) (pa_cons (pe_tup (pa_cons (pv 6) (pa_cons (pe_ix ix_list (pv 2) (pe_call GT hr2 rfl DT.g DT.F.kp DT.b .nil pass0 (pa_cons (pv 0) (pa_cons (pe_callB call_len_seq (by rfl) T.len (by decide +kernel) (pa_cons (pv 2) pa_nil)) pa_nil))) (fun _ _ => rfl)) (pa_cons (pv 7) pa_nil)))) pa_nil)))))))))
      (pss_cons (ps_set (i := 8) scPat.nd rfl (Or.inr rfl) (pe_call GNs hr5 rfl DNs.g DNs.F.kp DNs.b .nil pass0 (pa_cons (pv 0) (pa_cons (pv 4) pa_nil))))
      (pss_cons (ps_set (i := 9) scPat.nd rfl (Or.inl rfl) (pe_lst pa_nil))
      (pss_cons (ps_for PassesOwn.never rfl (pi_list (pv 8)) (pg_name (i := 10) scPat.nd rfl (Or.inl rfl)) (pss_cons (ps_set (i := 11) scPat.nd rfl (Or.inl rfl) pe_non)
      (pss_cons (ps_if (pt_cmpR op_eq (pe_call GT hr2 rfl DT.g DT.F.kp DT.b .nil pass0 (pa_cons (pv 0) (pa_cons pe_int pa_nil))) pe_int (nomark _)) (pss_one (ps_set (i := 11) scPat.nd rfl (Or.inl rfl) (pe_ix ix_list (pv 1) (pe_call GT hr2 rfl DT.g DT.F.kp DT.b .nil pass0 (pa_cons (pv 0) (pa_cons (pe_callB call_len_seq (by rfl) T.len (by decide +kernel) (pa_cons (pv 1) pa_nil)) pa_nil))) (fun _ _ => rfl)))) pss_nil)
      (pss_one (ps_expr (pe_bm PySem.F.plainAttrs_list PySem.F.slot_list_append PySem.F.type_list_append mt_append (pv 9) (pa_cons (pe_tup (pa_cons (pv 10) (pa_cons (pv 11) pa_nil))) pa_nil)))))))
      (pss_cons (ps_set (i := 12) scPat.nd rfl (Or.inl rfl) (pe_call GT hr2 rfl DT.g DT.F.kp DT.b .nil pass0 (pa_cons (pv 0) (pa_cons (pv 4) pa_nil))))
      (pss_cons (ps_setLc (i := 13) (own := [("_law_one", 6), ("_law_word", 14), ("_law_other", 7)]) (g := gTup K 3 (gCons (gName 6) (gCons (gName 14) (gCons (gName 7) gNil)))) (tt := tYes) (te := (tTup (tCons (tOp (rIxL K) (tVar 8) (tVar 6)) (tCons (tVar 14) (tCons (tOp (rIxL K) (tVar 8) (tVar 7)) tNil))))) rfl scPat.nd rfl rfl (sw_true rfl rfl rfl (by decide +kernel)) (pi_list (pv 3)) (blkOk_by (N := ["_law_pot_here", "_law_sorts", "_law_words", "_law_ends", "_law_count", "_law_k", "_law_one", "_law_other", "_law_names_here", "_law_variables", "_law_name_here", "_law_sort", "_law_turn", "_law_conditions", "_law_word"]) (sc := defScope sPat) (by decide +kernel)) (fun _ _ _ _ _ => (pg_tup rfl (pgs_cons (pg_name (i := 6) scPat.nd rfl (Or.inl rfl)) (pgs_cons (pg_name (i := 14) scPat.nd rfl (Or.inl rfl)) (pgs_cons (pg_name (i := 7) scPat.nd rfl (Or.inl rfl)) pgs_nil))))) (fun _ _ _ _ _ => pts_nil) (fun _ _ _ _ _ => (pe_tup (pa_cons (pe_ix ix_list (pv 8) (pv 6) (fun _ _ => rfl)) (pa_cons (pv 14) (pa_cons (pe_ix ix_list (pv 8) (pv 7) (fun _ _ => rfl)) pa_nil))))))
      (pss_one (ps_ret (pe_tup (pa_cons (pe_op op_cat (pe_slice sl_list (pv 9) (po_some (pv 12)) po_none) (pe_slice sl_list (pv 9) po_none (po_some (pv 12)))) (pa_cons (pv 13) pa_nil))))))))))))), ?_⟩
    refine ⟨Nat.zero_le _, fun d hd => ?_⟩
    have nd := hP.ne hd
    have e0 : (upd H d (.lst [])) d = some (.lst (([] : List Addr).map V.ref)) := upd_same
    have B0 : Bt p q H (upd H d (.lst [])) := (Bt.refl p q H).new hd
    have P0 := hP.upd (o := .lst []) nd.1 nd.2.1 nd.2.2
    generalize upd H d (.lst []) = H0 at e0 B0 P0
    dsimp only [gName, List.set_cons_succ, List.set_cons_zero]
    refine ⟨_, rfl, p, q, r, n, 3, rfl, P0, by omega, by decide, by decide, fun y H1 y0 y3 B1 P1 => ⟨_, _, rfl, rfl, 1 + y, rfl, by omega, by omega, ?_⟩⟩
    have e1 := B1 _ _ nd.1 nd.2.1 e0
    obtain ⟨m, rfl⟩ : ∃ m : Nat, y = (m : Int) := ⟨y.toNat, by omega⟩
    refine for_range (n := (1 + (m : Int)).toNat) (fun i σ H' => (∃ (c : Nat) (u v x : Option V) (es : List En) (ds : List Addr), σ = [some (.ref p), some (.ref ls), some (.ref lw), some (.ref d), some (.int (c : Int)), u, v, x, none, none, none, none, none, none, none] ∧ H' d = some (.lst (ds.map V.ref)) ∧ RowsAt K H' ds (es.map enV) ∧ EnOk c ws es ∧ es.length = i) ∧ Bt p q H H' ∧ PotAt H' p q r (n + 1 + 4 * i))
      ⟨⟨1, none, none, none, [], [], rfl, e1, True.intro, EnOk.start ws, rfl⟩, B0.trans B1, P1⟩ ?_ ?_
    · rintro i σ H2 hi ⟨⟨c, u, v, x, es, ds, rfl, hd2, rw2, en, le⟩, B2, P2⟩
      have c1 := en.c1
      have c4 := en.c4
      dsimp only [gName, List.set_cons_succ, List.set_cons_zero]
      refine ⟨_, rfl, _, rfl, p, q, r, _, c, rfl, P2, by omega, by omega, by omega, fun a H3 a0 a1 B3 P3 => ?_⟩
      dsimp only [gName, List.set_cons_succ, List.set_cons_zero]
      obtain ⟨a, rfl⟩ : ∃ z : Nat, a = (z : Int) := ⟨a.toNat, by omega⟩
      refine ⟨_, rfl, _, rfl, _, _, rfl, rfl, _, _, rfl, ?_⟩
      have e3 := B3 _ _ nd.1 nd.2.1 hd2
      refine ⟨p, q, r, _, (if (4 : Int) < (c : Int) + 1 then 4 else (c : Int) + 1), rfl, P3, by omega, by split <;> omega, by split <;> omega, fun b H4 b0 b1 B4 P4 => ?_⟩
      obtain ⟨b, rfl⟩ : ∃ z : Nat, b = (z : Int) := ⟨b.toNat, by omega⟩
      have b2 : b < c + 1 ∧ b < 4 := by
        split at b1 <;> omega
      clear b1
      have ac : a < c := by omega
      dsimp only [gName, List.set_cons_succ, List.set_cons_zero]
      refine ⟨_, rfl, _, rfl, _, _, rfl, rfl, _, _, rfl, ?_⟩
      have em : (if (b : Int) + 1 > (c : Int) then (b : Int) + 1 else (c : Int)) = ((max c (b + 1) : Nat) : Int) := by
        split <;> omega
      rw [em]
      dsimp only [gName, List.set_cons_succ, List.set_cons_zero]
      have e4 := B4 _ _ nd.1 nd.2.1 e3
      refine cut1 (fun σ' H' => ∃ oa ob : Nat, σ' = [some (.ref p), some (.ref ls), some (.ref lw), some (.ref d), some (.int ((max c (b + 1) : Nat) : Int)), some (.int (0 + (i : Int))), some (.int (oa : Int)), some (.int (ob : Int)), none, none, none, none, none, none, none] ∧ ((oa = a ∧ ob = b) ∨ (oa = b ∧ ob = a)) ∧ Bt p q H2 H' ∧ PotAt H' p q r (n + 1 + 4 * i + 3)) ?_ (fun R' fin => ?_)
      · rintro σ' H5 ⟨oa, ob, rfl, oab, B5, P5⟩
        have hd5 := B5 _ _ nd.1 nd.2.1 hd2
        have hw5 : H5 lw = some (.lst (ws.map V.str)) := (B2.trans B5) _ _ wp wq hlw
        refine ⟨_, rfl, .inl ⟨rfl, _, SqL.of hd5⟩, _, rfl, _, rfl, _, rfl, _, rfl, lw, _, rfl, .inl (SqL.of hw5), ?_⟩
        have wl : (ws.map V.str).length = ws.length := List.length_map ..
        have wpos : 0 < ws.length := List.length_pos_iff.mpr wn
        refine ⟨p, q, r, _, (ws.length : Int), (by rw [wl]; rfl), P5, by omega, by omega, by omega, fun g H6 g0 g1 B6 P6 => ?_⟩
        obtain ⟨g, rfl⟩ : ∃ z : Nat, g = (z : Int) := ⟨g.toNat, by omega⟩
        have gl : g < ws.length := by omega
        have hw6 := B6 _ _ wp wq hw5
        have hd6 := B6 _ _ nd.1 nd.2.1 hd5
        have rw6 := bt_rows (B5.trans B6) P2 rw2
        refine rdList hw6 (j := g) (v := .str (ws[g]'gl)) rfl (by rw [List.getElem?_map, List.getElem?_eq_getElem gl]; rfl) ?_
        have wm : ws[g]'gl ∈ ws := List.getElem_mem gl
        generalize ws[g]'gl = wd at wm
        refine ⟨_, rfl, by show 3 ≤ sizeLine; decide, fun t ht => ?_⟩
        have S7 : Same H6 (upd H6 t (.tup [.int (oa : Int), .str wd, .int (ob : Int)])) := Same.upd ht
        have e7 : (upd H6 t (.tup [.int (oa : Int), .str wd, .int (ob : Int)])) t = some (.tup (enV (oa, wd, ob))) := upd_same
        have P7 := P6.same S7
        generalize upd H6 t (.tup [.int (oa : Int), .str wd, .int (ob : Int)]) = H7 at S7 e7 P7
        have hd7 := S7 _ _ hd6
        have B27 := (B5.trans B6).trans (Same.bt S7)
        have eo : EnOk (max c (b + 1)) ws (es ++ [(oa, wd, ob)]) := en.add ac b2.1 b2.2 wm (by
          rcases oab with ⟨rfl, rfl⟩ | ⟨rfl, rfl⟩
          · exact .inl rfl
          · exact .inr rfl)
        have dl : ds.length = es.length := by
          have := rw2.len
          rw [List.length_map] at this
          exact this
        refine ⟨d, _, _, rfl, rfl, hd7, ?_, ⟨_, _, _, _, es ++ [(oa, wd, ob)], ds ++ [t], rfl, ?_, ?_, eo, ?_⟩, Bt.new (B2.trans B27) hd, (P7.upd nd.1 nd.2.1 nd.2.2).mono (by omega)⟩
        · rw [List.length_map]
          exact Nat.lt_of_le_of_lt (show _ ≤ 1000 by omega) (by decide)
        · rw [upd_same, List.map_append]
          rfl
        · rw [List.map_append]
          exact RowsAt.append (rows_put hd7 (rows_imp (fun z => same_seqT S7 z) rw6)) ⟨sqT_put hd7 (SqT.of e7), True.intro⟩
        · rw [List.length_append, le]
          rfl
      · refine ⟨_, rfl, p, q, r, _, 2, rfl, P4, by omega, by decide, by decide, fun y H5 y0 y1 B5 P5 => ⟨rfl, _, rfl, ?_⟩⟩
        refine ite2 (fun _ => ?_) (fun _ => ?_)
        · refine ⟨_, rfl, _, rfl, _, _, rfl, ?_⟩
          dsimp only [gName, List.set_cons_succ, List.set_cons_zero]
          exact fin _ _ ⟨b, a, rfl, .inr ⟨rfl, rfl⟩, (B3.trans B4).trans B5, P5.mono (by omega)⟩
        · exact fin _ _ ⟨a, b, rfl, .inl ⟨rfl, rfl⟩, (B3.trans B4).trans B5, P5.mono (by omega)⟩
    rintro σ H2 ⟨⟨c, u, v, x, es, ds, rfl, hd2, rw2, en, le⟩, B2, P2⟩
    have c1 := en.c1
    have c4 := en.c4
    have le1 : 1 ≤ es.length ∧ es.length ≤ 3 := by omega
    have en0 : es ≠ [] := fun z => by rw [z] at le1; simp at le1
    dsimp only [gName, List.set_cons_succ, List.set_cons_zero]
    refine ⟨_, rfl, _, rfl, p, q, r, _, (c : Int), rfl, P2, by omega, by omega, by omega, fun zs ln H3 hln zn B3 P3 e3 zl zok => ?_⟩
    dsimp only [gName, List.set_cons_succ, List.set_cons_zero]
    have zc : zs.length = c := by omega
    have nln := P2.ne hln
    have B03 := B2.trans B3
    have hd3 := B3 _ _ nd.1 nd.2.1 hd2
    have rw3 := bt_rows B3 P2 rw2
    refine ⟨Nat.zero_le _, fun lv hlv => ?_⟩
    have nlv := P3.ne hlv
    have S4 : Same H3 (upd H3 lv (.lst [])) := Same.upd hlv
    have e4 : (upd H3 lv (.lst [])) lv = some (.lst (([] : List Addr).map V.ref)) := upd_same
    have P4 := P3.same S4
    generalize upd H3 lv (.lst []) = H4 at S4 e4 P4
    have hn4 := S4 _ _ e3
    have lnv : ln ≠ lv := ne_of_none e3 hlv
    have hd4 := S4 _ _ hd3
    have dlv : d ≠ lv := ne_of_none hd3 hlv
    have rw4 := rw3.same S4
    dsimp only [gName, List.set_cons_succ, List.set_cons_zero]
    refine ⟨_, rfl, ln, rfl, ⟨_, SqL.of hn4⟩, for_list (K := K) (a := ln) (xs := zs.map V.str) (fun i σ H' => (∃ (a1 a2 : Option V) (vars : List Var) (ps : List Addr), σ = [some (.ref p), some (.ref ls), some (.ref lw), some (.ref d), some (.int (c : Int)), u, v, x, some (.ref ln), some (.ref lv), a1, a2, none, none, none] ∧ H' lv = some (.lst (ps.map V.ref)) ∧ RowsAt K H' ps (vars.map varV) ∧ vars.map (·.1) = zs.take i ∧ (∀ y ∈ vars, ∀ s, y.2 = some s → s ∈ ss)) ∧ (∀ a o, a ≠ p → a ≠ q → a ≠ lv → H4 a = some o → H' a = some o) ∧ Bt p q H H' ∧ RowsAt K H' ds (es.map enV) ∧ PotAt H' p q r (n + 1 + 4 * es.length + 12 * c + 2 * i))
      ⟨⟨none, none, [], [], rfl, e4, True.intro, rfl, fun y hy => (List.not_mem_nil hy).elim⟩, fun a o _ _ _ h => h, B03.trans (Same.bt S4), rw4, P4.mono (by omega)⟩ (fun i σ H' _ pp => SqL.of (pp.2.1 _ _ nln.1 nln.2.1 lnv hn4)) ?_ ?_⟩
    · rintro i y σ H5 hi ⟨⟨a1, a2, vars, ps, rfl, hv5, rv5, vm, vs⟩, fr, B5, rw5, P5⟩
      obtain ⟨z, hz, rfl⟩ := map_str_get hi
      have il : i < zs.length := (List.getElem?_eq_some_iff.mp hz).1
      dsimp only [gName, List.set_cons_succ, List.set_cons_zero]
      refine cut2 (fun σ' H' => ∃ so : Option Str, σ' = [some (.ref p), some (.ref ls), some (.ref lw), some (.ref d), some (.int (c : Int)), u, v, x, some (.ref ln), some (.ref lv), some (.str z), some (sortV so), none, none, none] ∧ (∀ s, so = some s → s ∈ ss) ∧ Bt p q H5 H' ∧ PotAt H' p q r (n + 1 + 4 * es.length + 12 * c + 2 * (i + 1))) ?_ (fun R' fin => ?_)
      · rintro σ' H6 ⟨so, rfl, hso, B6, P6⟩
        have hv6 := B6 _ _ nlv.1 nlv.2.1 hv5
        refine ⟨_, rfl, .inl ⟨rfl, _, SqL.of hv6⟩, _, rfl, _, rfl, by show 2 ≤ sizeLine; decide, fun t ht => ?_⟩
        have S7 : Same H6 (upd H6 t (.tup [.str z, sortV so])) := Same.upd ht
        have e7 : (upd H6 t (.tup [.str z, sortV so])) t = some (.tup (varV (z, so))) := upd_same
        have P7 := P6.same S7
        generalize upd H6 t (.tup [.str z, sortV so]) = H7 at S7 e7 P7
        have hv7 := S7 _ _ hv6
        have pl : ps.length = vars.length := by
          have := rv5.len
          rw [List.length_map] at this
          exact this
        have vl : vars.length = i := by
          have := congrArg List.length vm
          rw [List.length_map, List.length_take] at this
          omega
        refine ⟨lv, _, _, rfl, rfl, hv7, ?_, ⟨_, _, vars ++ [(z, so)], ps ++ [t], rfl, ?_, ?_, ?_, ?_⟩, fun a o n1 n2 n3 h => ?_, ?_, ?_, P7.upd nlv.1 nlv.2.1 nlv.2.2⟩
        · rw [List.length_map]
          exact Nat.lt_of_le_of_lt (show _ ≤ 1000 by omega) (by decide)
        · rw [upd_same, List.map_append]
          rfl
        · rw [List.map_append]
          exact RowsAt.append (rows_put hv7 (rows_imp (fun w => same_seqT S7 w) (bt_rows B6 P5 rv5))) ⟨sqT_put hv7 (SqT.of e7), True.intro⟩
        · rw [List.map_append, vm, List.take_add_one, hz]
          rfl
        · intro y hy s hs
          rcases List.mem_append.mp hy with w | w
          · exact vs y w s hs
          · rw [List.mem_singleton.mp w] at hs
            exact hso s hs
        · rw [upd_ne n3]
          exact S7 _ _ (B6 _ _ n1 n2 (fr a o n1 n2 n3 h))
        · have lv0 : H lv = none := B03.free nlv.1 nlv.2.1 hlv
          exact Bt.new (B5.trans (B6.trans (Same.bt S7))) lv0
        · exact rows_put hv7 (rows_imp (fun w => same_seqT S7 w) (bt_rows B6 P5 rw5))
      · refine ⟨_, rfl, p, q, r, _, 3, rfl, P5, by omega, by decide, by decide, fun y H6 y0 y1 B6 P6 => ⟨rfl, _, rfl, ?_⟩⟩
        refine ite2 (fun _ => ?_) (fun _ => ?_)
        · have hs6 : H6 ls = some (.lst (ss.map V.str)) := (B5.trans B6) _ _ sp sq hls
          have sl : (ss.map V.str).length = ss.length := List.length_map ..
          have spos : 0 < ss.length := List.length_pos_iff.mpr sn
          refine ⟨_, rfl, _, rfl, _, rfl, ls, _, rfl, .inl (SqL.of hs6), p, q, r, _, (ss.length : Int), (by rw [sl]; rfl), P6, by omega, by omega, by omega, fun g H7 g0 g1 B7 P7 => ?_⟩
          obtain ⟨g, rfl⟩ : ∃ z : Nat, g = (z : Int) := ⟨g.toNat, by omega⟩
          have gl : g < ss.length := by omega
          refine rdList (B7 _ _ sp sq hs6) (j := g) (v := .str (ss[g]'gl)) rfl (by rw [List.getElem?_map, List.getElem?_eq_getElem gl]; rfl) ?_
          have sm : ss[g]'gl ∈ ss := List.getElem_mem gl
          generalize ss[g]'gl = so at sm
          dsimp only [gName, List.set_cons_succ, List.set_cons_zero]
          exact fin _ _ ⟨some so, rfl, fun s hs => by cases hs; exact sm, B6.trans B7, P7.mono (by omega)⟩
        · exact fin _ _ ⟨none, rfl, (fun s hs => by cases hs), B6, P6.mono (by omega)⟩
    rintro σ H5 ⟨⟨a1, a2, vars, ps, rfl, hv5, rv5, vm, vs⟩, fr, B5, rw5, P5⟩
    rw [List.length_map, List.take_length] at vm
    rw [List.length_map] at P5
    have hn5 := fr _ _ nln.1 nln.2.1 lnv hn4
    have hd5 := fr _ _ nd.1 nd.2.1 dlv hd4
    have lnn : H ln = none := B2.free nln.1 nln.2.1 hln
    have lvn : H lv = none := B03.free nlv.1 nlv.2.1 hlv
    refine ⟨_, rfl, _, rfl, p, q, r, _, (c : Int), rfl, P5, by omega, by omega, by omega, fun tn H6 t0 t1 B6 P6 => ?_⟩
    dsimp only [gName, List.set_cons_succ, List.set_cons_zero]
    obtain ⟨tn, rfl⟩ : ∃ z : Nat, tn = (z : Int) := ⟨tn.toNat, by omega⟩
    have hn6 := B6 _ _ nln.1 nln.2.1 hn5
    have hd6 := B6 _ _ nd.1 nd.2.1 hd5
    have hv6 := B6 _ _ nlv.1 nlv.2.1 hv5
    have rv6 := bt_rows B6 P5 rv5
    have rw6 := bt_rows B6 P5 rw5
    refine ⟨_, rfl, d, rfl, ⟨_, SqL.of hd6⟩, fun D hD => ?_⟩
    refine lc_list (K := K) (a := d) (xs := ds.map V.ref) (fun i H' => Same H6 H' ∧ ∃ qs : List Addr, H' D = some (.lst (qs.map V.ref)) ∧ RowsAt K H' qs (((csOf zs es).take i).map triV) ∧ qs.length = i) ⟨Same.upd hD, [], upd_same, True.intro, rfl⟩ (fun i H' _ pp => SqL.of (pp.1 _ _ hd6)) ?_ ?_
    · rintro i y H8 hi ⟨T8, qs, hD8, rq, ql⟩
      rw [List.getElem?_map] at hi
      obtain ⟨da, hda, rfl⟩ := Option.map_eq_some_iff.mp hi
      obtain ⟨er, her, hsq⟩ := rw6.get hda
      rw [List.getElem?_map] at her
      obtain ⟨e, he, rfl⟩ := Option.map_eq_some_iff.mp her
      obtain ⟨ea, eb, ew⟩ := en.el e (List.mem_of_getElem? he)
      have il : i < es.length := (List.getElem?_eq_some_iff.mp he).1
      have s8 : SqT K H8 da (enV e) := same_seqT T8 hsq
      have hn8 := T8 _ _ hn6
      have za : (zs.map V.str)[e.1]? = some (.str (atZ zs e.1)) := by rw [List.getElem?_map, atZ_get (by omega)]; rfl
      have zb : (zs.map V.str)[e.2.2]? = some (.str (atZ zs e.2.2)) := by rw [List.getElem?_map, atZ_get (by omega)]; rfl
      refine ⟨da, _, rfl, s8, rfl, _, _, rfl, _, _, rfl, _, _, rfl, rfl, rfl, ?_⟩
      refine ⟨_, rfl, _, rfl, rdList hn8 (j := e.1) (v := .str (atZ zs e.1)) rfl za ?_⟩
      refine ⟨_, rfl, _, rfl, _, rfl, rdList hn8 (j := e.2.2) (v := .str (atZ zs e.2.2)) rfl zb ?_⟩
      refine ⟨by show 3 ≤ sizeLine; decide, fun t ht => ?_⟩
      have T9 : Same H8 (upd H8 t (.tup [.str (atZ zs e.1), .str e.2.1, .str (atZ zs e.2.2)])) := Same.upd ht
      have e9 : (upd H8 t (.tup [.str (atZ zs e.1), .str e.2.1, .str (atZ zs e.2.2)])) t = some (.tup (triV (atZ zs e.1, e.2.1, atZ zs e.2.2))) := upd_same
      generalize upd H8 t (.tup [.str (atZ zs e.1), .str e.2.1, .str (atZ zs e.2.2)]) = H9 at T9 e9
      have hD9 := T9 _ _ hD8
      have hc : (csOf zs es)[i]? = some (atZ zs e.1, e.2.1, atZ zs e.2.2) := by
        unfold csOf
        rw [List.getElem?_map, he]
        rfl
      refine ⟨_, hD9, ?_, fun b o w => ?_, qs ++ [t], ?_, ?_, ?_⟩
      · rw [List.length_map]
        exact Nat.lt_of_le_of_lt (show _ ≤ 1000 by omega) (by decide)
      · rw [upd_ne (ne_of_none w hD)]
        exact T9 _ _ (T8 _ _ w)
      · rw [upd_same, List.map_append]
        rfl
      · rw [List.take_add_one, hc, List.map_append]
        exact RowsAt.append (rows_put hD9 (rq.same T9)) ⟨sqT_put hD9 (SqT.of e9), True.intro⟩
      · rw [List.length_append, ql]
        rfl
    rintro H8 ⟨T8, qs, hD8, rq, ql⟩
    have dl : ds.length = es.length := by
      have := rw6.len
      rw [List.length_map] at this
      exact this
    rw [List.length_map, dl, show (csOf zs es).take es.length = csOf zs es from List.take_of_length_le (Nat.le_of_eq (List.length_map ..))] at rq
    dsimp only [gName, List.set_cons_succ, List.set_cons_zero]
    have hv8 := T8 _ _ hv6
    have rv8 := rv6.same T8
    have P8 := P6.same T8
    have tz : tn ≤ zs.length := by omega
    refine ⟨_, rfl, _, rfl, _, rfl, lv, _, rfl, SqL.of hv8, fun l1 n1 => ?_⟩
    rw [show cutV (ps.map V.ref) (some (tn : Int)) none = (ps.drop tn).map V.ref by rw [List.map_drop]; exact cut_drop _ tn]
    have Sa : Same H8 (upd H8 l1 (.lst ((ps.drop tn).map V.ref))) := Same.upd n1
    have ea : (upd H8 l1 (.lst ((ps.drop tn).map V.ref))) l1 = some (.lst ((ps.drop tn).map V.ref)) := upd_same
    generalize upd H8 l1 (.lst ((ps.drop tn).map V.ref)) = Ha at Sa ea
    refine ⟨_, rfl, _, rfl, _, rfl, lv, _, rfl, SqL.of (Sa _ _ hv8), fun l2 n2 => ?_⟩
    rw [show cutV (ps.map V.ref) none (some (tn : Int)) = (ps.take tn).map V.ref by rw [List.map_take]; exact cut_take _ tn]
    have Sb : Same Ha (upd Ha l2 (.lst ((ps.take tn).map V.ref))) := Same.upd n2
    have eb : (upd Ha l2 (.lst ((ps.take tn).map V.ref))) l2 = some (.lst ((ps.take tn).map V.ref)) := upd_same
    generalize upd Ha l2 (.lst ((ps.take tn).map V.ref)) = Hb at Sb eb
    have pl : ps.length = vars.length := by
      have := rv8.len
      rw [List.length_map] at this
      exact this
    have vl : vars.length = zs.length := by
      have := congrArg List.length vm
      rw [List.length_map] at this
      exact this
    refine ⟨l1, l2, _, _, rfl, rfl, Sb _ _ ea, eb, ?_, fun l3 n3 => ?_⟩
    · rw [List.length_map, List.length_map, List.length_drop, List.length_take]
      exact Nat.le_trans (show _ ≤ 1000 by omega) (by decide)
    rw [← List.map_append]
    have Sc : Same Hb (upd Hb l3 (.lst ((ps.drop tn ++ ps.take tn).map V.ref))) := Same.upd n3
    have ec : (upd Hb l3 (.lst ((ps.drop tn ++ ps.take tn).map V.ref))) l3 = some (.lst ((ps.drop tn ++ ps.take tn).map V.ref)) := upd_same
    generalize upd Hb l3 (.lst ((ps.drop tn ++ ps.take tn).map V.ref)) = Hc at Sc ec
    refine ⟨_, rfl, by show 2 ≤ sizeLine; decide, fun t ht => ?_⟩
    have Sd : Same Hc (upd Hc t (.tup [.ref l3, .ref D])) := Same.upd ht
    have ed : (upd Hc t (.tup [.ref l3, .ref D])) t = some (.tup [.ref l3, .ref D]) := upd_same
    generalize upd Hc t (.tup [.ref l3, .ref D]) = Hd at Sd ed
    have S8b := Sa.trans Sb
    have S8c := S8b.trans Sc
    have S8 := S8c.trans Sd
    have BB : Bt p q H H8 := (B5.trans B6).trans (Same.bt T8)
    have nD := P6.ne hD
    have P8c := P8.same S8c
    have nt := P8c.ne ht
    have n3' := (P8.same S8b).ne n3
    have fre : ∀ a, Ha a = none ∨ Hb a = none ∨ Hc a = none → H8 a = none := fun a h => by
      rcases h with h | h | h
      · exact Sa.free h
      · exact S8b.free h
      · exact S8c.free h
    have rvd : RowsAt K Hd (ps.drop tn ++ ps.take tn) ((vars.drop tn ++ vars.take tn).map varV) := by
      rw [List.map_append, List.map_drop, List.map_take]
      exact RowsAt.append (rows_drop tn (rv8.same S8)) (RowsAt.take tn (rv8.same S8))
    refine k zs es (vars.drop tn ++ vars.take tn) _ qs t l3 D Hd ?_ en0 le1.2 zn zok ?_ ?_ (BB.trans (Same.bt S8)) ((P8.same S8).mono (by omega)) (BB.free nt.1 nt.2.1 (fre t (.inr (.inr ht)))) (BB.free n3'.1 n3'.2.1 (fre l3 (.inr (.inl n3)))) ((B5.trans B6).free nD.1 nD.2.1 hD) ?_ ed (Sd _ _ ec) rvd (S8 _ _ hD8) (rq.same S8)
    · rw [zc]
      exact en
    · have pm : ((vars.drop tn ++ vars.take tn).map (·.1)).Perm (vars.map (·.1)) := by
        refine List.Perm.map _ ?_
        refine List.perm_append_comm.trans ?_
        rw [List.take_append_drop]
      rw [vm] at pm
      exact pm
    · intro y hy s hs
      rcases List.mem_append.mp hy with w | w
      · exact vs y (List.mem_of_mem_drop w) s hs
      · exact vs y (List.mem_of_mem_take w) s hs
    · exact (ne_of_none (S8b _ _ hD8) n3).symm
end
end Wm
namespace Wm
open PySem L2 StX
/-! ### rules -/
section
variable {P : Program} {w : World} {K : PySem.W.Frag} {mg : Str → Option Value} {base : Heap}
end
/-! ### rows of text -/
def varP : Var → Str
  | (n, none) => n
  | (n, some s) => Str.empty ++ n ++ PySem.Str.ofString ":" ++ s
def triP (t : Tri) : List Str := ["|", t.1, t.2.1, t.2.2]
def partsL (kind nm : Str) (vars : List Var) (cs : List Tri) : List Str := ([kind, nm] ++ vars.map varP) ++ cs.flatMap triP
def Sm (z : Str) : Prop := z.length ≤ 100
structure SmP (vars : List Var) (cs : List Tri) : Prop where
  v : ∀ v ∈ vars, Sm v.1 ∧ ∀ s, v.2 = some s → Sm s
  c : ∀ t ∈ cs, Sm t.1 ∧ Sm t.2.1 ∧ Sm t.2.2
  vl : vars.length ≤ 4
  cl : cs.length ≤ 3
theorem varP_len {v : Var} (h : Sm v.1 ∧ ∀ s, v.2 = some s → Sm s) : (varP v).length ≤ 300 := by
  obtain ⟨n, so⟩ := v
  cases so with
  | none => exact Nat.le_trans h.1 (by decide)
  | some s =>
    have h1 : n.length ≤ 100 := h.1
    have h2 : s.length ≤ 100 := h.2 s rfl
    show (Str.empty ++ n ++ PySem.Str.ofString ":" ++ s).length ≤ 300
    have e1 : Str.empty.length = 0 := rfl
    have e2 : (PySem.Str.ofString ":").length = 1 := by decide +kernel
    rw [len_app, len_app, len_app]
    omega
theorem triP_take {cs : List Tri} {i : Nat} {t : Tri} (h : cs[i]? = some t) : (cs.take (i + 1)).flatMap triP = (cs.take i).flatMap triP ++ triP t := by
  rw [List.take_add_one, h, List.flatMap_append]
  simp
theorem triP_len (cs : List Tri) : (cs.flatMap triP).length = 4 * cs.length := by
  induction cs with
  | nil => rfl
  | cons t r ih =>
    rw [List.flatMap_cons, List.length_append, ih]
    show 4 + _ = 4 * (r.length + 1)
    omega
def spVP : Sp := fun vs H Q _ => ∃ v : Var, vs = varV v ∧ (Sm v.1 ∧ ∀ s, v.2 = some s → Sm s) ∧ Q (.str (varP v)) H
/-- a pattern at x, of the class at C -/
structure PatAt (K : PySem.W.Frag) (H : Hp) (x : Addr) (nm : Str) (vars : List Var) (cs : List Tri) : Prop where
  ex : ∃ (C dx t1 t2 : Addr) (fs : List (Str × V)) (ps qs : List Addr), H x = some (.ins C dx fs) ∧ Cls K C ∧ NoAttr K C "name" ∧ NoAttr K C "variables" ∧ NoAttr K C "conditions" ∧ fs.lookup ("name" : Str) = some (.str nm) ∧ fs.lookup ("variables" : Str) = some (.ref t1) ∧ fs.lookup ("conditions" : Str) = some (.ref t2) ∧
    SqT K H t1 (ps.map V.ref) ∧ RowsAt K H ps (vars.map varV) ∧ SqT K H t2 (qs.map V.ref) ∧ RowsAt K H qs (cs.map triV)
def spPP (K : PySem.W.Frag) : Sp := fun vs H Q _ => ∃ (kind nm : Str) (x : Addr) (vars : List Var) (cs : List Tri), vs = [.str kind, .ref x] ∧ PatAt K H x nm vars cs ∧ SmP vars cs ∧ ∀ d H', H d = none → Same H H' → H' d = some (.lst ((partsL kind nm vars cs).map V.str)) → Q (.ref d) H'
section
variable {P : Program} {w : World} {K : PySem.W.Frag} {mg : Str → Option Value} {base : Heap}
theorem scVP : FnScope ["name", "sort"] ["name", "sort"] (defScope sVP) := ⟨rfl, rfl, rfl, by decide +kernel, rfl, by decide +kernel, by decide +kernel⟩
theorem ok_vp {f : Addr} {fd : FuncData} (F : Fun K "variable_part" "variable_part" sVP f fd) : FnOk P w K mg base CX0 1 f fd ["name", "sort"] spVP := by
  refine F.ok scVP (fun vs H Q E h => ?_) (fun cdv A outer s H vs Q E hr h => ?_)
  · obtain ⟨v, rfl, _⟩ := h
    rfl
  · obtain ⟨⟨n, so⟩, rfl, hs, k⟩ := h
    refine ⟨_, (pss_cons (ps_if (pt_cmp (pc_isN (pv 1))) (pss_one (ps_ret (pv 0))) pss_nil)
      (pss_one (ps_ret (pe_joined (PJ.cons (pe_fmt (pv 0)) (PJ.cons pe_str (PJ.cons (pe_fmt (pv 1)) PJ.nil))))))), ?_⟩
    have h1 : n.length ≤ 100 := hs.1
    cases so with
    | none =>
      refine ⟨_, rfl, _, rfl, ?_⟩
      exact iteT ⟨_, rfl, k⟩
    | some so =>
      have h2 : so.length ≤ 100 := hs.2 so rfl
      have e1 : Str.empty.length = 0 := rfl
      have e2 : (PySem.Str.ofString ":").length = 1 := by decide +kernel
      refine ⟨_, rfl, _, rfl, ?_⟩
      refine iteF ?_
      refine ⟨_, rfl, .inl ⟨n, rfl, Nat.le_trans h1 (by decide), n, rfl, ?_, PySem.Str.ofString ":", rfl, ?_, _, rfl, .inl ⟨so, rfl, Nat.le_trans h2 (by decide), so, rfl, ?_, k⟩⟩⟩
      · rw [len_app]
        exact Nat.le_trans (show _ ≤ 1000 by omega) (by decide)
      · rw [len_app, len_app]
        exact Nat.le_trans (show _ ≤ 1000 by omega) (by decide)
      · rw [len_app, len_app, len_app]
        exact Nat.le_trans (show _ ≤ 1000 by omega) (by decide)
theorem scPP : FnScope ["kind", "pattern", "parts", "condition", "name", "sort"] ["kind", "pattern"] (defScope sPP) := ⟨rfl, rfl, rfl, by decide +kernel, rfl, by decide +kernel, by decide +kernel⟩
theorem ok_pp {f fV : Addr} {fd dV : FuncData} (F : Fun K "pattern_parts" "pattern_parts" sPP f fd) (D : Dn K mg "variable_part" sVP ["name", "sort"] fV dV) : FnOk P w K mg base CX0 2 f fd ["kind", "pattern"] (spPP K) := by
  have G : FnOk P w K mg base CX0 1 fV dV _ spVP := ok_vp D.F
  refine F.ok scPP (fun vs H Q E h => ?_) (fun cdv A outer s H vs Q E hr h => ?_)
  · obtain ⟨kind, nm, x, vars, cs, rfl, _⟩ := h
    rfl
  · obtain ⟨kind, nm, x, vars, cs, rfl, ⟨C, dx, t1, t2, fs, ps, qs, hx, cl, nn, nv, nc, l1, l2, l3, q1, r1, q2, r2⟩, sm, k⟩ := h
    have b1 := r1.len
    have b2 := r2.len
    rw [List.length_map] at b1 b2
    have v4 := sm.vl
    have c3 := sm.cl
    refine ⟨_, (pss_cons (ps_set (i := 2) scPP.nd rfl (Or.inl rfl) (pe_lst (pa_cons (pv 0) (pa_cons (pe_fld (pv 1) rfl) pa_nil))))
      (pss_cons (ps_expr (pe_bm PySem.F.plainAttrs_list PySem.F.slot_list_extend PySem.F.type_list_extend mt_extend (pv 2) (pa_cons (pe_lc (own := [("name", 4), ("sort", 5)]) (g := gTup K 2 (gCons (gName 4) (gCons (gName 5) gNil))) rfl scPP.nd (pi_tup (pe_fld (pv 1) rfl)) (blkOk_by (N := ["kind", "pattern", "parts", "condition", "name", "sort"]) (sc := defScope sPP) (by decide +kernel)) (fun _ _ _ _ _ => (pg_tup rfl (pgs_cons (pg_name (i := 4) scPP.nd rfl (Or.inl rfl)) (pgs_cons (pg_name (i := 5) scPP.nd rfl (Or.inl rfl)) pgs_nil)))) (fun _ _ _ _ _ => pts_nil) (fun _ _ _ _ _ => (pe_call G hr rfl D.g D.F.kp D.b .nil pass0 (pa_cons (pv 4) (pa_cons (pv 5) pa_nil))))) pa_nil)))
      (pss_cons (ps_for PassesOwn.never rfl (pi_tup (pe_fld (pv 1) rfl)) (pg_name (i := 3) scPP.nd rfl (Or.inl rfl)) (pss_one (ps_expr (pe_bm PySem.F.plainAttrs_list PySem.F.slot_list_extend PySem.F.type_list_extend mt_extend (pv 2) (pa_cons (pe_lst (pa_cons pe_str (pa_star (pv 3) pa_nil))) pa_nil)))))
      (pss_one (ps_ret (pv 2)))))), ?_⟩
    refine ⟨_, rfl, _, rfl, x, C, dx, _, _, rfl, hx, cl, nn, l1, by show 2 ≤ sizeLine; decide, fun d hd => ?_⟩
    have S0 := Same.upd (o := .lst [.str kind, .str nm]) hd
    -- parts.extend([variable_part(name, sort) for name, sort in pattern.variables])
    refine ⟨_, rfl, .inl ⟨rfl, _, SqL.of upd_same⟩, _, rfl, x, C, dx, _, _, rfl, S0 _ _ hx, cl, nv, l2, t1, rfl, ⟨_, same_seqT S0 q1⟩, fun D' hD => ?_⟩
    have nDd : D' ≠ d := fun z => by
      rw [z, upd_same] at hD
      cases hD
    refine lc_it walk_tup (fun i H' => Same (upd H d (.lst [.str kind, .str nm])) H' ∧ H' D' = some (.lst (((vars.take i).map varP).map V.str))) ⟨Same.upd hD, upd_same⟩ (fun i H' _ p => same_seqT (S0.trans p.1) q1) ?_ ?_
    · rintro i y H2 H3 hi ⟨hS2, hD2⟩ ⟨rfl, hy⟩
      obtain ⟨p, hp, rfl⟩ := map_ref_get hy
      obtain ⟨r, hr1, hr'⟩ := r1.get hp
      obtain ⟨v, ht, rfl⟩ := var_get hr1
      refine ⟨p, _, rfl, same_seqT (S0.trans hS2) hr', rfl, _, _, rfl, _, _, rfl, rfl, rfl, ?_⟩
      refine ⟨_, rfl, _, rfl, v, rfl, sm.v v (List.mem_of_getElem? ht), _, hD2, ?_, ?_, ?_⟩
      · rw [List.length_map, List.length_map, List.length_take]
        exact Nat.lt_of_le_of_lt (show _ ≤ 1000 by omega) (by decide)
      · intro b' o h
        rw [upd_ne (ne_of_none h hD)]
        exact hS2 b' o h
      · rw [upd_same, List.take_add_one, ht, List.map_append, List.map_append]
        rfl
    rintro H2 ⟨hS2, hD2⟩
    rw [List.length_map, List.take_of_length_le (by omega)] at hD2
    have hd2 := hS2 _ _ (upd_same (H := H) (a := d) (o := .lst [.str kind, .str nm]))
    have S2 := S0.trans hS2
    refine ⟨d, D', _, _, rfl, rfl, hd2, hD2, ?_, ?_⟩
    · rw [List.length_map, List.length_map]
      exact Nat.le_trans (show 2 + vars.length ≤ 1000 by omega) (by decide)
    have Sd : ∀ {H1 : Hp} {o : HO}, Same H H1 → Same H (upd H1 d o) := fun hs b o e => by
      rw [upd_ne (ne_of_none e hd)]
      exact hs b o e
    have S3 := Sd (o := .lst ([.str kind, .str nm] ++ (vars.map varP).map V.str)) S2
    refine ⟨_, rfl, x, C, dx, _, _, rfl, S3 _ _ hx, cl, nc, l3, t2, rfl, ⟨_, same_seqT S3 q2⟩, for_it walk_tup (fun i σ H' => (∃ u, σ = [some (.str kind), some (.ref x), some (.ref d), u, none, none]) ∧ Same H H' ∧ H' d = some (.lst ((([kind, nm] ++ vars.map varP) ++ (cs.take i).flatMap triP).map V.str))) ⟨⟨none, rfl⟩, S3, ?_⟩ (fun i σ H' _ p => same_seqT p.2.1 q2) ?_ ?_⟩
    · rw [upd_same, List.take_zero, List.flatMap_nil, List.append_nil, List.map_append]
      rfl
    · rintro i y σ H4 H5 hi ⟨⟨u, rfl⟩, hS4, hd4⟩ ⟨rfl, hy⟩
      obtain ⟨p, hp, rfl⟩ := map_ref_get hy
      obtain ⟨r, hr1, hr'⟩ := r2.get hp
      obtain ⟨t, ht, rfl⟩ := tri_get hr1
      refine ⟨_, rfl, .inl ⟨rfl, _, SqL.of hd4⟩, _, rfl, p, _, rfl, .inl (same_seqT hS4 hr'), by show 4 ≤ sizeLine; decide, fun e he => ?_⟩
      have ned : e ≠ d := (ne_of_none hd4 he).symm
      refine ⟨d, e, _, _, rfl, rfl, Eq.trans (upd_ne ned.symm) hd4, upd_same, ?_, ?_⟩
      · have e1 := triP_len (cs.take i)
        rw [List.length_take] at e1
        rw [List.length_map, List.length_append, e1, List.length_append, List.length_map]
        exact Nat.le_trans (show 2 + vars.length + 4 * min i cs.length + 4 ≤ 1000 by omega) (by decide)
      · refine ⟨⟨_, rfl⟩, Sd (hS4.trans (Same.upd he)), ?_⟩
        have e : ∀ l : List Str, (l ++ triP t).map V.str = l.map V.str ++ (V.str (PySem.Str.ofString "|") :: (triV t ++ [])) := fun l => by
          rw [List.map_append]
          rfl
        rw [upd_same, triP_take ht, ← List.append_assoc, e]
    · rintro σ H4 ⟨⟨u, rfl⟩, hS4, hd4⟩
      refine ⟨_, rfl, k d H4 hd hS4 ?_⟩
      rw [hd4, List.length_map, List.take_of_length_le (by omega)]
      rfl
end
end Wm
namespace Wm
open PySem L2 StX
def rpL (nm : Str) (vars : List Var) (cs : List Tri) (g : Tri) (b : Str) : List Str := partsL "rule" nm vars cs ++ ([">", g.1, g.2.1, g.2.2, "by", b] : List Str)
def mpL (mk md : Str) (ds us : List Str) : List Str := (["making", mk, md, ">"] : List Str) ++ (ds ++ ((["<"] : List Str) ++ us))
theorem sum_le {n : Nat} : ∀ {l : List Str}, (∀ z ∈ l, z.length ≤ n) → (l.map (·.length)).sum ≤ l.length * n
  | [], _ => by simp
  | z :: l, h => by
    have h1 := h z List.mem_cons_self
    have h2 := sum_le (l := l) fun y hy => h y (List.mem_cons_of_mem _ hy)
    rw [List.map_cons, List.sum_cons, List.length_cons, Nat.succ_mul]
    omega
theorem join_ok {l : List Str} (h : ∀ z ∈ l, z.length ≤ 300) (hl : l.length ≤ 100) : (l.map (·.length)).sum + l.length * (PySem.Str.ofString " ").length ≤ 16777216 := by
  have h1 := sum_le h
  have e : (PySem.Str.ofString " ").length = 1 := by decide +kernel
  rw [e]
  have h2 : l.length * 300 ≤ 100 * 300 := Nat.mul_le_mul_right 300 hl
  omega
theorem parts_small {kind nm : Str} {vars : List Var} {cs : List Tri} (hk : Sm kind) (hn : Sm nm) (sm : SmP vars cs) : (∀ z ∈ partsL kind nm vars cs, z.length ≤ 300) ∧ (partsL kind nm vars cs).length ≤ 20 := by
  have v4 := sm.vl
  have c3 := sm.cl
  have hk' : kind.length ≤ 100 := hk
  have hn' : nm.length ≤ 100 := hn
  constructor
  · intro z hz
    unfold partsL at hz
    rcases List.mem_append.mp hz with hz | hz
    · rcases List.mem_append.mp hz with hz | hz
      · simp at hz
        rcases hz with rfl | rfl <;> omega
      · obtain ⟨v, hv, rfl⟩ := List.mem_map.mp hz
        exact varP_len (sm.v v hv)
    · obtain ⟨t, ht, hz⟩ := List.mem_flatMap.mp hz
      have ⟨c1, c2, c3⟩ := sm.c t ht
      have c1' : t.1.length ≤ 100 := c1
      have c2' : t.2.1.length ≤ 100 := c2
      have c3' : t.2.2.length ≤ 100 := c3
      have e : (PySem.Str.ofString "|").length ≤ 100 := by decide +kernel
      unfold triP at hz
      simp at hz
      rcases hz with rfl | rfl | rfl | rfl <;> omega
  · unfold partsL
    rw [List.length_append, List.length_append, List.length_map, triP_len]
    show 2 + _ + _ ≤ 20
    omega
def spRP (K : PySem.W.Frag) (R : Addr) : Sp := fun vs H Q _ => ∃ (nm b : Str) (x dx t1 t2 t3 : Addr) (ps qs : List Addr) (vars : List Var) (cs : List Tri) (g : Tri), vs = [.ref x] ∧ H x = some (.ins R dx (rulF nm t1 t2 t3 b)) ∧ SqT K H t1 (ps.map V.ref) ∧ RowsAt K H ps (vars.map varV) ∧ SqT K H t2 (qs.map V.ref) ∧ RowsAt K H qs (cs.map triV) ∧ SqT K H t3 (triV g) ∧
  SmP vars cs ∧ ∀ d H', H d = none → Same H H' → H' d = some (.lst ((rpL nm vars cs g b).map V.str)) → Q (.ref d) H'
def spMP (K : PySem.W.Frag) (M : Addr) : Sp := fun vs H Q _ => ∃ (mk md : Str) (x dx t1 t2 : Addr) (ds us : List Str), vs = [.ref x] ∧ H x = some (.ins M dx (makF mk md t1 t2)) ∧ SqT K H t1 (ds.map V.str) ∧ SqT K H t2 (us.map V.str) ∧ ds.length ≤ 20 ∧ us.length ≤ 20 ∧
  ∀ d H', H d = none → Same H H' → H' d = some (.lst ((mpL mk md ds us).map V.str)) → Q (.ref d) H'
def spBS (K : PySem.W.Frag) (B : Addr) : Sp := fun vs H Q _ => ∃ (nm : Str) (x dx t1 t2 : Addr) (ps qs : List Addr) (vars : List Var) (cs : List Tri), vs = [.ref x] ∧ H x = some (.ins B dx (barF nm t1 t2)) ∧ SqT K H t1 (ps.map V.ref) ∧ RowsAt K H ps (vars.map varV) ∧ SqT K H t2 (qs.map V.ref) ∧ RowsAt K H qs (cs.map triV) ∧
  SmP vars cs ∧ Sm nm ∧ ∀ H', Same H H' → Q (.str (Txt.join " " (partsL "bar" nm vars cs))) H'
def spRS (K : PySem.W.Frag) (R : Addr) : Sp := fun vs H Q _ => ∃ (nm b : Str) (x dx t1 t2 t3 : Addr) (ps qs : List Addr) (vars : List Var) (cs : List Tri) (g : Tri), vs = [.ref x] ∧ H x = some (.ins R dx (rulF nm t1 t2 t3 b)) ∧ SqT K H t1 (ps.map V.ref) ∧ RowsAt K H ps (vars.map varV) ∧ SqT K H t2 (qs.map V.ref) ∧ RowsAt K H qs (cs.map triV) ∧ SqT K H t3 (triV g) ∧
  SmP vars cs ∧ Sm nm ∧ Sm b ∧ (Sm g.1 ∧ Sm g.2.1 ∧ Sm g.2.2) ∧ ∀ H', Same H H' → Q (.str (Txt.join " " (rpL nm vars cs g b))) H'
def spMS (K : PySem.W.Frag) (M : Addr) : Sp := fun vs H Q _ => ∃ (mk md : Str) (x dx t1 t2 : Addr) (ds us : List Str), vs = [.ref x] ∧ H x = some (.ins M dx (makF mk md t1 t2)) ∧ SqT K H t1 (ds.map V.str) ∧ SqT K H t2 (us.map V.str) ∧ ds.length ≤ 20 ∧ us.length ≤ 20 ∧ (∀ z ∈ mk :: md :: (ds ++ us), Sm z) ∧
  ∀ H', Same H H' → Q (.str (Txt.join " " (mpL mk md ds us))) H'
section
variable {P : Program} {w : World} {K : PySem.W.Frag} {mg : Str → Option Value} {base : Heap}
theorem scRP : FnScope ["rule"] ["rule"] (defScope sRP) := ⟨rfl, rfl, rfl, by decide +kernel, rfl, by decide +kernel, by decide +kernel⟩
theorem ok_rp {f fP R fR : Addr} {fd dP : FuncData} (F : Fun K "rule_parts" "rule_parts" sRP f fd) (TR : TxRul K mg R fR) (D : Dn K mg "pattern_parts" sPP ["kind", "pattern"] fP dP) (G : FnOk P w K mg base CX0 2 fP dP ["kind", "pattern"] (spPP K)) : FnOk P w K mg base CX0 3 f fd ["rule"] (spRP K R) := by
  refine F.ok scRP (fun vs H Q E h => ?_) (fun cdv A outer s H vs Q E hr h => ?_)
  · obtain ⟨nm, b, x, dx, t1, t2, t3, ps, qs, vars, cs, g, rfl, _⟩ := h
    rfl
  · obtain ⟨nm, b, x, dx, t1, t2, t3, ps, qs, vars, cs, g, rfl, hx, q1, r1, q2, r2, q3, sm, k⟩ := h
    refine ⟨_, (pss_one (ps_ret (pe_lst (pa_star (pe_call G hr rfl D.g D.F.kp D.b .nil pass0 (pa_cons pe_str (pa_cons (pv 0) pa_nil))) (pa_cons pe_str (pa_star (pe_fld (pv 0) rfl) (pa_cons pe_str (pa_cons (pe_fld (pv 0) rfl) pa_nil)))))))), ?_⟩
    refine ⟨_, rfl, _, nm, x, vars, cs, rfl, ⟨R, dx, t1, t2, _, ps, qs, hx, TR.cl, TR.nn, TR.nv, TR.nc, rulF_name _ _ _ _ _, rulF_vars _ _ _ _ _, rulF_cond _ _ _ _ _, q1, r1, q2, r2⟩, sm, fun d H1 hd hS hl => ?_⟩
    refine ⟨d, _, rfl, .inr (SqL.of hl), _, rfl, x, R, dx, _, _, rfl, hS _ _ hx, TR.cl, TR.ng, rulF_gives _ _ _ _ _, t3, _, rfl, .inl (same_seqT hS q3), _, rfl, x, R, dx, _, _, rfl, hS _ _ hx, TR.cl, TR.nb, rulF_by _ _ _ _ _, ?_, fun l hl2 => ?_⟩
    · have v4 := sm.vl
      have c3 := sm.cl
      rw [List.length_append, List.length_map]
      have e : (partsL "rule" nm vars cs).length ≤ 20 := by
        unfold partsL
        rw [List.length_append, List.length_append, List.length_map, triP_len]
        show 2 + _ + _ ≤ 20
        omega
      exact Nat.le_trans (show _ + 6 ≤ 1000 by omega) (by decide)
    · refine k l _ (hS.free hl2) (hS.trans (Same.upd hl2)) ?_
      rw [upd_same]
      unfold rpL
      rw [List.map_append]
      rfl
theorem scMP : FnScope ["making"] ["making"] (defScope sMP) := ⟨rfl, rfl, rfl, by decide +kernel, rfl, by decide +kernel, by decide +kernel⟩
theorem ok_mp {f M fM : Addr} {fd : FuncData} (F : Fun K "making_parts" "making_parts" sMP f fd) (TM : TxMak K mg M fM) : FnOk P w K mg base CX0 1 f fd ["making"] (spMP K M) := by
  refine F.ok scMP (fun vs H Q E h => ?_) (fun cdv A outer s H vs Q E hr h => ?_)
  · obtain ⟨mk, md, x, dx, t1, t2, ds, us, rfl, _⟩ := h
    rfl
  · obtain ⟨mk, md, x, dx, t1, t2, ds, us, rfl, hx, q1, q2, n1, n2, k⟩ := h
    refine ⟨_, (pss_one (ps_ret (pe_lst (pa_cons pe_str (pa_cons (pe_fld (pv 0) rfl) (pa_cons (pe_fld (pv 0) rfl) (pa_cons pe_str (pa_star (pe_fld (pv 0) rfl) (pa_cons pe_str (pa_star (pe_fld (pv 0) rfl) pa_nil)))))))))), ?_⟩
    refine ⟨_, rfl, x, M, dx, _, _, rfl, hx, TM.cl, TM.nk, makF_maker _ _ _ _, _, rfl, x, M, dx, _, _, rfl, hx, TM.cl, TM.nd, makF_made _ _ _ _, _, rfl, x, M, dx, _, _, rfl, hx, TM.cl, TM.nw, makF_down _ _ _ _, t1, _, rfl, .inl q1, _, rfl, x, M, dx, _, _, rfl, hx, TM.cl, TM.nu, makF_up _ _ _ _, t2, _, rfl, .inl q2, ?_, fun l hl => ?_⟩
    · show (V.str _ :: V.str mk :: V.str md :: V.str _ :: (ds.map V.str ++ (V.str _ :: (us.map V.str ++ [])))).length ≤ sizeLine
      rw [List.append_nil, List.length_cons, List.length_cons, List.length_cons, List.length_cons, List.length_append, List.length_cons, List.length_map, List.length_map]
      exact Nat.le_trans (show _ ≤ 1000 by omega) (by decide)
    · refine k l _ hl (Same.upd hl) ?_
      rw [upd_same]
      unfold mpL
      rw [List.append_nil, List.map_append, List.map_append, List.map_append]
      rfl
theorem scBS : FnScope ["self"] ["self"] (defScope sBS) := ⟨rfl, rfl, rfl, by decide +kernel, rfl, by decide +kernel, by decide +kernel⟩
theorem ok_bs {f fP B fB : Addr} {fd dP : FuncData} (F : Fun K "__str__" "Bar.__str__" sBS f fd) (TB : TxBar K mg B fB) (D : Dn K mg "pattern_parts" sPP ["kind", "pattern"] fP dP) (G : FnOk P w K mg base CX0 2 fP dP ["kind", "pattern"] (spPP K)) : FnOk P w K mg base CX0 3 f fd ["self"] (spBS K B) := by
  refine F.ok scBS (fun vs H Q E h => ?_) (fun cdv A outer s H vs Q E hr h => ?_)
  · obtain ⟨nm, x, dx, t1, t2, ps, qs, vars, cs, rfl, _⟩ := h
    rfl
  · obtain ⟨nm, x, dx, t1, t2, ps, qs, vars, cs, rfl, hx, q1, r1, q2, r2, sm, hn, k⟩ := h
    refine ⟨_, (pss_one (ps_ret (pe_join pe_str (pe_call G hr rfl D.g D.F.kp D.b .nil pass0 (pa_cons pe_str (pa_cons (pv 0) pa_nil)))))), ?_⟩
    refine ⟨⟨_, rfl⟩, _, rfl, _, nm, x, vars, cs, rfl, ⟨B, dx, t1, t2, _, ps, qs, hx, TB.cl, TB.nn, TB.nv, TB.nc, barF_name _ _ _, barF_vars _ _ _, barF_cond _ _ _, q1, r1, q2, r2⟩, sm, fun d H1 hd hS hl => ?_⟩
    have ps := parts_small (kind := "bar") (by show _ ≤ 100; decide +kernel) hn sm
    exact ⟨_, d, partsL "bar" nm vars cs, rfl, rfl, .inl (SqL.of hl), join_ok ps.1 (by omega), k H1 hS⟩
theorem scRS : FnScope ["self"] ["self"] (defScope sRS) := ⟨rfl, rfl, rfl, by decide +kernel, rfl, by decide +kernel, by decide +kernel⟩
theorem ok_rs {f fP R fR : Addr} {fd dP : FuncData} (F : Fun K "__str__" "Rule.__str__" sRS f fd) (D : Dn K mg "rule_parts" sRP ["rule"] fP dP) (G : FnOk P w K mg base CX0 3 fP dP ["rule"] (spRP K R)) : FnOk P w K mg base CX0 4 f fd ["self"] (spRS K R) := by
  refine F.ok scRS (fun vs H Q E h => ?_) (fun cdv A outer s H vs Q E hr h => ?_)
  · obtain ⟨nm, b, x, dx, t1, t2, t3, ps, qs, vars, cs, g, rfl, _⟩ := h
    rfl
  · obtain ⟨nm, b, x, dx, t1, t2, t3, ps, qs, vars, cs, g, rfl, hx, q1, r1, q2, r2, q3, sm, hn, hb, hg, k⟩ := h
    refine ⟨_, (pss_one (ps_ret (pe_join pe_str (pe_call G hr rfl D.g D.F.kp D.b .nil pass0 (pa_cons (pv 0) pa_nil))))), ?_⟩
    refine ⟨⟨_, rfl⟩, _, rfl, nm, b, x, dx, t1, t2, t3, ps, qs, vars, cs, g, rfl, hx, q1, r1, q2, r2, q3, sm, fun d H1 hd hS hl => ?_⟩
    have ps := parts_small (kind := "rule") (by show _ ≤ 100; decide +kernel) hn sm
    refine ⟨_, d, rpL nm vars cs g b, rfl, rfl, .inl (SqL.of hl), join_ok ?_ ?_, k H1 hS⟩
    · intro z hz
      unfold rpL at hz
      rcases List.mem_append.mp hz with hz | hz
      · exact ps.1 z hz
      · have e1 : (PySem.Str.ofString ">").length ≤ 100 := by decide +kernel
        have e2 : (PySem.Str.ofString "by").length ≤ 100 := by decide +kernel
        have g1 : g.1.length ≤ 100 := hg.1
        have g2 : g.2.1.length ≤ 100 := hg.2.1
        have g3 : g.2.2.length ≤ 100 := hg.2.2
        have hb' : b.length ≤ 100 := hb
        simp at hz
        rcases hz with rfl | rfl | rfl | rfl | rfl | rfl <;> omega
    · unfold rpL
      rw [List.length_append]
      show _ + 6 ≤ 100
      omega
theorem scMS : FnScope ["self"] ["self"] (defScope sMS) := ⟨rfl, rfl, rfl, by decide +kernel, rfl, by decide +kernel, by decide +kernel⟩
theorem ok_ms {f fP M fM : Addr} {fd dP : FuncData} (F : Fun K "__str__" "Making.__str__" sMS f fd) (D : Dn K mg "making_parts" sMP ["making"] fP dP) (G : FnOk P w K mg base CX0 1 fP dP ["making"] (spMP K M)) : FnOk P w K mg base CX0 2 f fd ["self"] (spMS K M) := by
  refine F.ok scMS (fun vs H Q E h => ?_) (fun cdv A outer s H vs Q E hr h => ?_)
  · obtain ⟨mk, md, x, dx, t1, t2, ds, us, rfl, _⟩ := h
    rfl
  · obtain ⟨mk, md, x, dx, t1, t2, ds, us, rfl, hx, q1, q2, n1, n2, hs, k⟩ := h
    refine ⟨_, (pss_one (ps_ret (pe_join pe_str (pe_call G hr rfl D.g D.F.kp D.b .nil pass0 (pa_cons (pv 0) pa_nil))))), ?_⟩
    refine ⟨⟨_, rfl⟩, _, rfl, mk, md, x, dx, t1, t2, ds, us, rfl, hx, q1, q2, n1, n2, fun d H1 hd hS hl => ?_⟩
    refine ⟨_, d, mpL mk md ds us, rfl, rfl, .inl (SqL.of hl), join_ok ?_ ?_, k H1 hS⟩
    · intro z hz
      have e1 : (PySem.Str.ofString ">").length ≤ 100 := by decide +kernel
      have e2 : (PySem.Str.ofString "<").length ≤ 100 := by decide +kernel
      have e3 : (PySem.Str.ofString "making").length ≤ 100 := by decide +kernel
      have h0 : ∀ z ∈ mk :: md :: (ds ++ us), z.length ≤ 100 := hs
      unfold mpL at hz
      simp at hz
      rcases hz with rfl | rfl | rfl | rfl | hz | rfl | hz
      · omega
      · have := h0 z (by simp); omega
      · have := h0 z (by simp); omega
      · omega
      · have := h0 z (by simp [hz]); omega
      · omega
      · have := h0 z (by simp [hz]); omega
    · unfold mpL
      rw [List.length_append, List.length_append, List.length_append]
      show 4 + (_ + (1 + _)) ≤ 100
      omega
end
end Wm
namespace Wm
open PySem L2 StX
theorem strOk_of {z : Str} (h : okS z) : PyData.strOk z = true := by
  unfold PyData.strOk
  rw [Array.all_eq_true_iff_forall_mem]
  intro c hc
  exact decide_eq_true (h c (by simpa using hc))
def pdS (zs : List Str) : List PyData := zs.map PyData.str
def eqS (xs ys : List Str) : Bool := PyData.eqvAll (pdS xs) (pdS ys)
theorem dpAll_pdS {K : PySem.W.Frag} {H : Hp} : ∀ zs : List Str, DpAll K H (zs.map V.str) (pdS zs)
  | [] => .nil
  | z :: r => .cons (.str z) (dpAll_pdS r)
theorem lay_strs : ∀ {zs : List Str}, (∀ z ∈ zs, okS z) → PyData.canLayAll0 (pdS zs) = true
  | [], _ => by simp only [pdS, List.map_nil, PyData.canLayAll0]
  | z :: r, h => by
    have h1 := strOk_of (h z (List.mem_cons_self ..))
    have h2 := lay_strs (zs := r) fun y hy => h y (List.mem_cons_of_mem _ hy)
    unfold pdS at h2
    simp only [pdS, List.map_cons, PyData.canLayAll0, PyData.canLay0, h1, h2, Bool.and_self]
theorem depth_strs : ∀ (zs : List Str), PyData.depthAll (pdS zs) ≤ 1
  | [] => by simp [pdS, PyData.depthAll]
  | z :: r => by
    have h2 := depth_strs r
    unfold pdS at h2
    simp [pdS, PyData.depthAll, PyData.depth] 
    omega
theorem shaped_tup {zs : List Str} (h : ∀ z ∈ zs, okS z) : SeqAt.shaped (.tuple (pdS zs)) = true := by
  have h1 := lay_strs h
  have h2 := depth_strs zs
  simp [SeqAt.shaped, PyData.canLay0, PyData.depth, h1]
  omega
theorem shaped_lst {zs : List Str} (h : ∀ z ∈ zs, okS z) : SeqAt.shaped (.list (pdS zs)) = true := by
  have h1 := lay_strs h
  have h2 := depth_strs zs
  simp [SeqAt.shaped, PyData.canLay0, PyData.depth, h1]
  omega
/-- a making, at x -/
structure MakAt (H : Hp) (M x : Addr) (mk md : Str) (ds us : List Str) : Prop where
  ex : ∃ dx t1 t2, H x = some (.ins M dx (makF mk md t1 t2)) ∧ H t1 = some (.tup (ds.map V.str)) ∧ H t2 = some (.tup (us.map V.str))
  o1 : ∀ z ∈ ds, okS z
  o2 : ∀ z ∈ us, okS z
def sameM (mk md : Str) (ds us : List Str) (mk' md' : Str) (ds' us' : List Str) : Bool := decide (mk = mk') && (decide (md = md') && (eqS ds ds' && eqS us us'))
def spME (K : PySem.W.Frag) (M : Addr) : Sp := fun vs H Q _ => ∃ (x y : Addr) (mk md : Str) (ds us : List Str), vs = [.ref x, .ref y] ∧ MakAt H M x mk md ds us ∧
  ((∃ mk' md' ds' us', TyX K H (.ref y) (.ref M) ∧ MakAt H M y mk' md' ds' us' ∧ Q (.bl (sameM mk md ds us mk' md' ds' us')) H) ∨ (∃ D, TyX K H (.ref y) (.ref D) ∧ PySem.W.kitOne K (.ref D) (.ref M) = some false ∧ Q (.bl false) H))
section
variable {P : Program} {w : World} {K : PySem.W.Frag} {mg : Str → Option Value} {base : Heap}
theorem scME : FnScope ["self", "other"] ["self", "other"] (defScope sME) := ⟨rfl, rfl, rfl, by decide +kernel, rfl, by decide +kernel, by decide +kernel⟩
theorem ok_me {f fM M : Addr} {fd : FuncData} (F : Fun K "__eq__" "Making.__eq__" sME f fd) (T : TxB mg) (TM : TxMak K mg M fM) (kk : PySem.W.kitOne K (.ref M) (.ref M) = some true) : FnOk P w K mg base CX0 1 f fd ["self", "other"] (spME K M) := by
  refine F.ok scME (fun vs H Q E h => ?_) (fun cdv A outer s H vs Q E hr h => ?_)
  · obtain ⟨x, y, _, _, _, _, rfl, _⟩ := h
    rfl
  · obtain ⟨x, y, mk, md, ds, us, rfl, hx, h⟩ := h
    refine ⟨_, (pss_one (ps_ret (pe_and (pe_callB call_isi (by rfl) T.isinstance (by decide +kernel) (pa_cons (pv 1) (pa_cons (pe_glob (v := .ref M) (by rfl) TM.g rfl) pa_nil)))
      (pe_and (pe_cmpR op_eq (pe_fld (pv 0) rfl) (pe_fld (pv 1) rfl) (nomark _))
      (pe_and (pe_cmpR op_eq (pe_fld (pv 0) rfl) (pe_fld (pv 1) rfl) (nomark _))
      (pe_and (pe_cmpR (op_eqD hr.units) (pe_fld (pv 0) rfl) (pe_fld (pv 1) rfl) (nomark _))
      (pe_one (pe_cmpR (op_eqD hr.units) (pe_fld (pv 0) rfl) (pe_fld (pv 1) rfl) (nomark _))))))))), ?_⟩
    refine ⟨_, rfl, ?_⟩
    rcases h with ⟨mk', md', ds', us', ty, hy, q⟩ | ⟨D, ty, kf, q⟩
    · obtain ⟨dx, t1, t2, x1, x2, x3⟩ := hx.ex
      obtain ⟨dy, s1, s2, y1, y2, y3⟩ := hy.ex
      refine ⟨_, _, _, _, _, rfl, .own M, ty, kk, true, rfl, ?_⟩
      refine iteT ?_
      refine ⟨_, rfl, x, M, dx, _, _, rfl, x1, TM.cl, TM.nk, makF_maker _ _ _ _, _, rfl, y, M, dy, _, _, rfl, y1, TM.cl, TM.nk, makF_maker _ _ _ _, rfl, _, rfl, ?_⟩
      unfold sameM at q
      refine ite2 (fun c => ?_) (fun c => ?_)
      rotate_left
      · have e : ¬ mk = mk' := fun e => c (by rw [e]; exact decide_eq_true rfl)
        rw [decide_eq_false e, Bool.false_and] at q
        exact q
      have e1 : mk = mk' := V.str.inj (of_decide_eq_true c)
      rw [decide_eq_true e1, Bool.true_and] at q
      refine ⟨_, rfl, x, M, dx, _, _, rfl, x1, TM.cl, TM.nd, makF_made _ _ _ _, _, rfl, y, M, dy, _, _, rfl, y1, TM.cl, TM.nd, makF_made _ _ _ _, rfl, _, rfl, ?_⟩
      refine ite2 (fun c => ?_) (fun c => ?_)
      rotate_left
      · have e : ¬ md = md' := fun e => c (by rw [e]; exact decide_eq_true rfl)
        rw [decide_eq_false e, Bool.false_and] at q
        exact q
      have e2 : md = md' := V.str.inj (of_decide_eq_true c)
      rw [decide_eq_true e2, Bool.true_and] at q
      refine ⟨_, rfl, x, M, dx, _, _, rfl, x1, TM.cl, TM.nw, makF_down _ _ _ _, _, rfl, y, M, dy, _, _, rfl, y1, TM.cl, TM.nw, makF_down _ _ _ _, _, _, .tup (SqT.of x2) (dpAll_pdS ds), .tup (SqT.of y2) (dpAll_pdS ds'), shaped_tup hx.o1, shaped_tup hy.o1, _, rfl, ?_⟩
      have ed : PyData.eqv (.tuple (pdS ds)) (.tuple (pdS ds')) = eqS ds ds' := by
        unfold eqS
        simp only [PyData.eqv]
      have eu : PyData.eqv (.tuple (pdS us)) (.tuple (pdS us')) = eqS us us' := by
        unfold eqS
        simp only [PyData.eqv]
      rw [ed]
      refine ite2 (fun c => ?_) (fun c => ?_)
      rotate_left
      · rw [Bool.eq_false_iff.mpr c, Bool.false_and] at q
        exact q
      rw [c, Bool.true_and] at q
      refine ⟨_, rfl, x, M, dx, _, _, rfl, x1, TM.cl, TM.nu, makF_up _ _ _ _, _, rfl, y, M, dy, _, _, rfl, y1, TM.cl, TM.nu, makF_up _ _ _ _, _, _, .tup (SqT.of x3) (dpAll_pdS us), .tup (SqT.of y3) (dpAll_pdS us'), shaped_tup hx.o2, shaped_tup hy.o2, ?_⟩
      rw [eu]
      exact q
    · refine ⟨_, _, _, _, _, rfl, .own M, ty, kf, false, rfl, ?_⟩
      exact iteF q
end
end Wm
namespace Wm
open PySem L2
theorem emp_app (z : Str) : Str.empty ++ z = z := by
  have e : (Str.empty ++ z : Str).cps.toList = z.cps.toList := by rw [toList_app]; rfl
  cases z with
  | mk a =>
    cases h : (Str.empty ++ ⟨a⟩ : Str) with
    | mk b =>
      rw [h] at e
      simp only at e
      rw [Array.toList_inj.mp e]
def spPpt (K : PySem.W.Frag) : Sp := fun vs H Q _ => ∃ (kind nm : Str) (lv lc : Addr) (ps qs : List Addr) (vars : List Var) (cs : List Tri), vs = [.str kind, .str nm, .ref lv, .ref lc] ∧ H lv = some (.lst (ps.map V.ref)) ∧ RowsAt K H ps (vars.map varV) ∧ H lc = some (.lst (qs.map V.ref)) ∧ RowsAt K H qs (cs.map triV) ∧ SmP vars cs ∧ vars.length ≤ 4 ∧ cs.length ≤ 3 ∧ ∀ d H', H d = none → Same H H' → H' d = some (.lst ((partsL kind nm vars cs).map V.str)) → Q (.ref d) H'
section
variable {P : Program} {w : World} {K : PySem.W.Frag} {mg : Str → Option Value} {base : Heap}
theorem scPpt : FnScope ["_law_kind", "_law_name_here", "_law_variables", "_law_conditions", "_law_parts", "_law_one", "_law_sort", "_law_x", "_law_word", "_law_y"] ["_law_kind", "_law_name_here", "_law_variables", "_law_conditions"] (defScope sPpt) := ⟨rfl, rfl, rfl, by decide +kernel, rfl, by decide +kernel, by decide +kernel⟩
theorem ok_ppt {f : Addr} {fd : FuncData} (F : Fun K "_law_pattern_parts" "_law_pattern_parts" sPpt f fd) (T : TxB mg) : FnOk P w K mg base CX0 1 f fd ["_law_kind", "_law_name_here", "_law_variables", "_law_conditions"] (spPpt K) := by
  refine F.ok scPpt (fun vs H Q E h => ?_) (fun cdv A outer s H vs Q E hr h => ?_)
  · obtain ⟨kind, nm, lv, lc, ps, qs, vars, cs, rfl, _⟩ := h
    rfl
  · obtain ⟨kind, nm, lv, lc, ps, qs, vars, cs, rfl, hlv, rv, hlc, rc, sm, v4, c3, k⟩ := h
    refine ⟨_, (pss_cons (ps_set (i := 4) scPpt.nd rfl (Or.inl rfl) (pe_lst (pa_cons (pv 0) (pa_cons (pv 1) pa_nil))))
      (pss_cons (ps_for PassesOwn.never rfl (pi_list (pv 2)) (pg_tup rfl (pgs_cons (pg_name (i := 5) scPpt.nd rfl (Or.inl rfl)) (pgs_cons (pg_name (i := 6) scPpt.nd rfl (Or.inl rfl)) pgs_nil))) (pss_one (ps_if (pt_cmp (pc_isN (pv 6))) (pss_one (ps_expr (pe_bm PySem.F.plainAttrs_list PySem.F.slot_list_append PySem.F.type_list_append mt_append (pv 4) (pa_cons (pv 5) pa_nil)))) (pss_one (ps_expr (pe_bm PySem.F.plainAttrs_list PySem.F.slot_list_append PySem.F.type_list_append mt_append (pv 4) (pa_cons (pe_op op_add_str (pe_op op_add_str (pv 5) pe_str) (pv 6)) pa_nil)))))))
      (pss_cons (ps_for PassesOwn.never rfl (pi_list (pv 3)) (pg_tup rfl (pgs_cons (pg_name (i := 7) scPpt.nd rfl (Or.inl rfl)) (pgs_cons (pg_name (i := 8) scPpt.nd rfl (Or.inl rfl)) (pgs_cons (pg_name (i := 9) scPpt.nd rfl (Or.inl rfl)) pgs_nil)))) (pss_one (ps_set (i := 4) scPpt.nd rfl (Or.inl rfl) (pe_op op_cat (pv 4) (pe_lst (pa_cons pe_str (pa_cons (pv 7) (pa_cons (pv 8) (pa_cons (pv 9) pa_nil)))))))))
      (pss_one (ps_ret (pv 4)))))), ?_⟩
    refine ⟨_, rfl, _, rfl, by show 2 ≤ sizeLine; decide, fun d0 hd0 => ?_⟩
    have S0 : Same H (upd H d0 (.lst [.str kind, .str nm])) := Same.upd hd0
    have e0 : (upd H d0 (.lst [.str kind, .str nm])) d0 = some (.lst (([kind, nm] : List Str).map V.str)) := upd_same
    generalize upd H d0 (.lst [.str kind, .str nm]) = H0 at S0 e0
    dsimp only [gName, List.set_cons_succ, List.set_cons_zero]
    have keep : ∀ {H5 : Hp} {o : HO}, Same H H5 → Same H (upd H5 d0 o) := fun {H5 o} h a u w => by
      rw [upd_ne (ne_of_none w hd0)]
      exact h a u w
    have big : ∀ {n : Nat}, n ≤ 1000 → n < sizeLine := fun {n} h => Nat.lt_of_le_of_lt h (by decide)
    have pl : ps.length = vars.length := by
      have := rv.len
      rw [List.length_map] at this
      exact this
    have ql : qs.length = cs.length := by
      have := rc.len
      rw [List.length_map] at this
      exact this
    refine ⟨_, rfl, lv, rfl, ⟨_, SqL.of (S0 _ _ hlv)⟩, for_list (K := K) (a := lv) (xs := ps.map V.ref) (fun i σ H' => (∃ a b : Option V, σ = [some (.str kind), some (.str nm), some (.ref lv), some (.ref lc), some (.ref d0), a, b, none, none, none]) ∧ H' d0 = some (.lst ((([kind, nm] : List Str) ++ (vars.take i).map varP).map V.str)) ∧ Same H H') ⟨⟨none, none, rfl⟩, e0, S0⟩ (fun i σ H' _ pp => SqL.of (pp.2.2 _ _ hlv)) ?_ ?_⟩
    · rintro i y σ H5 hi ⟨⟨a, b, rfl⟩, hd5, S5⟩
      rw [List.getElem?_map] at hi
      obtain ⟨da, hda, rfl⟩ := Option.map_eq_some_iff.mp hi
      obtain ⟨er, her, hsq⟩ := rv.get hda
      rw [List.getElem?_map] at her
      obtain ⟨⟨n1, s1⟩, he, rfl⟩ := Option.map_eq_some_iff.mp her
      have mv := List.mem_of_getElem? he
      have il : i < vars.length := (List.getElem?_eq_some_iff.mp he).1
      have small := sm.v _ mv
      have ll : ((([kind, nm] : List Str) ++ (vars.take i).map varP).map V.str).length ≤ 1000 := by
        rw [List.length_map, List.length_append, List.length_map, List.length_take]
        show 2 + _ ≤ 1000
        omega
      refine ⟨da, _, rfl, same_seqT S5 hsq, rfl, _, _, rfl, _, _, rfl, rfl, ?_⟩
      dsimp only [gName, List.set_cons_succ, List.set_cons_zero]
      cases s1 with
      | none =>
        refine ⟨_, rfl, _, rfl, ?_⟩
        refine iteT ?_
        refine ⟨_, rfl, .inl ⟨rfl, _, SqL.of hd5⟩, _, rfl, d0, _, _, rfl, rfl, hd5, big ll, ⟨_, _, rfl⟩, ?_, keep S5⟩
        rw [upd_same, List.take_add_one, he]
        simp only [Option.toList, List.map_append, List.map_cons, List.map_nil, List.append_assoc]
        rfl
      | some s1 =>
        refine ⟨_, rfl, _, rfl, ?_⟩
        refine iteF ?_
        have z1 : n1.length ≤ 100 := small.1
        have z2 : s1.length ≤ 100 := small.2 s1 rfl
        refine ⟨_, rfl, .inl ⟨rfl, _, SqL.of hd5⟩, _, rfl, _, _, rfl, rfl, Nat.le_trans (show n1.length + 1 ≤ 1000 by omega) (by decide), _, rfl, _, _, rfl, rfl, ?_, d0, _, _, rfl, rfl, hd5, big ll, ⟨_, _, rfl⟩, ?_, keep S5⟩
        · rw [len_app]
          exact Nat.le_trans (show n1.length + 1 + s1.length ≤ 1000 by omega) (by decide)
        · have ev : varP (n1, some s1) = n1 ++ PySem.Str.ofString ":" ++ s1 := by
            show Str.empty ++ n1 ++ PySem.Str.ofString ":" ++ s1 = _
            rw [emp_app]
          rw [upd_same, List.take_add_one, he]
          simp only [Option.toList, List.map_append, List.map_cons, List.map_nil, List.append_assoc, ev]
    · rintro σ H5 ⟨⟨a, b, rfl⟩, hd5, S5⟩
      rw [List.length_map, pl, List.take_length] at hd5
      refine ⟨_, rfl, lc, rfl, ⟨_, SqL.of (S5 _ _ hlc)⟩, for_list (K := K) (a := lc) (xs := qs.map V.ref) (fun i σ H' => (∃ (dd : Addr) (x y z : Option V), σ = [some (.str kind), some (.str nm), some (.ref lv), some (.ref lc), some (.ref dd), a, b, x, y, z] ∧ H dd = none ∧ H' dd = some (.lst (((([kind, nm] : List Str) ++ vars.map varP) ++ (cs.take i).flatMap triP).map V.str))) ∧ Same H H') ⟨⟨d0, none, none, none, rfl, hd0, by rw [hd5]; simp⟩, S5⟩ (fun i σ H' _ pp => SqL.of (pp.2 _ _ hlc)) ?_ ?_⟩
      · rintro i y σ H6 hi ⟨⟨dd, x1, x2, x3, rfl, hdn, hd6⟩, S6⟩
        rw [List.getElem?_map] at hi
        obtain ⟨da, hda, rfl⟩ := Option.map_eq_some_iff.mp hi
        obtain ⟨er, her, hsq⟩ := rc.get hda
        rw [List.getElem?_map] at her
        obtain ⟨⟨n1, n2, n3⟩, he, rfl⟩ := Option.map_eq_some_iff.mp her
        have il : i < cs.length := (List.getElem?_eq_some_iff.mp he).1
        have fl : ∀ l : List Tri, (l.flatMap triP).length = 4 * l.length := fun l => by
          induction l with
          | nil => rfl
          | cons t l ih =>
            rw [List.flatMap_cons, List.length_append, ih, List.length_cons]
            show 4 + _ = _
            omega
        refine ⟨da, _, rfl, same_seqT S6 hsq, rfl, _, _, rfl, _, _, rfl, _, _, rfl, rfl, ?_⟩
        dsimp only [gName, List.set_cons_succ, List.set_cons_zero]
        refine ⟨_, rfl, _, rfl, _, rfl, _, rfl, by show 4 ≤ sizeLine; decide, fun l2 hl2 => ?_⟩
        have S7 : Same H6 (upd H6 l2 (.lst [.str "|", .str n1, .str n2, .str n3])) := Same.upd hl2
        have e7 : (upd H6 l2 (.lst [.str "|", .str n1, .str n2, .str n3])) l2 = some (.lst ((triP (n1, n2, n3)).map V.str)) := upd_same
        generalize upd H6 l2 (.lst [.str "|", .str n1, .str n2, .str n3]) = H7 at S7 e7
        refine ⟨dd, l2, _, _, rfl, rfl, S7 _ _ hd6, e7, ?_, fun l3 hl3 => ?_⟩
        · rw [List.length_map, List.length_append, List.length_append, List.length_map, fl, List.length_take, List.length_map]
          exact Nat.le_trans (show 2 + vars.length + 4 * min i cs.length + 4 ≤ 1000 by omega) (by decide)
        dsimp only [gName, List.set_cons_succ, List.set_cons_zero]
        have S68 := S6.trans (S7.trans (Same.upd (o := .lst (((([kind, nm] : List Str) ++ vars.map varP) ++ (cs.take i).flatMap triP).map V.str ++ (triP (n1, n2, n3)).map V.str)) hl3))
        refine ⟨⟨l3, _, _, _, rfl, (S6.trans S7).free hl3, ?_⟩, S68⟩
        rw [upd_same, List.take_add_one, he]
        simp only [Option.toList, List.flatMap_append, List.flatMap_cons, List.flatMap_nil, List.map_append, List.append_assoc, List.append_nil]
      · rintro σ H6 ⟨⟨dd, x1, x2, x3, rfl, hdn, hd6⟩, S6⟩
        rw [List.length_map, ql, List.take_length] at hd6
        exact ⟨_, rfl, k dd H6 hdn S6 hd6⟩
end
end Wm
namespace Wm
open PySem L2
/-- a text without a colon -/
def NoC (z : Str) : Prop := 58 ∉ z.cps.toList
theorem colonS : PySem.Str.ofString ":" = (⟨#[58]⟩ : Str) := by decide +kernel
theorem strS (z : Str) : z = SX.S z.cps.toList := (SX.S_tl z).symm
theorem part_none {n : Str} (h : NoC n) : Txt.partition n (PySem.Str.ofString ":") = (n, PySem.Str.ofString "", PySem.Str.ofString "") := by
  rw [colonS, strS n]
  have e := SX.partition_none (a := n.cps.toList) (b := [58]) (by simp) (SX.par_head_none h)
  exact e
theorem part_some {n s : Str} (h : NoC n) : Txt.partition (n ++ PySem.Str.ofString ":" ++ s) (PySem.Str.ofString ":") = (n, PySem.Str.ofString ":", s) := by
  rw [colonS]
  have e := SX.partition_some (a := n.cps.toList ++ ([58] ++ s.cps.toList)) (b := [58]) (by simp) (SX.par_head s.cps.toList h)
  have q : (n ++ (⟨#[58]⟩ : Str) ++ s) = SX.S (n.cps.toList ++ ([58] ++ s.cps.toList)) := by
    rw [← SX.S_cat, ← SX.S_cat, SX.S_tl, SX.S_tl]
    rw [strS ((n ++ (⟨#[58]⟩ : Str)) ++ s), strS (n ++ ((SX.S [58]) ++ s))]
    congr 1
    rw [toList_app, toList_app, toList_app, toList_app, List.append_assoc]
  rw [q, e, SX.S_tl, SX.S_tl]
def spVo : Sp := fun vs H Q _ => ∃ v : Var, vs = [.str (varP v)] ∧ NoC v.1 ∧ v.1.length ≤ 100 ∧ (∀ s, v.2 = some s → s.length ≤ 100) ∧ ∀ t H', Same H H' → H t = none → H' t = some (.tup (varV v)) → Q (.ref t) H'
def plc (ps sg : List Str) (st : Nat) : Nat := st + (ps.drop st).findIdx fun z => decide (z ∈ sg)
theorem plc_hit {ps sg : List Str} {st t : Nat} {z : Str} (hz : ps[st + t]? = some z) (hm : z ∈ sg) (ha : ∀ j y, j < t → ps[st + j]? = some y → y ∉ sg) : plc ps sg st = st + t := by
  unfold plc
  have h1 : (ps.drop st)[t]? = some z := by rw [List.getElem?_drop]; exact hz
  obtain ⟨hl, e⟩ := List.getElem?_eq_some_iff.mp h1
  rw [(List.findIdx_eq hl).mpr ⟨by rw [e]; exact decide_eq_true hm, fun j hj => ?_⟩]
  refine decide_eq_false (ha j _ hj ?_)
  rw [← List.getElem?_drop]
  exact List.getElem?_eq_getElem (by omega)
theorem plc_none {ps sg : List Str} {st : Nat} (hs : st ≤ ps.length) (ha : ∀ j y, j < ps.length - st → ps[st + j]? = some y → y ∉ sg) : plc ps sg st = ps.length := by
  unfold plc
  have e : (ps.drop st).findIdx (fun z => decide (z ∈ sg)) = (ps.drop st).length := by
    rw [List.findIdx_eq_length]
    intro x hx
    obtain ⟨j, hj⟩ := List.mem_iff_getElem?.mp hx
    have jl := (List.getElem?_eq_some_iff.mp hj).1
    rw [List.length_drop] at jl
    rw [List.getElem?_drop] at hj
    exact decide_eq_false (ha j x jl hj)
  rw [e, List.length_drop]
  omega
def spPl (K : PySem.W.Frag) : Sp := fun vs H Q _ => ∃ (l t : Addr) (st : Nat) (ps sg : List Str), vs = [.ref l, .ref t, .int (st : Int)] ∧ H l = some (.lst (ps.map V.str)) ∧ SqT K H t (sg.map V.str) ∧ st ≤ ps.length ∧ ps.length ≤ 1000 ∧ Q (.int (plc ps sg st : Int)) H
section
variable {P : Program} {w : World} {K : PySem.W.Frag} {mg : Str → Option Value} {base : Heap}
theorem scVo : FnScope ["part", "name", "colon", "sort"] ["part"] (defScope sVo) := ⟨rfl, rfl, rfl, by decide +kernel, rfl, by decide +kernel, by decide +kernel⟩
theorem ok_vo {f : Addr} {fd : FuncData} (F : Fun K "variable_of" "variable_of" sVo f fd) : FnOk P w K mg base CX0 1 f fd ["part"] spVo := by
  refine F.ok scVo (fun vs H Q E h => ?_) (fun cdv A outer s H vs Q E hr h => ?_)
  · obtain ⟨v, rfl, _⟩ := h
    rfl
  · obtain ⟨⟨n1, s1⟩, rfl, nc, l1, l2, k⟩ := h
    refine ⟨_, (pss_cons (ps_asg (pe_partition (pv 0) pe_str) (pg_tup rfl (pgs_cons (pg_name (i := 1) scVo.nd rfl (Or.inl rfl)) (pgs_cons (pg_name (i := 2) scVo.nd rfl (Or.inl rfl)) (pgs_cons (pg_name (i := 3) scVo.nd rfl (Or.inl rfl)) pgs_nil)))))
      (pss_cons (ps_if (pt_cmpR op_eq (pv 2) pe_str (nomark _)) (pss_one (ps_ret (pe_tup (pa_cons (pv 1) (pa_cons pe_non pa_nil))))) pss_nil)
      (pss_one (ps_ret (pe_tup (pa_cons (pv 1) (pa_cons (pv 3) pa_nil))))))), ?_⟩
    have big : ∀ {m : Nat}, m ≤ 1000 → m ≤ sizeLine := fun {m} h => Nat.le_trans h (by decide)
    cases s1 with
    | none =>
      have ep := part_none (n := n1) nc
      have el : (varP (n1, none)).length ≤ 1000 := by show n1.length ≤ 1000; have : n1.length ≤ 100 := l1; omega
      refine ⟨_, rfl, ⟨_, rfl⟩, _, _, rfl, rfl, by decide +kernel, big el, fun a ha => ?_⟩
      rw [show Txt.partition (varP (n1, none)) (PySem.Str.ofString ":") = (n1, PySem.Str.ofString "", PySem.Str.ofString "") from ep]
      have S1 : Same H (upd H a (.tup [.str n1, .str "", .str ""])) := Same.upd ha
      have e1 : (upd H a (.tup [.str n1, .str "", .str ""])) a = some (.tup [.str n1, .str "", .str ""]) := upd_same
      generalize upd H a (.tup [.str n1, .str "", .str ""]) = H1 at S1 e1
      refine ⟨a, _, rfl, SqT.of e1, rfl, _, _, rfl, _, _, rfl, _, _, rfl, rfl, ?_⟩
      dsimp only [gName, List.set_cons_succ, List.set_cons_zero]
      refine ⟨_, rfl, rfl, _, rfl, ?_⟩
      refine iteT ?_
      refine ⟨_, rfl, by show 2 ≤ sizeLine; decide, fun b hb => ?_⟩
      exact k b _ (S1.trans (Same.upd hb)) (S1.free hb) upd_same
    | some s1 =>
      have ev : varP (n1, some s1) = n1 ++ PySem.Str.ofString ":" ++ s1 := by
        show Str.empty ++ n1 ++ PySem.Str.ofString ":" ++ s1 = _
        rw [emp_app]
      have ep := part_some (n := n1) (s := s1) nc
      rw [← ev] at ep
      have z1 : n1.length ≤ 100 := l1
      have z2 := l2 s1 rfl
      have el : (varP (n1, some s1)).length ≤ 1000 := by
        rw [ev, len_app, len_app]
        show n1.length + 1 + s1.length ≤ 1000
        omega
      refine ⟨_, rfl, ⟨_, rfl⟩, _, _, rfl, rfl, by decide +kernel, big el, fun a ha => ?_⟩
      rw [ep]
      have S1 : Same H (upd H a (.tup [.str n1, .str ":", .str s1])) := Same.upd ha
      have e1 : (upd H a (.tup [.str n1, .str ":", .str s1])) a = some (.tup [.str n1, .str ":", .str s1]) := upd_same
      generalize upd H a (.tup [.str n1, .str ":", .str s1]) = H1 at S1 e1
      refine ⟨a, _, rfl, SqT.of e1, rfl, _, _, rfl, _, _, rfl, _, _, rfl, rfl, ?_⟩
      dsimp only [gName, List.set_cons_succ, List.set_cons_zero]
      refine ⟨_, rfl, rfl, _, rfl, ?_⟩
      refine iteF ?_
      refine ⟨_, rfl, _, rfl, by show 2 ≤ sizeLine; decide, fun b hb => ?_⟩
      exact k b _ (S1.trans (Same.upd hb)) (S1.free hb) upd_same
theorem scPl : FnScope ["parts", "signs", "start", "place"] ["parts", "signs", "start"] (defScope sPl) := ⟨rfl, rfl, rfl, by decide +kernel, rfl, by decide +kernel, by decide +kernel⟩
theorem ok_pl {f : Addr} {fd : FuncData} (F : Fun K "place_of" "place_of" sPl f fd) (T : TxB mg) : FnOk P w K mg base CX0 1 f fd ["parts", "signs", "start"] (spPl K) := by
  refine F.ok scPl (fun vs H Q E h => ?_) (fun cdv A outer s H vs Q E hr h => ?_)
  · obtain ⟨l, t, st, ps, sg, rfl, _⟩ := h
    rfl
  · obtain ⟨l, t, st, ps, sg, rfl, hl, ht, hs, h1000, k⟩ := h
    refine ⟨_, (pss_cons (ps_for PassesOwn.never rfl (pi_range2 rfl T.range (pa_cons (pv 2) (pa_cons (pe_callB call_len_seq (by rfl) T.len (by decide +kernel) (pa_cons (pv 0) pa_nil)) pa_nil))) (pg_name (i := 3) scPl.nd rfl (Or.inl rfl)) (pss_one (ps_if (pt_cmpR op_in_seq (pe_ix ix_list (pv 0) (pv 3) (fun _ _ => rfl)) (pv 1) (by rfl)) (pss_one (ps_ret (pv 3))) pss_nil)))
      (pss_one (ps_ret (pe_callB call_len_seq (by rfl) T.len (by decide +kernel) (pa_cons (pv 0) pa_nil))))), ?_⟩
    have ll : (ps.map V.str).length = ps.length := List.length_map ..
    refine ⟨_, rfl, _, rfl, l, _, rfl, .inl (SqL.of hl), (st : Int), ((ps.map V.str).length : Int), rfl, ⟨by omega, by omega, by omega, by omega⟩, ?_⟩
    refine for_range (n := (((ps.map V.str).length : Int) - (st : Int)).toNat) (fun i σ H' => (∃ v : Option V, σ = [some (.ref l), some (.ref t), some (.int (st : Int)), v]) ∧ H' = H ∧ ∀ j y, j < i → ps[st + j]? = some y → y ∉ sg) ⟨⟨none, rfl⟩, rfl, fun j y hj => absurd hj (Nat.not_lt_zero j)⟩ ?_ ?_
    · rintro i σ H' hi ⟨⟨v, rfl⟩, rfl, ha⟩
      have il : st + i < ps.length := by omega
      have ei : (st : Int) + (i : Int) = ((st + i : Nat) : Int) := by omega
      dsimp only [gName, List.set_cons_succ, List.set_cons_zero]
      rw [ei]
      refine ⟨_, rfl, _, rfl, rdList hl (j := st + i) (v := .str (ps[st + i]'il)) rfl (by rw [List.getElem?_map, List.getElem?_eq_getElem il]; rfl) ?_⟩
      have hz : ps[st + i]? = some (ps[st + i]'il) := List.getElem?_eq_getElem il
      generalize ps[st + i]'il = z at hz
      refine ⟨_, rfl, t, _, rfl, .inr ht, rfl, flats sg, _, rfl, ?_⟩
      show if inV (.str z) (sg.map V.str) = true then _ else _
      rw [inV_strs]
      by_cases hm : z ∈ sg
      · rw [decide_eq_true hm]
        refine iteT ?_
        have e := plc_hit hz hm ha
        rw [e] at k
        exact ⟨_, rfl, k⟩
      · rw [decide_eq_false hm]
        refine iteF ?_
        refine ⟨⟨_, rfl⟩, rfl, fun j y hj hy => ?_⟩
        by_cases e : j = i
        · subst e
          rw [hz] at hy
          cases hy
          exact hm
        · exact ha j y (by omega) hy
    · rintro σ H' ⟨⟨v, rfl⟩, rfl, ha⟩
      have e := plc_none hs (fun j y hj hy => ha j y (by omega) hy)
      rw [e] at k
      refine ⟨_, rfl, l, _, rfl, .inl (SqL.of hl), ?_⟩
      rw [ll]
      exact k
end
end Wm
namespace Wm
open PySem L2
theorem cut_two (xs : List V) (a b : Nat) : cutV xs (some (a : Int)) (some (b : Int)) = (xs.drop a).take (b - a) := by
  unfold cutV
  rw [HT.sIx_nat, HT.sIx_nat]
  by_cases h : a ≤ xs.length
  · rw [Nat.min_eq_left h]
    by_cases h2 : b ≤ xs.length
    · rw [Nat.min_eq_left h2]
    · rw [Nat.min_eq_right (by omega), List.take_of_length_le (by rw [List.length_drop]; omega), List.take_of_length_le (by rw [List.length_drop]; omega)]
  · rw [Nat.min_eq_right (show xs.length ≤ a by omega), List.drop_of_length_le (Nat.le_refl _), List.drop_of_length_le (show xs.length ≤ a by omega), List.take_nil, List.take_nil]
theorem tri_len : ∀ l : List Tri, (l.flatMap triP).length = 4 * l.length
  | [] => rfl
  | t :: l => by
    rw [List.flatMap_cons, List.length_append, tri_len l, List.length_cons]
    show 4 + _ = _
    omega
theorem tri_drop : ∀ (l : List Tri) (i : Nat), i ≤ l.length → (l.flatMap triP).drop (4 * i) = (l.drop i).flatMap triP
  | l, 0, _ => rfl
  | [], i + 1, h => by simp at h
  | t :: l, i + 1, h => by
    rw [List.flatMap_cons, List.drop_succ_cons, ← tri_drop l i (by simpa using h)]
    show (triP t ++ l.flatMap triP).drop (4 * (i + 1)) = _
    have e : 4 * (i + 1) = (triP t).length + 4 * i := by
      show _ = 4 + 4 * i
      omega
    rw [e, List.drop_length_add_append]
/-- the parts of a row's pattern, and what stands behind them -/
def rowP (kind nm : Str) (vars : List Var) (cs : List Tri) (tl : List Str) : List Str := partsL kind nm vars cs ++ tl
theorem rowP_len (kind nm : Str) (vars : List Var) (cs : List Tri) (tl : List Str) : (rowP kind nm vars cs tl).length = 2 + vars.length + 4 * cs.length + tl.length := by
  unfold rowP partsL
  rw [List.length_append, List.length_append, List.length_append, tri_len, List.length_map]
  show 2 + _ + _ + _ = _
  omega
theorem rowP_drop (kind nm : Str) (vars : List Var) (cs : List Tri) (tl : List Str) {i : Nat} (h : i ≤ cs.length) : (rowP kind nm vars cs tl).drop (2 + vars.length + 4 * i) = (cs.drop i).flatMap triP ++ tl := by
  unfold rowP partsL
  have e : 2 + vars.length + 4 * i = ([kind, nm] ++ vars.map varP).length + 4 * i := by
    rw [List.length_append, List.length_map]
    rfl
  rw [List.append_assoc, e, List.drop_length_add_append, List.drop_append_of_le_length (by rw [tri_len]; omega), tri_drop cs i h]
theorem rowP_vars (kind nm : Str) (vars : List Var) (cs : List Tri) (tl : List Str) : ((rowP kind nm vars cs tl).drop 2).take vars.length = vars.map varP := by
  unfold rowP partsL
  show ((((vars.map varP) ++ cs.flatMap triP) ++ tl)).take vars.length = _
  rw [List.append_assoc, List.take_append_of_le_length (by rw [List.length_map]; omega), List.take_of_length_le (by rw [List.length_map]; omega)]
def plain (v : Var) : Prop := varP v ∉ ([("|" : Str), ">"] : List Str)
theorem rowP_at {kind nm : Str} {vars : List Var} {cs : List Tri} {tl : List Str} (hc : cs ≠ []) (hp : ∀ v ∈ vars, plain v) : plc (rowP kind nm vars cs tl) ["|", ">"] 2 = 2 + vars.length := by
  refine plc_hit (z := "|") ?_ (by simp) (fun j y hj hy => ?_)
  · have e := rowP_drop kind nm vars cs tl (i := 0) (Nat.zero_le _)
    rw [Nat.mul_zero, Nat.add_zero, List.drop_zero] at e
    have q : (rowP kind nm vars cs tl)[2 + vars.length]? = ((rowP kind nm vars cs tl).drop (2 + vars.length))[0]? := by rw [List.getElem?_drop, Nat.add_zero]
    rw [q, e]
    cases cs with
    | nil => exact absurd rfl hc
    | cons t l => rfl
  · have e := rowP_vars kind nm vars cs tl
    have q : (((rowP kind nm vars cs tl).drop 2).take vars.length)[j]? = some y := by
      rw [List.getElem?_take_of_lt hj, List.getElem?_drop]
      exact hy
    rw [e, List.getElem?_map] at q
    obtain ⟨v, hv, rfl⟩ := Option.map_eq_some_iff.mp q
    exact hp v (List.mem_of_getElem? hv)
end Wm
namespace Wm
open PySem L2
structure OkVs (vars : List Var) : Prop where
  l4 : vars.length ≤ 4
  nc : ∀ v ∈ vars, NoC v.1
  sm : ∀ v ∈ vars, v.1.length ≤ 100 ∧ ∀ s, v.2 = some s → s.length ≤ 100
  pl : ∀ v ∈ vars, plain v
def spPd (K : PySem.W.Frag) : Sp := fun vs H Q _ => ∃ (l : Addr) (kind nm : Str) (vars : List Var) (cs : List Tri) (tl : List Str), vs = [.ref l] ∧ H l = some (.lst ((rowP kind nm vars cs tl).map V.str)) ∧ OkVs vars ∧ cs ≠ [] ∧ cs.length ≤ 3 ∧ tl.length ≤ 10 ∧ (∀ z ∈ rowP kind nm vars cs tl, okS z) ∧ tl.take 1 ≠ [("|" : Str)] ∧
  ∀ (t u lv lc : Addr) (ps qs : List Addr) H', Same H H' → H t = none → H lv = none → H lc = none → H' t = some (.tup [.ref u, .int ((2 + vars.length + 4 * cs.length : Nat) : Int)]) → H' u = some (.tup [.str nm, .ref lv, .ref lc]) → H' lv = some (.lst (ps.map V.ref)) → RowsAt K H' ps (vars.map varV) → H' lc = some (.lst (qs.map V.ref)) → RowsAt K H' qs (cs.map triV) → Q (.ref t) H'
theorem dp_strs {K : PySem.W.Frag} {H : Hp} : ∀ zs : List Str, DpAll K H (zs.map V.str) (zs.map PyData.str)
  | [] => .nil
  | z :: r => .cons (.str z) (dp_strs r)
theorem eqvAll_strs : ∀ (a b : List Str), PyData.eqvAll (a.map PyData.str) (b.map PyData.str) = decide (a = b)
  | [], [] => by simp [PyData.eqvAll]
  | [], _ :: _ => by simp [PyData.eqvAll]
  | _ :: _, [] => by simp [PyData.eqvAll]
  | x :: r, y :: t => by
    have ih := eqvAll_strs r t
    simp only [List.map_cons, PyData.eqvAll, ih]
    by_cases h : x = y
    · by_cases h2 : r = t
      · simp [h, h2, PyData.eqv]
      · simp [h, h2, PyData.eqv]
    · simp [h, PyData.eqv]
theorem eqv_strs (a b : List Str) : PyData.eqv (.list (a.map PyData.str)) (.list (b.map PyData.str)) = decide (a = b) := by
  have e := eqvAll_strs a b
  simp only [PyData.eqv]
  exact e

def muK (σ : L2.St) : Nat := match σ with
  | [_, some (.int a), _, _, _] => 1000 - a.toNat
  | _ => 0
section
variable {P : Program} {w : World} {K : PySem.W.Frag} {mg : Str → Option Value} {base : Heap}
theorem scPd : FnScope ["parts", "at", "variables", "part", "conditions"] ["parts"] (defScope sPd) := ⟨rfl, rfl, rfl, by decide +kernel, rfl, by decide +kernel, by decide +kernel⟩
theorem ok_pd {f fP fV : Addr} {fd dP dV : FuncData} (F : Fun K "pattern_draft" "pattern_draft" sPd f fd) (T : TxB mg) (DPl : Dn K mg "place_of" sPl ["parts", "signs", "start"] fP dP) (DVo : Dn K mg "variable_of" sVo ["part"] fV dV) : FnOk P w K mg base CX0 2 f fd ["parts"] (spPd K) := by
  have GPl : FnOk P w K mg base CX0 1 fP dP _ (spPl K) := ok_pl DPl.F T
  have GVo : FnOk P w K mg base CX0 1 fV dV _ spVo := ok_vo DVo.F
  refine F.ok scPd (fun vs H Q E h => ?_) (fun cdv A outer s H vs Q E hr h => ?_)
  · obtain ⟨l, kind, nm, vars, cs, tl, rfl, _⟩ := h
    rfl
  · obtain ⟨l, kind, nm, vars, cs, tl, rfl, hl, ov, hc, c3, t10, oks, tb, k⟩ := h
    have hr1 : Room 1 _ := hr
    refine ⟨_, (pss_cons (ps_set (i := 1) scPd.nd rfl (Or.inl rfl) (pe_call GPl hr1 rfl DPl.g DPl.F.kp DPl.b .nil pass0 (pa_cons (pv 0) (pa_cons (pe_tup (pa_cons pe_str (pa_cons pe_str pa_nil))) (pa_cons pe_int pa_nil)))))
      (pss_cons (ps_setLc (i := 2) (own := [("part", 3)]) (g := gName 3) (tt := tYes) (te := (tCall spVo [] E0 (tCons (tVar 3) tNil))) rfl scPd.nd rfl rfl (sw_true rfl rfl rfl (by decide +kernel)) (pi_list (pe_slice sl_list (pv 0) (po_some pe_int) (po_some (pv 1)))) (blkOk_by (N := ["parts", "at", "variables", "part", "conditions"]) (sc := defScope sPd) (by decide +kernel)) (fun _ _ _ _ _ => (pg_name (i := 3) scPd.nd rfl (Or.inl rfl))) (fun _ _ _ _ _ => pts_nil) (fun _ _ _ _ _ => (pe_call GVo hr1 rfl DVo.g DVo.F.kp DVo.b .nil pass0 (pa_cons (pv 3) pa_nil))))
      (pss_cons (ps_set (i := 4) scPd.nd rfl (Or.inl rfl) (pe_lst pa_nil))
      (pss_cons (ps_while PassesOwn.never (pt_cmpR (op_eqD hr.units) (pe_slice sl_list (pv 0) (po_some (pv 1)) (po_some (pe_op op_add (pv 1) pe_int))) (pe_lst (pa_cons pe_str pa_nil)) (nomark _)) (pss_cons (ps_expr (pe_bm PySem.F.plainAttrs_list PySem.F.slot_list_append PySem.F.type_list_append mt_append (pv 4) (pa_cons (pe_callTy call_tupN (by rfl) T.tuple (by decide +kernel) (pa_cons (pe_slice sl_list (pv 0) (po_some (pe_op op_add (pv 1) pe_int)) (po_some (pe_op op_add (pv 1) pe_int))) pa_nil)) pa_nil)))
      (pss_one (ps_aug (i := 1) scPd.nd rfl (Or.inl rfl) pe_int ip_add))))
      (pss_one (ps_ret (pe_tup (pa_cons (pe_tup (pa_cons (pe_ix ix_list (pv 0) pe_int (fun _ _ => rfl)) (pa_cons (pv 2) (pa_cons (pv 4) pa_nil)))) (pa_cons (pv 1) pa_nil))))))))), ?_⟩
    have lenR := rowP_len kind nm vars cs tl
    have v4 := ov.l4
    refine ⟨_, rfl, by show 2 ≤ sizeLine; decide, fun t0 ht0 => ?_⟩
    have S0 : Same H (upd H t0 (.tup [.str "|", .str ">"])) := Same.upd ht0
    have e0 : (upd H t0 (.tup [.str "|", .str ">"])) t0 = some (.tup (([("|" : Str), ">"]).map V.str)) := upd_same
    generalize upd H t0 (.tup [.str "|", .str ">"]) = H0 at S0 e0
    have hl0 := S0 _ _ hl
    refine ⟨l, t0, 2, _, _, rfl, hl0, SqT.of e0, by omega, by omega, ?_⟩
    rw [rowP_at hc ov.pl]
    dsimp only [gName, List.set_cons_succ, List.set_cons_zero]
    -- the variables
    refine ⟨_, rfl, _, rfl, _, rfl, _, rfl, l, _, rfl, SqL.of hl0, fun l1 hl1 => ?_⟩
    have ev : cutV ((rowP kind nm vars cs tl).map V.str) (some 2) (some ((2 + vars.length : Nat) : Int)) = (vars.map varP).map V.str := by
      have q : cutV ((rowP kind nm vars cs tl).map V.str) (some 2) (some ((2 + vars.length : Nat) : Int)) = (((rowP kind nm vars cs tl).map V.str).drop 2).take (2 + vars.length - 2) := cut_two _ 2 _
      rw [q, ← List.map_drop, ← List.map_take, show 2 + vars.length - 2 = vars.length by omega, rowP_vars]
    rw [ev]
    have S1 : Same H0 (upd H0 l1 (.lst ((vars.map varP).map V.str))) := Same.upd hl1
    have e1 : (upd H0 l1 (.lst ((vars.map varP).map V.str))) l1 = some (.lst ((vars.map varP).map V.str)) := upd_same
    generalize upd H0 l1 (.lst ((vars.map varP).map V.str)) = H1 at S1 e1
    refine ⟨l1, rfl, ⟨_, SqL.of e1⟩, fun D hD => ?_⟩
    refine lc_list (K := K) (a := l1) (xs := (vars.map varP).map V.str) (fun i H' => Same H1 H' ∧ ∃ ps : List Addr, H' D = some (.lst (ps.map V.ref)) ∧ RowsAt K H' ps ((vars.take i).map varV) ∧ ps.length = i) ⟨Same.upd hD, [], upd_same, True.intro, rfl⟩ (fun i H' _ pp => SqL.of (pp.1 _ _ e1)) ?_ ?_
    · rintro i y H8 hi ⟨T8, ps, hD8, rp, pl⟩
      obtain ⟨z, hz, rfl⟩ := map_str_get hi
      rw [List.getElem?_map] at hz
      obtain ⟨v, hv, rfl⟩ := Option.map_eq_some_iff.mp hz
      have mv := List.mem_of_getElem? hv
      have il : i < vars.length := (List.getElem?_eq_some_iff.mp hv).1
      refine ⟨rfl, _, rfl, v, rfl, ov.nc v mv, (ov.sm v mv).1, (ov.sm v mv).2, fun t H9 T9 ht e9 => ?_⟩
      have hD9 := T9 _ _ hD8
      refine ⟨_, hD9, ?_, fun b o w => ?_, ps ++ [t], ?_, ?_, ?_⟩
      · rw [List.length_map]
        exact Nat.lt_of_le_of_lt (show _ ≤ 1000 by omega) (by decide)
      · rw [upd_ne (ne_of_none w hD)]
        exact T9 _ _ (T8 _ _ w)
      · rw [upd_same, List.map_append]
        rfl
      · rw [List.take_add_one, hv, List.map_append]
        exact RowsAt.append (rows_put hD9 (rp.same T9)) ⟨sqT_put hD9 (SqT.of e9), True.intro⟩
      · rw [List.length_append, pl]
        rfl
    rintro H8 ⟨T8, ps, hD8, rp, pl⟩
    rw [List.length_map, List.length_map, List.take_length] at rp
    dsimp only [gName, List.set_cons_succ, List.set_cons_zero]
    refine ⟨Nat.zero_le _, fun lc hlc => ?_⟩
    have S08 := (S0.trans S1).trans T8
    have lcn : H lc = none := S08.free hlc
    have Dlc : D ≠ lc := ne_of_none hD8 hlc
    dsimp only [gName, List.set_cons_succ, List.set_cons_zero]
    refine while_by (fun σ H' => (∃ (i : Nat) (qs : List Addr), σ = [some (.ref l), some (.int ((2 + vars.length + 4 * i : Nat) : Int)), some (.ref D), none, some (.ref lc)] ∧ i ≤ cs.length ∧ H' lc = some (.lst (qs.map V.ref)) ∧ RowsAt K H' qs ((cs.take i).map triV) ∧ qs.length = i) ∧ Same H8 H') (fun σ _ => muK σ) ⟨⟨0, [], rfl, Nat.zero_le _, upd_same, True.intro, rfl⟩, Same.upd hlc⟩ ?_ ?_
    · rintro σ H9 ⟨⟨i, qs, rfl, ic, hq, rq, ql⟩, T9⟩
      have hl9 := (S08.trans T9) _ _ hl
      have ec : ((2 + vars.length + 4 * i : Nat) : Int) + 1 = ((2 + vars.length + 4 * i + 1 : Nat) : Int) := by omega
      refine ⟨_, rfl, _, rfl, _, rfl, _, rfl, _, _, rfl, rfl, _, rfl, l, _, rfl, SqL.of hl9, fun l2 nl2 => ?_⟩
      have q1 : cutV ((rowP kind nm vars cs tl).map V.str) (some ((2 + vars.length + 4 * i : Nat) : Int)) (some (((2 + vars.length + 4 * i : Nat) : Int) + 1)) = ((((cs.drop i).flatMap triP ++ tl).take 1).map V.str) := by
        rw [ec, cut_two, ← List.map_drop, ← List.map_take, rowP_drop kind nm vars cs tl ic, show 2 + vars.length + 4 * i + 1 - (2 + vars.length + 4 * i) = 1 by omega]
      rw [q1]
      have S2 : Same H9 (upd H9 l2 (.lst ((((cs.drop i).flatMap triP ++ tl).take 1).map V.str))) := Same.upd nl2
      have e2 : (upd H9 l2 (.lst ((((cs.drop i).flatMap triP ++ tl).take 1).map V.str))) l2 = some (.lst ((((cs.drop i).flatMap triP ++ tl).take 1).map V.str)) := upd_same
      generalize upd H9 l2 (.lst ((((cs.drop i).flatMap triP ++ tl).take 1).map V.str)) = Ha at S2 e2
      refine ⟨by show 1 ≤ sizeLine; decide, fun l3 nl3 => ?_⟩
      have S3 : Same Ha (upd Ha l3 (.lst [.str "|"])) := Same.upd nl3
      have e3 : (upd Ha l3 (.lst [.str "|"])) l3 = some (.lst (([("|" : Str)]).map V.str)) := upd_same
      generalize upd Ha l3 (.lst [.str "|"]) = Hb at S3 e3
      have S9b := S2.trans S3
      have okt : ∀ z ∈ ((cs.drop i).flatMap triP ++ tl).take 1, okS z := fun z hz => by
        have := List.mem_of_mem_take hz
        rw [← rowP_drop kind nm vars cs tl ic] at this
        exact oks z (List.mem_of_mem_drop this)
      refine ⟨_, _, .lst (SqL.of (S3 _ _ e2)) (dp_strs _), .lst (SqL.of e3) (dp_strs _), shaped_lst okt, by decide +kernel, _, rfl, ?_⟩
      rw [eqv_strs]
      by_cases ilt : i < cs.length
      · obtain ⟨tr, htr⟩ : ∃ tr, cs[i]? = some tr := ⟨_, List.getElem?_eq_getElem ilt⟩
        have ed : cs.drop i = tr :: cs.drop (i + 1) := by
          obtain ⟨hh, e⟩ := List.getElem?_eq_some_iff.mp htr
          rw [← e]
          exact List.drop_eq_getElem_cons ilt
        rw [show ((cs.drop i).flatMap triP ++ tl).take 1 = [("|" : Str)] by rw [ed]; rfl, decide_eq_true rfl]
        refine iteT ?_
        have hqb := S9b _ _ hq
        have hlb := S9b _ _ hl9
        have eb1 : ((2 + vars.length + 4 * i : Nat) : Int) + 4 = ((2 + vars.length + 4 * i + 4 : Nat) : Int) := by omega
        have q2 : cutV ((rowP kind nm vars cs tl).map V.str) (some (((2 + vars.length + 4 * i : Nat) : Int) + 1)) (some (((2 + vars.length + 4 * i : Nat) : Int) + 4)) = triV tr := by
          rw [ec, eb1, cut_two, show 2 + vars.length + 4 * i + 4 - (2 + vars.length + 4 * i + 1) = 3 by omega, ← List.drop_drop, ← List.map_drop, rowP_drop kind nm vars cs tl ic, ed]
          rfl
        refine ⟨_, rfl, .inl ⟨rfl, _, SqL.of hqb⟩, _, rfl, _, rfl, _, _, rfl, rfl, _, rfl, _, rfl, _, _, rfl, rfl, _, rfl, l, _, rfl, SqL.of hlb, fun l4 nl4 => ?_⟩
        rw [q2]
        have S4 : Same Hb (upd Hb l4 (.lst (triV tr))) := Same.upd nl4
        have e4 : (upd Hb l4 (.lst (triV tr))) l4 = some (.lst (triV tr)) := upd_same
        generalize upd Hb l4 (.lst (triV tr)) = Hc at S4 e4
        refine ⟨l4, _, rfl, .inl ⟨SqL.of e4, fun t nt => ?_⟩⟩
        have S5 : Same Hc (upd Hc t (.tup (triV tr))) := Same.upd nt
        have e5 : (upd Hc t (.tup (triV tr))) t = some (.tup (triV tr)) := upd_same
        generalize upd Hc t (.tup (triV tr)) = Hd at S5 e5
        have Sbd := S4.trans S5
        have S9d := S9b.trans Sbd
        have hqd := Sbd _ _ hqb
        refine ⟨lc, _, _, rfl, rfl, hqd, ?_, _, rfl, _, _, rfl, rfl, ⟨⟨i + 1, qs ++ [t], ?_, by omega, ?_, ?_, ?_⟩, fun b o w => ?_⟩, ?_⟩
        · rw [List.length_map]
          exact Nat.lt_of_le_of_lt (show _ ≤ 1000 by omega) (by decide)
        · dsimp only [gName, List.set_cons_succ, List.set_cons_zero]
          rw [eb1]
          rfl
        · rw [upd_same, List.map_append]
          rfl
        · rw [List.take_add_one, htr, List.map_append]
          exact RowsAt.append (rows_put hqd (rq.same S9d)) ⟨sqT_put hqd (SqT.of e5), True.intro⟩
        · rw [List.length_append, ql]
          rfl
        · rw [upd_ne (ne_of_none w hlc)]
          exact S9d _ _ (T9 _ _ w)
        · show 1000 - (((2 + vars.length + 4 * i : Nat) : Int) + 4).toNat < 1000 - ((2 + vars.length + 4 * i : Nat) : Int).toNat
          omega
      · have ie : i = cs.length := by omega
        rw [show ((cs.drop i).flatMap triP ++ tl).take 1 = tl.take 1 by rw [ie, List.drop_length]; rfl, decide_eq_false tb]
        refine iteF ?_
        have hlb := S9b _ _ hl9
        have hqb := S9b _ _ hq
        have S8b := T9.trans S9b
        have hDb := S8b _ _ hD8
        have rpb := rp.same S8b
        have rqb : RowsAt K Hb qs (cs.map triV) := by
          have := rq.same S9b
          rw [ie, List.take_length] at this
          exact this
        refine ⟨_, rfl, ?_⟩
        have hx1 : ((rowP kind nm vars cs tl).map V.str)[1]? = some (.str nm) := rfl
        unfold tC
        dsimp only
        refine rdList (i := 1) hlb (j := 1) (v := .str nm) rfl hx1 ?_
        refine ⟨_, rfl, _, rfl, by show 3 ≤ sizeLine; decide, fun u nu => ?_⟩
        have S4 : Same Hb (upd Hb u (.tup [.str nm, .ref D, .ref lc])) := Same.upd nu
        have e4 : (upd Hb u (.tup [.str nm, .ref D, .ref lc])) u = some (.tup [.str nm, .ref D, .ref lc]) := upd_same
        generalize upd Hb u (.tup [.str nm, .ref D, .ref lc]) = Hc at S4 e4
        refine ⟨_, rfl, by show 2 ≤ sizeLine; decide, fun t nt => ?_⟩
        have S5 : Same Hc (upd Hc t (.tup [.ref u, .int ((2 + vars.length + 4 * i : Nat) : Int)])) := Same.upd nt
        have e5 : (upd Hc t (.tup [.ref u, .int ((2 + vars.length + 4 * i : Nat) : Int)])) t = some (.tup [.ref u, .int ((2 + vars.length + 4 * i : Nat) : Int)]) := upd_same
        generalize upd Hc t (.tup [.ref u, .int ((2 + vars.length + 4 * i : Nat) : Int)]) = Hd at S5 e5
        rw [ie] at e5
        have Sbd := S4.trans S5
        have S0b := S08.trans S8b
        exact k t u D lc ps qs Hd (S0b.trans Sbd) (S0b.free (S4.free nt)) ((S0.trans S1).free hD) lcn e5 (S5 _ _ e4) (Sbd _ _ hDb) (rpb.same Sbd) (Sbd _ _ hqb) (rqb.same Sbd)
    · intro σ H' Q1 Q2 f h
      obtain ⟨x0, g0, x1, g1, i1, gi1, x2, g2, a, b, ga, gb, i2, gi2, l', xs', gl, sq, g⟩ := h
      refine ⟨x0, g0, x1, g1, i1, gi1, x2, g2, a, b, ga, gb, i2, gi2, l', xs', gl, sq, fun l2 nl2 => ?_⟩
      obtain ⟨w1, g⟩ := g l2 nl2
      refine ⟨w1, fun l3 nl3 => ?_⟩
      obtain ⟨d1, d2, p1, p2, s1, s2, u, eu, q⟩ := g l3 nl3
      exact ⟨d1, d2, p1, p2, s1, s2, u, eu, f _ _ q⟩
end
end Wm
namespace Wm
open PySem L2
def spBd (K : PySem.W.Frag) : Sp := fun vs H Q _ => ∃ (l : Addr) (kind nm : Str) (vars : List Var) (cs : List Tri), vs = [.ref l] ∧ H l = some (.lst ((rowP kind nm vars cs []).map V.str)) ∧ OkVs vars ∧ cs ≠ [] ∧ cs.length ≤ 3 ∧ (∀ z ∈ rowP kind nm vars cs [], okS z) ∧
  ∀ (u lv lc : Addr) (ps qs : List Addr) H', Same H H' → H lv = none → H lc = none → H' u = some (.tup [.str nm, .ref lv, .ref lc]) → H' lv = some (.lst (ps.map V.ref)) → RowsAt K H' ps (vars.map varV) → H' lc = some (.lst (qs.map V.ref)) → RowsAt K H' qs (cs.map triV) → Q (.ref u) H'
section
variable {P : Program} {w : World} {K : PySem.W.Frag} {mg : Str → Option Value} {base : Heap}
theorem scBd : FnScope ["parts", "draft", "at"] ["parts"] (defScope sBd) := ⟨rfl, rfl, rfl, by decide +kernel, rfl, by decide +kernel, by decide +kernel⟩
theorem ok_bd {f fP : Addr} {fd dP : FuncData} (F : Fun K "bar_draft" "bar_draft" sBd f fd) (T : TxB mg) (DPd : Dn K mg "pattern_draft" sPd ["parts"] fP dP) (GPd : FnOk P w K mg base CX0 2 fP dP ["parts"] (spPd K)) : FnOk P w K mg base CX0 3 f fd ["parts"] (spBd K) := by
  refine F.ok scBd (fun vs H Q E h => ?_) (fun cdv A outer s H vs Q E hr h => ?_)
  · obtain ⟨l, kind, nm, vars, cs, rfl, _⟩ := h
    rfl
  · obtain ⟨l, kind, nm, vars, cs, rfl, hl, ov, hc, c3, oks, k⟩ := h
    have hr2 : Room 2 _ := hr
    have lenR := rowP_len kind nm vars cs []
    have ll : ((rowP kind nm vars cs []).map V.str).length = 2 + vars.length + 4 * cs.length := by
      rw [List.length_map, lenR]
      rfl
    refine ⟨_, (pss_cons (ps_if (pt_cmpR op_lt (pe_callB call_len_seq (by rfl) T.len (by decide +kernel) (pa_cons (pv 0) pa_nil)) pe_int (nomark _)) (pss_one (ps_ret pe_non)) pss_nil)
      (pss_cons (ps_asg (pe_call GPd hr2 rfl DPd.g DPd.F.kp DPd.b .nil pass0 (pa_cons (pv 0) pa_nil)) (pg_tup rfl (pgs_cons (pg_name (i := 1) scBd.nd rfl (Or.inl rfl)) (pgs_cons (pg_name (i := 2) scBd.nd rfl (Or.inl rfl)) pgs_nil))))
      (pss_cons (ps_if (pt_cmpR op_ne (pv 2) (pe_callB call_len_seq (by rfl) T.len (by decide +kernel) (pa_cons (pv 0) pa_nil)) (nomark _)) (pss_one (ps_ret pe_non)) pss_nil)
      (pss_one (ps_ret (pv 1)))))), ?_⟩
    refine ⟨_, rfl, l, _, rfl, .inl (SqL.of hl), _, _, rfl, rfl, _, rfl, ?_⟩
    refine ite2 (fun z => absurd (of_decide_eq_true z) (by rw [ll]; omega)) (fun _ => ?_)
    refine ⟨_, rfl, l, kind, nm, vars, cs, [], rfl, hl, ov, hc, c3, by simp, oks, by simp, fun t u lv lc ps qs H1 S1 nt nlv nlc e1 e2 e3 r3 e4 r4 => ?_⟩
    refine ⟨t, _, rfl, SqT.of e1, rfl, _, _, rfl, _, _, rfl, rfl, ?_⟩
    dsimp only [gName, List.set_cons_succ, List.set_cons_zero]
    refine ⟨_, rfl, _, rfl, l, _, rfl, .inl (SqL.of (S1 _ _ hl)), rfl, _, rfl, ?_⟩
    rw [ll]
    refine ite2 (fun z => ?_) (fun _ => ?_)
    · exact absurd z (by simp)
    · exact ⟨_, rfl, k u lv lc ps qs H1 S1 nlv nlc e2 e3 r3 e4 r4⟩
end
end Wm
namespace Wm
open PySem L2 StX
/-- what stands behind a rule's pattern -/
def rlT (g : Tri) (b : Str) : List Str := [">", g.1, g.2.1, g.2.2, "by", b]
def spRd (K : PySem.W.Frag) : Sp := fun vs H Q _ => ∃ (l : Addr) (kind nm b : Str) (g : Tri) (vars : List Var) (cs : List Tri), vs = [.ref l] ∧ H l = some (.lst ((rowP kind nm vars cs (rlT g b)).map V.str)) ∧ OkVs vars ∧ cs ≠ [] ∧ cs.length ≤ 3 ∧ (∀ z ∈ rowP kind nm vars cs (rlT g b), okS z) ∧
  ∀ (u lv lc tg : Addr) (ps qs : List Addr) H', Same H H' → H lv = none → H lc = none → H' u = some (.tup [.str nm, .ref lv, .ref lc, .ref tg, .str b]) → H' tg = some (.tup (triV g)) → H' lv = some (.lst (ps.map V.ref)) → RowsAt K H' ps (vars.map varV) → H' lc = some (.lst (qs.map V.ref)) → RowsAt K H' qs (cs.map triV) → Q (.ref u) H'
section
variable {P : Program} {w : World} {K : PySem.W.Frag} {mg : Str → Option Value} {base : Heap}
theorem scRd : FnScope ["parts", "draft", "at", "rest"] ["parts"] (defScope sRd) := ⟨rfl, rfl, rfl, by decide +kernel, rfl, by decide +kernel, by decide +kernel⟩
theorem ok_rd {f fP : Addr} {fd dP : FuncData} (F : Fun K "rule_draft" "rule_draft" sRd f fd) (T : TxB mg) (DPd : Dn K mg "pattern_draft" sPd ["parts"] fP dP) (GPd : FnOk P w K mg base CX0 2 fP dP ["parts"] (spPd K)) : FnOk P w K mg base CX0 3 f fd ["parts"] (spRd K) := by
  refine F.ok scRd (fun vs H Q E h => ?_) (fun cdv A outer s H vs Q E hr h => ?_)
  · obtain ⟨l, kind, nm, b, g, vars, cs, rfl, _⟩ := h
    rfl
  · obtain ⟨l, kind, nm, b, g, vars, cs, rfl, hl, ov, hc, c3, oks, k⟩ := h
    have hr2 : Room 2 _ := hr
    have lenR := rowP_len kind nm vars cs (rlT g b)
    have ll : ((rowP kind nm vars cs (rlT g b)).map V.str).length = 2 + vars.length + 4 * cs.length + 6 := by
      rw [List.length_map, lenR]
      rfl
    refine ⟨_, (pss_cons (ps_if (pt_cmpR op_lt (pe_callB call_len_seq (by rfl) T.len (by decide +kernel) (pa_cons (pv 0) pa_nil)) pe_int (nomark _)) (pss_one (ps_ret pe_non)) pss_nil)
      (pss_cons (ps_asg (pe_call GPd hr2 rfl DPd.g DPd.F.kp DPd.b .nil pass0 (pa_cons (pv 0) pa_nil)) (pg_tup rfl (pgs_cons (pg_name (i := 1) scRd.nd rfl (Or.inl rfl)) (pgs_cons (pg_name (i := 2) scRd.nd rfl (Or.inl rfl)) pgs_nil))))
      (pss_cons (ps_set (i := 3) scRd.nd rfl (Or.inl rfl) (pe_slice sl_list (pv 0) (po_some (pv 2)) po_none))
      (pss_cons (ps_if (PW.pt (pw_or (pt_cmpR op_ne (pe_callB call_len_seq (by rfl) T.len (by decide +kernel) (pa_cons (pv 3) pa_nil)) pe_int (nomark _)) (pw_or (pt_cmpR op_ne (pe_ix ix_list (pv 3) pe_int (fun _ _ => rfl)) pe_str (nomark _)) (pw_or1 (pt_cmpR op_ne (pe_ix ix_list (pv 3) pe_int (fun _ _ => rfl)) pe_str (nomark _)))))) (pss_one (ps_ret pe_non)) pss_nil)
      (pss_one (ps_ret (pe_tup (pa_star (pv 1) (pa_cons (pe_callTy call_tupN (by rfl) T.tuple (by decide +kernel) (pa_cons (pe_slice sl_list (pv 3) (po_some pe_int) (po_some pe_int)) pa_nil)) (pa_cons (pe_ix ix_list (pv 3) pe_int (fun _ _ => rfl)) pa_nil)))))))))), ?_⟩
    refine ⟨_, rfl, l, _, rfl, .inl (SqL.of hl), _, _, rfl, rfl, _, rfl, ?_⟩
    refine ite2 (fun z => absurd (of_decide_eq_true z) (by rw [ll]; omega)) (fun _ => ?_)
    refine ⟨_, rfl, l, kind, nm, vars, cs, rlT g b, rfl, hl, ov, hc, c3, (by show 6 ≤ 10; decide), oks, (by show [(">" : Str)] ≠ [("|" : Str)]; decide +kernel), fun t u lv lc ps qs H1 S1 nt nlv nlc e1 e2 e3 r3 e4 r4 => ?_⟩
    refine ⟨t, _, rfl, SqT.of e1, rfl, _, _, rfl, _, _, rfl, rfl, ?_⟩
    dsimp only [gName, List.set_cons_succ, List.set_cons_zero]
    have hl1 := S1 _ _ hl
    refine ⟨_, rfl, _, rfl, _, rfl, l, _, rfl, SqL.of hl1, fun l2 nl2 => ?_⟩
    have q1 : cutV ((rowP kind nm vars cs (rlT g b)).map V.str) (some ((2 + vars.length + 4 * cs.length : Nat) : Int)) none = (rlT g b).map V.str := by
      rw [cut_drop, ← List.map_drop, rowP_drop kind nm vars cs (rlT g b) (Nat.le_refl _), List.drop_length]
      rfl
    rw [q1]
    have S2 : Same H1 (upd H1 l2 (.lst ((rlT g b).map V.str))) := Same.upd nl2
    have e5 : (upd H1 l2 (.lst ((rlT g b).map V.str))) l2 = some (.lst ((rlT g b).map V.str)) := upd_same
    generalize upd H1 l2 (.lst ((rlT g b).map V.str)) = H2 at S2 e5
    dsimp only [gName, List.set_cons_succ, List.set_cons_zero]
    have g0 : ((rlT g b).map V.str)[0]? = some (.str ">") := rfl
    have g4 : ((rlT g b).map V.str)[4]? = some (.str "by") := rfl
    have g5 : ((rlT g b).map V.str)[5]? = some (.str b) := rfl
    refine ⟨_, rfl, l2, _, rfl, .inl (SqL.of e5), rfl, _, rfl, ?_⟩
    refine iteF ?_
    refine ⟨_, rfl, ?_⟩
    unfold tC
    dsimp only
    refine rdList (i := 0) e5 (j := 0) (v := .str ">") rfl g0 ?_
    refine ⟨rfl, _, rfl, ?_⟩
    refine iteF ?_
    refine ⟨_, rfl, ?_⟩
    refine rdList (i := 4) e5 (j := 4) (v := .str "by") rfl g4 ?_
    refine ⟨rfl, _, rfl, ?_⟩
    refine iteF ?_
    dsimp only [tNext]
    have eu := S2 _ _ e2
    refine ⟨_, rfl, u, _, rfl, .inl (SqT.of eu), ?_⟩
    refine ⟨_, rfl, _, rfl, _, rfl, l2, _, rfl, SqL.of e5, fun l3 nl3 => ?_⟩
    have q2 : cutV ((rlT g b).map V.str) (some 1) (some 4) = triV g := by
      have q := cut_two ((rlT g b).map V.str) 1 4
      exact q.trans rfl
    rw [q2]
    have S3 : Same H2 (upd H2 l3 (.lst (triV g))) := Same.upd nl3
    have e6 : (upd H2 l3 (.lst (triV g))) l3 = some (.lst (triV g)) := upd_same
    generalize upd H2 l3 (.lst (triV g)) = H3 at S3 e6
    refine ⟨l3, _, rfl, .inl ⟨SqL.of e6, fun tg ntg => ?_⟩⟩
    have S4 : Same H3 (upd H3 tg (.tup (triV g))) := Same.upd ntg
    have e7 : (upd H3 tg (.tup (triV g))) tg = some (.tup (triV g)) := upd_same
    generalize upd H3 tg (.tup (triV g)) = H4 at S4 e7
    have S24 := S3.trans S4
    refine ⟨_, rfl, ?_⟩
    refine rdList (i := 5) (S24 _ _ e5) (j := 5) (v := .str b) rfl g5 ?_
    refine ⟨by show 5 ≤ sizeLine; decide, fun r nr => ?_⟩
    have S5 : Same H4 (upd H4 r (.tup [.str nm, .ref lv, .ref lc, .ref tg, .str b])) := Same.upd nr
    have S25 := (S2.trans S24).trans S5
    exact k r lv lc tg ps qs _ (S1.trans S25) nlv nlc upd_same (S5 _ _ e7) (S25 _ _ e3) (r3.same S25) (S25 _ _ e4) (r4.same S25)
end
end Wm
namespace Wm
open PySem L2 StX
def mkP (kd mk md : Str) (ds us : List Str) : List Str := ([kd, mk, md, ">"] ++ ds) ++ (("<" : Str) :: us)
theorem mkP_len (kd mk md : Str) (ds us : List Str) : (mkP kd mk md ds us).length = 5 + ds.length + us.length := by
  unfold mkP
  rw [List.length_append, List.length_append, List.length_cons]
  show 4 + ds.length + (us.length + 1) = 5 + ds.length + us.length
  omega
theorem mkP_ds (kd mk md : Str) (ds us : List Str) : ((mkP kd mk md ds us).drop 4).take ds.length = ds := by
  unfold mkP
  show (ds ++ (("<" : Str) :: us)).take ds.length = ds
  rw [List.take_append_of_le_length (Nat.le_refl _), List.take_length]
theorem mkP_us (kd mk md : Str) (ds us : List Str) : (mkP kd mk md ds us).drop (4 + ds.length) = ("<" : Str) :: us := by
  unfold mkP
  have e : 4 + ds.length = ([kd, mk, md, (">" : Str)] ++ ds).length := by
    rw [List.length_append]
    rfl
  rw [e, List.drop_left]
theorem mkP_at {kd mk md : Str} {ds us : List Str} (h : ("<" : Str) ∉ ds) : plc (mkP kd mk md ds us) ["<"] 4 = 4 + ds.length := by
  refine plc_hit (z := "<") ?_ (by simp) (fun j y hj hy => ?_)
  · have q : (mkP kd mk md ds us)[4 + ds.length]? = ((mkP kd mk md ds us).drop (4 + ds.length))[0]? := by rw [List.getElem?_drop, Nat.add_zero]
    rw [q, mkP_us]
    rfl
  · have q : (((mkP kd mk md ds us).drop 4).take ds.length)[j]? = some y := by
      rw [List.getElem?_take_of_lt hj, List.getElem?_drop]
      exact hy
    rw [mkP_ds] at q
    intro m
    rw [List.mem_singleton.mp m] at q
    exact h (List.mem_of_getElem? q)
def spMd (K : PySem.W.Frag) : Sp := fun vs H Q _ => ∃ (l : Addr) (kd mk md : Str) (ds us : List Str), vs = [.ref l] ∧ H l = some (.lst ((mkP kd mk md ds us).map V.str)) ∧ ("<" : Str) ∉ ds ∧ ds.length ≤ 60 ∧ us.length ≤ 60 ∧
  ∀ (t ld lu : Addr) H', Same H H' → H ld = none → H lu = none → H' t = some (.tup [.str mk, .str md, .ref ld, .ref lu]) → H' ld = some (.lst (ds.map V.str)) → H' lu = some (.lst (us.map V.str)) → Q (.ref t) H'
section
variable {P : Program} {w : World} {K : PySem.W.Frag} {mg : Str → Option Value} {base : Heap}
theorem scMd : FnScope ["parts", "at"] ["parts"] (defScope sMd) := ⟨rfl, rfl, rfl, by decide +kernel, rfl, by decide +kernel, by decide +kernel⟩
theorem ok_md {f fP : Addr} {fd dP : FuncData} (F : Fun K "making_draft" "making_draft" sMd f fd) (T : TxB mg) (DPl : Dn K mg "place_of" sPl ["parts", "signs", "start"] fP dP) : FnOk P w K mg base CX0 2 f fd ["parts"] (spMd K) := by
  have GPl : FnOk P w K mg base CX0 1 fP dP _ (spPl K) := ok_pl DPl.F T
  refine F.ok scMd (fun vs H Q E h => ?_) (fun cdv A outer s H vs Q E hr h => ?_)
  · obtain ⟨l, kd, mk, md, ds, us, rfl, _⟩ := h
    rfl
  · obtain ⟨l, kd, mk, md, ds, us, rfl, hl, nd, d60, u60, k⟩ := h
    have hr1 : Room 1 _ := hr
    have lenR := mkP_len kd mk md ds us
    refine ⟨_, (pss_cons (ps_set (i := 1) scMd.nd rfl (Or.inl rfl) (pe_call GPl hr1 rfl DPl.g DPl.F.kp DPl.b .nil pass0 (pa_cons (pv 0) (pa_cons (pe_tup (pa_cons pe_str pa_nil)) (pa_cons pe_int pa_nil)))))
      (pss_cons (ps_if (PW.pt (pw_or (pt_cmpR op_ge (pv 1) (pe_callB call_len_seq (by rfl) T.len (by decide +kernel) (pa_cons (pv 0) pa_nil)) (nomark _)) (pw_or1 (pt_cmpR op_ne (pe_ix ix_list (pv 0) pe_int (fun _ _ => rfl)) pe_str (nomark _))))) (pss_one (ps_ret pe_non)) pss_nil)
      (pss_one (ps_ret (pe_tup (pa_cons (pe_ix ix_list (pv 0) pe_int (fun _ _ => rfl)) (pa_cons (pe_ix ix_list (pv 0) pe_int (fun _ _ => rfl)) (pa_cons (pe_slice sl_list (pv 0) (po_some pe_int) (po_some (pv 1))) (pa_cons (pe_slice sl_list (pv 0) (po_some (pe_op op_add (pv 1) pe_int)) po_none) pa_nil))))))))), ?_⟩
    refine ⟨_, rfl, by show 1 ≤ sizeLine; decide, fun t0 ht0 => ?_⟩
    have S0 : Same H (upd H t0 (.tup [.str "<"])) := Same.upd ht0
    have e0 : (upd H t0 (.tup [.str "<"])) t0 = some (.tup (([("<" : Str)]).map V.str)) := upd_same
    generalize upd H t0 (.tup [.str "<"]) = H0 at S0 e0
    have hl0 := S0 _ _ hl
    refine ⟨l, t0, 4, _, _, rfl, hl0, SqT.of e0, by omega, by omega, ?_⟩
    rw [mkP_at nd]
    dsimp only [gName, List.set_cons_succ, List.set_cons_zero]
    have g1 : ((mkP kd mk md ds us).map V.str)[1]? = some (.str mk) := rfl
    have g2 : ((mkP kd mk md ds us).map V.str)[2]? = some (.str md) := rfl
    have g3 : ((mkP kd mk md ds us).map V.str)[3]? = some (.str ">") := rfl
    refine ⟨_, rfl, _, rfl, l, _, rfl, .inl (SqL.of hl0), _, _, rfl, rfl, _, rfl, ?_⟩
    refine ite2 (fun z => absurd (of_decide_eq_true z) (by rw [List.length_map]; omega)) (fun _ => ?_)
    refine ⟨_, rfl, ?_⟩
    unfold tC
    dsimp only
    refine rdList (i := 3) hl0 (j := 3) (v := .str ">") rfl g3 ?_
    refine ⟨rfl, _, rfl, ?_⟩
    refine iteF ?_
    dsimp only [tNext]
    refine ⟨_, rfl, ?_⟩
    refine rdList (i := 1) hl0 (j := 1) (v := .str mk) rfl g1 ?_
    refine ⟨_, rfl, ?_⟩
    refine rdList (i := 2) hl0 (j := 2) (v := .str md) rfl g2 ?_
    refine ⟨_, rfl, _, rfl, _, rfl, _, rfl, l, _, rfl, SqL.of hl0, fun ld nld => ?_⟩
    have q1 : cutV ((mkP kd mk md ds us).map V.str) (some 4) (some ((4 + ds.length : Nat) : Int)) = ds.map V.str := by
      have q : cutV ((mkP kd mk md ds us).map V.str) (some 4) (some ((4 + ds.length : Nat) : Int)) = (((mkP kd mk md ds us).map V.str).drop 4).take (4 + ds.length - 4) := cut_two _ 4 _
      rw [q, ← List.map_drop, ← List.map_take, show 4 + ds.length - 4 = ds.length by omega, mkP_ds]
    rw [q1]
    have S1 : Same H0 (upd H0 ld (.lst (ds.map V.str))) := Same.upd nld
    have e1 : (upd H0 ld (.lst (ds.map V.str))) ld = some (.lst (ds.map V.str)) := upd_same
    generalize upd H0 ld (.lst (ds.map V.str)) = H1 at S1 e1
    refine ⟨_, rfl, _, rfl, _, _, rfl, rfl, _, rfl, l, _, rfl, SqL.of (S1 _ _ hl0), fun lu nlu => ?_⟩
    have q2 : cutV ((mkP kd mk md ds us).map V.str) (some (((4 + ds.length : Nat) : Int) + 1)) none = us.map V.str := by
      have e : ((4 + ds.length : Nat) : Int) + 1 = ((4 + ds.length + 1 : Nat) : Int) := by omega
      rw [e, cut_drop, ← List.drop_drop, ← List.map_drop, mkP_us]
      rfl
    rw [q2]
    have S2 : Same H1 (upd H1 lu (.lst (us.map V.str))) := Same.upd nlu
    have e2 : (upd H1 lu (.lst (us.map V.str))) lu = some (.lst (us.map V.str)) := upd_same
    generalize upd H1 lu (.lst (us.map V.str)) = H2 at S2 e2
    refine ⟨by show 4 ≤ sizeLine; decide, fun t nt => ?_⟩
    have S3 : Same H2 (upd H2 t (.tup [.str mk, .str md, .ref ld, .ref lu])) := Same.upd nt
    exact k t ld lu _ (((S0.trans S1).trans S2).trans S3) (S0.free nld) ((S0.trans S1).free nlu) upd_same (S3 _ _ (S2 _ _ e1)) (S3 _ _ e2)
end
end Wm
namespace Wm
open PySem L2
/-- x in a tuple, whatever its parts are made of -/
def rInTD (K : PySem.W.Frag) : R2 := fun x y H Q => ∃ d ds, Dp K H x d ∧ Dp K H y (.tuple ds) ∧ SeqAt.shaped d = true ∧ SeqAt.shaped (.tuple ds) = true ∧ Q (.bl (ds.any fun z => PyData.eqv z d)) H
theorem op_inTD {X : Cx} (hu : X.A.units + 65 < cLine) : OpR X (compareOp .In) (rInTD X.K) := by
  intro pins s σ H x y v u Q I rx ry h
  obtain ⟨d, ds, hd, he, sd, se, q⟩ := h
  obtain ⟨as, r1⟩ := Dp.reads I d x v hd rx
  obtain ⟨bs, r2⟩ := Dp.reads I (.tuple ds) y u he ry
  exact SeqAt.in_tuple_reads r2 r1 (SeqAt.canLay_of_shaped se) (SeqAt.canLay_of_shaped sd) (PyProof.Rows.room_in_shaped sd hu) ⟨.bl _, H, I, rfl, q⟩
theorem cut_inj {c : Nat} : ∀ {p q X Y : List Nat}, c ∉ p → c ∉ q → p ++ c :: X = q ++ c :: Y → p = q ∧ X = Y
  | [], [], _, _, _, _, h => ⟨rfl, (List.cons.inj h).2⟩
  | [], b :: q, _, _, _, hq, h => absurd (by rw [(List.cons.inj h).1]; exact List.mem_cons_self) hq
  | a :: p, [], _, _, hp, _, h => absurd (by rw [← (List.cons.inj h).1]; exact List.mem_cons_self) hp
  | a :: p, b :: q, X, Y, hp, hq, h => by
    obtain ⟨e, h⟩ := List.cons.inj h
    obtain ⟨e1, e2⟩ := cut_inj (fun z => hp (List.mem_cons_of_mem _ z)) (fun z => hq (List.mem_cons_of_mem _ z)) h
    exact ⟨by rw [e, e1], e2⟩
theorem str_ext {a b : Str} (h : a.cps.toList = b.cps.toList) : a = b := by
  cases a
  cases b
  congr
  exact Array.toList_inj.mp h
theorem join_two (c : Nat) (p q : Str) (r : List Str) : (Str.join ⟨#[c]⟩ (p :: q :: r)).cps.toList = p.cps.toList ++ c :: (Str.join ⟨#[c]⟩ (q :: r)).cps.toList := by
  show ((p.cps ++ #[c]) ++ (Str.join ⟨#[c]⟩ (q :: r)).cps).toList = _
  simp
theorem join_inj {c : Nat} : ∀ {ps qs : List Str}, ps ≠ [] → qs ≠ [] → (∀ p ∈ ps, c ∉ p.cps.toList) → (∀ p ∈ qs, c ∉ p.cps.toList) → (Str.join ⟨#[c]⟩ ps).cps.toList = (Str.join ⟨#[c]⟩ qs).cps.toList → ps = qs
  | [], _, h, _, _, _, _ => absurd rfl h
  | _ :: _, [], _, h, _, _, _ => absurd rfl h
  | [p], [q], _, _, _, _, h => by rw [str_ext (a := p) (b := q) h]
  | [p], q :: q2 :: r, _, _, hp, _, h => by
    rw [join_two] at h
    have e : p.cps.toList = q.cps.toList ++ c :: (Str.join ⟨#[c]⟩ (q2 :: r)).cps.toList := h
    exact absurd (by rw [e]; exact List.mem_append_right _ List.mem_cons_self) (hp p List.mem_cons_self)
  | p :: p2 :: r, [q], _, _, _, hq, h => by
    rw [join_two] at h
    have e : p.cps.toList ++ c :: (Str.join ⟨#[c]⟩ (p2 :: r)).cps.toList = q.cps.toList := h
    exact absurd (by rw [← e]; exact List.mem_append_right _ List.mem_cons_self) (hq q List.mem_cons_self)
  | p :: p2 :: r, q :: q2 :: t, _, _, hp, hq, h => by
    rw [join_two, join_two] at h
    obtain ⟨e1, e2⟩ := cut_inj (hp p List.mem_cons_self) (hq q List.mem_cons_self) h
    have e3 := join_inj (ps := p2 :: r) (qs := q2 :: t) (by simp) (by simp) (fun x hx => hp x (List.mem_cons_of_mem _ hx)) (fun x hx => hq x (List.mem_cons_of_mem _ hx)) e2
    rw [str_ext e1, e3]
theorem split_ne (x : Str) (c : Nat) : Txt.split x ⟨#[c]⟩ ≠ [] := fun h => by
  have e := StrLaws.join_split x ⟨#[c]⟩
  rw [h] at e
  have l : x.length = 0 := by
    rw [← e]
    rfl
  unfold Txt.split at h
  rw [if_pos (by rw [l]; simp; left; show 0 < 1; decide)] at h
  cases h
theorem split_join {c : Nat} {ps : List Str} (hne : ps ≠ []) (hf : ∀ p ∈ ps, c ∉ p.cps.toList) : Txt.split (Txt.join ⟨#[c]⟩ ps) ⟨#[c]⟩ = ps := by
  have e : Txt.join ⟨#[c]⟩ ps = Str.join ⟨#[c]⟩ ps := StrLaws.glued_eq_join ⟨#[c]⟩ ps
  rw [e]
  refine join_inj (split_ne _ _) hne (StrLaws.split_free _ _) hf ?_
  rw [StrLaws.join_split]
end Wm
namespace Wm
open PySem L2 StX
def Nz (z : Str) : Prop := NmP z ∧ z.length ≤ 12
theorem nm_sgn {z : Str} (h : NmP z) : ∀ c ∈ z.cps.toList, lowC c ∨ figC c := by
  obtain ⟨c, cs, e, l, r⟩ := h
  rw [e]
  intro d hd
  rcases List.mem_cons.mp hd with rfl | hd
  · exact .inl l
  · exact r d hd
theorem nm_no {z : Str} (h : NmP z) {c : Nat} (hl : ¬ lowC c) (hf : ¬ figC c) : c ∉ z.cps.toList := fun m => by
  rcases nm_sgn h c m with q | q
  · exact hl q
  · exact hf q
theorem nl (c : Nat) (h : c < 97 ∨ 122 < c) : ¬ lowC c := fun q => by
  unfold lowC at q
  omega
theorem nf (c : Nat) (h : c < 48 ∨ 57 < c) : ¬ figC c := fun q => by
  unfold figC at q
  omega
/-- a text that may stand as a part of a row -/
structure Gd (z : Str) : Prop where
  ok : okS z
  nb : 32 ∉ z.cps.toList
  p1 : z ≠ ""
  ln : z.length ≤ 30
theorem nm_len {z : Str} (h : NmP z) : z ≠ "" := fun e => by
  obtain ⟨c, cs, e2, _⟩ := h
  rw [e] at e2
  cases e2
theorem Nz.gd {z : Str} (h : Nz z) : Gd z := ⟨h.1.ok, nm_no h.1 (nl _ (by omega)) (nf _ (by omega)), nm_len h.1, by have := h.2; omega⟩
theorem varP_cds (n s : Str) : (varP (n, some s)).cps.toList = n.cps.toList ++ 58 :: s.cps.toList := by
  show (Str.empty ++ n ++ PySem.Str.ofString ":" ++ s).cps.toList = _
  rw [emp_app, colonS, toList_app, toList_app, List.append_assoc]
  rfl
theorem varP_hd {v : Var} (h : NmP v.1) : ∃ c cs, (varP v).cps.toList = c :: cs ∧ lowC c := by
  obtain ⟨n, s⟩ := v
  obtain ⟨c, cs, e, l, _⟩ := h
  cases s with
  | none => exact ⟨c, cs, e, l⟩
  | some s =>
    rw [varP_cds]
    dsimp only at e
    rw [e]
    exact ⟨c, _, rfl, l⟩
theorem varP_ne {v : Var} (h : NmP v.1) {z : Str} {c : Nat} {cs : List Nat} (e : z.cps.toList = c :: cs) (hc : ¬ lowC c) : varP v ≠ z := fun q => by
  obtain ⟨d, ds, e2, l⟩ := varP_hd h
  rw [q, e] at e2
  exact hc (by rw [(List.cons.inj e2).1]; exact l)
def VrOk (v : Var) : Prop := Nz v.1 ∧ ∀ s, v.2 = some s → Nz s
theorem varP_gd {v : Var} (h : VrOk v) : Gd (varP v) := by
  obtain ⟨n, s⟩ := v
  cases s with
  | none => exact h.1.gd
  | some s =>
    have g1 := h.1.gd
    have g2 := (h.2 s rfl).gd
    have l1 := h.1.2
    have l2 := (h.2 s rfl).2
    dsimp only at g1 l1
    refine ⟨fun c hc => ?_, fun hc => ?_, fun q => ?_, ?_⟩
    · rw [varP_cds] at hc
      rcases List.mem_append.mp hc with q | q
      · exact g1.ok c q
      · rcases List.mem_cons.mp q with rfl | q
        · omega
        · exact g2.ok c q
    · rw [varP_cds] at hc
      rcases List.mem_append.mp hc with q | q
      · exact g1.nb q
      · rcases List.mem_cons.mp q with q | q
        · omega
        · exact g2.nb q
    · obtain ⟨d, ds, e, _⟩ := varP_hd (v := (n, some s)) h.1.1
      rw [q] at e
      cases e
    · have e : (varP (n, some s)).length = (varP (n, some s)).cps.toList.length := (Array.length_toList).symm
      have e1 : n.cps.toList.length = n.length := Array.length_toList
      have e2 : s.cps.toList.length = s.length := Array.length_toList
      rw [e, varP_cds, List.length_append, List.length_cons, e1, e2]
      omega
theorem gd_lit {z : Str} (h : z = "rule" ∨ z = "bar" ∨ z = "making" ∨ z = "|" ∨ z = ">" ∨ z = "<" ∨ z = "by") : Gd z := by
  rcases h with rfl | rfl | rfl | rfl | rfl | rfl | rfl <;> exact ⟨by unfold okS; decide +kernel, by decide +kernel, by decide +kernel, by decide +kernel⟩
/-- a part of a scheme -/
inductive Pt where
  | rl (nm : Str) (vars : List Var) (cs : List Tri) (g : Tri) (b : Str)
  | br (nm : Str) (vars : List Var) (cs : List Tri)
  | mk (mr md : Str) (ds us : List Str)
def Pt.kind : Pt → Str
  | .rl .. => "rule"
  | .br .. => "bar"
  | .mk .. => "making"
def Pt.parts : Pt → List Str
  | .rl nm vars cs g b => rowP "rule" nm vars cs (rlT g b)
  | .br nm vars cs => rowP "bar" nm vars cs []
  | .mk mr md ds us => mkP "making" mr md ds us
def PtOk : Pt → Prop
  | .rl nm vars cs g b => PatOk vars cs [g] [b] ∧ ∀ z ∈ textsL nm vars (cs ++ [g]), Nz z
  | .br nm vars cs => PatOk vars cs [] [] ∧ ∀ z ∈ textsL nm vars cs, Nz z
  | .mk mr md ds us => NoTw (ds.map V.str) ∧ NoTw (us.map V.str) ∧ ds.length ≤ 20 ∧ us.length ≤ 20 ∧ ∀ z ∈ mr :: md :: (ds ++ us), Nz z
theorem tx_nm {nm : Str} {vars : List Var} {ts : List Tri} : nm ∈ textsL nm vars ts := List.mem_append_left _ List.mem_cons_self
theorem tx_var {nm : Str} {vars : List Var} {ts : List Tri} {v : Var} (h : v ∈ vars) : ∀ z ∈ varT v, z ∈ textsL nm vars ts := fun z hz => List.mem_append_left _ (List.mem_cons_of_mem _ (List.mem_flatMap.mpr ⟨v, h, hz⟩))
theorem tx_word {nm : Str} {vars : List Var} {ts : List Tri} {t : Tri} (h : t ∈ ts) : t.2.1 ∈ textsL nm vars ts := List.mem_append_right _ (List.mem_map.mpr ⟨t, h, rfl⟩)
theorem vr_ok {nm : Str} {vars : List Var} {ts : List Tri} (h : ∀ z ∈ textsL nm vars ts, Nz z) : ∀ v ∈ vars, VrOk v := fun v hv =>
  ⟨h _ (tx_var hv _ List.mem_cons_self), fun s e => h _ (tx_var hv _ (by unfold varT; rw [e]; exact List.mem_cons_of_mem _ (List.mem_singleton.mpr rfl)))⟩
structure TrOk (t : Tri) : Prop where
  a : Nz t.1
  b : Nz t.2.1
  c : Nz t.2.2
theorem tr_ok {nm : Str} {vars : List Var} {cs gs : List Tri} {hs : List Str} (p : PatOk vars cs gs hs) (h : ∀ z ∈ textsL nm vars (cs ++ gs), Nz z) : (∀ t ∈ cs ++ gs, TrOk t) ∧ ∀ z ∈ hs, Nz z := by
  have hv := vr_ok h
  have q : ∀ z ∈ vars.map (·.1), Nz z := fun z hz => by
    obtain ⟨v, hv', rfl⟩ := List.mem_map.mp hz
    exact (hv v hv').1
  refine ⟨fun t ht => ⟨q _ (p.en _ (List.mem_append_left _ (mem_ends.mpr ⟨t, ht, .inl rfl⟩))), h _ (tx_word ht), q _ (p.en _ (List.mem_append_left _ (mem_ends.mpr ⟨t, ht, .inr rfl⟩)))⟩, fun z hz => q _ (p.en _ (List.mem_append_right _ hz))⟩
theorem row_gd {kd nm : Str} {vars : List Var} {cs : List Tri} {tl : List Str} (hk : Gd kd) (hn : Nz nm) (hv : ∀ v ∈ vars, VrOk v) (hc : ∀ t ∈ cs, TrOk t) (ht : ∀ z ∈ tl, Gd z) : ∀ z ∈ rowP kd nm vars cs tl, Gd z := fun z hz => by
  unfold rowP partsL at hz
  rcases List.mem_append.mp hz with hz | hz
  · rcases List.mem_append.mp hz with hz | hz
    · rcases List.mem_append.mp hz with hz | hz
      · rcases List.mem_cons.mp hz with rfl | hz
        · exact hk
        · rw [List.mem_singleton.mp hz]
          exact hn.gd
      · obtain ⟨v, hv', rfl⟩ := List.mem_map.mp hz
        exact varP_gd (hv v hv')
    · obtain ⟨t, ht', hz⟩ := List.mem_flatMap.mp hz
      have o := hc t ht'
      unfold triP at hz
      simp only [List.mem_cons, List.not_mem_nil, or_false] at hz
      rcases hz with rfl | rfl | rfl | rfl
      · exact gd_lit (by simp)
      · exact o.a.gd
      · exact o.b.gd
      · exact o.c.gd
  · exact ht z hz
theorem rlT_gd {g : Tri} {b : Str} (hg : TrOk g) (hb : Nz b) : ∀ z ∈ rlT g b, Gd z := fun z hz => by
  unfold rlT at hz
  simp only [List.mem_cons, List.not_mem_nil, or_false] at hz
  rcases hz with rfl | rfl | rfl | rfl | rfl | rfl
  · exact gd_lit (by simp)
  · exact hg.a.gd
  · exact hg.b.gd
  · exact hg.c.gd
  · exact gd_lit (by simp)
  · exact hb.gd
theorem pt_gd {p : Pt} (h : PtOk p) : (∀ z ∈ p.parts, Gd z) ∧ p.parts.length ≤ 60 := by
  cases p with
  | rl nm vars cs g b =>
    obtain ⟨o, h⟩ := h
    obtain ⟨t1, t2⟩ := tr_ok o h
    refine ⟨row_gd (gd_lit (by simp)) (h _ tx_nm) (vr_ok h) (fun t ht => t1 t (List.mem_append_left _ ht)) (rlT_gd (t1 g (by simp)) (t2 b (by simp))), ?_⟩
    have e := rowP_len "rule" nm vars cs (rlT g b)
    have v4 := o.v4
    have c3 := o.c3
    show (rowP "rule" nm vars cs (rlT g b)).length ≤ 60
    rw [e]
    show 2 + vars.length + 4 * cs.length + 6 ≤ 60
    omega
  | br nm vars cs =>
    obtain ⟨o, h⟩ := h
    have h' : ∀ z ∈ textsL nm vars (cs ++ []), Nz z := by rw [List.append_nil]; exact h
    obtain ⟨t1, t2⟩ := tr_ok o h'
    refine ⟨row_gd (gd_lit (by simp)) (h _ tx_nm) (vr_ok h) (fun t ht => t1 t (List.mem_append_left _ ht)) (fun z hz => (List.not_mem_nil hz).elim), ?_⟩
    have e := rowP_len "bar" nm vars cs []
    have v4 := o.v4
    have c3 := o.c3
    show (rowP "bar" nm vars cs []).length ≤ 60
    rw [e]
    show 2 + vars.length + 4 * cs.length + 0 ≤ 60
    omega
  | mk mr md ds us =>
    obtain ⟨_, _, d20, u20, h⟩ := h
    refine ⟨fun z hz => ?_, ?_⟩
    · have hz : z ∈ ([("making" : Str), mr, md, ">"] ++ ds) ++ (("<" : Str) :: us) := hz
      simp only [List.mem_append, List.mem_cons, List.not_mem_nil, or_false] at hz
      rcases hz with ((rfl | rfl | rfl | rfl) | hz) | rfl | hz
      · exact gd_lit (by simp)
      · exact (h _ (by simp)).gd
      · exact (h _ (by simp)).gd
      · exact gd_lit (by simp)
      · exact (h _ (by simp [hz])).gd
      · exact gd_lit (by simp)
      · exact (h _ (by simp [hz])).gd
    · show (mkP "making" mr md ds us).length ≤ 60
      rw [mkP_len]
      omega
def ptRow (p : Pt) : Str := Txt.join " " p.parts
theorem ptRow_len {p : Pt} (h : PtOk p) : (ptRow p).length ≤ 3000 := by
  obtain ⟨g, l⟩ := pt_gd h
  have e := join_len " " p.parts
  have e2 := sum_le (n := 30) (l := p.parts) fun z hz => (g z hz).ln
  have e1 : (PySem.Str.ofString " ").length = 1 := by decide +kernel
  show (Txt.join " " p.parts).length ≤ 3000
  rw [e1] at e
  omega
theorem pt_ne (p : Pt) : p.parts ≠ [] := by
  cases p <;> (intro h; cases h)
theorem pt_split {p : Pt} (h : PtOk p) : Txt.split (ptRow p) " " = p.parts := by
  have e : PySem.Str.ofString " " = ⟨#[32]⟩ := by decide +kernel
  unfold ptRow
  rw [e]
  exact split_join (pt_ne p) fun z hz => ((pt_gd h).1 z hz).nb
theorem pt_nb {p : Pt} (h : PtOk p) : ("" : Str) ∉ p.parts := fun m => ((pt_gd h).1 _ m).p1 rfl
theorem pt_okS {p : Pt} (h : PtOk p) : ∀ z ∈ p.parts, okS z := fun z hz => ((pt_gd h).1 z hz).ok
theorem ov_of {nm : Str} {vars : List Var} {cs gs : List Tri} {hs : List Str} {ts : List Tri} (p : PatOk vars cs gs hs) (h : ∀ z ∈ textsL nm vars ts, Nz z) : OkVs vars := by
  have hv := vr_ok h
  refine ⟨p.v4, fun v m => nm_no (hv v m).1.1 (nl _ (by omega)) (nf _ (by omega)), fun v m => ⟨Nat.le_trans (hv v m).1.2 (by decide), fun s e => Nat.le_trans ((hv v m).2 s e).2 (by decide)⟩, fun v m q => ?_⟩
  simp only [List.mem_cons, List.not_mem_nil, or_false] at q
  rcases q with q | q
  · exact varP_ne (hv v m).1.1 (z := "|") (c := 124) (cs := []) (by decide +kernel) (nl _ (by omega)) q
  · exact varP_ne (hv v m).1.1 (z := ">") (c := 62) (cs := []) (by decide +kernel) (nl _ (by omega)) q
end Wm
namespace Wm
open L2 PySem PySem.W
/-- a def to which a caught error is handed within the suite that caught it -/
structure FnE (P : Program) (w : World) (K : Frag) (mg : Str → Option Value) (base : Heap) (k : Nat) (f : Addr) (fd : FuncData) (ps : List Str)
    (sp : Addr → Value → Option Addr → Sp) : Prop where
  len : ∀ a cls d vs H Q E, sp a cls d vs H Q E → vs.length = ps.length
  run : ∀ (A : Around) (outer : List Env) (s : Shared) (H : Hp) (args : Args) (us : List Value) (vs : List V) (Q : VK) (E : XK) (a : Addr) (oe : Obj) (cls : Value) (d : Option Addr),
    L2H.RoomH k A → A.handled = some (.ref a) → Zc cls d oe → (∃ vs, oe.data = .fields vs) → L2H.PinOk outer H s (a, oe) → Env0 P w K mg base A outer s H →
    BindsTo s fd args (ps.zip us) → Vals vs us → sp a cls d vs H Q E → codeAny (model P w) A (.call (.ref f) args) (CR CX0 outer P w H s Q E) s
theorem mark_self {A : Around} {a : Addr} (h : A.handled = some (.ref a)) : A.mark (some (.ref a)) = A := by
  cases A
  simp only at h
  subst h
  rfl
theorem fn_ofE {P : Program} {w : World} {K : Frag} {mg : Str → Option Value} {base : Heap} {k : Nat} {f : Addr} {name qual : Str} {params : Arguments} {body : List Stmt} {scope : Scope}
    {dV kV doc pm cdv ct oc : Value} {an od : Option Addr} {osl : Array (Option Value)} {N ps : List Str} {sp : Addr → Value → Option Addr → Sp}
    (lk : List.lookup f K = some { cls := oc, dict := od, data := .func (fnOf name qual params body scope dV kV doc pm an cdv ct), slots := osl })
    (hcd : codeIn K cdv qual = true) (S : FnScope N ps scope)
    (len : ∀ a cls d vs H Q E, sp a cls d vs H Q E → vs.length = ps.length)
    (hbody : ∀ (A : Around) (outer : List Env) (s : Shared) (H : Hp) (vs : List V) (Q : VK) (E : XK) (a : Addr) (oe : Obj) (cls : Value) (d : Option Addr),
      Zc cls d oe → (∃ vs, oe.data = .fields vs) → L2H.RoomH k (A.deeper (PyProof.Rows.envOfC qual scope s.heap.objs.size f cdv)) → sp a cls d vs H Q E →
      ∃ t, PSs ((cxOf CX0 P w K mg base N qual scope f cdv A outer s H E).suite a [(a, oe)]) body t ∧ t { nx := fun _ H' => Q .non H', rt := Q } (L2.start N vs) H) :
    FnE P w K mg base (k + 1) f (fnOf name qual params body scope dV kV doc pm an cdv ct) ps sp where
  len := len
  run := by
    intro A outer s H args us vs Q E a oe cls d hr hh hz hf hpin e0 hb r hsp
    have KX := Frag.In.keeps e0.mod.kin fun b o e => (e0.bs b o e).1
    have lim := Heap.NoLimit.keeps e0.mod.nolimit fun b o e => (e0.bs b o e).1
    refine codeAny_call_function hr.depth (KX f _ lk) rfl S.co S.gen rfl (codeRec_of KX hcd) (hb _ A.in1 _ _ (wpAny_newFunctionEnv_cells S.kind ?_ ?_))
    · rintro ⟨n, v⟩ hy
      rcases S.par n (List.of_mem_zip hy).1 with q | q
      · exact Or.inl q
      · exact Or.inr ⟨q, cellsFrom_some scope.names (s.heap.objs.size + 1) [] (Or.inl q)⟩
    · intro env he s1 x
      subst he
      refine ⟨Heap.NoLimit.keeps lim x.toInCall.keep, codeAny_func ?_⟩
      obtain ⟨t, ht, hq⟩ := hbody A outer s H vs Q E a oe cls d hz hf (L2H.RoomH.deeper hr _) hsp
      have I := L2H.inv_startH (CX := CX0) (E := E) S hpin e0 (len _ _ _ _ _ _ _ hsp) r x
      have hm : (A.deeper (PyProof.Rows.envOfC qual scope s.heap.objs.size f cdv)).mark (some (.ref a)) = A.deeper (PyProof.Rows.envOfC qual scope s.heap.objs.size f cdv) := mark_self hh
      have o := I.ok
      have I2 : Inv ((cxOf CX0 P w K mg base N qual scope f cdv A outer s H E).suite a [(a, oe)]) [] (L2.start N vs) H s1 :=
        ⟨⟨o.mod, o.kind, o.glob, o.blt, o.above, o.inj, o.has, o.cab, (fun h => by cases h), o.frames, o.stk, o.exf, o.bs, o.bsz, o.noex, o.exfs, o.funs, o.frf⟩,
          I.os, I.bare, I.base, I.loc, I.cell, I.free, I.freeC, I.pin, I.hok, I.len⟩
      have go := ht.run [] s1 (L2.start N vs) H { nx := fun _ H' => Q .non H', rt := Q } I2 hq
      dsimp only [Cx.suite, cxOf] at go
      rw [hm] at go
      refine wpAny_mono go (fun fl s' hs => ?_) fun e s' hs => hs.elim
      cases fl with
      | next =>
        obtain ⟨σ', H', J, q⟩ := hs
        exact ⟨.non, H', J.os, J.bare, J.base, J.hok, rfl, q⟩
      | brk =>
        obtain ⟨_, _, _, q⟩ := hs
        exact q.elim
      | cont =>
        obtain ⟨_, _, _, q⟩ := hs
        exact q.elim
      | ret u =>
        obtain ⟨v, σ', H', J, rv, q⟩ := hs
        exact ⟨v, H', J.os, J.bare, J.base, J.hok, rv, q⟩
theorem FunE_ok {P : Program} {w : World} {K : Frag} {mg : Str → Option Value} {base : Heap} {x qual : Str} {st : Stmt} {f : Addr} {fd : FuncData} {N ps : List Str} {k : Nat} {sp : Addr → Value → Option Addr → Sp}
    (F : Fun K x qual st f fd) (S : FnScope N ps (defScope st))
    (len : ∀ a cls d vs H Q E, sp a cls d vs H Q E → vs.length = ps.length)
    (hbody : ∀ (cdv : Value) (A : Around) (outer : List Env) (s : Shared) (H : Hp) (vs : List V) (Q : VK) (E : XK) (a : Addr) (oe : Obj) (cls : Value) (d : Option Addr),
      Zc cls d oe → (∃ vs, oe.data = .fields vs) → L2H.RoomH k (A.deeper (PyProof.Rows.envOfC qual (defScope st) s.heap.objs.size f cdv)) → sp a cls d vs H Q E →
      ∃ t, PSs ((cxOf CX0 P w K mg base N qual (defScope st) f cdv A outer s H E).suite a [(a, oe)]) (defBody st) t ∧ t { nx := fun _ H' => Q .non H', rt := Q } (L2.start N vs) H) :
    FnE P w K mg base (k + 1) f fd ps sp := by
  obtain ⟨oc, od, kV, doc, pm, an, cdv, ct, osl, rfl, lk, hcd⟩ := F.ex
  exact fn_ofE lk hcd S len fun A outer s H vs Q E a oe cls d hz hf hr hsp => hbody cdv A outer s H vs Q E a oe cls d hz hf hr hsp
/-- the call f(e, ..) of such a def within the suite -/
def tCallE (sp : Sp) (t : TA) : TE := fun σ H Q => t σ H fun vs H1 => sp vs H1 Q (fun _ _ _ => False)
theorem pe_callE {X : Cx} {k : Nat} {f : Addr} {fd : FuncData} {ps : List Str} {sp : Addr → Value → Option Addr → Sp} {a : Addr} {oe : Obj} {cls : Value} {d : Option Addr} {pn : List (Addr × Obj)}
    {x : Str} {q pos : Pos} {e : Expr} {es : List Expr} {t : TA}
    (F : FnE X.prog X.w X.K X.mg X.base k f fd ps sp) (hr : L2H.RoomH k X.A) (hz : Zc cls d oe) (hf : ∃ vs, oe.data = .fields vs) (hg : Gl X x) (hm : X.mg x = some (.ref f))
    (hk : keepIn X.K (.ref f) = true) (hb : L2.Binds X.K fd ps []) (ha : PA (X.suite a ((a, oe) :: pn)) (e :: es) t)
    (hdb : (x == Str.ofString "__debug__") = false := by rfl) (he : starEach (e :: es) X.env = (false, eval e X.env) :: starEach es X.env := by rfl)
    (hpl : ((backTo pos (starEach es X.env)).any fun x => x.1) = false := by rfl) :
    PE (X.suite a ((a, oe) :: pn)) (.Call (.Name x q) (e :: es) [] pos) (tCallE (sp a cls d) t) where
  run := by
    intro pins s σ H Q I h
    refine wpAny_Call_Name_kw (ld_glob I hg hm (callWith_K I.ok.mod.kin hk (thn (ha.run pos pins s σ H _ I h) ?_) he hpl) hdb)
    rintro us s1 ⟨vs, H1, I1, r, h1⟩
    refine ⟨I1.kIn, ?_⟩
    have P1 := I1.pin (a, oe) (List.mem_append_left _ (List.mem_cons_self ..))
    have hp : L2H.PinOk X.stack H1 s1 (a, oe) := ⟨P1.1, P1.2.1, fun hx => (List.mem_cons.mp (I1.stkSub a hx)).elim P1.2.2.1 P1.2.2.2.1, P1.2.2.2.2⟩
    have hl : (us ++ []).length = ps.length := by rw [List.append_nil, ← r.length]; exact F.len _ _ _ _ _ _ _ h1
    have b := hb s1 us I1.kIn hl
    rw [List.append_nil] at b
    have hr2 : L2H.RoomH k (X.suite a ((a, oe) :: pn)).A := ⟨hr.dp, hr.un⟩
    refine wpAny_call (codeAny_mono (F.run (X.suite a ((a, oe) :: pn)).A X.stack s1 H1 ⟨us, []⟩ us vs Q _ a oe cls d hr2 rfl hz hf hp I1.env0 b r h1) fun r s' hq => ?_)
    cases r with
    | error e => exact hq.elim
    | ok fl =>
      cases fl with
      | next => exact hq.elim
      | brk => exact hq.elim
      | cont => exact hq.elim
      | ret u => exact I1.after hq
end Wm
namespace Wm
open PySem L2 PySem.W
/-- an object made where what a refusal is to bring hangs on the slots -/
def tMakeS (C : Addr) (sp : Sp) (E : St → XK) (t : TA) : TE := fun σ H Q => t σ H fun vs H1 => ∀ x dx, H1 x = none → H1 dx = none → dx ≠ x → sp (.ref x :: vs) (upd (upd H1 dx (.own x)) x (.ins C dx [])) (fun v H2 => v = .non ∧ Q (.ref x) H2) (E σ)
theorem pe_makeS {X : Cx} {CX : CXT} {k : Nat} {f C : Addr} {fd : FuncData} {ps : List Str} {sp : Sp} {E : St → XK} {x : Str} {p pos : Pos} {e : Expr} {es : List Expr} {t : TA}
    (M : Mk X.K C f) (F : FnOk X.prog X.w X.K X.mg X.base CX k f fd ps sp) (hr : Room (k + 1) X.A) (hg : Gl X x) (hm : X.mg x = some (.ref C)) (hb : L2.Binds X.K fd ps [])
    (hx : ∀ σ, PassesAt CX X σ (E σ)) (ha : PA X (e :: es) t)
    (hdb : (x == Str.ofString "__debug__") = false := by rfl) (he : starEach (e :: es) X.env = (false, eval e X.env) :: starEach es X.env := by rfl)
    (hpl : ((backTo pos (starEach es X.env)).any fun x => x.1) = false := by rfl) :
    PE X (.Call (.Name x p) (e :: es) [] pos) (tMakeS C sp E t) where
  run := by
    intro pins s0 σ H0 Q I0 h0
    refine wpAny_Call_Name_kw (ld_glob I0 hg hm (callWith_K I0.ok.mod.kin M.kp (thn (ha.run pos pins s0 σ H0 _ I0 h0) ?_) he hpl) hdb)
    rintro us s ⟨vs, H, I, r, h⟩
    refine ⟨I.kIn, ?_⟩
    have hq := h (s.heap.objs.size + 1) s.heap.objs.size (HOk.fresh I.hok (Nat.le_succ _)) (HOk.fresh I.hok (Nat.le_refl _)) (Nat.ne_of_lt (Nat.lt_succ_self _))
    have I2 := Inv.made (C := C) I
    have r2 : Vals (V.ref (s.heap.objs.size + 1) :: vs) (Value.ref (s.heap.objs.size + 1) :: us) := Paired.cons rfl r
    have hl : ((Value.ref (s.heap.objs.size + 1) :: us) ++ []).length = ps.length := by
      rw [List.append_nil, ← r2.length]
      exact F.len _ _ _ _ hq
    have bd := hb ⟨(s.heap.push emptyDict).push (instObj C s.heap.objs.size), s.gens, s.drawn, s.toks, s.os⟩ _ I2.kIn hl
    rw [List.append_nil] at bd
    refine wpAny_call (make_map I.kIn M.makes M.init (beq_iff_eq.mp M.fn) (codeAny_mono (F.run _ X.stack _ _ _ _ _ _ (E σ) (Room.make hr C us []) (Env0.make I2.env0 C us []) bd r2 hq) fun r s' hq' => ?_))
    cases r with
    | error e => exact hx σ pins _ _ e s' I2 hq'
    | ok fl =>
      cases fl with
      | next => exact hq'.elim
      | brk => exact hq'.elim
      | cont => exact hq'.elim
      | ret u =>
        obtain ⟨v, H', I3, rv, rfl, q3⟩ := I2.after (Q := fun v H2 => v = .non ∧ Q (.ref (s.heap.objs.size + 1)) H2) hq'
        exact ⟨rv, .ref (s.heap.objs.size + 1), H', I3, rfl, q3⟩
end Wm
namespace Wm
open PySem L2 PySem.W
/-- C(*xs): an object made of what stands in a list or a tuple -/
def tMakeSt (K : Frag) (C : Addr) (sp : Sp) (E : XK) (te : TE) : TE := fun σ H Q => te σ H fun y H1 => ∃ a xs, y = V.ref a ∧ (SqT K H1 a xs ∨ SqL K H1 a xs) ∧ ∀ x dx, H1 x = none → H1 dx = none → dx ≠ x →
  sp (.ref x :: xs) (upd (upd H1 dx (.own x)) x (.ins C dx [])) (fun v H2 => v = .non ∧ Q (.ref x) H2) E
theorem pe_makeSt {X : Cx} {CX : CXT} {k : Nat} {f C : Addr} {fd : FuncData} {ps : List Str} {sp : Sp} {E : XK} {x : Str} {e : Expr} {te : TE} {p pos sp_ : Pos} (M : Mk X.K C f) (F : FnOk X.prog X.w X.K X.mg X.base CX k f fd ps sp) (hr : Room (k + 1) X.A) (hg : Gl X x) (hm : X.mg x = some (.ref C)) (hb : L2.Binds X.K fd ps [])
    (hx : Passes CX X E) (he : PE X e te) (hd : (x == ("__debug__" : Str)) = false := by decide) (hst : starEach [.Starred e sp_] X.env = [(true, eval e X.env)] := by rfl) :
    PE X (.Call (.Name x p) [.Starred e sp_] [] pos) (tMakeSt X.K C sp E te) := by
  refine ⟨fun pins s σ H Q I h => ?_⟩
  refine wpAny_Call_Name_kw (ld_glob I hg hm ?_ hd)
  refine callWith_S (h₀ := X.base) I.ok.mod.kin M.kp (thn (he.run pins s σ H _ I h) fun v s1 ⟨y, H1, I1, ry, a, xs, ey, hxs, q⟩ => ?_) hst
  subst ey
  obtain rfl : v = Value.ref a := ry
  refine StX.star_any I1 hxs fun us s2 I2 rv => ⟨I2.kIn, ?_⟩
  refine run_make (dvs := []) (ds := []) M F hr hb .nil hx I2 rv fun x dx n1 n2 n3 => ?_
  rw [List.append_nil]
  exact q x dx n1 n2 n3
end Wm
namespace Wm
open PySem L2 StX
def spPo : Sp := fun vs H Q _ => ∃ row : Str, vs = [.str row] ∧ row.length ≤ 1000000 ∧ ∀ l H', H l = none → Same H H' → H' l = some (.lst ((if ("" : Str) ∈ Txt.split row " " then [] else Txt.split row " ").map V.str)) → Q (.ref l) H'
theorem flatS (zs : List Str) : (zs.map V.str).all flatV = true := by
  rw [List.all_map]
  exact List.all_eq_true.mpr fun _ _ => rfl
/-- a draft, as bar_draft, rule_draft and making_draft make it -/
def DrAt (K : PySem.W.Frag) (H : Hp) (u : Addr) : Pt → Prop
  | .rl nm vars cs g b => ∃ (lv lc tg : Addr) (ps qs : List Addr), H u = some (.tup [.str nm, .ref lv, .ref lc, .ref tg, .str b]) ∧ H tg = some (.tup (triV g)) ∧ H lv = some (.lst (ps.map V.ref)) ∧ RowsAt K H ps (vars.map varV) ∧ H lc = some (.lst (qs.map V.ref)) ∧ RowsAt K H qs (cs.map triV)
  | .br nm vars cs => ∃ (lv lc : Addr) (ps qs : List Addr), H u = some (.tup [.str nm, .ref lv, .ref lc]) ∧ H lv = some (.lst (ps.map V.ref)) ∧ RowsAt K H ps (vars.map varV) ∧ H lc = some (.lst (qs.map V.ref)) ∧ RowsAt K H qs (cs.map triV)
  | .mk mr md ds us => ∃ (ld lu : Addr), H u = some (.tup [.str mr, .str md, .ref ld, .ref lu]) ∧ H ld = some (.lst (ds.map V.str)) ∧ H lu = some (.lst (us.map V.str))
/-- a draft whose lists are such as asked -/
def DrN (K : PySem.W.Frag) (ok : Addr → Prop) (H : Hp) (u : Addr) : Pt → Prop
  | .rl nm vars cs g b => ∃ (lv lc tg : Addr) (ps qs : List Addr), (ok lv ∧ ok lc) ∧ H u = some (.tup [.str nm, .ref lv, .ref lc, .ref tg, .str b]) ∧ H tg = some (.tup (triV g)) ∧ H lv = some (.lst (ps.map V.ref)) ∧ RowsAt K H ps (vars.map varV) ∧ H lc = some (.lst (qs.map V.ref)) ∧ RowsAt K H qs (cs.map triV)
  | .br nm vars cs => ∃ (lv lc : Addr) (ps qs : List Addr), (ok lv ∧ ok lc) ∧ H u = some (.tup [.str nm, .ref lv, .ref lc]) ∧ H lv = some (.lst (ps.map V.ref)) ∧ RowsAt K H ps (vars.map varV) ∧ H lc = some (.lst (qs.map V.ref)) ∧ RowsAt K H qs (cs.map triV)
  | .mk mr md ds us => ∃ (ld lu : Addr), (ok ld ∧ ok lu) ∧ H u = some (.tup [.str mr, .str md, .ref ld, .ref lu]) ∧ H ld = some (.lst (ds.map V.str)) ∧ H lu = some (.lst (us.map V.str))
theorem DrN.at {K : PySem.W.Frag} {ok : Addr → Prop} {H : Hp} {u : Addr} : ∀ {p : Pt}, DrN K ok H u p → DrAt K H u p
  | .rl .., ⟨lv, lc, tg, ps, qs, _, h⟩ => ⟨lv, lc, tg, ps, qs, h⟩
  | .br .., ⟨lv, lc, ps, qs, _, h⟩ => ⟨lv, lc, ps, qs, h⟩
  | .mk .., ⟨ld, lu, _, h⟩ => ⟨ld, lu, h⟩
theorem DrN.imp {K : PySem.W.Frag} {ok ok' : Addr → Prop} (i : ∀ a, ok a → ok' a) {H : Hp} {u : Addr} : ∀ {p : Pt}, DrN K ok H u p → DrN K ok' H u p
  | .rl .., ⟨lv, lc, tg, ps, qs, ⟨a, b⟩, h⟩ => ⟨lv, lc, tg, ps, qs, ⟨i _ a, i _ b⟩, h⟩
  | .br .., ⟨lv, lc, ps, qs, ⟨a, b⟩, h⟩ => ⟨lv, lc, ps, qs, ⟨i _ a, i _ b⟩, h⟩
  | .mk .., ⟨ld, lu, ⟨a, b⟩, h⟩ => ⟨ld, lu, ⟨i _ a, i _ b⟩, h⟩
theorem DrN.same {K : PySem.W.Frag} {ok : Addr → Prop} {H H' : Hp} {u : Addr} (s : Same H H') : ∀ {p : Pt}, DrN K ok H u p → DrN K ok H' u p
  | .rl .., ⟨lv, lc, tg, ps, qs, o, a, b, c, d, e, f⟩ => ⟨lv, lc, tg, ps, qs, o, s _ _ a, s _ _ b, s _ _ c, d.same s, s _ _ e, f.same s⟩
  | .br .., ⟨lv, lc, ps, qs, o, a, c, d, e, f⟩ => ⟨lv, lc, ps, qs, o, s _ _ a, s _ _ c, d.same s, s _ _ e, f.same s⟩
  | .mk .., ⟨ld, lu, o, a, b, c⟩ => ⟨ld, lu, o, s _ _ a, s _ _ b, s _ _ c⟩
theorem DrN.put {K : PySem.W.Frag} {ok : Addr → Prop} {H : Hp} {l u : Addr} {ys : List V} {o : HO} (hl : H l = some (.lst ys)) (n : ∀ a, ok a → a ≠ l) : ∀ {p : Pt}, DrN K ok H u p → DrN K ok (upd H l o) u p
  | .rl .., ⟨lv, lc, tg, ps, qs, q, a, b, c, d, e, f⟩ => ⟨lv, lc, tg, ps, qs, q, by rw [upd_ne (ne_of a hl (by intro z; cases z))]; exact a, by rw [upd_ne (ne_of b hl (by intro z; cases z))]; exact b, by rw [upd_ne (n _ q.1)]; exact c, rows_put hl d, by rw [upd_ne (n _ q.2)]; exact e, rows_put hl f⟩
  | .br .., ⟨lv, lc, ps, qs, q, a, c, d, e, f⟩ => ⟨lv, lc, ps, qs, q, by rw [upd_ne (ne_of a hl (by intro z; cases z))]; exact a, by rw [upd_ne (n _ q.1)]; exact c, rows_put hl d, by rw [upd_ne (n _ q.2)]; exact e, rows_put hl f⟩
  | .mk .., ⟨ld, lu, q, a, b, c⟩ => ⟨ld, lu, q, by rw [upd_ne (ne_of a hl (by intro z; cases z))]; exact a, by rw [upd_ne (n _ q.1)]; exact b, by rw [upd_ne (n _ q.2)]; exact c⟩
def spDf (K : PySem.W.Frag) : Sp := fun vs H Q _ => ∃ (p : Pt) (n : Int), vs = [.str (ptRow p), .int n] ∧ PtOk p ∧ ∀ (t u : Addr) H', Same H H' → H' t = some (.tup [.str p.kind, .ref u]) → DrN K (fun a => H a = none) H' u p → Q (.ref t) H'
theorem DrAt.same {K : PySem.W.Frag} {H H' : Hp} {u : Addr} (s : Same H H') : ∀ {p : Pt}, DrAt K H u p → DrAt K H' u p
  | .rl .., ⟨lv, lc, tg, ps, qs, a, b, c, d, e, f⟩ => ⟨lv, lc, tg, ps, qs, s _ _ a, s _ _ b, s _ _ c, d.same s, s _ _ e, f.same s⟩
  | .br .., ⟨lv, lc, ps, qs, a, c, d, e, f⟩ => ⟨lv, lc, ps, qs, s _ _ a, s _ _ c, d.same s, s _ _ e, f.same s⟩
  | .mk .., ⟨ld, lu, a, b, c⟩ => ⟨ld, lu, s _ _ a, s _ _ b, s _ _ c⟩
theorem pt_kd (p : Pt) : p.parts.take 1 = [p.kind] := by cases p <;> rfl
theorem cut1s (xs : List Str) : cutV (xs.map V.str) none (some 1) = (xs.take 1).map V.str := by
  have e := cut_take (xs.map V.str) 1
  rw [List.map_take]
  exact e
/-- the first of a list of texts, held against a written one -/
theorem kd_q {K : PySem.W.Frag} {l : Addr} {lit : Str} {zs : List Str} {H : Hp} {σ : L2.St} {R : VK} (hl : H l = some (.lst (zs.map V.str))) (ho : ∀ z ∈ zs.take 1, okS z) (hlit : okS lit) (k : ∀ H', Same H H' → R (.bl (decide (zs.take 1 = [lit]))) H') :
    rSlL K (.ref l) none (some 1) H fun x H1 => tLst (tCons (tC (.str lit)) tNil) σ H1 fun y H2 => rEqD K x y H2 R := by
  refine ⟨l, _, rfl, SqL.of hl, fun l2 nl2 => ?_⟩
  rw [cut1s]
  have S2 : Same H (upd H l2 (.lst ((zs.take 1).map V.str))) := Same.upd nl2
  have e2 : (upd H l2 (.lst ((zs.take 1).map V.str))) l2 = some (.lst ((zs.take 1).map V.str)) := upd_same
  generalize upd H l2 (.lst ((zs.take 1).map V.str)) = H2 at S2 e2
  refine ⟨by show 1 ≤ sizeLine; decide, fun l3 nl3 => ?_⟩
  have S3 : Same H2 (upd H2 l3 (.lst [.str lit])) := Same.upd nl3
  have e3 : (upd H2 l3 (.lst [.str lit])) l3 = some (.lst (([lit]).map V.str)) := upd_same
  generalize upd H2 l3 (.lst [.str lit]) = H3 at S3 e3
  refine ⟨_, _, .lst (SqL.of (S3 _ _ e2)) (dp_strs _), .lst (SqL.of e3) (dp_strs _), shaped_lst ho, shaped_lst (fun z hz => by rw [List.mem_singleton.mp hz]; exact hlit), ?_⟩
  rw [eqv_strs]
  exact k _ (S2.trans S3)
theorem okl_ru : okS "rule" := by unfold okS; decide +kernel
theorem okl_ba : okS "bar" := by unfold okS; decide +kernel
theorem okl_ma : okS "making" := by unfold okS; decide +kernel
section
variable {P : Program} {w : World} {K : PySem.W.Frag} {mg : Str → Option Value} {base : Heap}
theorem scPo : FnScope ["row", "parts"] ["row"] (defScope sPo) := ⟨rfl, rfl, rfl, by decide +kernel, rfl, by decide +kernel, by decide +kernel⟩
theorem ok_po {f : Addr} {fd : FuncData} (F : Fun K "parts_of" "parts_of" sPo f fd) : FnOk P w K mg base CX0 1 f fd ["row"] spPo := by
  refine F.ok scPo (fun vs H Q E h => ?_) (fun cdv A outer s H vs Q E hr h => ?_)
  · obtain ⟨row, rfl, _⟩ := h
    rfl
  · obtain ⟨row, rfl, hl, k⟩ := h
    refine ⟨_, (pss_cons (ps_set (i := 1) scPo.nd rfl (Or.inl rfl) (pe_split (pv 0) pe_str))
      (pss_cons (ps_if (pt_cmpR op_in_seq pe_str (pv 1) (by rfl)) (pss_one (ps_ret (pe_lst pa_nil))) pss_nil)
      (pss_one (ps_ret (pv 1))))), ?_⟩
    refine ⟨_, rfl, ⟨row, rfl⟩, row, _, rfl, rfl, by decide +kernel, Nat.le_trans (show row.length + 2 ≤ 2000000 by omega) (by decide), fun l nl => ?_⟩
    dsimp only [List.set_cons_succ, List.set_cons_zero]
    have S1 : Same H (upd H l (.lst ((Txt.split row " ").map V.str))) := Same.upd nl
    refine ⟨_, rfl, l, _, rfl, .inl (SqL.of upd_same), rfl, flatS _, _, rfl, ?_⟩
    show if inV (.str "") ((Txt.split row " ").map V.str) = true then _ else _
    rw [inV_strs]
    by_cases h : ("" : Str) ∈ Txt.split row " "
    · rw [decide_eq_true h]
      rw [if_pos h] at k
      exact iteT ⟨Nat.zero_le _, fun l2 nl2 => k l2 _ (S1.free nl2) (S1.trans (Same.upd nl2)) upd_same⟩
    · rw [decide_eq_false h]
      rw [if_neg h] at k
      exact iteF ⟨_, rfl, k l _ nl S1 upd_same⟩

theorem scDf : FnScope ["row", "number", "parts", "draft"] ["row", "number"] (defScope sDf) := ⟨rfl, rfl, rfl, by decide +kernel, rfl, by decide +kernel, by decide +kernel⟩
theorem ok_df {f fP fR fB fM : Addr} {fd dP dR dB dM : FuncData} (F : Fun K "draft_of" "draft_of" sDf f fd) (DPo : Dn K mg "parts_of" sPo ["row"] fP dP) (DRd : Dn K mg "rule_draft" sRd ["parts"] fR dR) (DBd : Dn K mg "bar_draft" sBd ["parts"] fB dB) (DMd : Dn K mg "making_draft" sMd ["parts"] fM dM)
    (GRd : FnOk P w K mg base CX0 3 fR dR ["parts"] (spRd K)) (GBd : FnOk P w K mg base CX0 3 fB dB ["parts"] (spBd K)) (GMd : FnOk P w K mg base CX0 2 fM dM ["parts"] (spMd K)) : FnOk P w K mg base CX0 4 f fd ["row", "number"] (spDf K) := by
  have GPo : FnOk P w K mg base CX0 1 fP dP _ spPo := ok_po DPo.F
  refine F.ok scDf (fun vs H Q E h => ?_) (fun cdv A outer s H vs Q E hr h => ?_)
  · obtain ⟨p, n, rfl, _⟩ := h
    rfl
  · obtain ⟨p, n, rfl, po, k⟩ := h
    have hr3 : Room 3 _ := hr
    have hr2 : Room 2 _ := hr.mono (by decide)
    have hr1 : Room 1 _ := hr.mono (by decide)
    refine ⟨_, (pss_cons (ps_set (i := 2) scDf.nd rfl (Or.inl rfl) (pe_call GPo hr1 rfl DPo.g DPo.F.kp DPo.b .nil pass0 (pa_cons (pv 0) pa_nil)))
      (pss_cons (ps_set (i := 3) scDf.nd rfl (Or.inl rfl) pe_non)
      (pss_cons (ps_if (pt_cmpR (op_eqD hr.units) (pe_slice sl_list (pv 2) po_none (po_some pe_int)) (pe_lst (pa_cons pe_str pa_nil)) (nomark _)) (pss_one (ps_set (i := 3) scDf.nd rfl (Or.inl rfl) (pe_call GRd hr3 rfl DRd.g DRd.F.kp DRd.b .nil pass0 (pa_cons (pv 2) pa_nil)))) (pss_one (ps_if (pt_cmpR (op_eqD hr.units) (pe_slice sl_list (pv 2) po_none (po_some pe_int)) (pe_lst (pa_cons pe_str pa_nil)) (nomark _)) (pss_one (ps_set (i := 3) scDf.nd rfl (Or.inl rfl) (pe_call GBd hr3 rfl DBd.g DBd.F.kp DBd.b .nil pass0 (pa_cons (pv 2) pa_nil)))) (pss_one (ps_if (pt_cmpR (op_eqD hr.units) (pe_slice sl_list (pv 2) po_none (po_some pe_int)) (pe_lst (pa_cons pe_str pa_nil)) (nomark _)) (pss_one (ps_set (i := 3) scDf.nd rfl (Or.inl rfl) (pe_call GMd hr2 rfl DMd.g DMd.F.kp DMd.b .nil pass0 (pa_cons (pv 2) pa_nil)))) pss_nil)))))
      (pss_cons (ps_if (pt_cmp (pc_isN (pv 3))) (pss_one ps_never) pss_nil)
      (pss_one (ps_ret (pe_tup (pa_cons (pe_ix ix_list (pv 2) pe_int (fun _ _ => rfl)) (pa_cons (pv 3) pa_nil))))))))), ?_⟩
    refine ⟨_, rfl, ptRow p, rfl, Nat.le_trans (ptRow_len po) (by decide), fun l H1 nl S1 e1 => ?_⟩
    rw [pt_split po, if_neg (pt_nb po)] at e1
    dsimp only [gName, List.set_cons_succ, List.set_cons_zero]
    have kd := pt_kd p
    have okp := pt_okS po
    have pg := pt_gd po
    have okt : ∀ z ∈ p.parts.take 1, okS z := fun z hz => okp z (List.mem_of_mem_take hz)
    have g0 : (p.parts.map V.str)[0]? = some (.str p.kind) := by cases p <;> rfl
    cases p with
    | rl nm vars cs g b =>
      obtain ⟨o, hn⟩ := po
      refine ⟨_, rfl, _, rfl, kd_q e1 okt okl_ru fun H2 S2 => ⟨_, rfl, ?_⟩⟩
      rw [kd, decide_eq_true (show [Pt.kind (.rl nm vars cs g b)] = [("rule" : Str)] from rfl)]
      refine iteT ?_
      have hl2 := S2 _ _ e1
      refine ⟨_, rfl, l, "rule", nm, b, g, vars, cs, rfl, hl2, ov_of o hn, by intro z; have := o.c1; rw [z] at this; exact absurd this (by decide), o.c3, okp, fun u lv lc tg ps qs H3 S3 nlv nlc a1 a2 a3 a4 a5 a6 => ?_⟩
      dsimp only [gName, List.set_cons_succ, List.set_cons_zero]
      refine ⟨_, rfl, _, rfl, ?_⟩
      refine iteF ?_
      have hl3 := S3 _ _ hl2
      refine ⟨_, rfl, ?_⟩
      unfold tC
      dsimp only
      refine rdList (i := 0) hl3 (j := 0) (v := .str "rule") rfl g0 ?_
      refine ⟨_, rfl, by show 2 ≤ sizeLine; decide, fun t nt => ?_⟩
      have S4 : Same H3 (upd H3 t (.tup [.str "rule", .ref u])) := Same.upd nt
      exact k t u _ (((S1.trans S2).trans S3).trans S4) upd_same (DrN.same (p := .rl nm vars cs g b) S4 ⟨lv, lc, tg, ps, qs, ⟨(S1.trans S2).free nlv, (S1.trans S2).free nlc⟩, a1, a2, a3, a4, a5, a6⟩)
    | br nm vars cs =>
      obtain ⟨o, hn⟩ := po
      refine ⟨_, rfl, _, rfl, kd_q e1 okt okl_ru fun H2 S2 => ⟨_, rfl, ?_⟩⟩
      rw [kd, decide_eq_false (show ¬ [Pt.kind (.br nm vars cs)] = [("rule" : Str)] by show ¬ [("bar" : Str)] = [("rule" : Str)]; decide +kernel)]
      refine iteF ?_
      have hl2 := S2 _ _ e1
      refine ⟨_, rfl, _, rfl, kd_q hl2 okt okl_ba fun H3 S3 => ⟨_, rfl, ?_⟩⟩
      rw [kd, decide_eq_true (show [Pt.kind (.br nm vars cs)] = [("bar" : Str)] from rfl)]
      refine iteT ?_
      have hl3 := S3 _ _ hl2
      refine ⟨_, rfl, l, "bar", nm, vars, cs, rfl, hl3, ov_of o hn, by intro z; have := o.c1; rw [z] at this; exact absurd this (by decide), o.c3, okp, fun u lv lc ps qs H4 S4 nlv nlc a1 a3 a4 a5 a6 => ?_⟩
      dsimp only [gName, List.set_cons_succ, List.set_cons_zero]
      refine ⟨_, rfl, _, rfl, ?_⟩
      refine iteF ?_
      have hl4 := S4 _ _ hl3
      refine ⟨_, rfl, ?_⟩
      unfold tC
      dsimp only
      refine rdList (i := 0) hl4 (j := 0) (v := .str "bar") rfl g0 ?_
      refine ⟨_, rfl, by show 2 ≤ sizeLine; decide, fun t nt => ?_⟩
      have S5 : Same H4 (upd H4 t (.tup [.str "bar", .ref u])) := Same.upd nt
      exact k t u _ ((((S1.trans S2).trans S3).trans S4).trans S5) upd_same (DrN.same (p := .br nm vars cs) S5 ⟨lv, lc, ps, qs, ⟨((S1.trans S2).trans S3).free nlv, ((S1.trans S2).trans S3).free nlc⟩, a1, a3, a4, a5, a6⟩)
    | mk mr md ds us =>
      obtain ⟨_, _, d20, u20, hn⟩ := po
      refine ⟨_, rfl, _, rfl, kd_q e1 okt okl_ru fun H2 S2 => ⟨_, rfl, ?_⟩⟩
      rw [kd, decide_eq_false (show ¬ [Pt.kind (.mk mr md ds us)] = [("rule" : Str)] by show ¬ [("making" : Str)] = [("rule" : Str)]; decide +kernel)]
      refine iteF ?_
      have hl2 := S2 _ _ e1
      refine ⟨_, rfl, _, rfl, kd_q hl2 okt okl_ba fun H3 S3 => ⟨_, rfl, ?_⟩⟩
      rw [kd, decide_eq_false (show ¬ [Pt.kind (.mk mr md ds us)] = [("bar" : Str)] by show ¬ [("making" : Str)] = [("bar" : Str)]; decide +kernel)]
      refine iteF ?_
      have hl3 := S3 _ _ hl2
      refine ⟨_, rfl, _, rfl, kd_q hl3 okt okl_ma fun H4 S4 => ⟨_, rfl, ?_⟩⟩
      rw [kd, decide_eq_true (show [Pt.kind (.mk mr md ds us)] = [("making" : Str)] from rfl)]
      refine iteT ?_
      have hl4 := S4 _ _ hl3
      have nlt : ("<" : Str) ∉ ds := fun m => by
        have q := hn "<" (by simp [m])
        exact nm_no q.1 (Wm.nl 60 (by omega)) (nf 60 (by omega)) (by decide +kernel)
      refine ⟨_, rfl, l, "making", mr, md, ds, us, rfl, hl4, nlt, by omega, by omega, fun u ld lu H5 S5 nld nlu a1 a2 a3 => ?_⟩
      dsimp only [gName, List.set_cons_succ, List.set_cons_zero]
      refine ⟨_, rfl, _, rfl, ?_⟩
      refine iteF ?_
      have hl5 := S5 _ _ hl4
      refine ⟨_, rfl, ?_⟩
      unfold tC
      dsimp only
      refine rdList (i := 0) hl5 (j := 0) (v := .str "making") rfl g0 ?_
      refine ⟨_, rfl, by show 2 ≤ sizeLine; decide, fun t nt => ?_⟩
      have S6 : Same H5 (upd H5 t (.tup [.str "making", .ref u])) := Same.upd nt
      exact k t u _ (((((S1.trans S2).trans S3).trans S4).trans S5).trans S6) upd_same (DrN.same (p := .mk mr md ds us) S6 ⟨ld, lu, ⟨(((S1.trans S2).trans S3).trans S4).free nld, (((S1.trans S2).trans S3).trans S4).free nlu⟩, a1, a2, a3⟩)
end
end Wm
namespace Wm
open PySem L2 StX
theorem low_let : ∀ c : Fin 123, 97 ≤ c.1 → c.1 ∈ LET := by decide +kernel
theorem fig_fig : ∀ c : Fin 58, 48 ≤ c.1 → c.1 ∈ FIG := by decide +kernel
theorem nm_is {z : Str} (h : NmP z) (hl : z.length ≤ 12) : isNm z = true := by
  obtain ⟨c, cs, e, l, r⟩ := h
  have ol : ∀ d, lowC d → d ∈ LET := fun d q => low_let ⟨d, Nat.lt_succ_of_le q.2⟩ q.1
  have of' : ∀ d, figC d → d ∈ FIG := fun d q => fig_fig ⟨d, Nat.lt_succ_of_le q.2⟩ q.1
  have hlen : z.length = (c :: cs).length := by
    rw [← e]
    exact (Array.length_toList).symm
  unfold isNm
  rw [e]
  have a1 : (c :: cs).all okc = true := by
    rw [List.all_eq_true]
    intro d hd
    unfold okc
    rcases List.mem_cons.mp hd with h | h
    · rw [h, decide_eq_true (ol c l)]
      rfl
    · rcases r d h with q | q
      · rw [decide_eq_true (ol d q)]
        rfl
      · rw [decide_eq_true (of' d q), Bool.or_true]
  have a2 : first (c :: cs) = true := by
    unfold first
    exact decide_eq_true (ol c l)
  rw [a1, a2, decide_eq_true hl]
  simp [hlen]

theorem same_make {H : Hp} {x dx C : Addr} (nx : H x = none) (ndx : H dx = none) : Same H (upd (upd H dx (.own x)) x (.ins C dx [])) := fun b o e => by
  rw [upd_ne (ne_of_none e nx), upd_ne (ne_of_none e ndx)]
  exact e
theorem dueM_all {C : Addr} {zs : List Str} {H0 : Hp} {ok : Hp → Prop} {E : XK} (h : ∀ z ∈ zs, Nz z) (k : ∀ H', Same H0 H' → ok H') : DueM C zs H0 ok E := by
  unfold DueM
  have e : zs.find? (fun z => !isNm z) = none := by
    rw [List.find?_eq_none]
    intro z hz
    rw [nm_is (h z hz).1 (h z hz).2]
    decide
  rw [e]
  exact k
/-- a part at x -/
def PtAt (K : PySem.W.Frag) (Rl Br Mk : Addr) (H : Hp) (x : Addr) : Pt → Prop
  | .rl nm vars cs g b => ∃ (dx t1 t2 t3 : Addr) (ps qs : List Addr), H x = some (.ins Rl dx (rulF nm t1 t2 t3 b)) ∧ SqT K H t1 (ps.map V.ref) ∧ RowsAt K H ps (vars.map varV) ∧ SqT K H t2 (qs.map V.ref) ∧ RowsAt K H qs (cs.map triV) ∧ SqT K H t3 (triV g)
  | .br nm vars cs => ∃ (dx t1 t2 : Addr) (ps qs : List Addr), H x = some (.ins Br dx (barF nm t1 t2)) ∧ SqT K H t1 (ps.map V.ref) ∧ RowsAt K H ps (vars.map varV) ∧ SqT K H t2 (qs.map V.ref) ∧ RowsAt K H qs (cs.map triV)
  | .mk mr md ds us => ∃ (dx t1 t2 : Addr), H x = some (.ins Mk dx (makF mr md t1 t2)) ∧ H t1 = some (.tup (ds.map V.str)) ∧ H t2 = some (.tup (us.map V.str))
theorem PtAt.same {K : PySem.W.Frag} {Rl Br Mk : Addr} {H H' : Hp} {x : Addr} (s : Same H H') : ∀ {p : Pt}, PtAt K Rl Br Mk H x p → PtAt K Rl Br Mk H' x p
  | .rl .., ⟨dx, t1, t2, t3, ps, qs, a, b, c, d, e, f⟩ => ⟨dx, t1, t2, t3, ps, qs, s _ _ a, same_seqT s b, c.same s, same_seqT s d, e.same s, same_seqT s f⟩
  | .br .., ⟨dx, t1, t2, ps, qs, a, b, c, d, e⟩ => ⟨dx, t1, t2, ps, qs, s _ _ a, same_seqT s b, c.same s, same_seqT s d, e.same s⟩
  | .mk .., ⟨dx, t1, t2, a, b, c⟩ => ⟨dx, t1, t2, s _ _ a, s _ _ b, s _ _ c⟩
section
variable {K : PySem.W.Frag} {C Rl Br Mk : Addr} {H : Hp} {R : Addr → Hp → Prop} {E : XK}
theorem rl_new {l1 l2 g : Addr} {nm b : Str} {ps qs : List Addr} {vars : List Var} {cs : List Tri} {gt : Tri} (po : PtOk (.rl nm vars cs gt b)) (h1 : H l1 = some (.lst (ps.map V.ref))) (r1 : RowsAt K H ps (vars.map varV)) (h2 : H l2 = some (.lst (qs.map V.ref))) (r2 : RowsAt K H qs (cs.map triV)) (hg : H g = some (.tup (triV gt)))
    (k : ∀ x H', H x = none → Same H H' → PtAt K Rl Br Mk H' x (.rl nm vars cs gt b) → R x H') :
    ∀ x dx, H x = none → H dx = none → dx ≠ x → spRul K C Rl [.ref x, .str nm, .ref l1, .ref l2, .ref g, .str b] (upd (upd H dx (.own x)) x (.ins Rl dx [])) (fun v H3 => v = .non ∧ R x H3) E := fun x dx hx hd ne => by
  obtain ⟨ok, hn⟩ := po
  refine ⟨H, x, dx, l1, l2, g, nm, b, ps, qs, vars, cs, gt, rfl, same_make hx hd, hx, upd_same, SqL.of h1, r1, SqL.of h2, r2, hg, ok, fun z hz => Nat.le_trans (hn z hz).2 (by decide), dueM_all hn fun H' S' t1 t2 a1 a2 a3 => ⟨rfl, ?_⟩⟩
  exact k x H' hx S' ⟨dx, t1, t2, g, ps, qs, a1, SqT.of a2, r1.same S', SqT.of a3, r2.same S', SqT.of (S' _ _ hg)⟩
theorem br_new {l1 l2 : Addr} {nm : Str} {ps qs : List Addr} {vars : List Var} {cs : List Tri} (po : PtOk (.br nm vars cs)) (h1 : H l1 = some (.lst (ps.map V.ref))) (r1 : RowsAt K H ps (vars.map varV)) (h2 : H l2 = some (.lst (qs.map V.ref))) (r2 : RowsAt K H qs (cs.map triV))
    (k : ∀ x H', H x = none → Same H H' → PtAt K Rl Br Mk H' x (.br nm vars cs) → R x H') :
    ∀ x dx, H x = none → H dx = none → dx ≠ x → spBar K C Br [.ref x, .str nm, .ref l1, .ref l2] (upd (upd H dx (.own x)) x (.ins Br dx [])) (fun v H3 => v = .non ∧ R x H3) E := fun x dx hx hd ne => by
  obtain ⟨ok, hn⟩ := po
  refine ⟨H, x, dx, l1, l2, nm, ps, qs, vars, cs, rfl, same_make hx hd, hx, upd_same, SqL.of h1, r1, SqL.of h2, r2, ok, fun z hz => Nat.le_trans (hn z hz).2 (by decide), dueM_all hn fun H' S' t1 t2 a1 a2 a3 => ⟨rfl, ?_⟩⟩
  exact k x H' hx S' ⟨dx, t1, t2, ps, qs, a1, SqT.of a2, r1.same S', SqT.of a3, r2.same S'⟩
theorem mk_new {l1 l2 : Addr} {mr md : Str} {ds us : List Str} (po : PtOk (.mk mr md ds us)) (h1 : H l1 = some (.lst (ds.map V.str))) (h2 : H l2 = some (.lst (us.map V.str)))
    (k : ∀ x H', H x = none → Same H H' → PtAt K Rl Br Mk H' x (.mk mr md ds us) → R x H') :
    ∀ x dx, H x = none → H dx = none → dx ≠ x → spMak K C Mk [.ref x, .str mr, .str md, .ref l1, .ref l2] (upd (upd H dx (.own x)) x (.ins Mk dx [])) (fun v H3 => v = .non ∧ R x H3) E := fun x dx hx hd ne => by
  obtain ⟨w1, w2, n1, n2, hn⟩ := po
  refine ⟨H, x, dx, l1, l2, mr, md, ds, us, rfl, same_make hx hd, hx, upd_same, SqL.of h1, SqL.of h2, by omega, by omega, w1, w2, fun z hz => Nat.le_trans (hn z hz).2 (by decide), dueM_all hn fun H' S' t1 t2 a1 a2 a3 => ⟨rfl, ?_⟩⟩
  exact k x H' hx S' ⟨dx, t1, t2, a1, a2, a3⟩
end
def spMo (K : PySem.W.Frag) (Rl Br Mk : Addr) : Sp := fun vs H Q _ => ∃ (p : Pt) (u : Addr), vs = [.str p.kind, .ref u] ∧ PtOk p ∧ DrAt K H u p ∧ ∀ x H', H x = none → Same H H' → PtAt K Rl Br Mk H' x p → Q (.ref x) H'
/-- how the three classes make their objects -/
structure Mkr (P : Program) (w : World) (K : PySem.W.Frag) (mg : Str → Option Value) (base : Heap) (C Rl Br Mk fR fB fM : Addr) (dR dB dM : FuncData) : Prop where
  TR : TxRul K mg Rl fR
  bR : Binds K dR ["self", "name", "variables", "conditions", "gives", "by"] []
  GR : FnOk P w K mg base (L2.CX P w) 6 fR dR ["self", "name", "variables", "conditions", "gives", "by"] (spRul K C Rl)
  TB : TxBar K mg Br fB
  bB : Binds K dB ["self", "name", "variables", "conditions"] []
  GB : FnOk P w K mg base (L2.CX P w) 6 fB dB ["self", "name", "variables", "conditions"] (spBar K C Br)
  TM : TxMak K mg Mk fM
  bM : Binds K dM ["self", "maker", "made", "down", "up"] []
  GM : FnOk P w K mg base (L2.CX P w) 5 fM dM ["self", "maker", "made", "down", "up"] (spMak K C Mk)
section
variable {P : Program} {w : World} {K : PySem.W.Frag} {mg : Str → Option Value} {base : Heap}
theorem scMo : FnScope ["kind", "draft"] ["kind", "draft"] (defScope sMo) := ⟨rfl, rfl, rfl, by decide +kernel, rfl, by decide +kernel, by decide +kernel⟩
theorem ok_mo {f C Rl Br Mk fR fB fM : Addr} {fd dR dB dM : FuncData} (F : Fun K "made_of" "made_of" sMo f fd) (M : Mkr P w K mg base C Rl Br Mk fR fB fM dR dB dM) : FnOk P w K mg base CX0 8 f fd ["kind", "draft"] (spMo K Rl Br Mk) := by
  obtain ⟨TR, bR, GR, TB, bB, GB, TM, bM, GM⟩ := M
  refine F.ok scMo (fun vs H Q E h => ?_) (fun cdv A outer s H vs Q E hr h => ?_)
  · obtain ⟨p, u, rfl, _⟩ := h
    rfl
  · obtain ⟨p, u, rfl, po, dr, k⟩ := h
    have hr7 : Room 7 _ := hr
    have hr6 : Room 6 _ := hr.mono (by decide)
    refine ⟨_, (pss_cons (ps_if (pt_cmpR op_eq (pv 0) pe_str (nomark _)) (pss_one (ps_ret (pe_makeSt TR.m GR hr7 rfl TR.g bR passL (pv 1)))) pss_nil)
      (pss_cons (ps_if (pt_cmpR op_eq (pv 0) pe_str (nomark _)) (pss_one (ps_ret (pe_makeSt TB.m GB hr7 rfl TB.g bB passL (pv 1)))) pss_nil)
      (pss_one (ps_ret (pe_makeSt TM.m GM hr6 rfl TM.g bM passL (pv 1)))))), ?_⟩
    cases p with
    | rl nm vars cs g b =>
      obtain ⟨lv, lc, tg, ps, qs, a, b', c, d, e, f'⟩ := dr
      refine ⟨_, rfl, rfl, _, rfl, ?_⟩
      refine iteT ?_
      exact ⟨_, rfl, u, _, rfl, .inl (SqT.of a), rl_new po c d e f' b' k⟩
    | br nm vars cs =>
      obtain ⟨lv, lc, ps, qs, a, c, d, e, f'⟩ := dr
      refine ⟨_, rfl, rfl, _, rfl, ?_⟩
      refine iteF ?_
      refine ⟨_, rfl, rfl, _, rfl, ?_⟩
      refine iteT ?_
      exact ⟨_, rfl, u, _, rfl, .inl (SqT.of a), br_new po c d e f' k⟩
    | mk mr md ds us =>
      obtain ⟨ld, lu, a, b, c⟩ := dr
      refine ⟨_, rfl, rfl, _, rfl, ?_⟩
      refine iteF ?_
      refine ⟨_, rfl, rfl, _, rfl, ?_⟩
      refine iteF ?_
      exact ⟨_, rfl, u, _, rfl, .inl (SqT.of a), mk_new po b c k⟩
end
end Wm
namespace Wm
open PySem L2 StX
theorem pick_q {K : PySem.W.Frag} {p q r l : Addr} {n : Nat} {zs : List Str} {H : Hp} {R : VK} {E : XK} (hl : H l = some (.lst (zs.map V.str))) (np : l ≠ p) (nq : l ≠ q) (ne : zs ≠ []) (l60 : zs.length ≤ 60) (hP : PotAt H p q r n) (hn : n ≤ 90000) (k : ∀ z H', z ∈ zs → Bt p q H H' → PotAt H' p q r (n + 1) → R (.str z) H') :
    spTak [.ref p, .int ((zs.map V.str).length : Nat)] H (fun v H' => rIxL K (.ref l) v H' R) E := by
  have l0 : 0 < zs.length := List.length_pos_iff.mpr ne
  have e : (zs.map V.str).length = zs.length := List.length_map ..
  refine ⟨p, q, r, n, _, rfl, hP, by omega, by omega, by omega, fun d H' d0 d1 B P' => ?_⟩
  obtain ⟨g, rfl⟩ : ∃ g : Nat, d = (g : Int) := ⟨d.toNat, by omega⟩
  have gl : g < zs.length := by omega
  exact rdList (B _ _ np nq hl) (j := g) (v := .str (zs[g]'gl)) rfl (by rw [List.getElem?_map, List.getElem?_eq_getElem gl]; rfl) (k _ H' (List.getElem_mem gl) B P')
theorem sm_of {nm : Str} {vars : List Var} {cs gs : List Tri} {hs : List Str} (p : PatOk vars cs gs hs) (h : ∀ z ∈ textsL nm vars (cs ++ gs), Nz z) : SmP vars cs := by
  have hv := vr_ok h
  have ht := (tr_ok p h).1
  have s : ∀ {z : Str}, Nz z → Sm z := fun h => Nat.le_trans h.2 (by decide)
  refine ⟨fun v m => ⟨s (hv v m).1, fun z e => s ((hv v m).2 z e)⟩, fun t m => ?_, p.v4, p.c3⟩
  have o := ht t (List.mem_append_left _ m)
  exact ⟨s o.a, s o.b, s o.c⟩
theorem row_q {p : Pt} (po : PtOk p) : (∀ z ∈ p.parts, z.length ≤ 300) ∧ p.parts.length ≤ 100 := ⟨fun z hz => Nat.le_trans ((pt_gd po).1 z hz).ln (by decide), Nat.le_trans (pt_gd po).2 (by decide)⟩
/-- sorts and words of a rule that was drawn -/
structure RlG (ss ws : List Str) (vars : List Var) (cs : List Tri) (g : Tri) : Prop where
  v : ∀ v ∈ vars, ∀ s, v.2 = some s → s ∈ ss
  c : ∀ t ∈ cs, t.2.1 ∈ ws
  g : g.2.1 ∈ ws
def spRu (K : PySem.W.Frag) : Sp := fun vs H Q _ => ∃ (p q r ls lw lt : Addr) (n : Nat) (ss ws tk : List Str), vs = [.ref p, .ref ls, .ref lw, .ref lt] ∧ PotAt H p q r n ∧ n ≤ 20000 ∧ H ls = some (.lst (ss.map V.str)) ∧ ls ≠ p ∧ ls ≠ q ∧ ss ≠ [] ∧ ss.length ≤ 60 ∧ H lw = some (.lst (ws.map V.str)) ∧ lw ≠ p ∧ lw ≠ q ∧ ws ≠ [] ∧ ws.length ≤ 60 ∧ H lt = some (.lst (tk.map V.str)) ∧ tk.length ≤ 60 ∧ lt ≠ p ∧ lt ≠ q ∧ (∀ z ∈ ss, Nz z) ∧ (∀ z ∈ ws, Nz z) ∧
  ∀ (nm : Str) (vars : List Var) (cs : List Tri) (g : Tri) (b : Str) (t : Addr) H', RlG ss ws vars cs g → nm ∉ tk → Bt p q H H' → PotAt H' p q r (n + 200) → H t = none → PtOk (.rl nm vars cs g b) → DrN K (fun a => H a = none) H' t (.rl nm vars cs g b) → Q (.ref t) H'
def spRr (K : PySem.W.Frag) : Sp := fun vs H Q _ => ∃ (nm : Str) (vars : List Var) (cs : List Tri) (g : Tri) (b : Str) (t : Addr), vs = [.ref t] ∧ PtOk (.rl nm vars cs g b) ∧ DrAt K H t (.rl nm vars cs g b) ∧ ∀ H', Same H H' → Q (.str (ptRow (.rl nm vars cs g b))) H'
def spMr (K : PySem.W.Frag) : Sp := fun vs H Q _ => ∃ (mr md : Str) (ds us : List Str) (t : Addr), vs = [.ref t] ∧ PtOk (.mk mr md ds us) ∧ DrAt K H t (.mk mr md ds us) ∧ ∀ H', Same H H' → Q (.str (ptRow (.mk mr md ds us))) H'
section
variable {P : Program} {w : World} {K : PySem.W.Frag} {mg : Str → Option Value} {base : Heap}
theorem scRu : FnScope ["_law_pot_here", "_law_sorts", "_law_words", "_law_taken", "_law_name_here", "_law_variables", "_law_conditions", "_law_names_here", "_law_one", "_law_sort", "_law_first", "_law_last", "_law_by"] ["_law_pot_here", "_law_sorts", "_law_words", "_law_taken"] (defScope sRu) := ⟨rfl, rfl, rfl, by decide +kernel, rfl, by decide +kernel, by decide +kernel⟩
theorem ok_ru' {f fT fN fP : Addr} {fd dT dN dP : FuncData} (F : Fun K "_law_rule" "_law_rule" sRu f fd) (T : TxB mg) (DT : Dn K mg "_law_take" sTak ["_law_pot_here", "_law_many"] fT dT) (GT : FnOk P w K mg base CX0 2 fT dT ["_law_pot_here", "_law_many"] spTak)
    (DNa : Dn K mg "_law_name" sNam ["_law_pot_here", "_law_taken"] fN dN) (GNa : FnOk P w K mg base CX0 4 fN dN ["_law_pot_here", "_law_taken"] spNam) (DPa : Dn K mg "_law_pattern" sPat ["_law_pot_here", "_law_sorts", "_law_words"] fP dP) (GPa : FnOk P w K mg base CX0 6 fP dP ["_law_pot_here", "_law_sorts", "_law_words"] (spPat K)) :
    FnOk P w K mg base CX0 7 f fd ["_law_pot_here", "_law_sorts", "_law_words", "_law_taken"] (spRu K) := by
  refine F.ok scRu (fun vs H Q E h => ?_) (fun cdv A outer s H vs Q E hr h => ?_)
  · obtain ⟨p, q, r, ls, lw, lt, n, ss, ws, tk, rfl, _⟩ := h
    rfl
  · obtain ⟨p, q, r, ls, lw, lt, n, ss, ws, tk, rfl, hP, hn, hls, sp, sq, s0, s60, hlw, wp, wq, w0, w60, hlt, tk60, tp, tq, okss, okw, k⟩ := h
    have hr6 : Room 6 _ := hr
    have hr4 : Room 4 _ := hr.mono (by decide)
    have hr2 : Room 2 _ := hr.mono (by decide)
    refine ⟨_, (pss_cons (ps_set (i := 4) scRu.nd rfl (Or.inl rfl) (pe_call GNa hr4 rfl DNa.g DNa.F.kp DNa.b .nil pass0 (pa_cons (pv 0) (pa_cons (pv 3) pa_nil))))
      (pss_cons (ps_asg (pe_call GPa hr6 rfl DPa.g DPa.F.kp DPa.b .nil pass0 (pa_cons (pv 0) (pa_cons (pv 1) (pa_cons (pv 2) pa_nil)))) (pg_tup rfl (pgs_cons (pg_name (i := 5) scRu.nd rfl (Or.inl rfl)) (pgs_cons (pg_name (i := 6) scRu.nd rfl (Or.inl rfl)) pgs_nil))))
      (pss_cons (ps_setLc (i := 7) (own := [("_law_one", 8), ("_law_sort", 9)]) (g := gTup K 2 (gCons (gName 8) (gCons (gName 9) gNil))) (tt := tYes) (te := (tVar 8)) rfl scRu.nd rfl rfl (sw_true rfl rfl rfl (by decide +kernel)) (pi_list (pv 5)) (blkOk_by (N := ["_law_pot_here", "_law_sorts", "_law_words", "_law_taken", "_law_name_here", "_law_variables", "_law_conditions", "_law_names_here", "_law_one", "_law_sort", "_law_first", "_law_last", "_law_by"]) (sc := defScope sRu) (by decide +kernel)) (fun _ _ _ _ _ => (pg_tup rfl (pgs_cons (pg_name (i := 8) scRu.nd rfl (Or.inl rfl)) (pgs_cons (pg_name (i := 9) scRu.nd rfl (Or.inl rfl)) pgs_nil)))) (fun _ _ _ _ _ => pts_nil) (fun _ _ _ _ _ => (pv 8)))
      (pss_cons (ps_set (i := 10) scRu.nd rfl (Or.inl rfl) (pe_ix ix_list (pv 7) (pe_call GT hr2 rfl DT.g DT.F.kp DT.b .nil pass0 (pa_cons (pv 0) (pa_cons (pe_callB call_len_seq (by rfl) T.len (by decide +kernel) (pa_cons (pv 7) pa_nil)) pa_nil))) (fun _ _ => rfl)))
      (pss_cons (ps_set (i := 11) scRu.nd rfl (Or.inl rfl) (pe_ix ix_list (pv 7) (pe_call GT hr2 rfl DT.g DT.F.kp DT.b .nil pass0 (pa_cons (pv 0) (pa_cons (pe_callB call_len_seq (by rfl) T.len (by decide +kernel) (pa_cons (pv 7) pa_nil)) pa_nil))) (fun _ _ => rfl)))
      (pss_cons (ps_set (i := 12) scRu.nd rfl (Or.inl rfl) (pe_ix ix_list (pv 7) (pe_call GT hr2 rfl DT.g DT.F.kp DT.b .nil pass0 (pa_cons (pv 0) (pa_cons (pe_callB call_len_seq (by rfl) T.len (by decide +kernel) (pa_cons (pv 7) pa_nil)) pa_nil))) (fun _ _ => rfl)))
      (pss_one (ps_ret (pe_tup (pa_cons (pv 4) (pa_cons (pv 5) (pa_cons (pv 6) (pa_cons (pe_tup (pa_cons (pv 10) (pa_cons (pe_ix ix_list (pv 2) (pe_call GT hr2 rfl DT.g DT.F.kp DT.b .nil pass0 (pa_cons (pv 0) (pa_cons (pe_callB call_len_seq (by rfl) T.len (by decide +kernel) (pa_cons (pv 2) pa_nil)) pa_nil))) (fun _ _ => rfl)) (pa_cons (pv 11) pa_nil)))) (pa_cons (pv 12) pa_nil)))))))))))))), ?_⟩
    refine ⟨_, rfl, _, rfl, p, q, r, lt, n, tk, rfl, hP, hlt, tp, tq, by omega, tk60, fun nm H1 nmP nm12 ntk B1 P1 => ?_⟩
    dsimp only [gName, List.set_cons_succ, List.set_cons_zero]
    refine ⟨_, rfl, _, rfl, _, rfl, p, q, r, ls, lw, n + 12, ss, ws, rfl, P1, by omega, B1 _ _ sp sq hls, sp, sq, s0, s60, B1 _ _ wp wq hlw, wp, wq, w0, w60, fun zs es vars ps qs t lv lc H2 eo e0 e3 znd zok vp vsok B2 P2 nt nlv nlc vlc et elv rv elc rc => ?_⟩
    refine ⟨t, _, rfl, SqT.of et, rfl, _, _, rfl, _, _, rfl, rfl, ?_⟩
    dsimp only [gName, List.set_cons_succ, List.set_cons_zero]
    have nlv2 := P1.ne nlv
    have nlc2 := P1.ne nlc
    have pl : ps.length = vars.length := by
      have := rv.len
      rw [List.length_map] at this
      exact this
    have zl : vars.length = zs.length := by
      have := vp.length_eq
      rw [List.length_map] at this
      exact this
    have z4 := eo.c4
    have z1 := eo.c1
    refine ⟨_, rfl, lv, rfl, ⟨_, SqL.of elv⟩, fun D hD => ?_⟩
    refine lc_list (K := K) (a := lv) (xs := ps.map V.ref) (fun i H' => Same H2 H' ∧ H' D = some (.lst (((vars.take i).map (·.1)).map V.str))) ⟨Same.upd hD, upd_same⟩ (fun i H' _ pp => SqL.of (pp.1 _ _ elv)) ?_ ?_
    · rintro i y H8 hi ⟨T8, hD8⟩
      obtain ⟨a, ha, rfl⟩ := map_ref_get hi
      obtain ⟨vr, hvr, hsq⟩ := (rv.same T8).get ha
      obtain ⟨v, hv, rfl⟩ := var_get hvr
      have il : i < vars.length := (List.getElem?_eq_some_iff.mp hv).1
      refine ⟨a, _, rfl, hsq, rfl, _, _, rfl, _, _, rfl, rfl, ?_⟩
      refine ⟨rfl, _, rfl, _, hD8, ?_, fun b o w => ?_, ?_⟩
      · rw [List.length_map, List.length_map]
        exact Nat.lt_of_le_of_lt (show _ ≤ 1000 by rw [List.length_take]; omega) (by decide)
      · rw [upd_ne (ne_of_none w hD)]
        exact T8 _ _ w
      · rw [upd_same, List.take_add_one, hv, List.map_append, List.map_append]
        rfl
    rintro H8 ⟨T8, hD8⟩
    rw [List.length_map, pl, List.take_length] at hD8
    have hDn := P2.ne hD
    have P8 := P2.same T8
    have n0 : vars.map (·.1) ≠ [] := fun e => by
      have := congrArg List.length e
      rw [List.length_map, List.length_nil] at this
      omega
    have n60 : (vars.map (·.1)).length ≤ 60 := by
      rw [List.length_map]
      omega
    dsimp only [gName, List.set_cons_succ, List.set_cons_zero]
    refine ⟨_, rfl, _, rfl, _, rfl, D, _, rfl, .inl (SqL.of hD8), pick_q (E := E0) hD8 hDn.1 hDn.2.1 n0 n60 P8 (by omega) fun g1 H3 m1 B3 P3 => ?_⟩
    dsimp only [gName, List.set_cons_succ, List.set_cons_zero]
    have hD3 := B3 _ _ hDn.1 hDn.2.1 hD8
    refine ⟨_, rfl, _, rfl, _, rfl, D, _, rfl, .inl (SqL.of hD3), pick_q (E := E0) hD3 hDn.1 hDn.2.1 n0 n60 P3 (by omega) fun g2 H4 m2 B4 P4 => ?_⟩
    dsimp only [gName, List.set_cons_succ, List.set_cons_zero]
    have hD4 := B4 _ _ hDn.1 hDn.2.1 hD3
    refine ⟨_, rfl, _, rfl, _, rfl, D, _, rfl, .inl (SqL.of hD4), pick_q (E := E0) hD4 hDn.1 hDn.2.1 n0 n60 P4 (by omega) fun b H5 mb B5 P5 => ?_⟩
    dsimp only [gName, List.set_cons_succ, List.set_cons_zero]
    have B25 : Bt p q H2 H5 := (Same.bt T8).trans ((B3.trans B4).trans B5)
    have hlw5 : H5 lw = some (.lst (ws.map V.str)) := B25 _ _ wp wq (B2 _ _ wp wq (B1 _ _ wp wq hlw))
    refine ⟨_, rfl, _, rfl, _, rfl, _, rfl, _, rfl, _, rfl, _, rfl, lw, _, rfl, .inl (SqL.of hlw5), pick_q (E := E0) hlw5 wp wq w0 w60 P5 (by omega) fun wd H6 mw B6 P6 => ?_⟩
    refine ⟨_, rfl, by show 3 ≤ sizeLine; decide, fun tg ntg => ?_⟩
    have S7 : Same H6 (upd H6 tg (.tup [.str g1, .str wd, .str g2])) := Same.upd ntg
    have e7 : (upd H6 tg (.tup [.str g1, .str wd, .str g2])) tg = some (.tup (triV (g1, wd, g2))) := upd_same
    generalize upd H6 tg (.tup [.str g1, .str wd, .str g2]) = H7 at S7 e7
    refine ⟨_, rfl, by show 5 ≤ sizeLine; decide, fun tt ntt => ?_⟩
    have S9 : Same H7 (upd H7 tt (.tup [.str nm, .ref lv, .ref lc, .ref tg, .str b])) := Same.upd ntt
    have B26 := B25.trans B6
    have S79 := S7.trans S9
    have mz : ∀ z, z ∈ vars.map (·.1) → z ∈ zs := fun z hz => vp.mem_iff.mp hz
    have P7 := P6.same S79
    have Ball : Bt p q H (upd H7 tt (.tup [.str nm, .ref lv, .ref lc, .ref tg, .str b])) := (B1.trans (B2.trans B26)).trans (Same.bt S79)
    have nb1 : ∀ a, a ≠ p → a ≠ q → H1 a = none → H a = none := fun a n1 n2 h => B1.free n1 n2 h
    have ttn : H tt = none := (B1.trans (B2.trans B26)).free (P6.ne (S7.free ntt)).1 (P6.ne (S7.free ntt)).2.1 (S7.free ntt)
    refine k nm vars (csOf zs es) (g1, wd, g2) b tt _ ⟨vsok, fun t ht => (by obtain ⟨e, he, rfl⟩ := List.mem_map.mp ht; exact (eo.el e he).2.2), mw⟩ ntk Ball (P7.mono (by omega)) ttn ⟨pat_ok eo e0 e3 znd vp (Nat.le_refl _) (Nat.le_refl _) ?_, fun z hz => ?_⟩ ⟨lv, lc, tg, ps, qs, ⟨nb1 _ nlv2.1 nlv2.2.1 nlv, nb1 _ nlc2.1 nlc2.2.1 nlc⟩, upd_same, S9 _ _ e7, S79 _ _ (B26 _ _ nlv2.1 nlv2.2.1 elv), (bt_rows B26 P2 rv).same S79, S79 _ _ (B26 _ _ nlc2.1 nlc2.2.1 elc), (bt_rows B26 P2 rc).same S79⟩
    · intro z hz
      have hz : z ∈ [g1, g2] ++ [b] := hz
      simp only [List.mem_append, List.mem_cons, List.not_mem_nil, or_false] at hz
      rcases hz with (rfl | rfl) | rfl
      · exact mz _ m1
      · exact mz _ m2
      · exact mz _ mb
    · rcases List.mem_append.mp hz with hz | hz
      · rcases List.mem_cons.mp hz with rfl | hz
        · exact ⟨nmP, nm12⟩
        · obtain ⟨v, hv, hz⟩ := List.mem_flatMap.mp hz
          rcases List.mem_cons.mp hz with rfl | hz
          · exact zok _ (mz _ (List.mem_map.mpr ⟨v, hv, rfl⟩))
          · exact okss _ (vsok v hv z (by cases e : v.2 <;> simp_all))
      · obtain ⟨c, hc, rfl⟩ := List.mem_map.mp hz
        rcases List.mem_append.mp hc with hc | hc
        · obtain ⟨e, he, rfl⟩ := List.mem_map.mp hc
          exact okw _ (eo.el e he).2.2
        · rw [List.mem_singleton.mp hc]
          exact okw _ mw
theorem scRr : FnScope ["_law_rule_here", "_law_name_here", "_law_variables", "_law_conditions", "_law_gives", "_law_by", "_law_parts"] ["_law_rule_here"] (defScope sRr) := ⟨rfl, rfl, rfl, by decide +kernel, rfl, by decide +kernel, by decide +kernel⟩
theorem ok_rr {f fP : Addr} {fd dP : FuncData} (F : Fun K "_law_rule_row" "_law_rule_row" sRr f fd) (T : TxB mg) (tlist : mg "list" = none) (DPp : Dn K mg "_law_pattern_parts" sPpt ["_law_kind", "_law_name_here", "_law_variables", "_law_conditions"] fP dP) (GPp : FnOk P w K mg base CX0 1 fP dP ["_law_kind", "_law_name_here", "_law_variables", "_law_conditions"] (spPpt K)) :
    FnOk P w K mg base CX0 2 f fd ["_law_rule_here"] (spRr K) := by
  refine F.ok scRr (fun vs H Q E h => ?_) (fun cdv A outer s H vs Q E hr h => ?_)
  · obtain ⟨nm, vars, cs, g, b, t, rfl, _⟩ := h
    rfl
  · obtain ⟨nm, vars, cs, g, b, t, rfl, po, ⟨lv, lc, tg, ps, qs, a1, a2, a3, a4, a5, a6⟩, k⟩ := h
    have hr1 : Room 1 _ := hr
    obtain ⟨q1, q2⟩ := row_q po
    refine ⟨_, (pss_cons (ps_asg (pv 0) (pg_tup rfl (pgs_cons (pg_name (i := 1) scRr.nd rfl (Or.inl rfl)) (pgs_cons (pg_name (i := 2) scRr.nd rfl (Or.inl rfl)) (pgs_cons (pg_name (i := 3) scRr.nd rfl (Or.inl rfl)) (pgs_cons (pg_name (i := 4) scRr.nd rfl (Or.inl rfl)) (pgs_cons (pg_name (i := 5) scRr.nd rfl (Or.inl rfl)) pgs_nil)))))))
      (pss_cons (ps_set (i := 6) scRr.nd rfl (Or.inl rfl) (pe_call GPp hr1 rfl DPp.g DPp.F.kp DPp.b .nil pass0 (pa_cons pe_str (pa_cons (pv 1) (pa_cons (pv 2) (pa_cons (pv 3) pa_nil))))))
      (pss_one (ps_ret (pe_join pe_str (pe_op op_cat (pe_op op_cat (pe_op op_cat (pv 6) (pe_lst (pa_cons pe_str pa_nil))) (pe_callTy call_list_of (by rfl) tlist (by decide +kernel) (pa_cons (pv 4) pa_nil))) (pe_lst (pa_cons pe_str (pa_cons (pv 5) pa_nil))))))))), ?_⟩
    refine ⟨_, rfl, t, _, rfl, SqT.of a1, rfl, _, _, rfl, _, _, rfl, _, _, rfl, _, _, rfl, _, _, rfl, rfl, ?_⟩
    dsimp only [gName, List.set_cons_succ, List.set_cons_zero]
    refine ⟨_, rfl, _, rfl, _, rfl, "rule", nm, lv, lc, ps, qs, vars, cs, rfl, a3, a4, a5, a6, sm_of po.1 po.2, po.1.v4, po.1.c3, fun d H1 nd S1 e1 => ?_⟩
    dsimp only [gName, List.set_cons_succ, List.set_cons_zero]
    have pl := rowP_len "rule" nm vars cs (rlT g b)
    have pl2 : (partsL "rule" nm vars cs).length = 2 + vars.length + 4 * cs.length := by
      have := rowP_len "rule" nm vars cs []
      unfold rowP at this
      rw [List.append_nil] at this
      exact this
    have v4 := po.1.v4
    have c3 := po.1.c3
    refine ⟨⟨_, rfl⟩, _, rfl, by show 1 ≤ sizeLine; decide, fun l2 n2 => ?_⟩
    have S2 : Same H1 (upd H1 l2 (.lst [.str ">"])) := Same.upd n2
    have e2 : (upd H1 l2 (.lst [.str ">"])) l2 = some (.lst [.str ">"]) := upd_same
    generalize upd H1 l2 (.lst [.str ">"]) = H2 at S2 e2
    refine ⟨d, l2, _, _, rfl, rfl, S2 _ _ e1, e2, ?_, fun l3 n3 => ?_⟩
    · rw [List.length_map, pl2]
      exact Nat.le_trans (show _ ≤ 1000 by show 2 + vars.length + 4 * cs.length + 1 ≤ 1000; omega) (by decide)
    have S3 := Same.upd (o := .lst ((partsL "rule" nm vars cs).map V.str ++ [.str ">"])) n3
    have e3 : (upd H2 l3 (.lst ((partsL "rule" nm vars cs).map V.str ++ [.str ">"]))) l3 = _ := upd_same
    generalize upd H2 l3 (.lst ((partsL "rule" nm vars cs).map V.str ++ [.str ">"])) = H3 at S3 e3
    have S13 := S2.trans S3
    refine ⟨_, rfl, tg, _, rfl, .inr (SqT.of (S13 _ _ (S1 _ _ a2))), fun l4 n4 => ?_⟩
    have S4 := Same.upd (o := .lst (triV g)) n4
    have e4 : (upd H3 l4 (.lst (triV g))) l4 = _ := upd_same
    generalize upd H3 l4 (.lst (triV g)) = H4 at S4 e4
    refine ⟨l3, l4, _, _, rfl, rfl, S4 _ _ e3, e4, ?_, fun l5 n5 => ?_⟩
    · rw [List.length_append, List.length_map, pl2]
      exact Nat.le_trans (show _ ≤ 1000 by show 2 + vars.length + 4 * cs.length + 1 + 3 ≤ 1000; omega) (by decide)
    have S5 := Same.upd (o := .lst ((partsL "rule" nm vars cs).map V.str ++ [.str ">"] ++ triV g)) n5
    have e5 : (upd H4 l5 (.lst ((partsL "rule" nm vars cs).map V.str ++ [.str ">"] ++ triV g))) l5 = _ := upd_same
    generalize upd H4 l5 (.lst ((partsL "rule" nm vars cs).map V.str ++ [.str ">"] ++ triV g)) = H5 at S5 e5
    refine ⟨_, rfl, by show 2 ≤ sizeLine; decide, fun l6 n6 => ?_⟩
    have S6 := Same.upd (o := .lst [.str "by", .str b]) n6
    have e6 : (upd H5 l6 (.lst [.str "by", .str b])) l6 = _ := upd_same
    generalize upd H5 l6 (.lst [.str "by", .str b]) = H6 at S6 e6
    refine ⟨l5, l6, _, _, rfl, rfl, S6 _ _ e5, e6, ?_, fun l7 n7 => ?_⟩
    · rw [List.length_append, List.length_append, List.length_map, pl2]
      exact Nat.le_trans (show _ ≤ 1000 by show 2 + vars.length + 4 * cs.length + 1 + 3 + 2 ≤ 1000; omega) (by decide)
    have ee : (partsL "rule" nm vars cs).map V.str ++ [.str ">"] ++ triV g ++ [.str "by", .str b] = (Pt.parts (.rl nm vars cs g b)).map V.str := by
      show _ = (partsL "rule" nm vars cs ++ rlT g b).map V.str
      rw [List.map_append, List.append_assoc, List.append_assoc]
      rfl
    rw [ee]
    have S7 := Same.upd (o := .lst ((Pt.parts (.rl nm vars cs g b)).map V.str)) n7
    exact ⟨_, l7, _, rfl, rfl, .inl (SqL.of upd_same), join_ok q1 q2, k _ ((S1.trans S13).trans (S4.trans (S5.trans (S6.trans S7))))⟩
theorem scMr : FnScope ["_law_making", "_law_maker", "_law_made_here", "_law_down", "_law_up"] ["_law_making"] (defScope sMr) := ⟨rfl, rfl, rfl, by decide +kernel, rfl, by decide +kernel, by decide +kernel⟩
theorem ok_mr {f : Addr} {fd : FuncData} (F : Fun K "_law_making_row" "_law_making_row" sMr f fd) : FnOk P w K mg base CX0 1 f fd ["_law_making"] (spMr K) := by
  refine F.ok scMr (fun vs H Q E h => ?_) (fun cdv A outer s H vs Q E hr h => ?_)
  · obtain ⟨mr, md, ds, us, t, rfl, _⟩ := h
    rfl
  · obtain ⟨mr, md, ds, us, t, rfl, po, ⟨ld, lu, a1, a2, a3⟩, k⟩ := h
    obtain ⟨q1, q2⟩ := row_q po
    obtain ⟨_, _, d20, u20, _⟩ := po
    refine ⟨_, (pss_cons (ps_asg (pv 0) (pg_tup rfl (pgs_cons (pg_name (i := 1) scMr.nd rfl (Or.inl rfl)) (pgs_cons (pg_name (i := 2) scMr.nd rfl (Or.inl rfl)) (pgs_cons (pg_name (i := 3) scMr.nd rfl (Or.inl rfl)) (pgs_cons (pg_name (i := 4) scMr.nd rfl (Or.inl rfl)) pgs_nil))))))
      (pss_one (ps_ret (pe_join pe_str (pe_op op_cat (pe_op op_cat (pe_op op_cat (pe_lst (pa_cons pe_str (pa_cons (pv 1) (pa_cons (pv 2) (pa_cons pe_str pa_nil))))) (pv 3)) (pe_lst (pa_cons pe_str pa_nil))) (pv 4)))))), ?_⟩
    refine ⟨_, rfl, t, _, rfl, SqT.of a1, rfl, _, _, rfl, _, _, rfl, _, _, rfl, _, _, rfl, rfl, ?_⟩
    dsimp only [gName, List.set_cons_succ, List.set_cons_zero]
    refine ⟨⟨_, rfl⟩, _, rfl, _, rfl, by show 4 ≤ sizeLine; decide, fun l1 n1 => ?_⟩
    have S1 := Same.upd (o := .lst [.str "making", .str mr, .str md, .str ">"]) n1
    have e1 : (upd H l1 (.lst [.str "making", .str mr, .str md, .str ">"])) l1 = _ := upd_same
    generalize upd H l1 (.lst [.str "making", .str mr, .str md, .str ">"]) = H1 at S1 e1
    refine ⟨_, rfl, l1, ld, _, _, rfl, rfl, e1, S1 _ _ a2, ?_, fun l2 n2 => ?_⟩
    · rw [List.length_map]
      exact Nat.le_trans (show _ ≤ 1000 by show 4 + ds.length ≤ 1000; omega) (by decide)
    have S2 := Same.upd (o := .lst ([.str "making", .str mr, .str md, .str ">"] ++ ds.map V.str)) n2
    have e2 : (upd H1 l2 (.lst ([.str "making", .str mr, .str md, .str ">"] ++ ds.map V.str))) l2 = _ := upd_same
    generalize upd H1 l2 (.lst ([.str "making", .str mr, .str md, .str ">"] ++ ds.map V.str)) = H2 at S2 e2
    refine ⟨by show 1 ≤ sizeLine; decide, fun l3 n3 => ?_⟩
    have S3 := Same.upd (o := .lst [.str "<"]) n3
    have e3 : (upd H2 l3 (.lst [.str "<"])) l3 = _ := upd_same
    generalize upd H2 l3 (.lst [.str "<"]) = H3 at S3 e3
    refine ⟨l2, l3, _, _, rfl, rfl, S3 _ _ e2, e3, ?_, fun l4 n4 => ?_⟩
    · rw [List.length_append, List.length_map]
      exact Nat.le_trans (show _ ≤ 1000 by show 4 + ds.length + 1 ≤ 1000; omega) (by decide)
    have S4 := Same.upd (o := .lst ([.str "making", .str mr, .str md, .str ">"] ++ ds.map V.str ++ [.str "<"])) n4
    have e4 : (upd H3 l4 (.lst ([.str "making", .str mr, .str md, .str ">"] ++ ds.map V.str ++ [.str "<"]))) l4 = _ := upd_same
    generalize upd H3 l4 (.lst ([.str "making", .str mr, .str md, .str ">"] ++ ds.map V.str ++ [.str "<"])) = H4 at S4 e4
    have S14 := S1.trans (S2.trans (S3.trans S4))
    refine ⟨_, rfl, l4, lu, _, _, rfl, rfl, e4, S14 _ _ a3, ?_, fun l5 n5 => ?_⟩
    · rw [List.length_append, List.length_append, List.length_map, List.length_map]
      exact Nat.le_trans (show _ ≤ 1000 by show 4 + ds.length + 1 + us.length ≤ 1000; omega) (by decide)
    have ee : [V.str "making", .str mr, .str md, .str ">"] ++ ds.map V.str ++ [.str "<"] ++ us.map V.str = (Pt.parts (.mk mr md ds us)).map V.str := by
      show _ = (([("making" : Str), mr, md, ">"] ++ ds) ++ (("<" : Str) :: us)).map V.str
      rw [List.map_append, List.map_append, List.append_assoc _ [_]]
      rfl
    rw [ee]
    have S5 := Same.upd (o := .lst ((Pt.parts (.mk mr md ds us)).map V.str)) n5
    exact ⟨_, l5, _, rfl, rfl, .inl (SqL.of upd_same), join_ok q1 q2, k _ (S14.trans S5)⟩
end
end Wm
namespace Wm
open PySem L2 StX
def VarOk (v : Var) : Prop := okS v.1 ∧ ∀ z, v.2 = some z → okS z
def TriOk (t : Tri) : Prop := okS t.1 ∧ okS t.2.1 ∧ okS t.2.2

/-- data that may be compared, of at most so many layers -/
def ShN (n : Nat) (d : PyData) : Prop := d.canLay0 = true ∧ d.depth ≤ n
theorem shn_all {n : Nat} : ∀ {ds : List PyData}, (∀ d ∈ ds, ShN n d) → PyData.canLayAll0 ds = true ∧ PyData.depthAll ds ≤ n
  | [], _ => by simp [PyData.canLayAll0, PyData.depthAll]
  | d :: ds, h => by
    obtain ⟨a, b⟩ := h d List.mem_cons_self
    obtain ⟨h2, h3⟩ := shn_all (ds := ds) fun y hy => h y (List.mem_cons_of_mem _ hy)
    refine ⟨by simp only [PyData.canLayAll0, a, h2, Bool.and_self], ?_⟩
    simp only [PyData.depthAll]
    omega
theorem ShN.tup {n : Nat} {ds : List PyData} (h : ∀ d ∈ ds, ShN n d) : ShN (n + 1) (.tuple ds) := by
  obtain ⟨a, b⟩ := shn_all h
  refine ⟨by simp only [PyData.canLay0, a], ?_⟩
  simp only [PyData.depth]
  omega
theorem ShN.lst {n : Nat} {ds : List PyData} (h : ∀ d ∈ ds, ShN n d) : ShN (n + 1) (.list ds) := by
  obtain ⟨a, b⟩ := shn_all h
  refine ⟨by simp only [PyData.canLay0, a], ?_⟩
  simp only [PyData.depth]
  omega
theorem ShN.mono {n m : Nat} {d : PyData} (h : ShN n d) (l : n ≤ m) : ShN m d := ⟨h.1, Nat.le_trans h.2 l⟩
theorem ShN.sh {n : Nat} {d : PyData} (h : ShN n d) (l : n ≤ 64) : SeqAt.shaped d = true := by
  obtain ⟨a, b⟩ := h
  simp [SeqAt.shaped, a]
  omega
theorem ShN.str {z : Str} (h : okS z) : ShN 0 (.str z) := ⟨by simp only [PyData.canLay0, strOk_of h], by simp [PyData.depth]⟩
theorem ShN.strs {zs : List Str} (h : ∀ z ∈ zs, okS z) : ∀ d ∈ zs.map PyData.str, ShN 0 d := fun d hd => by
  obtain ⟨z, hz, rfl⟩ := List.mem_map.mp hd
  exact .str (h z hz)
theorem ShN.non : ShN 0 .none := ⟨by simp only [PyData.canLay0], by simp [PyData.depth]⟩
theorem var_shn {v : Var} (h : VarOk v) : ShN 1 (.tuple (varD v)) := .tup fun d hd => by
  obtain ⟨n, s⟩ := v
  rcases List.mem_cons.mp hd with rfl | hd
  · exact .str h.1
  · rw [List.mem_singleton.mp hd]
    cases s with
    | none => exact .non
    | some s => exact .str (h.2 s rfl)
theorem tri_shn {t : Tri} (h : TriOk t) : ShN 1 (.tuple (triD t)) := .tup fun d hd => by
  simp only [triD, List.mem_cons, List.not_mem_nil, or_false] at hd
  rcases hd with rfl | rfl | rfl
  · exact .str h.1
  · exact .str h.2.1
  · exact .str h.2.2
theorem vars_shn {vs : List Var} (h : ∀ v ∈ vs, VarOk v) : ∀ d ∈ (vs.map varD).map PyData.tuple, ShN 1 d := fun d hd => by
  obtain ⟨e, he, rfl⟩ := List.mem_map.mp hd
  obtain ⟨v, hv, rfl⟩ := List.mem_map.mp he
  exact var_shn (h v hv)
theorem tris_shn {vs : List Tri} (h : ∀ v ∈ vs, TriOk v) : ∀ d ∈ (vs.map triD).map PyData.tuple, ShN 1 d := fun d hd => by
  obtain ⟨e, he, rfl⟩ := List.mem_map.mp hd
  obtain ⟨v, hv, rfl⟩ := List.mem_map.mp he
  exact tri_shn (h v hv)
theorem eqv_self {d : PyData} (h : SeqAt.shaped d = true) : PyData.eqv d d = true := SeqAt.eqv_refl d (SeqAt.canLay_of_shaped h)
/-- what is asked of the texts of a pattern -/
structure PatSh (vars : List Var) (cs : List Tri) : Prop where
  v : ∀ v ∈ vars, VarOk v
  c : ∀ t ∈ cs, TriOk t
theorem pat_sh {nm : Str} {vars : List Var} {cs gs : List Tri} {hs : List Str} (p : PatOk vars cs gs hs) (h : ∀ z ∈ textsL nm vars (cs ++ gs), Nz z) : PatSh vars cs ∧ (∀ t ∈ gs, TriOk t) ∧ ∀ z ∈ hs, okS z := by
  have hv := vr_ok h
  obtain ⟨ht, hb⟩ := tr_ok p h
  have tk : ∀ t ∈ cs ++ gs, TriOk t := fun t m => ⟨(ht t m).a.1.ok, (ht t m).b.1.ok, (ht t m).c.1.ok⟩
  exact ⟨⟨fun v m => ⟨(hv v m).1.1.ok, fun z e => ((hv v m).2 z e).1.ok⟩, fun t m => tk t (List.mem_append_left _ m)⟩, fun t m => tk t (List.mem_append_right _ m), fun z m => (hb z m).1.ok⟩
/-- how the parts are told, and held against each other -/
structure Wst (P : Program) (w : World) (K : PySem.W.Frag) (mg : Str → Option Value) (base : Heap) (Rl Br Mk fRS fBS fMS fRE fBE fME : Addr) (dRS dBS dMS dRE dBE dME : FuncData) : Prop where
  sR : PySem.W.findIn K (.ref Rl) "__str__" = some (some (.ref fRS))
  iR : PySem.W.isFn K (.ref fRS) = true
  GRS : FnOk P w K mg base CX0 4 fRS dRS ["self"] (spRS K Rl)
  bRS : Binds K dRS ["self"] []
  sB : PySem.W.findIn K (.ref Br) "__str__" = some (some (.ref fBS))
  iB : PySem.W.isFn K (.ref fBS) = true
  GBS : FnOk P w K mg base CX0 3 fBS dBS ["self"] (spBS K Br)
  bBS : Binds K dBS ["self"] []
  sM : PySem.W.findIn K (.ref Mk) "__str__" = some (some (.ref fMS))
  iM : PySem.W.isFn K (.ref fMS) = true
  GMS : FnOk P w K mg base CX0 2 fMS dMS ["self"] (spMS K Mk)
  bMS : Binds K dMS ["self"] []
  eR : PySem.W.findIn K (.ref Rl) "__eq__" = some (some (.ref fRE))
  jR : PySem.W.isFn K (.ref fRE) = true
  GRE : FnOk P w K mg base CX0 1 fRE dRE ["self", "other"] (spRE K Rl)
  bRE : Binds K dRE ["self", "other"] []
  eB : PySem.W.findIn K (.ref Br) "__eq__" = some (some (.ref fBE))
  jB : PySem.W.isFn K (.ref fBE) = true
  GBE : FnOk P w K mg base CX0 1 fBE dBE ["self", "other"] (spBE K Br)
  bBE : Binds K dBE ["self", "other"] []
  eM : PySem.W.findIn K (.ref Mk) "__eq__" = some (some (.ref fME))
  jM : PySem.W.isFn K (.ref fME) = true
  GME : FnOk P w K mg base CX0 1 fME dME ["self", "other"] (spME K Mk)
  bME : Binds K dME ["self", "other"] []
  tyR : ∀ {H : Hp} {a dx : Addr} {fs : List (Str × V)}, H a = some (.ins Rl dx fs) → TyX K H (.ref a) (.ref Rl)
  tyB : ∀ {H : Hp} {a dx : Addr} {fs : List (Str × V)}, H a = some (.ins Br dx fs) → TyX K H (.ref a) (.ref Br)
  tyM : ∀ {H : Hp} {a dx : Addr} {fs : List (Str × V)}, H a = some (.ins Mk dx fs) → TyX K H (.ref a) (.ref Mk)
  kRR : PySem.W.kitOne K (.ref Rl) (.ref Rl) = some true
  kBB : PySem.W.kitOne K (.ref Br) (.ref Br) = some true
  kMM : PySem.W.kitOne K (.ref Mk) (.ref Mk) = some true
  kRB : PySem.W.kitOne K (.ref Rl) (.ref Br) = some false
  kBR : PySem.W.kitOne K (.ref Br) (.ref Rl) = some false
  nRR : PySem.W.notFirst K Rl (.ref Rl) = true
  nBB : PySem.W.notFirst K Br (.ref Br) = true
  nMM : PySem.W.notFirst K Mk (.ref Mk) = true
  nRB : PySem.W.notFirst K Rl (.ref Br) = true
  nBR : PySem.W.notFirst K Br (.ref Rl) = true
section
variable {K : PySem.W.Frag} {Rl Br Mk : Addr} {H : Hp} {R : VK} {x y : Addr}
theorem rows_d {t1 t2 : Addr} {ps qs : List Addr} {vars : List Var} {cs : List Tri} (s : PatSh vars cs) (a : SqT K H t1 (ps.map V.ref)) (b : RowsAt K H ps (vars.map varV)) (c : SqT K H t2 (qs.map V.ref)) (d : RowsAt K H qs (cs.map triV)) : RowsD K H t1 t2 vars cs :=
  ⟨⟨ps, qs, a, b, c, d⟩, ShN.sh (ShN.tup (vars_shn s.v)) (by decide), ShN.sh (ShN.tup (tris_shn s.c)) (by decide)⟩
theorem eq_rl {nm b : Str} {vars : List Var} {cs : List Tri} {g : Tri} (ty : TyX K H (.ref y) (.ref Rl)) (nf : PySem.W.notFirst K Rl (.ref Rl) = true) (po : PtOk (.rl nm vars cs g b)) (hx : PtAt K Rl Br Mk H x (.rl nm vars cs g b)) (hy : PtAt K Rl Br Mk H y (.rl nm vars cs g b)) (k : R (.bl true) H) : rEqO K Rl (spRE K Rl) (.ref x) (.ref y) H R := by
  obtain ⟨dx, t1, t2, t3, ps, qs, a1, a2, a3, a4, a5, a6⟩ := hx
  obtain ⟨dy, s1, s2, s3, us, vs, b1, b2, b3, b4, b5, b6⟩ := hy
  obtain ⟨sh, shg, _⟩ := pat_sh po.1 po.2
  have rx := rows_d sh a2 a3 a4 a5
  have ry := rows_d sh b2 b3 b4 b5
  have sg : SeqAt.shaped (.tuple (triD g)) = true := (tri_shn (shg g (by simp))).sh (by decide)
  refine ⟨x, y, Rl, dx, dy, _, _, rfl, rfl, a1, b1, nf, x, y, rfl, .inl ⟨dx, dy, t1, t2, t3, s1, s2, s3, nm, nm, b, b, vars, vars, cs, cs, g, g, a1, b1, ty, rx, ry, a6, b6, sg, sg, true, ?_, k⟩⟩
  unfold sameR
  rw [eqv_self rx.s1, eqv_self rx.s2, eqv_self sg, decide_eq_true rfl, decide_eq_true rfl]
  rfl
theorem eq_br {nm : Str} {vars : List Var} {cs : List Tri} (ty : TyX K H (.ref y) (.ref Br)) (nf : PySem.W.notFirst K Br (.ref Br) = true) (po : PtOk (.br nm vars cs)) (hx : PtAt K Rl Br Mk H x (.br nm vars cs)) (hy : PtAt K Rl Br Mk H y (.br nm vars cs)) (k : R (.bl true) H) : rEqO K Br (spBE K Br) (.ref x) (.ref y) H R := by
  obtain ⟨dx, t1, t2, ps, qs, a1, a2, a3, a4, a5⟩ := hx
  obtain ⟨dy, s1, s2, us, vs, b1, b2, b3, b4, b5⟩ := hy
  obtain ⟨sh, _, _⟩ := pat_sh (gs := []) po.1 (by rw [List.append_nil]; exact po.2)
  have rx := rows_d sh a2 a3 a4 a5
  have ry := rows_d sh b2 b3 b4 b5
  refine ⟨x, y, Br, dx, dy, _, _, rfl, rfl, a1, b1, nf, x, y, rfl, .inl ⟨dx, dy, t1, t2, s1, s2, nm, nm, vars, vars, cs, cs, a1, b1, ty, rx, ry, true, ?_, k⟩⟩
  unfold sameB
  rw [eqv_self rx.s1, eqv_self rx.s2, decide_eq_true rfl]
  rfl
theorem eq_mk {mr md : Str} {ds us : List Str} (ty : TyX K H (.ref y) (.ref Mk)) (nf : PySem.W.notFirst K Mk (.ref Mk) = true) (po : PtOk (.mk mr md ds us)) (hx : PtAt K Rl Br Mk H x (.mk mr md ds us)) (hy : PtAt K Rl Br Mk H y (.mk mr md ds us)) (k : R (.bl true) H) : rEqO K Mk (spME K Mk) (.ref x) (.ref y) H R := by
  obtain ⟨dx, t1, t2, a1, a2, a3⟩ := hx
  obtain ⟨dy, s1, s2, b1, b2, b3⟩ := hy
  obtain ⟨_, _, _, _, hn⟩ := po
  have o1 : ∀ z ∈ ds, okS z := fun z m => (hn z (by simp [m])).1.ok
  have o2 : ∀ z ∈ us, okS z := fun z m => (hn z (by simp [m])).1.ok
  refine ⟨x, y, Mk, dx, dy, _, _, rfl, rfl, a1, b1, nf, x, y, mr, md, ds, us, rfl, ⟨⟨dx, t1, t2, a1, a2, a3⟩, o1, o2⟩, .inl ⟨mr, md, ds, us, ty, ⟨⟨dy, s1, s2, b1, b2, b3⟩, o1, o2⟩, true, ?_, k⟩⟩
  unfold sameM
  have e : ∀ zs : List Str, eqS zs zs = true := fun zs => (eqvAll_strs zs zs).trans (decide_eq_true rfl)
  rw [e, e, decide_eq_true rfl, decide_eq_true rfl]
  rfl
theorem ne_rb {nm b nm' : Str} {vars vars' : List Var} {cs cs' : List Tri} {g : Tri} (ty : ∀ {a dx : Addr} {fs : List (Str × V)}, H a = some (.ins Br dx fs) → TyX K H (.ref a) (.ref Br)) (nf : PySem.W.notFirst K Rl (.ref Br) = true) (kf : PySem.W.kitOne K (.ref Br) (.ref Rl) = some false) (hx : PtAt K Rl Br Mk H x (.rl nm vars cs g b)) (hy : PtAt K Rl Br Mk H y (.br nm' vars' cs')) (k : R (.bl false) H) : rEqO K Rl (spRE K Rl) (.ref x) (.ref y) H R := by
  obtain ⟨dx, t1, t2, t3, ps, qs, a1, a2, a3, a4, a5, a6⟩ := hx
  obtain ⟨dy, s1, s2, us, vs, b1, b2, b3, b4, b5⟩ := hy
  exact ⟨x, y, Br, dx, dy, _, _, rfl, rfl, a1, b1, nf, x, y, rfl, .inr ⟨Br, ty b1, kf, false, rfl, k⟩⟩
theorem ne_br {nm b nm' : Str} {vars vars' : List Var} {cs cs' : List Tri} {g : Tri} (ty : ∀ {a dx : Addr} {fs : List (Str × V)}, H a = some (.ins Rl dx fs) → TyX K H (.ref a) (.ref Rl)) (nf : PySem.W.notFirst K Br (.ref Rl) = true) (kf : PySem.W.kitOne K (.ref Rl) (.ref Br) = some false) (hx : PtAt K Rl Br Mk H x (.rl nm vars cs g b)) (hy : PtAt K Rl Br Mk H y (.br nm' vars' cs')) (k : R (.bl false) H) : rEqO K Br (spBE K Br) (.ref y) (.ref x) H R := by
  obtain ⟨dx, t1, t2, t3, ps, qs, a1, a2, a3, a4, a5, a6⟩ := hx
  obtain ⟨dy, s1, s2, us, vs, b1, b2, b3, b4, b5⟩ := hy
  exact ⟨y, x, Rl, dy, dx, _, _, rfl, rfl, b1, a1, nf, y, x, rfl, .inr ⟨Rl, ty a1, kf, false, rfl, k⟩⟩
theorem sm_n {z : Str} (h : Nz z) : Sm z := Nat.le_trans h.2 (by decide)
theorem str_rl {nm b : Str} {vars : List Var} {cs : List Tri} {g : Tri} (po : PtOk (.rl nm vars cs g b)) (hx : PtAt K Rl Br Mk H x (.rl nm vars cs g b)) (k : ∀ H', Same H H' → R (.str (ptRow (.rl nm vars cs g b))) H') : rStrO Rl (spRS K Rl) [.ref x] H R := by
  obtain ⟨dx, t1, t2, t3, ps, qs, a1, a2, a3, a4, a5, a6⟩ := hx
  obtain ⟨tk, hb⟩ := tr_ok po.1 po.2
  have tg := tk g (List.mem_append_right _ (List.mem_singleton.mpr rfl))
  exact ⟨x, dx, _, rfl, a1, nm, b, x, dx, t1, t2, t3, ps, qs, vars, cs, g, rfl, a1, a2, a3, a4, a5, a6, sm_of po.1 po.2, sm_n (po.2 _ tx_nm), sm_n (hb b (List.mem_singleton.mpr rfl)), ⟨sm_n tg.a, sm_n tg.b, sm_n tg.c⟩, fun H' S => ⟨_, rfl, k H' S⟩⟩
theorem str_br {nm : Str} {vars : List Var} {cs : List Tri} (po : PtOk (.br nm vars cs)) (hx : PtAt K Rl Br Mk H x (.br nm vars cs)) (k : ∀ H', Same H H' → R (.str (ptRow (.br nm vars cs))) H') : rStrO Br (spBS K Br) [.ref x] H R := by
  obtain ⟨dx, t1, t2, ps, qs, a1, a2, a3, a4, a5⟩ := hx
  have e : Txt.join " " (partsL "bar" nm vars cs) = ptRow (.br nm vars cs) := by
    show _ = Txt.join " " (partsL "bar" nm vars cs ++ [])
    rw [List.append_nil]
  refine ⟨x, dx, _, rfl, a1, nm, x, dx, t1, t2, ps, qs, vars, cs, rfl, a1, a2, a3, a4, a5, sm_of (gs := []) po.1 (by rw [List.append_nil]; exact po.2), sm_n (po.2 _ tx_nm), fun H' S => ⟨_, rfl, ?_⟩⟩
  rw [e]
  exact k H' S
theorem str_mk {mr md : Str} {ds us : List Str} (po : PtOk (.mk mr md ds us)) (hx : PtAt K Rl Br Mk H x (.mk mr md ds us)) (k : ∀ H', Same H H' → R (.str (ptRow (.mk mr md ds us))) H') : rStrO Mk (spMS K Mk) [.ref x] H R := by
  obtain ⟨dx, t1, t2, a1, a2, a3⟩ := hx
  obtain ⟨_, _, n1, n2, hn⟩ := po
  have e : Txt.join " " (mpL mr md ds us) = ptRow (.mk mr md ds us) := by
    have q : mpL mr md ds us = mkP "making" mr md ds us := by
      unfold mpL mkP
      rw [List.append_assoc]
      rfl
    unfold ptRow Pt.parts
    rw [q]
  refine ⟨x, dx, _, rfl, a1, mr, md, x, dx, t1, t2, ds, us, rfl, a1, SqT.of a2, SqT.of a3, n1, n2, fun z m => sm_n (hn z m), fun H' S => ⟨_, rfl, ?_⟩⟩
  rw [e]
  exact k H' S
end
end Wm
namespace Wm
open PySem L2 StX
/-! ### rows of objects -/
def AllAt {α : Type} (R : Addr → α → Prop) : List Addr → List α → Prop
  | [], [] => True
  | a :: as, x :: xs => R a x ∧ AllAt R as xs
  | _, _ => False
theorem AllAt.imp {α : Type} {R R' : Addr → α → Prop} (h : ∀ a x, R a x → R' a x) : ∀ {as : List Addr} {xs : List α}, AllAt R as xs → AllAt R' as xs
  | [], [], _ => True.intro
  | _ :: _, _ :: _, q => ⟨h _ _ q.1, AllAt.imp h q.2⟩
  | [], _ :: _, q => q.elim
  | _ :: _, [], q => q.elim
theorem AllAt.len {α : Type} {R : Addr → α → Prop} : ∀ {as : List Addr} {xs : List α}, AllAt R as xs → as.length = xs.length
  | [], [], _ => rfl
  | _ :: _, _ :: _, q => congrArg (· + 1) (AllAt.len q.2)
  | [], _ :: _, q => q.elim
  | _ :: _, [], q => q.elim
theorem AllAt.get {α : Type} {R : Addr → α → Prop} : ∀ {as : List Addr} {xs : List α} {j : Nat} {y : V}, AllAt R as xs → (as.map V.ref)[j]? = some y → ∃ a x, y = .ref a ∧ xs[j]? = some x ∧ R a x
  | a :: as, x :: xs, 0, y, h, e => ⟨a, x, (Option.some.inj e).symm, rfl, h.1⟩
  | a :: as, x :: xs, j + 1, y, h, e => by
    obtain ⟨a', x', p, q, r⟩ := AllAt.get (j := j) h.2 (by simpa using e)
    exact ⟨a', x', p, by simpa using q, r⟩
  | [], _, _, _, _, e => by simp at e
  | _ :: _, [], _, _, h, _ => h.elim
theorem AllAt.append {α : Type} {R : Addr → α → Prop} : ∀ {as bs : List Addr} {xs ys : List α}, AllAt R as xs → AllAt R bs ys → AllAt R (as ++ bs) (xs ++ ys)
  | [], _, [], _, _, q => q
  | _ :: _, _, _ :: _, _, h, q => ⟨h.1, AllAt.append h.2 q⟩
  | [], _, _ :: _, _, h, _ => h.elim
  | _ :: _, _, [], _, h, _ => h.elim
structure MkD where
  mr : Str
  md : Str
  dn : List Str
  up : List Str
structure PtD where
  nm : Str
  vars : List Var
  cs : List Tri
structure RlD where
  p : PtD
  g : Tri
  bh : Str
def MkAt (K : PySem.W.Frag) (B : Addr) (H : Hp) (a : Addr) (m : MkD) : Prop := ∃ d t1 t2, H a = some (.ins B d (makF m.mr m.md t1 t2)) ∧ SqT K H t1 (m.dn.map V.str) ∧ SqT K H t2 (m.up.map V.str)
def BrAt (K : PySem.W.Frag) (B : Addr) (H : Hp) (a : Addr) (b : PtD) : Prop := ∃ d t1 t2 ps qs, H a = some (.ins B d (barF b.nm t1 t2)) ∧ SqT K H t1 (ps.map V.ref) ∧ RowsAt K H ps (b.vars.map varV) ∧ SqT K H t2 (qs.map V.ref) ∧ RowsAt K H qs (b.cs.map triV)
def RlAt (K : PySem.W.Frag) (B : Addr) (H : Hp) (a : Addr) (r : RlD) : Prop := ∃ d t1 t2 t3 ps qs, H a = some (.ins B d (rulF r.p.nm t1 t2 t3 r.bh)) ∧ SqT K H t1 (ps.map V.ref) ∧ RowsAt K H ps (r.p.vars.map varV) ∧ SqT K H t2 (qs.map V.ref) ∧ RowsAt K H qs (r.p.cs.map triV) ∧ SqT K H t3 (triV r.g)
theorem MkAt.same {K : PySem.W.Frag} {B : Addr} {H H' : Hp} {a : Addr} {m : MkD} (s : Same H H') (h : MkAt K B H a m) : MkAt K B H' a m := by
  obtain ⟨d, t1, t2, x, y, z⟩ := h
  exact ⟨d, t1, t2, s _ _ x, same_seqT s y, same_seqT s z⟩
theorem BrAt.same {K : PySem.W.Frag} {B : Addr} {H H' : Hp} {a : Addr} {b : PtD} (s : Same H H') (h : BrAt K B H a b) : BrAt K B H' a b := by
  obtain ⟨d, t1, t2, ps, qs, x, y, z, u, v⟩ := h
  exact ⟨d, t1, t2, ps, qs, s _ _ x, same_seqT s y, z.same s, same_seqT s u, v.same s⟩
theorem RlAt.same {K : PySem.W.Frag} {B : Addr} {H H' : Hp} {a : Addr} {r : RlD} (s : Same H H') (h : RlAt K B H a r) : RlAt K B H' a r := by
  obtain ⟨d, t1, t2, t3, ps, qs, x, y, z, u, v, w⟩ := h
  exact ⟨d, t1, t2, t3, ps, qs, s _ _ x, same_seqT s y, z.same s, same_seqT s u, v.same s, same_seqT s w⟩
/-! ### pairs that do not stand twice -/
def prV (p : Str × Str) : List V := [.str p.1, .str p.2]
def prD (p : Str × Str) : PyData := .tuple [.str p.1, .str p.2]
theorem prD_eqv (a b : Str × Str) : PyData.eqv (prD a) (prD b) = decide (a = b) := by
  obtain ⟨a1, a2⟩ := a
  obtain ⟨b1, b2⟩ := b
  simp only [prD, PyData.eqv, PyData.eqvAll, Prod.mk.injEq]
  by_cases h1 : a1 = b1 <;> by_cases h2 : a2 = b2 <;> simp [h1, h2]
theorem u65 {k : Nat} {A : Around} (r : Room k A) : A.units + 65 < cLine := by
  have := r.un
  omega
theorem prs_dp {K : PySem.W.Frag} {H : Hp} : ∀ {qs : List Addr} {ps : List (Str × Str)}, RowsAt K H qs (ps.map prV) → DpAll K H (qs.map V.ref) (ps.map prD)
  | [], [], _ => .nil
  | _ :: _, _ :: _, h => .cons (.tup h.1 (.cons (.str _) (.cons (.str _) .nil))) (prs_dp h.2)
  | [], _ :: _, h => h.elim
  | _ :: _, [], h => h.elim
theorem prs_sh : ∀ {ps : List (Str × Str)}, (∀ p ∈ ps, okS p.1 ∧ okS p.2) → PyData.canLayAll0 (ps.map prD) = true ∧ PyData.depthAll (ps.map prD) ≤ 2
  | [], _ => by simp [PyData.canLayAll0, PyData.depthAll]
  | p :: r, h => by
    obtain ⟨a, b⟩ := h p List.mem_cons_self
    obtain ⟨h2, h3⟩ := prs_sh (ps := r) fun y hy => h y (List.mem_cons_of_mem _ hy)
    have sa := strOk_of a
    have sb := strOk_of b
    have e : (prD p).canLay0 = true := by simp [prD, PyData.canLay0, PyData.canLayAll0, sa, sb]
    have d : (prD p).depth ≤ 2 := by simp [prD, PyData.depth, PyData.depthAll]
    refine ⟨by simp only [List.map_cons, PyData.canLayAll0, e, h2, Bool.and_self], ?_⟩
    simp only [List.map_cons, PyData.depthAll]
    omega
def spFT2 (K : PySem.W.Frag) : Sp := fun vs H Q _ => ∃ (l : Addr) (qs : List Addr) (ps : List (Str × Str)), vs = [.ref l] ∧ SqL K H l (qs.map V.ref) ∧ RowsAt K H qs (ps.map prV) ∧ ps.Nodup ∧ (∀ p ∈ ps, okS p.1 ∧ okS p.2) ∧ ∀ H', Same H H' → Q .non H'
def spRMT (K : PySem.W.Frag) (B : Addr) : Sp := fun vs H Q _ => ∃ (m : Addr) (as : List Addr) (ms : List MkD), vs = [.ref m] ∧ SqL K H m (as.map V.ref) ∧ AllAt (MkAt K B H) as ms ∧ ms.length ≤ 1000 ∧ (ms.map fun x => (x.mr, x.md)).Nodup ∧ (∀ x ∈ ms, okS x.mr ∧ okS x.md) ∧ ∀ H', Same H H' → Q .non H'
section
variable {P : Program} {w : World} {K : PySem.W.Frag} {mg : Str → Option Value} {base : Heap}
theorem ok_ft2 {f : Addr} {fd : FuncData} (F : Fun K "first_twice" "first_twice" sFT f fd) (T : TxB mg) : FnOk P w K mg base CX0 1 f fd ["row"] (spFT2 K) := by
  refine F.ok scFT (fun vs H Q E h => ?_) (fun cdv A outer s H vs Q E hr h => ?_)
  · obtain ⟨l, qs, ps, rfl, _⟩ := h
    rfl
  · obtain ⟨l, qs, ps, rfl, hl, hq, hnd, hok, k⟩ := h
    refine ⟨_, (pss_cons (ps_for PassesOwn.never rfl (pi_enum rfl T.enumerate (pa_cons (pv 0) pa_nil)) (pg_tup rfl (pgs_cons (pg_name (i := 1) scFT.nd rfl (Or.inl rfl)) (pgs_cons (pg_name (i := 2) scFT.nd rfl (Or.inl rfl)) pgs_nil))) (pss_one (ps_if (pt_cmpR (op_inD (u65 hr)) (pv 2) (pe_slice sl_list (pv 0) po_none (po_some (pv 1))) (by rfl)) (pss_one (ps_ret (pv 1))) pss_nil)))
      (pss_one (ps_ret pe_non))), ?_⟩
    refine ⟨_, rfl, l, _, rfl, hl, for_it walk_enum (fun i σ H' => (∃ u v, σ = [some (.ref l), u, v]) ∧ Same H H') ⟨⟨none, none, rfl⟩, Same.refl H⟩ (fun i σ H' _ p => p.2.seq hl) ?_ ?_⟩
    · rintro i x σ H1 H2 hi ⟨⟨u, v, rfl⟩, hS⟩ ⟨t, y, z, rfl, ht, rfl, e1, e2⟩
      cases e1
      refine ⟨t, _, rfl, SqT.of upd_same, rfl, _, _, rfl, _, _, rfl, rfl, ?_⟩
      have S2 := hS.trans (Same.upd (o := .tup [.int (i : Nat), z]) ht)
      have e2 : (qs.map V.ref)[i]? = some z := e2
      rw [List.getElem?_map] at e2
      obtain ⟨q, hqi, rfl⟩ := Option.map_eq_some_iff.mp e2
      obtain ⟨r, hri, hqt⟩ := hq.get hqi
      rw [List.getElem?_map] at hri
      obtain ⟨p, hpi, rfl⟩ := Option.map_eq_some_iff.mp hri
      refine ⟨_, rfl, _, rfl, _, rfl, _, rfl, l, _, rfl, S2.seq hl, fun c hc => ?_⟩
      rw [show cutV (qs.map V.ref) none (some (i : Int)) = (qs.take i).map V.ref by rw [cut_take, List.map_take]]
      have S3 := S2.trans (Same.upd (o := .lst ((qs.take i).map V.ref)) hc)
      have hrow : RowsAt K (upd (upd H1 t (.tup [.int (i : Nat), .ref q])) c (.lst ((qs.take i).map V.ref))) (qs.take i) ((ps.take i).map prV) := by
        have e := (hq.same S3).take i
        rw [← List.map_take] at e
        exact e
      obtain ⟨l1, l2⟩ := prs_sh (ps := ps.take i) fun p hp => hok p (List.mem_of_mem_take hp)
      have shl : SeqAt.shaped (.list ((ps.take i).map prD)) = true := by
        generalize (ps.take i).map prD = X at l1 l2
        simp [SeqAt.shaped, PyData.canLay0, PyData.depth, l1]
        omega
      have shp : SeqAt.shaped (prD p) = true := by
        obtain ⟨a, b⟩ := hok p (List.mem_of_getElem? hpi)
        have sa := strOk_of a
        have sb := strOk_of b
        simp [prD, SeqAt.shaped, PyData.canLay0, PyData.canLayAll0, PyData.depth, PyData.depthAll, sa, sb]
      refine ⟨prD p, _, .tup (same_seqT S3 hqt) (.cons (.str _) (.cons (.str _) .nil)), .lst (SqL.of upd_same) (prs_dp hrow), shp, shl, _, rfl, ?_⟩
      have no : ((ps.take i).map prD).any (fun z => PyData.eqv z (prD p)) = false := by
        rw [List.any_map, List.any_eq_false]
        intro y hy
        show ¬ PyData.eqv (prD y) (prD p) = true
        rw [prD_eqv]
        intro e
        have e := of_decide_eq_true e
        subst e
        obtain ⟨j, hj⟩ := List.mem_iff_getElem?.mp hy
        have hlt : j < i := by
          have q := (List.getElem?_eq_some_iff.mp hj).1
          rw [List.length_take] at q
          omega
        rw [List.getElem?_take_of_lt hlt] at hj
        have hjl := (List.getElem?_eq_some_iff.mp hj).1
        have hil := (List.getElem?_eq_some_iff.mp hpi).1
        exact (List.pairwise_iff_getElem.mp hnd) j i hjl hil hlt ((List.getElem?_eq_some_iff.mp hj).2.trans (List.getElem?_eq_some_iff.mp hpi).2.symm)
      rw [no]
      exact iteF ⟨⟨_, _, rfl⟩, S3⟩
    · rintro σ H' ⟨_, hS⟩
      exact k H' hS
theorem scRMT : FnScope ["makings", "pairs", "place", "making"] ["makings"] (defScope sRMT) := ⟨rfl, rfl, rfl, by decide +kernel, rfl, by decide +kernel, by decide +kernel⟩
theorem ok_rmt {f fF B fB : Addr} {fd fdF : FuncData} (F : Fun K "refuse_makings_twice" "refuse_makings_twice" sRMT f fd) (T : TxB mg) (TM : TxMak K mg B fB) (D : Dn K mg "first_twice" sFT ["row"] fF fdF) : FnOk P w K mg base CX0 2 f fd ["makings"] (spRMT K B) := by
  have G : FnOk P w K mg base CX0 1 fF fdF ["row"] (spFT2 K) := ok_ft2 D.F T
  refine F.ok scRMT (fun vs H Q E h => ?_) (fun cdv A outer s H vs Q E hr h => ?_)
  · obtain ⟨m, as, ms, rfl, _⟩ := h
    rfl
  · obtain ⟨m, as, ms, rfl, hm, hms, hl, hnd, hok, k⟩ := h
    refine ⟨_, (pss_cons (ps_setLc (i := 1) (own := [("making", 3)]) (g := gName 3) (te := tTup (tCons (tFld K (tVar 3) "maker") (tCons (tFld K (tVar 3) "made") tNil))) rfl scRMT.nd rfl rfl (sw_true rfl rfl rfl (by decide +kernel)) (pi_list (pv 0)) (blkOk_by (N := ["makings", "pairs", "place", "making"]) (sc := defScope sRMT) (by decide +kernel)) (fun _ _ _ _ _ => (pg_name (i := 3) scRMT.nd rfl (Or.inl rfl))) (fun _ _ _ _ _ => pts_nil) (fun _ _ _ _ _ => (pe_tup (pa_cons (pe_fld (pv 3) rfl) (pa_cons (pe_fld (pv 3) rfl) pa_nil)))))
      (pss_cons (ps_set (i := 2) scRMT.nd rfl (Or.inl rfl) (pe_call G hr rfl D.g D.F.kp D.b .nil pass0 (pa_cons (pv 1) pa_nil)))
      (pss_one (ps_if (pt_cmp (pc_notN (pv 2))) (pss_one ps_never) pss_nil)))), ?_⟩
    refine ⟨_, rfl, m, rfl, ⟨_, hm⟩, fun D' hD => ?_⟩
    refine lc_list (K := K) (a := m) (xs := as.map V.ref) (fun i H' => Same H H' ∧ ∃ qs : List Addr, H' D' = some (.lst (qs.map V.ref)) ∧ qs.length = i ∧ RowsAt K H' qs (((ms.map fun x => (x.mr, x.md)).take i).map prV)) ⟨Same.upd hD, [], upd_same, rfl, True.intro⟩ (fun i H' _ p => p.1.seq hm) ?_ ?_
    · rintro i x H' hi ⟨hS, qs, hq, hql, hrow⟩
      obtain ⟨a, y, rfl, hy, hat⟩ := hms.get hi
      obtain ⟨d, t1, t2, ha, _, _⟩ := MkAt.same hS hat
      refine ⟨rfl, ?_⟩
      refine ⟨_, rfl, a, B, d, _, _, rfl, ha, TM.cl, TM.nk, makF_maker _ _ _ _, ?_⟩
      refine ⟨_, rfl, a, B, d, _, _, rfl, ha, TM.cl, TM.nd, makF_made _ _ _ _, ?_⟩
      refine ⟨by show 2 ≤ sizeLine; decide, fun t ht => ?_⟩
      have nt : t ≠ D' := (ne_of_none hq ht).symm
      have il : i < ms.length := (List.getElem?_eq_some_iff.mp hy).1
      refine ⟨_, Same.upd ht _ _ hq, ?_, ?_, qs ++ [t], ?_, ?_, ?_⟩
      · rw [List.length_map]
        exact Nat.lt_of_le_of_lt (show qs.length ≤ 1000 by omega) (by decide)
      · intro b o h
        rw [upd_ne (ne_of_none h hD)]
        exact Same.upd ht _ _ (hS b o h)
      · rw [upd_same, List.map_append]
        rfl
      · rw [List.length_append, List.length_singleton]
        omega
      · rw [List.take_add_one, List.getElem?_map, hy, List.map_append]
        have B' : But D' (upd H' t (.tup [.str y.mr, .str y.md])) (upd (upd H' t (.tup [.str y.mr, .str y.md])) D' (.lst (qs.map V.ref ++ [.ref t]))) := But.upd
        have keep : ∀ {q : Addr} {xs : List V}, SqT K (upd H' t (.tup [.str y.mr, .str y.md])) q xs → SqT K (upd (upd H' t (.tup [.str y.mr, .str y.md])) D' (.lst (qs.map V.ref ++ [.ref t]))) q xs := fun {q xs} h => by
          have hp : (upd H' t (.tup [.str y.mr, .str y.md])) D' = some (.lst (qs.map V.ref)) := Same.upd ht _ _ hq
          rcases h with (h | ⟨u, h⟩) | h
          · exact .inl (.inl (B' _ _ (ne_of h hp (by intro z; cases z)) h))
          · exact .inl (.inr ⟨u, B' _ _ (ne_of h hp (by intro z; cases z)) h⟩)
          · exact .inr h
        have r1 : RowsAt K (upd H' t (.tup [.str y.mr, .str y.md])) (qs ++ [t]) (((ms.map fun x => (x.mr, x.md)).take i).map prV ++ [prV (y.mr, y.md)]) := (hrow.same (Same.upd ht)).append ⟨SqT.of upd_same, True.intro⟩
        exact rows_imp keep r1
    · rintro H' ⟨hS, qs, hq, hql, hrow⟩
      rw [List.length_map, hms.len] at hql
      rw [List.length_map, hms.len, List.take_of_length_le (by rw [List.length_map]; exact Nat.le_refl _)] at hrow
      dsimp only [List.set_cons_succ, List.set_cons_zero]
      refine ⟨_, rfl, D', qs, _, rfl, SqL.of hq, hrow, hnd, fun p hp => ?_, fun H2 S2 => ?_⟩
      · obtain ⟨x, hx, rfl⟩ := List.mem_map.mp hp
        exact hok x hx
      · refine ⟨_, rfl, _, rfl, ?_⟩
        exact iteF (k _ (hS.trans S2))
end
end Wm
namespace Wm
open PySem L2 StX
/-- what a pattern's variables are, be it a rule or a bar -/
def PvAt (K : PySem.W.Frag) (H : Hp) (a : Addr) (vars : List Var) : Prop := ∃ C d fs t1 ps, H a = some (.ins C d fs) ∧ Cls K C ∧ NoAttr K C "variables" ∧ fs.lookup ("variables" : Str) = some (.ref t1) ∧ SqT K H t1 (ps.map V.ref) ∧ RowsAt K H ps (vars.map varV)
theorem PvAt.same {K : PySem.W.Frag} {H H' : Hp} {a : Addr} {v : List Var} (s : Same H H') (h : PvAt K H a v) : PvAt K H' a v := by
  obtain ⟨C, d, fs, t1, ps, a1, a2, a3, a4, a5, a6⟩ := h
  exact ⟨C, d, fs, t1, ps, s _ _ a1, a2, a3, a4, same_seqT s a5, a6.same s⟩
def spRNS (K : PySem.W.Frag) (B : Addr) : Sp := fun vs H Q _ => ∃ (s m p : Addr) (ss : List Str) (as bs : List Addr) (ms : List MkD) (vv : List (List Var)), vs = [.ref s, .ref m, .ref p] ∧ SqL K H s (ss.map V.str) ∧ SqL K H m (as.map V.ref) ∧ AllAt (MkAt K B H) as ms ∧ SqL K H p (bs.map V.ref) ∧ AllAt (PvAt K H) bs vv ∧ ms.length ≤ 1000 ∧ vv.length ≤ 1000 ∧ (∀ v ∈ vv, v.length ≤ 4) ∧ (∀ x ∈ ms, x.mr ∈ ss ∧ x.md ∈ ss) ∧ (∀ v ∈ vv, ∀ y ∈ v, ∀ z, y.2 = some z → z ∈ ss) ∧ ∀ H', Same H H' → Q .non H'
def spRU (K : PySem.W.Frag) (B : Addr) : Sp := fun vs H Q _ => ∃ (s m : Addr) (ss : List Str) (as : List Addr) (ms : List MkD), vs = [.ref s, .ref m] ∧ SqL K H s (ss.map V.str) ∧ SqL K H m (as.map V.ref) ∧ AllAt (MkAt K B H) as ms ∧ ss.Nodup ∧ (∀ x ∈ ms, ∃ i j : Nat, i < j ∧ ss[i]? = some x.mr ∧ ss[j]? = some x.md) ∧ Q .non H
theorem flat_of (zs : List Str) : (zs.map V.str).all flatV = true := by
  rw [List.all_map]
  exact List.all_eq_true.mpr fun _ _ => rfl
theorem idx_first {ss : List Str} {i m : Nat} {x z : Str} (nd : ss.Nodup) (hi : ss[i]? = some x) (hm : m < i) (hz : ss[m]? = some z) : eqV (.str z) (.str x) = false := by
  have hne : z ≠ x := fun e => by
    subst e
    have a := List.getElem?_eq_some_iff.mp hi
    have b := List.getElem?_eq_some_iff.mp hz
    exact (List.pairwise_iff_getElem.mp nd) m i b.1 a.1 hm (b.2.trans a.2.symm)
  unfold eqV
  simp [hne]
section
variable {P : Program} {w : World} {K : PySem.W.Frag} {mg : Str → Option Value} {base : Heap}
theorem scRU : FnScope ["sorts", "makings", "making"] ["sorts", "makings"] (defScope sRU) := ⟨rfl, rfl, rfl, by decide +kernel, rfl, by decide +kernel, by decide +kernel⟩
theorem ok_ru {f B fB : Addr} {fd : FuncData} (F : Fun K "refuse_upward" "refuse_upward" sRU f fd) (TM : TxMak K mg B fB) : FnOk P w K mg base CX0 1 f fd ["sorts", "makings"] (spRU K B) := by
  refine F.ok scRU (fun vs H Q E h => ?_) (fun cdv A outer s H vs Q E hr h => ?_)
  · obtain ⟨s, m, ss, as, ms, rfl, _⟩ := h
    rfl
  · obtain ⟨s, m, ss, as, ms, rfl, hs, hm, hms, nd, hx, k⟩ := h
    refine ⟨_, (pss_one (ps_for PassesOwn.never rfl (pi_list (pv 1)) (pg_name (i := 2) scRU.nd rfl (Or.inl rfl)) (pss_one (ps_if (pt_cmpR op_le (pe_bm PySem.F.plainAttrs_list PySem.F.slot_list_index PySem.F.type_list_index mt_index (pv 0) (pa_cons (pe_fld (pv 2) rfl) pa_nil)) (pe_bm PySem.F.plainAttrs_list PySem.F.slot_list_index PySem.F.type_list_index mt_index (pv 0) (pa_cons (pe_fld (pv 2) rfl) pa_nil)) (nomark _)) (pss_one ps_never) pss_nil)))), ?_⟩
    refine ⟨_, rfl, m, rfl, ⟨_, hm⟩, for_list (K := K) (a := m) (xs := as.map V.ref) (fun i σ H' => (∃ v, σ = [some (.ref s), some (.ref m), v]) ∧ H' = H) ⟨⟨none, rfl⟩, rfl⟩ (fun i σ H' _ p => by rw [p.2]; exact hm) ?_ (fun σ H' p => by rw [p.2]; exact k)⟩
    rintro i y σ H' hi ⟨⟨v, rfl⟩, rfl⟩
    obtain ⟨a, x, rfl, hxi, hat⟩ := hms.get hi
    obtain ⟨d, t1, t2, ha, _, _⟩ := hat
    obtain ⟨p, q, hpq, hp, hq⟩ := hx x (List.mem_of_getElem? hxi)
    have gp : (ss.map V.str)[p]? = some (.str x.mr) := by rw [List.getElem?_map, hp]; rfl
    have gq : (ss.map V.str)[q]? = some (.str x.md) := by rw [List.getElem?_map, hq]; rfl
    have first : ∀ {n : Nat} {z0 : Str}, ss[n]? = some z0 → ∀ (m : Nat) (z' : V), m < n → (ss.map V.str)[m]? = some z' → eqV z' (.str z0) = false := fun {n z0} hn m z' hm hz => by
      rw [List.getElem?_map] at hz
      obtain ⟨z, hz2, rfl⟩ := Option.map_eq_some_iff.mp hz
      exact idx_first nd hn hm hz2
    dsimp only [gName, List.set_cons_succ, List.set_cons_zero]
    refine ⟨_, rfl, .inl ⟨rfl, _, hs⟩, _, rfl, a, B, d, _, _, rfl, ha, TM.cl, TM.nd, makF_made _ _ _ _, ?_⟩
    refine ⟨s, _, .str x.md, q, .str x.md, rfl, rfl, hs, rfl, flat_of ss, gq, by unfold eqV; simp, first hq, ?_⟩
    refine ⟨_, rfl, .inl ⟨rfl, _, hs⟩, _, rfl, a, B, d, _, _, rfl, ha, TM.cl, TM.nk, makF_maker _ _ _ _, ?_⟩
    refine ⟨s, _, .str x.mr, p, .str x.mr, rfl, rfl, hs, rfl, flat_of ss, gp, by unfold eqV; simp, first hp, ?_⟩
    refine ⟨_, _, rfl, rfl, _, rfl, ?_⟩
    exact ite2 (fun z => absurd (of_decide_eq_true z) (by omega)) (fun _ => ⟨⟨_, rfl⟩, rfl⟩)
theorem scRNS : FnScope ["sorts", "makings", "patterns", "asked", "making", "pattern", "name", "variable", "sort"] ["sorts", "makings", "patterns"] (defScope sRNS) := ⟨rfl, rfl, rfl, by decide +kernel, rfl, by decide +kernel, by decide +kernel⟩
theorem ok_rns {f B fB : Addr} {fd : FuncData} (F : Fun K "refuse_no_sort" "refuse_no_sort" sRNS f fd) (TM : TxMak K mg B fB) : FnOk P w K mg base CX0 1 f fd ["sorts", "makings", "patterns"] (spRNS K B) := by
  refine F.ok scRNS (fun vs H Q E h => ?_) (fun cdv A outer s H vs Q E hr h => ?_)
  · obtain ⟨s, m, p, ss, as, bs, ms, vv, rfl, _⟩ := h
    rfl
  · obtain ⟨s, m, p, ss, as, bs, ms, vv, rfl, hs, hm, hms, hp, hvv, ml, vl, v4, hx, hy, k⟩ := h
    refine ⟨_, (pss_cons (ps_set (i := 3) scRNS.nd rfl (Or.inl rfl) (pe_lst pa_nil))
      (pss_cons (ps_for PassesOwn.never rfl (pi_list (pv 1)) (pg_name (i := 4) scRNS.nd rfl (Or.inl rfl)) (pss_one (ps_expr (pe_bm PySem.F.plainAttrs_list PySem.F.slot_list_extend PySem.F.type_list_extend mt_extend (pv 3) (pa_cons (pe_lst (pa_cons (pe_fld (pv 4) rfl) (pa_cons (pe_fld (pv 4) rfl) pa_nil))) pa_nil)))))
      (pss_cons (ps_for PassesOwn.never rfl (pi_list (pv 2)) (pg_name (i := 5) scRNS.nd rfl (Or.inl rfl)) (pss_one (ps_expr (pe_bm PySem.F.plainAttrs_list PySem.F.slot_list_extend PySem.F.type_list_extend mt_extend (pv 3) (pa_cons (pe_lc (own := [("variable", 7), ("sort", 8)]) (g := gTup K 2 (gCons (gName 7) (gCons (gName 8) gNil))) rfl scRNS.nd (pi_tup (pe_fld (pv 5) rfl)) (blkOk_by (N := ["sorts", "makings", "patterns", "asked", "making", "pattern", "name", "variable", "sort"]) (sc := defScope sRNS) (by decide +kernel)) (fun _ _ _ _ _ => (pg_tup rfl (pgs_cons (pg_name (i := 7) scRNS.nd rfl (Or.inl rfl)) (pgs_cons (pg_name (i := 8) scRNS.nd rfl (Or.inl rfl)) pgs_nil)))) (fun _ _ _ _ _ => (pts_one (pt_cmp (pc_notN (pv 8))))) (fun _ _ _ _ _ => (pv 8))) pa_nil)))))
      (pss_one (ps_for PassesOwn.never rfl (pi_list (pv 3)) (pg_name (i := 6) scRNS.nd rfl (Or.inl rfl)) (pss_one (ps_if (pt_cmpR op_notIn_seq (pv 6) (pv 0) (by rfl)) (pss_one ps_never) pss_nil))))))), ?_⟩
    refine ⟨Nat.zero_le _, fun d hd => ?_⟩
    dsimp only [List.set_cons_succ, List.set_cons_zero]
    have Sd : ∀ {H1 : Hp} {o : HO}, Same H H1 → Same H (upd H1 d o) := fun hs b o e => by
      rw [upd_ne (ne_of_none e hd)]
      exact hs b o e
    have S0 : Same H (upd H d (.lst [])) := Same.upd hd
    refine ⟨_, rfl, m, rfl, ⟨_, S0.seq hm⟩, for_list (K := K) (a := m) (xs := as.map V.ref) (fun i σ H' => (∃ v, σ = [some (.ref s), some (.ref m), some (.ref p), some (.ref d), v, none, none, none, none]) ∧ Same H H' ∧ ∃ zs : List Str, H' d = some (.lst (zs.map V.str)) ∧ zs.length ≤ 2 * i ∧ ∀ z ∈ zs, z ∈ ss) ⟨⟨none, rfl⟩, S0, [], upd_same, Nat.le_refl _, fun z hz => (List.not_mem_nil hz).elim⟩ (fun i σ H' _ p => p.2.1.seq hm) ?_ ?_⟩
    · rintro i y σ H' hi ⟨⟨v, rfl⟩, hS, zs, hz, zl, zo⟩
      obtain ⟨a, x, rfl, hxi, hat⟩ := hms.get hi
      obtain ⟨d', t1, t2, ha, _, _⟩ := MkAt.same hS hat
      have il : i < ms.length := (List.getElem?_eq_some_iff.mp hxi).1
      have ox := hx x (List.mem_of_getElem? hxi)
      dsimp only [gName, List.set_cons_succ, List.set_cons_zero]
      refine ⟨_, rfl, .inl ⟨rfl, _, SqL.of hz⟩, _, rfl, a, B, d', _, _, rfl, ha, TM.cl, TM.nk, makF_maker _ _ _ _, _, rfl, a, B, d', _, _, rfl, ha, TM.cl, TM.nd, makF_made _ _ _ _, by show 2 ≤ sizeLine; decide, fun l2 nl2 => ?_⟩
      refine ⟨d, l2, _, _, rfl, rfl, Same.upd nl2 _ _ hz, upd_same, ?_, ⟨_, rfl⟩, Sd (hS.trans (Same.upd nl2)), zs ++ [x.mr, x.md], ?_, ?_, ?_⟩
      · rw [List.length_map]
        exact Nat.le_trans (show zs.length + 2 ≤ 10000 by omega) (by decide)
      · rw [upd_same, List.map_append]
        rfl
      · rw [List.length_append]
        show zs.length + 2 ≤ _
        omega
      · intro z hzm
        rcases List.mem_append.mp hzm with q | q
        · exact zo z q
        · rcases List.mem_cons.mp q with e | q
          · rw [e]; exact ox.1
          · rw [List.mem_singleton.mp q]; exact ox.2
    rintro σ H1 ⟨⟨v, rfl⟩, hS1, zs, hz, zl, zo⟩
    rw [List.length_map, hms.len] at zl
    refine ⟨_, rfl, p, rfl, ⟨_, hS1.seq hp⟩, for_list (K := K) (a := p) (xs := bs.map V.ref) (fun i σ H' => (∃ v u, σ = [some (.ref s), some (.ref m), some (.ref p), some (.ref d), v, u, none, none, none]) ∧ Same H H' ∧ ∃ zs : List Str, H' d = some (.lst (zs.map V.str)) ∧ zs.length ≤ 2 * ms.length + 4 * i ∧ ∀ z ∈ zs, z ∈ ss) ⟨⟨_, none, rfl⟩, hS1, zs, hz, by omega, zo⟩ (fun i σ H' _ p => p.2.1.seq hp) ?_ ?_⟩
    · rintro i y σ H' hi ⟨⟨v, u, rfl⟩, hS, zs, hz, zl, zo⟩
      obtain ⟨a, x, rfl, hxi, hat⟩ := hvv.get hi
      obtain ⟨C, d', fs, t1, ps, ha, hc, hn, hlk, ht, hrow⟩ := PvAt.same hS hat
      have il : i < vv.length := (List.getElem?_eq_some_iff.mp hxi).1
      have xm := List.mem_of_getElem? hxi
      have x4 := v4 x xm
      dsimp only [gName, List.set_cons_succ, List.set_cons_zero]
      refine ⟨_, rfl, .inl ⟨rfl, _, SqL.of hz⟩, _, rfl, a, C, d', _, _, rfl, ha, hc, hn, hlk, t1, rfl, ⟨_, ht⟩, fun D hD => ?_⟩
      have ndD : d ≠ D := ne_of_none hz hD
      refine lc_it walk_tup (fun j G => Same H' G ∧ ∃ us : List Str, G D = some (.lst (us.map V.str)) ∧ us.length ≤ j ∧ ∀ z ∈ us, z ∈ ss) ⟨Same.upd hD, [], upd_same, Nat.le_refl _, fun z hz => (List.not_mem_nil hz).elim⟩ (fun j G _ p => same_seqT p.1 ht) ?_ ?_
      · rintro j x' G G' hj ⟨hSG, us, hu, ul, uo⟩ ⟨rfl, hxj⟩
        obtain ⟨q, hqj, rfl⟩ := map_ref_get hxj
        obtain ⟨r, hrj, hqr⟩ := hrow.get hqj
        obtain ⟨⟨n, so⟩, hvj, rfl⟩ := var_get hrj
        have jl : j < x.length := (List.getElem?_eq_some_iff.mp hvj).1
        refine ⟨q, _, rfl, same_seqT hSG hqr, rfl, _, _, rfl, _, _, rfl, rfl, rfl, ?_⟩
        cases so with
        | none =>
          refine ⟨_, rfl, _, rfl, ?_⟩
          refine iteF ?_
          exact ⟨hSG, us, hu, by omega, uo⟩
        | some z =>
          refine ⟨_, rfl, _, rfl, ?_⟩
          refine iteT ?_
          refine ⟨_, rfl, _, hu, ?_, ?_, us ++ [z], ?_, ?_, ?_⟩
          · rw [List.length_map]
            exact Nat.lt_of_le_of_lt (show us.length ≤ 100 by omega) (by decide)
          · intro b o h
            rw [upd_ne (ne_of_none h hD)]
            exact hSG b o h
          · rw [upd_same, List.map_append]
            rfl
          · rw [List.length_append, List.length_singleton]
            omega
          · intro y hyy
            rcases List.mem_append.mp hyy with q | q
            · exact uo y q
            · rw [List.mem_singleton.mp q]
              exact hy x xm (n, some z) (List.mem_of_getElem? hvj) z rfl
      · rintro G ⟨hSG, us, hu, ul, uo⟩
        have ul4 : us.length ≤ 4 := by
          rw [List.length_map, hrow.len, List.length_map] at ul
          omega
        refine ⟨d, D, _, _, rfl, rfl, hSG _ _ hz, hu, ?_, ⟨_, _, rfl⟩, Sd (hS.trans hSG), zs ++ us, ?_, ?_, ?_⟩
        · rw [List.length_map, List.length_map]
          exact Nat.le_trans (show zs.length + us.length ≤ 10000 by omega) (by decide)
        · rw [upd_same, List.map_append]
        · rw [List.length_append]
          omega
        · intro z hzm
          rcases List.mem_append.mp hzm with q | q
          · exact zo z q
          · exact uo z q
    rintro σ H2 ⟨⟨v, u, rfl⟩, hS2, zs, hz, zl, zo⟩
    refine ⟨_, rfl, d, rfl, ⟨_, SqL.of hz⟩, for_list (K := K) (a := d) (xs := zs.map V.str) (fun i σ H' => (∃ v u t, σ = [some (.ref s), some (.ref m), some (.ref p), some (.ref d), v, u, t, none, none]) ∧ H' = H2) ⟨⟨_, _, none, rfl⟩, rfl⟩ (fun i σ H' _ p => by rw [p.2]; exact SqL.of hz) ?_ (fun σ H' p => by rw [p.2]; exact k _ hS2)⟩
    rintro i y σ H' hi ⟨⟨v, u, t, rfl⟩, rfl⟩
    rw [List.getElem?_map] at hi
    obtain ⟨z, hzi, rfl⟩ := Option.map_eq_some_iff.mp hi
    dsimp only [gName, List.set_cons_succ, List.set_cons_zero]
    refine ⟨_, rfl, _, rfl, s, _, rfl, .inl (hS2.seq hs), rfl, flat_of ss, _, rfl, ?_⟩
    show if (!inV (.str z) (ss.map V.str)) = true then _ else _
    rw [inV_strs, decide_eq_true (zo z (List.mem_of_getElem? hzi))]
    exact iteF ⟨⟨_, _, _, rfl⟩, rfl⟩
end
end Wm
namespace Wm
open PySem L2 StX
def spRNW (K : PySem.W.Frag) (MB RB BB : Addr) : Sp := fun vs H Q _ => ∃ (w m r b : Addr) (ws : List Str) (as bs cs : List Addr) (ms : List MkD) (rs : List RlD) (ps : List PtD), vs = [.ref w, .ref m, .ref r, .ref b] ∧ SqL K H w (ws.map V.str) ∧ SqL K H m (as.map V.ref) ∧ AllAt (MkAt K MB H) as ms ∧ SqL K H r (bs.map V.ref) ∧ AllAt (RlAt K RB H) bs rs ∧ SqL K H b (cs.map V.ref) ∧ AllAt (BrAt K BB H) cs ps ∧
  ms.length ≤ 1000 ∧ rs.length ≤ 1000 ∧ ps.length ≤ 1000 ∧ (∀ x ∈ ms, x.dn.length ≤ 100 ∧ x.up.length ≤ 100) ∧ (∀ x ∈ rs, x.p.cs.length ≤ 3) ∧ (∀ x ∈ ps, x.cs.length ≤ 3) ∧ (∀ x ∈ ms, (∀ z ∈ x.dn, z ∈ ws) ∧ ∀ z ∈ x.up, z ∈ ws) ∧ (∀ x ∈ rs, (∀ t ∈ x.p.cs, t.2.1 ∈ ws) ∧ x.g.2.1 ∈ ws) ∧ (∀ x ∈ ps, ∀ t ∈ x.cs, t.2.1 ∈ ws) ∧ ∀ H', Same H H' → Q .non H'
section
variable {P : Program} {w : World} {K : PySem.W.Frag} {mg : Str → Option Value} {base : Heap}
theorem scRNW : FnScope ["words", "makings", "rules", "bars", "asked", "making", "rule", "bar", "name", "x", "word", "y"] ["words", "makings", "rules", "bars"] (defScope sRNW) := ⟨rfl, rfl, rfl, by decide +kernel, rfl, by decide +kernel, by decide +kernel⟩
theorem ok_rnw {f MB fM RB fR BB fB : Addr} {fd : FuncData} (F : Fun K "refuse_no_word" "refuse_no_word" sRNW f fd) (TM : TxMak K mg MB fM) (TR : TxRul K mg RB fR) (TB : TxBar K mg BB fB) : FnOk P w K mg base CX0 1 f fd ["words", "makings", "rules", "bars"] (spRNW K MB RB BB) := by
  refine F.ok scRNW (fun vs H Q E h => ?_) (fun cdv A outer s H vs Q E hr h => ?_)
  · obtain ⟨w, m, r, b, ws, as, bs, cs, ms, rs, ps, rfl, _⟩ := h
    rfl
  · obtain ⟨w, m, r, b, ws, as, bs, cs, ms, rs, ps, rfl, hw, hm, hms, hr', hrs, hb, hps, ml, rl, pl, m1, r1, p1, mo, ro, po, k⟩ := h
    refine ⟨_, (pss_cons (ps_set (i := 4) scRNW.nd rfl (Or.inl rfl) (pe_lst pa_nil))
      (pss_cons (ps_for PassesOwn.never rfl (pi_list (pv 1)) (pg_name (i := 5) scRNW.nd rfl (Or.inl rfl)) (pss_one (ps_expr (pe_bm PySem.F.plainAttrs_list PySem.F.slot_list_extend PySem.F.type_list_extend mt_extend (pv 4) (pa_cons (pe_lst (pa_star (pe_fld (pv 5) rfl) (pa_star (pe_fld (pv 5) rfl) pa_nil))) pa_nil)))))
      (pss_cons (ps_for PassesOwn.never rfl (pi_list (pv 2)) (pg_name (i := 6) scRNW.nd rfl (Or.inl rfl)) (pss_one (ps_expr (pe_bm PySem.F.plainAttrs_list PySem.F.slot_list_extend PySem.F.type_list_extend mt_extend (pv 4) (pa_cons (pe_lc (own := [("x", 9), ("word", 10), ("y", 11)]) (g := gTup K 3 (gCons (gName 9) (gCons (gName 10) (gCons (gName 11) gNil)))) rfl scRNW.nd (pi_list (pe_lst (pa_star (pe_fld (pv 6) rfl) (pa_cons (pe_fld (pv 6) rfl) pa_nil)))) (blkOk_by (N := ["words", "makings", "rules", "bars", "asked", "making", "rule", "bar", "name", "x", "word", "y"]) (sc := defScope sRNW) (by decide +kernel)) (fun _ _ _ _ _ => (pg_tup rfl (pgs_cons (pg_name (i := 9) scRNW.nd rfl (Or.inl rfl)) (pgs_cons (pg_name (i := 10) scRNW.nd rfl (Or.inl rfl)) (pgs_cons (pg_name (i := 11) scRNW.nd rfl (Or.inl rfl)) pgs_nil))))) (fun _ _ _ _ _ => pts_nil) (fun _ _ _ _ _ => (pv 10))) pa_nil)))))
      (pss_cons (ps_for PassesOwn.never rfl (pi_list (pv 3)) (pg_name (i := 7) scRNW.nd rfl (Or.inl rfl)) (pss_one (ps_expr (pe_bm PySem.F.plainAttrs_list PySem.F.slot_list_extend PySem.F.type_list_extend mt_extend (pv 4) (pa_cons (pe_lc (own := [("x", 9), ("word", 10), ("y", 11)]) (g := gTup K 3 (gCons (gName 9) (gCons (gName 10) (gCons (gName 11) gNil)))) rfl scRNW.nd (pi_tup (pe_fld (pv 7) rfl)) (blkOk_by (N := ["words", "makings", "rules", "bars", "asked", "making", "rule", "bar", "name", "x", "word", "y"]) (sc := defScope sRNW) (by decide +kernel)) (fun _ _ _ _ _ => (pg_tup rfl (pgs_cons (pg_name (i := 9) scRNW.nd rfl (Or.inl rfl)) (pgs_cons (pg_name (i := 10) scRNW.nd rfl (Or.inl rfl)) (pgs_cons (pg_name (i := 11) scRNW.nd rfl (Or.inl rfl)) pgs_nil))))) (fun _ _ _ _ _ => pts_nil) (fun _ _ _ _ _ => (pv 10))) pa_nil)))))
      (pss_one (ps_for PassesOwn.never rfl (pi_list (pv 4)) (pg_name (i := 8) scRNW.nd rfl (Or.inl rfl)) (pss_one (ps_if (pt_cmpR op_notIn_seq (pv 8) (pv 0) (by rfl)) (pss_one ps_never) pss_nil)))))))), ?_⟩
    refine ⟨Nat.zero_le _, fun d hd => ?_⟩
    dsimp only [List.set_cons_succ, List.set_cons_zero]
    have Sd : ∀ {H1 : Hp} {o : HO}, Same H H1 → Same H (upd H1 d o) := fun hs b o e => by
      rw [upd_ne (ne_of_none e hd)]
      exact hs b o e
    have S0 : Same H (upd H d (.lst [])) := Same.upd hd
    -- the words of the makings
    refine ⟨_, rfl, m, rfl, ⟨_, S0.seq hm⟩, for_list (K := K) (a := m) (xs := as.map V.ref) (fun i σ H' => (∃ v, σ = [some (.ref w), some (.ref m), some (.ref r), some (.ref b), some (.ref d), v, none, none, none, none, none, none]) ∧ Same H H' ∧ ∃ zs : List Str, H' d = some (.lst (zs.map V.str)) ∧ zs.length ≤ 200 * i ∧ ∀ z ∈ zs, z ∈ ws) ⟨⟨none, rfl⟩, S0, [], upd_same, Nat.le_refl _, fun z hz => (List.not_mem_nil hz).elim⟩ (fun i σ H' _ p => p.2.1.seq hm) ?_ ?_⟩
    · rintro i y σ H' hi ⟨⟨v, rfl⟩, hS, zs, hz, zl, zo⟩
      obtain ⟨a, x, rfl, hxi, hat⟩ := hms.get hi
      obtain ⟨d', t1, t2, ha, ht1, ht2⟩ := MkAt.same hS hat
      have il : i < ms.length := (List.getElem?_eq_some_iff.mp hxi).1
      have xm := List.mem_of_getElem? hxi
      have x1 := m1 x xm
      have xo := mo x xm
      dsimp only [gName, List.set_cons_succ, List.set_cons_zero]
      refine ⟨_, rfl, .inl ⟨rfl, _, SqL.of hz⟩, _, rfl, a, MB, d', _, _, rfl, ha, TM.cl, TM.nw, makF_down _ _ _ _, t1, _, rfl, .inl ht1, _, rfl, a, MB, d', _, _, rfl, ha, TM.cl, TM.nu, makF_up _ _ _ _, t2, _, rfl, .inl ht2, ?_⟩
      show (x.dn.map V.str ++ (x.up.map V.str ++ [])).length ≤ sizeLine ∧ _
      rw [show (x.dn.map V.str ++ (x.up.map V.str ++ [])) = (x.dn ++ x.up).map V.str by rw [List.append_nil, List.map_append]]
      refine ⟨Nat.le_trans (show _ ≤ 1000 by rw [List.length_map, List.length_append]; omega) (by decide), fun l2 nl2 => ?_⟩
      refine ⟨d, l2, _, _, rfl, rfl, Same.upd nl2 _ _ hz, upd_same, ?_, ⟨_, rfl⟩, Sd (hS.trans (Same.upd nl2)), zs ++ (x.dn ++ x.up), ?_, ?_, ?_⟩
      · rw [List.length_map, List.length_map, List.length_append]
        exact Nat.le_trans (show _ ≤ 1000000 by omega) (by decide)
      · rw [upd_same]
        simp
      · rw [List.length_append, List.length_append]
        omega
      · intro z hzm
        rcases List.mem_append.mp hzm with q | q
        · exact zo z q
        · rcases List.mem_append.mp q with q | q
          · exact xo.1 z q
          · exact xo.2 z q
    rintro σ H1 ⟨⟨v, rfl⟩, hS1, zs, hz, zl, zo⟩
    rw [List.length_map, hms.len] at zl
    -- those of the rules
    refine ⟨_, rfl, r, rfl, ⟨_, hS1.seq hr'⟩, for_list (K := K) (a := r) (xs := bs.map V.ref) (fun i σ H' => (∃ v u, σ = [some (.ref w), some (.ref m), some (.ref r), some (.ref b), some (.ref d), v, u, none, none, none, none, none]) ∧ Same H H' ∧ ∃ zs : List Str, H' d = some (.lst (zs.map V.str)) ∧ zs.length ≤ 200 * ms.length + 4 * i ∧ ∀ z ∈ zs, z ∈ ws) ⟨⟨_, none, rfl⟩, hS1, zs, hz, by omega, zo⟩ (fun i σ H' _ p => p.2.1.seq hr') ?_ ?_⟩
    · rintro i y σ H' hi ⟨⟨v, u, rfl⟩, hS, zs, hz, zl, zo⟩
      obtain ⟨a, x, rfl, hxi, hat⟩ := hrs.get hi
      obtain ⟨d', t1, t2, t3, us, qs, ha, ht1, hu, ht2, hq, ht3⟩ := RlAt.same hS hat
      have il : i < rs.length := (List.getElem?_eq_some_iff.mp hxi).1
      have xm := List.mem_of_getElem? hxi
      have x1 := r1 x xm
      have xo := ro x xm
      have ql : qs.length = x.p.cs.length := by rw [hq.len, List.length_map]
      dsimp only [gName, List.set_cons_succ, List.set_cons_zero]
      refine ⟨_, rfl, .inl ⟨rfl, _, SqL.of hz⟩, _, rfl, a, RB, d', _, _, rfl, ha, TR.cl, TR.nc, rulF_cond _ _ _ _ _, t2, _, rfl, .inl ht2, _, rfl, a, RB, d', _, _, rfl, ha, TR.cl, TR.ng, rulF_gives _ _ _ _ _, ?_⟩
      show (qs.map V.ref ++ [V.ref t3]).length ≤ sizeLine ∧ _
      rw [show (qs.map V.ref ++ [V.ref t3]) = (qs ++ [t3]).map V.ref by rw [List.map_append]; rfl]
      refine ⟨Nat.le_trans (show _ ≤ 1000 by rw [List.length_map, List.length_append, List.length_singleton]; omega) (by decide), fun l2 nl2 => ?_⟩
      have S2 : Same H' (upd H' l2 (.lst ((qs ++ [t3]).map V.ref))) := Same.upd nl2
      have e2 : (upd H' l2 (.lst ((qs ++ [t3]).map V.ref))) l2 = some (.lst ((qs ++ [t3]).map V.ref)) := upd_same
      have rows : RowsAt K (upd H' l2 (.lst ((qs ++ [t3]).map V.ref))) (qs ++ [t3]) ((x.p.cs ++ [x.g]).map triV) := by
        have e : (x.p.cs ++ [x.g]).map triV = x.p.cs.map triV ++ [triV x.g] := by rw [List.map_append]; rfl
        rw [e]
        exact (hq.same S2).append (show RowsAt K _ [t3] [triV x.g] from ⟨same_seqT S2 ht3, True.intro⟩)
      generalize upd H' l2 (.lst ((qs ++ [t3]).map V.ref)) = G2 at S2 e2 rows
      refine ⟨l2, rfl, ⟨_, SqL.of e2⟩, fun D hD => ?_⟩
      refine lc_it walk_list (fun j G => Same G2 G ∧ G D = some (.lst ((((x.p.cs ++ [x.g]).take j).map (·.2.1)).map V.str))) ⟨Same.upd hD, upd_same⟩ (fun j G _ p => p.1.seq (SqL.of e2)) ?_ ?_
      · rintro j x' G G' hj ⟨hSG, hu'⟩ ⟨rfl, hxj⟩
        obtain ⟨q, hqj, rfl⟩ := map_ref_get hxj
        obtain ⟨rr, hrj, hqr⟩ := rows.get hqj
        obtain ⟨t, htj, rfl⟩ := tri_get hrj
        have jl : j < (x.p.cs ++ [x.g]).length := (List.getElem?_eq_some_iff.mp htj).1
        refine ⟨q, _, rfl, same_seqT hSG hqr, rfl, _, _, rfl, _, _, rfl, _, _, rfl, rfl, rfl, ?_⟩
        refine ⟨_, rfl, _, hu', ?_, ?_, ?_⟩
        · rw [List.length_map, List.length_map, List.length_take]
          rw [List.length_append, List.length_singleton] at jl ⊢
          exact Nat.lt_of_le_of_lt (show _ ≤ 100 by omega) (by decide)
        · intro b o h
          rw [upd_ne (ne_of_none h hD)]
          exact hSG b o h
        · rw [upd_same, List.take_add_one, htj, List.map_append, List.map_append]
          rfl
      · rintro G ⟨hSG, hu'⟩
        rw [List.length_map, rows.len, List.length_map, List.take_length] at hu'
        have hzG := hSG _ _ (S2 _ _ hz)
        refine ⟨d, D, _, _, rfl, rfl, hzG, hu', ?_, ⟨_, _, rfl⟩, Sd ((hS.trans S2).trans hSG), zs ++ (x.p.cs ++ [x.g]).map (·.2.1), ?_, ?_, ?_⟩
        · rw [List.length_map, List.length_map, List.length_map, List.length_append, List.length_singleton]
          exact Nat.le_trans (show _ ≤ 1000000 by omega) (by decide)
        · rw [upd_same]
          simp
        · rw [List.length_append, List.length_map, List.length_append, List.length_singleton]
          omega
        · intro z hzm
          rcases List.mem_append.mp hzm with q | q
          · exact zo z q
          · obtain ⟨t, ht, rfl⟩ := List.mem_map.mp q
            rcases List.mem_append.mp ht with q | q
            · exact xo.1 t q
            · rw [List.mem_singleton.mp q]
              exact xo.2
    rintro σ H2 ⟨⟨v, u, rfl⟩, hS2, zs, hz, zl, zo⟩
    rw [List.length_map, hrs.len] at zl
    -- those of the bars
    refine ⟨_, rfl, b, rfl, ⟨_, hS2.seq hb⟩, for_list (K := K) (a := b) (xs := cs.map V.ref) (fun i σ H' => (∃ v u t, σ = [some (.ref w), some (.ref m), some (.ref r), some (.ref b), some (.ref d), v, u, t, none, none, none, none]) ∧ Same H H' ∧ ∃ zs : List Str, H' d = some (.lst (zs.map V.str)) ∧ zs.length ≤ 200 * ms.length + 4 * rs.length + 4 * i ∧ ∀ z ∈ zs, z ∈ ws) ⟨⟨_, _, none, rfl⟩, hS2, zs, hz, by omega, zo⟩ (fun i σ H' _ p => p.2.1.seq hb) ?_ ?_⟩
    · rintro i y σ H' hi ⟨⟨v, u, t, rfl⟩, hS, zs, hz, zl, zo⟩
      obtain ⟨a, x, rfl, hxi, hat⟩ := hps.get hi
      obtain ⟨d', t1, t2, us, qs, ha, ht1, hu, ht2, hq⟩ := BrAt.same hS hat
      have il : i < ps.length := (List.getElem?_eq_some_iff.mp hxi).1
      have xm := List.mem_of_getElem? hxi
      have x1 := p1 x xm
      have xo := po x xm
      dsimp only [gName, List.set_cons_succ, List.set_cons_zero]
      refine ⟨_, rfl, .inl ⟨rfl, _, SqL.of hz⟩, _, rfl, a, BB, d', _, _, rfl, ha, TB.cl, TB.nc, barF_cond _ _ _, t2, rfl, ⟨_, ht2⟩, fun D hD => ?_⟩
      refine lc_it walk_tup (fun j G => Same H' G ∧ G D = some (.lst (((x.cs.take j).map (·.2.1)).map V.str))) ⟨Same.upd hD, upd_same⟩ (fun j G _ p => same_seqT p.1 ht2) ?_ ?_
      · rintro j x' G G' hj ⟨hSG, hu'⟩ ⟨rfl, hxj⟩
        obtain ⟨q, hqj, rfl⟩ := map_ref_get hxj
        obtain ⟨rr, hrj, hqr⟩ := hq.get hqj
        obtain ⟨t, htj, rfl⟩ := tri_get hrj
        have jl : j < x.cs.length := (List.getElem?_eq_some_iff.mp htj).1
        refine ⟨q, _, rfl, same_seqT hSG hqr, rfl, _, _, rfl, _, _, rfl, _, _, rfl, rfl, rfl, ?_⟩
        refine ⟨_, rfl, _, hu', ?_, ?_, ?_⟩
        · rw [List.length_map, List.length_map, List.length_take]
          exact Nat.lt_of_le_of_lt (show _ ≤ 100 by omega) (by decide)
        · intro b o h
          rw [upd_ne (ne_of_none h hD)]
          exact hSG b o h
        · rw [upd_same, List.take_add_one, htj, List.map_append, List.map_append]
          rfl
      · rintro G ⟨hSG, hu'⟩
        rw [List.length_map, hq.len, List.length_map, List.take_length] at hu'
        refine ⟨d, D, _, _, rfl, rfl, hSG _ _ hz, hu', ?_, ⟨_, _, _, rfl⟩, Sd (hS.trans hSG), zs ++ x.cs.map (·.2.1), ?_, ?_, ?_⟩
        · rw [List.length_map, List.length_map, List.length_map]
          exact Nat.le_trans (show _ ≤ 1000000 by omega) (by decide)
        · rw [upd_same, List.map_append]
        · rw [List.length_append, List.length_map]
          omega
        · intro z hzm
          rcases List.mem_append.mp hzm with q | q
          · exact zo z q
          · obtain ⟨t, ht, rfl⟩ := List.mem_map.mp q
            exact xo t ht
    rintro σ H3 ⟨⟨v, u, t, rfl⟩, hS3, zs, hz, zl, zo⟩
    refine ⟨_, rfl, d, rfl, ⟨_, SqL.of hz⟩, for_list (K := K) (a := d) (xs := zs.map V.str) (fun i σ H' => (∃ v u t n, σ = [some (.ref w), some (.ref m), some (.ref r), some (.ref b), some (.ref d), v, u, t, n, none, none, none]) ∧ H' = H3) ⟨⟨_, _, _, none, rfl⟩, rfl⟩ (fun i σ H' _ p => by rw [p.2]; exact SqL.of hz) ?_ (fun σ H' p => by rw [p.2]; exact k _ hS3)⟩
    rintro i y σ H' hi ⟨⟨v, u, t, n, rfl⟩, rfl⟩
    rw [List.getElem?_map] at hi
    obtain ⟨z, hzi, rfl⟩ := Option.map_eq_some_iff.mp hi
    dsimp only [gName, List.set_cons_succ, List.set_cons_zero]
    refine ⟨_, rfl, _, rfl, w, _, rfl, .inl (hS3.seq hw), rfl, flat_of ws, _, rfl, ?_⟩
    show if (!inV (.str z) (ws.map V.str)) = true then _ else _
    rw [inV_strs, decide_eq_true (zo z (List.mem_of_getElem? hzi))]
    exact iteF ⟨⟨_, _, _, _, rfl⟩, rfl⟩
end
end Wm
namespace Wm
open PySem L2 StX
/-- names in a row, of which the program refuses none -/
structure Row (zs : List Str) : Prop where
  nm : ∀ z ∈ zs, isNm z = true ∧ z.length ≤ 12
  nd : zs.Nodup
theorem Row.noTw {zs : List Str} (h : Row zs) : NoTw (zs.map V.str) := fun i x e => by
  rw [List.getElem?_map] at e
  obtain ⟨z, ez, rfl⟩ := Option.map_eq_some_iff.mp e
  rw [← List.map_take, inV_strs]
  refine decide_eq_false fun hm => ?_
  obtain ⟨j, hj⟩ := List.mem_iff_getElem?.mp hm
  have hlt : j < i := by
    have q := (List.getElem?_eq_some_iff.mp hj).1
    rw [List.length_take] at q
    omega
  rw [List.getElem?_take_of_lt hlt] at hj
  have hil := (List.getElem?_eq_some_iff.mp ez).1
  have e1 := (List.getElem?_eq_some_iff.mp ez).2
  have hjl := (List.getElem?_eq_some_iff.mp hj).1
  have e2 := (List.getElem?_eq_some_iff.mp hj).2
  exact (List.pairwise_iff_getElem.mp h.nd) j i hjl hil hlt (e2.trans e1.symm)
structure TxS (mg : Str → Option Value) : Prop where
  so : ∃ t, mg "MOST_SORTS" = some (.int 4 t)
  wo : ∃ t, mg "MOST_WORDS" = some (.int 5 t)
  ru : ∃ t, mg "MOST_RULES" = some (.int 8 t)
  ba : ∃ t, mg "MOST_BARS" = some (.int 4 t)
def spRNv (K : PySem.W.Frag) : Sp := fun vs H Q _ => ∃ (l : Addr) (zs : List Str), vs = [.ref l] ∧ SqL K H l (zs.map V.str) ∧ (∀ z ∈ zs, isNm z = true ∧ z.length ≤ 12) ∧ ∀ H', Same H H' → Q .non H'
/-- a scheme that is refused by nothing -/
structure SchOk (ss ws : List Str) (ms : List MkD) (rs : List RlD) (ps : List PtD) : Prop where
  sr : Row ss
  wr : Row ws
  s1 : 1 ≤ ss.length
  s4 : ss.length ≤ 4
  w1 : 1 ≤ ws.length
  w5 : ws.length ≤ 5
  m9 : ms.length ≤ 1000
  r8 : rs.length ≤ 8
  b4 : ps.length ≤ 4
  mt : (ms.map fun x => (x.mr, x.md)).Nodup
  rn : (rs.map (·.p.nm)).Nodup
  bn : (ps.map (·.nm)).Nodup
  so : ∀ z ∈ ss, okS z
  mo : ∀ x ∈ ms, x.mr ∈ ss ∧ x.md ∈ ss
  mu : ∀ x ∈ ms, ∃ i j : Nat, i < j ∧ ss[i]? = some x.mr ∧ ss[j]? = some x.md
  ml : ∀ x ∈ ms, x.dn.length ≤ 100 ∧ x.up.length ≤ 100
  mw : ∀ x ∈ ms, (∀ z ∈ x.dn, z ∈ ws) ∧ ∀ z ∈ x.up, z ∈ ws
  rv : ∀ x ∈ rs, x.p.vars.length ≤ 4 ∧ x.p.cs.length ≤ 3 ∧ (∀ y ∈ x.p.vars, ∀ z, y.2 = some z → z ∈ ss) ∧ (∀ t ∈ x.p.cs, t.2.1 ∈ ws) ∧ x.g.2.1 ∈ ws
  bv : ∀ x ∈ ps, x.vars.length ≤ 4 ∧ x.cs.length ≤ 3 ∧ (∀ y ∈ x.vars, ∀ z, y.2 = some z → z ∈ ss) ∧ ∀ t ∈ x.cs, t.2.1 ∈ ws
def spOL (K : PySem.W.Frag) : Sp := fun vs H Q _ => ∃ x : V, vs = [x] ∧ ((x = .non ∧ ∀ d, H d = none → Q (.ref d) (upd H d (.lst []))) ∨ ∃ (l : Addr) (xs : List V), x = .ref l ∧ SqL K H l xs ∧ ∀ d, H d = none → Q (.ref d) (upd H d (.lst xs)))
def spCS (K : PySem.W.Frag) (MB RB BB : Addr) : Sp := fun vs H Q _ => ∃ (s w m r b : Addr) (ss ws : List Str) (as bs cs : List Addr) (ms : List MkD) (rs : List RlD) (ps : List PtD), vs = [.ref s, .ref w, .ref m, .ref r, .ref b] ∧ SqL K H s (ss.map V.str) ∧ SqL K H w (ws.map V.str) ∧ SqL K H m (as.map V.ref) ∧ AllAt (MkAt K MB H) as ms ∧ SqL K H r (bs.map V.ref) ∧ AllAt (RlAt K RB H) bs rs ∧ SqL K H b (cs.map V.ref) ∧ AllAt (BrAt K BB H) cs ps ∧ SchOk ss ws ms rs ps ∧ ∀ H', Same H H' → Q .non H'
theorem noTw_of {zs : List Str} (h : zs.Nodup) : NoTw (zs.map V.str) := fun i x e => by
  rw [List.getElem?_map] at e
  obtain ⟨z, ez, rfl⟩ := Option.map_eq_some_iff.mp e
  rw [← List.map_take, inV_strs]
  refine decide_eq_false fun hm => ?_
  obtain ⟨j, hj⟩ := List.mem_iff_getElem?.mp hm
  have hlt : j < i := by
    have q := (List.getElem?_eq_some_iff.mp hj).1
    rw [List.length_take] at q
    omega
  rw [List.getElem?_take_of_lt hlt] at hj
  have hil := (List.getElem?_eq_some_iff.mp ez).1
  have hjl := (List.getElem?_eq_some_iff.mp hj).1
  exact (List.pairwise_iff_getElem.mp h) j i hjl hil hlt ((List.getElem?_eq_some_iff.mp hj).2.trans (List.getElem?_eq_some_iff.mp ez).2.symm)
theorem RlAt.pv {K : PySem.W.Frag} {mg : Str → Option Value} {RB fR : Addr} {H : Hp} {a : Addr} {x : RlD} (T : TxRul K mg RB fR) (h : RlAt K RB H a x) : PvAt K H a x.p.vars := by
  obtain ⟨d, t1, t2, t3, ps, qs, a1, a2, a3, _⟩ := h
  exact ⟨RB, d, _, t1, ps, a1, T.cl, T.nv, rulF_vars _ _ _ _ _, a2, a3⟩
theorem BrAt.pv {K : PySem.W.Frag} {mg : Str → Option Value} {BB fB : Addr} {H : Hp} {a : Addr} {x : PtD} (T : TxBar K mg BB fB) (h : BrAt K BB H a x) : PvAt K H a x.vars := by
  obtain ⟨d, t1, t2, ps, qs, a1, a2, a3, _⟩ := h
  exact ⟨BB, d, _, t1, ps, a1, T.cl, T.nv, barF_vars _ _ _, a2, a3⟩
theorem AllAt.map {α β : Type} {R : Addr → β → Prop} {f : α → β} : ∀ {as : List Addr} {xs : List α}, AllAt (fun a x => R a (f x)) as xs → AllAt R as (xs.map f)
  | [], [], _ => True.intro
  | _ :: _, _ :: _, q => ⟨q.1, AllAt.map q.2⟩
  | [], _ :: _, q => q.elim
  | _ :: _, [], q => q.elim
section
variable {P : Program} {w : World} {K : PySem.W.Frag} {mg : Str → Option Value} {base : Heap}
theorem ok_rnv {f fN : Addr} {fd fdN : FuncData} (F : Fun K "refuse_no_name" "refuse_no_name" sRN f fd) (D : Dn K mg "is_name" sName ["text"] fN fdN) (GN : FnOk P w K mg base CX0 1 fN fdN ["text"] spName) : FnOk P w K mg base CX0 2 f fd ["texts"] (spRNv K) := by
  refine F.ok scRN (fun vs H Q E h => ?_) (fun cdv A outer s H vs Q E hr h => ?_)
  · obtain ⟨l, zs, rfl, _⟩ := h
    rfl
  · obtain ⟨l, zs, rfl, hl, hn, k⟩ := h
    refine ⟨_, (pss_one (ps_for PassesOwn.never rfl (pi_list (pv 0)) (pg_name (i := 1) scRN.nd rfl (Or.inl rfl)) (pss_one (ps_if (pt_not (pt_val (pe_call GN hr rfl D.g D.F.kp D.b .nil pass0 (pa_cons (pv 1) pa_nil)))) (pss_one ps_never) pss_nil)))), ?_⟩
    refine ⟨_, rfl, l, rfl, ⟨_, hl⟩, for_list (K := K) (a := l) (xs := zs.map V.str) (fun i σ H' => (∃ v, σ = [some (.ref l), v]) ∧ Same H H') ⟨⟨none, rfl⟩, Same.refl H⟩ (fun i σ H' _ p => p.2.seq hl) ?_ (fun σ H' p => k H' p.2)⟩
    rintro i y σ H' hi ⟨⟨v, rfl⟩, hS⟩
    rw [List.getElem?_map] at hi
    obtain ⟨z, hz, rfl⟩ := Option.map_eq_some_iff.mp hi
    have hq := hn z (List.mem_of_getElem? hz)
    refine ⟨_, rfl, z, rfl, Nat.le_trans hq.2 (by decide), fun H2 hS2 => ⟨_, rfl, ?_⟩⟩
    rw [hq.1]
    exact iteF ⟨⟨_, rfl⟩, hS.trans hS2⟩
theorem scOL : FnScope ["rows"] ["rows"] (defScope sOL) := ⟨rfl, rfl, rfl, by decide +kernel, rfl, by decide +kernel, by decide +kernel⟩
theorem ok_ol {f : Addr} {fd : FuncData} (F : Fun K "own_list" "own_list" sOL f fd) (tl : mg "list" = none) : FnOk P w K mg base CX0 1 f fd ["rows"] (spOL K) := by
  refine F.ok scOL (fun vs H Q E h => ?_) (fun cdv A outer s H vs Q E hr h => ?_)
  · obtain ⟨x, rfl, _⟩ := h
    rfl
  · obtain ⟨x, rfl, h⟩ := h
    refine ⟨_, (pss_cons (ps_if (pt_cmp (pc_isN (pv 0))) (pss_one (ps_ret (pe_lst pa_nil))) pss_nil)
      (pss_one (ps_ret (pe_callTy call_list_of (by rfl) tl (by decide +kernel) (pa_cons (pv 0) pa_nil))))), ?_⟩
    refine ⟨_, rfl, _, rfl, ?_⟩
    rcases h with ⟨rfl, k⟩ | ⟨l, xs, rfl, hl, k⟩
    · exact iteT ⟨Nat.zero_le _, fun d hd => k d hd⟩
    · exact iteF ⟨_, rfl, l, _, rfl, .inl hl, fun d hd => k d hd⟩
theorem scCS : FnScope ["sorts", "words", "makings", "rules", "bars", "rule", "bar"] ["sorts", "words", "makings", "rules", "bars"] (defScope sCS) := ⟨rfl, rfl, rfl, by decide +kernel, rfl, by decide +kernel, by decide +kernel⟩
theorem ok_cs {f fRC fRN fRT fRM fNS fRU fNW fF MB fM RB fR BB fB : Addr} {fd dRC dRN dRT dRM dNS dRU dNW dF : FuncData} (F : Fun K "check_scheme" "check_scheme" sCS f fd) (T : TxB mg) (TS : TxS mg) (TM : TxMak K mg MB fM) (TR : TxRul K mg RB fR) (TB : TxBar K mg BB fB)
    (DC : Dn K mg "refuse_count" sRC ["what", "count", "least", "most"] fRC dRC) (DN : Dn K mg "refuse_no_name" sRN ["texts"] fRN dRN) (DT : Dn K mg "refuse_twice" sRT ["names"] fRT dRT) (DM : Dn K mg "refuse_makings_twice" sRMT ["makings"] fRM dRM) (DS : Dn K mg "refuse_no_sort" sRNS ["sorts", "makings", "patterns"] fNS dNS) (DU : Dn K mg "refuse_upward" sRU ["sorts", "makings"] fRU dRU) (DW : Dn K mg "refuse_no_word" sRNW ["words", "makings", "rules", "bars"] fNW dNW) (DF : Dn K mg "first_twice" sFT ["row"] fF dF)
    (GN : FnOk P w K mg base CX0 2 fRN dRN ["texts"] (spRNv K)) (GT : FnOk P w K mg base CX0 2 fRT dRT ["names"] (spFT K)) : FnOk P w K mg base CX0 3 f fd ["sorts", "words", "makings", "rules", "bars"] (spCS K MB RB BB) := by
  have GC : FnOk P w K mg base CX0 1 fRC dRC _ spRC := ok_rc DC.F
  have GM : FnOk P w K mg base CX0 2 fRM dRM _ (spRMT K MB) := ok_rmt DM.F T TM DF
  have GS : FnOk P w K mg base CX0 1 fNS dNS _ (spRNS K MB) := ok_rns DS.F TM
  have GU : FnOk P w K mg base CX0 1 fRU dRU _ (spRU K MB) := ok_ru DU.F TM
  have GW : FnOk P w K mg base CX0 1 fNW dNW _ (spRNW K MB RB BB) := ok_rnw DW.F TM TR TB
  refine F.ok scCS (fun vs H Q E h => ?_) (fun cdv A outer s H vs Q E hr h => ?_)
  · obtain ⟨s, w, m, r, b, ss, ws, as, bs, cs, ms, rs, ps, rfl, _⟩ := h
    rfl
  · obtain ⟨s, w, m, r, b, ss, ws, as, bs, cs, ms, rs, ps, rfl, hs, hw, hm, hms, hr', hrs, hb, hps, ok, k⟩ := h
    have hr1 : Room 1 _ := hr.mono (by decide)
    obtain ⟨t1, g1⟩ := TS.so
    obtain ⟨t2, g2⟩ := TS.wo
    obtain ⟨t3, g3⟩ := TS.ru
    obtain ⟨t4, g4⟩ := TS.ba
    have sl1 := ok.s1
    have sl4 := ok.s4
    have wl1 := ok.w1
    have wl5 := ok.w5
    have rl8 := ok.r8
    have bl4 := ok.b4
    have lr := hrs.len
    have lb := hps.len
    refine ⟨_, (pss_cons (ps_expr (pe_call GC hr1 rfl DC.g DC.F.kp DC.b .nil pass0 (pa_cons pe_str (pa_cons (pe_callB call_len_seq (by rfl) T.len (by decide +kernel) (pa_cons (pv 0) pa_nil)) (pa_cons pe_int (pa_cons (pe_glob (v := .int 4) rfl g1 ⟨t1, rfl⟩) pa_nil))))))
      (pss_cons (ps_expr (pe_call GC hr1 rfl DC.g DC.F.kp DC.b .nil pass0 (pa_cons pe_str (pa_cons (pe_callB call_len_seq (by rfl) T.len (by decide +kernel) (pa_cons (pv 1) pa_nil)) (pa_cons pe_int (pa_cons (pe_glob (v := .int 5) rfl g2 ⟨t2, rfl⟩) pa_nil))))))
      (pss_cons (ps_expr (pe_call GC hr1 rfl DC.g DC.F.kp DC.b .nil pass0 (pa_cons pe_str (pa_cons (pe_callB call_len_seq (by rfl) T.len (by decide +kernel) (pa_cons (pv 3) pa_nil)) (pa_cons pe_int (pa_cons (pe_glob (v := .int 8) rfl g3 ⟨t3, rfl⟩) pa_nil))))))
      (pss_cons (ps_expr (pe_call GC hr1 rfl DC.g DC.F.kp DC.b .nil pass0 (pa_cons pe_str (pa_cons (pe_callB call_len_seq (by rfl) T.len (by decide +kernel) (pa_cons (pv 4) pa_nil)) (pa_cons pe_int (pa_cons (pe_glob (v := .int 4) rfl g4 ⟨t4, rfl⟩) pa_nil))))))
      (pss_cons (ps_expr (pe_call GN hr rfl DN.g DN.F.kp DN.b .nil pass0 (pa_cons (pv 0) pa_nil)))
      (pss_cons (ps_expr (pe_call GN hr rfl DN.g DN.F.kp DN.b .nil pass0 (pa_cons (pv 1) pa_nil)))
      (pss_cons (ps_expr (pe_call GT hr rfl DT.g DT.F.kp DT.b .nil pass0 (pa_cons (pv 0) pa_nil)))
      (pss_cons (ps_expr (pe_call GT hr rfl DT.g DT.F.kp DT.b .nil pass0 (pa_cons (pv 1) pa_nil)))
      (pss_cons (ps_expr (pe_call GM hr rfl DM.g DM.F.kp DM.b .nil pass0 (pa_cons (pv 2) pa_nil)))
      (pss_cons (ps_expr (pe_call GT hr rfl DT.g DT.F.kp DT.b .nil pass0 (pa_cons (pe_lc (own := [("rule", 5)]) (g := gName 5) (te := tFld K (tVar 5) "name") rfl scCS.nd (pi_list (pv 3)) (blkOk_by (N := ["sorts", "words", "makings", "rules", "bars", "rule", "bar"]) (sc := defScope sCS) (by decide +kernel)) (fun _ _ _ _ _ => (pg_name (i := 5) scCS.nd rfl (Or.inl rfl))) (fun _ _ _ _ _ => pts_nil) (fun _ _ _ _ _ => (pe_fld (pv 5) rfl))) pa_nil)))
      (pss_cons (ps_expr (pe_call GT hr rfl DT.g DT.F.kp DT.b .nil pass0 (pa_cons (pe_lc (own := [("bar", 6)]) (g := gName 6) (te := tFld K (tVar 6) "name") rfl scCS.nd (pi_list (pv 4)) (blkOk_by (N := ["sorts", "words", "makings", "rules", "bars", "rule", "bar"]) (sc := defScope sCS) (by decide +kernel)) (fun _ _ _ _ _ => (pg_name (i := 6) scCS.nd rfl (Or.inl rfl))) (fun _ _ _ _ _ => pts_nil) (fun _ _ _ _ _ => (pe_fld (pv 6) rfl))) pa_nil)))
      (pss_cons (ps_expr (pe_call GS hr1 rfl DS.g DS.F.kp DS.b .nil pass0 (pa_cons (pv 0) (pa_cons (pv 2) (pa_cons (pe_lst (pa_star (pv 3) (pa_star (pv 4) pa_nil))) pa_nil)))))
      (pss_cons (ps_expr (pe_call GU hr1 rfl DU.g DU.F.kp DU.b .nil pass0 (pa_cons (pv 0) (pa_cons (pv 2) pa_nil))))
      (pss_one (ps_expr (pe_call GW hr1 rfl DW.g DW.F.kp DW.b .nil pass0 (pa_cons (pv 1) (pa_cons (pv 2) (pa_cons (pv 3) (pa_cons (pv 4) pa_nil)))))))))))))))))))), ?_⟩
    refine ⟨_, rfl, s, _, rfl, .inl hs, _, _, _, _, rfl, by rw [List.length_map]; omega, by rw [List.length_map]; omega, ?_⟩
    refine ⟨_, rfl, w, _, rfl, .inl hw, _, _, _, _, rfl, by rw [List.length_map]; omega, by rw [List.length_map]; omega, ?_⟩
    refine ⟨_, rfl, r, _, rfl, .inl hr', _, _, _, _, rfl, by rw [List.length_map]; omega, by rw [List.length_map]; omega, ?_⟩
    refine ⟨_, rfl, b, _, rfl, .inl hb, _, _, _, _, rfl, by rw [List.length_map]; omega, by rw [List.length_map]; omega, ?_⟩
    refine ⟨_, rfl, s, ss, rfl, hs, ok.sr.nm, fun H1 S1 => ?_⟩
    refine ⟨_, rfl, w, ws, rfl, S1.seq hw, ok.wr.nm, fun H2 S2 => ?_⟩
    have S12 := S1.trans S2
    refine ⟨_, rfl, s, _, rfl, .inl (S12.seq hs), flat_of ss, ok.sr.noTw, fun H3 S3 => ?_⟩
    have S13 := S12.trans S3
    refine ⟨_, rfl, w, _, rfl, .inl (S13.seq hw), flat_of ws, ok.wr.noTw, fun H4 S4 => ?_⟩
    have S14 := S13.trans S4
    refine ⟨_, rfl, m, as, ms, rfl, S14.seq hm, hms.imp fun _ _ q => q.same S14, ok.m9, ok.mt, fun x hx => ⟨ok.so _ (ok.mo x hx).1, ok.so _ (ok.mo x hx).2⟩, fun H5 S5 => ?_⟩
    have S15 := S14.trans S5
    -- names of the rules
    refine ⟨_, rfl, r, rfl, ⟨_, S15.seq hr'⟩, fun D hD => ?_⟩
    refine lc_list (K := K) (a := r) (xs := bs.map V.ref) (fun i H' => Same H5 H' ∧ H' D = some (.lst (((rs.take i).map (·.p.nm)).map V.str))) ⟨Same.upd hD, upd_same⟩ (fun i H' _ p => (S15.trans p.1).seq hr') ?_ ?_
    · rintro i x H' hi ⟨hS, hl⟩
      obtain ⟨a, y, rfl, hy, hat⟩ := hrs.get hi
      obtain ⟨d, t1, t2, t3, us, qs, ha, _⟩ := RlAt.same (S15.trans hS) hat
      have il : i < rs.length := (List.getElem?_eq_some_iff.mp hy).1
      refine ⟨rfl, ?_⟩
      refine ⟨_, rfl, a, RB, d, _, _, rfl, ha, TR.cl, TR.nn, rulF_name _ _ _ _ _, _, hl, ?_, ?_, ?_⟩
      · rw [List.length_map, List.length_map, List.length_take]
        exact Nat.lt_of_le_of_lt (show _ ≤ 100 by omega) (by decide)
      · intro b o h
        rw [upd_ne (ne_of_none h hD)]
        exact hS b o h
      · rw [upd_same, List.take_add_one, hy, List.map_append, List.map_append]
        rfl
    rintro H6 ⟨S6, hl6⟩
    rw [List.length_map, lr, List.take_length] at hl6
    refine ⟨D, _, rfl, .inl (SqL.of hl6), flat_of _, noTw_of ok.rn, fun H7 S7 => ?_⟩
    have S17 := (S15.trans S6).trans S7
    -- names of the bars
    refine ⟨_, rfl, b, rfl, ⟨_, S17.seq hb⟩, fun D2 hD2 => ?_⟩
    refine lc_list (K := K) (a := b) (xs := cs.map V.ref) (fun i H' => Same H7 H' ∧ H' D2 = some (.lst (((ps.take i).map (·.nm)).map V.str))) ⟨Same.upd hD2, upd_same⟩ (fun i H' _ p => (S17.trans p.1).seq hb) ?_ ?_
    · rintro i x H' hi ⟨hS, hl⟩
      obtain ⟨a, y, rfl, hy, hat⟩ := hps.get hi
      obtain ⟨d, t1, t2, us, qs, ha, _⟩ := BrAt.same (S17.trans hS) hat
      have il : i < ps.length := (List.getElem?_eq_some_iff.mp hy).1
      refine ⟨rfl, ?_⟩
      refine ⟨_, rfl, a, BB, d, _, _, rfl, ha, TB.cl, TB.nn, barF_name _ _ _, _, hl, ?_, ?_, ?_⟩
      · rw [List.length_map, List.length_map, List.length_take]
        exact Nat.lt_of_le_of_lt (show _ ≤ 100 by omega) (by decide)
      · intro b o h
        rw [upd_ne (ne_of_none h hD2)]
        exact hS b o h
      · rw [upd_same, List.take_add_one, hy, List.map_append, List.map_append]
        rfl
    rintro H8 ⟨S8, hl8⟩
    rw [List.length_map, lb, List.take_length] at hl8
    refine ⟨D2, _, rfl, .inl (SqL.of hl8), flat_of _, noTw_of ok.bn, fun H9 S9 => ?_⟩
    have S19 := (S17.trans S8).trans S9
    -- sorts
    refine ⟨_, rfl, _, rfl, _, rfl, r, _, rfl, .inr (S19.seq hr'), _, rfl, b, _, rfl, .inr (S19.seq hb), ?_⟩
    show (bs.map V.ref ++ (cs.map V.ref ++ [])).length ≤ sizeLine ∧ _
    rw [show (bs.map V.ref ++ (cs.map V.ref ++ [])) = (bs ++ cs).map V.ref by rw [List.append_nil, List.map_append]]
    refine ⟨Nat.le_trans (show _ ≤ 1000 by rw [List.length_map, List.length_append]; omega) (by decide), fun q hq => ?_⟩
    have Sq : Same H9 (upd H9 q (.lst ((bs ++ cs).map V.ref))) := Same.upd hq
    have eq : (upd H9 q (.lst ((bs ++ cs).map V.ref))) q = some (.lst ((bs ++ cs).map V.ref)) := upd_same
    generalize upd H9 q (.lst ((bs ++ cs).map V.ref)) = Hq at Sq eq
    have S1q := S19.trans Sq
    have pvs : AllAt (PvAt K Hq) (bs ++ cs) (rs.map (·.p.vars) ++ ps.map (·.vars)) := (AllAt.map (f := fun x : RlD => x.p.vars) (hrs.imp fun _ _ z => (z.same S1q).pv TR)).append (AllAt.map (f := fun x : PtD => x.vars) (hps.imp fun _ _ z => (z.same S1q).pv TB))
    refine ⟨s, m, q, ss, as, bs ++ cs, ms, _, rfl, S1q.seq hs, S1q.seq hm, hms.imp fun _ _ z => z.same S1q, SqL.of eq, pvs, ok.m9, ?_, ?_, ok.mo, ?_, fun HA SA => ?_⟩
    · rw [List.length_append, List.length_map, List.length_map]
      omega
    · intro v hv
      rcases List.mem_append.mp hv with z | z
      · obtain ⟨x, hx, rfl⟩ := List.mem_map.mp z
        exact (ok.rv x hx).1
      · obtain ⟨x, hx, rfl⟩ := List.mem_map.mp z
        exact (ok.bv x hx).1
    · intro v hv
      rcases List.mem_append.mp hv with z | z
      · obtain ⟨x, hx, rfl⟩ := List.mem_map.mp z
        exact (ok.rv x hx).2.2.1
      · obtain ⟨x, hx, rfl⟩ := List.mem_map.mp z
        exact (ok.bv x hx).2.2.1
    have S1A := S1q.trans SA
    refine ⟨_, rfl, _, rfl, s, m, ss, as, ms, rfl, S1A.seq hs, S1A.seq hm, hms.imp fun _ _ z => z.same S1A, ok.sr.nd, ok.mu, ?_⟩
    exact ⟨_, rfl, _, rfl, _, rfl, _, rfl, w, m, r, b, ws, as, bs, cs, ms, rs, ps, rfl, S1A.seq hw, S1A.seq hm, hms.imp fun _ _ z => z.same S1A, S1A.seq hr', hrs.imp fun _ _ z => z.same S1A, S1A.seq hb, hps.imp fun _ _ z => z.same S1A, ok.m9, by omega, by omega, ok.ml, fun x hx => (ok.rv x hx).2.1, fun x hx => (ok.bv x hx).2.1, ok.mw, fun x hx => (ok.rv x hx).2.2.2, fun x hx => (ok.bv x hx).2.2.2, fun HB SB => k _ (S1A.trans SB)⟩
end
end Wm
namespace Wm
open PySem L2 StX
def schF (l1 l2 l3 l4 l5 : Addr) : List (Str × V) := putF "own_bars" (.ref l5) (putF "own_rules" (.ref l4) (putF "own_makings" (.ref l3) (putF "own_words" (.ref l2) (putF "own_sorts" (.ref l1) []))))
theorem lookF {f : Str} {v : V} {fs : List (Str × V)} : (putF f v fs).lookup f = some v := by rw [lookup_putF, if_pos rfl]
theorem lookN {f g : Str} {v : V} {fs : List (Str × V)} (h : ¬ g = f) : (putF f v fs).lookup g = fs.lookup g := by rw [lookup_putF, if_neg h]
theorem schF_so (l1 l2 l3 l4 l5 : Addr) : (schF l1 l2 l3 l4 l5).lookup ("own_sorts" : Str) = some (.ref l1) := by
  unfold schF
  rw [lookN (by decide +kernel), lookN (by decide +kernel), lookN (by decide +kernel), lookN (by decide +kernel), lookF]
theorem schF_wo (l1 l2 l3 l4 l5 : Addr) : (schF l1 l2 l3 l4 l5).lookup ("own_words" : Str) = some (.ref l2) := by
  unfold schF
  rw [lookN (by decide +kernel), lookN (by decide +kernel), lookN (by decide +kernel), lookF]
theorem schF_mk (l1 l2 l3 l4 l5 : Addr) : (schF l1 l2 l3 l4 l5).lookup ("own_makings" : Str) = some (.ref l3) := by
  unfold schF
  rw [lookN (by decide +kernel), lookN (by decide +kernel), lookF]
theorem schF_ru (l1 l2 l3 l4 l5 : Addr) : (schF l1 l2 l3 l4 l5).lookup ("own_rules" : Str) = some (.ref l4) := by
  unfold schF
  rw [lookN (by decide +kernel), lookF]
theorem schF_ba (l1 l2 l3 l4 l5 : Addr) : (schF l1 l2 l3 l4 l5).lookup ("own_bars" : Str) = some (.ref l5) := by
  unfold schF
  rw [lookF]
/-- no other field -/
theorem schF_no {g : Str} (h1 : ¬ g = "own_bars") (h2 : ¬ g = "own_rules") (h3 : ¬ g = "own_makings") (h4 : ¬ g = "own_words") (h5 : ¬ g = "own_sorts") (l1 l2 l3 l4 l5 : Addr) : (schF l1 l2 l3 l4 l5).lookup g = none := by
  unfold schF
  rw [lookN h1, lookN h2, lookN h3, lookN h4, lookN h5]
  rfl
structure TxSch (K : PySem.W.Frag) (mg : Str → Option Value) (S fS : Addr) : Prop where
  cl : Cls K S
  n1 : NoAttr K S "own_sorts"
  n2 : NoAttr K S "own_words"
  n3 : NoAttr K S "own_makings"
  n4 : NoAttr K S "own_rules"
  n5 : NoAttr K S "own_bars"
  g : mg "Scheme" = some (.ref S)
  m : Mk K S fS
/-- a scheme at x, of these sorts, words, makings, rules, bars -/
def SchG (S : Addr) (H : Hp) (x : Addr) (ss ws : List Str) (as bs cs : List Addr) : Prop := ∃ dx l1 l2 l3 l4 l5, H x = some (.ins S dx (schF l1 l2 l3 l4 l5)) ∧ H l1 = some (.lst (ss.map V.str)) ∧ H l2 = some (.lst (ws.map V.str)) ∧ H l3 = some (.lst (as.map V.ref)) ∧ H l4 = some (.lst (bs.map V.ref)) ∧ H l5 = some (.lst (cs.map V.ref))
theorem SchG.same {S : Addr} {H H' : Hp} {x : Addr} {ss ws : List Str} {as bs cs : List Addr} (s : Same H H') (h : SchG S H x ss ws as bs cs) : SchG S H' x ss ws as bs cs := by
  obtain ⟨dx, l1, l2, l3, l4, l5, h0, h1, h2, h3, h4, h5⟩ := h
  exact ⟨dx, l1, l2, l3, l4, l5, s _ _ h0, s _ _ h1, s _ _ h2, s _ _ h3, s _ _ h4, s _ _ h5⟩
/-- its own lists are new -/
def SchF (S : Addr) (H0 H : Hp) (x : Addr) (ss ws : List Str) (as bs cs : List Addr) : Prop := ∃ dx l1 l2 l3 l4 l5, (H0 l1 = none ∧ H0 l2 = none ∧ H0 l3 = none ∧ H0 l4 = none ∧ H0 l5 = none) ∧ H x = some (.ins S dx (schF l1 l2 l3 l4 l5)) ∧ H l1 = some (.lst (ss.map V.str)) ∧ H l2 = some (.lst (ws.map V.str)) ∧ H l3 = some (.lst (as.map V.ref)) ∧ H l4 = some (.lst (bs.map V.ref)) ∧ H l5 = some (.lst (cs.map V.ref))
/-- what is handed in for a list that may be left out -/
def Own (K : PySem.W.Frag) (H : Hp) (v : V) (xs : List V) : Prop := (v = .non ∧ xs = []) ∨ ∃ l, v = .ref l ∧ SqL K H l xs
theorem Own.same {K : PySem.W.Frag} {H H' : Hp} {v : V} {xs : List V} (s : Same H H') (h : Own K H v xs) : Own K H' v xs := by
  rcases h with h | ⟨l, e, h⟩
  · exact .inl h
  · exact .inr ⟨l, e, s.seq h⟩
def spOL2 (K : PySem.W.Frag) : Sp := fun vs H Q _ => ∃ (x : V) (xs : List V), vs = [x] ∧ Own K H x xs ∧ ∀ d, H d = none → Q (.ref d) (upd H d (.lst xs))
/-- the parts of a whole scheme stand -/
structure Parts (K : PySem.W.Frag) (MB RB BB : Addr) (H : Hp) (as bs cs : List Addr) (ms : List MkD) (rs : List RlD) (ps : List PtD) : Prop where
  am : AllAt (MkAt K MB H) as ms
  ar : AllAt (RlAt K RB H) bs rs
  ab : AllAt (BrAt K BB H) cs ps
theorem Parts.same {K : PySem.W.Frag} {MB RB BB : Addr} {H H' : Hp} {as bs cs : List Addr} {ms : List MkD} {rs : List RlD} {ps : List PtD} (s : Same H H') (h : Parts K MB RB BB H as bs cs ms rs ps) : Parts K MB RB BB H' as bs cs ms rs ps :=
  ⟨h.am.imp fun _ _ q => q.same s, h.ar.imp fun _ _ q => q.same s, h.ab.imp fun _ _ q => q.same s⟩
def spSch (K : PySem.W.Frag) (S MB RB BB : Addr) : Sp := fun vs H Q _ => ∃ (H0 : Hp) (x dx s w : Addr) (vm vr vb : V) (ss ws : List Str) (as bs cs : List Addr) (ms : List MkD) (rs : List RlD) (ps : List PtD), vs = [.ref x, .ref s, .ref w, vm, vr, vb] ∧ Same H0 H ∧ H0 x = none ∧ H x = some (.ins S dx []) ∧ SqL K H0 s (ss.map V.str) ∧ SqL K H0 w (ws.map V.str) ∧
  Own K H0 vm (as.map V.ref) ∧ Own K H0 vr (bs.map V.ref) ∧ Own K H0 vb (cs.map V.ref) ∧ Parts K MB RB BB H0 as bs cs ms rs ps ∧ SchOk ss ws ms rs ps ∧ ∀ H', Same H0 H' → SchF S H0 H' x ss ws as bs cs → Q .non H'
/-- all but x stands -/
def Keep (x : Addr) (H H' : Hp) : Prop := ∀ a o, a ≠ x → H a = some o → H' a = some o
theorem fstep {H0 H : Hp} {x l S dx : Addr} {fs : List (Str × V)} {f : Str} {xs : List V} (S0 : Same H0 H) (x0 : H0 x = none) (hx : H x = some (.ins S dx fs)) (hl : H l = none) :
    l ≠ x ∧ (upd H l (.lst xs)) x = some (.ins S dx fs) ∧ ∃ H', H' = upd (upd H l (.lst xs)) x (.ins S dx (putF f (.ref l) fs)) ∧ Same H0 H' ∧ H' l = some (.lst xs) ∧ H' x = some (.ins S dx (putF f (.ref l) fs)) ∧ Keep x H H' := by
  have n : l ≠ x := fun z => by
    rw [z, hx] at hl
    cases hl
  refine ⟨n, (upd_ne n.symm).trans hx, _, rfl, ?_, (upd_ne n).trans upd_same, upd_same, ?_⟩
  · intro b o e
    rw [upd_ne (ne_of_none e x0), upd_ne (ne_of_none (S0 b o e) hl)]
    exact S0 b o e
  · intro a o na e
    rw [upd_ne na, upd_ne (ne_of_none e hl)]
    exact e
section
variable {P : Program} {w : World} {K : PySem.W.Frag} {mg : Str → Option Value} {base : Heap}
theorem ok_ol2 {f : Addr} {fd : FuncData} (F : Fun K "own_list" "own_list" sOL f fd) (tl : mg "list" = none) : FnOk P w K mg base CX0 1 f fd ["rows"] (spOL2 K) := by
  refine F.ok scOL (fun vs H Q E h => ?_) (fun cdv A outer s H vs Q E hr h => ?_)
  · obtain ⟨x, xs, rfl, _⟩ := h
    rfl
  · obtain ⟨x, xs, rfl, h, k⟩ := h
    refine ⟨_, (pss_cons (ps_if (pt_cmp (pc_isN (pv 0))) (pss_one (ps_ret (pe_lst pa_nil))) pss_nil)
      (pss_one (ps_ret (pe_callTy call_list_of (by rfl) tl (by decide +kernel) (pa_cons (pv 0) pa_nil))))), ?_⟩
    refine ⟨_, rfl, _, rfl, ?_⟩
    rcases h with ⟨rfl, rfl⟩ | ⟨l, rfl, hl⟩
    · exact iteT ⟨Nat.zero_le _, fun d hd => k d hd⟩
    · exact iteF ⟨_, rfl, l, _, rfl, .inl hl, fun d hd => k d hd⟩
theorem scSch : FnScope ["self", "sorts", "words", "makings", "rules", "bars"] ["self", "sorts", "words", "makings", "rules", "bars"] (defScope sSch) := ⟨rfl, rfl, rfl, by decide +kernel, rfl, by decide +kernel, by decide +kernel⟩
theorem ok_sch {f fO fC S MB RB BB : Addr} {fd dO dC : FuncData} {dvs : List V} (F : FunD K "__init__" "Scheme.__init__" (defArgs sSch) (defBody sSch) (defScope sSch) dvs [] f fd) (tl : mg "list" = none) (TC : TxSch K mg S f) (DO : Dn K mg "own_list" sOL ["rows"] fO dO) (DC : Dn K mg "check_scheme" sCS ["sorts", "words", "makings", "rules", "bars"] fC dC)
    (GC : FnOk P w K mg base CX0 3 fC dC ["sorts", "words", "makings", "rules", "bars"] (spCS K MB RB BB)) : FnOk P w K mg base CX0 4 f fd ["self", "sorts", "words", "makings", "rules", "bars"] (spSch K S MB RB BB) := by
  have GO : FnOk P w K mg base CX0 1 fO dO _ (spOL2 K) := ok_ol2 DO.F tl
  refine F.ok scSch (fun vs H Q E h => ?_) (fun cdv A outer s H vs Q E hr h => ?_)
  · obtain ⟨H0, x, dx, s, w, vm, vr, vb, ss, ws, as, bs, cs, ms, rs, ps, rfl, _⟩ := h
    rfl
  · obtain ⟨H0, x, dx, s, w, vm, vr, vb, ss, ws, as, bs, cs, ms, rs, ps, rfl, S0, x0, hx, hs, hw, hm, hr', hb, pt, ok, k⟩ := h
    have hr1 : Room 1 _ := hr.mono (by decide)
    refine ⟨_, (pss_cons (ps_fld (pv 0) (pe_callTy call_list_of (by rfl) tl (by decide +kernel) (pa_cons (pv 1) pa_nil)) rfl)
      (pss_cons (ps_fld (pv 0) (pe_callTy call_list_of (by rfl) tl (by decide +kernel) (pa_cons (pv 2) pa_nil)) rfl)
      (pss_cons (ps_fld (pv 0) (pe_call GO hr1 rfl DO.g DO.F.kp DO.b .nil pass0 (pa_cons (pv 3) pa_nil)) rfl)
      (pss_cons (ps_fld (pv 0) (pe_call GO hr1 rfl DO.g DO.F.kp DO.b .nil pass0 (pa_cons (pv 4) pa_nil)) rfl)
      (pss_cons (ps_fld (pv 0) (pe_call GO hr1 rfl DO.g DO.F.kp DO.b .nil pass0 (pa_cons (pv 5) pa_nil)) rfl)
      (pss_one (ps_expr (pe_call GC hr rfl DC.g DC.F.kp DC.b .nil pass0 (pa_cons (pe_fld (pv 0) rfl) (pa_cons (pe_fld (pv 0) rfl) (pa_cons (pe_fld (pv 0) rfl) (pa_cons (pe_fld (pv 0) rfl) (pa_cons (pe_fld (pv 0) rfl) pa_nil))))))))))))), ?_⟩
    refine ⟨_, rfl, s, _, rfl, .inl (S0.seq hs), fun l1 h1 => ?_⟩
    obtain ⟨n1, u1, H1, e1, S1, a1, x1, _⟩ := fstep (f := "own_sorts") (xs := ss.map V.str) S0 x0 hx h1
    refine ⟨_, rfl, x, S, dx, _, rfl, u1, TC.cl, TC.n1, by show 0 < 1000; decide, ?_⟩
    rw [← e1]
    have z1 : H0 l1 = none := S0.free h1
    clear e1 u1 h1
    refine ⟨_, rfl, w, _, rfl, .inl (S1.seq hw), fun l2 h2 => ?_⟩
    obtain ⟨n2, u2, H2, e2, S2, a2, x2, k2⟩ := fstep (f := "own_words") (xs := ws.map V.str) S1 x0 x1 h2
    refine ⟨_, rfl, x, S, dx, _, rfl, u2, TC.cl, TC.n2, Nat.lt_of_le_of_lt (putF_len _ _ _) (by decide), ?_⟩
    rw [← e2]
    have z2 : H0 l2 = none := S1.free h2
    clear e2 u2 h2
    have b1 := k2 _ _ n1 a1
    refine ⟨_, rfl, _, _, rfl, hm.same S2, fun l3 h3 => ?_⟩
    obtain ⟨n3, u3, H3, e3, S3, a3, x3, k3⟩ := fstep (f := "own_makings") (xs := as.map V.ref) S2 x0 x2 h3
    refine ⟨_, rfl, x, S, dx, _, rfl, u3, TC.cl, TC.n3, ?_, ?_⟩
    · have q1 := putF_len "own_sorts" (.ref l1) []
      have q2 := putF_len "own_words" (.ref l2) (putF "own_sorts" (.ref l1) [])
      simp only [List.length_nil] at *
      omega
    rw [← e3]
    have z3 : H0 l3 = none := S2.free h3
    clear e3 u3 h3
    have b1 := k3 _ _ n1 b1
    have b2 := k3 _ _ n2 a2
    refine ⟨_, rfl, _, _, rfl, hr'.same S3, fun l4 h4 => ?_⟩
    obtain ⟨n4, u4, H4, e4, S4, a4, x4, k4⟩ := fstep (f := "own_rules") (xs := bs.map V.ref) S3 x0 x3 h4
    refine ⟨_, rfl, x, S, dx, _, rfl, u4, TC.cl, TC.n4, ?_, ?_⟩
    · have q1 := putF_len "own_sorts" (.ref l1) []
      have q2 := putF_len "own_words" (.ref l2) (putF "own_sorts" (.ref l1) [])
      have q3 := putF_len "own_makings" (.ref l3) (putF "own_words" (.ref l2) (putF "own_sorts" (.ref l1) []))
      simp only [List.length_nil] at *
      omega
    rw [← e4]
    have z4 : H0 l4 = none := S3.free h4
    clear e4 u4 h4
    have b1 := k4 _ _ n1 b1
    have b2 := k4 _ _ n2 b2
    have b3 := k4 _ _ n3 a3
    refine ⟨_, rfl, _, _, rfl, hb.same S4, fun l5 h5 => ?_⟩
    obtain ⟨n5, u5, H5, e5, S5, a5, x5, k5⟩ := fstep (f := "own_bars") (xs := cs.map V.ref) S4 x0 x4 h5
    refine ⟨_, rfl, x, S, dx, _, rfl, u5, TC.cl, TC.n5, ?_, ?_⟩
    · have q1 := putF_len "own_sorts" (.ref l1) []
      have q2 := putF_len "own_words" (.ref l2) (putF "own_sorts" (.ref l1) [])
      have q3 := putF_len "own_makings" (.ref l3) (putF "own_words" (.ref l2) (putF "own_sorts" (.ref l1) []))
      have q4 := putF_len "own_rules" (.ref l4) (putF "own_makings" (.ref l3) (putF "own_words" (.ref l2) (putF "own_sorts" (.ref l1) [])))
      simp only [List.length_nil] at *
      omega
    rw [← e5]
    have z5 : H0 l5 = none := S4.free h5
    clear e5 u5 h5
    have b1 := k5 _ _ n1 b1
    have b2 := k5 _ _ n2 b2
    have b3 := k5 _ _ n3 b3
    have b4 := k5 _ _ n4 a4
    have x5 : H5 x = some (.ins S dx (schF l1 l2 l3 l4 l5)) := x5
    have pt5 := pt.same S5
    refine ⟨_, rfl, x, S, dx, _, _, rfl, x5, TC.cl, TC.n1, schF_so _ _ _ _ _, _, rfl, x, S, dx, _, _, rfl, x5, TC.cl, TC.n2, schF_wo _ _ _ _ _, _, rfl, x, S, dx, _, _, rfl, x5, TC.cl, TC.n3, schF_mk _ _ _ _ _, _, rfl, x, S, dx, _, _, rfl, x5, TC.cl, TC.n4, schF_ru _ _ _ _ _, _, rfl, x, S, dx, _, _, rfl, x5, TC.cl, TC.n5, schF_ba _ _ _ _ _, ?_⟩
    exact ⟨l1, l2, l3, l4, l5, ss, ws, as, bs, cs, ms, rs, ps, rfl, SqL.of b1, SqL.of b2, SqL.of b3, pt5.am, SqL.of b4, pt5.ar, SqL.of a5, pt5.ab, ok, fun H6 S6 => k H6 (S5.trans S6) ⟨dx, l1, l2, l3, l4, l5, ⟨z1, z2, z3, z4, z5⟩, S6 _ _ x5, S6 _ _ b1, S6 _ _ b2, S6 _ _ b3, S6 _ _ b4, S6 _ _ a5⟩⟩
/-! ### lists told -/
def spSMk (S : Addr) : Sp := fun vs H Q _ => ∃ (x : Addr) (ss ws : List Str) (as bs cs : List Addr), vs = [.ref x] ∧ SchG S H x ss ws as bs cs ∧ ∀ l, H l = none → Q (.ref l) (upd H l (.lst (as.map V.ref)))
def spSRu (S : Addr) : Sp := fun vs H Q _ => ∃ (x : Addr) (ss ws : List Str) (as bs cs : List Addr), vs = [.ref x] ∧ SchG S H x ss ws as bs cs ∧ ∀ l, H l = none → Q (.ref l) (upd H l (.lst (bs.map V.ref)))
def spSBa (S : Addr) : Sp := fun vs H Q _ => ∃ (x : Addr) (ss ws : List Str) (as bs cs : List Addr), vs = [.ref x] ∧ SchG S H x ss ws as bs cs ∧ ∀ l, H l = none → Q (.ref l) (upd H l (.lst (cs.map V.ref)))
theorem scSMk : FnScope ["self"] ["self"] (defScope sSMk) := ⟨rfl, rfl, rfl, by decide +kernel, rfl, by decide +kernel, by decide +kernel⟩
theorem ok_smk {f S fS : Addr} {fd : FuncData} (F : Fun K "makings" "Scheme.makings" sSMk f fd) (tl : mg "list" = none) (TC : TxSch K mg S fS) : FnOk P w K mg base CX0 1 f fd ["self"] (spSMk S) := by
  refine F.ok scSMk (fun vs H Q E h => ?_) (fun cdv A outer s H vs Q E hr h => ?_)
  · obtain ⟨x, ss, ws, as, bs, cs, rfl, _⟩ := h
    rfl
  · obtain ⟨x, ss, ws, as, bs, cs, rfl, ⟨dx, l1, l2, l3, l4, l5, h0, h1, h2, h3, h4, h5⟩, k⟩ := h
    refine ⟨_, (pss_one (ps_ret (pe_callTy call_list_of (by rfl) tl (by decide +kernel) (pa_cons (pe_fld (pv 0) rfl) pa_nil)))), ?_⟩
    exact ⟨_, rfl, x, S, dx, _, _, rfl, h0, TC.cl, TC.n3, schF_mk _ _ _ _ _, l3, _, rfl, .inl (SqL.of h3), fun l hl => k l hl⟩
theorem scSRu : FnScope ["self"] ["self"] (defScope sSRu) := ⟨rfl, rfl, rfl, by decide +kernel, rfl, by decide +kernel, by decide +kernel⟩
theorem ok_sru {f S fS : Addr} {fd : FuncData} (F : Fun K "rules" "Scheme.rules" sSRu f fd) (tl : mg "list" = none) (TC : TxSch K mg S fS) : FnOk P w K mg base CX0 1 f fd ["self"] (spSRu S) := by
  refine F.ok scSRu (fun vs H Q E h => ?_) (fun cdv A outer s H vs Q E hr h => ?_)
  · obtain ⟨x, ss, ws, as, bs, cs, rfl, _⟩ := h
    rfl
  · obtain ⟨x, ss, ws, as, bs, cs, rfl, ⟨dx, l1, l2, l3, l4, l5, h0, h1, h2, h3, h4, h5⟩, k⟩ := h
    refine ⟨_, (pss_one (ps_ret (pe_callTy call_list_of (by rfl) tl (by decide +kernel) (pa_cons (pe_fld (pv 0) rfl) pa_nil)))), ?_⟩
    exact ⟨_, rfl, x, S, dx, _, _, rfl, h0, TC.cl, TC.n4, schF_ru _ _ _ _ _, l4, _, rfl, .inl (SqL.of h4), fun l hl => k l hl⟩
theorem scSBa : FnScope ["self"] ["self"] (defScope sSBa) := ⟨rfl, rfl, rfl, by decide +kernel, rfl, by decide +kernel, by decide +kernel⟩
theorem ok_sba {f S fS : Addr} {fd : FuncData} (F : Fun K "bars" "Scheme.bars" sSBa f fd) (tl : mg "list" = none) (TC : TxSch K mg S fS) : FnOk P w K mg base CX0 1 f fd ["self"] (spSBa S) := by
  refine F.ok scSBa (fun vs H Q E h => ?_) (fun cdv A outer s H vs Q E hr h => ?_)
  · obtain ⟨x, ss, ws, as, bs, cs, rfl, _⟩ := h
    rfl
  · obtain ⟨x, ss, ws, as, bs, cs, rfl, ⟨dx, l1, l2, l3, l4, l5, h0, h1, h2, h3, h4, h5⟩, k⟩ := h
    refine ⟨_, (pss_one (ps_ret (pe_callTy call_list_of (by rfl) tl (by decide +kernel) (pa_cons (pe_fld (pv 0) rfl) pa_nil)))), ?_⟩
    exact ⟨_, rfl, x, S, dx, _, _, rfl, h0, TC.cl, TC.n5, schF_ba _ _ _ _ _, l5, _, rfl, .inl (SqL.of h5), fun l hl => k l hl⟩
theorem scSor : FnScope ["self"] ["self"] (defScope sSor) := ⟨rfl, rfl, rfl, by decide +kernel, rfl, by decide +kernel, by decide +kernel⟩
def spSor (S : Addr) : Sp := fun vs H Q _ => ∃ (x : Addr) (ss ws : List Str) (as bs cs : List Addr), vs = [.ref x] ∧ SchG S H x ss ws as bs cs ∧ ∀ l, H l = none → Q (.ref l) (upd H l (.lst (ss.map V.str)))
def spWor (S : Addr) : Sp := fun vs H Q _ => ∃ (x : Addr) (ss ws : List Str) (as bs cs : List Addr), vs = [.ref x] ∧ SchG S H x ss ws as bs cs ∧ ∀ l, H l = none → Q (.ref l) (upd H l (.lst (ws.map V.str)))
theorem ok_sor {f S fS : Addr} {fd : FuncData} (F : Fun K "sorts" "Scheme.sorts" sSor f fd) (tl : mg "list" = none) (TC : TxSch K mg S fS) : FnOk P w K mg base CX0 1 f fd ["self"] (spSor S) := by
  refine F.ok scSor (fun vs H Q E h => ?_) (fun cdv A outer s H vs Q E hr h => ?_)
  · obtain ⟨x, ss, ws, as, bs, cs, rfl, _⟩ := h
    rfl
  · obtain ⟨x, ss, ws, as, bs, cs, rfl, hx, k⟩ := h
    obtain ⟨dx, l1, l2, l3, l4, l5, hx, h1, h2, h3, h4, h5⟩ := hx
    refine ⟨_, (pss_one (ps_ret (pe_callTy call_list_of (by rfl) tl (by decide +kernel) (pa_cons (pe_fld (pv 0) rfl) pa_nil)))), ?_⟩
    exact ⟨_, rfl, x, S, dx, _, _, rfl, hx, TC.cl, TC.n1, schF_so _ _ _ _ _, l1, _, rfl, .inl (SqL.of h1), fun l hl => k l hl⟩
theorem scWor : FnScope ["self"] ["self"] (defScope sWor) := ⟨rfl, rfl, rfl, by decide +kernel, rfl, by decide +kernel, by decide +kernel⟩
theorem ok_wor {f S fS : Addr} {fd : FuncData} (F : Fun K "words" "Scheme.words" sWor f fd) (tl : mg "list" = none) (TC : TxSch K mg S fS) : FnOk P w K mg base CX0 1 f fd ["self"] (spWor S) := by
  refine F.ok scWor (fun vs H Q E h => ?_) (fun cdv A outer s H vs Q E hr h => ?_)
  · obtain ⟨x, ss, ws, as, bs, cs, rfl, _⟩ := h
    rfl
  · obtain ⟨x, ss, ws, as, bs, cs, rfl, hx, k⟩ := h
    obtain ⟨dx, l1, l2, l3, l4, l5, hx, h1, h2, h3, h4, h5⟩ := hx
    refine ⟨_, (pss_one (ps_ret (pe_callTy call_list_of (by rfl) tl (by decide +kernel) (pa_cons (pe_fld (pv 0) rfl) pa_nil)))), ?_⟩
    exact ⟨_, rfl, x, S, dx, _, _, rfl, hx, TC.cl, TC.n2, schF_wo _ _ _ _ _, l2, _, rfl, .inl (SqL.of h2), fun l hl => k l hl⟩
end
end Wm
/-! methods called within a try, by place and by name -/
namespace Wm
open PySem PySem.Spec PyProof.Rows L2
def tMethZ (C : Addr) (m : Str) (sp : Sp) (E : L2.St → XK) (ta : TE) (t : TA) : TE := fun σ H Q => ta σ H fun x H1 => ∃ a dx fs, x = .ref a ∧ H1 a = some (.ins C dx fs) ∧ fs.lookup m = none ∧ t σ H1 fun vs H2 => sp (x :: vs) H2 Q (E σ)
section
variable {X : Cx} {CX : CXT} {k : Nat} {f C : Addr} {fd : FuncData} {ps : List Str} {sp : Sp} {E : L2.St → XK} {m : Str} {pos apos kpos : Pos} {e o : Expr} {es : List Expr} {ta te : TE} {t : TA}
theorem pe_methZ {pl : Sem Bool} (he : PE X o ta) (c : Cls X.K C) (hm : Meth X.K C m f) (F : FnOk X.prog X.w X.K X.mg X.base CX k f fd ps sp) (hr : Room k X.A) (hb : Binds X.K fd ps []) (hx : ∀ σ, PassesAt CX X σ (E σ)) (ha : PA X (e :: es) t)
    (hst : starEach (e :: es) X.env = (false, eval e X.env) :: starEach es X.env := by rfl) (hpl : (backTo pos (starEach es X.env)).any (·.1) = false := by rfl)
    (ht : eval (.Call (.Attribute o m apos) (e :: es) [] pos) X.env = (do
      let ov ← eval o X.env
      standAt apos.atName
      let (f, first) ← holding [ov] (getMethod ov m pl)
      callWith pos f first (backTo pos (starEach (e :: es) X.env)) (backToKw pos (keywordEach [] X.env))) := by rfl) :
    PE X (.Call (.Attribute o m apos) (e :: es) [] pos) (tMethZ C m sp E ta t) := by
  refine ⟨fun pins s σ H Q I h => ?_⟩
  refine PySem.W.methodCall_KW (pl := pl) (thn (he.run pins s σ H _ I h) fun u s1 hh => ?_) ht
  obtain ⟨x, H1, I1, rx, a, dx, fs, ex, ea, l, q⟩ := hh
  subst ex
  obtain rfl : u = Value.ref a := rx
  refine getmeth_ok I1 ea c hm l ?_
  refine PySem.W.callWith_K (first := [.ref a]) (h₀ := X.base) I.ok.mod.kin hm.kp (thn (ha.run pos pins s1 σ H1 _ I1 q) fun us s2 hh => ?_) hst hpl
  obtain ⟨vs, H2, I2, r, q2⟩ := hh
  exact ⟨I2.kIn, run_fnS (us := .ref a :: us) (vs := .ref a :: vs) F hr hb (hx σ) I2 (.cons rfl r) q2⟩
/-- how one keyword is bound behind the object itself -/
def KwOne (K : PySem.W.Frag) (fd : FuncData) (ps : List Str) (x : Str) : Prop := ∀ (s : Shared) (u v : Value), K.In s.heap → BindsTo s fd ⟨[u], [(x, v)]⟩ (ps.zip [u, v])
/-- o.m(x=e) -/
theorem pe_methKZ {pl : Sem Bool} {x : Str} (ho : PE X o ta) (c : Cls X.K C) (hm : Meth X.K C m f) (F : FnOk X.prog X.w X.K X.mg X.base CX k f fd ps sp) (hr : Room k X.A) (hb : KwOne X.K fd ps x) (hx : ∀ σ, PassesAt CX X σ (E σ)) (he : PE X e te)
    (ht : eval (.Call (.Attribute o m apos) [] [⟨some x, e, kpos⟩] pos) X.env = (do
      let ov ← eval o X.env
      standAt apos.atName
      let (f, first) ← holding [ov] (getMethod ov m pl)
      callWith pos f first (backTo pos (starEach [] X.env)) (backToKw pos (keywordEach [⟨some x, e, kpos⟩] X.env))) := by rfl)
    (hall : (backToKw pos (keywordEach [⟨some x, e, kpos⟩] X.env)).all (·.1.isSome) = true := by rfl) (hks : (backToKw pos (keywordEach [⟨some x, e, kpos⟩] X.env)).filterMap (·.1) = [x] := by rfl) (hpl : ((backTo pos (starEach [] X.env)).any (·.1) || (backToKw pos (keywordEach [⟨some x, e, kpos⟩] X.env)).any (·.1.isNone)) = false := by rfl) (hps : ps.length = 2 := by rfl) :
    PE X (.Call (.Attribute o m apos) [] [⟨some x, e, kpos⟩] pos) (tMethZ C m sp E ta (tCons te tNil)) := by
  refine ⟨fun pins s σ H Q I h => ?_⟩
  refine PySem.W.methodCall_KW (pl := pl) (thn (ho.run pins s σ H _ I h) fun u s1 hh => ?_) ht
  obtain ⟨y, H1, I1, rx, a, dx, fs, ex, ea, l, q⟩ := hh
  subst ex
  obtain rfl : u = Value.ref a := rx
  refine getmeth_ok I1 ea c hm l ?_
  have hkw : PK X [⟨some x, e, kpos⟩] (tCons te tNil) := pk_cons he pk_nil
  refine PySem.W.callWith_KW0 (first := [.ref a]) (h₀ := X.base) I.ok.mod.kin hm.kp hall (thn (hkw.run pos pins s1 σ H1 _ I1 q) fun ws s2 hh => ?_) hpl
  obtain ⟨zs, H2, I2, rz, q2⟩ := hh
  refine ⟨I2.kIn, ?_⟩
  rw [hks]
  have hl := F.len _ _ _ _ q2
  cases rz with
  | nil =>
    rw [hps] at hl
    simp at hl
  | @cons v0 u0 vr ur r1 r2 =>
    cases r2 with
    | cons _ _ =>
      rw [hps] at hl
      simp at hl
    | nil =>
      have rv : Vals [V.ref a, v0] [Value.ref a, u0] := .cons rfl (.cons r1 .nil)
      refine wpAny_call (codeAny_mono (F.run X.A X.stack s2 H2 ⟨[Value.ref a], [(x, u0)]⟩ [Value.ref a, u0] [V.ref a, v0] Q (E σ) hr I2.env0 (hb s2 _ u0 I2.kIn) rv q2) fun r s' hq => ?_)
      cases r with
      | error er => exact hx σ pins H2 s2 er s' I2 hq
      | ok fl =>
        cases fl with
        | ret u => exact I2.after hq
        | next => exact False.elim hq
        | brk => exact False.elim hq
        | cont => exact False.elim hq
end
end Wm
namespace Wm
open PySem L2 StX
theorem getA {as : List Addr} {i : Nat} {v : V} (h : (as.map V.ref)[i]? = some v) : ∃ a, v = .ref a ∧ as[i]? = some a := by
  rw [List.getElem?_map] at h
  obtain ⟨a, e, rfl⟩ := Option.map_eq_some_iff.mp h
  exact ⟨a, rfl, e⟩
def spSR1 (K : PySem.W.Frag) (S RB : Addr) : Sp := fun vs H Q _ => ∃ (x : Addr) (z : Str) (ss ws : List Str) (as bs cs : List Addr) (rs : List RlD) (j : Nat) (a : Addr) (y : RlD), vs = [.ref x, .str z] ∧ SchG S H x ss ws as bs cs ∧ AllAt (RlAt K RB H) bs rs ∧ bs[j]? = some a ∧ rs[j]? = some y ∧ y.p.nm = z ∧ (∀ i y, i < j → rs[i]? = some y → y.p.nm ≠ z) ∧ Q (.ref a) H
def spSB1 (K : PySem.W.Frag) (S BB : Addr) : Sp := fun vs H Q _ => ∃ (x : Addr) (z : Str) (ss ws : List Str) (as bs cs : List Addr) (ps : List PtD) (j : Nat) (a : Addr) (y : PtD), vs = [.ref x, .str z] ∧ SchG S H x ss ws as bs cs ∧ AllAt (BrAt K BB H) cs ps ∧ cs[j]? = some a ∧ ps[j]? = some y ∧ y.nm = z ∧ (∀ i y, i < j → ps[i]? = some y → y.nm ≠ z) ∧ Q (.ref a) H
section
variable {P : Program} {w : World} {K : PySem.W.Frag} {mg : Str → Option Value} {base : Heap}
theorem scSR1 : FnScope ["self", "name", "rule"] ["self", "name"] (defScope sSR1) := ⟨rfl, rfl, rfl, by decide +kernel, rfl, by decide +kernel, by decide +kernel⟩
theorem ok_sr1 {f S fS RB fR : Addr} {fd : FuncData} (F : Fun K "rule" "Scheme.rule" sSR1 f fd) (TC : TxSch K mg S fS) (TR : TxRul K mg RB fR) : FnOk P w K mg base CX0 1 f fd ["self", "name"] (spSR1 K S RB) := by
  refine F.ok scSR1 (fun vs H Q E h => ?_) (fun cdv A outer s H vs Q E hr h => ?_)
  · obtain ⟨x, z, ss, ws, as, bs, cs, rs, j, a, y, rfl, _⟩ := h
    rfl
  · obtain ⟨x, z, ss, ws, as, bs, cs, rs, j, a, y, rfl, ⟨dx, l1, l2, l3, l4, l5, h0, h1, h2, h3, h4, h5⟩, hat, ha, hy, hz, hn, k⟩ := h
    refine ⟨_, (pss_cons (ps_for PassesOwn.never rfl (pi_list (pe_fld (pv 0) rfl)) (pg_name (i := 2) scSR1.nd rfl (Or.inl rfl)) (pss_one (ps_if (pt_cmpR op_eq (pe_fld (pv 2) rfl) (pv 1) (nomark _)) (pss_one (ps_ret (pv 2))) pss_nil)))
      (pss_one ps_never)), ?_⟩
    refine ⟨_, rfl, x, S, dx, _, _, rfl, h0, TC.cl, TC.n4, schF_ru _ _ _ _ _, l4, rfl, ⟨_, SqL.of h4⟩, for_list (K := K) (a := l4) (xs := bs.map V.ref) (fun i σ H' => H' = H ∧ i ≤ j ∧ ∃ v, σ = [some (.ref x), some (.str z), v]) ⟨rfl, Nat.zero_le _, _, rfl⟩ (fun i σ H' _ p => by rw [p.1]; exact SqL.of h4) ?_ ?_⟩
    · rintro i v σ H' hi ⟨rfl, hij, u, rfl⟩
      obtain ⟨b, y', rfl, hy', d, t1, t2, t3, us, qs, hb, _⟩ := hat.get hi
      obtain ⟨b', e, hb'⟩ := getA hi
      cases e
      refine ⟨_, rfl, b, RB, d, _, _, rfl, hb, TR.cl, TR.nn, rulF_name _ _ _ _ _, _, rfl, rfl, _, rfl, ite2 (fun q => ?_) (fun q => ?_)⟩
      · have e : y'.p.nm = z := by simpa using of_decide_eq_true q
        rcases Nat.lt_or_ge i j with lt | ge
        · exact absurd e (hn i y' lt hy')
        · obtain rfl : i = j := by omega
          rw [ha] at hb'
          cases hb'
          exact ⟨_, rfl, k⟩
      · have e : y'.p.nm ≠ z := fun e => by
          rw [e] at q
          exact q (decide_eq_true rfl)
        refine ⟨rfl, ?_, _, rfl⟩
        rcases Nat.lt_or_ge i j with lt | ge
        · exact lt
        · obtain rfl : i = j := by omega
          rw [hy] at hy'
          cases hy'
          exact absurd hz e
    · rintro σ H' ⟨_, hj, _⟩
      rw [List.length_map] at hj
      exact absurd (List.getElem?_eq_some_iff.mp ha).1 (by omega)
theorem scSB1 : FnScope ["self", "name", "bar"] ["self", "name"] (defScope sSB1) := ⟨rfl, rfl, rfl, by decide +kernel, rfl, by decide +kernel, by decide +kernel⟩
theorem ok_sb1 {f S fS BB fB : Addr} {fd : FuncData} (F : Fun K "bar" "Scheme.bar" sSB1 f fd) (TC : TxSch K mg S fS) (TB : TxBar K mg BB fB) : FnOk P w K mg base CX0 1 f fd ["self", "name"] (spSB1 K S BB) := by
  refine F.ok scSB1 (fun vs H Q E h => ?_) (fun cdv A outer s H vs Q E hr h => ?_)
  · obtain ⟨x, z, ss, ws, as, bs, cs, ps, j, a, y, rfl, _⟩ := h
    rfl
  · obtain ⟨x, z, ss, ws, as, bs, cs, ps, j, a, y, rfl, ⟨dx, l1, l2, l3, l4, l5, h0, h1, h2, h3, h4, h5⟩, hat, ha, hy, hz, hn, k⟩ := h
    refine ⟨_, (pss_cons (ps_for PassesOwn.never rfl (pi_list (pe_fld (pv 0) rfl)) (pg_name (i := 2) scSB1.nd rfl (Or.inl rfl)) (pss_one (ps_if (pt_cmpR op_eq (pe_fld (pv 2) rfl) (pv 1) (nomark _)) (pss_one (ps_ret (pv 2))) pss_nil)))
      (pss_one ps_never)), ?_⟩
    refine ⟨_, rfl, x, S, dx, _, _, rfl, h0, TC.cl, TC.n5, schF_ba _ _ _ _ _, l5, rfl, ⟨_, SqL.of h5⟩, for_list (K := K) (a := l5) (xs := cs.map V.ref) (fun i σ H' => H' = H ∧ i ≤ j ∧ ∃ v, σ = [some (.ref x), some (.str z), v]) ⟨rfl, Nat.zero_le _, _, rfl⟩ (fun i σ H' _ p => by rw [p.1]; exact SqL.of h5) ?_ ?_⟩
    · rintro i v σ H' hi ⟨rfl, hij, u, rfl⟩
      obtain ⟨b, y', rfl, hy', d, t1, t2, us, qs, hb, _⟩ := hat.get hi
      obtain ⟨b', e, hb'⟩ := getA hi
      cases e
      refine ⟨_, rfl, b, BB, d, _, _, rfl, hb, TB.cl, TB.nn, barF_name _ _ _, _, rfl, rfl, _, rfl, ite2 (fun q => ?_) (fun q => ?_)⟩
      · have e : y'.nm = z := by simpa using of_decide_eq_true q
        rcases Nat.lt_or_ge i j with lt | ge
        · exact absurd e (hn i y' lt hy')
        · obtain rfl : i = j := by omega
          rw [ha] at hb'
          cases hb'
          exact ⟨_, rfl, k⟩
      · have e : y'.nm ≠ z := fun e => by
          rw [e] at q
          exact q (decide_eq_true rfl)
        refine ⟨rfl, ?_, _, rfl⟩
        rcases Nat.lt_or_ge i j with lt | ge
        · exact lt
        · obtain rfl : i = j := by omega
          rw [hy] at hy'
          cases hy'
          exact absurd hz e
    · rintro σ H' ⟨_, hj, _⟩
      rw [List.length_map] at hj
      exact absurd (List.getElem?_eq_some_iff.mp ha).1 (by omega)
end
end Wm
/-! == and != of two lists whose items have an own __eq__, where all items are equal: the items' comparison may make objects -/
namespace Wm
open PySem PySem.Spec PyProof.Rows PySem.SeqAt PySem.MeetsSeq PySem.MeetsSeq3 L2

theorem lu_eq {prog : Program} {w : World} {A : Around} {R : Result → Shared → Prop} (l b : Addr) (items items2 : Array Value) (hsz : items.size = items2.size) (I : Nat → Shared → Prop)
    (hl : ∀ j s, I j s → s.heap.IsList l items ∧ s.heap.IsList b items2)
    (he : ∀ j s (h1 : j < items.size) (h2 : j < items2.size), I j s → wpAny (model prog w) A.in1 (eqBool items[j] items2[j]) (fun t s' => t = true ∧ I (j + 1) s') (fun e s' => R (.error e) s') s)
    (hR : ∀ s, I items.size s → R (.ok (.ret (.bool true))) s) (k : Nat) :
    ∀ i : Nat, items.size - i = k → i ≤ items.size → ∀ s, I i s → wpAny (model prog w) A.in1 (Builtin.«list.__eq__.loop» ⟨[.ref l, .ref b, rawInt i, rawInt 2], []⟩) (fun fin s' => match fin with | .done f => R (.ok f) s' | .again c' => c'.quiet = true ∧ codeAny (model prog w) A c' R s') (fun e s' => R (.error e) s') s := by
  induction k with
  | zero =>
    intro i hk hi s hs
    obtain ⟨⟨⟨cls, dd, data, sl⟩, ho, hc, n, hd⟩, ⟨⟨cls2, dd2, data2, sl2⟩, ho2, hc2, n2, hd2⟩⟩ := hl i s hs
    simp only at hc hd hc2 hd2
    subst hc hd hc2 hd2
    have e : i = items.size := by omega
    have h := hR s (e ▸ hs)
    obtain ⟨hp, g, d, tk, os⟩ := s
    wp_walk using wpAny_loadPart' ho, wpAny_loadPart' ho2
    have hi1 : items[((i : Nat) : Int).toNat]? = none := by simp; omega
    have hi2 : items2[((i : Nat) : Int).toNat]? = none := by simp; omega
    rw [hi1, hi2]
    wp_walk using wpAny_loadPart' ho, wpAny_loadPart' ho2
    show R (.ok (.ret (.bool (items.size == items2.size)))) _
    rw [hsz]
    simpa using h
  | succ k ih =>
    intro i hk hi s hs
    obtain ⟨⟨⟨cls, dd, data, sl⟩, ho, hc, n, hd⟩, ⟨⟨cls2, dd2, data2, sl2⟩, ho2, hc2, n2, hd2⟩⟩ := hl i s hs
    simp only at hc hd hc2 hd2
    subst hc hd hc2 hd2
    have hlt : i < items.size := by omega
    have hlt2 : i < items2.size := by omega
    have h := he i s hlt hlt2 hs
    obtain ⟨hp, g, d, tk, os⟩ := s
    wp_walk using wpAny_loadPart' ho, wpAny_loadPart' ho2
    have hi1 : items[((i : Nat) : Int).toNat]? = some items[i] := by simp [hlt]
    have hi2 : items2[((i : Nat) : Int).toNat]? = some items2[i] := by simp [hlt2]
    have hc : ((i : Int) + 1) = ((i + 1 : Nat) : Int) := by push_cast; rfl
    rw [hi1, hi2]
    refine wpAny_bind (wpAny_mono h (fun t s1 q => ?_) fun _ _ x => x)
    obtain ⟨rfl, h1⟩ := q
    obtain ⟨hp, g, d, tk, os⟩ := s1
    wp_walk
    rw [hc]
    exact ⟨plainId_quiet plain_eq_loop _, codeAny_builtin entry_eq_loop (by
      rw [Around.under_plainId plain_eq_loop _]
      exact ih (i + 1) (by omega) hlt _ h1)⟩

theorem lu_ne {prog : Program} {w : World} {A : Around} {R : Result → Shared → Prop} (l b : Addr) (items items2 : Array Value) (hsz : items.size = items2.size) (I : Nat → Shared → Prop)
    (hl : ∀ j s, I j s → s.heap.IsList l items ∧ s.heap.IsList b items2)
    (he : ∀ j s (h1 : j < items.size) (h2 : j < items2.size), I j s → wpAny (model prog w) A.in1 (eqBool items[j] items2[j]) (fun t s' => t = true ∧ I (j + 1) s') (fun e s' => R (.error e) s') s)
    (hR : ∀ s, I items.size s → R (.ok (.ret (.bool false))) s) (k : Nat) :
    ∀ i : Nat, items.size - i = k → i ≤ items.size → ∀ s, I i s → wpAny (model prog w) A.in1 (Builtin.«list.__eq__.loop» ⟨[.ref l, .ref b, rawInt i, rawInt 3], []⟩) (fun fin s' => match fin with | .done f => R (.ok f) s' | .again c' => c'.quiet = true ∧ codeAny (model prog w) A c' R s') (fun e s' => R (.error e) s') s := by
  induction k with
  | zero =>
    intro i hk hi s hs
    obtain ⟨⟨⟨cls, dd, data, sl⟩, ho, hc, n, hd⟩, ⟨⟨cls2, dd2, data2, sl2⟩, ho2, hc2, n2, hd2⟩⟩ := hl i s hs
    simp only at hc hd hc2 hd2
    subst hc hd hc2 hd2
    have e : i = items.size := by omega
    have h := hR s (e ▸ hs)
    obtain ⟨hp, g, d, tk, os⟩ := s
    wp_walk using wpAny_loadPart' ho, wpAny_loadPart' ho2
    have hi1 : items[((i : Nat) : Int).toNat]? = none := by simp; omega
    have hi2 : items2[((i : Nat) : Int).toNat]? = none := by simp; omega
    rw [hi1, hi2]
    wp_walk using wpAny_loadPart' ho, wpAny_loadPart' ho2
    show R (.ok (.ret (.bool (items.size != items2.size)))) _
    rw [hsz]
    simpa using h
  | succ k ih =>
    intro i hk hi s hs
    obtain ⟨⟨⟨cls, dd, data, sl⟩, ho, hc, n, hd⟩, ⟨⟨cls2, dd2, data2, sl2⟩, ho2, hc2, n2, hd2⟩⟩ := hl i s hs
    simp only at hc hd hc2 hd2
    subst hc hd hc2 hd2
    have hlt : i < items.size := by omega
    have hlt2 : i < items2.size := by omega
    have h := he i s hlt hlt2 hs
    obtain ⟨hp, g, d, tk, os⟩ := s
    wp_walk using wpAny_loadPart' ho, wpAny_loadPart' ho2
    have hi1 : items[((i : Nat) : Int).toNat]? = some items[i] := by simp [hlt]
    have hi2 : items2[((i : Nat) : Int).toNat]? = some items2[i] := by simp [hlt2]
    have hc : ((i : Int) + 1) = ((i + 1 : Nat) : Int) := by push_cast; rfl
    rw [hi1, hi2]
    refine wpAny_bind (wpAny_mono h (fun t s1 q => ?_) fun _ _ x => x)
    obtain ⟨rfl, h1⟩ := q
    obtain ⟨hp, g, d, tk, os⟩ := s1
    wp_walk
    rw [hc]
    exact ⟨plainId_quiet plain_eq_loop _, codeAny_builtin entry_eq_loop (by
      rw [Around.under_plainId plain_eq_loop _]
      exact ih (i + 1) (by omega) hlt _ h1)⟩

theorem mi_eq {prog : Program} {w : World} (l b : Addr) (items items2 : Array Value) (hsz : items.size = items2.size) (I : Nat → Shared → Prop)
    (hl : ∀ j s, I j s → s.heap.IsList l items ∧ s.heap.IsList b items2) :
    MeetsIn prog w (Builtin.«list.__eq__» ⟨[.ref l, .ref b], []⟩) (fun A R s => I 0 s ∧ (∀ j s (h1 : j < items.size) (h2 : j < items2.size), I j s → wpAny (model prog w) A.in1 (eqBool items[j] items2[j]) (fun t s' => t = true ∧ I (j + 1) s') (fun e s' => R (.error e) s') s) ∧ ∀ s, I items.size s → R (.ok (.ret (.bool true))) s) := by
  intro A R s ⟨hs, he, hR⟩
  obtain ⟨⟨⟨cls, dd, data, sl⟩, ho, hc, n, hd⟩, ⟨⟨cls2, dd2, data2, sl2⟩, ho2, hc2, n2, hd2⟩⟩ := hl 0 s hs
  simp only at hc hd hc2 hd2
  subst hc hd hc2 hd2
  obtain ⟨hp, g, d, tk, os⟩ := s
  have f3 := AutoSeq1.sub_list_list
  have hne : ¬ (items.size != items2.size) = true := by simp [hsz]
  wp_walk using wpAny_loadPart' ho, wpAny_loadPart' ho2
  exact ⟨plainId_quiet plain_eq_loop _, codeAny_builtin entry_eq_loop (by
    rw [Around.under_plainId plain_eq_loop _]
    exact lu_eq l b items items2 hsz I hl he hR _ 0 rfl (Nat.zero_le _) _ hs)⟩

theorem mi_ne {prog : Program} {w : World} (l b : Addr) (items items2 : Array Value) (hsz : items.size = items2.size) (I : Nat → Shared → Prop)
    (hl : ∀ j s, I j s → s.heap.IsList l items ∧ s.heap.IsList b items2) :
    MeetsIn prog w (Builtin.«list.__ne__» ⟨[.ref l, .ref b], []⟩) (fun A R s => I 0 s ∧ (∀ j s (h1 : j < items.size) (h2 : j < items2.size), I j s → wpAny (model prog w) A.in1 (eqBool items[j] items2[j]) (fun t s' => t = true ∧ I (j + 1) s') (fun e s' => R (.error e) s') s) ∧ ∀ s, I items.size s → R (.ok (.ret (.bool false))) s) := by
  intro A R s ⟨hs, he, hR⟩
  obtain ⟨⟨⟨cls, dd, data, sl⟩, ho, hc, n, hd⟩, ⟨⟨cls2, dd2, data2, sl2⟩, ho2, hc2, n2, hd2⟩⟩ := hl 0 s hs
  simp only at hc hd hc2 hd2
  subst hc hd hc2 hd2
  obtain ⟨hp, g, d, tk, os⟩ := s
  have f3 := AutoSeq1.sub_list_list
  have hne : ¬ (items.size != items2.size) = true := by simp [hsz]
  wp_walk using wpAny_loadPart' ho, wpAny_loadPart' ho2
  exact ⟨plainId_quiet plain_eq_loop _, codeAny_builtin entry_eq_loop (by
    rw [Around.under_plainId plain_eq_loop _]
    exact lu_ne l b items items2 hsz I hl he hR _ 0 rfl (Nat.zero_le _) _ hs)⟩

def KpAll (H H' : Hp) : Prop := ∀ q o, H q = some o → H' q = some o
/-- p == p2 of two objects, with what it comes to -/
def EqU (X : Cx) (A : Around) (p p2 : Addr) (H : Hp) : Prop := ∀ (pins : List (Addr × Obj)) (s : Shared) (σ : L2.St) (Q : Value → Shared → Prop), Inv X pins σ H s → (∀ s' H', Inv X pins σ H' s' → KpAll H H' → Q (.bool true) s') → ∀ {E : Value → Shared → Prop}, wpAny (model X.prog X.w) A (richCompare .Eq (.ref p) (.ref p2)) Q E s
def rLU (X : Cx) (k : Nat) (t : Bool) : V → V → Hp → VK → Prop := fun x y H Q => ∃ (a b : Addr) (as bs : List Addr), x = .ref a ∧ y = .ref b ∧ H a = some (.lst (as.map V.ref)) ∧ H b = some (.lst (bs.map V.ref)) ∧ as.length = bs.length ∧
  (∀ (j : Nat) (p p2 : Addr) (H' : Hp), as[j]? = some p → bs[j]? = some p2 → KpAll H H' → p = p2 ∨ (p ≠ p2 ∧ EqU X X.A.in1 p p2 H')) ∧ ∀ H', KpAll H H' → Q (.bl t) H'
theorem vals_lenU {xs : List V} {us : List Value} (h : Vals xs us) : us.length = xs.length := h.length.symm
theorem vals_refU : ∀ {as : List Addr} {us ws : List Value}, Vals (as.map V.ref) us → Vals (as.map V.ref) ws → ws = us
  | [], _, _, .nil, .nil => rfl
  | a :: as, _, _, .cons r t, .cons r' t' => by
    cases r
    cases r'
    rw [vals_refU t t']
theorem vals_atU : ∀ {as : List Addr} {us : List Value} {j : Nat}, Vals (as.map V.ref) us → j < as.length → ∃ p, as[j]? = some p ∧ ∀ {h : j < us.length}, us[j] = Value.ref p
  | a :: as, _, 0, .cons r t, _ => by
    cases r
    exact ⟨a, rfl, rfl⟩
  | a :: as, _, j + 1, .cons r t, h => by
    obtain ⟨p, e, q⟩ := vals_atU (j := j) t (by simpa using h)
    exact ⟨p, e, q⟩

theorem op_eqU {X : Cx} {k : Nat} (hr : Room (k + 2) X.A) : OpR X (compareOp .Eq) (rLU X k true) := by
  intro pins s σ H x y v u Q I rx ry h
  obtain ⟨a, b, as, bs, rfl, rfl, ha, hb, le, eqs, q⟩ := h
  cases rx
  cases ry
  obtain ⟨z, its, n1, r, e⟩ := I.hok a _ ha
  obtain ⟨z2, its2, n2, r2, e2⟩ := I.hok b _ hb
  have l1 := vals_lenU r
  have l2 := vals_lenU r2
  rw [List.length_map] at l1 l2
  show wpAny _ _ (richCompare .Eq (.ref a) (.ref b)) _ _ _
  refine wpAny_richCompare_same_room (T := "list") ⟨_, e, rfl⟩ ⟨_, e2, rfl⟩ PySem.F.slot_list_eq (call_meetsIn PySem.F.slot_list_eq ⟨_, e, rfl⟩ PySem.F.entry_list_eq (PySem.F.args_list_eq_2 _ _) (mi_eq (prog := X.prog) (w := X.w) a b its.toArray its2.toArray (by simp [l1, l2, le]) (fun j s' => ∃ H', Inv X pins σ H' s' ∧ KpAll H H') ?_) ?_) ?_
  · rintro j s' ⟨H', I', kp⟩
    obtain ⟨_, i1, _, q1, g1⟩ := I'.hok a _ (kp _ _ ha)
    obtain ⟨_, i2, _, q2, g2⟩ := I'.hok b _ (kp _ _ hb)
    obtain rfl := vals_refU r q1
    obtain rfl := vals_refU r2 q2
    exact ⟨⟨_, g1, rfl, _, rfl⟩, ⟨_, g2, rfl, _, rfl⟩⟩
  · refine ⟨⟨H, I, fun _ _ z => z⟩, ?_, ?_⟩
    · rintro j s' h1 h2 ⟨H', I', kp⟩
      simp at h1 h2
      obtain ⟨p, ep, e1⟩ := vals_atU r (show j < as.length by omega)
      obtain ⟨p2, ep2, e3⟩ := vals_atU r2 (show j < bs.length by omega)
      rw [show its.toArray[j] = Value.ref p by simpa using e1, show its2.toArray[j] = Value.ref p2 by simpa using e3]
      have qq := eqs j p p2 H' ep ep2 kp
      rcases qq with rfl | ⟨ne, hs⟩
      · exact SeqAt.EqAt.same (A := X.A.in1) (s := s') (Value.ref p) X.prog X.w _ _ ⟨rfl, H', I', kp⟩
      · unfold eqBool
        refine wpAny_holding ?_
        refine wpAny_ite_split (fun hab => absurd (by have := eq_of_beq hab; injection this) ne) (fun _ => ?_)
        refine wpAny_bind (hs pins s' σ _ I' fun s'' H'' I'' kp' => wpAny_truthy_bool ⟨rfl, H'', I'', fun q o z => kp' q o (kp q o z)⟩)
    · rintro s' ⟨H', I', kp⟩
      exact ⟨(fun z => nomatch z), .bl true, H', I', rfl, q H' kp⟩
  · exact hr.units0

theorem op_neU {X : Cx} {k : Nat} (hr : Room (k + 2) X.A) : OpR X (compareOp .NotEq) (rLU X k false) := by
  intro pins s σ H x y v u Q I rx ry h
  obtain ⟨a, b, as, bs, rfl, rfl, ha, hb, le, eqs, q⟩ := h
  cases rx
  cases ry
  obtain ⟨z, its, n1, r, e⟩ := I.hok a _ ha
  obtain ⟨z2, its2, n2, r2, e2⟩ := I.hok b _ hb
  have l1 := vals_lenU r
  have l2 := vals_lenU r2
  rw [List.length_map] at l1 l2
  show wpAny _ _ (richCompare .NotEq (.ref a) (.ref b)) _ _ _
  refine wpAny_richCompare_same_room (T := "list") ⟨_, e, rfl⟩ ⟨_, e2, rfl⟩ PySem.F.slot_list_ne (call_meetsIn PySem.F.slot_list_ne ⟨_, e, rfl⟩ PySem.F.entry_list_ne (PySem.F.args_list_ne_2 _ _) (mi_ne (prog := X.prog) (w := X.w) a b its.toArray its2.toArray (by simp [l1, l2, le]) (fun j s' => ∃ H', Inv X pins σ H' s' ∧ KpAll H H') ?_) ?_) ?_
  · rintro j s' ⟨H', I', kp⟩
    obtain ⟨_, i1, _, q1, g1⟩ := I'.hok a _ (kp _ _ ha)
    obtain ⟨_, i2, _, q2, g2⟩ := I'.hok b _ (kp _ _ hb)
    obtain rfl := vals_refU r q1
    obtain rfl := vals_refU r2 q2
    exact ⟨⟨_, g1, rfl, _, rfl⟩, ⟨_, g2, rfl, _, rfl⟩⟩
  · refine ⟨⟨H, I, fun _ _ z => z⟩, ?_, ?_⟩
    · rintro j s' h1 h2 ⟨H', I', kp⟩
      simp at h1 h2
      obtain ⟨p, ep, e1⟩ := vals_atU r (show j < as.length by omega)
      obtain ⟨p2, ep2, e3⟩ := vals_atU r2 (show j < bs.length by omega)
      rw [show its.toArray[j] = Value.ref p by simpa using e1, show its2.toArray[j] = Value.ref p2 by simpa using e3]
      have qq := eqs j p p2 H' ep ep2 kp
      rcases qq with rfl | ⟨ne, hs⟩
      · exact SeqAt.EqAt.same (A := X.A.in1) (s := s') (Value.ref p) X.prog X.w _ _ ⟨rfl, H', I', kp⟩
      · unfold eqBool
        refine wpAny_holding ?_
        refine wpAny_ite_split (fun hab => absurd (by have := eq_of_beq hab; injection this) ne) (fun _ => ?_)
        refine wpAny_bind (hs pins s' σ _ I' fun s'' H'' I'' kp' => wpAny_truthy_bool ⟨rfl, H'', I'', fun q o z => kp' q o (kp q o z)⟩)
    · rintro s' ⟨H', I', kp⟩
      exact ⟨(fun z => nomatch z), .bl false, H', I', rfl, q H' kp⟩
  · exact hr.units0

end Wm
/-! what B35 asks of two items: an own __eq__ that says True -/
namespace Wm
open PySem PySem.Spec PyProof.Rows L2 PySem.W
theorem eqU_of {X : Cx} {C f : Addr} {fd : FuncData} {k : Nat} {sp : Sp} {ps : List Str} (hs : findIn X.K (.ref C) "__eq__" = some (some (.ref f))) (hf : isFn X.K (.ref f) = true) (F : FnOk X.prog X.w X.K X.mg X.base CX0 k f fd ps sp) (hr : Room k X.A.in1) (hb : L2.Binds X.K fd ps [])
    {p p2 dx dy : Addr} {fs gs : List (Str × V)} {H : Hp} (ha : H p = some (.ins C dx fs)) (hb' : H p2 = some (.ins C dy gs)) (nf : notFirst X.K C (.ref C) = true) (h : sp [.ref p, .ref p2] H (fun v H' => v = .bl true ∧ KpAll H H') E0) : EqU X X.A.in1 p p2 H := by
  intro pins s σ Q I q E
  obtain ⟨mA, oa, _⟩ := ins_get I.hok ha
  obtain ⟨mB, ob, _⟩ := ins_get I.hok hb'
  obtain ⟨od, J, _⟩ := oa.look
  obtain ⟨od', J', _⟩ := ob.look
  obtain ⟨m, hF⟩ := I.fr
  refine cmp_K hr.units0 hF I.ok.mod.kin J (InstAt.type J') nf hs hf ?_
  have rv : Vals [V.ref p, V.ref p2] [Value.ref p, Value.ref p2] := .cons rfl (.cons rfl .nil)
  have hl : ([Value.ref p, Value.ref p2] ++ []).length = ps.length := F.len _ _ _ _ h
  have bd := hb s [Value.ref p, Value.ref p2] I.kIn hl
  rw [List.append_nil] at bd
  refine wpAny_call (codeAny_mono (F.run X.A.in1 X.stack s H ⟨[Value.ref p, Value.ref p2], []⟩ [Value.ref p, Value.ref p2] [V.ref p, V.ref p2] _ E0 hr I.env0.in1 bd rv h) fun r s' hq => ?_)
  cases r with
  | error e => exact hq.elim
  | ok fl =>
    cases fl with
    | next => exact hq.elim
    | brk => exact hq.elim
    | cont => exact hq.elim
    | ret u =>
      obtain ⟨v, H', I2, rv, rfl, kp⟩ := I.after (Q := fun v H' => v = .bl true ∧ KpAll H H') hq
      cases rv
      exact q _ _ I2 kp
end Wm
namespace Wm
open PySem L2 StX
theorem tn {σ : L2.St} {H : Hp} {f : List V → Hp → Prop} (h : f [] H) : tNil σ H f := h
/-- a call that may be read by either of two rules -/
theorem cr_or {X : Cx} {c : Value} {r1 r2 : List V → Hp → VK → Prop} (h1 : CallR X c r1) (h2 : CallR X c r2) : CallR X c (fun xs H Q => r1 xs H Q ∨ r2 xs H Q) := by
  intro pins s σ H xs us Q I r h
  rcases h with h | h
  · exact h1 pins s σ H xs us Q I r h
  · exact h2 pins s σ H xs us Q I r h
def rStrA (K : PySem.W.Frag) (Rl Br Mk : Addr) : List V → Hp → VK → Prop := fun xs H Q => rStrO Mk (spMS K Mk) xs H Q ∨ (rStrO Rl (spRS K Rl) xs H Q ∨ rStrO Br (spBS K Br) xs H Q)
theorem call_strA {X : Cx} {Rl Br Mk fRS fBS fMS fRE fBE fME : Addr} {dRS dBS dMS dRE dBE dME : FuncData} (W : Wst X.prog X.w X.K X.mg X.base Rl Br Mk fRS fBS fMS fRE fBE fME dRS dBS dMS dRE dBE dME) (hr : Room 6 X.A) : CallR X (.type "str") (rStrA X.K Rl Br Mk) :=
  cr_or (call_strO W.sM W.iM W.GMS (hr.mono (by decide)) W.bMS) (cr_or (call_strO W.sR W.iR W.GRS hr W.bRS) (call_strO W.sB W.iB W.GBS (hr.mono (by decide)) W.bBS))
theorem str_any {K : PySem.W.Frag} {Rl Br Mk : Addr} {H : Hp} {R : VK} {x : Addr} {p : Pt} (po : PtOk p) (hx : PtAt K Rl Br Mk H x p) (k : ∀ H', Same H H' → R (.str (ptRow p)) H') : rStrA K Rl Br Mk [.ref x] H R := by
  cases p with
  | rl nm vars cs g b => exact .inr (.inl (str_rl (Rl := Rl) (Br := Br) (Mk := Mk) po hx k))
  | br nm vars cs => exact .inr (.inr (str_br (Rl := Rl) (Br := Br) (Mk := Mk) po hx k))
  | mk mr md ds us => exact .inl (str_mk (Rl := Rl) (Br := Br) (Mk := Mk) po hx k)
def mkPt (m : MkD) : Pt := .mk m.mr m.md m.dn m.up
def rlPt (r : RlD) : Pt := .rl r.p.nm r.p.vars r.p.cs r.g r.bh
def brPt (b : PtD) : Pt := .br b.nm b.vars b.cs
def allPt (ms : List MkD) (rs : List RlD) (ps : List PtD) : List Pt := ms.map mkPt ++ (rs.map rlPt ++ ps.map brPt)
/-- what a scheme is made of -/
structure SchK (ss ws : List Str) (ms : List MkD) (rs : List RlD) (ps : List PtD) : Prop where
  ok : SchOk ss ws ms rs ps
  pt : ∀ p ∈ allPt ms rs ps, PtOk p
  sn : ∀ z ∈ ss, Nz z
  wn : ∀ z ∈ ws, Nz z
  m9 : ms.length ≤ 20
def hdRow (w : Str) (zs : List Str) : Str := Txt.join " " (w :: zs)
def rowsL (ss ws : List Str) (pts : List Pt) : List Str := hdRow "sorts" ss :: hdRow "words" ws :: pts.map ptRow
/-- the scheme at x, and its parts -/
def SchP (K : PySem.W.Frag) (S Rl Br Mk : Addr) (H : Hp) (x : Addr) (ss ws : List Str) (ms : List MkD) (rs : List RlD) (ps : List PtD) : Prop := ∃ as bs cs, SchG S H x ss ws as bs cs ∧ AllAt (PtAt K Rl Br Mk H) as (ms.map mkPt) ∧ AllAt (PtAt K Rl Br Mk H) bs (rs.map rlPt) ∧ AllAt (PtAt K Rl Br Mk H) cs (ps.map brPt)
theorem all_same {K : PySem.W.Frag} {Rl Br Mk : Addr} {H H' : Hp} {as : List Addr} {ps : List Pt} (s : Same H H') (h : AllAt (PtAt K Rl Br Mk H) as ps) : AllAt (PtAt K Rl Br Mk H') as ps := h.imp fun _ _ q => PtAt.same s q
theorem SchP.same {K : PySem.W.Frag} {S Rl Br Mk : Addr} {H H' : Hp} {x : Addr} {ss ws : List Str} {ms : List MkD} {rs : List RlD} {ps : List PtD} (s : Same H H') (h : SchP K S Rl Br Mk H x ss ws ms rs ps) : SchP K S Rl Br Mk H' x ss ws ms rs ps := by
  obtain ⟨as, bs, cs, g, a, b, c⟩ := h
  exact ⟨as, bs, cs, g.same s, all_same s a, all_same s b, all_same s c⟩
structure Mt9 (P : Program) (w : World) (K : PySem.W.Frag) (mg : Str → Option Value) (base : Heap) (S Rl Br fSo fWo fMk fRu fBa f1 f2 : Addr) (dSo dWo dMk dRu dBa d1 d2 : FuncData) : Prop where
  mSo : Meth K S "sorts" fSo
  bSo : Binds K dSo ["self"] []
  GSo : FnOk P w K mg base CX0 1 fSo dSo ["self"] (spSor S)
  mWo : Meth K S "words" fWo
  bWo : Binds K dWo ["self"] []
  GWo : FnOk P w K mg base CX0 1 fWo dWo ["self"] (spWor S)
  mMk : Meth K S "makings" fMk
  bMk : Binds K dMk ["self"] []
  GMk : FnOk P w K mg base CX0 1 fMk dMk ["self"] (spSMk S)
  mRu : Meth K S "rules" fRu
  bRu : Binds K dRu ["self"] []
  GRu : FnOk P w K mg base CX0 1 fRu dRu ["self"] (spSRu S)
  mBa : Meth K S "bars" fBa
  bBa : Binds K dBa ["self"] []
  GBa : FnOk P w K mg base CX0 1 fBa dBa ["self"] (spSBa S)
  mR1 : Meth K S "rule" f1
  bR1 : Binds K d1 ["self", "name"] []
  GR1 : FnOk P w K mg base CX0 1 f1 d1 ["self", "name"] (spSR1 K S Rl)
  mB1 : Meth K S "bar" f2
  bB1 : Binds K d2 ["self", "name"] []
  GB1 : FnOk P w K mg base CX0 1 f2 d2 ["self", "name"] (spSB1 K S Br)
theorem nz_len {zs : List Str} {w : Str} (h : ∀ z ∈ zs, Nz z) (hw : w.length ≤ 300) : ∀ z ∈ w :: zs, z.length ≤ 300 := fun z hz => by
  rcases List.mem_cons.mp hz with rfl | hz
  · exact hw
  · exact Nat.le_trans (h z hz).2 (by decide)
theorem hd_split {w : Str} {zs : List Str} (hw : Gd w) (hz : ∀ z ∈ zs, Gd z) : Txt.split (hdRow w zs) " " = w :: zs := by
  have e : PySem.Str.ofString " " = ⟨#[32]⟩ := by decide +kernel
  unfold hdRow
  rw [e]
  exact split_join (by simp) fun z h => by
    rcases List.mem_cons.mp h with rfl | h
    · exact hw.nb
    · exact (hz z h).nb
theorem hd_nb {w : Str} {zs : List Str} (hw : Gd w) (hz : ∀ z ∈ zs, Gd z) : ("" : Str) ∉ w :: zs := fun h => by
  rcases List.mem_cons.mp h with h | h
  · exact hw.p1 h.symm
  · exact (hz _ h).p1 rfl
theorem hd_len {w : Str} {zs : List Str} (hw : Gd w) (hz : ∀ z ∈ zs, Gd z) (l : zs.length ≤ 20) : (hdRow w zs).length ≤ 3000 := by
  have e := join_len " " (w :: zs)
  have e2 := sum_le (n := 30) (l := w :: zs) fun z h => by
    rcases List.mem_cons.mp h with rfl | h
    · exact hw.ln
    · exact (hz z h).ln
  have e1 : (PySem.Str.ofString " ").length = 1 := by decide +kernel
  show (Txt.join " " (w :: zs)).length ≤ 3000
  rw [e1] at e
  rw [List.length_cons] at e e2
  omega
def spNb (K : PySem.W.Frag) : Sp := fun vs H Q _ => ∃ (l : Addr) (n : Nat) (w : Str) (rows zs : List Str), vs = [.ref l, .int (n : Int), .str w] ∧ H l = some (.lst (rows.map V.str)) ∧ rows[n]? = some (hdRow w zs) ∧ rows.length ≤ 1000 ∧ Gd w ∧ (∀ z ∈ zs, Gd z) ∧ zs.length ≤ 20 ∧ ∀ d H', H d = none → Same H H' → H' d = some (.lst (zs.map V.str)) → Q (.ref d) H'
def spSw (K : PySem.W.Frag) (S Rl Br Mk : Addr) : Sp := fun vs H Q _ => ∃ (x : Addr) (ss ws : List Str) (ms : List MkD) (rs : List RlD) (ps : List PtD), vs = [.ref x] ∧ SchP K S Rl Br Mk H x ss ws ms rs ps ∧ SchK ss ws ms rs ps ∧ ∀ d H', H d = none → Same H H' → H' d = some (.lst ((rowsL ss ws (allPt ms rs ps)).map V.str)) → Q (.ref d) H'
section
variable {P : Program} {w : World} {K : PySem.W.Frag} {mg : Str → Option Value} {base : Heap}
theorem scSw : FnScope ["scheme", "parts", "part"] ["scheme"] (defScope sSw) := ⟨rfl, rfl, rfl, by decide +kernel, rfl, by decide +kernel, by decide +kernel⟩
theorem ok_sw {f S fS Rl Br Mk fRS fBS fMS fRE fBE fME fSo fWo fMk fRu fBa f1 f2 : Addr} {fd dRS dBS dMS dRE dBE dME dSo dWo dMk dRu dBa d1 d2 : FuncData} (F : Fun K "scheme_rows" "scheme_rows" sSw f fd) (T : TxB mg) (tstr : mg "str" = none) (TC : TxSch K mg S fS) (W : Wst P w K mg base Rl Br Mk fRS fBS fMS fRE fBE fME dRS dBS dMS dRE dBE dME) (W9 : Mt9 P w K mg base S Rl Br fSo fWo fMk fRu fBa f1 f2 dSo dWo dMk dRu dBa d1 d2) :
    FnOk P w K mg base CX0 7 f fd ["scheme"] (spSw K S Rl Br Mk) := by
  refine F.ok scSw (fun vs H Q E h => ?_) (fun cdv A outer s H vs Q E hr h => ?_)
  · obtain ⟨x, ss, ws, ms, rs, ps, rfl, _⟩ := h
    rfl
  · obtain ⟨x, ss, ws, ms, rs, ps, rfl, ⟨as, bs, cs, sg, pa, pb, pc⟩, sk, k⟩ := h
    have hr6 : Room 6 _ := hr
    have hr1 : Room 1 _ := hr.mono (by decide)
    obtain ⟨dx, l1, l2, l3, l4, l5, h0, h1, h2, h3, h4, h5⟩ := id sg
    refine ⟨_, (pss_cons (ps_set (i := 1) scSw.nd rfl (Or.inl rfl) (pe_lst (pa_star (pe_meth0 (pv 0) TC.cl W9.mMk W9.GMk hr1 W9.bMk .nil pass0) (pa_star (pe_meth0 (pv 0) TC.cl W9.mRu W9.GRu hr1 W9.bRu .nil pass0) (pa_star (pe_meth0 (pv 0) TC.cl W9.mBa W9.GBa hr1 W9.bBa .nil pass0) pa_nil)))))
      (pss_one (ps_ret (pe_lst (pa_cons (pe_join pe_str (pe_lst (pa_cons pe_str (pa_star (pe_meth0 (pv 0) TC.cl W9.mSo W9.GSo hr1 W9.bSo .nil pass0) pa_nil)))) (pa_cons (pe_join pe_str (pe_lst (pa_cons pe_str (pa_star (pe_meth0 (pv 0) TC.cl W9.mWo W9.GWo hr1 W9.bWo .nil pass0) pa_nil)))) (pa_star (pe_lc (own := [("part", 2)]) (g := gName 2) (tt := tYes) (te := (tCB (rStrA K Rl Br Mk) (tCons (tVar 2) tNil))) rfl scSw.nd (pi_list (pv 1)) (blkOk_by (N := ["scheme", "parts", "part"]) (sc := defScope sSw) (by decide +kernel)) (fun _ _ _ _ _ => (pg_name (i := 2) scSw.nd rfl (Or.inl rfl))) (fun _ _ _ _ _ => pts_nil) (fun _ _ _ _ _ => (pe_callTy (call_strA W hr6) (by rfl) tstr (by decide +kernel) (pa_cons (pv 2) pa_nil)))) pa_nil))))))), ?_⟩
    rw [show L2.start ["scheme", "parts", "part"] [.ref x] = [some (.ref x), none, none] from rfl]
    have nF : ∀ m : Str, m ≠ "own_sorts" → m ≠ "own_words" → m ≠ "own_makings" → m ≠ "own_rules" → m ≠ "own_bars" → (schF l1 l2 l3 l4 l5).lookup m = none := fun m a b c d e => schF_no e d c b a l1 l2 l3 l4 l5
    refine ⟨_, rfl, x, dx, _, rfl, h0, nF _ (by decide +kernel) (by decide +kernel) (by decide +kernel) (by decide +kernel) (by decide +kernel), x, ss, ws, as, bs, cs, rfl, sg, fun d1 n1 => ?_⟩
    have S1 := Same.upd (o := .lst (as.map V.ref)) n1
    have e1 : (upd H d1 (.lst (as.map V.ref))) d1 = _ := upd_same
    generalize upd H d1 (.lst (as.map V.ref)) = H1 at S1 e1
    refine ⟨d1, _, rfl, .inr (SqL.of e1), _, rfl, x, dx, _, rfl, S1 _ _ h0, nF _ (by decide +kernel) (by decide +kernel) (by decide +kernel) (by decide +kernel) (by decide +kernel), x, ss, ws, as, bs, cs, rfl, sg.same S1, fun d2 n2 => ?_⟩
    have S2 := Same.upd (o := .lst (bs.map V.ref)) n2
    have e2 : (upd H1 d2 (.lst (bs.map V.ref))) d2 = _ := upd_same
    generalize upd H1 d2 (.lst (bs.map V.ref)) = H2 at S2 e2
    have S02 := S1.trans S2
    refine ⟨d2, _, rfl, .inr (SqL.of e2), _, rfl, x, dx, _, rfl, S02 _ _ h0, nF _ (by decide +kernel) (by decide +kernel) (by decide +kernel) (by decide +kernel) (by decide +kernel), x, ss, ws, as, bs, cs, rfl, sg.same S02, fun d3 n3 => ?_⟩
    have S3 := Same.upd (o := .lst (cs.map V.ref)) n3
    have e3 : (upd H2 d3 (.lst (cs.map V.ref))) d3 = _ := upd_same
    generalize upd H2 d3 (.lst (cs.map V.ref)) = H3 at S3 e3
    have S03 := S02.trans S3
    have la := pa.len
    have lb := pb.len
    have lc := pc.len
    rw [List.length_map] at la lb lc
    have m9 := sk.m9
    have r8 := sk.ok.r8
    have b4 := sk.ok.b4
    refine ⟨d3, _, rfl, .inr (SqL.of e3), ?_, fun d4 n4 => ?_⟩
    · rw [List.append_nil, List.length_append, List.length_append, List.length_map, List.length_map, List.length_map]
      exact Nat.le_trans (show _ ≤ 1000 by omega) (by decide)
    have eq4 : as.map V.ref ++ (bs.map V.ref ++ (cs.map V.ref ++ [])) = (as ++ (bs ++ cs)).map V.ref := by
      rw [List.append_nil, List.map_append, List.map_append]
    rw [eq4]
    have S4 := Same.upd (o := .lst ((as ++ (bs ++ cs)).map V.ref)) n4
    have e4 : (upd H3 d4 (.lst ((as ++ (bs ++ cs)).map V.ref))) d4 = _ := upd_same
    generalize upd H3 d4 (.lst ((as ++ (bs ++ cs)).map V.ref)) = H4 at S4 e4
    have S04 := S03.trans S4
    dsimp only [gName, List.set_cons_succ, List.set_cons_zero]
    -- the sorts' row
    refine ⟨⟨_, rfl⟩, _, rfl, x, dx, _, rfl, S04 _ _ h0, nF _ (by decide +kernel) (by decide +kernel) (by decide +kernel) (by decide +kernel) (by decide +kernel), x, ss, ws, as, bs, cs, rfl, sg.same S04, fun d5 n5 => ?_⟩
    have S5 := Same.upd (o := .lst (ss.map V.str)) n5
    have e5 : (upd H4 d5 (.lst (ss.map V.str))) d5 = _ := upd_same
    generalize upd H4 d5 (.lst (ss.map V.str)) = H5 at S5 e5
    have s4 := sk.ok.s4
    have w5 := sk.ok.w5
    refine ⟨d5, _, rfl, .inr (SqL.of e5), ?_, fun d6 n6 => ?_⟩
    · rw [List.append_nil, List.length_cons, List.length_map]
      exact Nat.le_trans (show _ ≤ 1000 by omega) (by decide)
    have eq6 : V.str "sorts" :: (ss.map V.str ++ []) = (("sorts" : Str) :: ss).map V.str := by rw [List.append_nil]; rfl
    rw [eq6]
    have S6 := Same.upd (o := .lst ((("sorts" : Str) :: ss).map V.str)) n6
    have e6 : (upd H5 d6 (.lst ((("sorts" : Str) :: ss).map V.str))) d6 = _ := upd_same
    generalize upd H5 d6 (.lst ((("sorts" : Str) :: ss).map V.str)) = H6 at S6 e6
    refine ⟨_, d6, _, rfl, rfl, .inl (SqL.of e6), join_ok (nz_len sk.sn (by show _ ≤ 300; decide +kernel)) (by rw [List.length_cons]; omega), ?_⟩
    have S06 := S04.trans (S5.trans S6)
    -- the words' row
    refine ⟨⟨_, rfl⟩, _, rfl, x, dx, _, rfl, S06 _ _ h0, nF _ (by decide +kernel) (by decide +kernel) (by decide +kernel) (by decide +kernel) (by decide +kernel), x, ss, ws, as, bs, cs, rfl, sg.same S06, fun d7 n7 => ?_⟩
    have S7 := Same.upd (o := .lst (ws.map V.str)) n7
    have e7 : (upd H6 d7 (.lst (ws.map V.str))) d7 = _ := upd_same
    generalize upd H6 d7 (.lst (ws.map V.str)) = H7 at S7 e7
    refine ⟨d7, _, rfl, .inr (SqL.of e7), ?_, fun d8 n8 => ?_⟩
    · rw [List.append_nil, List.length_cons, List.length_map]
      exact Nat.le_trans (show _ ≤ 1000 by omega) (by decide)
    have eq8 : V.str "words" :: (ws.map V.str ++ []) = (("words" : Str) :: ws).map V.str := by rw [List.append_nil]; rfl
    rw [eq8]
    have S8 := Same.upd (o := .lst ((("words" : Str) :: ws).map V.str)) n8
    have e8 : (upd H7 d8 (.lst ((("words" : Str) :: ws).map V.str))) d8 = _ := upd_same
    generalize upd H7 d8 (.lst ((("words" : Str) :: ws).map V.str)) = H8 at S8 e8
    refine ⟨_, d8, _, rfl, rfl, .inl (SqL.of e8), join_ok (nz_len sk.wn (by show _ ≤ 300; decide +kernel)) (by rw [List.length_cons]; omega), ?_⟩
    have S08 := S06.trans (S7.trans S8)
    -- the parts' rows
    have e48 := (S5.trans (S6.trans (S7.trans S8))) _ _ e4
    have pall : AllAt (PtAt K Rl Br Mk H8) (as ++ (bs ++ cs)) (allPt ms rs ps) := (all_same S08 pa).append ((all_same S08 pb).append (all_same S08 pc))
    generalize hX : as ++ (bs ++ cs) = X at e48 pall
    generalize hY : allPt ms rs ps = Y at pall
    have lX : X.length ≤ 40 := by
      rw [← hX, List.length_append, List.length_append]
      omega
    have lY := pall.len
    have pY : ∀ p ∈ Y, PtOk p := fun p hp => sk.pt p (by rw [hY]; exact hp)
    refine ⟨_, rfl, d4, rfl, ⟨_, SqL.of e48⟩, fun D hD => ?_⟩
    refine lc_list (K := K) (a := d4) (xs := X.map V.ref) (fun i H' => Same H8 H' ∧ H' D = some (.lst (((Y.take i).map ptRow).map V.str))) ⟨Same.upd hD, upd_same⟩ (fun i H' _ pp => SqL.of (pp.1 _ _ e48)) ?_ ?_
    · rintro i y H9 hi ⟨T9, hD9⟩
      obtain ⟨a, p, rfl, hp, pt⟩ := pall.get hi
      have il : i < Y.length := (List.getElem?_eq_some_iff.mp hp).1
      refine ⟨rfl, _, rfl, tn (str_any (pY p (List.mem_of_getElem? hp)) (PtAt.same T9 pt) fun Ha Sa => ?_)⟩
      have T0a := T9.trans Sa
      refine ⟨_, Sa _ _ hD9, ?_, fun b o e => ?_, ?_⟩
      · rw [List.length_map, List.length_map]
        exact Nat.lt_of_le_of_lt (show _ ≤ 1000 by rw [List.length_take]; omega) (by decide)
      · rw [upd_ne (ne_of_none e hD)]
        exact T0a _ _ e
      · rw [upd_same, List.take_add_one, hp, List.map_append, List.map_append]
        rfl
    rintro H9 ⟨T9, hD9⟩
    rw [List.length_map, lY, List.take_length] at hD9
    refine ⟨D, _, rfl, .inr (SqL.of hD9), ?_, fun l nl => ?_⟩
    · rw [List.append_nil, List.length_cons, List.length_cons, List.length_map, List.length_map]
      exact Nat.le_trans (show _ ≤ 1000 by omega) (by decide)
    have S09 := S08.trans T9
    refine k l _ (S09.free nl) (S09.trans (Same.upd nl)) ?_
    rw [upd_same, List.append_nil, ← hY]
    rfl
theorem scNb : FnScope ["rows", "number", "word", "parts"] ["rows", "number", "word"] (defScope sNb) := ⟨rfl, rfl, rfl, by decide +kernel, rfl, by decide +kernel, by decide +kernel⟩
theorem ok_nb {f fP : Addr} {fd dP : FuncData} (F : Fun K "names_behind" "names_behind" sNb f fd) (T : TxB mg) (DPo : Dn K mg "parts_of" sPo ["row"] fP dP) : FnOk P w K mg base CX0 2 f fd ["rows", "number", "word"] (spNb K) := by
  have GPo : FnOk P w K mg base CX0 1 fP dP _ spPo := ok_po DPo.F
  refine F.ok scNb (fun vs H Q E h => ?_) (fun cdv A outer s H vs Q E hr h => ?_)
  · obtain ⟨l, n, w, rows, zs, rfl, _⟩ := h
    rfl
  · obtain ⟨l, n, wd, rows, zs, rfl, hl, hrow, hlen, gw, gz, z20, k⟩ := h
    have hr1 : Room 1 _ := hr
    refine ⟨_, (pss_cons (ps_set (i := 3) scNb.nd rfl (Or.inl rfl) (pe_lst pa_nil))
      (pss_cons (ps_if (pt_cmpR op_lt (pv 1) (pe_callB call_len_seq (by rfl) T.len (by decide +kernel) (pa_cons (pv 0) pa_nil)) (nomark _)) (pss_one (ps_set (i := 3) scNb.nd rfl (Or.inl rfl) (pe_call GPo hr1 rfl DPo.g DPo.F.kp DPo.b .nil pass0 (pa_cons (pe_ix ix_list (pv 0) (pv 1) (fun _ _ => rfl)) pa_nil)))) pss_nil)
      (pss_cons (ps_if (pt_cmpR (op_neD hr.units) (pe_slice sl_list (pv 3) po_none (po_some pe_int)) (pe_lst (pa_cons (pv 2) pa_nil)) (nomark _)) (pss_one ps_never) pss_nil)
      (pss_one (ps_ret (pe_slice sl_list (pv 3) (po_some pe_int) po_none)))))), ?_⟩
    rw [show L2.start ["rows", "number", "word", "parts"] [.ref l, .int (n : Int), .str wd] = [some (.ref l), some (.int (n : Int)), some (.str wd), none] from rfl]
    have il : n < rows.length := (List.getElem?_eq_some_iff.mp hrow).1
    refine ⟨Nat.zero_le _, fun d0 n0 => ?_⟩
    have S0 : Same H (upd H d0 (.lst [])) := Same.upd n0
    generalize upd H d0 (.lst []) = H0 at S0
    dsimp only [gName, List.set_cons_succ, List.set_cons_zero]
    have hl0 := S0 _ _ hl
    refine ⟨_, rfl, _, rfl, l, _, rfl, .inl (SqL.of hl0), _, _, rfl, rfl, _, rfl, ?_⟩
    refine ite2 (fun _ => ?_) (fun z => absurd z (by rw [List.length_map]; simp; omega))
    refine ⟨_, rfl, _, rfl, rdList (i := (n : Int)) hl0 (j := n) (v := .str (hdRow wd zs)) rfl (by rw [List.getElem?_map, hrow]; rfl) ?_⟩
    refine ⟨_, rfl, Nat.le_trans (hd_len gw gz z20) (by decide), fun d1 H1 n1 S1 e1 => ?_⟩
    rw [hd_split gw gz, if_neg (hd_nb gw gz)] at e1
    dsimp only [gName, List.set_cons_succ, List.set_cons_zero]
    refine ⟨_, rfl, _, rfl, d1, _, rfl, SqL.of e1, fun d2 n2 => ?_⟩
    rw [cut1s]
    have S2 : Same H1 (upd H1 d2 (.lst (((wd :: zs).take 1).map V.str))) := Same.upd n2
    have e2 : (upd H1 d2 (.lst (((wd :: zs).take 1).map V.str))) d2 = some (.lst (([wd]).map V.str)) := upd_same
    generalize upd H1 d2 (.lst (((wd :: zs).take 1).map V.str)) = H2 at S2 e2
    refine ⟨_, rfl, by show 1 ≤ sizeLine; decide, fun d3 n3 => ?_⟩
    have S3 : Same H2 (upd H2 d3 (.lst [.str wd])) := Same.upd n3
    have e3 : (upd H2 d3 (.lst [.str wd])) d3 = some (.lst (([wd]).map V.str)) := upd_same
    generalize upd H2 d3 (.lst [.str wd]) = H3 at S3 e3
    have sh : SeqAt.shaped (.list (([wd]).map PyData.str)) = true := shaped_lst (fun z hz => by rw [List.mem_singleton.mp hz]; exact gw.ok)
    refine ⟨_, _, .lst (SqL.of (S3 _ _ e2)) (dp_strs _), .lst (SqL.of e3) (dp_strs _), sh, sh, _, rfl, ?_⟩
    rw [eqv_self sh]
    refine iteF ?_
    dsimp only [tNext]
    have e13 := (S2.trans S3) _ _ e1
    refine ⟨_, rfl, _, rfl, d1, _, rfl, SqL.of e13, fun d4 n4 => ?_⟩
    have eq4 : cutV ((wd :: zs).map V.str) (some 1) none = zs.map V.str := cut_drop ((wd :: zs).map V.str) 1
    rw [eq4]
    have S03 := S0.trans (S1.trans (S2.trans S3))
    exact k d4 _ (S03.free n4) (S03.trans (Same.upd n4)) upd_same
end
end Wm
/-! names for readings that the library leaves unnamed -/
namespace Wm
open PySem L2
abbrev rAddI : R2 := rI0 fun i j => .int (i + j)
abbrev rSubI : R2 := rI0 fun i j => .int (i - j)
abbrev rMulI : R2 := rI CMul fun i j => .int (i * j)
abbrev rModI : R2 := rI (fun _ j => 0 < j) fun i j => .int (i % j)
abbrev rDivI : R2 := rI CDiv fun i j => .int (i / j)
abbrev rAddS : R2 := fun x y H Q => ∃ i j, x = .str i ∧ y = .str j ∧ i.length + j.length ≤ sizeLine ∧ Q (.str (i ++ j)) H
abbrev rLtI : R2 := rI0 fun i j => .bl (decide (i < j))
abbrev rLeI : R2 := rI0 fun i j => .bl (decide (i ≤ j))
abbrev rGtI : R2 := rI0 fun i j => .bl (decide (j < i))
abbrev rGeI : R2 := rI0 fun i j => .bl (decide (j ≤ i))
abbrev rInSg : R2 := fun x y H Q => ∃ (c : Nat) (z : Str), x = .str ⟨#[c]⟩ ∧ y = .str z ∧ Q (.bl (decide (c ∈ z.cps.toList))) H
abbrev rNiSg : R2 := fun x y H Q => ∃ (c : Nat) (z : Str), x = .str ⟨#[c]⟩ ∧ y = .str z ∧ Q (.bl (!decide (c ∈ z.cps.toList))) H
abbrev rInt1 : List V → Hp → VK → Prop := fun xs H Q => (∃ i, xs = [.int i] ∧ Q (.int i) H) ∨ ∃ k, xs = [.bl k] ∧ Q (.int (if k then 1 else 0)) H
abbrev rLenS : List V → Hp → VK → Prop := fun xs H Q => ∃ z, xs = [.str z] ∧ z.length ≤ sizeLine ∧ Q (.int z.length) H
abbrev rLenL (K : PySem.W.Frag) : List V → Hp → VK → Prop := fun xs H Q => ∃ p ys, xs = [.ref p] ∧ (SqL K H p ys ∨ SqT K H p ys) ∧ Q (.int ys.length) H
abbrev rStrI : List V → Hp → VK → Prop := fun xs H Q => ∃ i, xs = [.int i] ∧ i.natAbs.log2 < 1920 ∧ Q (.str (toString i)) H
abbrev rLstOf (K : PySem.W.Frag) : List V → Hp → VK → Prop := fun xs H Q => ∃ p ys, xs = [.ref p] ∧ (SqL K H p ys ∨ SqT K H p ys) ∧ ∀ l, H l = none → Q (.ref l) (upd H l (.lst ys))
end Wm
namespace Wm
open PySem L2 StX
def keepA {α : Type} (q : α → Bool) : List Addr → List α → List Addr
  | a :: as, x :: xs => if q x = true then a :: keepA q as xs else keepA q as xs
  | _, _ => []
theorem keepA_all {α : Type} {R : Addr → α → Prop} {q : α → Bool} : ∀ {as : List Addr} {xs : List α}, AllAt R as xs → AllAt R (keepA q as xs) (xs.filter q)
  | [], [], _ => True.intro
  | a :: as, x :: xs, h => by
    unfold keepA
    cases e : q x with
    | true =>
      rw [List.filter_cons_of_pos e, if_pos rfl]
      exact ⟨h.1, keepA_all h.2⟩
    | false =>
      rw [List.filter_cons_of_neg (by rw [e]; decide), if_neg (by decide)]
      exact keepA_all h.2
  | [], _ :: _, h => h.elim
  | _ :: _, [], h => h.elim
theorem keepA_step {α : Type} {q : α → Bool} : ∀ {as : List Addr} {xs : List α} {i : Nat} {a : Addr} {x : α}, as[i]? = some a → xs[i]? = some x → keepA q (as.take (i + 1)) (xs.take (i + 1)) = keepA q (as.take i) (xs.take i) ++ (if q x = true then [a] else [])
  | [], _, _, _, _, h, _ => by simp at h
  | _ :: _, [], _, _, _, _, h => by simp at h
  | b :: as, y :: xs, 0, a, x, h1, h2 => by
    obtain rfl : b = a := by simpa using h1
    obtain rfl : y = x := by simpa using h2
    simp [keepA]
  | b :: as, y :: xs, i + 1, a, x, h1, h2 => by
    have ih := keepA_step (q := q) (as := as) (xs := xs) (i := i) (a := a) (x := x) (by simpa using h1) (by simpa using h2)
    rw [List.take_succ_cons, List.take_succ_cons, List.take_succ_cons, List.take_succ_cons]
    unfold keepA
    rw [ih]
    split <;> simp
theorem keepA_len {α : Type} (q : α → Bool) : ∀ (as : List Addr) (xs : List α), (keepA q as xs).length ≤ as.length
  | [], _ => Nat.le_refl _
  | _ :: _, [] => Nat.zero_le _
  | a :: as, x :: xs => by
    have ih := keepA_len q as xs
    unfold keepA
    split <;> simp only [List.length_cons] <;> omega
def Pt.isM : Pt → Bool
  | .mk .. => true
  | _ => false
def Pt.isR : Pt → Bool
  | .rl .. => true
  | _ => false
def Pt.isB : Pt → Bool
  | .br .. => true
  | _ => false
/-- which class is asked for, and which the objects have -/
structure Kt (K : PySem.W.Frag) (Rl Br Mk : Addr) : Prop where
  kRM : PySem.W.kitOne K (.ref Rl) (.ref Mk) = some false
  kBM : PySem.W.kitOne K (.ref Br) (.ref Mk) = some false
  kMR : PySem.W.kitOne K (.ref Mk) (.ref Rl) = some false
  kMB : PySem.W.kitOne K (.ref Mk) (.ref Br) = some false
/-- mingled parts, each kind in its order -/
structure Ming (pts : List Pt) (ms : List MkD) (rs : List RlD) (ps : List PtD) : Prop where
  m : pts.filter Pt.isM = ms.map mkPt
  r : pts.filter Pt.isR = rs.map rlPt
  b : pts.filter Pt.isB = ps.map brPt
  ok : ∀ p ∈ pts, PtOk p
  l : pts.length ≤ 60
/-- a scheme at x whose own lists are new -/
def SchQ (K : PySem.W.Frag) (S Rl Br Mk : Addr) (H0 H : Hp) (x : Addr) (ss ws : List Str) (ms : List MkD) (rs : List RlD) (ps : List PtD) : Prop := ∃ as bs cs, SchF S H0 H x ss ws as bs cs ∧ AllAt (PtAt K Rl Br Mk H) as (ms.map mkPt) ∧ AllAt (PtAt K Rl Br Mk H) bs (rs.map rlPt) ∧ AllAt (PtAt K Rl Br Mk H) cs (ps.map brPt)
theorem SchQ.p {K : PySem.W.Frag} {S Rl Br Mk : Addr} {H0 H : Hp} {x : Addr} {ss ws : List Str} {ms : List MkD} {rs : List RlD} {ps : List PtD} (h : SchQ K S Rl Br Mk H0 H x ss ws ms rs ps) : SchP K S Rl Br Mk H x ss ws ms rs ps := by
  obtain ⟨as, bs, cs, ⟨dx, l1, l2, l3, l4, l5, _, g⟩, a, b, c⟩ := h
  exact ⟨as, bs, cs, ⟨dx, l1, l2, l3, l4, l5, g⟩, a, b, c⟩
theorem all_mk {K : PySem.W.Frag} {Rl Br Mk : Addr} {H : Hp} : ∀ {as : List Addr} {ms : List MkD}, AllAt (PtAt K Rl Br Mk H) as (ms.map mkPt) → AllAt (MkAt K Mk H) as ms
  | [], [], _ => True.intro
  | _ :: _, _ :: _, ⟨⟨dx, t1, t2, a, b, c⟩, h⟩ => ⟨⟨dx, t1, t2, a, SqT.of b, SqT.of c⟩, all_mk h⟩
  | [], _ :: _, h => h.elim
  | _ :: _, [], h => h.elim
theorem all_rl {K : PySem.W.Frag} {Rl Br Mk : Addr} {H : Hp} : ∀ {as : List Addr} {ms : List RlD}, AllAt (PtAt K Rl Br Mk H) as (ms.map rlPt) → AllAt (RlAt K Rl H) as ms
  | [], [], _ => True.intro
  | _ :: _, _ :: _, ⟨h1, h⟩ => ⟨h1, all_rl h⟩
  | [], _ :: _, h => h.elim
  | _ :: _, [], h => h.elim
theorem all_br {K : PySem.W.Frag} {Rl Br Mk : Addr} {H : Hp} : ∀ {as : List Addr} {ms : List PtD}, AllAt (PtAt K Rl Br Mk H) as (ms.map brPt) → AllAt (BrAt K Br H) as ms
  | [], [], _ => True.intro
  | _ :: _, _ :: _, ⟨h1, h⟩ => ⟨h1, all_br h⟩
  | [], _ :: _, h => h.elim
  | _ :: _, [], h => h.elim
theorem PtAt.put {K : PySem.W.Frag} {Rl Br Mk : Addr} {H : Hp} {l x : Addr} {ys : List V} {o : HO} (hl : H l = some (.lst ys)) : ∀ {p : Pt}, PtAt K Rl Br Mk H x p → PtAt K Rl Br Mk (upd H l o) x p
  | .rl .., ⟨dx, t1, t2, t3, ps, qs, a, b, c, d, e, f⟩ => ⟨dx, t1, t2, t3, ps, qs, by rw [upd_ne (ne_of a hl (by intro z; cases z))]; exact a, sqT_put hl b, rows_put hl c, sqT_put hl d, rows_put hl e, sqT_put hl f⟩
  | .br .., ⟨dx, t1, t2, ps, qs, a, b, c, d, e⟩ => ⟨dx, t1, t2, ps, qs, by rw [upd_ne (ne_of a hl (by intro z; cases z))]; exact a, sqT_put hl b, rows_put hl c, sqT_put hl d, rows_put hl e⟩
  | .mk .., ⟨dx, t1, t2, a, b, c⟩ => ⟨dx, t1, t2, by rw [upd_ne (ne_of a hl (by intro z; cases z))]; exact a, by rw [upd_ne (ne_of b hl (by intro z; cases z))]; exact b, by rw [upd_ne (ne_of c hl (by intro z; cases z))]; exact c⟩
def DfAt (K : PySem.W.Frag) (ok : Addr → Prop) (H : Hp) (t : Addr) (p : Pt) : Prop := ∃ u, H t = some (.tup [.str p.kind, .ref u]) ∧ DrN K ok H u p
theorem DfAt.same {K : PySem.W.Frag} {ok : Addr → Prop} {H H' : Hp} {t : Addr} {p : Pt} (s : Same H H') (h : DfAt K ok H t p) : DfAt K ok H' t p := by
  obtain ⟨u, a, b⟩ := h
  exact ⟨u, s _ _ a, b.same s⟩
theorem DfAt.put {K : PySem.W.Frag} {ok : Addr → Prop} {H : Hp} {l t : Addr} {ys : List V} {o : HO} {p : Pt} (hl : H l = some (.lst ys)) (n : ∀ a, ok a → a ≠ l) (h : DfAt K ok H t p) : DfAt K ok (upd H l o) t p := by
  obtain ⟨u, a, b⟩ := h
  exact ⟨u, by rw [upd_ne (ne_of a hl (by intro z; cases z))]; exact a, b.put hl n⟩
theorem take_sub {α : Type} {xs : List α} {i : Nat} {x : α} (hi : 1 < i) (h : xs[i - 2]? = some x) : xs.take (i + 1 - 2) = xs.take (i - 2) ++ [x] := by
  rw [show i + 1 - 2 = (i - 2) + 1 by omega, List.take_add_one, h]
  rfl
theorem gd_hd {z : Str} (h : z = "sorts" ∨ z = "words") : Gd z := by
  rcases h with rfl | rfl <;> exact ⟨by unfold okS; decide +kernel, by decide +kernel, by decide +kernel, by decide +kernel⟩
/-- the class of a part, and what isinstance says of it -/
theorem cls_of {P : Program} {w : World} {K : PySem.W.Frag} {mg : Str → Option Value} {base : Heap} {Rl Br Mk fRS fBS fMS fRE fBE fME : Addr} {dRS dBS dMS dRE dBE dME : FuncData} (W : Wst P w K mg base Rl Br Mk fRS fBS fMS fRE fBE fME dRS dBS dMS dRE dBE dME) (kt : Kt K Rl Br Mk) {H : Hp} {x : Addr} {p : Pt} (h : PtAt K Rl Br Mk H x p) :
    ∃ C0, TyX K H (.ref x) (.ref C0) ∧ PySem.W.kitOne K (.ref C0) (.ref Mk) = some p.isM ∧ PySem.W.kitOne K (.ref C0) (.ref Rl) = some p.isR ∧ PySem.W.kitOne K (.ref C0) (.ref Br) = some p.isB := by
  cases p with
  | rl nm vars cs g b =>
    obtain ⟨dx, t1, t2, t3, ps, qs, a, _⟩ := h
    exact ⟨Rl, W.tyR a, kt.kRM, W.kRR, W.kRB⟩
  | br nm vars cs =>
    obtain ⟨dx, t1, t2, ps, qs, a, _⟩ := h
    exact ⟨Br, W.tyB a, kt.kBM, W.kBR, W.kBB⟩
  | mk mr md ds us =>
    obtain ⟨dx, t1, t2, a, _⟩ := h
    exact ⟨Mk, W.tyM a, W.kMM, kt.kMR, kt.kMB⟩
def spRs (K : PySem.W.Frag) (S Rl Br Mk : Addr) : Sp := fun vs H Q _ => ∃ (l : Addr) (ss ws : List Str) (ms : List MkD) (rs : List RlD) (ps : List PtD) (pts : List Pt), vs = [.ref l] ∧ H l = some (.lst ((rowsL ss ws pts).map V.str)) ∧ SchK ss ws ms rs ps ∧ Ming pts ms rs ps ∧ ∀ x H', H x = none → Same H H' → SchQ K S Rl Br Mk H H' x ss ws ms rs ps → Q (.ref x) H'
section
variable {P : Program} {w : World} {K : PySem.W.Frag} {mg : Str → Option Value} {base : Heap}
theorem scRs : FnScope ["rows", "sorts", "words", "drafts", "row", "number", "parts", "kind", "draft", "makings", "part", "rules", "bars"] ["rows"] (defScope sRs) := ⟨rfl, rfl, rfl, by decide +kernel, rfl, by decide +kernel, by decide +kernel⟩
/-- isinstance of a part, asked for the class at Z -/
theorem isi_q {Rl Br Mk Z : Addr} {H : Hp} {x : Addr} {p : Pt} {R : VK} {t : Bool} {C0 : Addr} (ty : TyX K H (.ref x) (.ref C0)) (k : PySem.W.kitOne K (.ref C0) (.ref Z) = some t) (h : R (.bl t) H) : rIsi K [.ref x, .ref Z] H R :=
  ⟨_, _, _, _, t, rfl, .own Z, ty, k, h⟩
theorem ok_rsc {f fN fD fM S fS C Rl Br Mk fR fB fMk fRS fBS fMS fRE fBE fME : Addr} {fd dN dD dM dS dR dB dMk dRS dBS dMS dRE dBE dME : FuncData} (F : Fun K "read_scheme" "read_scheme" sRs f fd) (T : TxB mg) (TC : TxSch K mg S fS) (M : Mkr P w K mg base C Rl Br Mk fR fB fMk dR dB dMk) (W : Wst P w K mg base Rl Br Mk fRS fBS fMS fRE fBE fME dRS dBS dMS dRE dBE dME) (kt : Kt K Rl Br Mk)
    (DNb : Dn K mg "names_behind" sNb ["rows", "number", "word"] fN dN) (GNb : FnOk P w K mg base CX0 2 fN dN ["rows", "number", "word"] (spNb K)) (DDf : Dn K mg "draft_of" sDf ["row", "number"] fD dD) (GDf : FnOk P w K mg base CX0 4 fD dD ["row", "number"] (spDf K)) (DMo : Dn K mg "made_of" sMo ["kind", "draft"] fM dM) (GMo : FnOk P w K mg base CX0 8 fM dM ["kind", "draft"] (spMo K Rl Br Mk))
    (bS5 : Binds K dS ["self", "sorts", "words", "makings", "rules", "bars"] []) (GS : FnOk P w K mg base CX0 4 fS dS ["self", "sorts", "words", "makings", "rules", "bars"] (spSch K S Mk Rl Br)) : FnOk P w K mg base CX0 9 f fd ["rows"] (spRs K S Rl Br Mk) := by
  obtain ⟨TR, bR, GR, TB, bB, GB, TM, bM, GM⟩ := M
  refine F.ok scRs (fun vs H Q E h => ?_) (fun cdv A outer s H vs Q E hr h => ?_)
  · obtain ⟨l, ss, ws, ms, rs, ps, pts, rfl, _⟩ := h
    rfl
  · obtain ⟨l, ss, ws, ms, rs, ps, pts, rfl, hl, sk, mi, k⟩ := h
    have hr8 : Room 8 _ := hr
    have hr5 : Room 5 _ := hr.mono (by decide)
    have hr4 : Room 4 _ := hr.mono (by decide)
    have hr2 : Room 2 _ := hr.mono (by decide)
    have p60 := mi.l
    have rl : (rowsL ss ws pts).length = pts.length + 2 := by
      unfold rowsL
      rw [List.length_cons, List.length_cons, List.length_map]
    refine ⟨_, (pss_cons (ps_set (i := 1) scRs.nd rfl (Or.inl rfl) (pe_call GNb hr2 rfl DNb.g DNb.F.kp DNb.b .nil pass0 (pa_cons (pv 0) (pa_cons pe_int (pa_cons pe_str pa_nil)))))
      (pss_cons (ps_set (i := 2) scRs.nd rfl (Or.inl rfl) (pe_call GNb hr2 rfl DNb.g DNb.F.kp DNb.b .nil pass0 (pa_cons (pv 0) (pa_cons pe_int (pa_cons pe_str pa_nil)))))
      (pss_cons (ps_setLc (i := 3) (own := [("number", 5), ("row", 4)]) (g := gTup K 2 (gCons (gName 5) (gCons (gName 4) gNil))) (tt := (tTest (tOp rGtI (tVar 5) (tC (.int 1))))) (te := (tCall (spDf K) [] E0 (tCons (tVar 4) (tCons (tVar 5) tNil)))) rfl scRs.nd rfl rfl (sw_true rfl rfl rfl (by decide +kernel)) (pi_enum rfl T.enumerate (pa_cons (pv 0) pa_nil)) (blkOk_by (N := ["rows", "sorts", "words", "drafts", "row", "number", "parts", "kind", "draft", "makings", "part", "rules", "bars"]) (sc := defScope sRs) (by decide +kernel)) (fun _ _ _ _ _ => (pg_tup rfl (pgs_cons (pg_name (i := 5) scRs.nd rfl (Or.inl rfl)) (pgs_cons (pg_name (i := 4) scRs.nd rfl (Or.inl rfl)) pgs_nil)))) (fun _ _ _ _ _ => (pts_one (pt_cmpR op_gt (pv 5) pe_int (nomark _)))) (fun _ _ _ _ _ => (pe_call GDf hr4 rfl DDf.g DDf.F.kp DDf.b .nil pass0 (pa_cons (pv 4) (pa_cons (pv 5) pa_nil)))))
      (pss_cons (ps_setLc (i := 6) (own := [("kind", 7), ("draft", 8)]) (g := gTup K 2 (gCons (gName 7) (gCons (gName 8) gNil))) (tt := tYes) (te := (tCall (spMo K Rl Br Mk) [] E0 (tCons (tVar 7) (tCons (tVar 8) tNil)))) rfl scRs.nd rfl rfl (sw_true rfl rfl rfl (by decide +kernel)) (pi_list (pv 3)) (blkOk_by (N := ["rows", "sorts", "words", "drafts", "row", "number", "parts", "kind", "draft", "makings", "part", "rules", "bars"]) (sc := defScope sRs) (by decide +kernel)) (fun _ _ _ _ _ => (pg_tup rfl (pgs_cons (pg_name (i := 7) scRs.nd rfl (Or.inl rfl)) (pgs_cons (pg_name (i := 8) scRs.nd rfl (Or.inl rfl)) pgs_nil)))) (fun _ _ _ _ _ => pts_nil) (fun _ _ _ _ _ => (pe_call GMo hr8 rfl DMo.g DMo.F.kp DMo.b .nil pass0 (pa_cons (pv 7) (pa_cons (pv 8) pa_nil)))))
      (pss_cons (ps_setLc (i := 9) (own := [("part", 10)]) (g := gName 10) (tt := (tTest (tCB (rIsi K) (tCons (tVar 10) (tCons (tC (.ref Mk)) tNil))))) (te := (tVar 10)) rfl scRs.nd rfl rfl (sw_true rfl rfl rfl (by decide +kernel)) (pi_list (pv 6)) (blkOk_by (N := ["rows", "sorts", "words", "drafts", "row", "number", "parts", "kind", "draft", "makings", "part", "rules", "bars"]) (sc := defScope sRs) (by decide +kernel)) (fun _ _ _ _ _ => (pg_name (i := 10) scRs.nd rfl (Or.inl rfl))) (fun _ _ _ _ _ => (pts_one (pt_val (pe_callB call_isi (by rfl) T.isinstance (by decide +kernel) (pa_cons (pv 10) (pa_cons (pe_glob (v := .ref Mk) (by rfl) TM.g rfl) pa_nil)))))) (fun _ _ _ _ _ => (pv 10)))
      (pss_cons (ps_setLc (i := 11) (own := [("part", 10)]) (g := gName 10) (tt := (tTest (tCB (rIsi K) (tCons (tVar 10) (tCons (tC (.ref Rl)) tNil))))) (te := (tVar 10)) rfl scRs.nd rfl rfl (sw_true rfl rfl rfl (by decide +kernel)) (pi_list (pv 6)) (blkOk_by (N := ["rows", "sorts", "words", "drafts", "row", "number", "parts", "kind", "draft", "makings", "part", "rules", "bars"]) (sc := defScope sRs) (by decide +kernel)) (fun _ _ _ _ _ => (pg_name (i := 10) scRs.nd rfl (Or.inl rfl))) (fun _ _ _ _ _ => (pts_one (pt_val (pe_callB call_isi (by rfl) T.isinstance (by decide +kernel) (pa_cons (pv 10) (pa_cons (pe_glob (v := .ref Rl) (by rfl) TR.g rfl) pa_nil)))))) (fun _ _ _ _ _ => (pv 10)))
      (pss_cons (ps_setLc (i := 12) (own := [("part", 10)]) (g := gName 10) (tt := (tTest (tCB (rIsi K) (tCons (tVar 10) (tCons (tC (.ref Br)) tNil))))) (te := (tVar 10)) rfl scRs.nd rfl rfl (sw_true rfl rfl rfl (by decide +kernel)) (pi_list (pv 6)) (blkOk_by (N := ["rows", "sorts", "words", "drafts", "row", "number", "parts", "kind", "draft", "makings", "part", "rules", "bars"]) (sc := defScope sRs) (by decide +kernel)) (fun _ _ _ _ _ => (pg_name (i := 10) scRs.nd rfl (Or.inl rfl))) (fun _ _ _ _ _ => (pts_one (pt_val (pe_callB call_isi (by rfl) T.isinstance (by decide +kernel) (pa_cons (pv 10) (pa_cons (pe_glob (v := .ref Br) (by rfl) TB.g rfl) pa_nil)))))) (fun _ _ _ _ _ => (pv 10)))
      (pss_one (ps_ret (pe_make TC.m GS hr5 rfl TC.g bS5 .nil pass0 (pa_cons (pv 1) (pa_cons (pv 2) (pa_cons (pv 9) (pa_cons (pv 11) (pa_cons (pv 12) pa_nil))))))))))))))), ?_⟩
    rw [show L2.start ["rows", "sorts", "words", "drafts", "row", "number", "parts", "kind", "draft", "makings", "part", "rules", "bars"] [.ref l] = [some (.ref l), none, none, none, none, none, none, none, none, none, none, none, none] from rfl]
    refine ⟨_, rfl, l, 0, "sorts", rowsL ss ws pts, ss, rfl, hl, rfl, by rw [rl]; omega, gd_hd (by simp), fun z hz => (sk.sn z hz).gd, by have := sk.ok.s4; omega, fun d1 H1 n1 S1 e1 => ?_⟩
    dsimp only [gName, List.set_cons_succ, List.set_cons_zero]
    refine ⟨_, rfl, l, 1, "words", rowsL ss ws pts, ws, rfl, S1 _ _ hl, rfl, by rw [rl]; omega, gd_hd (by simp), fun z hz => (sk.wn z hz).gd, by have := sk.ok.w5; omega, fun d2 H2 n2 S2 e2 => ?_⟩
    dsimp only [gName, List.set_cons_succ, List.set_cons_zero]
    have S02 := S1.trans S2
    have hl2 := S02 _ _ hl
    have e12 := S2 _ _ e1
    -- the drafts
    refine ⟨_, rfl, l, _, rfl, SqL.of hl2, fun D hD => ?_⟩
    refine lc_it walk_enum (fun i H' => Same H2 H' ∧ ∃ qs : List Addr, H' D = some (.lst (qs.map V.ref)) ∧ AllAt (DfAt K (fun a => a ≠ D) H') qs (pts.take (i - 2))) ⟨Same.upd hD, [], upd_same, True.intro⟩ (fun i H' _ pp => SqL.of (pp.1 _ _ hl2)) ?_ ?_
    · rintro i x H8 H9 hi ⟨T8, qs, hD8, aq⟩ ⟨t, y, z, rfl, ht, rfl, e1', e2'⟩
      cases e1'
      have hD9 : (upd H8 t (.tup [.int (i : Nat), z])) D = some (.lst (qs.map V.ref)) := by rw [upd_ne (ne_of_none hD8 ht)]; exact hD8
      have S9 : Same H8 (upd H8 t (.tup [.int (i : Nat), z])) := Same.upd ht
      have e9 : (upd H8 t (.tup [.int (i : Nat), z])) t = some (.tup [.int (i : Nat), z]) := upd_same
      generalize upd H8 t (.tup [.int (i : Nat), z]) = H9 at hD9 S9 e9
      refine ⟨t, _, rfl, SqT.of e9, rfl, _, _, rfl, _, _, rfl, rfl, rfl, ?_⟩
      obtain ⟨zr, hzr, rfl⟩ := map_str_get e2'
      refine ⟨_, rfl, _, _, rfl, rfl, _, rfl, ?_⟩
      have T9 := T8.trans S9
      refine ite2 (fun c => ?_) (fun c => ?_)
      · have i1 : 1 < i := by
          have := of_decide_eq_true c
          omega
        obtain ⟨p, hp, rfl⟩ : ∃ p, pts[i - 2]? = some p ∧ zr = ptRow p := by
          unfold rowsL at hzr
          obtain ⟨j, rfl⟩ : ∃ j, i = j + 2 := ⟨i - 2, by omega⟩
          rw [List.getElem?_cons_succ, List.getElem?_cons_succ, List.getElem?_map] at hzr
          obtain ⟨p, hp, e⟩ := Option.map_eq_some_iff.mp hzr
          exact ⟨p, hp, e.symm⟩
        refine ⟨_, rfl, _, rfl, p, (i : Int), rfl, mi.ok p (List.mem_of_getElem? hp), fun t2 u2 Ha Sa a2 dn => ?_⟩
        have hDa := Sa _ _ hD9
        have Ta := T9.trans Sa
        have lq := aq.len
        have qp : qs.length ≤ 60 := by
          rw [lq, List.length_take]
          omega
        have nD : ∀ a, H9 a = none → a ≠ D := fun a h e => by
          rw [e, hD9] at h
          cases h
        refine ⟨_, hDa, ?_, fun b o e => ?_, qs ++ [t2], ?_, ?_⟩
        · rw [List.length_map]
          exact Nat.lt_of_le_of_lt (show _ ≤ 1000 by omega) (by decide)
        · rw [upd_ne (ne_of_none e hD)]
          exact Ta _ _ e
        · rw [upd_same, List.map_append]
          rfl
        · rw [take_sub i1 hp]
          refine AllAt.append (aq.imp fun a x h => (h.same (S9.trans Sa)).put hDa fun _ h => h) ⟨?_, True.intro⟩
          exact DfAt.put hDa (fun _ h => h) ⟨u2, a2, dn.imp nD⟩
      · have i1 : ¬ 1 < i := fun h => c (by simp; omega)
        refine ⟨T9, qs, hD9, ?_⟩
        have e0 : pts.take (i + 1 - 2) = pts.take (i - 2) := by
          rw [show i + 1 - 2 = 0 by omega, show i - 2 = 0 by omega]
        rw [e0]
        exact aq.imp fun a x h => h.same S9
    rintro H8 ⟨T8, qs, hD8, aq⟩
    rw [List.length_map, rl, Nat.add_sub_cancel, List.take_length] at aq
    have lq := aq.len
    dsimp only [gName, List.set_cons_succ, List.set_cons_zero]
    -- the parts
    refine ⟨_, rfl, D, rfl, ⟨_, SqL.of hD8⟩, fun D2 hD2 => ?_⟩
    refine lc_list (K := K) (a := D) (xs := qs.map V.ref) (fun i H' => Same H8 H' ∧ ∃ xs : List Addr, H' D2 = some (.lst (xs.map V.ref)) ∧ AllAt (PtAt K Rl Br Mk H') xs (pts.take i)) ⟨Same.upd hD2, [], upd_same, True.intro⟩ (fun i H' _ pp => SqL.of (pp.1 _ _ hD8)) ?_ ?_
    · rintro i y H9 hi ⟨T9, xs, hD9, ax⟩
      obtain ⟨a, p, rfl, hp, u, ha, dn⟩ := aq.get hi
      have il : i < pts.length := (List.getElem?_eq_some_iff.mp hp).1
      refine ⟨a, _, rfl, SqT.of (T9 _ _ ha), rfl, _, _, rfl, _, _, rfl, rfl, rfl, ?_⟩
      refine ⟨_, rfl, _, rfl, p, u, rfl, mi.ok p (List.mem_of_getElem? hp), (dn.same T9).at, fun x Ha nx Sa px => ?_⟩
      have hDa := Sa _ _ hD9
      have lx := ax.len
      have xp : xs.length ≤ 60 := by
        rw [lx, List.length_take]
        omega
      refine ⟨_, hDa, ?_, fun b o e => ?_, xs ++ [x], ?_, ?_⟩
      · rw [List.length_map]
        exact Nat.lt_of_le_of_lt (show _ ≤ 1000 by omega) (by decide)
      · rw [upd_ne (ne_of_none e hD2)]
        exact (T9.trans Sa) _ _ e
      · rw [upd_same, List.map_append]
        rfl
      · rw [List.take_add_one, hp]
        exact AllAt.append (ax.imp fun a x h => PtAt.put hDa (PtAt.same Sa h)) ⟨PtAt.put hDa px, True.intro⟩
    rintro H9 ⟨T9, xs, hD9, ax⟩
    rw [List.length_map, lq, List.take_length] at ax
    have lx := ax.len
    dsimp only [gName, List.set_cons_succ, List.set_cons_zero]
    refine ⟨_, rfl, D2, rfl, ⟨_, SqL.of hD9⟩, fun D3 hD3 => ?_⟩
    refine lc_list (K := K) (a := D2) (xs := xs.map V.ref) (fun i H' => Same H9 H' ∧ H' D3 = some (.lst ((keepA Pt.isM (xs.take i) (pts.take i)).map V.ref))) ⟨Same.upd hD3, upd_same⟩ (fun i H' _ pp => SqL.of (pp.1 _ _ hD9)) ?_ ?_
    · rintro i y Ha hi ⟨Ta, hDa⟩
      obtain ⟨a, p, rfl, hp, px⟩ := ax.get hi
      have hxa : xs[i]? = some a := by
        rw [List.getElem?_map] at hi
        obtain ⟨a', e, e'⟩ := Option.map_eq_some_iff.mp hi
        cases e'
        exact e
      obtain ⟨C0, ty, k1, k2, k3⟩ := cls_of W kt (PtAt.same Ta px)
      refine ⟨rfl, _, rfl, _, _, _, _, _, rfl, .own Mk, ty, k1, ?_⟩
      refine ⟨_, rfl, ?_⟩
      have st := keepA_step (q := Pt.isM) hxa hp
      have kl := keepA_len Pt.isM (xs.take i) (pts.take i)
      have xp : (xs.take i).length ≤ 60 := by
        rw [List.length_take]
        omega
      refine ite2 (fun c => ?_) (fun c => ?_)
      · rw [if_pos c] at st
        refine ⟨_, rfl, _, hDa, ?_, fun b o e => ?_, ?_⟩
        · rw [List.length_map]
          exact Nat.lt_of_le_of_lt (show _ ≤ 1000 by omega) (by decide)
        · rw [upd_ne (ne_of_none e hD3)]
          exact Ta _ _ e
        · rw [upd_same, st, List.map_append]
          rfl
      · rw [if_neg c, List.append_nil] at st
        refine ⟨Ta, ?_⟩
        rw [st]
        exact hDa
    rintro H10 ⟨T10, eD3⟩
    rw [List.length_map, List.take_of_length_le (Nat.le_refl _), lx, List.take_length] at eD3
    dsimp only [gName, List.set_cons_succ, List.set_cons_zero]
    have hD10 := T10 _ _ hD9
    have ax10 := all_same T10 ax
    refine ⟨_, rfl, D2, rfl, ⟨_, SqL.of hD10⟩, fun D4 hD4 => ?_⟩
    refine lc_list (K := K) (a := D2) (xs := xs.map V.ref) (fun i H' => Same H10 H' ∧ H' D4 = some (.lst ((keepA Pt.isR (xs.take i) (pts.take i)).map V.ref))) ⟨Same.upd hD4, upd_same⟩ (fun i H' _ pp => SqL.of (pp.1 _ _ hD10)) ?_ ?_
    · rintro i y Ha hi ⟨Ta, hDa⟩
      obtain ⟨a, p, rfl, hp, px⟩ := ax10.get hi
      have hxa : xs[i]? = some a := by
        rw [List.getElem?_map] at hi
        obtain ⟨a', e, e'⟩ := Option.map_eq_some_iff.mp hi
        cases e'
        exact e
      obtain ⟨C0, ty, k1, k2, k3⟩ := cls_of W kt (PtAt.same Ta px)
      refine ⟨rfl, _, rfl, _, _, _, _, _, rfl, .own Rl, ty, k2, ?_⟩
      refine ⟨_, rfl, ?_⟩
      have st := keepA_step (q := Pt.isR) hxa hp
      have kl := keepA_len Pt.isR (xs.take i) (pts.take i)
      have xp : (xs.take i).length ≤ 60 := by
        rw [List.length_take]
        omega
      refine ite2 (fun c => ?_) (fun c => ?_)
      · rw [if_pos c] at st
        refine ⟨_, rfl, _, hDa, ?_, fun b o e => ?_, ?_⟩
        · rw [List.length_map]
          exact Nat.lt_of_le_of_lt (show _ ≤ 1000 by omega) (by decide)
        · rw [upd_ne (ne_of_none e hD4)]
          exact Ta _ _ e
        · rw [upd_same, st, List.map_append]
          rfl
      · rw [if_neg c, List.append_nil] at st
        refine ⟨Ta, ?_⟩
        rw [st]
        exact hDa
    rintro H11 ⟨T11, eD4⟩
    rw [List.length_map, List.take_of_length_le (Nat.le_refl _), lx, List.take_length] at eD4
    dsimp only [gName, List.set_cons_succ, List.set_cons_zero]
    have hD11 := T11 _ _ hD10
    have ax11 := all_same T11 ax10
    refine ⟨_, rfl, D2, rfl, ⟨_, SqL.of hD11⟩, fun D5 hD5 => ?_⟩
    refine lc_list (K := K) (a := D2) (xs := xs.map V.ref) (fun i H' => Same H11 H' ∧ H' D5 = some (.lst ((keepA Pt.isB (xs.take i) (pts.take i)).map V.ref))) ⟨Same.upd hD5, upd_same⟩ (fun i H' _ pp => SqL.of (pp.1 _ _ hD11)) ?_ ?_
    · rintro i y Ha hi ⟨Ta, hDa⟩
      obtain ⟨a, p, rfl, hp, px⟩ := ax11.get hi
      have hxa : xs[i]? = some a := by
        rw [List.getElem?_map] at hi
        obtain ⟨a', e, e'⟩ := Option.map_eq_some_iff.mp hi
        cases e'
        exact e
      obtain ⟨C0, ty, k1, k2, k3⟩ := cls_of W kt (PtAt.same Ta px)
      refine ⟨rfl, _, rfl, _, _, _, _, _, rfl, .own Br, ty, k3, ?_⟩
      refine ⟨_, rfl, ?_⟩
      have st := keepA_step (q := Pt.isB) hxa hp
      have kl := keepA_len Pt.isB (xs.take i) (pts.take i)
      have xp : (xs.take i).length ≤ 60 := by
        rw [List.length_take]
        omega
      refine ite2 (fun c => ?_) (fun c => ?_)
      · rw [if_pos c] at st
        refine ⟨_, rfl, _, hDa, ?_, fun b o e => ?_, ?_⟩
        · rw [List.length_map]
          exact Nat.lt_of_le_of_lt (show _ ≤ 1000 by omega) (by decide)
        · rw [upd_ne (ne_of_none e hD5)]
          exact Ta _ _ e
        · rw [upd_same, st, List.map_append]
          rfl
      · rw [if_neg c, List.append_nil] at st
        refine ⟨Ta, ?_⟩
        rw [st]
        exact hDa
    rintro H12 ⟨T12, eD5⟩
    rw [List.length_map, List.take_of_length_le (Nat.le_refl _), lx, List.take_length] at eD5
    dsimp only [gName, List.set_cons_succ, List.set_cons_zero]
    have ax12 := all_same T12 ax11
    have T29 := T8.trans T9
    have T2c := T29.trans (T10.trans (T11.trans T12))
    have am := keepA_all (q := Pt.isM) ax12
    have ar := keepA_all (q := Pt.isR) ax12
    have ab := keepA_all (q := Pt.isB) ax12
    rw [mi.m] at am
    rw [mi.r] at ar
    rw [mi.b] at ab
    refine ⟨_, rfl, _, rfl, _, rfl, _, rfl, _, rfl, fun x dx nx ndx ne => ?_⟩
    refine ⟨H12, x, dx, d1, d2, _, _, _, ss, ws, _, _, _, ms, rs, ps, rfl, same_make nx ndx, nx, upd_same, SqL.of (T2c _ _ e12), SqL.of (T2c _ _ e2), .inr ⟨D3, rfl, SqL.of ((T11.trans T12) _ _ eD3)⟩, .inr ⟨D4, rfl, SqL.of (T12 _ _ eD4)⟩, .inr ⟨D5, rfl, SqL.of eD5⟩, ⟨all_mk am, all_rl ar, all_br ab⟩, sk.ok, fun H' S' sf => ⟨rfl, ?_⟩⟩
    have S0c := S02.trans T2c
    refine k x H' (S0c.free nx) (S0c.trans S') ⟨_, _, _, ?_, all_same S' am, all_same S' ar, all_same S' ab⟩
    obtain ⟨dx', m1, m2, m3, m4, m5, ⟨z1, z2, z3, z4, z5⟩, g⟩ := sf
    exact ⟨dx', m1, m2, m3, m4, m5, ⟨S0c.free z1, S0c.free z2, S0c.free z3, S0c.free z4, S0c.free z5⟩, g⟩
end
end Wm
namespace Wm
open PySem L2 StX
theorem DrN.bt {K : PySem.W.Frag} {ok : Addr → Prop} {p q r : Addr} {H H' : Hp} {u : Addr} {n : Nat} (o : ∀ a, ok a → a ≠ p ∧ a ≠ q) (b : Bt p q H H') (hP : PotAt H p q r n) : ∀ {y : Pt}, DrN K ok H u y → DrN K ok H' u y := by
  obtain ⟨k0, us, ys, ep, eq, _⟩ := hP.ex
  have tp : ∀ {a : Addr} {xs : List V}, H a = some (.tup xs) → H' a = some (.tup xs) := fun h => b _ _ (ne_of h ep (fun z => by cases z)) (ne_of h eq (fun z => by cases z)) h
  intro y h
  cases y with
  | rl nm vars cs g bh =>
    obtain ⟨lv, lc, tg, ps, qs, w, a1, a2, a3, a4, a5, a6⟩ := h
    exact ⟨lv, lc, tg, ps, qs, w, tp a1, tp a2, b _ _ (o _ w.1).1 (o _ w.1).2 a3, bt_rows b hP a4, b _ _ (o _ w.2).1 (o _ w.2).2 a5, bt_rows b hP a6⟩
  | br nm vars cs =>
    obtain ⟨lv, lc, ps, qs, w, a1, a3, a4, a5, a6⟩ := h
    exact ⟨lv, lc, ps, qs, w, tp a1, b _ _ (o _ w.1).1 (o _ w.1).2 a3, bt_rows b hP a4, b _ _ (o _ w.2).1 (o _ w.2).2 a5, bt_rows b hP a6⟩
  | mk mr md ds us' =>
    obtain ⟨ld, lu, w, a1, a2, a3⟩ := h
    exact ⟨ld, lu, w, tp a1, b _ _ (o _ w.1).1 (o _ w.1).2 a2, b _ _ (o _ w.2).1 (o _ w.2).2 a3⟩
theorem AllAt.rev {α : Type} {R : Addr → α → Prop} : ∀ {as : List Addr} {xs : List α}, AllAt R as xs → AllAt R as.reverse xs.reverse
  | [], [], _ => True.intro
  | a :: as, x :: xs, h => by
    rw [List.reverse_cons, List.reverse_cons]
    exact AllAt.append (AllAt.rev h.2) ⟨h.1, True.intro⟩
  | [], _ :: _, h => h.elim
  | _ :: _, [], h => h.elim
theorem atZ_inj {zs : List Str} (h : zs.Nodup) {i j : Nat} (hi : i < zs.length) (hj : j < zs.length) (e : atZ zs i = atZ zs j) : i = j := by
  have e1 := atZ_get hi
  have e2 := atZ_get hj
  rw [e] at e1
  have g1 := (List.getElem?_eq_some_iff.mp e1).2
  have g2 := (List.getElem?_eq_some_iff.mp e2).2
  rcases Nat.lt_trichotomy i j with l | l | l
  · exact absurd (g1.trans g2.symm) (List.pairwise_iff_getElem.mp h i j hi hj l)
  · exact l
  · exact absurd (g2.trans g1.symm) (List.pairwise_iff_getElem.mp h j i hj hi l)
/-- a making as it was drawn -/
structure MkG (ss ws : List Str) (m : MkD) : Prop where
  d : m.dn.Nodup
  u : m.up.Nodup
  dw : ∀ z ∈ m.dn, z ∈ ws
  uw : ∀ z ∈ m.up, z ∈ ws
  dl : m.dn.length ≤ ws.length
  ul : m.up.length ≤ ws.length
structure KsOk (ss ws : List Str) (ks : List (Nat × Nat)) (ms : List MkD) (at_ below : Nat) : Prop where
  e : ms.map (fun m => (m.mr, m.md)) = ks.map (fun k => (atZ ss k.1, atZ ss k.2))
  nd : ks.Nodup
  b : ∀ k ∈ ks, k.1 < k.2 ∧ k.2 < ss.length ∧ (k.1 < at_ ∨ (k.1 = at_ ∧ k.2 < below))
  l : ks.length ≤ 5 * at_ + below
  g : ∀ m ∈ ms, MkG ss ws m
theorem KsOk.skip {ss ws : List Str} {ks : List (Nat × Nat)} {ms : List MkD} {a b : Nat} (h : KsOk ss ws ks ms a b) : KsOk ss ws ks ms a (b + 1) :=
  ⟨h.e, h.nd, fun k hk => by obtain ⟨p, q, r⟩ := h.b k hk; exact ⟨p, q, by omega⟩, by have := h.l; omega, h.g⟩
theorem KsOk.put {ss ws : List Str} {ks : List (Nat × Nat)} {ms : List MkD} {a b : Nat} {m : MkD} (h : KsOk ss ws ks ms a b) (ab : a < b) (bl : b < ss.length) (e1 : m.mr = atZ ss a) (e2 : m.md = atZ ss b) (g : MkG ss ws m) : KsOk ss ws (ks ++ [(a, b)]) (ms ++ [m]) a (b + 1) := by
  refine ⟨?_, ?_, fun k hk => ?_, ?_, fun x hx => ?_⟩
  · rw [List.map_append, List.map_append, h.e]
    simp [e1, e2]
  · rw [List.nodup_append]
    refine ⟨h.nd, by simp, fun x hx y hy e => ?_⟩
    rw [List.mem_singleton.mp hy] at e
    have := h.b x hx
    rw [e] at this
    dsimp only at this
    omega
  · rcases List.mem_append.mp hk with hk | hk
    · obtain ⟨p, q, r⟩ := h.b k hk
      exact ⟨p, q, by omega⟩
    · rw [List.mem_singleton.mp hk]
      exact ⟨ab, bl, .inr ⟨rfl, Nat.lt_succ_self _⟩⟩
  · rw [List.length_append]
    have := h.l
    simp
    omega
  · rcases List.mem_append.mp hx with hx | hx
    · exact h.g x hx
    · rw [List.mem_singleton.mp hx]
      exact g
theorem KsOk.row {ss ws : List Str} {ks : List (Nat × Nat)} {ms : List MkD} {a b : Nat} (h : KsOk ss ws ks ms a b) (hb : b ≤ 5) : KsOk ss ws ks ms (a + 1) 0 :=
  ⟨h.e, h.nd, fun k hk => by obtain ⟨p, q, r⟩ := h.b k hk; exact ⟨p, q, by omega⟩, by have := h.l; omega, h.g⟩
theorem KsOk.up {ss ws : List Str} {ks : List (Nat × Nat)} {ms : List MkD} {a b c : Nat} (h : KsOk ss ws ks ms a b) (hb : b ≤ c) : KsOk ss ws ks ms a c :=
  ⟨h.e, h.nd, fun k hk => by obtain ⟨p, q, r⟩ := h.b k hk; exact ⟨p, q, by omega⟩, by have := h.l; omega, h.g⟩
/-- makings as they were drawn -/
structure MksOk (ss ws : List Str) (ms : List MkD) : Prop where
  nd : (ms.map fun m => (m.mr, m.md)).Nodup
  mu : ∀ x ∈ ms, ∃ i j : Nat, i < j ∧ ss[i]? = some x.mr ∧ ss[j]? = some x.md
  l : ms.length ≤ 20
  g : ∀ m ∈ ms, MkG ss ws m
theorem KsOk.fin {ss ws : List Str} {ks : List (Nat × Nat)} {ms : List MkD} {a : Nat} (h : KsOk ss ws ks ms a 0) (hs : ss.Nodup) (ha : a ≤ 4) : MksOk ss ws ms := by
  have ll : ms.length = ks.length := by
    have := congrArg List.length h.e
    rw [List.length_map, List.length_map] at this
    exact this
  refine ⟨?_, fun x hx => ?_, by rw [ll]; have := h.l; omega, h.g⟩
  · rw [h.e]
    unfold List.Nodup
    rw [List.pairwise_map]
    refine List.Pairwise.imp_of_mem (fun {x y} hx hy n e => n ?_) h.nd
    obtain ⟨p1, q1, _⟩ := h.b x hx
    obtain ⟨p2, q2, _⟩ := h.b y hy
    have e1 := atZ_inj hs (by omega) (by omega) (Prod.mk.inj e).1
    have e2 := atZ_inj hs q1 q2 (Prod.mk.inj e).2
    exact Prod.ext e1 e2
  · have m : (x.mr, x.md) ∈ ms.map fun m => (m.mr, m.md) := List.mem_map.mpr ⟨x, hx, rfl⟩
    rw [h.e] at m
    obtain ⟨k, hk, e⟩ := List.mem_map.mp m
    obtain ⟨p, q, _⟩ := h.b k hk
    refine ⟨k.1, k.2, p, ?_, ?_⟩
    · rw [← (Prod.mk.inj e).1]
      exact atZ_get (by omega)
    · rw [← (Prod.mk.inj e).2]
      exact atZ_get q
theorem MksOk.rev {ss ws : List Str} {ms : List MkD} (h : MksOk ss ws ms) : MksOk ss ws ms.reverse := by
  refine ⟨?_, fun x hx => h.mu x (List.mem_reverse.mp hx), by rw [List.length_reverse]; exact h.l, fun x hx => h.g x (List.mem_reverse.mp hx)⟩
  rw [List.map_reverse]
  unfold List.Nodup
  rw [List.pairwise_reverse]
  exact List.Pairwise.imp Ne.symm h.nd
theorem mkg_pt {ss ws : List Str} {ms : List MkD} (h : MksOk ss ws ms) (sn : ∀ z ∈ ss, Nz z) (wn : ∀ z ∈ ws, Nz z) (w5 : ws.length ≤ 5) : ∀ m ∈ ms, PtOk (mkPt m) := fun m hm => by
  have g := h.g m hm
  obtain ⟨i, j, _, e1, e2⟩ := h.mu m hm
  have dl := g.dl
  have ul := g.ul
  refine ⟨noTw_nd g.d, noTw_nd g.u, by omega, by omega, fun z hz => ?_⟩
  simp only [List.mem_cons, List.mem_append] at hz
  rcases hz with rfl | rfl | hz | hz
  · exact sn _ (List.mem_of_getElem? e1)
  · exact sn _ (List.mem_of_getElem? e2)
  · exact wn z (g.dw z hz)
  · exact wn z (g.uw z hz)
def spMks (K : PySem.W.Frag) : Sp := fun vs H Q _ => ∃ (p q r ls lw : Addr) (n : Nat) (ss ws : List Str), vs = [.ref p, .ref ls, .ref lw] ∧ PotAt H p q r n ∧ n ≤ 20000 ∧ H ls = some (.lst (ss.map V.str)) ∧ ls ≠ p ∧ ls ≠ q ∧ ss.Nodup ∧ ss.length ≤ 4 ∧ H lw = some (.lst (ws.map V.str)) ∧ lw ≠ p ∧ lw ≠ q ∧ ws.Nodup ∧ ws.length ≤ 5 ∧
  ∀ (ms : List MkD) (as : List Addr) (d : Addr) H', H d = none → Bt p q H H' → PotAt H' p q r (n + 400) → H' d = some (.lst (as.map V.ref)) → AllAt (DrN K (fun a => H a = none) H') as (ms.map mkPt) → MksOk ss ws ms → Q (.ref d) H'
/-- what stands in the midst of the drawing of makings -/
def MkI (K : PySem.W.Frag) (H : Hp) (p q r d : Addr) (n : Nat) (ss ws : List Str) (a b : Nat) (H' : Hp) : Prop := ∃ (ks : List (Nat × Nat)) (ms : List MkD) (as : List Addr), H' d = some (.lst (as.map V.ref)) ∧ AllAt (DrN K (fun a => H a = none ∧ a ≠ d) H') as (ms.map mkPt) ∧ KsOk ss ws ks ms a b ∧ Bt p q H H' ∧ PotAt H' p q r (n + 13 * (5 * a + b))
section
variable {P : Program} {w : World} {K : PySem.W.Frag} {mg : Str → Option Value} {base : Heap}
theorem scMk : FnScope ["_law_pot_here", "_law_sorts", "_law_words", "_law_found", "_law_at", "_law_below", "_law_down"] ["_law_pot_here", "_law_sorts", "_law_words"] (defScope sMks) := ⟨rfl, rfl, rfl, by decide +kernel, rfl, by decide +kernel, by decide +kernel⟩
theorem ok_mks {f fT fS : Addr} {fd dT dS : FuncData} (F : Fun K "_law_makers" "_law_makers" sMks f fd) (T : TxB mg) (DT : Dn K mg "_law_take" sTak ["_law_pot_here", "_law_many"] fT dT) (GT : FnOk P w K mg base CX0 2 fT dT ["_law_pot_here", "_law_many"] spTak)
    (DSo : Dn K mg "_law_some" sSom ["_law_pot_here", "_law_words"] fS dS) (GSo : FnOk P w K mg base CX0 3 fS dS ["_law_pot_here", "_law_words"] spSom) : FnOk P w K mg base CX0 4 f fd ["_law_pot_here", "_law_sorts", "_law_words"] (spMks K) := by
  refine F.ok scMk (fun vs H Q E h => ?_) (fun cdv A outer s H vs Q E hr h => ?_)
  · obtain ⟨p, q, r, ls, lw, n, ss, ws, rfl, _⟩ := h
    rfl
  · obtain ⟨p, q, r, ls, lw, n, ss, ws, rfl, hP, hn, hls, sp, sq, snd, s4, hlw, wp, wq, wnd, w5, k⟩ := h
    have hr3 : Room 3 _ := hr
    have hr2 : Room 2 _ := hr.mono (by decide)
    refine ⟨_, (pss_cons (ps_set (i := 3) scMk.nd rfl (Or.inl rfl) (pe_lst pa_nil))
      (pss_cons (ps_for PassesOwn.never rfl (pi_range1 rfl T.range (pa_cons (pe_callB call_len_seq (by rfl) T.len (by decide +kernel) (pa_cons (pv 1) pa_nil)) pa_nil)) (pg_name (i := 4) scMk.nd rfl (Or.inl rfl)) (pss_one (ps_for PassesOwn.never rfl (pi_range2 rfl T.range (pa_cons (pe_op op_add (pv 4) pe_int) (pa_cons (pe_callB call_len_seq (by rfl) T.len (by decide +kernel) (pa_cons (pv 1) pa_nil)) pa_nil))) (pg_name (i := 5) scMk.nd rfl (Or.inl rfl)) (pss_one (ps_if (pt_cmpR op_eq (pe_call GT hr2 rfl DT.g DT.F.kp DT.b .nil pass0 (pa_cons (pv 0) (pa_cons pe_int pa_nil))) pe_int (nomark _)) (pss_cons (ps_set (i := 6) scMk.nd rfl (Or.inl rfl) (pe_call GSo hr3 rfl DSo.g DSo.F.kp DSo.b .nil pass0 (pa_cons (pv 0) (pa_cons (pv 2) pa_nil))))
      (pss_one (ps_expr (pe_bm PySem.F.plainAttrs_list PySem.F.slot_list_append PySem.F.type_list_append mt_append (pv 3) (pa_cons (pe_tup (pa_cons (pe_ix ix_list (pv 1) (pv 4) (fun _ _ => rfl)) (pa_cons (pe_ix ix_list (pv 1) (pv 5) (fun _ _ => rfl)) (pa_cons (pv 6) (pa_cons (pe_call GSo hr3 rfl DSo.g DSo.F.kp DSo.b .nil pass0 (pa_cons (pv 0) (pa_cons (pv 2) pa_nil))) pa_nil))))) pa_nil))))) pss_nil)))))
      (pss_cons (ps_if (pt_cmpR op_eq (pe_call GT hr2 rfl DT.g DT.F.kp DT.b .nil pass0 (pa_cons (pv 0) (pa_cons pe_int pa_nil))) pe_int (nomark _)) (pss_one (ps_ret (pe_revL (pv 3)))) pss_nil)
      (pss_one (ps_ret (pv 3)))))), ?_⟩
    rw [show L2.start ["_law_pot_here", "_law_sorts", "_law_words", "_law_found", "_law_at", "_law_below", "_law_down"] [.ref p, .ref ls, .ref lw] = [some (.ref p), some (.ref ls), some (.ref lw), none, none, none, none] from rfl]
    refine ⟨Nat.zero_le _, fun d nd => ?_⟩
    have nd3 := hP.ne nd
    have S0 : Same H (upd H d (.lst [])) := Same.upd nd
    have e0 : (upd H d (.lst [])) d = some (.lst (([] : List Addr).map V.ref)) := upd_same
    have P0 := hP.same S0
    generalize upd H d (.lst []) = H0 at S0 e0 P0
    dsimp only [gName, List.set_cons_succ, List.set_cons_zero]
    have okpq : ∀ a, (H a = none ∧ a ≠ d) → a ≠ p ∧ a ≠ q := fun a h => ⟨(hP.ne h.1).1, (hP.ne h.1).2.1⟩
    have l4 : (ss.map V.str).length = ss.length := List.length_map ..
    refine ⟨_, rfl, ls, _, rfl, .inl (SqL.of (S0 _ _ hls)), _, rfl, by omega, by omega, ?_⟩
    refine for_range (n := (((ss.map V.str).length : Nat) : Int).toNat) (fun i σ H' => (∃ u v x : Option V, σ = [some (.ref p), some (.ref ls), some (.ref lw), some (.ref d), u, v, x]) ∧ MkI K H p q r d n ss ws i 0 H') ⟨⟨none, none, none, rfl⟩, [], [], [], e0, True.intro, ⟨rfl, List.nodup_nil, fun k hk => (List.not_mem_nil hk).elim, by simp, fun k hk => (List.not_mem_nil hk).elim⟩, Same.bt S0, P0.mono (by omega)⟩ ?_ ?_
    · rintro i σ H1 hi ⟨⟨u, v, x, rfl⟩, mi⟩
      have i4 : i < ss.length := by omega
      dsimp only [gName, List.set_cons_succ, List.set_cons_zero]
      rw [Int.zero_add]
      obtain ⟨ks, ms, as, hd, aa, ko, B, PA⟩ := id mi
      have hls1 := B _ _ sp sq hls
      refine ⟨_, rfl, _, _, rfl, rfl, _, rfl, ls, _, rfl, .inl (SqL.of hls1), _, _, rfl, ⟨by omega, by omega, by omega, by omega⟩, ?_⟩
      refine for_range (n := ((((ss.map V.str).length : Nat) : Int) - ((i : Int) + 1)).toNat) (fun j σ H' => (∃ v x : Option V, σ = [some (.ref p), some (.ref ls), some (.ref lw), some (.ref d), some (.int (i : Int)), v, x]) ∧ MkI K H p q r d n ss ws i (i + 1 + j) H') ⟨⟨_, _, rfl⟩, ks, ms, as, hd, aa, ko.up (by omega), B, PA.mono (by omega)⟩ ?_ ?_
      · rintro j σ H2 hj ⟨⟨v, x, rfl⟩, ks, ms, as, hd, aa, ko, B, PA⟩
        have bj : i + 1 + j < ss.length := by omega
        have eb : (i : Int) + 1 + (j : Int) = ((i + 1 + j : Nat) : Int) := by omega
        dsimp only [gName, List.set_cons_succ, List.set_cons_zero]
        rw [eb]
        generalize hb : i + 1 + j = b at bj ko PA
        have ab : i < b := by omega
        have en : i + 1 + (j + 1) = b + 1 := by omega
        refine ⟨_, rfl, p, q, r, _, 2, rfl, PA, by omega, by decide, by decide, fun d2 H3 d0 d1 B3 P3 => ⟨rfl, _, rfl, ?_⟩⟩
        have hd3 := B3 _ _ nd3.1 nd3.2.1 hd
        have B03 := B.trans B3
        have aa3 : AllAt (DrN K (fun a => H a = none ∧ a ≠ d) H3) as (ms.map mkPt) := aa.imp fun a y h => h.bt okpq B3 PA
        refine ite2 (fun _ => ?_) (fun _ => ?_)
        · have hlw3 := B03 _ _ wp wq hlw
          refine ⟨_, rfl, _, rfl, p, q, r, lw, _, ws, rfl, P3, by omega, hlw3, wp, wq, by omega, wnd, fun ds ld H4 nld dnd dmem dl B4 P4 eld => ?_⟩
          dsimp only [gName, List.set_cons_succ, List.set_cons_zero]
          have nld3 := P3.ne nld
          have hd4 := B4 _ _ nd3.1 nd3.2.1 hd3
          have B04 := B03.trans B4
          have hls4 := B04 _ _ sp sq hls
          have hlw4 := B04 _ _ wp wq hlw
          have i4 : i < ss.length := by omega
          refine ⟨_, rfl, .inl ⟨rfl, _, SqL.of hd4⟩, _, rfl, _, rfl, rdList hls4 (j := i) (v := .str (atZ ss i)) rfl (by rw [List.getElem?_map, atZ_get i4]; rfl) ?_⟩
          refine ⟨_, rfl, _, rfl, rdList hls4 (j := b) (v := .str (atZ ss b)) rfl (by rw [List.getElem?_map, atZ_get bj]; rfl) ?_⟩
          refine ⟨_, rfl, _, rfl, _, rfl, p, q, r, lw, _, ws, rfl, P4, by omega, hlw4, wp, wq, by omega, wnd, fun us lu H5 nlu und umem ul B5 P5 elu => ?_⟩
          have nlu3 := P4.ne nlu
          refine ⟨by show 4 ≤ sizeLine; decide, fun t nt => ?_⟩
          have S6 := Same.upd (o := .tup [.str (atZ ss i), .str (atZ ss b), .ref ld, .ref lu]) nt
          have e6 : (upd H5 t (.tup [.str (atZ ss i), .str (atZ ss b), .ref ld, .ref lu])) t = _ := upd_same
          have P6 := P5.same S6
          have hd5 := B5 _ _ nd3.1 nd3.2.1 hd4
          have nldd : ld ≠ d := fun e => by rw [e, hd3] at nld; cases nld
          have nlud : lu ≠ d := fun e => by rw [e, hd4] at nlu; cases nlu
          have eld5 := B5 _ _ nld3.1 nld3.2.1 eld
          have aa5 : AllAt (DrN K (fun a => H a = none ∧ a ≠ d) H5) as (ms.map mkPt) := (aa3.imp fun a y h => h.bt okpq B4 P3).imp fun a y h => h.bt okpq B5 P4
          generalize upd H5 t (.tup [.str (atZ ss i), .str (atZ ss b), .ref ld, .ref lu]) = H6 at S6 e6 P6
          have hd6 := S6 _ _ hd5
          have la := aa.len
          have lm : ms.length = ks.length := by
            have := congrArg List.length ko.e
            rw [List.length_map, List.length_map] at this
            exact this
          have lk := ko.l
          rw [List.length_map] at la
          have B05 := B04.trans B5
          have nt0 : H t = none := B05.free (P5.ne nt).1 (P5.ne nt).2.1 nt
          refine ⟨d, _, _, rfl, rfl, hd6, ?_, ⟨_, _, rfl⟩, ks ++ [(i, b)], ms ++ [⟨atZ ss i, atZ ss b, ds, us⟩], as ++ [t], ?_, ?_, ?_, (B05.trans (Same.bt S6)).new nd, ?_⟩
          · rw [List.length_map]
            exact Nat.lt_of_le_of_lt (show _ ≤ 1000 by omega) (by decide)
          · rw [upd_same, List.map_append]
            rfl
          · rw [List.map_append]
            refine AllAt.append (aa5.imp fun a y h => (h.same S6).put hd6 fun _ h => h.2) ⟨?_, True.intro⟩
            refine DrN.put hd6 (fun _ h => h.2) ?_
            exact ⟨ld, lu, ⟨⟨B03.free nld3.1 nld3.2.1 nld, nldd⟩, B04.free nlu3.1 nlu3.2.1 nlu, nlud⟩, e6, S6 _ _ eld5, S6 _ _ elu⟩
          · rw [en]
            exact ko.put ab bj rfl rfl ⟨dnd, und, dmem, umem, dl, ul⟩
          · rw [en]
            exact (P6.upd nd3.1 nd3.2.1 nd3.2.2).mono (by omega)
        · refine ⟨⟨_, _, rfl⟩, ks, ms, as, hd3, aa3, ?_, B03, P3.mono (by omega)⟩
          rw [en]
          exact ko.skip
      · rintro σ H2 ⟨⟨v, x, rfl⟩, ks, ms, as, hd, aa, ko, B, PA⟩
        exact ⟨⟨_, _, _, rfl⟩, ks, ms, as, hd, aa, ko.row (by omega), B, PA.mono (by omega)⟩
    · rintro σ H1 ⟨⟨u, v, x, rfl⟩, ks, ms, as, hd, aa, ko, B, PA⟩
      have ln : (((ss.map V.str).length : Nat) : Int).toNat = ss.length := by omega
      rw [ln] at ko PA
      have mo := ko.fin snd s4
      refine ⟨_, rfl, p, q, r, _, 2, rfl, PA, by omega, by decide, by decide, fun d2 H3 d0 d1 B3 P3 => ⟨rfl, _, rfl, ?_⟩⟩
      have hd3 := B3 _ _ nd3.1 nd3.2.1 hd
      have B03 := B.trans B3
      have aa3 : AllAt (DrN K (fun a => H a = none ∧ a ≠ d) H3) as (ms.map mkPt) := aa.imp fun a y h => h.bt okpq B3 PA
      refine ite2 (fun _ => ?_) (fun _ => ?_)
      · refine ⟨_, rfl, d, _, rfl, SqL.of hd3, fun d4 n4 => ?_⟩
        have S4 := Same.upd (o := .lst (as.map V.ref).reverse) n4
        have n43 := P3.ne n4
        refine k ms.reverse as.reverse d4 _ (B03.free n43.1 n43.2.1 n4) (B03.trans (Same.bt S4)) ((P3.same S4).mono (by omega)) (by rw [upd_same, List.map_reverse]) ?_ mo.rev
        rw [List.map_reverse]
        exact (aa3.imp fun a y h => (h.same S4).imp fun _ h => h.1).rev
      · exact ⟨_, rfl, k ms as d H3 nd B03 (P3.mono (by omega)) hd3 (aa3.imp fun a y h => h.imp fun _ h => h.1) mo⟩
end
end Wm
namespace Wm
open PySem L2 StX
/-- rules as they were drawn -/
structure RlsOk (ss ws : List Str) (rs : List RlD) : Prop where
  nd : (rs.map (·.p.nm)).Nodup
  ok : ∀ r ∈ rs, PtOk (rlPt r)
  g : ∀ r ∈ rs, RlG ss ws r.p.vars r.p.cs r.g
def spLe (K : PySem.W.Frag) : Sp := fun vs H Q _ => ∃ (p q r ls lw : Addr) (n m : Nat) (ss ws : List Str), vs = [.ref p, .ref ls, .ref lw, .int (m : Int)] ∧ PotAt H p q r n ∧ n ≤ 10000 ∧ m ≤ 8 ∧ H ls = some (.lst (ss.map V.str)) ∧ ls ≠ p ∧ ls ≠ q ∧ ss ≠ [] ∧ ss.length ≤ 4 ∧ H lw = some (.lst (ws.map V.str)) ∧ lw ≠ p ∧ lw ≠ q ∧ ws ≠ [] ∧ ws.length ≤ 5 ∧ (∀ z ∈ ss, Nz z) ∧ (∀ z ∈ ws, Nz z) ∧
  ∀ (rs : List RlD) (as : List Addr) (d : Addr) H', H d = none → Bt p q H H' → PotAt H' p q r (n + 200 * m) → H' d = some (.lst (as.map V.ref)) → AllAt (DrN K (fun a => H a = none) H') as (rs.map rlPt) → RlsOk ss ws rs → rs.length = m → Q (.ref d) H'
def spSr (K : PySem.W.Frag) : Sp := fun vs H Q _ => ∃ (nm : Str) (vars : List Var) (cs : List Tri) (t : Addr), vs = [.ref t] ∧ PtOk (.br nm vars cs) ∧ DrAt K H t (.br nm vars cs) ∧ ∀ H', Same H H' → Q (.str (ptRow (.br nm vars cs))) H'
theorem u1 {k : Nat} {A : Around} (r : Room k A) : A.units + 1 < cLine := by
  have := u65 r
  omega
section
variable {P : Program} {w : World} {K : PySem.W.Frag} {mg : Str → Option Value} {base : Heap}
theorem scLe : FnScope ["_law_pot_here", "_law_sorts", "_law_words", "_law_many", "_law_found", "_law_k", "_law_one"] ["_law_pot_here", "_law_sorts", "_law_words", "_law_many"] (defScope sLe) := ⟨rfl, rfl, rfl, by decide +kernel, rfl, by decide +kernel, by decide +kernel⟩
theorem ok_le {f fR : Addr} {fd dR : FuncData} (F : Fun K "_law_lends" "_law_lends" sLe f fd) (T : TxB mg) (DRu : Dn K mg "_law_rule" sRu ["_law_pot_here", "_law_sorts", "_law_words", "_law_taken"] fR dR) (GRu : FnOk P w K mg base CX0 7 fR dR ["_law_pot_here", "_law_sorts", "_law_words", "_law_taken"] (spRu K)) : FnOk P w K mg base CX0 8 f fd ["_law_pot_here", "_law_sorts", "_law_words", "_law_many"] (spLe K) := by
  refine F.ok scLe (fun vs H Q E h => ?_) (fun cdv A outer s H vs Q E hr h => ?_)
  · obtain ⟨p, q, r, ls, lw, n, m, ss, ws, rfl, _⟩ := h
    rfl
  · obtain ⟨p, q, r, ls, lw, n, m, ss, ws, rfl, hP, hn, m8, hls, sp, sq, s0, s4, hlw, wp, wq, w0, w5, sn, wn, k⟩ := h
    have hr7 : Room 7 _ := hr
    refine ⟨_, (pss_cons (ps_set (i := 4) scLe.nd rfl (Or.inl rfl) (pe_lst pa_nil))
      (pss_cons (ps_for PassesOwn.never rfl (pi_range1 rfl T.range (pa_cons (pv 3) pa_nil)) (pg_name (i := 5) scLe.nd rfl (Or.inl rfl)) (pss_one (ps_expr (pe_bm PySem.F.plainAttrs_list PySem.F.slot_list_append PySem.F.type_list_append mt_append (pv 4) (pa_cons (pe_call GRu hr7 rfl DRu.g DRu.F.kp DRu.b .nil pass0 (pa_cons (pv 0) (pa_cons (pv 1) (pa_cons (pv 2) (pa_cons (pe_lc (own := [("_law_one", 6)]) (g := gName 6) (tt := tYes) (te := (tOp (rIxT K) (tVar 6) (tC (.int 0)))) rfl scLe.nd (pi_list (pv 4)) (blkOk_by (N := ["_law_pot_here", "_law_sorts", "_law_words", "_law_many", "_law_found", "_law_k", "_law_one"]) (sc := defScope sLe) (by decide +kernel)) (fun _ _ _ _ _ => (pg_name (i := 6) scLe.nd rfl (Or.inl rfl))) (fun _ _ _ _ _ => pts_nil) (fun _ _ _ _ _ => (pe_ix ix_tup (pv 6) pe_int (fun _ _ => rfl)))) pa_nil))))) pa_nil)))))
      (pss_one (ps_ret (pv 4))))), ?_⟩
    rw [show L2.start ["_law_pot_here", "_law_sorts", "_law_words", "_law_many", "_law_found", "_law_k", "_law_one"] [.ref p, .ref ls, .ref lw, .int (m : Int)] = [some (.ref p), some (.ref ls), some (.ref lw), some (.int (m : Int)), none, none, none] from rfl]
    refine ⟨Nat.zero_le _, fun d nd => ?_⟩
    have nd3 := hP.ne nd
    have S0 : Same H (upd H d (.lst [])) := Same.upd nd
    have e0 : (upd H d (.lst [])) d = some (.lst (([] : List Addr).map V.ref)) := upd_same
    have P0 := hP.same S0
    generalize upd H d (.lst []) = H0 at S0 e0 P0
    dsimp only [gName, List.set_cons_succ, List.set_cons_zero]
    have okpq : ∀ a, (H a = none ∧ a ≠ d) → a ≠ p ∧ a ≠ q := fun a h => ⟨(hP.ne h.1).1, (hP.ne h.1).2.1⟩
    refine ⟨_, rfl, (m : Int), rfl, by omega, by omega, ?_⟩
    refine for_range (n := (m : Int).toNat) (fun i σ H' => (∃ u x : Option V, σ = [some (.ref p), some (.ref ls), some (.ref lw), some (.int (m : Int)), some (.ref d), u, x]) ∧ ∃ (rs : List RlD) (as : List Addr), H' d = some (.lst (as.map V.ref)) ∧ AllAt (DrN K (fun a => H a = none ∧ a ≠ d) H') as (rs.map rlPt) ∧ RlsOk ss ws rs ∧ rs.length = i ∧ Bt p q H H' ∧ PotAt H' p q r (n + 200 * i)) ⟨⟨none, none, rfl⟩, [], [], e0, True.intro, ⟨List.nodup_nil, fun k hk => (List.not_mem_nil hk).elim, fun k hk => (List.not_mem_nil hk).elim⟩, rfl, Same.bt S0, P0.mono (by omega)⟩ ?_ ?_
    · rintro i σ H1 hi ⟨⟨u, x, rfl⟩, rs, as, hd, aa, ro, rl, B, PA⟩
      have im : i < m := by omega
      dsimp only [gName, List.set_cons_succ, List.set_cons_zero]
      have la := aa.len
      rw [List.length_map] at la
      have hls1 := B _ _ sp sq hls
      have hlw1 := B _ _ wp wq hlw
      refine ⟨_, rfl, .inl ⟨rfl, _, SqL.of hd⟩, _, rfl, _, rfl, _, rfl, _, rfl, d, rfl, ⟨_, SqL.of hd⟩, fun D hD => ?_⟩
      refine lc_list (K := K) (a := d) (xs := as.map V.ref) (fun j H' => Same H1 H' ∧ H' D = some (.lst (((rs.map (·.p.nm)).take j).map V.str))) ⟨Same.upd hD, upd_same⟩ (fun j H' _ pp => SqL.of (pp.1 _ _ hd)) ?_ ?_
      · rintro j y H8 hj ⟨T8, hD8⟩
        obtain ⟨a, y', rfl, hy, dn⟩ := aa.get hj
        rw [List.getElem?_map] at hy
        obtain ⟨rd, hrd, rfl⟩ := Option.map_eq_some_iff.mp hy
        obtain ⟨lv, lc, tg, ps, qs, _, a1, _⟩ := dn.same T8
        have il : j < rs.length := (List.getElem?_eq_some_iff.mp hrd).1
        refine ⟨rfl, _, rfl, a, _, 0, .str rd.p.nm, rfl, rfl, SqT.of a1, atI_nat (j := 0) rfl, ?_⟩
        refine ⟨_, hD8, ?_, fun b o e => ?_, ?_⟩
        · rw [List.length_map, List.length_take]
          exact Nat.lt_of_le_of_lt (show _ ≤ 1000 by omega) (by decide)
        · rw [upd_ne (ne_of_none e hD)]
          exact T8 _ _ e
        · have en : (rs.map (·.p.nm))[j]? = some rd.p.nm := by rw [List.getElem?_map, hrd]; rfl
          rw [upd_same, List.take_add_one, en, List.map_append]
          rfl
      rintro H8 ⟨T8, hD8⟩
      rw [List.length_map, la, show rs.length = (rs.map (·.p.nm)).length from (List.length_map ..).symm, List.take_length] at hD8
      have hDn := PA.ne hD
      have P8 := PA.same T8
      have hd8 := T8 _ _ hd
      refine ⟨p, q, r, ls, lw, D, _, ss, ws, _, rfl, P8, by omega, T8 _ _ hls1, sp, sq, s0, by omega, T8 _ _ hlw1, wp, wq, w0, by omega, hD8, by rw [List.length_map]; omega, hDn.1, hDn.2.1, sn, wn, fun nm vars cs g b t H9 rg ntk B9 P9 nt po dn => ?_⟩
      have hd9 := B9 _ _ nd3.1 nd3.2.1 hd8
      have aa9 : AllAt (DrN K (fun a => H a = none ∧ a ≠ d) H9) as (rs.map rlPt) := (aa.imp fun a y h => h.same T8).imp fun a y h => h.bt okpq B9 P8
      have B09 := B.trans ((Same.bt T8).trans B9)
      have B08 := B.trans (Same.bt T8)
      refine ⟨d, _, _, rfl, rfl, hd9, ?_, ⟨_, _, rfl⟩, rs ++ [⟨⟨nm, vars, cs⟩, g, b⟩], as ++ [t], ?_, ?_, ⟨?_, fun r hr => ?_, fun r hr => ?_⟩, ?_, B09.new nd, ?_⟩
      · rw [List.length_map]
        exact Nat.lt_of_le_of_lt (show _ ≤ 1000 by omega) (by decide)
      · rw [upd_same, List.map_append]
        rfl
      · rw [List.map_append]
        refine AllAt.append (aa9.imp fun a y h => h.put hd9 fun _ h => h.2) ⟨?_, True.intro⟩
        refine DrN.put hd9 (fun _ h => h.2) ?_
        refine dn.imp fun a h => ⟨B08.free (P8.ne h).1 (P8.ne h).2.1 h, fun e => ?_⟩
        rw [e, hd8] at h
        cases h
      · rw [List.map_append, List.nodup_append]
        refine ⟨ro.nd, by simp, fun a ha b' hb e => ntk ?_⟩
        have : b' = nm := by simpa using hb
        rw [← this, ← e]
        exact ha
      · rcases List.mem_append.mp hr with h | h
        · exact ro.ok r h
        · rw [List.mem_singleton.mp h]
          exact po
      · rcases List.mem_append.mp hr with h | h
        · exact ro.g r h
        · rw [List.mem_singleton.mp h]
          exact rg
      · rw [List.length_append, rl]
        rfl
      · exact (P9.upd nd3.1 nd3.2.1 nd3.2.2).mono (by omega)
    · rintro σ H1 ⟨⟨u, x, rfl⟩, rs, as, hd, aa, ro, rl, B, PA⟩
      exact ⟨_, rfl, k rs as d H1 nd B (PA.mono (by omega)) hd (aa.imp fun a y h => h.imp fun _ h => h.1) ro (by omega)⟩
theorem scSr : FnScope ["_law_stop"] ["_law_stop"] (defScope sSr) := ⟨rfl, rfl, rfl, by decide +kernel, rfl, by decide +kernel, by decide +kernel⟩
theorem ok_sr {f fP : Addr} {fd dP : FuncData} (F : Fun K "_law_stop_row" "_law_stop_row" sSr f fd) (DPp : Dn K mg "_law_pattern_parts" sPpt ["_law_kind", "_law_name_here", "_law_variables", "_law_conditions"] fP dP) (GPp : FnOk P w K mg base CX0 1 fP dP ["_law_kind", "_law_name_here", "_law_variables", "_law_conditions"] (spPpt K)) : FnOk P w K mg base CX0 2 f fd ["_law_stop"] (spSr K) := by
  refine F.ok scSr (fun vs H Q E h => ?_) (fun cdv A outer s H vs Q E hr h => ?_)
  · obtain ⟨nm, vars, cs, t, rfl, _⟩ := h
    rfl
  · obtain ⟨nm, vars, cs, t, rfl, po, ⟨lv, lc, ps, qs, a1, a3, a4, a5, a6⟩, k⟩ := h
    have hr1 : Room 1 _ := hr
    obtain ⟨q1, q2⟩ := row_q po
    refine ⟨_, (pss_one (ps_ret (pe_join pe_str (pe_call GPp hr1 rfl DPp.g DPp.F.kp DPp.b .nil pass0 (pa_cons pe_str (pa_cons (pe_ix ix_tup (pv 0) pe_int (fun _ _ => rfl)) (pa_cons (pe_ix ix_tup (pv 0) pe_int (fun _ _ => rfl)) (pa_cons (pe_ix ix_tup (pv 0) pe_int (fun _ _ => rfl)) pa_nil)))))))), ?_⟩
    refine ⟨⟨_, rfl⟩, _, rfl, t, _, 0, .str nm, rfl, rfl, SqT.of a1, atI_nat (j := 0) rfl, ?_⟩
    refine ⟨_, rfl, t, _, 1, .ref lv, rfl, rfl, SqT.of a1, atI_nat (j := 1) rfl, ?_⟩
    refine ⟨_, rfl, t, _, 2, .ref lc, rfl, rfl, SqT.of a1, atI_nat (j := 2) rfl, ?_⟩
    refine ⟨"bar", nm, lv, lc, ps, qs, vars, cs, rfl, a3, a4, a5, a6, sm_of (gs := []) po.1 (by rw [List.append_nil]; exact po.2), po.1.v4, po.1.c3, fun d H5 nd S5 e5 => ?_⟩
    have eq5 : partsL "bar" nm vars cs = Pt.parts (.br nm vars cs) := by
      show _ = partsL "bar" nm vars cs ++ []
      rw [List.append_nil]
    rw [eq5] at e5
    exact ⟨_, d, _, rfl, rfl, .inl (SqL.of e5), join_ok q1 q2, k H5 S5⟩
end
end Wm
namespace Wm
open PySem L2 StX
/-- a scheme as the law draws it -/
def ScD (K : PySem.W.Frag) (ok : Addr → Prop) (H : Hp) (t : Addr) (ss ws : List Str) (ms : List MkD) (rs : List RlD) (ps : List PtD) : Prop := ∃ (l1 l2 l3 l4 l5 : Addr) (as bs cs : List Addr), (ok l1 ∧ ok l2 ∧ ok l3 ∧ ok l4 ∧ ok l5) ∧ H t = some (.tup [.ref l1, .ref l2, .ref l3, .ref l4, .ref l5]) ∧ H l1 = some (.lst (ss.map V.str)) ∧ H l2 = some (.lst (ws.map V.str)) ∧ H l3 = some (.lst (as.map V.ref)) ∧ H l4 = some (.lst (bs.map V.ref)) ∧ H l5 = some (.lst (cs.map V.ref)) ∧
  AllAt (DrN K ok H) as (ms.map mkPt) ∧ AllAt (DrN K ok H) bs (rs.map rlPt) ∧ AllAt (DrN K ok H) cs (ps.map brPt)
theorem dr_same {K : PySem.W.Frag} {ok : Addr → Prop} {H H' : Hp} {as : List Addr} {xs : List Pt} (s : Same H H') (h : AllAt (DrN K ok H) as xs) : AllAt (DrN K ok H') as xs := h.imp fun _ _ q => q.same s
theorem ScD.same {K : PySem.W.Frag} {ok : Addr → Prop} {H H' : Hp} {t : Addr} {ss ws : List Str} {ms : List MkD} {rs : List RlD} {ps : List PtD} (s : Same H H') (h : ScD K ok H t ss ws ms rs ps) : ScD K ok H' t ss ws ms rs ps := by
  obtain ⟨l1, l2, l3, l4, l5, as, bs, cs, o, a0, a1, a2, a3, a4, a5, b1, b2, b3⟩ := h
  exact ⟨l1, l2, l3, l4, l5, as, bs, cs, o, s _ _ a0, s _ _ a1, s _ _ a2, s _ _ a3, s _ _ a4, s _ _ a5, dr_same s b1, dr_same s b2, dr_same s b3⟩
def spRo (K : PySem.W.Frag) : Sp := fun vs H Q _ => ∃ (t : Addr) (ok : Addr → Prop) (ss ws : List Str) (ms : List MkD) (rs : List RlD) (ps : List PtD), vs = [.ref t] ∧ ScD K ok H t ss ws ms rs ps ∧ SchK ss ws ms rs ps ∧ ∀ d H', H d = none → Same H H' → H' d = some (.lst ((rowsL ss ws (allPt ms rs ps)).map V.str)) → Q (.ref d) H'
section
variable {P : Program} {w : World} {K : PySem.W.Frag} {mg : Str → Option Value} {base : Heap}
theorem scRo : FnScope ["_law_scheme_here", "_law_sorts", "_law_words", "_law_makers_here", "_law_lends_here", "_law_stops", "_law_rows_here", "_law_making", "_law_rule_here", "_law_stop"] ["_law_scheme_here"] (defScope sRo) := ⟨rfl, rfl, rfl, by decide +kernel, rfl, by decide +kernel, by decide +kernel⟩
theorem ok_ro {f fM fR fS : Addr} {fd dM dR dS : FuncData} (F : Fun K "_law_rows" "_law_rows" sRo f fd) (DMr : Dn K mg "_law_making_row" sMr ["_law_making"] fM dM) (DRr : Dn K mg "_law_rule_row" sRr ["_law_rule_here"] fR dR) (GRr : FnOk P w K mg base CX0 2 fR dR ["_law_rule_here"] (spRr K)) (DSr : Dn K mg "_law_stop_row" sSr ["_law_stop"] fS dS) (GSr : FnOk P w K mg base CX0 2 fS dS ["_law_stop"] (spSr K)) :
    FnOk P w K mg base CX0 3 f fd ["_law_scheme_here"] (spRo K) := by
  have GMr : FnOk P w K mg base CX0 1 fM dM ["_law_making"] (spMr K) := ok_mr DMr.F
  refine F.ok scRo (fun vs H Q E h => ?_) (fun cdv A outer s H vs Q E hr h => ?_)
  · obtain ⟨t, ok, ss, ws, ms, rs, ps, rfl, _⟩ := h
    rfl
  · obtain ⟨t, ok, ss, ws, ms, rs, ps, rfl, ⟨l1, l2, l3, l4, l5, as, bs, cs, o, a0, a1, a2, a3, a4, a5, b1, b2, b3⟩, sk, k⟩ := h
    have hr2 : Room 2 _ := hr
    have hr1 : Room 1 _ := hr.mono (by decide)
    have pok : ∀ p, ((∃ m, m ∈ ms ∧ mkPt m = p) ∨ (∃ m, m ∈ rs ∧ rlPt m = p) ∨ (∃ m, m ∈ ps ∧ brPt m = p)) → PtOk p := fun p h => by
      refine sk.pt p ?_
      unfold allPt
      rcases h with ⟨m, hm, rfl⟩ | ⟨m, hm, rfl⟩ | ⟨m, hm, rfl⟩
      · exact List.mem_append_left _ (List.mem_map.mpr ⟨m, hm, rfl⟩)
      · exact List.mem_append_right _ (List.mem_append_left _ (List.mem_map.mpr ⟨m, hm, rfl⟩))
      · exact List.mem_append_right _ (List.mem_append_right _ (List.mem_map.mpr ⟨m, hm, rfl⟩))
    have m20 := sk.m9
    have r8 := sk.ok.r8
    have p4 := sk.ok.b4
    refine ⟨_, (pss_cons (ps_asg (pv 0) (pg_tup rfl (pgs_cons (pg_name (i := 1) scRo.nd rfl (Or.inl rfl)) (pgs_cons (pg_name (i := 2) scRo.nd rfl (Or.inl rfl)) (pgs_cons (pg_name (i := 3) scRo.nd rfl (Or.inl rfl)) (pgs_cons (pg_name (i := 4) scRo.nd rfl (Or.inl rfl)) (pgs_cons (pg_name (i := 5) scRo.nd rfl (Or.inl rfl)) pgs_nil)))))))
      (pss_cons (ps_set (i := 6) scRo.nd rfl (Or.inl rfl) (pe_lst (pa_cons (pe_join pe_str (pe_op op_cat (pe_lst (pa_cons pe_str pa_nil)) (pv 1))) (pa_cons (pe_join pe_str (pe_op op_cat (pe_lst (pa_cons pe_str pa_nil)) (pv 2))) pa_nil))))
      (pss_cons (ps_set (i := 6) scRo.nd rfl (Or.inl rfl) (pe_op op_cat (pv 6) (pe_lc (own := [("_law_making", 7)]) (g := gName 7) (tt := tYes) (te := (tCall (spMr K) [] E0 (tCons (tVar 7) tNil))) rfl scRo.nd (pi_list (pv 3)) (blkOk_by (N := ["_law_scheme_here", "_law_sorts", "_law_words", "_law_makers_here", "_law_lends_here", "_law_stops", "_law_rows_here", "_law_making", "_law_rule_here", "_law_stop"]) (sc := defScope sRo) (by decide +kernel)) (fun _ _ _ _ _ => (pg_name (i := 7) scRo.nd rfl (Or.inl rfl))) (fun _ _ _ _ _ => pts_nil) (fun _ _ _ _ _ => (pe_call GMr hr1 rfl DMr.g DMr.F.kp DMr.b .nil pass0 (pa_cons (pv 7) pa_nil))))))
      (pss_cons (ps_set (i := 6) scRo.nd rfl (Or.inl rfl) (pe_op op_cat (pv 6) (pe_lc (own := [("_law_rule_here", 8)]) (g := gName 8) (tt := tYes) (te := (tCall (spRr K) [] E0 (tCons (tVar 8) tNil))) rfl scRo.nd (pi_list (pv 4)) (blkOk_by (N := ["_law_scheme_here", "_law_sorts", "_law_words", "_law_makers_here", "_law_lends_here", "_law_stops", "_law_rows_here", "_law_making", "_law_rule_here", "_law_stop"]) (sc := defScope sRo) (by decide +kernel)) (fun _ _ _ _ _ => (pg_name (i := 8) scRo.nd rfl (Or.inl rfl))) (fun _ _ _ _ _ => pts_nil) (fun _ _ _ _ _ => (pe_call GRr hr2 rfl DRr.g DRr.F.kp DRr.b .nil pass0 (pa_cons (pv 8) pa_nil))))))
      (pss_one (ps_ret (pe_op op_cat (pv 6) (pe_lc (own := [("_law_stop", 9)]) (g := gName 9) (tt := tYes) (te := (tCall (spSr K) [] E0 (tCons (tVar 9) tNil))) rfl scRo.nd (pi_list (pv 5)) (blkOk_by (N := ["_law_scheme_here", "_law_sorts", "_law_words", "_law_makers_here", "_law_lends_here", "_law_stops", "_law_rows_here", "_law_making", "_law_rule_here", "_law_stop"]) (sc := defScope sRo) (by decide +kernel)) (fun _ _ _ _ _ => (pg_name (i := 9) scRo.nd rfl (Or.inl rfl))) (fun _ _ _ _ _ => pts_nil) (fun _ _ _ _ _ => (pe_call GSr hr2 rfl DSr.g DSr.F.kp DSr.b .nil pass0 (pa_cons (pv 9) pa_nil))))))))))), ?_⟩
    rw [show L2.start ["_law_scheme_here", "_law_sorts", "_law_words", "_law_makers_here", "_law_lends_here", "_law_stops", "_law_rows_here", "_law_making", "_law_rule_here", "_law_stop"] [.ref t] = [some (.ref t), none, none, none, none, none, none, none, none, none] from rfl]
    refine ⟨_, rfl, t, _, rfl, SqT.of a0, rfl, _, _, rfl, _, _, rfl, _, _, rfl, _, _, rfl, _, _, rfl, rfl, ?_⟩
    dsimp only [gName, List.set_cons_succ, List.set_cons_zero]
    -- the first two
    refine ⟨⟨_, rfl⟩, by show 1 ≤ sizeLine; decide, fun d1 n1 => ?_⟩
    have S1 := Same.upd (o := .lst [.str "sorts"]) n1
    have e1 : (upd H d1 (.lst [.str "sorts"])) d1 = _ := upd_same
    generalize upd H d1 (.lst [.str "sorts"]) = H1 at S1 e1
    have s4 := sk.ok.s4
    have w5 := sk.ok.w5
    refine ⟨_, rfl, d1, l1, _, _, rfl, rfl, e1, S1 _ _ a1, ?_, fun d2 n2 => ?_⟩
    · rw [List.length_map]
      exact Nat.le_trans (show _ ≤ 1000 by show 1 + ss.length ≤ 1000; omega) (by decide)
    have S2 := Same.upd (o := .lst ([.str "sorts"] ++ ss.map V.str)) n2
    have e2 : (upd H1 d2 (.lst ([.str "sorts"] ++ ss.map V.str))) d2 = some (.lst ((("sorts" : Str) :: ss).map V.str)) := upd_same
    generalize upd H1 d2 (.lst ([.str "sorts"] ++ ss.map V.str)) = H2 at S2 e2
    refine ⟨_, d2, _, rfl, rfl, .inl (SqL.of e2), join_ok (nz_len sk.sn (by show _ ≤ 300; decide +kernel)) (by rw [List.length_cons]; omega), ?_⟩
    have S02 := S1.trans S2
    refine ⟨⟨_, rfl⟩, by show 1 ≤ sizeLine; decide, fun d3 n3 => ?_⟩
    have S3 := Same.upd (o := .lst [.str "words"]) n3
    have e3 : (upd H2 d3 (.lst [.str "words"])) d3 = _ := upd_same
    generalize upd H2 d3 (.lst [.str "words"]) = H3 at S3 e3
    refine ⟨_, rfl, d3, l2, _, _, rfl, rfl, e3, (S02.trans S3) _ _ a2, ?_, fun d4 n4 => ?_⟩
    · rw [List.length_map]
      exact Nat.le_trans (show _ ≤ 1000 by show 1 + ws.length ≤ 1000; omega) (by decide)
    have S4 := Same.upd (o := .lst ([.str "words"] ++ ws.map V.str)) n4
    have e4 : (upd H3 d4 (.lst ([.str "words"] ++ ws.map V.str))) d4 = some (.lst ((("words" : Str) :: ws).map V.str)) := upd_same
    generalize upd H3 d4 (.lst ([.str "words"] ++ ws.map V.str)) = H4 at S4 e4
    refine ⟨_, d4, _, rfl, rfl, .inl (SqL.of e4), join_ok (nz_len sk.wn (by show _ ≤ 300; decide +kernel)) (by rw [List.length_cons]; omega), ?_⟩
    refine ⟨by show 2 ≤ sizeLine; decide, fun r0 nr0 => ?_⟩
    have S5 := Same.upd (o := .lst [.str (hdRow "sorts" ss), .str (hdRow "words" ws)]) nr0
    have er0 : (upd H4 r0 (.lst [.str (hdRow "sorts" ss), .str (hdRow "words" ws)])) r0 = some (.lst ([hdRow "sorts" ss, hdRow "words" ws].map V.str)) := upd_same
    change (upd H4 r0 (.lst [.str (hdRow "sorts" ss), .str (hdRow "words" ws)])) r0 = some (.lst ([hdRow "sorts" ss, hdRow "words" ws].map V.str)) at er0
    have S0a := S02.trans (S3.trans (S4.trans S5))
    rw [show Txt.join (PySem.Str.ofString " ") (("sorts" : Str) :: ss) = hdRow "sorts" ss from rfl, show Txt.join (PySem.Str.ofString " ") (("words" : Str) :: ws) = hdRow "words" ws from rfl]
    generalize upd H4 r0 (.lst [.str (hdRow "sorts" ss), .str (hdRow "words" ws)]) = Ha at S0a er0
    clear S5
    generalize hR0 : [hdRow "sorts" ss, hdRow "words" ws] = R0 at er0
    have lR0 : R0.length = 2 := by rw [← hR0]; rfl
    dsimp only [gName, List.set_cons_succ, List.set_cons_zero]
    have h3 := S0a _ _ a3
    have aa := dr_same S0a b1
    -- makings
    have lx1 := aa.len
    rw [List.length_map] at lx1
    refine ⟨_, rfl, _, rfl, l3, rfl, ⟨_, SqL.of h3⟩, fun D1 hD1 => ?_⟩
    refine lc_list (K := K) (a := l3) (xs := as.map V.ref) (fun j H' => Same Ha H' ∧ H' D1 = some (.lst ((((ms.map mkPt).take j).map ptRow).map V.str))) ⟨Same.upd hD1, upd_same⟩ (fun j H' _ pp => SqL.of (pp.1 _ _ h3)) ?_ ?_
    · rintro j y H8 hj ⟨T8, hD8⟩
      obtain ⟨a, y', rfl, hy, dn⟩ := aa.get hj
      have hy2 := hy
      rw [List.getElem?_map] at hy2
      obtain ⟨m, hm, rfl⟩ := Option.map_eq_some_iff.mp hy2
      have il : j < ms.length := (List.getElem?_eq_some_iff.mp hm).1
      have dt := (dn.same T8).at
      refine ⟨rfl, _, rfl, m.mr, m.md, m.dn, m.up, a, rfl, pok _ (.inl ⟨m, List.mem_of_getElem? hm, rfl⟩), dt, fun H9 S9 => ?_⟩
      refine ⟨_, S9 _ _ hD8, ?_, fun b o e => ?_, ?_⟩
      · rw [List.length_map, List.length_map, List.length_take, List.length_map]
        exact Nat.lt_of_le_of_lt (show _ ≤ 1000 by omega) (by decide)
      · rw [upd_ne (ne_of_none e hD1)]
        exact (T8.trans S9) _ _ e
      · rw [upd_same, List.take_add_one, hy, List.map_append, List.map_append]
        rfl
    rintro Hb ⟨Tb, e1⟩
    rw [List.length_map, lx1, show ms.length = (ms.map mkPt).length from (List.length_map ..).symm, List.take_length] at e1

    refine ⟨r0, D1, _, _, rfl, rfl, Tb _ _ er0, e1, ?_, fun r1 nr1 => ?_⟩
    · rw [List.length_map, List.length_map, List.length_map, List.length_map, lR0]
      exact Nat.le_trans (show _ ≤ 1000 by omega) (by decide)
    have S6 := Same.upd (o := .lst (R0.map V.str ++ ((ms.map mkPt).map ptRow).map V.str)) nr1
    have er1 : (upd Hb r1 (.lst (R0.map V.str ++ ((ms.map mkPt).map ptRow).map V.str))) r1 = _ := upd_same
    generalize upd Hb r1 (.lst (R0.map V.str ++ ((ms.map mkPt).map ptRow).map V.str)) = Hc at S6 er1
    have S0c := S0a.trans (Tb.trans S6)
    dsimp only [gName, List.set_cons_succ, List.set_cons_zero]
    have h4 := S0c _ _ a4
    have ab := dr_same S0c b2
    have lx2 := ab.len
    rw [List.length_map] at lx2
    refine ⟨_, rfl, _, rfl, l4, rfl, ⟨_, SqL.of h4⟩, fun D2 hD2 => ?_⟩
    refine lc_list (K := K) (a := l4) (xs := bs.map V.ref) (fun j H' => Same Hc H' ∧ H' D2 = some (.lst ((((rs.map rlPt).take j).map ptRow).map V.str))) ⟨Same.upd hD2, upd_same⟩ (fun j H' _ pp => SqL.of (pp.1 _ _ h4)) ?_ ?_
    · rintro j y H8 hj ⟨T8, hD8⟩
      obtain ⟨a, y', rfl, hy, dn⟩ := ab.get hj
      have hy2 := hy
      rw [List.getElem?_map] at hy2
      obtain ⟨m, hm, rfl⟩ := Option.map_eq_some_iff.mp hy2
      have il : j < rs.length := (List.getElem?_eq_some_iff.mp hm).1
      have dt := (dn.same T8).at
      refine ⟨rfl, _, rfl, m.p.nm, m.p.vars, m.p.cs, m.g, m.bh, a, rfl, pok _ (.inr (.inl ⟨m, List.mem_of_getElem? hm, rfl⟩)), dt, fun H9 S9 => ?_⟩
      refine ⟨_, S9 _ _ hD8, ?_, fun b o e => ?_, ?_⟩
      · rw [List.length_map, List.length_map, List.length_take, List.length_map]
        exact Nat.lt_of_le_of_lt (show _ ≤ 1000 by omega) (by decide)
      · rw [upd_ne (ne_of_none e hD2)]
        exact (T8.trans S9) _ _ e
      · rw [upd_same, List.take_add_one, hy, List.map_append, List.map_append]
        rfl
    rintro Hd ⟨Td, e2⟩
    rw [List.length_map, lx2, show rs.length = (rs.map rlPt).length from (List.length_map ..).symm, List.take_length] at e2

    refine ⟨r1, D2, _, _, rfl, rfl, Td _ _ er1, e2, ?_, fun r2 nr2 => ?_⟩
    · rw [List.length_append, List.length_map, List.length_map, List.length_map, List.length_map, List.length_map, List.length_map, List.length_map, lR0]
      exact Nat.le_trans (show _ ≤ 1000 by omega) (by decide)
    have S7 := Same.upd (o := .lst (R0.map V.str ++ ((ms.map mkPt).map ptRow).map V.str ++ ((rs.map rlPt).map ptRow).map V.str)) nr2
    have er2 : (upd Hd r2 (.lst (R0.map V.str ++ ((ms.map mkPt).map ptRow).map V.str ++ ((rs.map rlPt).map ptRow).map V.str))) r2 = _ := upd_same
    generalize upd Hd r2 (.lst (R0.map V.str ++ ((ms.map mkPt).map ptRow).map V.str ++ ((rs.map rlPt).map ptRow).map V.str)) = He at S7 er2
    have S0e := S0c.trans (Td.trans S7)
    dsimp only [gName, List.set_cons_succ, List.set_cons_zero]
    have h5 := S0e _ _ a5
    have ac := dr_same S0e b3
    have lx3 := ac.len
    rw [List.length_map] at lx3
    refine ⟨_, rfl, _, rfl, l5, rfl, ⟨_, SqL.of h5⟩, fun D3 hD3 => ?_⟩
    refine lc_list (K := K) (a := l5) (xs := cs.map V.ref) (fun j H' => Same He H' ∧ H' D3 = some (.lst ((((ps.map brPt).take j).map ptRow).map V.str))) ⟨Same.upd hD3, upd_same⟩ (fun j H' _ pp => SqL.of (pp.1 _ _ h5)) ?_ ?_
    · rintro j y H8 hj ⟨T8, hD8⟩
      obtain ⟨a, y', rfl, hy, dn⟩ := ac.get hj
      have hy2 := hy
      rw [List.getElem?_map] at hy2
      obtain ⟨m, hm, rfl⟩ := Option.map_eq_some_iff.mp hy2
      have il : j < ps.length := (List.getElem?_eq_some_iff.mp hm).1
      have dt := (dn.same T8).at
      refine ⟨rfl, _, rfl, m.nm, m.vars, m.cs, a, rfl, pok _ (.inr (.inr ⟨m, List.mem_of_getElem? hm, rfl⟩)), dt, fun H9 S9 => ?_⟩
      refine ⟨_, S9 _ _ hD8, ?_, fun b o e => ?_, ?_⟩
      · rw [List.length_map, List.length_map, List.length_take, List.length_map]
        exact Nat.lt_of_le_of_lt (show _ ≤ 1000 by omega) (by decide)
      · rw [upd_ne (ne_of_none e hD3)]
        exact (T8.trans S9) _ _ e
      · rw [upd_same, List.take_add_one, hy, List.map_append, List.map_append]
        rfl
    rintro Hf ⟨Tf, e3⟩
    rw [List.length_map, lx3, show ps.length = (ps.map brPt).length from (List.length_map ..).symm, List.take_length] at e3

    refine ⟨r2, D3, _, _, rfl, rfl, Tf _ _ er2, e3, ?_, fun r3 nr3 => ?_⟩
    · rw [List.length_append, List.length_append, List.length_map, List.length_map, List.length_map, List.length_map, List.length_map, List.length_map, List.length_map, List.length_map, List.length_map, List.length_map, lR0]
      exact Nat.le_trans (show _ ≤ 1000 by omega) (by decide)
    have S0f := S0e.trans Tf
    refine k r3 _ (S0f.free nr3) (S0f.trans (Same.upd nr3)) ?_
    rw [upd_same, ← hR0]
    unfold rowsL allPt
    simp only [List.map_append, List.map_cons, List.append_assoc, List.cons_append, List.nil_append, List.map_nil]
end
end Wm
/-! methods called by several names; != of two lists that hold the very same objects; what keywords bind -/
namespace Wm
open PySem PySem.Spec PyProof.Rows L2
def tMethK (C : Addr) (m : Str) (n : Nat) (sp : Sp) (gV : List V → List V → List V) (E : L2.St → XK) (ta : TE) (tk : TA) : TE := fun σ H Q => ta σ H fun x H1 => ∃ a dx fs, x = .ref a ∧ H1 a = some (.ins C dx fs) ∧ fs.lookup m = none ∧ tk σ H1 fun zs H2 => zs.length = n ∧ sp (gV [x] zs) H2 Q (E σ)
section
variable {X : Cx} {CX : CXT} {k : Nat} {f C : Addr} {fd : FuncData} {ps ks : List Str} {sp : Sp} {E : L2.St → XK} {m : Str} {pos apos : Pos} {o : Expr} {kws : List Keyword} {ta : TE} {tk : TA} {g : List Value → List Value → List Value} {gV : List V → List V → List V}
/-- o.m(k = v, ..) -/
theorem pe_methKN {pl : Sem Bool} (ho : PE X o ta) (c : Cls X.K C) (hm : Meth X.K C m f) (F : FnOk X.prog X.w X.K X.mg X.base CX k f fd ps sp) (hr : Room k X.A) (hb : KBn X.K fd ps 1 ks g gV) (hx : ∀ σ, PassesAt CX X σ (E σ)) (hkw : PK X kws tk)
    (ht : eval (.Call (.Attribute o m apos) [] kws pos) X.env = (do
      let ov ← eval o X.env
      standAt apos.atName
      let (f, first) ← holding [ov] (getMethod ov m pl)
      callWith pos f first (backTo pos (starEach [] X.env)) (backToKw pos (keywordEach kws X.env))) := by rfl)
    (hall : (backToKw pos (keywordEach kws X.env)).all (·.1.isSome) = true := by rfl) (hks : (backToKw pos (keywordEach kws X.env)).filterMap (·.1) = ks := by rfl) (hpl : ((backTo pos (starEach [] X.env)).any (·.1) || (backToKw pos (keywordEach kws X.env)).any (·.1.isNone)) = false := by rfl) :
    PE X (.Call (.Attribute o m apos) [] kws pos) (tMethK C m ks.length sp gV E ta tk) := by
  refine ⟨fun pins s σ H Q I h => ?_⟩
  refine PySem.W.methodCall_KW (pl := pl) (thn (ho.run pins s σ H _ I h) fun u s1 hh => ?_) ht
  obtain ⟨y, H1, I1, rx, a, dx, fs, ex, ea, l, q⟩ := hh
  subst ex
  obtain rfl : u = Value.ref a := rx
  refine getmeth_ok I1 ea c hm l ?_
  refine PySem.W.callWith_KW0 (first := [.ref a]) (h₀ := X.base) I.ok.mod.kin hm.kp hall (thn (hkw.run pos pins s1 σ H1 _ I1 q) fun ws s2 hh => ?_) hpl
  obtain ⟨zs, H2, I2, rz, l2, q2⟩ := hh
  refine ⟨I2.kIn, ?_⟩
  rw [hks]
  have rv : Vals (gV [V.ref a] zs) (g [Value.ref a] ws) := hb.rel (.cons rfl .nil) rz
  refine wpAny_call (codeAny_mono (F.run X.A X.stack s2 H2 ⟨[Value.ref a], ks.zip ws⟩ (g [Value.ref a] ws) (gV [V.ref a] zs) Q (E σ) hr I2.env0 (hb.to s2 [Value.ref a] ws I2.kIn rfl (rz.length.symm.trans l2)) rv q2) fun r s' hq => ?_)
  cases r with
  | error er => exact hx σ pins H2 s2 er s' I2 hq
  | ok fl =>
    cases fl with
    | ret u => exact I2.after hq
    | next => exact False.elim hq
    | brk => exact False.elim hq
    | cont => exact False.elim hq
end
theorem pass0At {X : Cx} {E : L2.St → XK} : ∀ σ, PassesAt CX0 X σ (E σ) := fun _ _ _ _ _ _ _ h => h.elim
theorem vals_refs : ∀ {as : List Addr} {us : List Value}, Vals (as.map V.ref) us → us = as.map Value.ref
  | [], _, .nil => rfl
  | a :: as, _, .cons h r => by
    have e := vals_refs (as := as) r
    cases h
    rw [e]
    rfl
/-- a != b, two lists that hold the very same objects -/
def rNeS : R2 := fun x y H Q => ∃ (a b : Addr) (as : List Addr), x = .ref a ∧ y = .ref b ∧ H a = some (.lst (as.map V.ref)) ∧ H b = some (.lst (as.map V.ref)) ∧ Q (.bl false) H
theorem op_neS {X : Cx} (hu : X.A.units < cLine) : OpR X (compareOp .NotEq) rNeS := by
  intro pins s σ H x y v u Q I rx ry h
  obtain ⟨a, b, as, rfl, rfl, ha, hb, q⟩ := h
  cases rx
  cases ry
  obtain ⟨z, its, k, r, e⟩ := I.hok a _ ha
  obtain ⟨z2, its2, k2, r2, e2⟩ := I.hok b _ hb
  have h1 := vals_refs r
  have h2 := vals_refs r2
  subst h1
  subst h2
  have hr := SeqAt.RcNeAt.lists (A := X.A) (s := s) (l := a) (b := b) (items := (as.map Value.ref).toArray) (items2 := (as.map Value.ref).toArray) (e := fun _ => true) ⟨_, e, rfl, _, rfl⟩ ⟨_, e2, rfl, _, rfl⟩ rfl hu (fun j h1 h2 => SeqAt.EqAt.same _)
  have e3 : (!(List.range (as.map Value.ref).toArray.size).all fun _ => true) = false := by simp
  rw [e3] at hr
  show wpAny _ _ (richCompare .NotEq (.ref a) (.ref b)) _ _ _
  exact hr X.prog X.w X.xe _ ⟨.bl false, H, I, rfl, q⟩
theorem FunD.kb0 {K : PySem.W.Frag} {x qual : Str} {params : Arguments} {body : List Stmt} {scope : Scope} {f : Addr} {fd : FuncData} {ps : List Str} (F : FunD K x qual params body scope [] [] f fd) (n : Nat) (ks : List Str) (g : {α : Type} → List α → List α → List α)
    (hrel : ∀ {vs zs : List V} {us ws : List Value}, Vals vs us → Vals zs ws → Vals (g vs zs) (g us ws))
    (h : ∀ (kV doc pm : Value) (an : Option Addr) (cdv ct : Value) (us ws : List Value), us.length = n → ws.length = ks.length → bindArgs (PySem.W.fnOf x qual params body scope .none kV doc pm an cdv ct) ⟨us, ks.zip ws⟩ = pure (ps.zip (g us ws))) : KBn K fd ps n ks (fun us ws => g us ws) (fun vs zs => g vs zs) := by
  obtain ⟨oc, od, dV, kV, doc, pm, an, cdv, ct, osl, rfl, lk, hcd, hD, hK⟩ := F.ex
  rcases hD with ⟨_, rfl⟩ | ⟨e, _⟩
  · exact ⟨fun s us ws X l1 l2 => .of_eq (h kV doc pm an cdv ct us ws l1 l2), fun r1 r2 => hrel r1 r2⟩
  · exact absurd rfl e
/-! ### orders of what is handed in by name -/
def g1 {α : Type} : List α → List α → List α
  | [x], [a] => [x, a]
  | _, _ => []
def g2 {α : Type} : List α → List α → List α
  | [x], [a, b] => [x, b, a]
  | _, _ => []
def g3 {α : Type} : List α → List α → List α
  | [x], [c, n, v] => [x, n, v, c]
  | _, _ => []
def g4 {α : Type} : List α → List α → List α
  | [x], [u, d, md, mk] => [x, mk, md, d, u]
  | _, _ => []
def g5 {α : Type} : List α → List α → List α
  | [x], [b, g, c, v, n] => [x, n, v, c, g, b]
  | _, _ => []
def g5s {α : Type} : List α → List α → List α
  | [x], [b, r, w, m, s] => [x, s, w, m, r, b]
  | _, _ => []
def g3s {α : Type} : List α → List α → List α → List α
  | [x], [m0, _, b0], [r, s, w] => [x, s, w, m0, r, b0]
  | _, _, _ => []
theorem g1_rel {vs zs : List V} {us ws : List Value} (h1 : Vals vs us) (h2 : Vals zs ws) : Vals (g1 vs zs) (g1 us ws) := by
  rcases h1 with _ | ⟨a, _ | ⟨_, _⟩⟩
  · exact .nil
  · rcases h2 with _ | ⟨b, _ | ⟨_, _⟩⟩
    · exact .nil
    · exact .cons a (.cons b .nil)
    · exact .nil
  · exact .nil
theorem g2_rel {vs zs : List V} {us ws : List Value} (h1 : Vals vs us) (h2 : Vals zs ws) : Vals (g2 vs zs) (g2 us ws) := by
  rcases h1 with _ | ⟨a, _ | ⟨_, _⟩⟩
  · exact .nil
  · rcases h2 with _ | ⟨b, _ | ⟨c, _ | ⟨_, _⟩⟩⟩
    · exact .nil
    · exact .nil
    · exact .cons a (.cons c (.cons b .nil))
    · exact .nil
  · exact .nil
theorem g3_rel {vs zs : List V} {us ws : List Value} (h1 : Vals vs us) (h2 : Vals zs ws) : Vals (g3 vs zs) (g3 us ws) := by
  rcases h1 with _ | ⟨a, _ | ⟨_, _⟩⟩
  · exact .nil
  · rcases h2 with _ | ⟨b, _ | ⟨c, _ | ⟨d, _ | ⟨_, _⟩⟩⟩⟩
    · exact .nil
    · exact .nil
    · exact .nil
    · exact .cons a (.cons c (.cons d (.cons b .nil)))
    · exact .nil
  · exact .nil
theorem g4_rel {vs zs : List V} {us ws : List Value} (h1 : Vals vs us) (h2 : Vals zs ws) : Vals (g4 vs zs) (g4 us ws) := by
  rcases h1 with _ | ⟨a, _ | ⟨_, _⟩⟩
  · exact .nil
  · rcases h2 with _ | ⟨b, _ | ⟨c, _ | ⟨d, _ | ⟨e, _ | ⟨_, _⟩⟩⟩⟩⟩
    · exact .nil
    · exact .nil
    · exact .nil
    · exact .nil
    · exact .cons a (.cons e (.cons d (.cons c (.cons b .nil))))
    · exact .nil
  · exact .nil
theorem g5_rel {vs zs : List V} {us ws : List Value} (h1 : Vals vs us) (h2 : Vals zs ws) : Vals (g5 vs zs) (g5 us ws) := by
  rcases h1 with _ | ⟨a, _ | ⟨_, _⟩⟩
  · exact .nil
  · rcases h2 with _ | ⟨b, _ | ⟨c, _ | ⟨d, _ | ⟨e, _ | ⟨f, _ | ⟨_, _⟩⟩⟩⟩⟩⟩
    · exact .nil
    · exact .nil
    · exact .nil
    · exact .nil
    · exact .nil
    · exact .cons a (.cons f (.cons e (.cons d (.cons c (.cons b .nil)))))
    · exact .nil
  · exact .nil
theorem g5s_rel {vs zs : List V} {us ws : List Value} (h1 : Vals vs us) (h2 : Vals zs ws) : Vals (g5s vs zs) (g5s us ws) := by
  rcases h1 with _ | ⟨a, _ | ⟨_, _⟩⟩
  · exact .nil
  · rcases h2 with _ | ⟨b, _ | ⟨c, _ | ⟨d, _ | ⟨e, _ | ⟨f, _ | ⟨_, _⟩⟩⟩⟩⟩⟩
    · exact .nil
    · exact .nil
    · exact .nil
    · exact .nil
    · exact .nil
    · exact .cons a (.cons f (.cons d (.cons e (.cons c (.cons b .nil)))))
    · exact .nil
  · exact .nil
theorem g3s_rel {vs ds zs : List V} {us its ws : List Value} (h1 : Vals vs us) (h0 : Vals ds its) (h2 : Vals zs ws) : Vals (g3s vs ds zs) (g3s us its ws) := by
  rcases h1 with _ | ⟨a, _ | ⟨_, _⟩⟩
  · exact .nil
  · rcases h0 with _ | ⟨p, _ | ⟨q, _ | ⟨r, _ | ⟨_, _⟩⟩⟩⟩
    · exact .nil
    · exact .nil
    · exact .nil
    · rcases h2 with _ | ⟨b, _ | ⟨c, _ | ⟨d, _ | ⟨_, _⟩⟩⟩⟩
      · exact .nil
      · exact .nil
      · exact .nil
      · exact .cons a (.cons c (.cons d (.cons p (.cons b (.cons r .nil)))))
      · exact .nil
    · exact .nil
  · exact .nil
end Wm
/-! a list held against the empty list; a list of lists held against another of the same contents -/
namespace Wm
open PySem PySem.Spec PyProof.Rows L2
def rNeE : R2 := fun x y H Q => ∃ (a b : Addr) (xs : List V), x = .ref a ∧ y = .ref b ∧ H a = some (.lst xs) ∧ H b = some (.lst []) ∧ Q (.bl (!xs.isEmpty)) H
def rEqE : R2 := fun x y H Q => ∃ (a b : Addr) (xs : List V), x = .ref a ∧ y = .ref b ∧ H a = some (.lst xs) ∧ H b = some (.lst []) ∧ Q (.bl xs.isEmpty) H
theorem vals_len {xs : List V} {us : List Value} (h : Vals xs us) : us.length = xs.length := h.length.symm
theorem op_neE {X : Cx} (hu1 : X.A.units + 1 < cLine) : OpR X (compareOp .NotEq) rNeE := by
  have hu : X.A.units < cLine := by omega
  intro pins s σ H x y v u Q I rx ry h
  obtain ⟨a, b, xs, rfl, rfl, ha, hb, q⟩ := h
  cases rx
  cases ry
  obtain ⟨z, its, k, r, e⟩ := I.hok a _ ha
  obtain ⟨z2, its2, k2, r2, e2⟩ := I.hok b _ hb
  cases r2
  show wpAny _ _ (richCompare .NotEq (.ref a) (.ref b)) _ _ _
  cases xs with
  | nil =>
    cases r
    have hr := SeqAt.RcNeAt.lists (A := X.A) (s := s) (l := a) (b := b) (items := #[]) (items2 := #[]) (e := fun _ => true) ⟨_, e, rfl, _, rfl⟩ ⟨_, e2, rfl, _, rfl⟩ rfl hu (fun j h1 h2 => absurd h1 (by simp))
    exact hr X.prog X.w X.xe _ ⟨.bl false, H, I, rfl, q⟩
  | cons w ws =>
    have hr := SeqAt.RcNeAt.lists_lengths (A := X.A) (s := s) (l := a) (b := b) (items := its.toArray) (items2 := #[]) ⟨_, e, rfl, _, rfl⟩ ⟨_, e2, rfl, _, rfl⟩ (by
      have l := vals_len r
      simp at l
      simp [l]) hu
    exact hr X.prog X.w X.xe _ ⟨.bl true, H, I, rfl, q⟩
theorem op_eqE {X : Cx} (hu1 : X.A.units + 1 < cLine) : OpR X (compareOp .Eq) rEqE := by
  have hu : X.A.units < cLine := by omega
  intro pins s σ H x y v u Q I rx ry h
  obtain ⟨a, b, xs, rfl, rfl, ha, hb, q⟩ := h
  cases rx
  cases ry
  obtain ⟨z, its, k, r, e⟩ := I.hok a _ ha
  obtain ⟨z2, its2, k2, r2, e2⟩ := I.hok b _ hb
  cases r2
  show wpAny _ _ (richCompare .Eq (.ref a) (.ref b)) _ _ _
  cases xs with
  | nil =>
    cases r
    have hr := SeqAt.RcAt.lists (A := X.A) (s := s) (l := a) (b := b) (items := #[]) (items2 := #[]) (e := fun _ => true) ⟨_, e, rfl, _, rfl⟩ ⟨_, e2, rfl, _, rfl⟩ rfl hu (fun j h1 h2 => absurd h1 (by simp))
    exact hr X.prog X.w X.xe _ ⟨.bl true, H, I, rfl, q⟩
  | cons w ws =>
    have hr := SeqAt.RcAt.lists_lengths (A := X.A) (s := s) (l := a) (b := b) (items := its.toArray) (items2 := #[]) ⟨_, e, rfl, _, rfl⟩ ⟨_, e2, rfl, _, rfl⟩ (by
      have l := vals_len r
      simp at l
      simp [l]) hu
    exact hr X.prog X.w X.xe _ ⟨.bl false, H, I, rfl, q⟩
/-! ### lists of lists -/
def fltV (v : V) : Prop := (∃ z, v = .str z) ∨ ∃ a, v = .ref a
theorem eq_flat {A : Around} {s : Shared} {v : V} {u w : Value} (f : fltV v) (r1 : RelV v u) (r2 : RelV v w) : SeqAt.EqAt A s u w true := by
  rcases f with ⟨z, rfl⟩ | ⟨a, rfl⟩
  · obtain ⟨t, rfl⟩ := r1
    obtain ⟨t', rfl⟩ := r2
    have h := SeqAt.EqAt.str_str (A := A) (s := s) z t z t'
    rw [beq_self_eq_true] at h
    exact h
  · cases r1
    cases r2
    exact SeqAt.EqAt.same _
theorem vals_at : ∀ {xs : List V} {us : List Value}, Vals xs us → ∀ (j : Nat) (h1 : j < xs.length) (h2 : j < us.length), RelV xs[j] us[j]
  | _, _, .nil, j, h1, _ => absurd h1 (by simp)
  | _, _, .cons r t, 0, _, _ => r
  | _, _, .cons r t, j + 1, h1, h2 => vals_at t j (by simpa using h1) (by simpa using h2)
theorem eq_lsts {X : Cx} {pins : List (Addr × Obj)} {σ : L2.St} {H : Hp} {s : Shared} {A : Around} (I : Inv X pins σ H s) (hu : A.units < cLine) {p q : Addr} {xs : List V} (hp : H p = some (.lst xs)) (hq : H q = some (.lst xs)) (fl : ∀ v ∈ xs, fltV v) : SeqAt.EqAt A s (.ref p) (.ref q) true := by
  by_cases ne : p = q
  · rw [ne]
    exact SeqAt.EqAt.same _
  · obtain ⟨z, its, k, r, e⟩ := I.hok p _ hp
    obtain ⟨z2, its2, k2, r2, e2⟩ := I.hok q _ hq
    have l1 := vals_len r
    have l2 := vals_len r2
    have hr := SeqAt.RcAt.lists (A := A) (s := s) (l := p) (b := q) (items := its.toArray) (items2 := its2.toArray) (e := fun _ => true) ⟨_, e, rfl, _, rfl⟩ ⟨_, e2, rfl, _, rfl⟩ (by simp [l1, l2]) hu (fun j h1 h2 => by
      have h1' : j < its.length := by simpa using h1
      have h2' : j < its2.length := by simpa using h2
      have hx : j < xs.length := by omega
      have q := eq_flat (A := A.in1) (s := s) (fl _ (List.getElem_mem hx)) (vals_at r j hx h1') (vals_at r2 j hx h2')
      simpa using q)
    have e3 : ((List.range its.toArray.size).all fun _ => true) = true := by simp
    rw [e3] at hr
    exact SeqAt.EqAt.of_refs ne hr
def rNeLL : R2 := fun x y H Q => ∃ (a b : Addr) (as bs : List Addr), x = .ref a ∧ y = .ref b ∧ H a = some (.lst (as.map V.ref)) ∧ H b = some (.lst (bs.map V.ref)) ∧ as.length = bs.length ∧ (∀ (i : Nat) (p q : Addr), as[i]? = some p → bs[i]? = some q → ∃ xs, H p = some (.lst xs) ∧ H q = some (.lst xs) ∧ ∀ v ∈ xs, fltV v) ∧ Q (.bl false) H
theorem op_neLL {X : Cx} (hu : X.A.units + 1 < cLine) : OpR X (compareOp .NotEq) rNeLL := by
  intro pins s σ H x y v u Q I rx ry h
  obtain ⟨a, b, as, bs, rfl, rfl, ha, hb, hl, hi, q⟩ := h
  cases rx
  cases ry
  obtain ⟨z, its, k, r, e⟩ := I.hok a _ ha
  obtain ⟨z2, its2, k2, r2, e2⟩ := I.hok b _ hb
  have h1 := vals_refs r
  have h2 := vals_refs r2
  subst h1
  subst h2
  have hr := SeqAt.RcNeAt.lists (A := X.A) (s := s) (l := a) (b := b) (items := (as.map Value.ref).toArray) (items2 := (bs.map Value.ref).toArray) (e := fun _ => true) ⟨_, e, rfl, _, rfl⟩ ⟨_, e2, rfl, _, rfl⟩ (by simp [hl]) (by omega) (fun j h1 h2 => by
    have h1' : j < as.length := by simpa using h1
    have h2' : j < bs.length := by simpa using h2
    obtain ⟨xs, hp, hq, fl⟩ := hi j as[j] bs[j] (List.getElem?_eq_getElem h1') (List.getElem?_eq_getElem h2')
    have q := eq_lsts (A := X.A.in1) I (by show X.A.units + 1 < cLine; exact hu) hp hq fl
    simpa using q)
  have e3 : (!(List.range (as.map Value.ref).toArray.size).all fun _ => true) = false := by simp
  rw [e3] at hr
  show wpAny _ _ (richCompare .NotEq (.ref a) (.ref b)) _ _ _
  exact hr X.prog X.w X.xe _ ⟨.bl false, H, I, rfl, q⟩
end Wm
namespace Wm
open PySem L2 StX
theorem DrN.fr {K : PySem.W.Frag} {ok : Addr → Prop} {p q r st : Addr} {H H' : Hp} {u : Addr} {n : Nat} {ys : List V} (o : ∀ a, ok a → a ≠ p ∧ a ≠ q) (o2 : ∀ a, ok a → a ≠ st) (hP : PotAt H p q r n) (hs : H st = some (.lst ys)) (fr : ∀ a o, a ≠ p → a ≠ q → a ≠ st → H a = some o → H' a = some o) : ∀ {y : Pt}, DrN K ok H u y → DrN K ok H' u y := by
  obtain ⟨k0, us, ys', ep, eq, _⟩ := hP.ex
  have tp : ∀ {a : Addr} {xs : List V}, H a = some (.tup xs) → H' a = some (.tup xs) := fun h => fr _ _ (ne_of h ep (fun z => by cases z)) (ne_of h eq (fun z => by cases z)) (ne_of h hs (fun z => by cases z)) h
  have sq : ∀ {a : Addr} {xs : List V}, SqT K H a xs → SqT K H' a xs := fun h => by
    rcases h with (h | ⟨u, h⟩) | h
    · exact .inl (.inl (tp h))
    · exact .inl (.inr ⟨u, fr _ _ (ne_of h ep (fun z => by cases z)) (ne_of h eq (fun z => by cases z)) (ne_of h hs (fun z => by cases z)) h⟩)
    · exact .inr h
  have rw_ : ∀ {ps : List Addr} {rs : List (List V)}, RowsAt K H ps rs → RowsAt K H' ps rs := fun h => rows_imp (fun w => sq w) h
  intro y h
  cases y with
  | rl nm vars cs g bh =>
    obtain ⟨lv, lc, tg, ps, qs, w, a1, a2, a3, a4, a5, a6⟩ := h
    exact ⟨lv, lc, tg, ps, qs, w, tp a1, tp a2, fr _ _ (o _ w.1).1 (o _ w.1).2 (o2 _ w.1) a3, rw_ a4, fr _ _ (o _ w.2).1 (o _ w.2).2 (o2 _ w.2) a5, rw_ a6⟩
  | br nm vars cs =>
    obtain ⟨lv, lc, ps, qs, w, a1, a3, a4, a5, a6⟩ := h
    exact ⟨lv, lc, ps, qs, w, tp a1, fr _ _ (o _ w.1).1 (o _ w.1).2 (o2 _ w.1) a3, rw_ a4, fr _ _ (o _ w.2).1 (o _ w.2).2 (o2 _ w.2) a5, rw_ a6⟩
  | mk mr md ds us' =>
    obtain ⟨ld, lu, w, a1, a2, a3⟩ := h
    exact ⟨ld, lu, w, tp a1, fr _ _ (o _ w.1).1 (o _ w.1).2 (o2 _ w.1) a2, fr _ _ (o _ w.2).1 (o _ w.2).2 (o2 _ w.2) a3⟩
theorem DrN.live {K : PySem.W.Frag} {ok : Addr → Prop} {H : Hp} {u : Addr} : ∀ {y : Pt}, DrN K ok H u y → DrN K (fun a => ok a ∧ H a ≠ none) H u y
  | .rl .., ⟨lv, lc, tg, ps, qs, w, a1, a2, a3, a4, a5, a6⟩ => ⟨lv, lc, tg, ps, qs, ⟨⟨w.1, by rw [a3]; intro h; cases h⟩, w.2, by rw [a5]; intro h; cases h⟩, a1, a2, a3, a4, a5, a6⟩
  | .br .., ⟨lv, lc, ps, qs, w, a1, a3, a4, a5, a6⟩ => ⟨lv, lc, ps, qs, ⟨⟨w.1, by rw [a3]; intro h; cases h⟩, w.2, by rw [a5]; intro h; cases h⟩, a1, a3, a4, a5, a6⟩
  | .mk .., ⟨ld, lu, w, a1, a2, a3⟩ => ⟨ld, lu, ⟨⟨w.1, by rw [a2]; intro h; cases h⟩, w.2, by rw [a3]; intro h; cases h⟩, a1, a2, a3⟩
/-- as fr, where what changes was free -/
theorem DrN.fr2 {K : PySem.W.Frag} {ok : Addr → Prop} {p q r st : Addr} {H H' : Hp} {u : Addr} {n : Nat} (o : ∀ a, ok a → a ≠ p ∧ a ≠ q) (o2 : ∀ a, ok a → a ≠ st) (hP : PotAt H p q r n) (hs : H st = none) (fr : ∀ a o, a ≠ p → a ≠ q → a ≠ st → H a = some o → H' a = some o) : ∀ {y : Pt}, DrN K ok H u y → DrN K ok H' u y := by
  obtain ⟨k0, us, ys', ep, eq, _⟩ := hP.ex
  have tp : ∀ {a : Addr} {xs : List V}, H a = some (.tup xs) → H' a = some (.tup xs) := fun h => fr _ _ (ne_of h ep (fun z => by cases z)) (ne_of h eq (fun z => by cases z)) (ne_of_none h hs) h
  have sq : ∀ {a : Addr} {xs : List V}, SqT K H a xs → SqT K H' a xs := fun h => by
    rcases h with (h | ⟨u, h⟩) | h
    · exact .inl (.inl (tp h))
    · exact .inl (.inr ⟨u, fr _ _ (ne_of h ep (fun z => by cases z)) (ne_of h eq (fun z => by cases z)) (ne_of_none h hs) h⟩)
    · exact .inr h
  have rw_ : ∀ {ps : List Addr} {rs : List (List V)}, RowsAt K H ps rs → RowsAt K H' ps rs := fun h => rows_imp (fun w => sq w) h
  intro y h
  cases y with
  | rl nm vars cs g bh =>
    obtain ⟨lv, lc, tg, ps, qs, w, a1, a2, a3, a4, a5, a6⟩ := h
    exact ⟨lv, lc, tg, ps, qs, w, tp a1, tp a2, fr _ _ (o _ w.1).1 (o _ w.1).2 (o2 _ w.1) a3, rw_ a4, fr _ _ (o _ w.2).1 (o _ w.2).2 (o2 _ w.2) a5, rw_ a6⟩
  | br nm vars cs =>
    obtain ⟨lv, lc, ps, qs, w, a1, a3, a4, a5, a6⟩ := h
    exact ⟨lv, lc, ps, qs, w, tp a1, fr _ _ (o _ w.1).1 (o _ w.1).2 (o2 _ w.1) a3, rw_ a4, fr _ _ (o _ w.2).1 (o _ w.2).2 (o2 _ w.2) a5, rw_ a6⟩
  | mk mr md ds us' =>
    obtain ⟨ld, lu, w, a1, a2, a3⟩ := h
    exact ⟨ld, lu, w, tp a1, fr _ _ (o _ w.1).1 (o _ w.1).2 (o2 _ w.1) a2, fr _ _ (o _ w.2).1 (o _ w.2).2 (o2 _ w.2) a3⟩
theorem tcc {v : V} {σ : L2.St} {H : Hp} {Q : VK} (h : Q v H) : tC v σ H Q := h
theorem pick5 : ∀ g : Nat, g < 5 → ∃ m : Nat, m ≤ 8 ∧ ([.int 0, .int 1, .int 2, .int 3, .int 8] : List V)[g]? = some (.int (m : Int))
  | 0, _ => ⟨0, by omega, rfl⟩
  | 1, _ => ⟨1, by omega, rfl⟩
  | 2, _ => ⟨2, by omega, rfl⟩
  | 3, _ => ⟨3, by omega, rfl⟩
  | 4, _ => ⟨8, by omega, rfl⟩
  | n + 5, h => by omega
theorem pick4 : ∀ g : Nat, g < 4 → ∃ m : Nat, m ≤ 4 ∧ ([.int 0, .int 1, .int 2, .int 4] : List V)[g]? = some (.int (m : Int))
  | 0, _ => ⟨0, by omega, rfl⟩
  | 1, _ => ⟨1, by omega, rfl⟩
  | 2, _ => ⟨2, by omega, rfl⟩
  | 3, _ => ⟨4, by omega, rfl⟩
  | n + 4, h => by omega
/-- bars as they were drawn -/
structure BrsOk (ss ws : List Str) (ps : List PtD) : Prop where
  nd : (ps.map (·.nm)).Nodup
  ok : ∀ b ∈ ps, PtOk (brPt b)
  v : ∀ b ∈ ps, ∀ y ∈ b.vars, ∀ z, y.2 = some z → z ∈ ss
  c : ∀ b ∈ ps, ∀ t ∈ b.cs, t.2.1 ∈ ws
theorem br_nm {nm nm' : Str} {vars : List Var} {cs : List Tri} (po : PtOk (.br nm vars cs)) (h : Nz nm') : PtOk (.br nm' vars cs) := by
  refine ⟨po.1, fun z hz => ?_⟩
  rcases List.mem_append.mp hz with q | q
  · rcases List.mem_cons.mp q with rfl | q
    · exact h
    · exact po.2 z (List.mem_append_left _ (List.mem_cons_of_mem _ q))
  · exact po.2 z (List.mem_append_right _ q)
theorem br_of {nm b : Str} {vars : List Var} {cs : List Tri} {g : Tri} (po : PtOk (.rl nm vars cs g b)) : PtOk (.br nm vars cs) := by
  obtain ⟨p, hn⟩ := po
  refine ⟨⟨p.v1, p.v4, p.c1, p.c3, Nat.zero_le _, Nat.zero_le _, p.tw, fun z hz => p.en z ?_, p.lo, p.ap⟩, fun z hz => hn z ?_⟩
  · rw [List.append_nil, List.append_nil] at hz
    unfold endsL at hz ⊢
    rw [List.flatMap_append]
    exact List.mem_append_left _ (List.mem_append_left _ hz)
  · unfold textsL at hz ⊢
    rw [List.map_append]
    rcases List.mem_append.mp hz with h | h
    · exact List.mem_append_left _ h
    · exact List.mem_append_right _ (List.mem_append_left _ h)
theorem row_nz {zs : List Str} (h : ∀ z ∈ zs, Nz z) (nd : zs.Nodup) : Row zs := ⟨fun z hz => ⟨nm_is (h z hz).1 (h z hz).2, (h z hz).2⟩, nd⟩
theorem sch_k {ss ws : List Str} {ms : List MkD} {rs : List RlD} {ps : List PtD} (s1 : 1 ≤ ss.length) (s4 : ss.length ≤ 4) (w1 : 1 ≤ ws.length) (w5 : ws.length ≤ 5) (sn : ∀ z ∈ ss, Nz z) (wn : ∀ z ∈ ws, Nz z) (sd : ss.Nodup) (wd : ws.Nodup) (mo : MksOk ss ws ms) (ro : RlsOk ss ws rs) (r8 : rs.length ≤ 8) (bo : BrsOk ss ws ps) (b4 : ps.length ≤ 4) : SchK ss ws ms rs ps := by
  have mp := mkg_pt mo sn wn w5
  refine ⟨⟨row_nz sn sd, row_nz wn wd, s1, s4, w1, w5, by have := mo.l; omega, r8, b4, mo.nd, ro.nd, bo.nd, fun z hz => (sn z hz).1.ok, fun x hx => ?_, mo.mu, fun x hx => ?_, fun x hx => ⟨(mo.g x hx).dw, (mo.g x hx).uw⟩, fun x hx => ?_, fun x hx => ?_⟩, fun p hp => ?_, sn, wn, mo.l⟩
  · obtain ⟨i, j, _, e1, e2⟩ := mo.mu x hx
    exact ⟨List.mem_of_getElem? e1, List.mem_of_getElem? e2⟩
  · have := (mo.g x hx).dl
    have := (mo.g x hx).ul
    exact ⟨by omega, by omega⟩
  · have o := ro.ok x hx
    have g := ro.g x hx
    exact ⟨o.1.v4, o.1.c3, g.v, g.c, g.g⟩
  · have o := bo.ok x hx
    exact ⟨o.1.v4, o.1.c3, bo.v x hx, bo.c x hx⟩
  · unfold allPt at hp
    rcases List.mem_append.mp hp with h | h
    · obtain ⟨m, hm, rfl⟩ := List.mem_map.mp h
      exact mp m hm
    · rcases List.mem_append.mp h with h | h
      · obtain ⟨m, hm, rfl⟩ := List.mem_map.mp h
        exact ro.ok m hm
      · obtain ⟨m, hm, rfl⟩ := List.mem_map.mp h
        exact bo.ok m hm
def spScs (K : PySem.W.Frag) : Sp := fun vs H Q _ => ∃ (p q r : Addr) (n : Nat), vs = [.ref p] ∧ PotAt H p q r n ∧ n ≤ 100 ∧ ∀ (t : Addr) (ss ws : List Str) (ms : List MkD) (rs : List RlD) (ps : List PtD) H', Bt p q H H' → PotAt H' p q r (n + 4000) → ScD K (fun a => H a = none) H' t ss ws ms rs ps → SchK ss ws ms rs ps → Q (.ref t) H'
section
variable {P : Program} {w : World} {K : PySem.W.Frag} {mg : Str → Option Value} {base : Heap}
theorem scSc : FnScope ["_law_pot_here", "_law_many", "_law_most", "_law_sorts", "_law_words", "_law_makers_here", "_law_lends_here", "_law_stops", "_law_name_here", "_law_variables", "_law_conditions", "_law_gives", "_law_by", "_law_stop"] ["_law_pot_here"] (defScope sSc) := ⟨rfl, rfl, rfl, by decide +kernel, rfl, by decide +kernel, by decide +kernel⟩
theorem ok_scs {f fT fN fM fL : Addr} {fd dT dN dM dL : FuncData} (F : Fun K "_law_scheme" "_law_scheme" sSc f fd) (T : TxB mg) (DT : Dn K mg "_law_take" sTak ["_law_pot_here", "_law_many"] fT dT) (GT : FnOk P w K mg base CX0 2 fT dT ["_law_pot_here", "_law_many"] spTak) (DNs : Dn K mg "_law_names" sNms ["_law_pot_here", "_law_many"] fN dN) (GNs : FnOk P w K mg base CX0 5 fN dN ["_law_pot_here", "_law_many"] spNms)
    (DMk : Dn K mg "_law_makers" sMks ["_law_pot_here", "_law_sorts", "_law_words"] fM dM) (GMk : FnOk P w K mg base CX0 4 fM dM ["_law_pot_here", "_law_sorts", "_law_words"] (spMks K)) (DLe : Dn K mg "_law_lends" sLe ["_law_pot_here", "_law_sorts", "_law_words", "_law_many"] fL dL) (GLe : FnOk P w K mg base CX0 8 fL dL ["_law_pot_here", "_law_sorts", "_law_words", "_law_many"] (spLe K)) :
    FnOk P w K mg base CX0 9 f fd ["_law_pot_here"] (spScs K) := by
  refine F.ok scSc (fun vs H Q E h => ?_) (fun cdv A outer s H vs Q E hr h => ?_)
  · obtain ⟨p, q, r, n, rfl, _⟩ := h
    rfl
  · obtain ⟨p, q, r, n, rfl, hP, hn, k⟩ := h
    have hr8 : Room 8 _ := hr
    have hr5 : Room 5 _ := hr.mono (by decide)
    have hr4 : Room 4 _ := hr.mono (by decide)
    have hr2 : Room 2 _ := hr.mono (by decide)
    refine ⟨_, (pss_cons (ps_set (i := 1) scSc.nd rfl (Or.inl rfl) (pe_ix ix_list (pe_lst (pa_cons pe_int (pa_cons pe_int (pa_cons pe_int (pa_cons pe_int (pa_cons pe_int pa_nil)))))) (pe_call GT hr2 rfl DT.g DT.F.kp DT.b .nil pass0 (pa_cons (pv 0) (pa_cons pe_int pa_nil))) (fun _ _ => rfl)))
      (pss_cons (ps_set (i := 2) scSc.nd rfl (Or.inl rfl) (pe_ix ix_list (pe_lst (pa_cons pe_int (pa_cons pe_int (pa_cons pe_int (pa_cons pe_int pa_nil))))) (pe_call GT hr2 rfl DT.g DT.F.kp DT.b .nil pass0 (pa_cons (pv 0) (pa_cons pe_int pa_nil))) (fun _ _ => rfl)))
      (pss_cons (ps_set (i := 3) scSc.nd rfl (Or.inl rfl) (pe_call GNs hr5 rfl DNs.g DNs.F.kp DNs.b .nil pass0 (pa_cons (pv 0) (pa_cons (pe_op op_add pe_int (pe_call GT hr2 rfl DT.g DT.F.kp DT.b .nil pass0 (pa_cons (pv 0) (pa_cons pe_int pa_nil)))) pa_nil))))
      (pss_cons (ps_set (i := 4) scSc.nd rfl (Or.inl rfl) (pe_call GNs hr5 rfl DNs.g DNs.F.kp DNs.b .nil pass0 (pa_cons (pv 0) (pa_cons (pe_op op_add pe_int (pe_call GT hr2 rfl DT.g DT.F.kp DT.b .nil pass0 (pa_cons (pv 0) (pa_cons pe_int pa_nil)))) pa_nil))))
      (pss_cons (ps_set (i := 5) scSc.nd rfl (Or.inl rfl) (pe_call GMk hr4 rfl DMk.g DMk.F.kp DMk.b .nil pass0 (pa_cons (pv 0) (pa_cons (pv 3) (pa_cons (pv 4) pa_nil)))))
      (pss_cons (ps_set (i := 6) scSc.nd rfl (Or.inl rfl) (pe_call GLe hr8 rfl DLe.g DLe.F.kp DLe.b .nil pass0 (pa_cons (pv 0) (pa_cons (pv 3) (pa_cons (pv 4) (pa_cons (pv 1) pa_nil))))))
      (pss_cons (ps_set (i := 7) scSc.nd rfl (Or.inl rfl) (pe_lst pa_nil))
      (pss_cons (ps_for PassesOwn.never rfl (pi_list (pe_call GLe hr8 rfl DLe.g DLe.F.kp DLe.b .nil pass0 (pa_cons (pv 0) (pa_cons (pv 3) (pa_cons (pv 4) (pa_cons (pv 2) pa_nil)))))) (pg_tup rfl (pgs_cons (pg_name (i := 8) scSc.nd rfl (Or.inl rfl)) (pgs_cons (pg_name (i := 9) scSc.nd rfl (Or.inl rfl)) (pgs_cons (pg_name (i := 10) scSc.nd rfl (Or.inl rfl)) (pgs_cons (pg_name (i := 11) scSc.nd rfl (Or.inl rfl)) (pgs_cons (pg_name (i := 12) scSc.nd rfl (Or.inl rfl)) pgs_nil)))))) (pss_cons (ps_if (PW.pt (pw_and (pt_cmpR op_gt (pe_callB call_len_seq (by rfl) T.len (by decide +kernel) (pa_cons (pv 6) pa_nil)) pe_int (nomark _)) (pw_and (pt_cmpR op_eq (pe_call GT hr2 rfl DT.g DT.F.kp DT.b .nil pass0 (pa_cons (pv 0) (pa_cons pe_int pa_nil))) pe_int (nomark _)) (pw_and1 (pt_cmpR (op_eqE (u1 hr)) (pv 7) (pe_lst pa_nil) (nomark _)))))) (pss_one (ps_set (i := 8) scSc.nd rfl (Or.inl rfl) (pe_ix ix_tup (pe_ix ix_list (pv 6) pe_int (fun _ _ => rfl)) pe_int (fun _ _ => rfl)))) pss_nil)
      (pss_one (ps_if (pt_cmpR op_notIn_seq (pv 8) (pe_lc (own := [("_law_stop", 13)]) (g := gName 13) (tt := tYes) (te := (tOp (rIxT K) (tVar 13) (tC (.int 0)))) rfl scSc.nd (pi_list (pv 7)) (blkOk_by (N := ["_law_pot_here", "_law_many", "_law_most", "_law_sorts", "_law_words", "_law_makers_here", "_law_lends_here", "_law_stops", "_law_name_here", "_law_variables", "_law_conditions", "_law_gives", "_law_by", "_law_stop"]) (sc := defScope sSc) (by decide +kernel)) (fun _ _ _ _ _ => (pg_name (i := 13) scSc.nd rfl (Or.inl rfl))) (fun _ _ _ _ _ => pts_nil) (fun _ _ _ _ _ => (pe_ix ix_tup (pv 13) pe_int (fun _ _ => rfl)))) (by rfl)) (pss_one (ps_expr (pe_bm PySem.F.plainAttrs_list PySem.F.slot_list_append PySem.F.type_list_append mt_append (pv 7) (pa_cons (pe_tup (pa_cons (pv 8) (pa_cons (pv 9) (pa_cons (pv 10) pa_nil)))) pa_nil)))) pss_nil))))
      (pss_one (ps_ret (pe_tup (pa_cons (pv 3) (pa_cons (pv 4) (pa_cons (pv 5) (pa_cons (pv 6) (pa_cons (pv 7) pa_nil)))))))))))))))), ?_⟩
    rw [show L2.start ["_law_pot_here", "_law_many", "_law_most", "_law_sorts", "_law_words", "_law_makers_here", "_law_lends_here", "_law_stops", "_law_name_here", "_law_variables", "_law_conditions", "_law_gives", "_law_by", "_law_stop"] [.ref p] = [some (.ref p), none, none, none, none, none, none, none, none, none, none, none, none, none] from rfl]
    -- how many
    refine ⟨by show 5 ≤ sizeLine; decide, fun a1 n1 => ?_⟩
    have S1 := Same.upd (o := .lst [.int 0, .int 1, .int 2, .int 3, .int 8]) n1
    have e1 : (upd H a1 (.lst [.int 0, .int 1, .int 2, .int 3, .int 8])) a1 = _ := upd_same
    have P1 := hP.same S1
    have n13 := hP.ne n1
    generalize upd H a1 (.lst [.int 0, .int 1, .int 2, .int 3, .int 8]) = H1 at S1 e1 P1
    refine ⟨_, rfl, p, q, r, n, 5, rfl, P1, by omega, by omega, by omega, fun g1 H2 g10 g15 B2 P2 => ?_⟩
    obtain ⟨g, rfl⟩ : ∃ g : Nat, g1 = (g : Int) := ⟨g1.toNat, by omega⟩
    obtain ⟨many, m8, hm⟩ := pick5 g (by omega)
    refine rdList (B2 _ _ n13.1 n13.2.1 e1) (j := g) (v := .int (many : Int)) rfl hm ?_
    dsimp only [gName, List.set_cons_succ, List.set_cons_zero]
    have B02 : Bt p q H H2 := (Same.bt S1).trans B2
    refine ⟨by show 4 ≤ sizeLine; decide, fun a2 n2 => ?_⟩
    have S3 := Same.upd (o := .lst [.int 0, .int 1, .int 2, .int 4]) n2
    have e3 : (upd H2 a2 (.lst [.int 0, .int 1, .int 2, .int 4])) a2 = _ := upd_same
    have P3 := P2.same S3
    have n23 := P2.ne n2
    generalize upd H2 a2 (.lst [.int 0, .int 1, .int 2, .int 4]) = H3 at S3 e3 P3
    refine ⟨_, rfl, p, q, r, _, 4, rfl, P3, by omega, by omega, by omega, fun g2 H4 g20 g24 B4 P4 => ?_⟩
    obtain ⟨g', rfl⟩ : ∃ g' : Nat, g2 = (g' : Int) := ⟨g2.toNat, by omega⟩
    obtain ⟨most, mo4, hm2⟩ := pick4 g' (by omega)
    refine rdList (B4 _ _ n23.1 n23.2.1 e3) (j := g') (v := .int (most : Int)) rfl hm2 ?_
    dsimp only [gName, List.set_cons_succ, List.set_cons_zero]
    have B04 : Bt p q H H4 := B02.trans ((Same.bt S3).trans B4)
    -- sorts, words
    refine ⟨_, rfl, _, rfl, p, q, r, _, 4, rfl, P4, by omega, by omega, by omega, fun x1 H5 x10 x14 B5 P5 => ?_⟩
    refine ⟨_, _, rfl, rfl, ?_⟩
    refine ⟨p, q, r, _, 1 + x1, rfl, P5, by omega, by omega, by omega, fun ss ls H6 nls sd B6 P6 els sl sok => ?_⟩
    dsimp only [gName, List.set_cons_succ, List.set_cons_zero]
    have nls3 := P5.ne nls
    have B06 := B04.trans (B5.trans B6)
    refine ⟨_, rfl, _, rfl, p, q, r, _, 5, rfl, P6, by omega, by omega, by omega, fun x2 H7 x20 x24 B7 P7 => ?_⟩
    refine ⟨_, _, rfl, rfl, ?_⟩
    refine ⟨p, q, r, _, 1 + x2, rfl, P7, by omega, by omega, by omega, fun ws lw H8 nlw wd B8 P8 elw wl wok => ?_⟩
    dsimp only [gName, List.set_cons_succ, List.set_cons_zero]
    have nlw3 := P7.ne nlw
    have els8 := (B7.trans B8) _ _ nls3.1 nls3.2.1 els
    have B08 := B06.trans (B7.trans B8)
    have P8' : PotAt H8 p q r (n + 200) := P8.mono (by omega)
    have s0 : ss ≠ [] := fun e => by
      rw [e] at sl
      simp at sl
      omega
    have w0 : ws ≠ [] := fun e => by
      rw [e] at wl
      simp at wl
      omega
    have sl4 : ss.length ≤ 4 := by omega
    have wl5 : ws.length ≤ 5 := by omega
    -- makings
    refine ⟨_, rfl, _, rfl, _, rfl, p, q, r, ls, lw, _, ss, ws, rfl, P8', by omega, els8, nls3.1, nls3.2.1, sd, sl4, elw, nlw3.1, nlw3.2.1, wd, wl5, fun ms as lm H9 nlm B9 P9 elm da mo => ?_⟩
    dsimp only [gName, List.set_cons_succ, List.set_cons_zero]
    have nlm3 := P8'.ne nlm
    have els9 := B9 _ _ nls3.1 nls3.2.1 els8
    have elw9 := B9 _ _ nlw3.1 nlw3.2.1 elw
    -- rules
    refine ⟨_, rfl, _, rfl, _, rfl, _, rfl, p, q, r, ls, lw, _, many, ss, ws, rfl, P9, by omega, m8, els9, nls3.1, nls3.2.1, s0, sl4, elw9, nlw3.1, nlw3.2.1, w0, wl5, sok, wok, fun rs bs lr Ha nlr Ba Pa elr db ro rl => ?_⟩
    dsimp only [gName, List.set_cons_succ, List.set_cons_zero]
    have nlr3 := P9.ne nlr
    -- bars
    refine ⟨Nat.zero_le _, fun st nst => ?_⟩
    have nst3 := Pa.ne nst
    have Sb : Same Ha (upd Ha st (.lst [])) := Same.upd nst
    have eb : (upd Ha st (.lst [])) st = some (.lst (([] : List Addr).map V.ref)) := upd_same
    have Pb := Pa.same Sb
    generalize upd Ha st (.lst []) = Hb at Sb eb Pb
    dsimp only [gName, List.set_cons_succ, List.set_cons_zero]
    have elsb := Sb _ _ (Ba _ _ nls3.1 nls3.2.1 els9)
    have elwb := Sb _ _ (Ba _ _ nlw3.1 nlw3.2.1 elw9)
    refine ⟨_, rfl, _, rfl, _, rfl, _, rfl, p, q, r, ls, lw, _, most, ss, ws, rfl, Pb, by omega, by omega, elsb, nls3.1, nls3.2.1, s0, sl4, elwb, nlw3.1, nlw3.2.1, w0, wl5, sok, wok, fun r2 cs l2 Hc nl2 Bc Pc el2 dc ro2 rl2 => ?_⟩
    have nl23 := Pb.ne nl2
    have hstc := Bc _ _ nst3.1 nst3.2.1 eb
    have l2st : l2 ≠ st := fun e => by rw [e, eb] at nl2; cases nl2
    have nm1 : ∀ r' ∈ r2, Nz r'.p.nm := fun r' h => (ro2.ok r' h).2 _ tx_nm
    have B0b : Bt p q H Hb := B08.trans (B9.trans (Ba.trans (Same.bt Sb)))
    have B0c := B0b.trans Bc
    have okst : ∀ a, (H a = none ∧ a ≠ st) → a ≠ p ∧ a ≠ q := fun a h => ⟨(hP.ne h.1).1, (hP.ne h.1).2.1⟩
    have dc' : AllAt (DrN K (fun a => H a = none ∧ a ≠ st) Hc) cs (r2.map rlPt) := dc.imp fun a y h => h.imp fun b hb => ⟨B0b.free (Pb.ne hb).1 (Pb.ne hb).2.1 hb, fun e => by rw [e, eb] at hb; cases hb⟩
    have st0 : H st = none := (B08.trans (B9.trans Ba)).free nst3.1 nst3.2.1 nst
    have Bac : Bt p q Ha Hc := (Same.bt Sb).trans Bc
    have elrc := Bac _ _ nlr3.1 nlr3.2.1 elr
    have lrst : lr ≠ st := ne_of_none elr nst
    refine ⟨l2, rfl, ⟨_, SqL.of el2⟩, for_list (K := K) (a := l2) (xs := cs.map V.ref) (fun i σ H' => (∃ u1 u2 u3 u4 u5 : Option V, σ = [some (.ref p), some (.int (many : Int)), some (.int (most : Int)), some (.ref ls), some (.ref lw), some (.ref lm), some (.ref lr), some (.ref st), u1, u2, u3, u4, u5, none]) ∧ (∀ a o, a ≠ p → a ≠ q → a ≠ st → Hc a = some o → H' a = some o) ∧ Bt p q H H' ∧ (∃ nn, nn ≤ n + 3900 + i ∧ PotAt H' p q r nn) ∧ ∃ (ps : List PtD) (es : List Addr), H' st = some (.lst (es.map V.ref)) ∧ AllAt (DrN K (fun a => H a = none ∧ a ≠ st) H') es (ps.map brPt) ∧ BrsOk ss ws ps ∧ ps.length ≤ i)
      ⟨⟨none, none, none, none, none, rfl⟩, fun a o _ _ _ h => h, B0c, ⟨_, by omega, Pc⟩, [], [], hstc, True.intro, ⟨List.nodup_nil, fun b h => (List.not_mem_nil h).elim, fun b h => (List.not_mem_nil h).elim, fun b h => (List.not_mem_nil h).elim⟩, Nat.zero_le _⟩ (fun i σ H' _ pp => SqL.of (pp.2.1 _ _ nl23.1 nl23.2.1 l2st el2)) ?_ ?_⟩
    · rintro i y σ Hd hi ⟨⟨u1, u2, u3, u4, u5, rfl⟩, fr, Bd, ⟨nn, nnl, Pd⟩, ps, es, hst, de, bo, pl⟩
      dsimp only [gName, List.set_cons_succ, List.set_cons_zero]
      obtain ⟨a, yy, rfl, hy, dn⟩ := dc'.get hi
      rw [List.getElem?_map] at hy
      obtain ⟨rd, hrd, rfl⟩ := Option.map_eq_some_iff.mp hy
      have hrm := List.mem_of_getElem? hrd
      have il : i < r2.length := (List.getElem?_eq_some_iff.mp hrd).1
      obtain ⟨lv, lc, tg, us, vs, okl, q1, q2, q3, q4, q5, q6⟩ := dn.fr okst (fun _ h => h.2) Pc hstc fr
      refine ⟨a, _, rfl, SqT.of q1, rfl, _, _, rfl, _, _, rfl, _, _, rfl, _, _, rfl, _, _, rfl, rfl, ?_⟩
      have elrd : Hd lr = some (.lst (bs.map V.ref)) := fr _ _ nlr3.1 nlr3.2.1 lrst elrc
      have lb := db.len
      rw [List.length_map] at lb
      have m4 : most ≤ 4 := mo4
      -- the name, perhaps of the first rule
      refine cut1 (fun σ' H' => ∃ z : Str, σ' = [some (.ref p), some (.int (many : Int)), some (.int (most : Int)), some (.ref ls), some (.ref lw), some (.ref lm), some (.ref lr), some (.ref st), some (.str z), some (.ref lv), some (.ref lc), some (.ref tg), some (.str rd.bh), none] ∧ Nz z ∧ Bt p q Hd H' ∧ PotAt H' p q r (nn + 1)) ?_ (fun R' fin => ?_)
      · rintro σ' He ⟨z, rfl, nz, Be, Pe⟩
        have hste := Be _ _ nst3.1 nst3.2.1 hst
        have dee : AllAt (DrN K (fun a => H a = none ∧ a ≠ st) He) es (ps.map brPt) := de.imp fun a y h => h.bt okst Be Pd
        have lp := de.len
        rw [List.length_map] at lp
        refine ⟨_, rfl, _, rfl, st, rfl, ⟨_, SqL.of hste⟩, fun D hD => ?_⟩
        refine lc_list (K := K) (a := st) (xs := es.map V.ref) (fun j H' => Same He H' ∧ H' D = some (.lst (((ps.map (·.nm)).take j).map V.str))) ⟨Same.upd hD, upd_same⟩ (fun j H' _ pp => SqL.of (pp.1 _ _ hste)) ?_ ?_
        · rintro j y H8 hj ⟨T8, hD8⟩
          obtain ⟨a', y', rfl, hy', dn'⟩ := dee.get hj
          rw [List.getElem?_map] at hy'
          obtain ⟨bd, hbd, rfl⟩ := Option.map_eq_some_iff.mp hy'
          obtain ⟨lv', lc', us', vs', _, a1, _⟩ := dn'.same T8
          have jl : j < ps.length := (List.getElem?_eq_some_iff.mp hbd).1
          refine ⟨rfl, _, rfl, a', _, 0, .str bd.nm, rfl, rfl, SqT.of a1, atI_nat (j := 0) rfl, ?_⟩
          refine ⟨_, hD8, ?_, fun b o e => ?_, ?_⟩
          · rw [List.length_map, List.length_take]
            exact Nat.lt_of_le_of_lt (show _ ≤ 1000 by omega) (by decide)
          · rw [upd_ne (ne_of_none e hD)]
            exact T8 _ _ e
          · have en : (ps.map (·.nm))[j]? = some bd.nm := by rw [List.getElem?_map, hbd]; rfl
            rw [upd_same, List.take_add_one, en, List.map_append]
            rfl
        rintro Hf ⟨Tf, hDf⟩
        rw [List.length_map, lp, show ps.length = (ps.map (·.nm)).length from (List.length_map ..).symm, List.take_length] at hDf
        refine ⟨D, _, rfl, .inl (SqL.of hDf), rfl, flatS _, _, rfl, ?_⟩
        show if (!inV (.str z) ((ps.map (·.nm)).map V.str)) = true then _ else _
        rw [inV_strs]
        have hstf := Tf _ _ hste
        have Pf := Pe.same Tf
        have Bdf : Bt p q Hd Hf := Be.trans (Same.bt Tf)
        have frf : ∀ a o, a ≠ p → a ≠ q → a ≠ st → Hc a = some o → Hf a = some o := fun a o h1 h2 h3 h => Bdf _ _ h1 h2 (fr a o h1 h2 h3 h)
        have Bf : Bt p q H Hf := Bd.trans Bdf
        have def_ : AllAt (DrN K (fun a => H a = none ∧ a ≠ st) Hf) es (ps.map brPt) := dee.imp fun a y h => h.same Tf
        by_cases hz : z ∈ ps.map (·.nm)
        · rw [decide_eq_true hz]
          refine iteF ⟨⟨_, _, _, _, _, rfl⟩, frf, Bf, ⟨nn + 1, by omega, Pf⟩, ps, es, hstf, def_, bo, by omega⟩
        · rw [decide_eq_false hz]
          refine iteT ?_
          refine ⟨_, rfl, .inl ⟨rfl, _, SqL.of hstf⟩, _, rfl, _, rfl, _, rfl, by show 3 ≤ sizeLine; decide, fun t nt => ?_⟩
          have Sg := Same.upd (o := .tup [.str z, .ref lv, .ref lc]) nt
          have eg : (upd Hf t (.tup [.str z, .ref lv, .ref lc])) t = _ := upd_same
          have Pg := Pf.same Sg
          generalize upd Hf t (.tup [.str z, .ref lv, .ref lc]) = Hg at Sg eg Pg
          have hstg := Sg _ _ hstf
          have Bdg : Bt p q Hd Hg := Bdf.trans (Same.bt Sg)
          have n1 := okst _ okl.1
          have n2 := okst _ okl.2
          have po2 := ro2.ok rd hrm
          have g2 := ro2.g rd hrm
          refine ⟨st, _, _, rfl, rfl, hstg, ?_, ⟨_, _, _, _, _, rfl⟩, fun a o h1 h2 h3 h => ?_, (Bf.trans (Same.bt Sg)).new st0, ⟨nn + 1, by omega, Pg.upd nst3.1 nst3.2.1 nst3.2.2⟩, ps ++ [⟨z, rd.p.vars, rd.p.cs⟩], es ++ [t], ?_, ?_, ⟨?_, fun b hb => ?_, fun b hb => ?_, fun b hb => ?_⟩, ?_⟩
          · rw [List.length_map]
            exact Nat.lt_of_le_of_lt (show _ ≤ 1000 by omega) (by decide)
          · rw [upd_ne h3]
            exact Sg _ _ (frf a o h1 h2 h3 h)
          · rw [upd_same, List.map_append]
            rfl
          · rw [List.map_append]
            refine AllAt.append (def_.imp fun a y h => (h.same Sg).put hstg fun _ h => h.2) ⟨?_, True.intro⟩
            refine DrN.put hstg (fun _ h => h.2) ?_
            exact ⟨lv, lc, us, vs, okl, eg, Bdg _ _ n1.1 n1.2 q3, bt_rows Bdg Pd q4, Bdg _ _ n2.1 n2.2 q5, bt_rows Bdg Pd q6⟩
          · rw [List.map_append, List.nodup_append]
            refine ⟨bo.nd, by simp, fun a ha b' hb e => hz ?_⟩
            have : b' = z := by simpa using hb
            rw [← this, ← e]
            exact ha
          · rcases List.mem_append.mp hb with h | h
            · exact bo.ok b h
            · rw [List.mem_singleton.mp h]
              exact br_nm (br_of po2) nz
          · rcases List.mem_append.mp hb with h | h
            · exact bo.v b h
            · rw [List.mem_singleton.mp h]
              exact g2.v
          · rcases List.mem_append.mp hb with h | h
            · exact bo.c b h
            · rw [List.mem_singleton.mp h]
              exact g2.c
          · rw [List.length_append]
            show ps.length + 1 ≤ i + 1
            omega
      · have nz0 : Nz rd.p.nm := nm1 rd hrm
        refine ⟨_, rfl, lr, _, rfl, .inl (SqL.of elrd), _, _, rfl, rfl, _, rfl, ?_⟩
        refine ite2 (fun c1 => ?_) (fun _ => fin _ _ ⟨_, rfl, nz0, Bt.refl _ _ _, Pd.mono (by omega)⟩)
        refine ⟨_, rfl, p, q, r, nn, 4, rfl, Pd, by omega, by omega, by omega, fun x Hx x0 x4 Bx Px => ⟨rfl, _, rfl, ?_⟩⟩
        refine ite2 (fun _ => ?_) (fun _ => fin _ _ ⟨_, rfl, nz0, Bx, Px⟩)
        have hstx := Bx _ _ nst3.1 nst3.2.1 hst
        refine ⟨_, rfl, Nat.zero_le _, fun em nem => ?_⟩
        have Sy : Same Hx (upd Hx em (.lst [])) := Same.upd nem
        have ey : (upd Hx em (.lst [])) em = some (.lst []) := upd_same
        have Py := Px.same Sy
        generalize upd Hx em (.lst []) = Hy at Sy ey Py
        have By : Bt p q Hd Hy := Bx.trans (Same.bt Sy)
        refine ⟨st, em, _, rfl, rfl, Sy _ _ hstx, ey, _, rfl, ?_⟩
        refine ite2 (fun _ => ?_) (fun _ => fin _ _ ⟨_, rfl, nz0, By, Py⟩)
        -- the first rule's name
        have bl : 0 < bs.length := by
          have := of_decide_eq_true c1
          rw [List.length_map] at this
          omega
        obtain ⟨r0, hr0⟩ : ∃ r0, rs[0]? = some r0 := ⟨_, List.getElem?_eq_getElem (by omega)⟩
        obtain ⟨a0, y0, e0, hy0, dn0⟩ := db.get (j := 0) (y := .ref (bs[0]'bl)) (by rw [List.getElem?_map, List.getElem?_eq_getElem bl]; rfl)
        rw [List.getElem?_map, hr0] at hy0
        cases hy0
        have okr : ∀ a, H9 a = none → a ≠ p ∧ a ≠ q := fun a h => ⟨(P9.ne h).1, (P9.ne h).2.1⟩
        have dnst : ∀ a, (H9 a = none ∧ a ≠ st) → a ≠ p ∧ a ≠ q := fun a h => okr a h.1
        obtain ⟨lv0, lc0, tg0, _, _, _, t0, _⟩ := dn0
        have t0d : Hy a0 = some (.tup [.str r0.p.nm, .ref lv0, .ref lc0, .ref tg0, .str r0.bh]) := by
          obtain ⟨kk, uu, yy, ep, eq, _⟩ := Pa.ex
          have n1 := ne_of t0 ep (fun z => by cases z)
          have n2 := ne_of t0 eq (fun z => by cases z)
          have n3 : a0 ≠ st := ne_of_none t0 nst
          exact By _ _ n1 n2 (fr _ _ n1 n2 n3 (Bac _ _ n1 n2 t0))
        have elry : Hy lr = some (.lst (bs.map V.ref)) := By _ _ nlr3.1 nlr3.2.1 elrd
        refine ⟨_, rfl, tcc (rdList (i := 0) elry (j := 0) (v := .ref a0) rfl (by rw [List.getElem?_map, List.getElem?_eq_getElem bl, ← e0]; rfl) ?_)⟩
        refine ⟨a0, _, 0, .str r0.p.nm, rfl, rfl, SqT.of t0d, atI_nat (j := 0) rfl, ?_⟩
        exact fin _ _ ⟨_, rfl, (ro.ok r0 (List.mem_of_getElem? hr0)).2 _ tx_nm, By, Py⟩
    · rintro σ Hd ⟨⟨u1, u2, u3, u4, u5, rfl⟩, fr, Bd, ⟨nn, nnl, Pd⟩, ps, es, hst, de, bo, pl⟩
      have lc := dc.len
      rw [List.length_map] at lc pl nnl
      refine ⟨_, rfl, _, rfl, _, rfl, _, rfl, _, rfl, by show 5 ≤ sizeLine; decide, fun t nt => ?_⟩
      have Se := Same.upd (o := .tup [.ref ls, .ref lw, .ref lm, .ref lr, .ref st]) nt
      have Bad : Bt p q Ha Hc := Bac
      have fra : ∀ a o, a ≠ p → a ≠ q → a ≠ st → Ha a = some o → Hd a = some o := fun a o h1 h2 h3 h => fr a o h1 h2 h3 (Bac _ _ h1 h2 h)
      have els0 := els9
      have hlsa := Ba _ _ nls3.1 nls3.2.1 els9
      have hlwa := Ba _ _ nlw3.1 nlw3.2.1 elw9
      have hlma := Ba _ _ nlm3.1 nlm3.2.1 elm
      have nn0 : ∀ {a : Addr} {o : HO}, Ha a = some o → a ≠ st := fun h => ne_of_none h nst
      have f1 := fra _ _ nls3.1 nls3.2.1 (nn0 hlsa) hlsa
      have f2 := fra _ _ nlw3.1 nlw3.2.1 (nn0 hlwa) hlwa
      have f3 := fra _ _ nlm3.1 nlm3.2.1 (nn0 hlma) hlma
      have f4 := fra _ _ nlr3.1 nlr3.2.1 (nn0 elr) elr
      have z1 : H ls = none := (B04.trans B5).free nls3.1 nls3.2.1 nls
      have z2 : H lw = none := (B06.trans B7).free nlw3.1 nlw3.2.1 nlw
      have z3 : H lm = none := B08.free nlm3.1 nlm3.2.1 nlm
      have B09 := B08.trans B9
      have z4 : H lr = none := B09.free nlr3.1 nlr3.2.1 nlr
      have okn : ∀ a, H a = none → a ≠ p ∧ a ≠ q := fun a h => ⟨(hP.ne h).1, (hP.ne h).2.1⟩
      have okn2 : ∀ a, (H a = none ∧ Ha a ≠ none) → a ≠ p ∧ a ≠ q := fun a h => okn a h.1
      have okn3 : ∀ a, (H a = none ∧ Ha a ≠ none) → a ≠ st := fun a h e => h.2 (by rw [e]; exact nst)
      have da1 : AllAt (DrN K (fun a => H a = none) Hd) as (ms.map mkPt) := by
        have q1 : AllAt (DrN K (fun a => H a = none) H9) as (ms.map mkPt) := da.imp fun a y h => h.imp fun b hb => B08.free (P8'.ne hb).1 (P8'.ne hb).2.1 hb
        have q2 : AllAt (DrN K (fun a => H a = none) Ha) as (ms.map mkPt) := q1.imp fun a y h => h.bt okn Ba P9
        exact q2.imp fun a y h => (h.live.fr2 okn2 okn3 Pa nst fra).imp fun _ h => h.1
      have db1 : AllAt (DrN K (fun a => H a = none) Hd) bs (rs.map rlPt) := by
        have q1 : AllAt (DrN K (fun a => H a = none) Ha) bs (rs.map rlPt) := db.imp fun a y h => h.imp fun b hb => B09.free (P9.ne hb).1 (P9.ne hb).2.1 hb
        exact q1.imp fun a y h => (h.live.fr2 okn2 okn3 Pa nst fra).imp fun _ h => h.1
      have s5 : ss.length = (1 + x1).toNat := sl
      have w5 : ws.length = (1 + x2).toNat := wl
      refine k t ss ws ms rs ps _ (Bd.trans (Same.bt Se)) ((Pd.same Se).mono (by omega)) ⟨ls, lw, lm, lr, st, as, bs, es, ⟨z1, z2, z3, z4, st0⟩, upd_same, Se _ _ f1, Se _ _ f2, Se _ _ f3, Se _ _ f4, Se _ _ hst, dr_same Se da1, dr_same Se db1, dr_same Se (de.imp fun a y h => h.imp fun _ h => h.1)⟩ (sch_k (by omega) sl4 (by omega) wl5 sok wok sd wd mo ro (by omega) bo (by omega))
end
end Wm
namespace Wm
open PySem L2 StX
def rSplit : V → List V → Hp → VK → Prop := fun x xs H Q => ∃ a b, x = .str a ∧ xs = [.str b] ∧ (b.length == 0) = false ∧ a.length + 2 ≤ sizeLine ∧ rNewStrs (Txt.split a b) H Q
def fk : Nat → Pt → Bool
  | 0 => Pt.isM
  | 1 => Pt.isR
  | _ => Pt.isB
def kdS : Nat → Str
  | 0 => "making"
  | 1 => "rule"
  | _ => "bar"
theorem kne1 : ¬ ("rule" : Str) = "making" := by decide +kernel
theorem kne2 : ¬ ("bar" : Str) = "making" := by decide +kernel
theorem kne3 : ¬ ("bar" : Str) = "rule" := by decide +kernel
theorem kd_fk (j : Nat) (p : Pt) : decide (p.kind = kdS j) = fk j p := by
  match j with
  | 0 => cases p with
    | rl => exact decide_eq_false kne1
    | br => exact decide_eq_false kne2
    | mk => exact decide_eq_true rfl
  | 1 => cases p with
    | rl => exact decide_eq_true rfl
    | br => exact decide_eq_false kne3
    | mk => exact decide_eq_false (fun e => kne1 e.symm)
  | n + 2 => cases p with
    | rl => exact decide_eq_false (fun e => kne3 e.symm)
    | br => exact decide_eq_true rfl
    | mk => exact decide_eq_false (fun e => kne2 e.symm)
theorem fk_one : ∀ {i j : Nat} {p : Pt}, i < 3 → j < 3 → i ≠ j → fk i p = true → fk j p = false := by
  intro i j p hi hj n h
  have ci : i = 0 ∨ i = 1 ∨ i = 2 := by omega
  have cj : j = 0 ∨ j = 1 ∨ j = 2 := by omega
  rcases ci with rfl | rfl | rfl <;> rcases cj with rfl | rfl | rfl <;> first | exact absurd rfl n | (cases p <;> first | rfl | cases h)
theorem fk_some (p : Pt) : ∃ j, j < 3 ∧ fk j p = true := by
  cases p
  · exact ⟨1, by omega, rfl⟩
  · exact ⟨2, by omega, rfl⟩
  · exact ⟨0, by omega, rfl⟩
def rwV (X : List Pt) : List V := (X.map ptRow).map V.str
theorem okS_row {p : Pt} (h : PtOk p) : okS (ptRow p) := okS_join (by unfold okS; decide +kernel) (pt_okS h)
theorem eqv3 (a b c : List Str) : PyData.eqv (.list [.list (a.map .str), .list (b.map .str), .list (c.map .str)]) (.list [.list [], .list [], .list []]) = decide (a = [] ∧ b = [] ∧ c = []) := by
  have e : ∀ z : List Str, PyData.eqv (.list (z.map .str)) (.list []) = decide (z = []) := fun z => eqv_strs z []
  have q : PyData.eqv (.list [.list (a.map .str), .list (b.map .str), .list (c.map .str)]) (.list [.list [], .list [], .list []]) = (PyData.eqv (.list (a.map .str)) (.list []) && (PyData.eqv (.list (b.map .str)) (.list []) && (PyData.eqv (.list (c.map .str)) (.list []) && true))) := by
    rw [PyData.eqv]
    simp only [PyData.eqvAll]
  rw [q, e, e, e]
  by_cases h1 : a = [] <;> by_cases h2 : b = [] <;> by_cases h3 : c = [] <;> simp [h1, h2, h3]
theorem lenAt_of {a : Addr} {H : Hp} {X : List Pt} (h : H a = some (.lst (rwV X))) : lenAt a H = X.length := by
  unfold lenAt
  rw [h]
  show (rwV X).length = _
  unfold rwV
  rw [List.length_map, List.length_map]
theorem seq0 {n : Nat} (h : 0 < n) : seqIndex? 0 n = some 0 := by
  unfold seqIndex?
  simp
  omega
theorem filt_all {α β : Type} {f : α → β} {g : β → Bool} (h : ∀ a, g (f a) = true) (xs : List α) : (xs.map f).filter g = xs.map f := by
  rw [List.filter_eq_self]
  intro b hb
  obtain ⟨a, _, rfl⟩ := List.mem_map.mp hb
  exact h a
theorem filt_no {α β : Type} {f : α → β} {g : β → Bool} (h : ∀ a, g (f a) = false) (xs : List α) : (xs.map f).filter g = [] := by
  rw [List.filter_eq_nil_iff]
  intro b hb
  obtain ⟨a, _, rfl⟩ := List.mem_map.mp hb
  rw [h a]
  decide
theorem all_m (ms : List MkD) (rs : List RlD) (ps : List PtD) : (allPt ms rs ps).filter Pt.isM = ms.map mkPt := by
  unfold allPt
  rw [List.filter_append, List.filter_append, filt_all (fun _ => rfl), filt_no (fun _ => rfl), filt_no (fun _ => rfl), List.append_nil, List.append_nil]
theorem all_r (ms : List MkD) (rs : List RlD) (ps : List PtD) : (allPt ms rs ps).filter Pt.isR = rs.map rlPt := by
  unfold allPt
  rw [List.filter_append, List.filter_append, filt_no (fun _ => rfl), filt_all (fun _ => rfl), filt_no (fun _ => rfl), List.append_nil, List.nil_append]
theorem all_b (ms : List MkD) (rs : List RlD) (ps : List PtD) : (allPt ms rs ps).filter Pt.isB = ps.map brPt := by
  unfold allPt
  rw [List.filter_append, List.filter_append, filt_no (fun _ => rfl), filt_no (fun _ => rfl), filt_all (fun _ => rfl), List.nil_append, List.nil_append]
/-- what stands while rows are mingled -/
structure MgI (Y : List Pt) (ss ws : List Str) (H' : Hp) (L F : Addr) (d : Nat → Addr) (X : Nat → List Pt) (dn : List Pt) : Prop where
  hL : H' L = some (.lst [.ref (d 0), .ref (d 1), .ref (d 2)])
  hd : ∀ j, j < 3 → H' (d j) = some (.lst (rwV (X j)))
  hF : H' F = some (.lst ((rowsL ss ws dn).map V.str))
  e : ∀ j, j < 3 → dn.filter (fk j) ++ X j = Y.filter (fk j)
  k : ∀ j, j < 3 → ∀ x ∈ X j, fk j x = true
  l : dn.length + ((X 0).length + (X 1).length + (X 2).length) ≤ 40
theorem MgI.same {Y : List Pt} {ss ws : List Str} {H H' : Hp} {L F : Addr} {d : Nat → Addr} {X : Nat → List Pt} {dn : List Pt} (M : MgI Y ss ws H L F d X dn) (s : Same H H') : MgI Y ss ws H' L F d X dn := ⟨s _ _ M.hL, fun j hj => s _ _ (M.hd j hj), s _ _ M.hF, M.e, M.k, M.l⟩
/-- the places of the lists -/
structure MgA (p q L F : Addr) (d : Nat → Addr) : Prop where
  Lp : L ≠ p ∧ L ≠ q
  Fp : F ≠ p ∧ F ≠ q
  LF : L ≠ F
  dp : ∀ j, j < 3 → d j ≠ p ∧ d j ≠ q ∧ d j ≠ L ∧ d j ≠ F
  dd : ∀ i j, i < 3 → j < 3 → d i = d j → i = j
theorem MgI.bt {Y : List Pt} {ss ws : List Str} {p q : Addr} {H H' : Hp} {L F : Addr} {d : Nat → Addr} {X : Nat → List Pt} {dn : List Pt} (M : MgI Y ss ws H L F d X dn) (A : MgA p q L F d) (b : Bt p q H H') : MgI Y ss ws H' L F d X dn :=
  ⟨b _ _ A.Lp.1 A.Lp.2 M.hL, fun j hj => b _ _ (A.dp j hj).1 (A.dp j hj).2.1 (M.hd j hj), b _ _ A.Fp.1 A.Fp.2 M.hF, M.e, M.k, M.l⟩
def m3 (X : Nat → List Pt) (a : Nat) : Nat := if X a ≠ [] then 0 else if X ((a + 1) % 3) ≠ [] then 1 else 2
def mu6 (X : Nat → List Pt) (σ : L2.St) : Nat := match σ with
  | [_, _, _, _, _, _, some (.int a)] => m3 X a.toNat
  | _ => 0
theorem m3_lt {X : Nat → List Pt} {a : Nat} (ha : a < 3) (e : X a = []) (ne : ¬ (X 0 = [] ∧ X 1 = [] ∧ X 2 = [])) : m3 X ((a + 1) % 3) < m3 X a := by
  unfold m3
  have ca : a = 0 ∨ a = 1 ∨ a = 2 := by omega
  rcases ca with rfl | rfl | rfl
  · simp only [e, Nat.zero_add, show (1 % 3) = 1 from rfl, show (1 + 1) % 3 = 2 from rfl, ne_eq, not_true_eq_false, if_false]
    by_cases h1 : X 1 = []
    · by_cases h2 : X 2 = []
      · exact absurd ⟨e, h1, h2⟩ ne
      · simp [h1, h2]
    · simp [h1]
  · simp only [e, show (1 + 1) % 3 = 2 from rfl, show (2 + 1) % 3 = 0 from rfl, ne_eq, not_true_eq_false, if_false]
    by_cases h1 : X 2 = []
    · by_cases h2 : X 0 = []
      · exact absurd ⟨h2, e, h1⟩ ne
      · simp [h1, h2]
    · simp [h1]
  · simp only [e, show (2 + 1) % 3 = 0 from rfl, show (0 + 1) % 3 = 1 from rfl, ne_eq, not_true_eq_false, if_false]
    by_cases h1 : X 0 = []
    · by_cases h2 : X 1 = []
      · exact absurd ⟨h1, h2, e⟩ ne
      · simp [h1, h2]
    · simp [h1]
def spMi (K : PySem.W.Frag) : Sp := fun vs H Q _ => ∃ (p q r l : Addr) (n : Nat) (ss ws : List Str) (ms : List MkD) (rs : List RlD) (ps : List PtD), vs = [.ref p, .ref l] ∧ PotAt H p q r n ∧ n ≤ 10000 ∧ H l = some (.lst ((rowsL ss ws (allPt ms rs ps)).map V.str)) ∧ l ≠ p ∧ l ≠ q ∧ SchK ss ws ms rs ps ∧ ∀ (pts : List Pt) d H', H d = none → Bt p q H H' → PotAt H' p q r (n + 100) → H' d = some (.lst ((rowsL ss ws pts).map V.str)) → Ming pts ms rs ps → Q (.ref d) H'
section
variable {P : Program} {w : World} {K : PySem.W.Frag} {mg : Str → Option Value} {base : Heap}
theorem scMi : FnScope ["_law_pot_here", "_law_rows_here", "_law_left", "_law_kind", "_law_row", "_law_found", "_law_at"] ["_law_pot_here", "_law_rows_here"] (defScope sMi) := ⟨rfl, rfl, rfl, by decide +kernel, rfl, by decide +kernel, by decide +kernel⟩
theorem ok_mi {f fT : Addr} {fd dT : FuncData} (F : Fun K "_law_mingled" "_law_mingled" sMi f fd) (T : TxB mg) (DT : Dn K mg "_law_take" sTak ["_law_pot_here", "_law_many"] fT dT) (GT : FnOk P w K mg base CX0 2 fT dT ["_law_pot_here", "_law_many"] spTak) : FnOk P w K mg base CX0 3 f fd ["_law_pot_here", "_law_rows_here"] (spMi K) := by
  refine F.ok scMi (fun vs H Q E h => ?_) (fun cdv A outer s H vs Q E hr h => ?_)
  · obtain ⟨p, q, r, l, n, ss, ws, ms, rs, ps, rfl, _⟩ := h
    rfl
  · obtain ⟨p, q, r, l, n, ss, ws, ms, rs, ps, rfl, hP, hn, hl, lp, lq, sk, k⟩ := h
    have hr2 : Room 2 _ := hr
    have m20 := sk.m9
    have r8 := sk.ok.r8
    have p4 := sk.ok.b4
    have Y32 : (allPt ms rs ps).length ≤ 32 := by
      unfold allPt
      rw [List.length_append, List.length_append, List.length_map, List.length_map, List.length_map]
      omega
    have Yok := sk.pt
    have Ym := all_m ms rs ps
    have Yr := all_r ms rs ps
    have Yb := all_b ms rs ps
    generalize allPt ms rs ps = Y at hl Y32 Yok Ym Yr Yb
    refine ⟨_, (pss_cons (ps_set (i := 2) scMi.nd rfl (Or.inl rfl) (pe_lst pa_nil))
      (pss_cons (ps_for PassesOwn.never rfl (pi_list (pe_lst (pa_cons pe_str (pa_cons pe_str (pa_cons pe_str pa_nil))))) (pg_name (i := 3) scMi.nd rfl (Or.inr rfl)) (pss_one (ps_expr (pe_bm PySem.F.plainAttrs_list PySem.F.slot_list_append PySem.F.type_list_append mt_append (pv 2) (pa_cons (pe_lc (own := [("_law_row", 4)]) (g := gName 4) (tt := (tTest (tOp rEq (tOp (rIxL K) (tM1 rSplit (tVar 4) (tC (.str (PySem.Str.ofString " ")))) (tC (.int 0))) (tVar 3)))) (te := (tVar 4)) rfl scMi.nd (pi_list (pe_slice sl_list (pv 1) (po_some pe_int) po_none)) (blkOk_by (N := ["_law_pot_here", "_law_rows_here", "_law_left", "_law_kind", "_law_row", "_law_found", "_law_at"]) (sc := defScope sMi) (by decide +kernel)) (fun _ _ _ _ _ => (pg_name (i := 4) scMi.nd rfl (Or.inl rfl))) (fun _ _ _ _ _ => (pts_one (pt_cmpR op_eq (pe_ix ix_list (pe_split (pv 4) pe_str) pe_int (fun _ _ => rfl)) (pv 3) (nomark _)))) (fun _ _ _ _ _ => (pv 4))) pa_nil)))))
      (pss_cons (ps_set (i := 5) scMi.nd rfl (Or.inl rfl) (pe_slice sl_list (pv 1) po_none (po_some pe_int)))
      (pss_cons (ps_while PassesOwn.never (pt_cmpR (op_neD hr.units) (pv 2) (pe_lst (pa_cons (pe_lst pa_nil) (pa_cons (pe_lst pa_nil) (pa_cons (pe_lst pa_nil) pa_nil)))) (nomark _)) (pss_cons (ps_set (i := 6) scMi.nd rfl (Or.inl rfl) (pe_call GT hr2 rfl DT.g DT.F.kp DT.b .nil pass0 (pa_cons (pv 0) (pa_cons pe_int pa_nil))))
      (pss_cons (ps_while PassesOwn.never (pt_cmpR (op_eqE (u1 hr)) (pe_ix ix_list (pv 2) (pv 6) (fun _ _ => rfl)) (pe_lst pa_nil) (nomark _)) (pss_one (ps_set (i := 6) scMi.nd rfl (Or.inl rfl) (pe_op op_mod (pe_op op_add (pv 6) pe_int) pe_int))))
      (pss_one (ps_expr (pe_bm PySem.F.plainAttrs_list PySem.F.slot_list_append PySem.F.type_list_append mt_append (pv 5) (pa_cons (pe_bm PySem.F.plainAttrs_list PySem.F.slot_list_pop PySem.F.type_list_pop mt_popAt (pe_ix ix_list (pv 2) (pv 6) (fun _ _ => rfl)) (pa_cons pe_int pa_nil)) pa_nil)))))))
      (pss_one (ps_ret (pv 5))))))), ?_⟩
    rw [show L2.start ["_law_pot_here", "_law_rows_here", "_law_left", "_law_kind", "_law_row", "_law_found", "_law_at"] [.ref p, .ref l] = [some (.ref p), some (.ref l), none, none, none, none, none] from rfl]
    refine ⟨Nat.zero_le _, fun L nL => ?_⟩
    have nL3 := hP.ne nL
    have S0 : Same H (upd H L (.lst [])) := Same.upd nL
    have e0 : (upd H L (.lst [])) L = some (.lst []) := upd_same
    generalize upd H L (.lst []) = H0 at S0 e0
    dsimp only [gName, List.set_cons_succ, List.set_cons_zero]
    refine ⟨by show 3 ≤ sizeLine; decide, fun lk nlk => ?_⟩
    have S1 := Same.upd (o := .lst [.str "making", .str "rule", .str "bar"]) nlk
    have e1 : (upd H0 lk (.lst [.str "making", .str "rule", .str "bar"])) lk = _ := upd_same
    have hL1 := S1 _ _ e0
    have Llk : L ≠ lk := ne_of_none e0 nlk
    have S01 := S0.trans S1
    generalize upd H0 lk (.lst [.str "making", .str "rule", .str "bar"]) = H1 at S1 e1 hL1 S01
    have lk0 : H lk = none := S0.free nlk
    refine ⟨lk, rfl, ⟨_, SqL.of e1⟩, for_list (K := K) (a := lk) (xs := [.str "making", .str "rule", .str "bar"]) (fun i σ H' => (∃ u x : Option V, σ = [some (.ref p), some (.ref l), some (.ref L), u, x, none, none]) ∧ Same H H' ∧ H' lk = some (.lst [.str "making", .str "rule", .str "bar"]) ∧ ∃ d : Nat → Addr, H' L = some (.lst ((List.range i).map fun j => .ref (d j))) ∧ (∀ j, j < i → H (d j) = none ∧ d j ≠ L ∧ H' (d j) = some (.lst (rwV (Y.filter (fk j))))) ∧ ∀ j m, j < i → m < i → d j = d m → j = m)
      ⟨⟨none, none, rfl⟩, S01, e1, fun _ => p, hL1, fun j hj => absurd hj (Nat.not_lt_zero j), fun j m hj => absurd hj (Nat.not_lt_zero j)⟩ (fun i σ H' _ pp => SqL.of pp.2.2.1) ?_ ?_⟩
    · rintro i y σ H2 hi ⟨⟨u, x, rfl⟩, S2, hlk, d, hL2, hd, hdd⟩
      have i3 : i < 3 := (List.getElem?_eq_some_iff.mp hi).1
      have ey : y = .str (kdS i) := by
        have c : i = 0 ∨ i = 1 ∨ i = 2 := by omega
        rcases c with rfl | rfl | rfl <;> exact (Option.some.inj hi).symm
      subst ey
      dsimp only [gName, List.set_cons_succ, List.set_cons_zero]
      have hl2 := S2 _ _ hl
      refine ⟨_, rfl, .inl ⟨rfl, _, SqL.of hL2⟩, ?_⟩
      refine ⟨_, rfl, _, rfl, l, _, rfl, SqL.of hl2, fun c nc => ?_⟩
      have ec : cutV ((rowsL ss ws Y).map V.str) (some 2) none = rwV Y := cut_drop ((rowsL ss ws Y).map V.str) 2
      rw [ec]
      have Sc := Same.upd (o := .lst (rwV Y)) nc
      have ecc : (upd H2 c (.lst (rwV Y))) c = _ := upd_same
      generalize upd H2 c (.lst (rwV Y)) = H3 at Sc ecc
      refine ⟨c, rfl, ⟨_, SqL.of ecc⟩, fun D hD => ?_⟩
      refine lc_list (K := K) (a := c) (xs := rwV Y) (fun j H' => Same H3 H' ∧ H' D = some (.lst (rwV ((Y.take j).filter (fk i))))) ⟨Same.upd hD, upd_same⟩ (fun j H' _ pp => SqL.of (pp.1 _ _ ecc)) ?_ ?_
      · rintro j y H8 hj ⟨T8, hD8⟩
        unfold rwV at hj
        rw [List.getElem?_map, List.getElem?_map] at hj
        obtain ⟨z, hz, rfl⟩ := Option.map_eq_some_iff.mp hj
        obtain ⟨pt, hpt, rfl⟩ := Option.map_eq_some_iff.mp hz
        have jl : j < Y.length := (List.getElem?_eq_some_iff.mp hpt).1
        have po := Yok pt (List.mem_of_getElem? hpt)
        refine ⟨rfl, _, rfl, ⟨ptRow pt, rfl⟩, ptRow pt, " ", rfl, rfl, by decide +kernel, Nat.le_trans (Nat.add_le_add_right (ptRow_len po) 2) (by decide), fun sp nsp => ?_⟩
        rw [pt_split po]
        have Ss := Same.upd (o := .lst (pt.parts.map V.str)) nsp
        have es : (upd H8 sp (.lst (pt.parts.map V.str))) sp = _ := upd_same
        have hDs := Ss _ _ hD8
        generalize upd H8 sp (.lst (pt.parts.map V.str)) = H9 at Ss es hDs
        have g0 : (pt.parts.map V.str)[0]? = some (.str pt.kind) := by cases pt <;> rfl
        refine tcc (rdList (i := 0) es (j := 0) (v := .str pt.kind) rfl g0 ?_)
        refine ⟨_, rfl, rfl, _, rfl, ?_⟩
        have ef : decide (V.str pt.kind = V.str (kdS i)) = fk i pt := by
          rw [← kd_fk i pt]
          exact decide_eq_decide.mpr ⟨fun h => V.str.inj h, fun h => congrArg V.str h⟩
        rw [ef]
        have st : (Y.take (j + 1)).filter (fk i) = (Y.take j).filter (fk i) ++ (if fk i pt = true then [pt] else []) := by
          rw [List.take_add_one, hpt, List.filter_append]
          simp [List.filter_cons]
        have fl : ((Y.take j).filter (fk i)).length ≤ 32 := Nat.le_trans (List.length_filter_le _ _) (by rw [List.length_take]; omega)
        refine ite2 (fun cc => ?_) (fun cc => ?_)
        · rw [if_pos cc] at st
          refine ⟨_, rfl, _, hDs, ?_, fun b o e => ?_, ?_⟩
          · unfold rwV
            rw [List.length_map, List.length_map]
            exact Nat.lt_of_le_of_lt (show _ ≤ 1000 by omega) (by decide)
          · rw [upd_ne (ne_of_none e hD)]
            exact (T8.trans Ss) _ _ e
          · rw [upd_same, st]
            unfold rwV
            rw [List.map_append, List.map_append]
            rfl
        · rw [if_neg cc, List.append_nil] at st
          refine ⟨T8.trans Ss, ?_⟩
          rw [st]
          exact hDs
      rintro H8 ⟨T8, hD8⟩
      have ly : (rwV Y).length = Y.length := by
        unfold rwV
        rw [List.length_map, List.length_map]
      rw [ly, List.take_length] at hD8
      have T28 := Sc.trans T8
      have hL8 := T28 _ _ hL2
      have S28 := S2.trans T28
      have DL : D ≠ L := fun e => by
        rw [e] at hD
        rw [Sc _ _ hL2] at hD
        cases hD
      have D0 : H D = none := (S2.trans Sc).free hD
      refine ⟨L, _, _, rfl, rfl, hL8, ?_, ⟨_, _, rfl⟩, fun b o e => ?_, ?_, fun j => if j = i then D else d j, ?_, fun j hj => ?_, fun j m hj hm e => ?_⟩
      · rw [List.length_map, List.length_range]
        exact Nat.lt_of_le_of_lt (show _ ≤ 1000 by omega) (by decide)
      · rw [upd_ne (ne_of_none e nL)]
        exact S28 _ _ e
      · rw [upd_ne Llk.symm]
        exact T28 _ _ hlk
      · rw [upd_same, List.range_succ, List.map_append]
        have e1 : (List.range i).map (fun j => V.ref (if j = i then D else d j)) = (List.range i).map fun j => V.ref (d j) := by
          refine List.map_congr_left fun j hj => ?_
          have : j < i := List.mem_range.mp hj
          rw [if_neg (by omega)]
        rw [e1]
        simp
      · dsimp only
        by_cases e : j = i
        · rw [if_pos e]
          refine ⟨D0, DL, ?_⟩
          rw [upd_ne DL, e]
          exact hD8
        · rw [if_neg e]
          obtain ⟨h1, h2, h3⟩ := hd j (by omega)
          refine ⟨h1, h2, ?_⟩
          rw [upd_ne h2]
          exact T28 _ _ h3
      · have nD : ∀ m, m < i → d m ≠ D := fun m hm e => by
          have := (hd m hm).2.2
          rw [e] at this
          rw [Sc _ _ this] at hD
          cases hD
        dsimp only at e
        by_cases e1 : j = i
        · by_cases e2 : m = i
          · omega
          · rw [if_pos e1, if_neg e2] at e
            exact absurd e.symm (nD m (by omega))
        · by_cases e2 : m = i
          · rw [if_neg e1, if_pos e2] at e
            exact absurd e (nD j (by omega))
          · rw [if_neg e1, if_neg e2] at e
            exact hdd j m (by omega) (by omega) e
    rintro σ H2 ⟨⟨u, x, rfl⟩, S2, hlk, d, hL2, hd, hdd⟩
    have hl2 := S2 _ _ hl
    have P2 := hP.same S2
    have hL2' : H2 L = some (.lst [.ref (d 0), .ref (d 1), .ref (d 2)]) := hL2
    -- found
    refine ⟨_, rfl, _, rfl, l, _, rfl, SqL.of hl2, fun F nF => ?_⟩
    have eF : cutV ((rowsL ss ws Y).map V.str) none (some 2) = (rowsL ss ws []).map V.str := (cut_take ((rowsL ss ws Y).map V.str) 2).trans rfl
    rw [eF]
    have S3 := Same.upd (o := .lst ((rowsL ss ws []).map V.str)) nF
    have e3 : (upd H2 F (.lst ((rowsL ss ws []).map V.str))) F = _ := upd_same
    have P3 := P2.same S3
    generalize upd H2 F (.lst ((rowsL ss ws []).map V.str)) = H3 at S3 e3 P3
    dsimp only [gName, List.set_cons_succ, List.set_cons_zero]
    have F0 : H F = none := S2.free nF
    have nF3 := P2.ne nF
    have A : MgA p q L F d := ⟨⟨nL3.1, nL3.2.1⟩, ⟨nF3.1, nF3.2.1⟩, ne_of_none hL2 nF, fun j hj => ⟨(hP.ne (hd j hj).1).1, (hP.ne (hd j hj).1).2.1, (hd j hj).2.1, ne_of_none (hd j hj).2.2 nF⟩, hdd⟩
    have B3 : Bt p q H H3 := Same.bt (S2.trans S3)
    refine while_by (fun σ H' => (∃ y : Option V, σ = [some (.ref p), some (.ref l), some (.ref L), u, x, some (.ref F), y]) ∧ Bt p q H H' ∧ ∃ (X : Nat → List Pt) (dn : List Pt), MgI Y ss ws H' L F d X dn ∧ PotAt H' p q r (n + dn.length)) (fun _ H' => lenAt (d 0) H' + (lenAt (d 1) H' + lenAt (d 2) H'))
      ⟨⟨none, rfl⟩, B3, fun j => Y.filter (fk j), [], ⟨S3 _ _ hL2', fun j hj => S3 _ _ (hd j hj).2.2, e3, fun j hj => rfl, fun j hj x hx => (List.mem_filter.mp hx).2, ?_⟩, P3⟩ ?_ ?_
    · have c0 : (Y.filter (fk 0)).length = ms.length := by
        show (Y.filter Pt.isM).length = _
        rw [Ym, List.length_map]
      have c1 : (Y.filter (fk 1)).length = rs.length := by
        show (Y.filter Pt.isR).length = _
        rw [Yr, List.length_map]
      have c2 : (Y.filter (fk 2)).length = ps.length := by
        show (Y.filter Pt.isB).length = _
        rw [Yb, List.length_map]
      show 0 + ((Y.filter (fk 0)).length + (Y.filter (fk 1)).length + (Y.filter (fk 2)).length) ≤ 40
      omega
    · rintro σ H4 ⟨⟨y, rfl⟩, B4, X, dn, M, P4⟩
      refine ⟨_, rfl, Nat.zero_le _, fun a1 n1 => ⟨Nat.zero_le _, fun a2 n2 => ⟨Nat.zero_le _, fun a3 n3 => ⟨by show 3 ≤ sizeLine; decide, fun a4 n4 => ?_⟩⟩⟩⟩
      have T1 : Same H4 (upd H4 a1 (.lst [])) := Same.upd n1
      have q1 : (upd H4 a1 (.lst [])) a1 = some (.lst []) := upd_same
      generalize upd H4 a1 (.lst []) = J1 at T1 q1 n2 n3 n4 ⊢
      have T2 : Same J1 (upd J1 a2 (.lst [])) := Same.upd n2
      have q2 : (upd J1 a2 (.lst [])) a2 = some (.lst []) := upd_same
      generalize upd J1 a2 (.lst []) = J2 at T2 q2 n3 n4 ⊢
      have T3 : Same J2 (upd J2 a3 (.lst [])) := Same.upd n3
      have q3 : (upd J2 a3 (.lst [])) a3 = some (.lst []) := upd_same
      generalize upd J2 a3 (.lst []) = J3 at T3 q3 n4 ⊢
      have T4 := Same.upd (o := .lst [.ref a1, .ref a2, .ref a3]) n4
      have q4 : (upd J3 a4 (.lst [.ref a1, .ref a2, .ref a3])) a4 = _ := upd_same
      generalize upd J3 a4 (.lst [.ref a1, .ref a2, .ref a3]) = J4 at T4 q4 ⊢
      have T04 := T1.trans (T2.trans (T3.trans T4))
      have M4 := M.same T04
      have PJ := P4.same T04
      have BJ : Bt p q H J4 := B4.trans (Same.bt T04)
      have Xok : ∀ j, j < 3 → ∀ z ∈ (X j).map ptRow, okS z := fun j hj z hz => by
        obtain ⟨x, hx, rfl⟩ := List.mem_map.mp hz
        have : x ∈ Y.filter (fk j) := by
          rw [← M.e j hj]
          exact List.mem_append_right _ hx
        exact okS_row (Yok x (List.mem_filter.mp this).1)
      have D1 : DpAll K J4 [.ref (d 0), .ref (d 1), .ref (d 2)] [.list (((X 0).map ptRow).map .str), .list (((X 1).map ptRow).map .str), .list (((X 2).map ptRow).map .str)] := .cons (.lst (SqL.of (M4.hd 0 (by omega))) (dp_strs _)) (.cons (.lst (SqL.of (M4.hd 1 (by omega))) (dp_strs _)) (.cons (.lst (SqL.of (M4.hd 2 (by omega))) (dp_strs _)) .nil))
      have D2 : DpAll K J4 [.ref a1, .ref a2, .ref a3] [.list [], .list [], .list []] := .cons (.lst (SqL.of ((T2.trans (T3.trans T4)) _ _ q1)) .nil) (.cons (.lst (SqL.of ((T3.trans T4) _ _ q2)) .nil) (.cons (.lst (SqL.of (T4 _ _ q3)) .nil) .nil))
      have sh1 : SeqAt.shaped (.list [.list (((X 0).map ptRow).map PyData.str), .list (((X 1).map ptRow).map PyData.str), .list (((X 2).map ptRow).map PyData.str)]) = true := by
        refine ShN.sh (n := 2) (.lst fun e he => ?_) (by decide)
        simp only [List.mem_cons, List.not_mem_nil, or_false] at he
        rcases he with rfl | rfl | rfl
        · exact .lst (ShN.strs (Xok 0 (by omega)))
        · exact .lst (ShN.strs (Xok 1 (by omega)))
        · exact .lst (ShN.strs (Xok 2 (by omega)))
      refine ⟨_, _, .lst (SqL.of M4.hL) D1, .lst (SqL.of q4) D2, sh1, by decide +kernel, _, rfl, ?_⟩
      rw [eqv3]
      have ml := M.l
      by_cases em : X 0 = [] ∧ X 1 = [] ∧ X 2 = []
      · obtain ⟨z0, z1, z2⟩ := em
        rw [z0, z1, z2]
        refine iteF ?_
        have de : ∀ j, j < 3 → dn.filter (fk j) = Y.filter (fk j) := fun j hj => by
          rw [← M.e j hj]
          have c : j = 0 ∨ j = 1 ∨ j = 2 := by omega
          rcases c with rfl | rfl | rfl
          · rw [z0, List.append_nil]
          · rw [z1, List.append_nil]
          · rw [z2, List.append_nil]
        refine ⟨_, rfl, k dn F J4 F0 BJ (PJ.mono (by omega)) M4.hF ⟨(de 0 (by omega)).trans Ym, (de 1 (by omega)).trans Yr, (de 2 (by omega)).trans Yb, fun x hx => ?_, by omega⟩⟩
        obtain ⟨j, hj, hf⟩ := fk_some x
        have : x ∈ dn.filter (fk j) := List.mem_filter.mpr ⟨hx, hf⟩
        rw [de j hj] at this
        exact Yok x (List.mem_filter.mp this).1
      · have em2 : ¬ ((X 0).map ptRow = [] ∧ (X 1).map ptRow = [] ∧ (X 2).map ptRow = []) := fun h => em ⟨List.map_eq_nil_iff.mp h.1, List.map_eq_nil_iff.mp h.2.1, List.map_eq_nil_iff.mp h.2.2⟩
        rw [decide_eq_false em2]
        refine iteT ?_
        refine ⟨_, rfl, p, q, r, _, 3, rfl, PJ, by omega, by decide, by decide, fun g1 H5 g0 g3 B5 P5 => ?_⟩
        obtain ⟨g, rfl⟩ : ∃ g : Nat, g1 = (g : Int) := ⟨g1.toNat, by omega⟩
        have M5 := M4.bt A B5
        have B05 := BJ.trans B5
        dsimp only [gName, List.set_cons_succ, List.set_cons_zero]
        refine while_by (fun σ H' => (∃ h : Nat, h < 3 ∧ σ = [some (.ref p), some (.ref l), some (.ref L), u, x, some (.ref F), some (.int (h : Int))]) ∧ Same H5 H') (fun σ _ => mu6 X σ) ⟨⟨g, by omega, rfl⟩, Same.refl _⟩ ?_ ?_
        · rintro σ H6 ⟨⟨h, h3, rfl⟩, S6⟩
          have M6 := M5.same S6
          have hLh : ([.ref (d 0), .ref (d 1), .ref (d 2)] : List V)[h]? = some (.ref (d h)) := by
            have c : h = 0 ∨ h = 1 ∨ h = 2 := by omega
            rcases c with rfl | rfl | rfl <;> rfl
          refine ⟨_, rfl, _, rfl, rdList M6.hL (j := h) (v := .ref (d h)) rfl hLh ?_⟩
          refine ⟨Nat.zero_le _, fun b1 m1 => ?_⟩
          have T5 : Same H6 (upd H6 b1 (.lst [])) := Same.upd m1
          have q5 : (upd H6 b1 (.lst [])) b1 = some (.lst []) := upd_same
          generalize upd H6 b1 (.lst []) = J5 at T5 q5 ⊢
          have S57 := S6.trans T5
          have M7 := M5.same S57
          have P7 := P5.same S57
          have B07 : Bt p q H J5 := B05.trans (Same.bt S57)
          refine ⟨d h, b1, _, rfl, rfl, M7.hd h h3, q5, _, rfl, ?_⟩
          have ee : (rwV (X h)).isEmpty = (X h).isEmpty := by
            unfold rwV
            cases X h <;> rfl
          rw [ee]
          cases eX : X h with
          | nil =>
            refine iteT ?_
            have em3 : (h : Int) + 1 = ((h + 1 : Nat) : Int) := by omega
            refine ⟨_, rfl, _, _, rfl, rfl, _, _, rfl, rfl, (by show (0 : Int) < 3; decide), ⟨⟨(h + 1) % 3, Nat.mod_lt _ (by decide), ?_⟩, S57⟩, ?_⟩
            · dsimp only [gName, List.set_cons_succ, List.set_cons_zero]
              rw [em3]
              rfl
            · have lt := m3_lt h3 eX em
              show m3 X (((h : Int) + 1) % 3).toNat < m3 X (h : Int).toNat
              rw [em3, show (((h + 1 : Nat) : Int) % 3).toNat = (h + 1) % 3 by omega, show ((h : Nat) : Int).toNat = h by omega]
              exact lt
          | cons xh xt =>
            refine iteF ?_
            have hFx := M7.hF
            have hdh := M7.hd h h3
            rw [eX] at hdh
            have nF := A.Fp
            have nd := A.dp h h3
            refine ⟨_, rfl, .inl ⟨rfl, _, SqL.of hFx⟩, _, rfl, _, rfl, rdList M7.hL (j := h) (v := .ref (d h)) rfl hLh ?_⟩
            refine ⟨.inl ⟨rfl, _, SqL.of hdh⟩, d h, _, 0, 0, .str (ptRow xh), rfl, rfl, hdh, by decide, by decide, seq0 (by unfold rwV; rw [List.length_map, List.length_map]; simp), rfl, ?_⟩
            have eE : (rwV (xh :: xt)).eraseIdx 0 = rwV xt := rfl
            rw [eE]
            have hF6 : (upd J5 (d h) (.lst (rwV xt))) F = some (.lst ((rowsL ss ws dn).map V.str)) := by rw [upd_ne nd.2.2.2.symm]; exact hFx
            have eX' : ∀ j, j < 3 → (fun j => if j = h then xt else X j) j = if j = h then xt else X j := fun _ _ => rfl
            have M8 : MgI Y ss ws (upd (upd J5 (d h) (.lst (rwV xt))) F (.lst ((rowsL ss ws dn).map V.str ++ [.str (ptRow xh)]))) L F d (fun j => if j = h then xt else X j) (dn ++ [xh]) := by
              have kx : fk h xh = true := M7.k h h3 xh (by rw [eX]; exact List.mem_cons_self)
              refine ⟨?_, fun j hj => ?_, ?_, fun j hj => ?_, fun j hj x hx => ?_, ?_⟩
              · rw [upd_ne A.LF, upd_ne nd.2.2.1.symm]
                exact M7.hL
              · rw [upd_ne (A.dp j hj).2.2.2]
                by_cases e : j = h
                · rw [if_pos e, e, upd_same]
                · rw [if_neg e, upd_ne (fun q => e (A.dd j h hj h3 q))]
                  exact M7.hd j hj
              · rw [upd_same]
                unfold rowsL
                simp only [List.map_cons, List.map_append, List.cons_append, List.map_nil]
              · rw [List.filter_append]
                have eo := M7.e j hj
                by_cases e : j = h
                · rw [if_pos e]
                  rw [e] at eo ⊢
                  rw [eX] at eo
                  have : [xh].filter (fk h) = [xh] := by simp [List.filter_cons, kx]
                  rw [this, List.append_assoc]
                  exact eo
                · rw [if_neg e]
                  have := fk_one h3 hj (Ne.symm e) kx
                  have : [xh].filter (fk j) = [] := by simp [List.filter_cons, this]
                  rw [this, List.append_nil]
                  exact eo
              · by_cases e : j = h
                · rw [if_pos e] at hx
                  exact M7.k j hj x (by rw [e, eX]; exact List.mem_cons_of_mem _ hx)
                · rw [if_neg e] at hx
                  exact M7.k j hj x hx
              · have ml2 := M7.l
                have c : h = 0 ∨ h = 1 ∨ h = 2 := by omega
                rw [List.length_append]
                rcases c with rfl | rfl | rfl
                · have e1 : (X 0).length = xt.length + 1 := by rw [eX]; rfl
                  simp
                  omega
                · have e1 : (X 1).length = xt.length + 1 := by rw [eX]; rfl
                  simp
                  omega
                · have e1 : (X 2).length = xt.length + 1 := by rw [eX]; rfl
                  simp
                  omega
            have dh0 : H (d h) = none := (hd h h3).1
            have n3 := hP.ne dh0
            have nF3 := hP.ne F0
            refine ⟨F, _, _, rfl, rfl, hF6, ?_, ⟨⟨_, rfl⟩, (B07.new dh0).new F0, _, dn ++ [xh], M8, ?_⟩, ?_⟩
            · rw [List.length_map]
              unfold rowsL
              rw [List.length_cons, List.length_cons, List.length_map]
              exact Nat.lt_of_le_of_lt (show _ ≤ 1000 by omega) (by decide)
            · have PP := (P7.upd (o := .lst (rwV xt)) n3.1 n3.2.1 n3.2.2).upd (o := .lst ((rowsL ss ws dn).map V.str ++ [.str (ptRow xh)])) nF3.1 nF3.2.1 nF3.2.2
              refine PP.mono ?_
              rw [List.length_append]
              show _ ≤ n + (dn.length + 1)
              omega
            · rw [lenAt_of (M8.hd 0 (by omega)), lenAt_of (M8.hd 1 (by omega)), lenAt_of (M8.hd 2 (by omega)), lenAt_of (M.hd 0 (by omega)), lenAt_of (M.hd 1 (by omega)), lenAt_of (M.hd 2 (by omega))]
              have c : h = 0 ∨ h = 1 ∨ h = 2 := by omega
              rcases c with rfl | rfl | rfl
              · have e1 : (X 0).length = xt.length + 1 := by rw [eX]; rfl
                simp
                omega
              · have e1 : (X 1).length = xt.length + 1 := by rw [eX]; rfl
                simp
                omega
              · have e1 : (X 2).length = xt.length + 1 := by rw [eX]; rfl
                simp
                omega
        · intro σ H' Q1 Q2 f h
          obtain ⟨x0, g0, x1, g1, p', xs', i', v', e1, e2, sq', at', w1, g⟩ := h
          refine ⟨x0, g0, x1, g1, p', xs', i', v', e1, e2, sq', at', w1, fun a na => ?_⟩
          obtain ⟨a', b', xs2, ea, eb, ha, hb, kk, ek, q⟩ := g a na
          exact ⟨a', b', xs2, ea, eb, ha, hb, kk, ek, f _ _ q⟩
    · intro σ H' Q1 Q2 f h
      obtain ⟨x0, g0, w1, g⟩ := h
      refine ⟨x0, g0, w1, fun a na => ?_⟩
      obtain ⟨w2, g⟩ := g a na
      refine ⟨w2, fun b nb => ?_⟩
      obtain ⟨w3, g⟩ := g b nb
      refine ⟨w3, fun c nc => ?_⟩
      obtain ⟨w4, g⟩ := g c nc
      refine ⟨w4, fun e ne => ?_⟩
      obtain ⟨d1, d2, p1, p2, s1, s2, u, eu, q⟩ := g e ne
      exact ⟨d1, d2, p1, p2, s1, s2, u, eu, f _ _ q⟩
end
end Wm
namespace Wm
open PySem L2 StX
abbrev psSch : List Str := ["self", "sorts", "words", "makings", "rules", "bars"]
def h1s {α : Type} : List α → List α → List α → List α
  | [x, s, w], [m, _, b], [r] => [x, s, w, m, r, b]
  | _, _, _ => []
def h3s {α : Type} : List α → List α → List α → List α
  | [x, s, w], _, [m, r, b] => [x, s, w, m, r, b]
  | _, _, _ => []
theorem h1s_rel {vs ds zs : List V} {us its ws : List Value} (h1 : Vals vs us) (h2 : Vals ds its) (h3 : Vals zs ws) : Vals (h1s vs ds zs) (h1s us its ws) := by
  rcases h1 with _ | ⟨a1, _ | ⟨a2, _ | ⟨a3, _ | ⟨_, _⟩⟩⟩⟩ <;> try exact .nil
  rcases h2 with _ | ⟨b1, _ | ⟨b2, _ | ⟨b3, _ | ⟨_, _⟩⟩⟩⟩ <;> try exact .nil
  rcases h3 with _ | ⟨c1, _ | ⟨_, _⟩⟩ <;> try exact .nil
  exact .cons a1 (.cons a2 (.cons a3 (.cons b1 (.cons c1 (.cons b3 .nil)))))
theorem h3s_rel {vs ds zs : List V} {us its ws : List Value} (h1 : Vals vs us) (h2 : Vals ds its) (h3 : Vals zs ws) : Vals (h3s vs ds zs) (h3s us its ws) := by
  rcases h1 with _ | ⟨a1, _ | ⟨a2, _ | ⟨a3, _ | ⟨_, _⟩⟩⟩⟩ <;> try exact .nil
  rcases h3 with _ | ⟨c1, _ | ⟨c2, _ | ⟨c3, _ | ⟨_, _⟩⟩⟩⟩ <;> try exact .nil
  exact .cons a1 (.cons a2 (.cons a3 (.cons c1 (.cons c2 (.cons c3 .nil)))))
/-- what is asked of the making of schemes -/
structure MkS (P : Program) (w : World) (K : PySem.W.Frag) (mg : Str → Option Value) (base : Heap) (S Rl Br Mk fS : Addr) (dS : FuncData) : Prop where
  TC : TxSch K mg S fS
  GS : FnOk P w K mg base CX0 4 fS dS psSch (spSch K S Mk Rl Br)
  bS5 : Binds K dS psSch []
  bS2 : Binds K dS psSch [.none, .none, .none]
  kS1 : ∃ its : List Value, KBn K dS psSch 3 ["rules"] (fun us ws => h1s us its ws) (fun vs zs => h1s vs [.non, .non, .non] zs)
  kS3 : ∃ its : List Value, KBn K dS psSch 3 ["makings", "rules", "bars"] (fun us ws => h3s us its ws) (fun vs zs => h3s vs [.non, .non, .non] zs)
def spMa (K : PySem.W.Frag) (S Rl Br Mk : Addr) : Sp := fun vs H Q _ => ∃ (t : Addr) (ok : Addr → Prop) (ss ws : List Str) (ms : List MkD) (rs : List RlD) (ps : List PtD), vs = [.ref t] ∧ ScD K ok H t ss ws ms rs ps ∧ SchK ss ws ms rs ps ∧ ∀ x H', H x = none → Same H H' → SchQ K S Rl Br Mk H H' x ss ws ms rs ps → Q (.ref x) H'
theorem emp_of {as : List Addr} {xs : List Pt} {R : Addr → Pt → Prop} (h : AllAt R as xs) : (as.map V.ref).isEmpty = xs.isEmpty := by
  have := h.len
  cases as <;> cases xs <;> first | rfl | (simp at this)
section
variable {P : Program} {w : World} {K : PySem.W.Frag} {mg : Str → Option Value} {base : Heap}
theorem scMa : FnScope ["_law_scheme_here", "_law_sorts", "_law_words", "_law_makers_here", "_law_lends_here", "_law_stops", "_law_rule_list", "_law_one", "_law_making_list", "_law_maker", "_law_made_here", "_law_down", "_law_up", "_law_bar_list"] ["_law_scheme_here"] (defScope sMa) := ⟨rfl, rfl, rfl, by decide +kernel, rfl, by decide +kernel, by decide +kernel⟩
theorem ok_ma {f C S Rl Br Mk fR fB fMk fS : Addr} {fd dR dB dMk dS : FuncData} (F : Fun K "_law_made" "_law_made" sMa f fd) (M : Mkr P w K mg base C Rl Br Mk fR fB fMk dR dB dMk) (Z : MkS P w K mg base S Rl Br Mk fS dS) : FnOk P w K mg base CX0 8 f fd ["_law_scheme_here"] (spMa K S Rl Br Mk) := by
  obtain ⟨TR, bR, GR, TB, bB, GB, TM, bM, GM⟩ := M
  obtain ⟨TC, GS, bS5, bS2, ⟨i1, kS1⟩, ⟨i3, kS3⟩⟩ := Z
  refine F.ok scMa (fun vs H Q E h => ?_) (fun cdv A outer s H vs Q E hr h => ?_)
  · obtain ⟨t, ok, ss, ws, ms, rs, ps, rfl, _⟩ := h
    rfl
  · obtain ⟨t, ok, ss, ws, ms, rs, ps, rfl, ⟨l1, l2, l3, l4, l5, as, bs, cs, o, a0, a1, a2, a3, a4, a5, b1, b2, b3⟩, sk, k⟩ := h
    have hr7 : Room 7 _ := hr
    have hr6 : Room 6 _ := hr.mono (by decide)
    have hr5 : Room 5 _ := hr.mono (by decide)
    have pok : ∀ p, ((∃ m, m ∈ ms ∧ mkPt m = p) ∨ (∃ m, m ∈ rs ∧ rlPt m = p) ∨ (∃ m, m ∈ ps ∧ brPt m = p)) → PtOk p := fun p h => by
      refine sk.pt p ?_
      unfold allPt
      rcases h with ⟨m, hm, rfl⟩ | ⟨m, hm, rfl⟩ | ⟨m, hm, rfl⟩
      · exact List.mem_append_left _ (List.mem_map.mpr ⟨m, hm, rfl⟩)
      · exact List.mem_append_right _ (List.mem_append_left _ (List.mem_map.mpr ⟨m, hm, rfl⟩))
      · exact List.mem_append_right _ (List.mem_append_right _ (List.mem_map.mpr ⟨m, hm, rfl⟩))
    have m20 := sk.m9
    have r8 := sk.ok.r8
    have p4 := sk.ok.b4
    refine ⟨_, (pss_cons (ps_asg (pv 0) (pg_tup rfl (pgs_cons (pg_name (i := 1) scMa.nd rfl (Or.inl rfl)) (pgs_cons (pg_name (i := 2) scMa.nd rfl (Or.inl rfl)) (pgs_cons (pg_name (i := 3) scMa.nd rfl (Or.inl rfl)) (pgs_cons (pg_name (i := 4) scMa.nd rfl (Or.inl rfl)) (pgs_cons (pg_name (i := 5) scMa.nd rfl (Or.inl rfl)) pgs_nil)))))))
      (pss_cons (ps_if (PW.pt (pw_and (pt_cmpR (op_eqE (u1 hr)) (pv 3) (pe_lst pa_nil) (nomark _)) (pw_and (pt_cmpR (op_eqE (u1 hr)) (pv 4) (pe_lst pa_nil) (nomark _)) (pw_and1 (pt_cmpR (op_eqE (u1 hr)) (pv 5) (pe_lst pa_nil) (nomark _)))))) (pss_one (ps_ret (pe_make (dvs := [.non, .non, .non]) TC.m GS hr5 rfl TC.g bS2 (.cons rfl (.cons rfl (.cons rfl .nil))) pass0 (pa_cons (pv 1) (pa_cons (pv 2) pa_nil))))) pss_nil)
      (pss_cons (ps_setLc (i := 6) (own := [("_law_one", 7)]) (g := gName 7) (tt := tYes) (te := (tMake Rl (spRul K C Rl) [] E0 (tCons (tOp (rIxT K) (tVar 7) (tC (.int 0))) (tCons (tOp (rIxT K) (tVar 7) (tC (.int 1))) (tCons (tOp (rIxT K) (tVar 7) (tC (.int 2))) (tCons (tOp (rIxT K) (tVar 7) (tC (.int 3))) (tCons (tOp (rIxT K) (tVar 7) (tC (.int 4))) tNil))))))) rfl scMa.nd rfl rfl (sw_true rfl rfl rfl (by decide +kernel)) (pi_list (pv 4)) (blkOk_by (N := ["_law_scheme_here", "_law_sorts", "_law_words", "_law_makers_here", "_law_lends_here", "_law_stops", "_law_rule_list", "_law_one", "_law_making_list", "_law_maker", "_law_made_here", "_law_down", "_law_up", "_law_bar_list"]) (sc := defScope sMa) (by decide +kernel)) (fun _ _ _ _ _ => (pg_name (i := 7) scMa.nd rfl (Or.inl rfl))) (fun _ _ _ _ _ => pts_nil) (fun _ _ _ _ _ => (pe_make TR.m GR hr7 rfl TR.g bR .nil passL (pa_cons (pe_ix ix_tup (pv 7) pe_int (fun _ _ => rfl)) (pa_cons (pe_ix ix_tup (pv 7) pe_int (fun _ _ => rfl)) (pa_cons (pe_ix ix_tup (pv 7) pe_int (fun _ _ => rfl)) (pa_cons (pe_ix ix_tup (pv 7) pe_int (fun _ _ => rfl)) (pa_cons (pe_ix ix_tup (pv 7) pe_int (fun _ _ => rfl)) pa_nil))))))))
      (pss_cons (ps_if (PW.pt (pw_and (pt_cmpR (op_eqE (u1 hr)) (pv 3) (pe_lst pa_nil) (nomark _)) (pw_and1 (pt_cmpR (op_eqE (u1 hr)) (pv 5) (pe_lst pa_nil) (nomark _))))) (pss_one (ps_ret (pe_makeK TC.m GS hr5 rfl TC.g kS1 pass0 (pa_cons (pv 1) (pa_cons (pv 2) pa_nil)) (pk_cons (pv 6) pk_nil)))) pss_nil)
      (pss_cons (ps_setLc (i := 8) (own := [("_law_maker", 9), ("_law_made_here", 10), ("_law_down", 11), ("_law_up", 12)]) (g := gTup K 4 (gCons (gName 9) (gCons (gName 10) (gCons (gName 11) (gCons (gName 12) gNil))))) (tt := tYes) (te := (tMake Mk (spMak K C Mk) [] E0 (tCons (tVar 9) (tCons (tVar 10) (tCons (tVar 11) (tCons (tVar 12) tNil)))))) rfl scMa.nd rfl rfl (sw_true rfl rfl rfl (by decide +kernel)) (pi_list (pv 3)) (blkOk_by (N := ["_law_scheme_here", "_law_sorts", "_law_words", "_law_makers_here", "_law_lends_here", "_law_stops", "_law_rule_list", "_law_one", "_law_making_list", "_law_maker", "_law_made_here", "_law_down", "_law_up", "_law_bar_list"]) (sc := defScope sMa) (by decide +kernel)) (fun _ _ _ _ _ => (pg_tup rfl (pgs_cons (pg_name (i := 9) scMa.nd rfl (Or.inl rfl)) (pgs_cons (pg_name (i := 10) scMa.nd rfl (Or.inl rfl)) (pgs_cons (pg_name (i := 11) scMa.nd rfl (Or.inl rfl)) (pgs_cons (pg_name (i := 12) scMa.nd rfl (Or.inl rfl)) pgs_nil)))))) (fun _ _ _ _ _ => pts_nil) (fun _ _ _ _ _ => (pe_make TM.m GM hr6 rfl TM.g bM .nil passL (pa_cons (pv 9) (pa_cons (pv 10) (pa_cons (pv 11) (pa_cons (pv 12) pa_nil)))))))
      (pss_cons (ps_setLc (i := 13) (own := [("_law_one", 7)]) (g := gName 7) (tt := tYes) (te := (tMake Br (spBar K C Br) [] E0 (tCons (tOp (rIxT K) (tVar 7) (tC (.int 0))) (tCons (tOp (rIxT K) (tVar 7) (tC (.int 1))) (tCons (tOp (rIxT K) (tVar 7) (tC (.int 2))) tNil))))) rfl scMa.nd rfl rfl (sw_true rfl rfl rfl (by decide +kernel)) (pi_list (pv 5)) (blkOk_by (N := ["_law_scheme_here", "_law_sorts", "_law_words", "_law_makers_here", "_law_lends_here", "_law_stops", "_law_rule_list", "_law_one", "_law_making_list", "_law_maker", "_law_made_here", "_law_down", "_law_up", "_law_bar_list"]) (sc := defScope sMa) (by decide +kernel)) (fun _ _ _ _ _ => (pg_name (i := 7) scMa.nd rfl (Or.inl rfl))) (fun _ _ _ _ _ => pts_nil) (fun _ _ _ _ _ => (pe_make TB.m GB hr7 rfl TB.g bB .nil passL (pa_cons (pe_ix ix_tup (pv 7) pe_int (fun _ _ => rfl)) (pa_cons (pe_ix ix_tup (pv 7) pe_int (fun _ _ => rfl)) (pa_cons (pe_ix ix_tup (pv 7) pe_int (fun _ _ => rfl)) pa_nil))))))
      (pss_one (ps_ret (pe_makeK TC.m GS hr5 rfl TC.g kS3 pass0 (pa_cons (pv 1) (pa_cons (pv 2) pa_nil)) (pk_cons (pv 8) (pk_cons (pv 6) (pk_cons (pv 13) pk_nil)))))))))))), ?_⟩
    rw [show L2.start ["_law_scheme_here", "_law_sorts", "_law_words", "_law_makers_here", "_law_lends_here", "_law_stops", "_law_rule_list", "_law_one", "_law_making_list", "_law_maker", "_law_made_here", "_law_down", "_law_up", "_law_bar_list"] [.ref t] = [some (.ref t), none, none, none, none, none, none, none, none, none, none, none, none, none] from rfl]
    refine ⟨_, rfl, t, _, rfl, SqT.of a0, rfl, _, _, rfl, _, _, rfl, _, _, rfl, _, _, rfl, _, _, rfl, rfl, ?_⟩
    dsimp only [gName, List.set_cons_succ, List.set_cons_zero]
    refine cut1 (fun σ' H' => σ' = [some (.ref t), some (.ref l1), some (.ref l2), some (.ref l3), some (.ref l4), some (.ref l5), none, none, none, none, none, none, none, none] ∧ Same H H') ?_ (fun R' fin => ?_)
    rotate_left
    · refine ⟨_, rfl, Nat.zero_le _, fun e1 n1 => ?_⟩
      have S1 : Same H (upd H e1 (.lst [])) := Same.upd n1
      have q1 : (upd H e1 (.lst [])) e1 = some (.lst []) := upd_same
      generalize upd H e1 (.lst []) = H1 at S1 q1
      refine ⟨l3, e1, _, rfl, rfl, S1 _ _ a3, q1, _, rfl, ?_⟩
      rw [emp_of b1]
      refine ite2 (fun c1 => ?_) (fun _ => fin _ _ ⟨rfl, S1⟩)
      refine ⟨_, rfl, Nat.zero_le _, fun e2 n2 => ?_⟩
      have S2 : Same H1 (upd H1 e2 (.lst [])) := Same.upd n2
      have q2 : (upd H1 e2 (.lst [])) e2 = some (.lst []) := upd_same
      generalize upd H1 e2 (.lst []) = H2 at S2 q2
      have S02 := S1.trans S2
      refine ⟨l4, e2, _, rfl, rfl, S02 _ _ a4, q2, _, rfl, ?_⟩
      rw [emp_of b2]
      refine ite2 (fun c2 => ?_) (fun _ => fin _ _ ⟨rfl, S02⟩)
      refine ⟨_, rfl, Nat.zero_le _, fun e3 n3 => ?_⟩
      have S3 : Same H2 (upd H2 e3 (.lst [])) := Same.upd n3
      have q3 : (upd H2 e3 (.lst [])) e3 = some (.lst []) := upd_same
      generalize upd H2 e3 (.lst []) = H3 at S3 q3
      have S03 := S02.trans S3
      refine ⟨l5, e3, _, rfl, rfl, S03 _ _ a5, q3, _, rfl, ?_⟩
      rw [emp_of b3]
      refine ite2 (fun c3 => ?_) (fun _ => fin _ _ ⟨rfl, S03⟩)
      have m0 : ms = [] := List.map_eq_nil_iff.mp (List.isEmpty_iff.mp c1)
      have r0 : rs = [] := List.map_eq_nil_iff.mp (List.isEmpty_iff.mp c2)
      have p0 : ps = [] := List.map_eq_nil_iff.mp (List.isEmpty_iff.mp c3)
      subst m0 r0 p0
      refine ⟨_, rfl, _, rfl, fun x dx nx ndx ne => ?_⟩
      refine ⟨H3, x, dx, l1, l2, _, _, _, ss, ws, [], [], [], [], [], [], rfl, same_make nx ndx, nx, upd_same, SqL.of (S03 _ _ a1), SqL.of (S03 _ _ a2), .inl ⟨rfl, rfl⟩, .inl ⟨rfl, rfl⟩, .inl ⟨rfl, rfl⟩, ⟨True.intro, True.intro, True.intro⟩, sk.ok, fun H' S' sf => ⟨rfl, ?_⟩⟩
      refine k x H' (S03.free nx) (S03.trans S') ⟨[], [], [], ?_, True.intro, True.intro, True.intro⟩
      obtain ⟨dx', m1, m2, m3, m4, m5, ⟨z1, z2, z3, z4, z5⟩, g⟩ := sf
      exact ⟨dx', m1, m2, m3, m4, m5, ⟨S03.free z1, S03.free z2, S03.free z3, S03.free z4, S03.free z5⟩, g⟩
    rintro σ' Ha ⟨rfl, S0a⟩
    have h4 := S0a _ _ a4
    have ab := dr_same S0a b2
    have lx1 := ab.len
    rw [List.length_map] at lx1
    refine ⟨_, rfl, l4, rfl, ⟨_, SqL.of h4⟩, fun D1 hD1 => ?_⟩
    refine lc_list (K := K) (a := l4) (xs := bs.map V.ref) (fun j H' => Same Ha H' ∧ ∃ xs : List Addr, H' D1 = some (.lst (xs.map V.ref)) ∧ AllAt (PtAt K Rl Br Mk H') xs ((rs.map rlPt).take j)) ⟨Same.upd hD1, [], upd_same, True.intro⟩ (fun j H' _ pp => SqL.of (pp.1 _ _ h4)) ?_ ?_
    · rintro j y H8 hj ⟨T8, xs, hD8, ax⟩
      obtain ⟨a, y', rfl, hy, dn⟩ := ab.get hj
      have hy2 := hy
      rw [List.getElem?_map] at hy2
      obtain ⟨m, hm, rfl⟩ := Option.map_eq_some_iff.mp hy2
      have il : j < rs.length := (List.getElem?_eq_some_iff.mp hm).1
      have lxx := ax.len
      rw [List.length_take, List.length_map] at lxx
      obtain ⟨lv, lc, tg, us, vs, a1, a2, a3, a4, a5, a6⟩ := (dn.same T8).at
      refine ⟨rfl, _, rfl, a, _, 0, .str m.p.nm, rfl, rfl, SqT.of a1, atI_nat (j := 0) rfl, ?_⟩
      refine ⟨_, rfl, a, _, 1, .ref lv, rfl, rfl, SqT.of a1, atI_nat (j := 1) rfl, ?_⟩
      refine ⟨_, rfl, a, _, 2, .ref lc, rfl, rfl, SqT.of a1, atI_nat (j := 2) rfl, ?_⟩
      refine ⟨_, rfl, a, _, 3, .ref tg, rfl, rfl, SqT.of a1, atI_nat (j := 3) rfl, ?_⟩
      refine ⟨_, rfl, a, _, 4, .str m.bh, rfl, rfl, SqT.of a1, atI_nat (j := 4) rfl, rl_new (Br := Br) (Mk := Mk) (pok _ (.inr (.inl ⟨m, List.mem_of_getElem? hm, rfl⟩))) a3 a4 a5 a6 a2 fun x H9 nx S9 px => ?_⟩
      have hD9 := S9 _ _ hD8
      refine ⟨_, hD9, ?_, fun b o e => ?_, xs ++ [x], ?_, ?_⟩
      · rw [List.length_map]
        exact Nat.lt_of_le_of_lt (show _ ≤ 1000 by omega) (by decide)
      · rw [upd_ne (ne_of_none e hD1)]
        exact (T8.trans S9) _ _ e
      · rw [upd_same, List.map_append]
        rfl
      · rw [List.take_add_one, hy]
        exact AllAt.append (ax.imp fun a x h => PtAt.put hD9 (PtAt.same S9 h)) ⟨PtAt.put hD9 px, True.intro⟩
    rintro Hb ⟨Tb, us1, e1, ax1⟩
    rw [List.length_map, lx1, show rs.length = (rs.map rlPt).length from (List.length_map ..).symm, List.take_length] at ax1
    dsimp only [gName, List.set_cons_succ, List.set_cons_zero]

    have S0b := S0a.trans Tb
    refine cut1 (fun σ' H' => σ' = [some (.ref t), some (.ref l1), some (.ref l2), some (.ref l3), some (.ref l4), some (.ref l5), some (.ref D1), none, none, none, none, none, none, none] ∧ Same Hb H') ?_ (fun R' fin => ?_)
    rotate_left
    · refine ⟨_, rfl, Nat.zero_le _, fun e1' n1 => ?_⟩
      have S1 : Same Hb (upd Hb e1' (.lst [])) := Same.upd n1
      have q1 : (upd Hb e1' (.lst [])) e1' = some (.lst []) := upd_same
      generalize upd Hb e1' (.lst []) = H1 at S1 q1
      refine ⟨l3, e1', _, rfl, rfl, (S0b.trans S1) _ _ a3, q1, _, rfl, ?_⟩
      rw [emp_of b1]
      refine ite2 (fun c1 => ?_) (fun _ => fin _ _ ⟨rfl, S1⟩)
      refine ⟨_, rfl, Nat.zero_le _, fun e3 n3 => ?_⟩
      have S3 : Same H1 (upd H1 e3 (.lst [])) := Same.upd n3
      have q3 : (upd H1 e3 (.lst [])) e3 = some (.lst []) := upd_same
      generalize upd H1 e3 (.lst []) = H3 at S3 q3
      have Sb3 := S1.trans S3
      have S03 := S0b.trans Sb3
      refine ⟨l5, e3, _, rfl, rfl, S03 _ _ a5, q3, _, rfl, ?_⟩
      rw [emp_of b3]
      refine ite2 (fun c3 => ?_) (fun _ => fin _ _ ⟨rfl, Sb3⟩)
      have m0 : ms = [] := List.map_eq_nil_iff.mp (List.isEmpty_iff.mp c1)
      have p0 : ps = [] := List.map_eq_nil_iff.mp (List.isEmpty_iff.mp c3)
      subst m0 p0
      have ax3 := all_same Sb3 ax1
      refine ⟨_, rfl, _, rfl, _, rfl, rfl, rfl, fun x dx nx ndx ne => ?_⟩
      refine ⟨H3, x, dx, l1, l2, _, _, _, ss, ws, [], us1, [], [], rs, [], rfl, same_make nx ndx, nx, upd_same, SqL.of (S03 _ _ a1), SqL.of (S03 _ _ a2), .inl ⟨rfl, rfl⟩, .inr ⟨D1, rfl, SqL.of (Sb3 _ _ e1)⟩, .inl ⟨rfl, rfl⟩, ⟨True.intro, all_rl ax3, True.intro⟩, sk.ok, fun H' S' sf => ⟨rfl, ?_⟩⟩
      refine k x H' (S03.free nx) (S03.trans S') ⟨[], us1, [], ?_, True.intro, all_same S' ax3, True.intro⟩
      obtain ⟨dx', m1, m2, m3, m4, m5, ⟨z1, z2, z3, z4, z5⟩, g⟩ := sf
      exact ⟨dx', m1, m2, m3, m4, m5, ⟨S03.free z1, S03.free z2, S03.free z3, S03.free z4, S03.free z5⟩, g⟩
    rintro σ' Hc ⟨rfl, Sbc⟩
    have S0c := S0b.trans Sbc
    have h3 := S0c _ _ a3
    have aa := dr_same S0c b1
    have lx2 := aa.len
    rw [List.length_map] at lx2
    refine ⟨_, rfl, l3, rfl, ⟨_, SqL.of h3⟩, fun D2 hD2 => ?_⟩
    refine lc_list (K := K) (a := l3) (xs := as.map V.ref) (fun j H' => Same Hc H' ∧ ∃ xs : List Addr, H' D2 = some (.lst (xs.map V.ref)) ∧ AllAt (PtAt K Rl Br Mk H') xs ((ms.map mkPt).take j)) ⟨Same.upd hD2, [], upd_same, True.intro⟩ (fun j H' _ pp => SqL.of (pp.1 _ _ h3)) ?_ ?_
    · rintro j y H8 hj ⟨T8, xs, hD8, ax⟩
      obtain ⟨a, y', rfl, hy, dn⟩ := aa.get hj
      have hy2 := hy
      rw [List.getElem?_map] at hy2
      obtain ⟨m, hm, rfl⟩ := Option.map_eq_some_iff.mp hy2
      have il : j < ms.length := (List.getElem?_eq_some_iff.mp hm).1
      have lxx := ax.len
      rw [List.length_take, List.length_map] at lxx
      obtain ⟨ld, lu, a1, a2, a3⟩ := (dn.same T8).at
      refine ⟨a, _, rfl, SqT.of a1, rfl, _, _, rfl, _, _, rfl, _, _, rfl, _, _, rfl, rfl, rfl, ?_⟩
      refine ⟨_, rfl, _, rfl, _, rfl, _, rfl, mk_new (Rl := Rl) (Br := Br) (pok _ (.inl ⟨m, List.mem_of_getElem? hm, rfl⟩)) a2 a3 fun x H9 nx S9 px => ?_⟩
      have hD9 := S9 _ _ hD8
      refine ⟨_, hD9, ?_, fun b o e => ?_, xs ++ [x], ?_, ?_⟩
      · rw [List.length_map]
        exact Nat.lt_of_le_of_lt (show _ ≤ 1000 by omega) (by decide)
      · rw [upd_ne (ne_of_none e hD2)]
        exact (T8.trans S9) _ _ e
      · rw [upd_same, List.map_append]
        rfl
      · rw [List.take_add_one, hy]
        exact AllAt.append (ax.imp fun a x h => PtAt.put hD9 (PtAt.same S9 h)) ⟨PtAt.put hD9 px, True.intro⟩
    rintro Hd ⟨Td, us2, e2, ax2⟩
    rw [List.length_map, lx2, show ms.length = (ms.map mkPt).length from (List.length_map ..).symm, List.take_length] at ax2
    dsimp only [gName, List.set_cons_succ, List.set_cons_zero]

    have S0d := S0c.trans Td
    have h5 := S0d _ _ a5
    have ac := dr_same S0d b3
    have lx3 := ac.len
    rw [List.length_map] at lx3
    refine ⟨_, rfl, l5, rfl, ⟨_, SqL.of h5⟩, fun D3 hD3 => ?_⟩
    refine lc_list (K := K) (a := l5) (xs := cs.map V.ref) (fun j H' => Same Hd H' ∧ ∃ xs : List Addr, H' D3 = some (.lst (xs.map V.ref)) ∧ AllAt (PtAt K Rl Br Mk H') xs ((ps.map brPt).take j)) ⟨Same.upd hD3, [], upd_same, True.intro⟩ (fun j H' _ pp => SqL.of (pp.1 _ _ h5)) ?_ ?_
    · rintro j y H8 hj ⟨T8, xs, hD8, ax⟩
      obtain ⟨a, y', rfl, hy, dn⟩ := ac.get hj
      have hy2 := hy
      rw [List.getElem?_map] at hy2
      obtain ⟨m, hm, rfl⟩ := Option.map_eq_some_iff.mp hy2
      have il : j < ps.length := (List.getElem?_eq_some_iff.mp hm).1
      have lxx := ax.len
      rw [List.length_take, List.length_map] at lxx
      obtain ⟨lv, lc, us, vs, a1, a3, a4, a5, a6⟩ := (dn.same T8).at
      refine ⟨rfl, _, rfl, a, _, 0, .str m.nm, rfl, rfl, SqT.of a1, atI_nat (j := 0) rfl, ?_⟩
      refine ⟨_, rfl, a, _, 1, .ref lv, rfl, rfl, SqT.of a1, atI_nat (j := 1) rfl, ?_⟩
      refine ⟨_, rfl, a, _, 2, .ref lc, rfl, rfl, SqT.of a1, atI_nat (j := 2) rfl, br_new (Rl := Rl) (Mk := Mk) (pok _ (.inr (.inr ⟨m, List.mem_of_getElem? hm, rfl⟩))) a3 a4 a5 a6 fun x H9 nx S9 px => ?_⟩
      have hD9 := S9 _ _ hD8
      refine ⟨_, hD9, ?_, fun b o e => ?_, xs ++ [x], ?_, ?_⟩
      · rw [List.length_map]
        exact Nat.lt_of_le_of_lt (show _ ≤ 1000 by omega) (by decide)
      · rw [upd_ne (ne_of_none e hD3)]
        exact (T8.trans S9) _ _ e
      · rw [upd_same, List.map_append]
        rfl
      · rw [List.take_add_one, hy]
        exact AllAt.append (ax.imp fun a x h => PtAt.put hD9 (PtAt.same S9 h)) ⟨PtAt.put hD9 px, True.intro⟩
    rintro He ⟨Te, us3, e3, ax3⟩
    rw [List.length_map, lx3, show ps.length = (ps.map brPt).length from (List.length_map ..).symm, List.take_length] at ax3
    dsimp only [gName, List.set_cons_succ, List.set_cons_zero]

    have S0e := S0d.trans Te
    have ax1e := all_same (Sbc.trans (Td.trans Te)) ax1
    have ax2e := all_same Te ax2
    refine ⟨_, rfl, _, rfl, _, rfl, _, rfl, _, rfl, rfl, rfl, fun x dx nx ndx ne => ?_⟩
    refine ⟨He, x, dx, l1, l2, _, _, _, ss, ws, us2, us1, us3, ms, rs, ps, rfl, same_make nx ndx, nx, upd_same, SqL.of (S0e _ _ a1), SqL.of (S0e _ _ a2), .inr ⟨D2, rfl, SqL.of (Te _ _ e2)⟩, .inr ⟨D1, rfl, SqL.of ((Sbc.trans (Td.trans Te)) _ _ e1)⟩, .inr ⟨D3, rfl, SqL.of e3⟩, ⟨all_mk ax2e, all_rl ax1e, all_br ax3⟩, sk.ok, fun H' S' sf => ⟨rfl, ?_⟩⟩
    refine k x H' (S0e.free nx) (S0e.trans S') ⟨us2, us1, us3, ?_, all_same S' ax2e, all_same S' ax1e, all_same S' ax3⟩
    obtain ⟨dx', m1, m2, m3, m4, m5, ⟨z1, z2, z3, z4, z5⟩, g⟩ := sf
    exact ⟨dx', m1, m2, m3, m4, m5, ⟨S0e.free z1, S0e.free z2, S0e.free z3, S0e.free z4, S0e.free z5⟩, g⟩
end
end Wm
namespace Wm
open PySem L2 StX
section
variable {K : PySem.W.Frag} {Rl Br Mk : Addr} {H : Hp} {Q : VK} {E : XK} {x y : Addr}
theorem sp_rl {nm b : Str} {vars : List Var} {cs : List Tri} {g : Tri} (ty : TyX K H (.ref y) (.ref Rl)) (po : PtOk (.rl nm vars cs g b)) (hx : PtAt K Rl Br Mk H x (.rl nm vars cs g b)) (hy : PtAt K Rl Br Mk H y (.rl nm vars cs g b)) (k : Q (.bl true) H) : spRE K Rl [.ref x, .ref y] H Q E := by
  obtain ⟨dx, t1, t2, t3, ps, qs, a1, a2, a3, a4, a5, a6⟩ := hx
  obtain ⟨dy, s1, s2, s3, us, vs, b1, b2, b3, b4, b5, b6⟩ := hy
  obtain ⟨sh, shg, _⟩ := pat_sh po.1 po.2
  have rx := rows_d sh a2 a3 a4 a5
  have ry := rows_d sh b2 b3 b4 b5
  have sg : SeqAt.shaped (.tuple (triD g)) = true := (tri_shn (shg g (by simp))).sh (by decide)
  refine ⟨x, y, rfl, .inl ⟨dx, dy, t1, t2, t3, s1, s2, s3, nm, nm, b, b, vars, vars, cs, cs, g, g, a1, b1, ty, rx, ry, a6, b6, sg, sg, ?_⟩⟩
  unfold sameR
  rw [eqv_self rx.s1, eqv_self rx.s2, eqv_self sg, decide_eq_true rfl, decide_eq_true rfl]
  exact k
theorem sp_br {nm : Str} {vars : List Var} {cs : List Tri} (ty : TyX K H (.ref y) (.ref Br)) (po : PtOk (.br nm vars cs)) (hx : PtAt K Rl Br Mk H x (.br nm vars cs)) (hy : PtAt K Rl Br Mk H y (.br nm vars cs)) (k : Q (.bl true) H) : spBE K Br [.ref x, .ref y] H Q E := by
  obtain ⟨dx, t1, t2, ps, qs, a1, a2, a3, a4, a5⟩ := hx
  obtain ⟨dy, s1, s2, us, vs, b1, b2, b3, b4, b5⟩ := hy
  obtain ⟨sh, _, _⟩ := pat_sh (gs := []) po.1 (by rw [List.append_nil]; exact po.2)
  have rx := rows_d sh a2 a3 a4 a5
  have ry := rows_d sh b2 b3 b4 b5
  refine ⟨x, y, rfl, .inl ⟨dx, dy, t1, t2, s1, s2, nm, nm, vars, vars, cs, cs, a1, b1, ty, rx, ry, ?_⟩⟩
  unfold sameB
  rw [eqv_self rx.s1, eqv_self rx.s2, decide_eq_true rfl]
  exact k
theorem sp_mk {mr md : Str} {ds us : List Str} (ty : TyX K H (.ref y) (.ref Mk)) (po : PtOk (.mk mr md ds us)) (hx : PtAt K Rl Br Mk H x (.mk mr md ds us)) (hy : PtAt K Rl Br Mk H y (.mk mr md ds us)) (k : Q (.bl true) H) : spME K Mk [.ref x, .ref y] H Q E := by
  obtain ⟨dx, t1, t2, a1, a2, a3⟩ := hx
  obtain ⟨dy, s1, s2, b1, b2, b3⟩ := hy
  obtain ⟨_, _, _, _, hn⟩ := po
  have o1 : ∀ z ∈ ds, okS z := fun z m => (hn z (by simp [m])).1.ok
  have o2 : ∀ z ∈ us, okS z := fun z m => (hn z (by simp [m])).1.ok
  refine ⟨x, y, mr, md, ds, us, rfl, ⟨⟨dx, t1, t2, a1, a2, a3⟩, o1, o2⟩, .inl ⟨mr, md, ds, us, ty, ⟨⟨dy, s1, s2, b1, b2, b3⟩, o1, o2⟩, ?_⟩⟩
  unfold sameM
  have e : ∀ zs : List Str, eqS zs zs = true := fun zs => (eqvAll_strs zs zs).trans (decide_eq_true rfl)
  rw [e, e, decide_eq_true rfl, decide_eq_true rfl]
  exact k
end
structure Ne7 (K : PySem.W.Frag) (Rl Br fRE fBE : Addr) : Prop where
  nR : EqNe K Rl fRE
  nB : EqNe K Br fBE
section
variable {X : Cx} {Rl Br Mk fRS fBS fMS fRE fBE fME : Addr} {dRS dBS dMS dRE dBE dME : FuncData} {H : Hp} {x y : Addr}
theorem eqU_pt (W : Wst X.prog X.w X.K X.mg X.base Rl Br Mk fRS fBS fMS fRE fBE fME dRS dBS dMS dRE dBE dME) (hr : Room 1 X.A.in1) {p : Pt} (po : PtOk p) (hx : PtAt X.K Rl Br Mk H x p) (hy : PtAt X.K Rl Br Mk H y p) : EqU X X.A.in1 x y H := by
  cases p with
  | rl nm vars cs g b =>
    obtain ⟨dx, t1, t2, t3, ps, qs, a1, _⟩ := id hx
    obtain ⟨dy, s1, s2, s3, us, vs, b1, _⟩ := id hy
    exact eqU_of W.eR W.jR W.GRE hr W.bRE a1 b1 W.nRR (sp_rl (W.tyR b1) po hx hy ⟨rfl, fun _ _ z => z⟩)
  | br nm vars cs =>
    obtain ⟨dx, t1, t2, ps, qs, a1, _⟩ := id hx
    obtain ⟨dy, s1, s2, us, vs, b1, _⟩ := id hy
    exact eqU_of W.eB W.jB W.GBE hr W.bBE a1 b1 W.nBB (sp_br (W.tyB b1) po hx hy ⟨rfl, fun _ _ z => z⟩)
  | mk mr md ds us' =>
    obtain ⟨dx, t1, t2, a1, _⟩ := id hx
    obtain ⟨dy, s1, s2, b1, _⟩ := id hy
    exact eqU_of W.eM W.jM W.GME hr W.bME a1 b1 W.nMM (sp_mk (W.tyM b1) po hx hy ⟨rfl, fun _ _ z => z⟩)
/-- two lists of the same parts -/
theorem neU_q {k0 : Nat} (W : Wst X.prog X.w X.K X.mg X.base Rl Br Mk fRS fBS fMS fRE fBE fME dRS dBS dMS dRE dBE dME) (hr : Room 1 X.A.in1) {l1 l2 : Addr} {as bs : List Addr} {xs : List Pt} {R : VK} (h1 : H l1 = some (.lst (as.map V.ref))) (h2 : H l2 = some (.lst (bs.map V.ref))) (a1 : AllAt (PtAt X.K Rl Br Mk H) as xs) (a2 : AllAt (PtAt X.K Rl Br Mk H) bs xs) (po : ∀ p ∈ xs, PtOk p) (k : ∀ H', Same H H' → R (.bl false) H') : rLU X k0 false (.ref l1) (.ref l2) H R := by
  refine ⟨l1, l2, as, bs, rfl, rfl, h1, h2, a1.len.trans a2.len.symm, fun j p p2 H' hp hp2 kp => ?_, fun H' kp => k H' kp⟩
  by_cases e : p = p2
  · exact .inl e
  · obtain ⟨_, z, e1, hz, g1⟩ := (all_same kp a1).get (show (as.map V.ref)[j]? = some (.ref p) by rw [List.getElem?_map, hp]; rfl)
    cases e1
    obtain ⟨_, z', e2, hz', g2⟩ := (all_same kp a2).get (show (bs.map V.ref)[j]? = some (.ref p2) by rw [List.getElem?_map, hp2]; rfl)
    cases e2
    rw [hz] at hz'
    cases hz'
    exact .inr ⟨e, eqU_pt W hr (po z (List.mem_of_getElem? hz)) g1 g2⟩
end
def spAl (K : PySem.W.Frag) (S Rl Br Mk : Addr) : Sp := fun vs H Q _ => ∃ (x y t : Addr) (ok : Addr → Prop) (ss ws : List Str) (ms : List MkD) (rs : List RlD) (ps : List PtD), vs = [.ref x, .ref y, .ref t] ∧ SchP K S Rl Br Mk H x ss ws ms rs ps ∧ SchP K S Rl Br Mk H y ss ws ms rs ps ∧ ScD K ok H t ss ws ms rs ps ∧ SchK ss ws ms rs ps ∧ ∀ H', Same H H' → Q (.bl true) H'
section
variable {P : Program} {w : World} {K : PySem.W.Frag} {mg : Str → Option Value} {base : Heap}
theorem scAl : FnScope ["_law_found", "_law_made_here", "_law_scheme_here", "_law_one"] ["_law_found", "_law_made_here", "_law_scheme_here"] (defScope sAl) := ⟨rfl, rfl, rfl, by decide +kernel, rfl, by decide +kernel, by decide +kernel⟩
theorem ok_al {f S fS Rl Br Mk fR fB fRS fBS fMS fRE fBE fME fSo fWo fMk fRu fBa f1 f2 : Addr} {fd dRS dBS dMS dRE dBE dME dSo dWo dMk dRu dBa d1 d2 : FuncData} (F : Fun K "_law_alike" "_law_alike" sAl f fd) (TC : TxSch K mg S fS) (TR : TxRul K mg Rl fR) (TB : TxBar K mg Br fB) (W : Wst P w K mg base Rl Br Mk fRS fBS fMS fRE fBE fME dRS dBS dMS dRE dBE dME) (W9 : Mt9 P w K mg base S Rl Br fSo fWo fMk fRu fBa f1 f2 dSo dWo dMk dRu dBa d1 d2) (W7 : Ne7 K Rl Br fRE fBE) :
    FnOk P w K mg base CX0 4 f fd ["_law_found", "_law_made_here", "_law_scheme_here"] (spAl K S Rl Br Mk) := by
  refine F.ok scAl (fun vs H Q E h => ?_) (fun cdv A outer s H vs Q E hr h => ?_)
  · obtain ⟨x, y, t, ok, ss, ws, ms, rs, ps, rfl, _⟩ := h
    rfl
  · obtain ⟨x, y, t, ok, ss, ws, ms, rs, ps, rfl, ⟨as, bs, cs, sg, pa, pb, pc⟩, ⟨as', bs', cs', sg', pa', pb', pc'⟩, ⟨l1, l2, l3, l4, l5, us, vs, zs, o, a0, a1, a2, _⟩, sk, k⟩ := h
    have hr3 : Room 3 _ := hr
    have hr2 : Room 2 _ := hr.mono (by decide)
    have hr1 : Room 1 _ := hr.mono (by decide)
    obtain ⟨dx, m1, m2, m3, m4, m5, h0, _⟩ := id sg
    obtain ⟨dy, k1, k2, k3, k4, k5, g0, _⟩ := id sg'
    refine ⟨_, (pss_cons (ps_if (PW.pt (pw_or (pt_cmpR (op_neD hr.units) (pe_meth0 (pv 0) TC.cl W9.mSo W9.GSo hr1 W9.bSo .nil pass0) (pe_ix ix_tup (pv 2) pe_int (fun _ _ => rfl)) (nomark _)) (pw_or1 (pt_cmpR (op_neD hr.units) (pe_meth0 (pv 0) TC.cl W9.mWo W9.GWo hr1 W9.bWo .nil pass0) (pe_ix ix_tup (pv 2) pe_int (fun _ _ => rfl)) (nomark _))))) (pss_one (ps_ret pe_bl)) pss_nil)
      (pss_cons (ps_if (PW.pt (pw_or (pt_cmpR (op_neU (k := 1) hr3) (pe_meth0 (pv 0) TC.cl W9.mMk W9.GMk hr1 W9.bMk .nil pass0) (pe_meth0 (pv 1) TC.cl W9.mMk W9.GMk hr1 W9.bMk .nil pass0) (nomark _)) (pw_or (pt_cmpR (op_neU (k := 1) hr3) (pe_meth0 (pv 0) TC.cl W9.mRu W9.GRu hr1 W9.bRu .nil pass0) (pe_meth0 (pv 1) TC.cl W9.mRu W9.GRu hr1 W9.bRu .nil pass0) (nomark _)) (pw_or1 (pt_cmpR (op_neU (k := 1) hr3) (pe_meth0 (pv 0) TC.cl W9.mBa W9.GBa hr1 W9.bBa .nil pass0) (pe_meth0 (pv 1) TC.cl W9.mBa W9.GBa hr1 W9.bBa .nil pass0) (nomark _)))))) (pss_one (ps_ret pe_bl)) pss_nil)
      (pss_cons (ps_for PassesOwn.never rfl (pi_list (pe_meth0 (pv 1) TC.cl W9.mRu W9.GRu hr1 W9.bRu .nil pass0)) (pg_name (i := 3) scAl.nd rfl (Or.inl rfl)) (pss_one (ps_if (pt_cmpR (op_neO W7.nR W.GRE hr2 W.bRE) (pe_meth (pv 0) TC.cl W9.mR1 W9.GR1 hr1 W9.bR1 .nil pass0 (pa_cons (pe_fld (pv 3) rfl) pa_nil)) (pv 3) (nomark _)) (pss_one (ps_ret pe_bl)) pss_nil)))
      (pss_cons (ps_for PassesOwn.never rfl (pi_list (pe_meth0 (pv 1) TC.cl W9.mBa W9.GBa hr1 W9.bBa .nil pass0)) (pg_name (i := 3) scAl.nd rfl (Or.inl rfl)) (pss_one (ps_if (pt_cmpR (op_neO W7.nB W.GBE hr2 W.bBE) (pe_meth (pv 0) TC.cl W9.mB1 W9.GB1 hr1 W9.bB1 .nil pass0 (pa_cons (pe_fld (pv 3) rfl) pa_nil)) (pv 3) (nomark _)) (pss_one (ps_ret pe_bl)) pss_nil)))
      (pss_one (ps_ret pe_bl)))))), ?_⟩
    rw [show L2.start ["_law_found", "_law_made_here", "_law_scheme_here", "_law_one"] [.ref x, .ref y, .ref t] = [some (.ref x), some (.ref y), some (.ref t), none] from rfl]
    have nF : ∀ m : Str, m ≠ "own_sorts" → m ≠ "own_words" → m ≠ "own_makings" → m ≠ "own_rules" → m ≠ "own_bars" → (schF m1 m2 m3 m4 m5).lookup m = none := fun m a b c d e => schF_no e d c b a m1 m2 m3 m4 m5
    have nG : ∀ m : Str, m ≠ "own_sorts" → m ≠ "own_words" → m ≠ "own_makings" → m ≠ "own_rules" → m ≠ "own_bars" → (schF k1 k2 k3 k4 k5).lookup m = none := fun m a b c d e => schF_no e d c b a k1 k2 k3 k4 k5
    have pm : ∀ p ∈ ms.map mkPt, PtOk p := fun p hp => sk.pt p (List.mem_append_left _ hp)
    have pr : ∀ p ∈ rs.map rlPt, PtOk p := fun p hp => sk.pt p (List.mem_append_right _ (List.mem_append_left _ hp))
    have pp : ∀ p ∈ ps.map brPt, PtOk p := fun p hp => sk.pt p (List.mem_append_right _ (List.mem_append_right _ hp))
    -- sorts and words
    refine ⟨_, rfl, x, dx, _, rfl, h0, nF _ (by decide +kernel) (by decide +kernel) (by decide +kernel) (by decide +kernel) (by decide +kernel), x, ss, ws, as, bs, cs, rfl, sg, fun d1 n1 => ?_⟩
    have S1 := Same.upd (o := .lst (ss.map V.str)) n1
    have e1 : (upd H d1 (.lst (ss.map V.str))) d1 = _ := upd_same
    generalize upd H d1 (.lst (ss.map V.str)) = H1 at S1 e1
    have shs : SeqAt.shaped (.list (ss.map PyData.str)) = true := shaped_lst fun z hz => (sk.sn z hz).1.ok
    have shw : SeqAt.shaped (.list (ws.map PyData.str)) = true := shaped_lst fun z hz => (sk.wn z hz).1.ok
    refine ⟨_, rfl, t, _, 0, .ref l1, rfl, rfl, SqT.of (S1 _ _ a0), atI_nat (j := 0) rfl, ?_⟩
    refine ⟨_, _, .lst (SqL.of e1) (dp_strs _), .lst (SqL.of (S1 _ _ a1)) (dp_strs _), shs, shs, _, rfl, ?_⟩
    rw [eqv_self shs]
    refine iteF ?_
    refine ⟨_, rfl, x, dx, _, rfl, S1 _ _ h0, nF _ (by decide +kernel) (by decide +kernel) (by decide +kernel) (by decide +kernel) (by decide +kernel), x, ss, ws, as, bs, cs, rfl, sg.same S1, fun d2 n2 => ?_⟩
    have S2 := Same.upd (o := .lst (ws.map V.str)) n2
    have e2 : (upd H1 d2 (.lst (ws.map V.str))) d2 = _ := upd_same
    generalize upd H1 d2 (.lst (ws.map V.str)) = H2 at S2 e2
    have S02 := S1.trans S2
    refine ⟨_, rfl, t, _, 1, .ref l2, rfl, rfl, SqT.of (S02 _ _ a0), atI_nat (j := 1) rfl, ?_⟩
    refine ⟨_, _, .lst (SqL.of e2) (dp_strs _), .lst (SqL.of (S02 _ _ a2)) (dp_strs _), shw, shw, _, rfl, ?_⟩
    rw [eqv_self shw]
    refine iteF ?_
    dsimp only [tNext]
    -- the makings
    refine ⟨_, rfl, x, dx, _, rfl, S02 _ _ h0, nF _ (by decide +kernel) (by decide +kernel) (by decide +kernel) (by decide +kernel) (by decide +kernel), x, ss, ws, as, bs, cs, rfl, sg.same S02, fun d3 n3 => ?_⟩
    have S3 := Same.upd (o := .lst (as.map V.ref)) n3
    have e3 : (upd H2 d3 (.lst (as.map V.ref))) d3 = _ := upd_same
    generalize upd H2 d3 (.lst (as.map V.ref)) = H3 at S3 e3
    have S03 := S02.trans S3
    refine ⟨_, rfl, y, dy, _, rfl, S03 _ _ g0, nG _ (by decide +kernel) (by decide +kernel) (by decide +kernel) (by decide +kernel) (by decide +kernel), y, ss, ws, as', bs', cs', rfl, sg'.same S03, fun d4 n4 => ?_⟩
    have S4 := Same.upd (o := .lst (as'.map V.ref)) n4
    have e4 : (upd H3 d4 (.lst (as'.map V.ref))) d4 = _ := upd_same
    generalize upd H3 d4 (.lst (as'.map V.ref)) = H4 at S4 e4
    have S04 := S03.trans S4
    refine neU_q W hr2.in1 (S4 _ _ e3) e4 (all_same S04 pa) (all_same S04 pa') pm fun H5 S5 => ?_
    refine ⟨_, rfl, ?_⟩
    refine iteF ?_
    have S05 := S04.trans S5
    refine ⟨_, rfl, x, dx, _, rfl, S05 _ _ h0, nF _ (by decide +kernel) (by decide +kernel) (by decide +kernel) (by decide +kernel) (by decide +kernel), x, ss, ws, as, bs, cs, rfl, sg.same S05, fun d6 n6 => ?_⟩
    have S6 := Same.upd (o := .lst (bs.map V.ref)) n6
    have e6 : (upd H5 d6 (.lst (bs.map V.ref))) d6 = _ := upd_same
    generalize upd H5 d6 (.lst (bs.map V.ref)) = H6 at S6 e6
    have S06 := S05.trans S6
    refine ⟨_, rfl, y, dy, _, rfl, S06 _ _ g0, nG _ (by decide +kernel) (by decide +kernel) (by decide +kernel) (by decide +kernel) (by decide +kernel), y, ss, ws, as', bs', cs', rfl, sg'.same S06, fun d7 n7 => ?_⟩
    have S7 := Same.upd (o := .lst (bs'.map V.ref)) n7
    have e7 : (upd H6 d7 (.lst (bs'.map V.ref))) d7 = _ := upd_same
    generalize upd H6 d7 (.lst (bs'.map V.ref)) = H7 at S7 e7
    have S07 := S06.trans S7
    refine neU_q W hr2.in1 (S7 _ _ e6) e7 (all_same S07 pb) (all_same S07 pb') pr fun H8 S8 => ?_
    refine ⟨_, rfl, ?_⟩
    refine iteF ?_
    have S08 := S07.trans S8
    refine ⟨_, rfl, x, dx, _, rfl, S08 _ _ h0, nF _ (by decide +kernel) (by decide +kernel) (by decide +kernel) (by decide +kernel) (by decide +kernel), x, ss, ws, as, bs, cs, rfl, sg.same S08, fun d9 n9 => ?_⟩
    have S9 := Same.upd (o := .lst (cs.map V.ref)) n9
    have e9 : (upd H8 d9 (.lst (cs.map V.ref))) d9 = _ := upd_same
    generalize upd H8 d9 (.lst (cs.map V.ref)) = H9 at S9 e9
    have S09 := S08.trans S9
    refine ⟨_, rfl, y, dy, _, rfl, S09 _ _ g0, nG _ (by decide +kernel) (by decide +kernel) (by decide +kernel) (by decide +kernel) (by decide +kernel), y, ss, ws, as', bs', cs', rfl, sg'.same S09, fun d10 n10 => ?_⟩
    have S10 := Same.upd (o := .lst (cs'.map V.ref)) n10
    have e10 : (upd H9 d10 (.lst (cs'.map V.ref))) d10 = _ := upd_same
    generalize upd H9 d10 (.lst (cs'.map V.ref)) = H10 at S10 e10
    have S010 := S09.trans S10
    refine neU_q W hr2.in1 (S10 _ _ e9) e10 (all_same S010 pc) (all_same S010 pc') pp fun Ha Sa => ?_
    refine ⟨_, rfl, ?_⟩
    refine iteF ?_
    dsimp only [tNext]
    have S0a := S010.trans Sa
    -- rule by rule, bar by bar
    refine ⟨_, rfl, y, dy, _, rfl, S0a _ _ g0, nG _ (by decide +kernel) (by decide +kernel) (by decide +kernel) (by decide +kernel) (by decide +kernel), y, ss, ws, as', bs', cs', rfl, sg'.same S0a, fun DR nDR => ?_⟩
    have SDR := Same.upd (o := .lst (bs'.map V.ref)) nDR
    have eDR : (upd Ha DR (.lst (bs'.map V.ref))) DR = _ := upd_same
    generalize upd Ha DR (.lst (bs'.map V.ref)) = HR at SDR eDR
    have S0R := S0a.trans SDR
    refine ⟨DR, rfl, ⟨_, SqL.of eDR⟩, for_list (K := K) (a := DR) (xs := bs'.map V.ref) (fun i σ H' => (∃ u : Option V, σ = [some (.ref x), some (.ref y), some (.ref t), u]) ∧ Same HR H') ⟨⟨_, rfl⟩, Same.refl _⟩ (fun i σ H' _ pp => SqL.of (pp.2 _ _ eDR)) ?_ ?_⟩
    · rintro i yv σ He hi ⟨⟨u, rfl⟩, Se⟩
      have S0e := S0R.trans Se
      obtain ⟨a', p, rfl, hp, py⟩ := (all_same S0e pb').get hi
      have hp2 := hp
      rw [List.getElem?_map] at hp2
      obtain ⟨m, hm, rfl⟩ := Option.map_eq_some_iff.mp hp2
      have il : i < rs.length := (List.getElem?_eq_some_iff.mp hm).1
      have lb := pb.len
      rw [List.length_map] at lb
      obtain ⟨a, ha⟩ : ∃ a, bs[i]? = some a := ⟨_, List.getElem?_eq_getElem (by omega)⟩
      obtain ⟨a2, p2, e2, hp3, px⟩ := (all_same S0e pb).get (j := i) (y := .ref a) (by rw [List.getElem?_map, ha]; rfl)
      cases e2
      rw [hp] at hp3
      cases hp3
      obtain ⟨dd, w1, w2, w3, us1, vs1, i1, _⟩ := id py
      obtain ⟨de, v1, v2, v3, us2, vs2, i2, _⟩ := id px
      dsimp only [gName, List.set_cons_succ, List.set_cons_zero]
      refine ⟨_, rfl, x, dx, _, rfl, S0e _ _ h0, nF _ (by decide +kernel) (by decide +kernel) (by decide +kernel) (by decide +kernel) (by decide +kernel), _, rfl, a', Rl, _, _, _, rfl, i1, TR.cl, TR.nn, rulF_name _ _ _ _ _, ?_⟩
      refine ⟨x, _, ss, ws, as, bs, cs, rs, i, a, m, rfl, sg.same S0e, all_rl (all_same S0e pb), ha, hm, rfl, fun j m' hj hm' e => ?_, ?_⟩
      · have f1 : (rs.map (fun z => (fun z : RlD => z.p.nm) z))[j]? = some ((fun z : RlD => z.p.nm) m') := by rw [List.getElem?_map, hm']; rfl
        have f2 : (rs.map (fun z => (fun z : RlD => z.p.nm) z))[i]? = some ((fun z : RlD => z.p.nm) m) := by rw [List.getElem?_map, hm]; rfl
        have q1 := (List.getElem?_eq_some_iff.mp f1)
        have q2 := (List.getElem?_eq_some_iff.mp f2)
        obtain ⟨h1, v1⟩ := q1
        obtain ⟨h2, v2⟩ := q2
        exact List.pairwise_iff_getElem.mp sk.ok.rn j i h1 h2 hj (v1.trans (e.trans v2.symm))
      refine ⟨_, rfl, a, a', _, _, _, _, rfl, rfl, i2, i1, sp_rl (W.tyR i1) (pr _ (List.mem_of_getElem? hp)) px py ⟨true, rfl, ?_⟩⟩
      refine ⟨_, rfl, ?_⟩
      refine iteF ?_
      exact ⟨⟨_, rfl⟩, Se⟩
    rintro σ Hr ⟨⟨uR, rfl⟩, SoR⟩
    have S1R := S0R.trans SoR
    refine ⟨_, rfl, y, dy, _, rfl, S1R _ _ g0, nG _ (by decide +kernel) (by decide +kernel) (by decide +kernel) (by decide +kernel) (by decide +kernel), y, ss, ws, as', bs', cs', rfl, sg'.same S1R, fun DB nDB => ?_⟩
    have SDB := Same.upd (o := .lst (cs'.map V.ref)) nDB
    have eDB : (upd Hr DB (.lst (cs'.map V.ref))) DB = _ := upd_same
    generalize upd Hr DB (.lst (cs'.map V.ref)) = HB at SDB eDB
    have S0B := S1R.trans SDB
    refine ⟨DB, rfl, ⟨_, SqL.of eDB⟩, for_list (K := K) (a := DB) (xs := cs'.map V.ref) (fun i σ H' => (∃ u : Option V, σ = [some (.ref x), some (.ref y), some (.ref t), u]) ∧ Same HB H') ⟨⟨_, rfl⟩, Same.refl _⟩ (fun i σ H' _ pp => SqL.of (pp.2 _ _ eDB)) ?_ ?_⟩
    · rintro i yv σ He hi ⟨⟨u, rfl⟩, Se⟩
      have S0e := S0B.trans Se
      obtain ⟨a', p, rfl, hp, py⟩ := (all_same S0e pc').get hi
      have hp2 := hp
      rw [List.getElem?_map] at hp2
      obtain ⟨m, hm, rfl⟩ := Option.map_eq_some_iff.mp hp2
      have il : i < ps.length := (List.getElem?_eq_some_iff.mp hm).1
      have lb := pc.len
      rw [List.length_map] at lb
      obtain ⟨a, ha⟩ : ∃ a, cs[i]? = some a := ⟨_, List.getElem?_eq_getElem (by omega)⟩
      obtain ⟨a2, p2, e2, hp3, px⟩ := (all_same S0e pc).get (j := i) (y := .ref a) (by rw [List.getElem?_map, ha]; rfl)
      cases e2
      rw [hp] at hp3
      cases hp3
      obtain ⟨dd, w1, w2, us1, vs1, i1, _⟩ := id py
      obtain ⟨de, v1, v2, us2, vs2, i2, _⟩ := id px
      dsimp only [gName, List.set_cons_succ, List.set_cons_zero]
      refine ⟨_, rfl, x, dx, _, rfl, S0e _ _ h0, nF _ (by decide +kernel) (by decide +kernel) (by decide +kernel) (by decide +kernel) (by decide +kernel), _, rfl, a', Br, _, _, _, rfl, i1, TB.cl, TB.nn, barF_name _ _ _, ?_⟩
      refine ⟨x, _, ss, ws, as, bs, cs, ps, i, a, m, rfl, sg.same S0e, all_br (all_same S0e pc), ha, hm, rfl, fun j m' hj hm' e => ?_, ?_⟩
      · have f1 : (ps.map (fun z => (fun z : PtD => z.nm) z))[j]? = some ((fun z : PtD => z.nm) m') := by rw [List.getElem?_map, hm']; rfl
        have f2 : (ps.map (fun z => (fun z : PtD => z.nm) z))[i]? = some ((fun z : PtD => z.nm) m) := by rw [List.getElem?_map, hm]; rfl
        have q1 := (List.getElem?_eq_some_iff.mp f1)
        have q2 := (List.getElem?_eq_some_iff.mp f2)
        obtain ⟨h1, v1⟩ := q1
        obtain ⟨h2, v2⟩ := q2
        exact List.pairwise_iff_getElem.mp sk.ok.bn j i h1 h2 hj (v1.trans (e.trans v2.symm))
      refine ⟨_, rfl, a, a', _, _, _, _, rfl, rfl, i2, i1, sp_br (W.tyB i1) (pp _ (List.mem_of_getElem? hp)) px py ⟨true, rfl, ?_⟩⟩
      refine ⟨_, rfl, ?_⟩
      refine iteF ?_
      exact ⟨⟨_, rfl⟩, Se⟩
    rintro σ Hb ⟨⟨uB, rfl⟩, SoB⟩
    have S1B := S0B.trans SoB
    exact k _ S1B
end
end Wm
namespace Wm
open PySem L2 StX
theorem ScD.bt {K : PySem.W.Frag} {ok : Addr → Prop} {p q r : Addr} {H H' : Hp} {n : Nat} {t : Addr} {ss ws : List Str} {ms : List MkD} {rs : List RlD} {ps : List PtD} (o : ∀ a, ok a → a ≠ p ∧ a ≠ q) (b : Bt p q H H') (hP : PotAt H p q r n) (h : ScD K ok H t ss ws ms rs ps) : ScD K ok H' t ss ws ms rs ps := by
  obtain ⟨k0, us, ys, ep, eq, _⟩ := id hP.ex
  obtain ⟨l1, l2, l3, l4, l5, as, bs, cs, w, a0, a1, a2, a3, a4, a5, b1, b2, b3⟩ := h
  have n1 := o _ w.1
  have n2 := o _ w.2.1
  have n3 := o _ w.2.2.1
  have n4 := o _ w.2.2.2.1
  have n5 := o _ w.2.2.2.2
  exact ⟨l1, l2, l3, l4, l5, as, bs, cs, w, b _ _ (ne_of a0 ep (fun z => by cases z)) (ne_of a0 eq (fun z => by cases z)) a0, b _ _ n1.1 n1.2 a1, b _ _ n2.1 n2.2 a2, b _ _ n3.1 n3.2 a3, b _ _ n4.1 n4.2 a4, b _ _ n5.1 n5.2 a5, b1.imp fun _ _ h => h.bt o b hP, b2.imp fun _ _ h => h.bt o b hP, b3.imp fun _ _ h => h.bt o b hP⟩
theorem SchQ.put {K : PySem.W.Frag} {S Rl Br Mk : Addr} {H0 H : Hp} {x l : Addr} {ys zs : List V} {o : HO} {ss ws : List Str} {ms : List MkD} {rs : List RlD} {ps : List PtD} (h : SchQ K S Rl Br Mk H0 H x ss ws ms rs ps) (hl0 : H0 l = some (.lst ys)) (hl : H l = some (.lst zs)) : SchP K S Rl Br Mk (upd H l o) x ss ws ms rs ps := by
  obtain ⟨as, bs, cs, ⟨dx, l1, l2, l3, l4, l5, ⟨z1, z2, z3, z4, z5⟩, h0, h1, h2, h3, h4, h5⟩, a, b, c⟩ := h
  have ne : ∀ {a : Addr}, H0 a = none → a ≠ l := fun z e => by rw [e, hl0] at z; cases z
  exact ⟨as, bs, cs, ⟨dx, l1, l2, l3, l4, l5, by rw [upd_ne (ne_of h0 hl (by intro z; cases z))]; exact h0, by rw [upd_ne (ne z1)]; exact h1, by rw [upd_ne (ne z2)]; exact h2, by rw [upd_ne (ne z3)]; exact h3, by rw [upd_ne (ne z4)]; exact h4, by rw [upd_ne (ne z5)]; exact h5⟩, a.imp fun _ _ h => PtAt.put hl h, b.imp fun _ _ h => PtAt.put hl h, c.imp fun _ _ h => PtAt.put hl h⟩
theorem rows_ok {ss ws : List Str} {pts : List Pt} (sn : ∀ z ∈ ss, Nz z) (wn : ∀ z ∈ ws, Nz z) (po : ∀ p ∈ pts, PtOk p) : ∀ z ∈ rowsL ss ws pts, okS z := fun z hz => by
  have bl : okS (PySem.Str.ofString " ") := by unfold okS; decide +kernel
  unfold rowsL at hz
  rcases List.mem_cons.mp hz with rfl | hz
  · refine okS_join bl fun y hy => ?_
    rcases List.mem_cons.mp hy with rfl | hy
    · unfold okS; decide +kernel
    · exact (sn y hy).1.ok
  · rcases List.mem_cons.mp hz with rfl | hz
    · refine okS_join bl fun y hy => ?_
      rcases List.mem_cons.mp hy with rfl | hy
      · unfold okS; decide +kernel
      · exact (wn y hy).1.ok
    · obtain ⟨p, hp, rfl⟩ := List.mem_map.mp hz
      exact okS_row (po p hp)
def spLaw (K : PySem.W.Frag) : Sp := fun vs H Q _ => ∃ (a : Addr) (ns : List Int), vs = [.ref a] ∧ SqL K H a (ns.map V.int) ∧ ns.length ≤ 63 ∧ ∀ H', Q (.bl true) H'
section
variable {P : Program} {w : World} {K : PySem.W.Frag} {mg : Str → Option Value} {base : Heap}
theorem scLaw : FnScope ["_law_script", "_law_pot_here", "_law_scheme_here", "_law_rows_here", "_law_mingled_here", "_law_made_here", "_law_handed", "_law_found", "_law_told"] ["_law_script"] (defScope sLaw) := ⟨rfl, rfl, rfl, by decide +kernel, rfl, by decide +kernel, by decide +kernel⟩
theorem ok_law {f S Rl Br Mk fPo fSc fRo fMi fMa fSw fRs fAl : Addr} {fd dPo dSc dRo dMi dMa dSw dRs dAl : FuncData} (F : Fun K "law" "law" sLaw f fd) (T : TxB mg) (tlist : mg "list" = none)
    (DPo : Dn K mg "_law_pot" sPot ["_law_script"] fPo dPo) (GPo : FnOk P w K mg base CX0 1 fPo dPo ["_law_script"] (spPot K)) (DSc : Dn K mg "_law_scheme" sSc ["_law_pot_here"] fSc dSc) (GSc : FnOk P w K mg base CX0 9 fSc dSc ["_law_pot_here"] (spScs K))
    (DRo : Dn K mg "_law_rows" sRo ["_law_scheme_here"] fRo dRo) (GRo : FnOk P w K mg base CX0 3 fRo dRo ["_law_scheme_here"] (spRo K)) (DMi : Dn K mg "_law_mingled" sMi ["_law_pot_here", "_law_rows_here"] fMi dMi) (GMi : FnOk P w K mg base CX0 3 fMi dMi ["_law_pot_here", "_law_rows_here"] (spMi K))
    (DMa : Dn K mg "_law_made" sMa ["_law_scheme_here"] fMa dMa) (GMa : FnOk P w K mg base CX0 8 fMa dMa ["_law_scheme_here"] (spMa K S Rl Br Mk)) (DSw : Dn K mg "scheme_rows" sSw ["scheme"] fSw dSw) (GSw : FnOk P w K mg base CX0 7 fSw dSw ["scheme"] (spSw K S Rl Br Mk))
    (DRs : Dn K mg "read_scheme" sRs ["rows"] fRs dRs) (GRs : FnOk P w K mg base CX0 9 fRs dRs ["rows"] (spRs K S Rl Br Mk)) (DAl : Dn K mg "_law_alike" sAl ["_law_found", "_law_made_here", "_law_scheme_here"] fAl dAl) (GAl : FnOk P w K mg base CX0 4 fAl dAl ["_law_found", "_law_made_here", "_law_scheme_here"] (spAl K S Rl Br Mk)) :
    FnOk P w K mg base CX0 10 f fd ["_law_script"] (spLaw K) := by
  refine F.ok scLaw (fun vs H Q E h => ?_) (fun cdv A outer s H vs Q E hr h => ?_)
  · obtain ⟨a, ns, rfl, _⟩ := h
    rfl
  · obtain ⟨a, ns, rfl, ha, hn, k⟩ := h
    have hr9 : Room 9 _ := hr
    have hr8 : Room 8 _ := hr.mono (by decide)
    have hr7 : Room 7 _ := hr.mono (by decide)
    have hr4 : Room 4 _ := hr.mono (by decide)
    have hr3 : Room 3 _ := hr.mono (by decide)
    have hr1 : Room 1 _ := hr.mono (by decide)
    refine ⟨_, (pss_cons (ps_set (i := 1) scLaw.nd rfl (Or.inl rfl) (pe_call GPo hr1 rfl DPo.g DPo.F.kp DPo.b .nil pass0 (pa_cons (pv 0) pa_nil)))
      (pss_cons (ps_set (i := 2) scLaw.nd rfl (Or.inl rfl) (pe_call GSc hr9 rfl DSc.g DSc.F.kp DSc.b .nil pass0 (pa_cons (pv 1) pa_nil)))
      (pss_cons (ps_set (i := 3) scLaw.nd rfl (Or.inl rfl) (pe_call GRo hr3 rfl DRo.g DRo.F.kp DRo.b .nil pass0 (pa_cons (pv 2) pa_nil)))
      (pss_cons (ps_set (i := 4) scLaw.nd rfl (Or.inl rfl) (pe_call GMi hr3 rfl DMi.g DMi.F.kp DMi.b .nil pass0 (pa_cons (pv 1) (pa_cons (pv 3) pa_nil))))
      (pss_cons (ps_set (i := 5) scLaw.nd rfl (Or.inl rfl) (pe_call GMa hr8 rfl DMa.g DMa.F.kp DMa.b .nil pass0 (pa_cons (pv 2) pa_nil)))
      (pss_cons (ps_if (pt_cmpR (op_neD hr.units) (pe_call GSw hr7 rfl DSw.g DSw.F.kp DSw.b .nil pass0 (pa_cons (pv 5) pa_nil)) (pv 3) (nomark _)) (pss_one (ps_ret pe_bl)) pss_nil)
      (pss_cons (ps_set (i := 6) scLaw.nd rfl (Or.inl rfl) (pe_callTy call_list_of (by rfl) tlist (by decide +kernel) (pa_cons (pv 4) pa_nil)))
      (pss_cons (ps_set (i := 7) scLaw.nd rfl (Or.inl rfl) (pe_call GRs hr9 rfl DRs.g DRs.F.kp DRs.b .nil pass0 (pa_cons (pv 6) pa_nil)))
      (pss_cons (ps_if (pt_cmpR (op_neD hr.units) (pv 6) (pv 4) (nomark _)) (pss_one (ps_ret pe_bl)) pss_nil)
      (pss_cons (ps_expr (pe_bm0 PySem.F.plainAttrs_list PySem.F.slot_list_clear PySem.F.type_list_clear mt_clear (pv 6)))
      (pss_cons (ps_set (i := 8) scLaw.nd rfl (Or.inl rfl) (pe_call GSw hr7 rfl DSw.g DSw.F.kp DSw.b .nil pass0 (pa_cons (pv 7) pa_nil)))
      (pss_cons (ps_if (PW.pt (pw_or (pt_cmpR (op_neD hr.units) (pv 8) (pv 3) (nomark _)) (pw_or1 (pt_not (pt_val (pe_call GAl hr4 rfl DAl.g DAl.F.kp DAl.b .nil pass0 (pa_cons (pv 7) (pa_cons (pv 5) (pa_cons (pv 2) pa_nil))))))))) (pss_one (ps_ret pe_bl)) pss_nil)
      (pss_cons (ps_expr (pe_bm PySem.F.plainAttrs_list PySem.F.slot_list_append PySem.F.type_list_append mt_append (pv 8) (pa_cons pe_str pa_nil)))
      (pss_one (ps_ret (pe_and (pe_cmpR (op_eqD hr.units) (pe_call GSw hr7 rfl DSw.g DSw.F.kp DSw.b .nil pass0 (pa_cons (pv 7) pa_nil)) (pv 3) (nomark _)) (pe_one (pe_cmpR (op_eqD hr.units) (pe_call GSw hr7 rfl DSw.g DSw.F.kp DSw.b .nil pass0 (pa_cons (pv 5) pa_nil)) (pv 3) (nomark _))))))))))))))))))), ?_⟩
    rw [show L2.start ["_law_script", "_law_pot_here", "_law_scheme_here", "_law_rows_here", "_law_mingled_here", "_law_made_here", "_law_handed", "_law_found", "_law_told"] [.ref a] = [some (.ref a), none, none, none, none, none, none, none, none] from rfl]
    refine ⟨_, rfl, a, ns, rfl, ha, hn, fun p q r H1 np nq nr S1 P1 => ?_⟩
    dsimp only [gName, List.set_cons_succ, List.set_cons_zero]
    refine ⟨_, rfl, p, q, r, 0, rfl, P1, by omega, fun t ss ws ms rs ps H2 B2 P2 sc sk => ?_⟩
    dsimp only [gName, List.set_cons_succ, List.set_cons_zero]
    have okpq : ∀ a, H1 a = none → a ≠ p ∧ a ≠ q := fun a h => ⟨(P1.ne h).1, (P1.ne h).2.1⟩
    have ro := rows_ok sk.sn sk.wn sk.pt
    refine ⟨_, rfl, t, _, ss, ws, ms, rs, ps, rfl, sc, sk, fun R H3 nR S3 eR => ?_⟩
    dsimp only [gName, List.set_cons_succ, List.set_cons_zero]
    have nR3 := P2.ne nR
    have P3 := P2.same S3
    refine ⟨_, rfl, _, rfl, p, q, r, R, _, ss, ws, ms, rs, ps, rfl, P3, by omega, eR, nR3.1, nR3.2.1, sk, fun pts G H4 nG B4 P4 eG mi => ?_⟩
    dsimp only [gName, List.set_cons_succ, List.set_cons_zero]
    have ro2 := rows_ok sk.sn sk.wn mi.ok
    have eR4 := B4 _ _ nR3.1 nR3.2.1 eR
    have sc4 := (sc.same S3).bt okpq B4 P3
    refine ⟨_, rfl, t, _, ss, ws, ms, rs, ps, rfl, sc4, sk, fun y H5 ny S5 sy => ?_⟩
    dsimp only [gName, List.set_cons_succ, List.set_cons_zero]
    have sh1 : SeqAt.shaped (.list ((rowsL ss ws (allPt ms rs ps)).map PyData.str)) = true := shaped_lst ro
    have sh2 : SeqAt.shaped (.list ((rowsL ss ws pts).map PyData.str)) = true := shaped_lst ro2
    have eR5 := S5 _ _ eR4
    have eG5 := S5 _ _ eG
    have sc5 := sc4.same S5
    refine ⟨_, rfl, y, ss, ws, ms, rs, ps, rfl, sy.p, sk, fun d1 H6 n1 S6 e1 => ?_⟩
    refine ⟨_, rfl, _, _, .lst (SqL.of e1) (dp_strs _), .lst (SqL.of (S6 _ _ eR5)) (dp_strs _), sh1, sh1, _, rfl, ?_⟩
    rw [eqv_self sh1]
    refine iteF ?_
    dsimp only [tNext]
    have eG6 := S6 _ _ eG5
    -- handed in
    refine ⟨_, rfl, G, _, rfl, .inl (SqL.of eG6), fun h nh => ?_⟩
    have S7 := Same.upd (o := .lst ((rowsL ss ws pts).map V.str)) nh
    have e7 : (upd H6 h (.lst ((rowsL ss ws pts).map V.str))) h = _ := upd_same
    generalize upd H6 h (.lst ((rowsL ss ws pts).map V.str)) = H7 at S7 e7
    dsimp only [gName, List.set_cons_succ, List.set_cons_zero]
    refine ⟨_, rfl, h, ss, ws, ms, rs, ps, pts, rfl, e7, sk, mi, fun x H8 nx S8 sx => ?_⟩
    dsimp only [gName, List.set_cons_succ, List.set_cons_zero]
    have S68 := S7.trans S8
    refine ⟨_, rfl, _, rfl, _, _, .lst (SqL.of (S8 _ _ e7)) (dp_strs _), .lst (SqL.of (S68 _ _ eG6)) (dp_strs _), sh2, sh2, _, rfl, ?_⟩
    rw [eqv_self sh2]
    refine iteF ?_
    dsimp only [tNext]
    -- spoilt
    have h8 := S8 _ _ e7
    refine ⟨_, rfl, .inl ⟨rfl, _, SqL.of h8⟩, h, _, rfl, rfl, h8, ?_⟩
    have fx := sx.put (o := .lst []) e7 h8
    have S69 : Same H6 (upd H8 h (.lst [])) := fun a o e => by rw [upd_ne (ne_of_none e nh)]; exact S68 _ _ e
    generalize upd H8 h (.lst []) = H9 at fx S69
    have S59 := S6.trans S69
    have fy := sy.p.same S59
    refine ⟨_, rfl, x, ss, ws, ms, rs, ps, rfl, fx, sk, fun d2 Ha n2 Sa e2 => ?_⟩
    dsimp only [gName, List.set_cons_succ, List.set_cons_zero]
    have S5a := S59.trans Sa
    refine ⟨_, rfl, _, rfl, _, _, .lst (SqL.of e2) (dp_strs _), .lst (SqL.of (S5a _ _ eR5)) (dp_strs _), sh1, sh1, _, rfl, ?_⟩
    rw [eqv_self sh1]
    refine iteF ?_
    refine ⟨_, rfl, _, rfl, _, rfl, x, y, t, _, ss, ws, ms, rs, ps, rfl, fx.same Sa, fy.same Sa, sc5.same S5a, sk, fun Hb Sb => ?_⟩
    refine ⟨_, rfl, ?_⟩
    refine iteF ?_
    dsimp only [tNext]
    have e2b := Sb _ _ e2
    have Sab := Sa.trans Sb
    have rl : (rowsL ss ws (allPt ms rs ps)).length ≤ 100 := by
      unfold rowsL allPt
      rw [List.length_cons, List.length_cons, List.length_map, List.length_append, List.length_append, List.length_map, List.length_map, List.length_map]
      have := sk.m9
      have := sk.ok.r8
      have := sk.ok.b4
      omega
    refine ⟨_, rfl, .inl ⟨rfl, _, SqL.of e2b⟩, d2, _, _, rfl, rfl, e2b, ?_, ?_⟩
    · rw [List.length_map]
      exact Nat.lt_of_le_of_lt (show _ ≤ 1000 by omega) (by decide)
    have Sc : Same H9 (upd Hb d2 (.lst ((rowsL ss ws (allPt ms rs ps)).map V.str ++ [.str "bar"]))) := fun a o e => by rw [upd_ne (ne_of_none e n2)]; exact Sab _ _ e
    generalize upd Hb d2 (.lst ((rowsL ss ws (allPt ms rs ps)).map V.str ++ [.str "bar"])) = Hc at Sc
    refine ⟨_, rfl, x, ss, ws, ms, rs, ps, rfl, fx.same Sc, sk, fun d3 Hd n3 Sd e3 => ?_⟩
    have S5d := S59.trans (Sc.trans Sd)
    refine ⟨_, rfl, _, _, .lst (SqL.of e3) (dp_strs _), .lst (SqL.of (S5d _ _ eR5)) (dp_strs _), sh1, sh1, _, rfl, ?_⟩
    rw [eqv_self sh1]
    refine iteT ?_
    refine ⟨_, rfl, y, ss, ws, ms, rs, ps, rfl, fy.same (Sc.trans Sd), sk, fun d4 He n4 Se e4 => ?_⟩
    refine ⟨_, rfl, _, _, .lst (SqL.of e4) (dp_strs _), .lst (SqL.of ((S5d.trans Se) _ _ eR5)) (dp_strs _), sh1, sh1, ?_⟩
    rw [eqv_self sh1]
    exact k _
end
end Wm
namespace Wm
open PySem L2 He ClX StX
theorem errB_ok {K : PySem.W.Frag} {mg : Str → Option Value} {x f : Str} {C fI : Addr} (h : errB K C fI f = true) (g : mg x = some (.ref C)) : ErrT K mg x f C fI ∧ XfC K C ∧ ExcC K C ∧ PySem.W.exmOne K (.ref C) (.ref C) = some true := by
  unfold errB at h
  obtain ⟨h1, h⟩ := ba h
  obtain ⟨h2, h⟩ := ba h
  obtain ⟨h3, h⟩ := ba h
  obtain ⟨h4, h⟩ := ba h
  obtain ⟨h5, h⟩ := ba h
  obtain ⟨h6, h⟩ := ba h
  obtain ⟨h7, h⟩ := ba h
  obtain ⟨h8, h⟩ := ba h
  obtain ⟨h9, h⟩ := ba h
  obtain ⟨h10, h⟩ := ba h
  obtain ⟨h11, h⟩ := ba h
  obtain ⟨h12, h⟩ := ba h
  obtain ⟨h13, h⟩ := ba h
  obtain ⟨h14, h⟩ := ba h
  obtain ⟨h15, h⟩ := ba h
  obtain ⟨h16, h17⟩ := ba h
  exact ⟨⟨⟨excB_ok h14, eqO_ok h1, of_decide_eq_true h2, of_decide_eq_true h3, h4⟩, g, eqO_ok h13, of_decide_eq_true h5, eqO_ok h6, eqO_ok h7⟩, ⟨eqO_ok h8, eqO_ok h9, of_decide_eq_true h2, h10⟩,
    ⟨eqO_ok h8, eqO_ok h9, of_decide_eq_true h2, h10, eqO_ok h11, eqO_ok h16, of_decide_eq_true h17, of_decide_eq_true h12⟩, of_decide_eq_true h15⟩
theorem strKB_ok {es : Array DictEntry} (h : strKB es = true) : StrKeys es := fun e he => by
  have q := List.all_eq_true.mp h e (by simpa using he)
  cases k : e.key with
  | str n t => exact ⟨n, t, rfl⟩
  | _ =>
    rw [k] at q
    simp at q
theorem eqneB_ok {K : PySem.W.Frag} {C f : Addr} (q : eqneB K C f = true) : EqNe K C f := by
  unfold eqneB at q
  split at q
  · rename_i dd cd sl ho
    split at q
    · rename_i C' k0 k1 k2 k3 n k5 oc od es ep osl of hm hs hN hf
      simp only [Bool.and_eq_true, beq_iff_eq, Bool.not_eq_true'] at q
      obtain ⟨rfl, hdel, h1, h2, h3, h4⟩ := q
      obtain ⟨nm, bs, mro, ns, qn, hd, sn, sub, ab, col, del⟩ := cd
      dsimp only at hm hdel hN
      subst hm hdel
      have hsl : sl = #[k0, k1, k2, k3, some (.builtin n), k5] := by
        obtain ⟨l⟩ := sl
        simp only at hs
        rw [hs]
      subst hsl
      exact ⟨nm, qn, ns, bs, hd, sn, sub, ab, col, dd, k0, k1, k2, k3, k5, n, oc, od, es, ep, osl, of, ho, hN, strKB_ok h1, of_decide_eq_true h2, of_decide_eq_true h3, hf, of_decide_eq_true h4⟩
    · cases q
  · cases q
theorem insB_ok {K : PySem.W.Frag} {C : Addr} (h : insB K C = true) (c : Cls K C) : (∀ {H : Hp} {a d : Addr} {fs : List (Str × V)}, H a = some (.ins C d fs) → TyX K H (.ref a) (.ref C)) ∧ PySem.W.kitOne K (.ref C) (.ref C) = some true := by
  unfold insB at h
  obtain ⟨h1, h⟩ := ba h
  obtain ⟨h2, h⟩ := ba h
  obtain ⟨h3, h⟩ := ba h
  obtain ⟨h4, h5⟩ := ba h
  exact ⟨fun e => .base (.ins e c (eqO_ok h1) (eqO_ok h3) (of_decide_eq_true h4) (of_decide_eq_true h2)), of_decide_eq_true h5⟩
theorem facts {P : Program} {w : World} {K : PySem.W.Frag} {h : Heap} {mg : Str → Option Value} {fa : Addr} (X : K.In h) (G : h.Ns mainGlobals mg) (hfa : mg "law" = some (.ref fa)) (c : SaysM ck fnL K) :
    ∃ fd : FuncData, (∀ (s : Shared) (v : Value), BindsTo s fd ⟨[v], []⟩ [("_law_script", v)]) ∧ ∀ base : Heap, K.In base → base.Ns mainGlobals mg → FnOk P w K mg base CX0 10 fa fd ["_law_script"] (spLaw K) := by
  have q := c.says
  unfold ck at q
  obtain ⟨qf, q⟩ := ba q
  obtain ⟨qw, q⟩ := ba q
  obtain ⟨qe0, q⟩ := ba q
  obtain ⟨iR, q⟩ := ba q
  obtain ⟨iB, q⟩ := ba q
  obtain ⟨iM, q⟩ := ba q
  obtain ⟨mSR, q⟩ := ba q
  obtain ⟨mSB, q⟩ := ba q
  obtain ⟨mSM, q⟩ := ba q
  obtain ⟨mER, q⟩ := ba q
  obtain ⟨mEB, q⟩ := ba q
  obtain ⟨mEM, q⟩ := ba q
  obtain ⟨n1, q⟩ := ba q
  obtain ⟨n2, q⟩ := ba q
  obtain ⟨n3, q⟩ := ba q
  obtain ⟨n4, q⟩ := ba q
  obtain ⟨n5, q⟩ := ba q
  obtain ⟨k1, q⟩ := ba q
  obtain ⟨k2, q⟩ := ba q
  obtain ⟨k3, q⟩ := ba q
  obtain ⟨k4, q⟩ := ba q
  obtain ⟨k5, q⟩ := ba q
  obtain ⟨k6, q⟩ := ba q
  obtain ⟨eR, eB⟩ := ba q
  obtain ⟨mSRa, mSRb⟩ := ba mSR
  obtain ⟨mSBa, mSBb⟩ := ba mSB
  obtain ⟨mSMa, mSMb⟩ := ba mSM
  obtain ⟨mERa, mERb⟩ := ba mER
  obtain ⟨mEBa, mEBb⟩ := ba mEB
  obtain ⟨mEMa, mEMb⟩ := ba mEM
  have ft : ∀ (i : Nat) {f : Fa}, factL[i]? = some f → f.ok K = true := fun i {f} e => List.all_eq_true.mp qf f (List.mem_of_getElem? e)
  have g_WhoError := glo_ok X G (ft 0 (f := .glo "WhoError") rfl)
  have g_NoName := glo_ok X G (ft 1 (f := .glo "NoName") rfl)
  have g_is_name := glo_ok X G (ft 2 (f := .glo "is_name") rfl)
  obtain ⟨fd_is_name, Fk_is_name⟩ := c.def_ 0 (d := d_is_name) rfl
  have Fk_is_name : FunD K "is_name" "is_name" (defArgs sName) (defBody sName) (defScope sName) [] [] (ga K "is_name") fd_is_name := Fk_is_name
  have F_is_name : Fun K "is_name" "is_name" sName (ga K "is_name") fd_is_name := fun_of Fk_is_name
  have D_is_name : Dn K mg "is_name" sName ["text"] (ga K "is_name") fd_is_name := ⟨F_is_name, g_is_name, F_is_name.binds (ps := ["text"]) fun _ _ _ _ _ _ us hl => match us, hl with | [_], _ => rfl⟩
  have g_refuse_no_name := glo_ok X G (ft 3 (f := .glo "refuse_no_name") rfl)
  obtain ⟨fd_refuse_no_name, Fk_refuse_no_name⟩ := c.def_ 1 (d := d_refuse_no_name) rfl
  have Fk_refuse_no_name : FunD K "refuse_no_name" "refuse_no_name" (defArgs sRN) (defBody sRN) (defScope sRN) [] [] (ga K "refuse_no_name") fd_refuse_no_name := Fk_refuse_no_name
  have F_refuse_no_name : Fun K "refuse_no_name" "refuse_no_name" sRN (ga K "refuse_no_name") fd_refuse_no_name := fun_of Fk_refuse_no_name
  have D_refuse_no_name : Dn K mg "refuse_no_name" sRN ["texts"] (ga K "refuse_no_name") fd_refuse_no_name := ⟨F_refuse_no_name, g_refuse_no_name, F_refuse_no_name.binds (ps := ["texts"]) fun _ _ _ _ _ _ us hl => match us, hl with | [_], _ => rfl⟩
  have g_first_twice := glo_ok X G (ft 4 (f := .glo "first_twice") rfl)
  obtain ⟨fd_first_twice, Fk_first_twice⟩ := c.def_ 2 (d := d_first_twice) rfl
  have Fk_first_twice : FunD K "first_twice" "first_twice" (defArgs sFT) (defBody sFT) (defScope sFT) [] [] (ga K "first_twice") fd_first_twice := Fk_first_twice
  have F_first_twice : Fun K "first_twice" "first_twice" sFT (ga K "first_twice") fd_first_twice := fun_of Fk_first_twice
  have D_first_twice : Dn K mg "first_twice" sFT ["row"] (ga K "first_twice") fd_first_twice := ⟨F_first_twice, g_first_twice, F_first_twice.binds (ps := ["row"]) fun _ _ _ _ _ _ us hl => match us, hl with | [_], _ => rfl⟩
  have g_refuse_twice := glo_ok X G (ft 5 (f := .glo "refuse_twice") rfl)
  obtain ⟨fd_refuse_twice, Fk_refuse_twice⟩ := c.def_ 3 (d := d_refuse_twice) rfl
  have Fk_refuse_twice : FunD K "refuse_twice" "refuse_twice" (defArgs sRT) (defBody sRT) (defScope sRT) [] [] (ga K "refuse_twice") fd_refuse_twice := Fk_refuse_twice
  have F_refuse_twice : Fun K "refuse_twice" "refuse_twice" sRT (ga K "refuse_twice") fd_refuse_twice := fun_of Fk_refuse_twice
  have D_refuse_twice : Dn K mg "refuse_twice" sRT ["names"] (ga K "refuse_twice") fd_refuse_twice := ⟨F_refuse_twice, g_refuse_twice, F_refuse_twice.binds (ps := ["names"]) fun _ _ _ _ _ _ us hl => match us, hl with | [_], _ => rfl⟩
  have g_refuse_count := glo_ok X G (ft 6 (f := .glo "refuse_count") rfl)
  obtain ⟨fd_refuse_count, Fk_refuse_count⟩ := c.def_ 4 (d := d_refuse_count) rfl
  have Fk_refuse_count : FunD K "refuse_count" "refuse_count" (defArgs sRC) (defBody sRC) (defScope sRC) [] [] (ga K "refuse_count") fd_refuse_count := Fk_refuse_count
  have F_refuse_count : Fun K "refuse_count" "refuse_count" sRC (ga K "refuse_count") fd_refuse_count := fun_of Fk_refuse_count
  have D_refuse_count : Dn K mg "refuse_count" sRC ["what", "count", "least", "most"] (ga K "refuse_count") fd_refuse_count := ⟨F_refuse_count, g_refuse_count, F_refuse_count.binds (ps := ["what", "count", "least", "most"]) fun _ _ _ _ _ _ us hl => match us, hl with | [_, _, _, _], _ => rfl⟩
  have g_tuple_of_tuples := glo_ok X G (ft 7 (f := .glo "tuple_of_tuples") rfl)
  obtain ⟨fd_tuple_of_tuples, Fk_tuple_of_tuples⟩ := c.def_ 5 (d := d_tuple_of_tuples) rfl
  have Fk_tuple_of_tuples : FunD K "tuple_of_tuples" "tuple_of_tuples" (defArgs sTT) (defBody sTT) (defScope sTT) [] [] (ga K "tuple_of_tuples") fd_tuple_of_tuples := Fk_tuple_of_tuples
  have F_tuple_of_tuples : Fun K "tuple_of_tuples" "tuple_of_tuples" sTT (ga K "tuple_of_tuples") fd_tuple_of_tuples := fun_of Fk_tuple_of_tuples
  have D_tuple_of_tuples : Dn K mg "tuple_of_tuples" sTT ["rows"] (ga K "tuple_of_tuples") fd_tuple_of_tuples := ⟨F_tuple_of_tuples, g_tuple_of_tuples, F_tuple_of_tuples.binds (ps := ["rows"]) fun _ _ _ _ _ _ us hl => match us, hl with | [_], _ => rfl⟩
  have g_ends_of := glo_ok X G (ft 8 (f := .glo "ends_of") rfl)
  obtain ⟨fd_ends_of, Fk_ends_of⟩ := c.def_ 6 (d := d_ends_of) rfl
  have Fk_ends_of : FunD K "ends_of" "ends_of" (defArgs sEO) (defBody sEO) (defScope sEO) [] [] (ga K "ends_of") fd_ends_of := Fk_ends_of
  have F_ends_of : Fun K "ends_of" "ends_of" sEO (ga K "ends_of") fd_ends_of := fun_of Fk_ends_of
  have D_ends_of : Dn K mg "ends_of" sEO ["triples"] (ga K "ends_of") fd_ends_of := ⟨F_ends_of, g_ends_of, F_ends_of.binds (ps := ["triples"]) fun _ _ _ _ _ _ us hl => match us, hl with | [_], _ => rfl⟩
  have g_texts_of_pattern := glo_ok X G (ft 9 (f := .glo "texts_of_pattern") rfl)
  obtain ⟨fd_texts_of_pattern, Fk_texts_of_pattern⟩ := c.def_ 7 (d := d_texts_of_pattern) rfl
  have Fk_texts_of_pattern : FunD K "texts_of_pattern" "texts_of_pattern" (defArgs sTP) (defBody sTP) (defScope sTP) [] [] (ga K "texts_of_pattern") fd_texts_of_pattern := Fk_texts_of_pattern
  have F_texts_of_pattern : Fun K "texts_of_pattern" "texts_of_pattern" sTP (ga K "texts_of_pattern") fd_texts_of_pattern := fun_of Fk_texts_of_pattern
  have D_texts_of_pattern : Dn K mg "texts_of_pattern" sTP ["name", "variables", "triples"] (ga K "texts_of_pattern") fd_texts_of_pattern := ⟨F_texts_of_pattern, g_texts_of_pattern, F_texts_of_pattern.binds (ps := ["name", "variables", "triples"]) fun _ _ _ _ _ _ us hl => match us, hl with | [_, _, _], _ => rfl⟩
  have g_refuse_no_variable := glo_ok X G (ft 10 (f := .glo "refuse_no_variable") rfl)
  obtain ⟨fd_refuse_no_variable, Fk_refuse_no_variable⟩ := c.def_ 8 (d := d_refuse_no_variable) rfl
  have Fk_refuse_no_variable : FunD K "refuse_no_variable" "refuse_no_variable" (defArgs sRV) (defBody sRV) (defScope sRV) [] [] (ga K "refuse_no_variable") fd_refuse_no_variable := Fk_refuse_no_variable
  have F_refuse_no_variable : Fun K "refuse_no_variable" "refuse_no_variable" sRV (ga K "refuse_no_variable") fd_refuse_no_variable := fun_of Fk_refuse_no_variable
  have D_refuse_no_variable : Dn K mg "refuse_no_variable" sRV ["names", "texts"] (ga K "refuse_no_variable") fd_refuse_no_variable := ⟨F_refuse_no_variable, g_refuse_no_variable, F_refuse_no_variable.binds (ps := ["names", "texts"]) fun _ _ _ _ _ _ us hl => match us, hl with | [_, _], _ => rfl⟩
  have g_refuse_loose := glo_ok X G (ft 11 (f := .glo "refuse_loose") rfl)
  obtain ⟨fd_refuse_loose, Fk_refuse_loose⟩ := c.def_ 9 (d := d_refuse_loose) rfl
  have Fk_refuse_loose : FunD K "refuse_loose" "refuse_loose" (defArgs sRL) (defBody sRL) (defScope sRL) [] [] (ga K "refuse_loose") fd_refuse_loose := Fk_refuse_loose
  have F_refuse_loose : Fun K "refuse_loose" "refuse_loose" sRL (ga K "refuse_loose") fd_refuse_loose := fun_of Fk_refuse_loose
  have D_refuse_loose : Dn K mg "refuse_loose" sRL ["names", "conditions"] (ga K "refuse_loose") fd_refuse_loose := ⟨F_refuse_loose, g_refuse_loose, F_refuse_loose.binds (ps := ["names", "conditions"]) fun _ _ _ _ _ _ us hl => match us, hl with | [_, _], _ => rfl⟩
  have g_refuse_apart := glo_ok X G (ft 12 (f := .glo "refuse_apart") rfl)
  obtain ⟨fd_refuse_apart, Fk_refuse_apart⟩ := c.def_ 10 (d := d_refuse_apart) rfl
  have Fk_refuse_apart : FunD K "refuse_apart" "refuse_apart" (defArgs sRA) (defBody sRA) (defScope sRA) [] [] (ga K "refuse_apart") fd_refuse_apart := Fk_refuse_apart
  have F_refuse_apart : Fun K "refuse_apart" "refuse_apart" sRA (ga K "refuse_apart") fd_refuse_apart := fun_of Fk_refuse_apart
  have D_refuse_apart : Dn K mg "refuse_apart" sRA ["conditions"] (ga K "refuse_apart") fd_refuse_apart := ⟨F_refuse_apart, g_refuse_apart, F_refuse_apart.binds (ps := ["conditions"]) fun _ _ _ _ _ _ us hl => match us, hl with | [_], _ => rfl⟩
  have g_check_pattern := glo_ok X G (ft 13 (f := .glo "check_pattern") rfl)
  obtain ⟨fd_check_pattern, Fk_check_pattern⟩ := c.def_ 11 (d := d_check_pattern) rfl
  have Fk_check_pattern : FunD K "check_pattern" "check_pattern" (defArgs sCP) (defBody sCP) (defScope sCP) [] [] (ga K "check_pattern") fd_check_pattern := Fk_check_pattern
  have F_check_pattern : Fun K "check_pattern" "check_pattern" sCP (ga K "check_pattern") fd_check_pattern := fun_of Fk_check_pattern
  have D_check_pattern : Dn K mg "check_pattern" sCP ["name", "variables", "conditions", "given", "hands"] (ga K "check_pattern") fd_check_pattern := ⟨F_check_pattern, g_check_pattern, F_check_pattern.binds (ps := ["name", "variables", "conditions", "given", "hands"]) fun _ _ _ _ _ _ us hl => match us, hl with | [_, _, _, _, _], _ => rfl⟩
  have g_variable_part := glo_ok X G (ft 14 (f := .glo "variable_part") rfl)
  obtain ⟨fd_variable_part, Fk_variable_part⟩ := c.def_ 12 (d := d_variable_part) rfl
  have Fk_variable_part : FunD K "variable_part" "variable_part" (defArgs sVP) (defBody sVP) (defScope sVP) [] [] (ga K "variable_part") fd_variable_part := Fk_variable_part
  have F_variable_part : Fun K "variable_part" "variable_part" sVP (ga K "variable_part") fd_variable_part := fun_of Fk_variable_part
  have D_variable_part : Dn K mg "variable_part" sVP ["name", "sort"] (ga K "variable_part") fd_variable_part := ⟨F_variable_part, g_variable_part, F_variable_part.binds (ps := ["name", "sort"]) fun _ _ _ _ _ _ us hl => match us, hl with | [_, _], _ => rfl⟩
  have g_pattern_parts := glo_ok X G (ft 15 (f := .glo "pattern_parts") rfl)
  obtain ⟨fd_pattern_parts, Fk_pattern_parts⟩ := c.def_ 13 (d := d_pattern_parts) rfl
  have Fk_pattern_parts : FunD K "pattern_parts" "pattern_parts" (defArgs sPP) (defBody sPP) (defScope sPP) [] [] (ga K "pattern_parts") fd_pattern_parts := Fk_pattern_parts
  have F_pattern_parts : Fun K "pattern_parts" "pattern_parts" sPP (ga K "pattern_parts") fd_pattern_parts := fun_of Fk_pattern_parts
  have D_pattern_parts : Dn K mg "pattern_parts" sPP ["kind", "pattern"] (ga K "pattern_parts") fd_pattern_parts := ⟨F_pattern_parts, g_pattern_parts, F_pattern_parts.binds (ps := ["kind", "pattern"]) fun _ _ _ _ _ _ us hl => match us, hl with | [_, _], _ => rfl⟩
  have g_rule_parts := glo_ok X G (ft 16 (f := .glo "rule_parts") rfl)
  obtain ⟨fd_rule_parts, Fk_rule_parts⟩ := c.def_ 14 (d := d_rule_parts) rfl
  have Fk_rule_parts : FunD K "rule_parts" "rule_parts" (defArgs sRP) (defBody sRP) (defScope sRP) [] [] (ga K "rule_parts") fd_rule_parts := Fk_rule_parts
  have F_rule_parts : Fun K "rule_parts" "rule_parts" sRP (ga K "rule_parts") fd_rule_parts := fun_of Fk_rule_parts
  have D_rule_parts : Dn K mg "rule_parts" sRP ["rule"] (ga K "rule_parts") fd_rule_parts := ⟨F_rule_parts, g_rule_parts, F_rule_parts.binds (ps := ["rule"]) fun _ _ _ _ _ _ us hl => match us, hl with | [_], _ => rfl⟩
  have g_making_parts := glo_ok X G (ft 17 (f := .glo "making_parts") rfl)
  obtain ⟨fd_making_parts, Fk_making_parts⟩ := c.def_ 15 (d := d_making_parts) rfl
  have Fk_making_parts : FunD K "making_parts" "making_parts" (defArgs sMP) (defBody sMP) (defScope sMP) [] [] (ga K "making_parts") fd_making_parts := Fk_making_parts
  have F_making_parts : Fun K "making_parts" "making_parts" sMP (ga K "making_parts") fd_making_parts := fun_of Fk_making_parts
  have D_making_parts : Dn K mg "making_parts" sMP ["making"] (ga K "making_parts") fd_making_parts := ⟨F_making_parts, g_making_parts, F_making_parts.binds (ps := ["making"]) fun _ _ _ _ _ _ us hl => match us, hl with | [_], _ => rfl⟩
  have g_own_list := glo_ok X G (ft 18 (f := .glo "own_list") rfl)
  obtain ⟨fd_own_list, Fk_own_list⟩ := c.def_ 16 (d := d_own_list) rfl
  have Fk_own_list : FunD K "own_list" "own_list" (defArgs sOL) (defBody sOL) (defScope sOL) [] [] (ga K "own_list") fd_own_list := Fk_own_list
  have F_own_list : Fun K "own_list" "own_list" sOL (ga K "own_list") fd_own_list := fun_of Fk_own_list
  have D_own_list : Dn K mg "own_list" sOL ["rows"] (ga K "own_list") fd_own_list := ⟨F_own_list, g_own_list, F_own_list.binds (ps := ["rows"]) fun _ _ _ _ _ _ us hl => match us, hl with | [_], _ => rfl⟩
  have g_refuse_makings_twice := glo_ok X G (ft 19 (f := .glo "refuse_makings_twice") rfl)
  obtain ⟨fd_refuse_makings_twice, Fk_refuse_makings_twice⟩ := c.def_ 17 (d := d_refuse_makings_twice) rfl
  have Fk_refuse_makings_twice : FunD K "refuse_makings_twice" "refuse_makings_twice" (defArgs sRMT) (defBody sRMT) (defScope sRMT) [] [] (ga K "refuse_makings_twice") fd_refuse_makings_twice := Fk_refuse_makings_twice
  have F_refuse_makings_twice : Fun K "refuse_makings_twice" "refuse_makings_twice" sRMT (ga K "refuse_makings_twice") fd_refuse_makings_twice := fun_of Fk_refuse_makings_twice
  have D_refuse_makings_twice : Dn K mg "refuse_makings_twice" sRMT ["makings"] (ga K "refuse_makings_twice") fd_refuse_makings_twice := ⟨F_refuse_makings_twice, g_refuse_makings_twice, F_refuse_makings_twice.binds (ps := ["makings"]) fun _ _ _ _ _ _ us hl => match us, hl with | [_], _ => rfl⟩
  have g_refuse_no_sort := glo_ok X G (ft 20 (f := .glo "refuse_no_sort") rfl)
  obtain ⟨fd_refuse_no_sort, Fk_refuse_no_sort⟩ := c.def_ 18 (d := d_refuse_no_sort) rfl
  have Fk_refuse_no_sort : FunD K "refuse_no_sort" "refuse_no_sort" (defArgs sRNS) (defBody sRNS) (defScope sRNS) [] [] (ga K "refuse_no_sort") fd_refuse_no_sort := Fk_refuse_no_sort
  have F_refuse_no_sort : Fun K "refuse_no_sort" "refuse_no_sort" sRNS (ga K "refuse_no_sort") fd_refuse_no_sort := fun_of Fk_refuse_no_sort
  have D_refuse_no_sort : Dn K mg "refuse_no_sort" sRNS ["sorts", "makings", "patterns"] (ga K "refuse_no_sort") fd_refuse_no_sort := ⟨F_refuse_no_sort, g_refuse_no_sort, F_refuse_no_sort.binds (ps := ["sorts", "makings", "patterns"]) fun _ _ _ _ _ _ us hl => match us, hl with | [_, _, _], _ => rfl⟩
  have g_refuse_upward := glo_ok X G (ft 21 (f := .glo "refuse_upward") rfl)
  obtain ⟨fd_refuse_upward, Fk_refuse_upward⟩ := c.def_ 19 (d := d_refuse_upward) rfl
  have Fk_refuse_upward : FunD K "refuse_upward" "refuse_upward" (defArgs sRU) (defBody sRU) (defScope sRU) [] [] (ga K "refuse_upward") fd_refuse_upward := Fk_refuse_upward
  have F_refuse_upward : Fun K "refuse_upward" "refuse_upward" sRU (ga K "refuse_upward") fd_refuse_upward := fun_of Fk_refuse_upward
  have D_refuse_upward : Dn K mg "refuse_upward" sRU ["sorts", "makings"] (ga K "refuse_upward") fd_refuse_upward := ⟨F_refuse_upward, g_refuse_upward, F_refuse_upward.binds (ps := ["sorts", "makings"]) fun _ _ _ _ _ _ us hl => match us, hl with | [_, _], _ => rfl⟩
  have g_refuse_no_word := glo_ok X G (ft 22 (f := .glo "refuse_no_word") rfl)
  obtain ⟨fd_refuse_no_word, Fk_refuse_no_word⟩ := c.def_ 20 (d := d_refuse_no_word) rfl
  have Fk_refuse_no_word : FunD K "refuse_no_word" "refuse_no_word" (defArgs sRNW) (defBody sRNW) (defScope sRNW) [] [] (ga K "refuse_no_word") fd_refuse_no_word := Fk_refuse_no_word
  have F_refuse_no_word : Fun K "refuse_no_word" "refuse_no_word" sRNW (ga K "refuse_no_word") fd_refuse_no_word := fun_of Fk_refuse_no_word
  have D_refuse_no_word : Dn K mg "refuse_no_word" sRNW ["words", "makings", "rules", "bars"] (ga K "refuse_no_word") fd_refuse_no_word := ⟨F_refuse_no_word, g_refuse_no_word, F_refuse_no_word.binds (ps := ["words", "makings", "rules", "bars"]) fun _ _ _ _ _ _ us hl => match us, hl with | [_, _, _, _], _ => rfl⟩
  have g_check_scheme := glo_ok X G (ft 23 (f := .glo "check_scheme") rfl)
  obtain ⟨fd_check_scheme, Fk_check_scheme⟩ := c.def_ 21 (d := d_check_scheme) rfl
  have Fk_check_scheme : FunD K "check_scheme" "check_scheme" (defArgs sCS) (defBody sCS) (defScope sCS) [] [] (ga K "check_scheme") fd_check_scheme := Fk_check_scheme
  have F_check_scheme : Fun K "check_scheme" "check_scheme" sCS (ga K "check_scheme") fd_check_scheme := fun_of Fk_check_scheme
  have D_check_scheme : Dn K mg "check_scheme" sCS ["sorts", "words", "makings", "rules", "bars"] (ga K "check_scheme") fd_check_scheme := ⟨F_check_scheme, g_check_scheme, F_check_scheme.binds (ps := ["sorts", "words", "makings", "rules", "bars"]) fun _ _ _ _ _ _ us hl => match us, hl with | [_, _, _, _, _], _ => rfl⟩
  have g_parts_of := glo_ok X G (ft 24 (f := .glo "parts_of") rfl)
  obtain ⟨fd_parts_of, Fk_parts_of⟩ := c.def_ 22 (d := d_parts_of) rfl
  have Fk_parts_of : FunD K "parts_of" "parts_of" (defArgs sPo) (defBody sPo) (defScope sPo) [] [] (ga K "parts_of") fd_parts_of := Fk_parts_of
  have F_parts_of : Fun K "parts_of" "parts_of" sPo (ga K "parts_of") fd_parts_of := fun_of Fk_parts_of
  have D_parts_of : Dn K mg "parts_of" sPo ["row"] (ga K "parts_of") fd_parts_of := ⟨F_parts_of, g_parts_of, F_parts_of.binds (ps := ["row"]) fun _ _ _ _ _ _ us hl => match us, hl with | [_], _ => rfl⟩
  have g_place_of := glo_ok X G (ft 25 (f := .glo "place_of") rfl)
  obtain ⟨fd_place_of, Fk_place_of⟩ := c.def_ 23 (d := d_place_of) rfl
  have Fk_place_of : FunD K "place_of" "place_of" (defArgs sPl) (defBody sPl) (defScope sPl) [] [] (ga K "place_of") fd_place_of := Fk_place_of
  have F_place_of : Fun K "place_of" "place_of" sPl (ga K "place_of") fd_place_of := fun_of Fk_place_of
  have D_place_of : Dn K mg "place_of" sPl ["parts", "signs", "start"] (ga K "place_of") fd_place_of := ⟨F_place_of, g_place_of, F_place_of.binds (ps := ["parts", "signs", "start"]) fun _ _ _ _ _ _ us hl => match us, hl with | [_, _, _], _ => rfl⟩
  have g_variable_of := glo_ok X G (ft 26 (f := .glo "variable_of") rfl)
  obtain ⟨fd_variable_of, Fk_variable_of⟩ := c.def_ 24 (d := d_variable_of) rfl
  have Fk_variable_of : FunD K "variable_of" "variable_of" (defArgs sVo) (defBody sVo) (defScope sVo) [] [] (ga K "variable_of") fd_variable_of := Fk_variable_of
  have F_variable_of : Fun K "variable_of" "variable_of" sVo (ga K "variable_of") fd_variable_of := fun_of Fk_variable_of
  have D_variable_of : Dn K mg "variable_of" sVo ["part"] (ga K "variable_of") fd_variable_of := ⟨F_variable_of, g_variable_of, F_variable_of.binds (ps := ["part"]) fun _ _ _ _ _ _ us hl => match us, hl with | [_], _ => rfl⟩
  have g_pattern_draft := glo_ok X G (ft 27 (f := .glo "pattern_draft") rfl)
  obtain ⟨fd_pattern_draft, Fk_pattern_draft⟩ := c.def_ 25 (d := d_pattern_draft) rfl
  have Fk_pattern_draft : FunD K "pattern_draft" "pattern_draft" (defArgs sPd) (defBody sPd) (defScope sPd) [] [] (ga K "pattern_draft") fd_pattern_draft := Fk_pattern_draft
  have F_pattern_draft : Fun K "pattern_draft" "pattern_draft" sPd (ga K "pattern_draft") fd_pattern_draft := fun_of Fk_pattern_draft
  have D_pattern_draft : Dn K mg "pattern_draft" sPd ["parts"] (ga K "pattern_draft") fd_pattern_draft := ⟨F_pattern_draft, g_pattern_draft, F_pattern_draft.binds (ps := ["parts"]) fun _ _ _ _ _ _ us hl => match us, hl with | [_], _ => rfl⟩
  have g_bar_draft := glo_ok X G (ft 28 (f := .glo "bar_draft") rfl)
  obtain ⟨fd_bar_draft, Fk_bar_draft⟩ := c.def_ 26 (d := d_bar_draft) rfl
  have Fk_bar_draft : FunD K "bar_draft" "bar_draft" (defArgs sBd) (defBody sBd) (defScope sBd) [] [] (ga K "bar_draft") fd_bar_draft := Fk_bar_draft
  have F_bar_draft : Fun K "bar_draft" "bar_draft" sBd (ga K "bar_draft") fd_bar_draft := fun_of Fk_bar_draft
  have D_bar_draft : Dn K mg "bar_draft" sBd ["parts"] (ga K "bar_draft") fd_bar_draft := ⟨F_bar_draft, g_bar_draft, F_bar_draft.binds (ps := ["parts"]) fun _ _ _ _ _ _ us hl => match us, hl with | [_], _ => rfl⟩
  have g_rule_draft := glo_ok X G (ft 29 (f := .glo "rule_draft") rfl)
  obtain ⟨fd_rule_draft, Fk_rule_draft⟩ := c.def_ 27 (d := d_rule_draft) rfl
  have Fk_rule_draft : FunD K "rule_draft" "rule_draft" (defArgs sRd) (defBody sRd) (defScope sRd) [] [] (ga K "rule_draft") fd_rule_draft := Fk_rule_draft
  have F_rule_draft : Fun K "rule_draft" "rule_draft" sRd (ga K "rule_draft") fd_rule_draft := fun_of Fk_rule_draft
  have D_rule_draft : Dn K mg "rule_draft" sRd ["parts"] (ga K "rule_draft") fd_rule_draft := ⟨F_rule_draft, g_rule_draft, F_rule_draft.binds (ps := ["parts"]) fun _ _ _ _ _ _ us hl => match us, hl with | [_], _ => rfl⟩
  have g_making_draft := glo_ok X G (ft 30 (f := .glo "making_draft") rfl)
  obtain ⟨fd_making_draft, Fk_making_draft⟩ := c.def_ 28 (d := d_making_draft) rfl
  have Fk_making_draft : FunD K "making_draft" "making_draft" (defArgs sMd) (defBody sMd) (defScope sMd) [] [] (ga K "making_draft") fd_making_draft := Fk_making_draft
  have F_making_draft : Fun K "making_draft" "making_draft" sMd (ga K "making_draft") fd_making_draft := fun_of Fk_making_draft
  have D_making_draft : Dn K mg "making_draft" sMd ["parts"] (ga K "making_draft") fd_making_draft := ⟨F_making_draft, g_making_draft, F_making_draft.binds (ps := ["parts"]) fun _ _ _ _ _ _ us hl => match us, hl with | [_], _ => rfl⟩
  have g_draft_of := glo_ok X G (ft 31 (f := .glo "draft_of") rfl)
  obtain ⟨fd_draft_of, Fk_draft_of⟩ := c.def_ 29 (d := d_draft_of) rfl
  have Fk_draft_of : FunD K "draft_of" "draft_of" (defArgs sDf) (defBody sDf) (defScope sDf) [] [] (ga K "draft_of") fd_draft_of := Fk_draft_of
  have F_draft_of : Fun K "draft_of" "draft_of" sDf (ga K "draft_of") fd_draft_of := fun_of Fk_draft_of
  have D_draft_of : Dn K mg "draft_of" sDf ["row", "number"] (ga K "draft_of") fd_draft_of := ⟨F_draft_of, g_draft_of, F_draft_of.binds (ps := ["row", "number"]) fun _ _ _ _ _ _ us hl => match us, hl with | [_, _], _ => rfl⟩
  have g_made_of := glo_ok X G (ft 32 (f := .glo "made_of") rfl)
  obtain ⟨fd_made_of, Fk_made_of⟩ := c.def_ 30 (d := d_made_of) rfl
  have Fk_made_of : FunD K "made_of" "made_of" (defArgs sMo) (defBody sMo) (defScope sMo) [] [] (ga K "made_of") fd_made_of := Fk_made_of
  have F_made_of : Fun K "made_of" "made_of" sMo (ga K "made_of") fd_made_of := fun_of Fk_made_of
  have D_made_of : Dn K mg "made_of" sMo ["kind", "draft"] (ga K "made_of") fd_made_of := ⟨F_made_of, g_made_of, F_made_of.binds (ps := ["kind", "draft"]) fun _ _ _ _ _ _ us hl => match us, hl with | [_, _], _ => rfl⟩
  have g_names_behind := glo_ok X G (ft 33 (f := .glo "names_behind") rfl)
  obtain ⟨fd_names_behind, Fk_names_behind⟩ := c.def_ 31 (d := d_names_behind) rfl
  have Fk_names_behind : FunD K "names_behind" "names_behind" (defArgs sNb) (defBody sNb) (defScope sNb) [] [] (ga K "names_behind") fd_names_behind := Fk_names_behind
  have F_names_behind : Fun K "names_behind" "names_behind" sNb (ga K "names_behind") fd_names_behind := fun_of Fk_names_behind
  have D_names_behind : Dn K mg "names_behind" sNb ["rows", "number", "word"] (ga K "names_behind") fd_names_behind := ⟨F_names_behind, g_names_behind, F_names_behind.binds (ps := ["rows", "number", "word"]) fun _ _ _ _ _ _ us hl => match us, hl with | [_, _, _], _ => rfl⟩
  have g_scheme_rows := glo_ok X G (ft 34 (f := .glo "scheme_rows") rfl)
  obtain ⟨fd_scheme_rows, Fk_scheme_rows⟩ := c.def_ 32 (d := d_scheme_rows) rfl
  have Fk_scheme_rows : FunD K "scheme_rows" "scheme_rows" (defArgs sSw) (defBody sSw) (defScope sSw) [] [] (ga K "scheme_rows") fd_scheme_rows := Fk_scheme_rows
  have F_scheme_rows : Fun K "scheme_rows" "scheme_rows" sSw (ga K "scheme_rows") fd_scheme_rows := fun_of Fk_scheme_rows
  have D_scheme_rows : Dn K mg "scheme_rows" sSw ["scheme"] (ga K "scheme_rows") fd_scheme_rows := ⟨F_scheme_rows, g_scheme_rows, F_scheme_rows.binds (ps := ["scheme"]) fun _ _ _ _ _ _ us hl => match us, hl with | [_], _ => rfl⟩
  have g_read_scheme := glo_ok X G (ft 35 (f := .glo "read_scheme") rfl)
  obtain ⟨fd_read_scheme, Fk_read_scheme⟩ := c.def_ 33 (d := d_read_scheme) rfl
  have Fk_read_scheme : FunD K "read_scheme" "read_scheme" (defArgs sRs) (defBody sRs) (defScope sRs) [] [] (ga K "read_scheme") fd_read_scheme := Fk_read_scheme
  have F_read_scheme : Fun K "read_scheme" "read_scheme" sRs (ga K "read_scheme") fd_read_scheme := fun_of Fk_read_scheme
  have D_read_scheme : Dn K mg "read_scheme" sRs ["rows"] (ga K "read_scheme") fd_read_scheme := ⟨F_read_scheme, g_read_scheme, F_read_scheme.binds (ps := ["rows"]) fun _ _ _ _ _ _ us hl => match us, hl with | [_], _ => rfl⟩
  have g__law_pot := glo_ok X G (ft 36 (f := .glo "_law_pot") rfl)
  obtain ⟨fd__law_pot, Fk__law_pot⟩ := c.def_ 34 (d := d__law_pot) rfl
  have Fk__law_pot : FunD K "_law_pot" "_law_pot" (defArgs sPot) (defBody sPot) (defScope sPot) [] [] (ga K "_law_pot") fd__law_pot := Fk__law_pot
  have F__law_pot : Fun K "_law_pot" "_law_pot" sPot (ga K "_law_pot") fd__law_pot := fun_of Fk__law_pot
  have D__law_pot : Dn K mg "_law_pot" sPot ["_law_script"] (ga K "_law_pot") fd__law_pot := ⟨F__law_pot, g__law_pot, F__law_pot.binds (ps := ["_law_script"]) fun _ _ _ _ _ _ us hl => match us, hl with | [_], _ => rfl⟩
  have g__law_mixed := glo_ok X G (ft 37 (f := .glo "_law_mixed") rfl)
  obtain ⟨fd__law_mixed, Fk__law_mixed⟩ := c.def_ 35 (d := d__law_mixed) rfl
  have Fk__law_mixed : FunD K "_law_mixed" "_law_mixed" (defArgs sMix) (defBody sMix) (defScope sMix) [] [] (ga K "_law_mixed") fd__law_mixed := Fk__law_mixed
  have F__law_mixed : Fun K "_law_mixed" "_law_mixed" sMix (ga K "_law_mixed") fd__law_mixed := fun_of Fk__law_mixed
  have D__law_mixed : Dn K mg "_law_mixed" sMix ["_law_cell", "_law_k"] (ga K "_law_mixed") fd__law_mixed := ⟨F__law_mixed, g__law_mixed, F__law_mixed.binds (ps := ["_law_cell", "_law_k"]) fun _ _ _ _ _ _ us hl => match us, hl with | [_, _], _ => rfl⟩
  have g__law_take := glo_ok X G (ft 38 (f := .glo "_law_take") rfl)
  obtain ⟨fd__law_take, Fk__law_take⟩ := c.def_ 36 (d := d__law_take) rfl
  have Fk__law_take : FunD K "_law_take" "_law_take" (defArgs sTak) (defBody sTak) (defScope sTak) [] [] (ga K "_law_take") fd__law_take := Fk__law_take
  have F__law_take : Fun K "_law_take" "_law_take" sTak (ga K "_law_take") fd__law_take := fun_of Fk__law_take
  have D__law_take : Dn K mg "_law_take" sTak ["_law_pot_here", "_law_many"] (ga K "_law_take") fd__law_take := ⟨F__law_take, g__law_take, F__law_take.binds (ps := ["_law_pot_here", "_law_many"]) fun _ _ _ _ _ _ us hl => match us, hl with | [_, _], _ => rfl⟩
  have g__law_name_at := glo_ok X G (ft 39 (f := .glo "_law_name_at") rfl)
  obtain ⟨fd__law_name_at, Fk__law_name_at⟩ := c.def_ 37 (d := d__law_name_at) rfl
  have Fk__law_name_at : FunD K "_law_name_at" "_law_name_at" (defArgs sNAt) (defBody sNAt) (defScope sNAt) [] [] (ga K "_law_name_at") fd__law_name_at := Fk__law_name_at
  have F__law_name_at : Fun K "_law_name_at" "_law_name_at" sNAt (ga K "_law_name_at") fd__law_name_at := fun_of Fk__law_name_at
  have D__law_name_at : Dn K mg "_law_name_at" sNAt ["_law_index"] (ga K "_law_name_at") fd__law_name_at := ⟨F__law_name_at, g__law_name_at, F__law_name_at.binds (ps := ["_law_index"]) fun _ _ _ _ _ _ us hl => match us, hl with | [_], _ => rfl⟩
  have g__law_large := glo_ok X G (ft 40 (f := .glo "_law_large") rfl)
  obtain ⟨fd__law_large, Fk__law_large⟩ := c.def_ 38 (d := d__law_large) rfl
  have Fk__law_large : FunD K "_law_large" "_law_large" (defArgs sLrg) (defBody sLrg) (defScope sLrg) [] [] (ga K "_law_large") fd__law_large := Fk__law_large
  have F__law_large : Fun K "_law_large" "_law_large" sLrg (ga K "_law_large") fd__law_large := fun_of Fk__law_large
  have D__law_large : Dn K mg "_law_large" sLrg ["_law_pot_here", "_law_many"] (ga K "_law_large") fd__law_large := ⟨F__law_large, g__law_large, F__law_large.binds (ps := ["_law_pot_here", "_law_many"]) fun _ _ _ _ _ _ us hl => match us, hl with | [_, _], _ => rfl⟩
  have g__law_name := glo_ok X G (ft 41 (f := .glo "_law_name") rfl)
  obtain ⟨fd__law_name, Fk__law_name⟩ := c.def_ 39 (d := d__law_name) rfl
  have Fk__law_name : FunD K "_law_name" "_law_name" (defArgs sNam) (defBody sNam) (defScope sNam) [] [] (ga K "_law_name") fd__law_name := Fk__law_name
  have F__law_name : Fun K "_law_name" "_law_name" sNam (ga K "_law_name") fd__law_name := fun_of Fk__law_name
  have D__law_name : Dn K mg "_law_name" sNam ["_law_pot_here", "_law_taken"] (ga K "_law_name") fd__law_name := ⟨F__law_name, g__law_name, F__law_name.binds (ps := ["_law_pot_here", "_law_taken"]) fun _ _ _ _ _ _ us hl => match us, hl with | [_, _], _ => rfl⟩
  have g__law_names := glo_ok X G (ft 42 (f := .glo "_law_names") rfl)
  obtain ⟨fd__law_names, Fk__law_names⟩ := c.def_ 40 (d := d__law_names) rfl
  have Fk__law_names : FunD K "_law_names" "_law_names" (defArgs sNms) (defBody sNms) (defScope sNms) [] [] (ga K "_law_names") fd__law_names := Fk__law_names
  have F__law_names : Fun K "_law_names" "_law_names" sNms (ga K "_law_names") fd__law_names := fun_of Fk__law_names
  have D__law_names : Dn K mg "_law_names" sNms ["_law_pot_here", "_law_many"] (ga K "_law_names") fd__law_names := ⟨F__law_names, g__law_names, F__law_names.binds (ps := ["_law_pot_here", "_law_many"]) fun _ _ _ _ _ _ us hl => match us, hl with | [_, _], _ => rfl⟩
  have g__law_some := glo_ok X G (ft 43 (f := .glo "_law_some") rfl)
  obtain ⟨fd__law_some, Fk__law_some⟩ := c.def_ 41 (d := d__law_some) rfl
  have Fk__law_some : FunD K "_law_some" "_law_some" (defArgs sSom) (defBody sSom) (defScope sSom) [] [] (ga K "_law_some") fd__law_some := Fk__law_some
  have F__law_some : Fun K "_law_some" "_law_some" sSom (ga K "_law_some") fd__law_some := fun_of Fk__law_some
  have D__law_some : Dn K mg "_law_some" sSom ["_law_pot_here", "_law_words"] (ga K "_law_some") fd__law_some := ⟨F__law_some, g__law_some, F__law_some.binds (ps := ["_law_pot_here", "_law_words"]) fun _ _ _ _ _ _ us hl => match us, hl with | [_, _], _ => rfl⟩
  have g__law_pattern := glo_ok X G (ft 44 (f := .glo "_law_pattern") rfl)
  obtain ⟨fd__law_pattern, Fk__law_pattern⟩ := c.def_ 42 (d := d__law_pattern) rfl
  have Fk__law_pattern : FunD K "_law_pattern" "_law_pattern" (defArgs sPat) (defBody sPat) (defScope sPat) [] [] (ga K "_law_pattern") fd__law_pattern := Fk__law_pattern
  have F__law_pattern : Fun K "_law_pattern" "_law_pattern" sPat (ga K "_law_pattern") fd__law_pattern := fun_of Fk__law_pattern
  have D__law_pattern : Dn K mg "_law_pattern" sPat ["_law_pot_here", "_law_sorts", "_law_words"] (ga K "_law_pattern") fd__law_pattern := ⟨F__law_pattern, g__law_pattern, F__law_pattern.binds (ps := ["_law_pot_here", "_law_sorts", "_law_words"]) fun _ _ _ _ _ _ us hl => match us, hl with | [_, _, _], _ => rfl⟩
  have g__law_rule := glo_ok X G (ft 45 (f := .glo "_law_rule") rfl)
  obtain ⟨fd__law_rule, Fk__law_rule⟩ := c.def_ 43 (d := d__law_rule) rfl
  have Fk__law_rule : FunD K "_law_rule" "_law_rule" (defArgs sRu) (defBody sRu) (defScope sRu) [] [] (ga K "_law_rule") fd__law_rule := Fk__law_rule
  have F__law_rule : Fun K "_law_rule" "_law_rule" sRu (ga K "_law_rule") fd__law_rule := fun_of Fk__law_rule
  have D__law_rule : Dn K mg "_law_rule" sRu ["_law_pot_here", "_law_sorts", "_law_words", "_law_taken"] (ga K "_law_rule") fd__law_rule := ⟨F__law_rule, g__law_rule, F__law_rule.binds (ps := ["_law_pot_here", "_law_sorts", "_law_words", "_law_taken"]) fun _ _ _ _ _ _ us hl => match us, hl with | [_, _, _, _], _ => rfl⟩
  have g__law_pattern_parts := glo_ok X G (ft 46 (f := .glo "_law_pattern_parts") rfl)
  obtain ⟨fd__law_pattern_parts, Fk__law_pattern_parts⟩ := c.def_ 44 (d := d__law_pattern_parts) rfl
  have Fk__law_pattern_parts : FunD K "_law_pattern_parts" "_law_pattern_parts" (defArgs sPpt) (defBody sPpt) (defScope sPpt) [] [] (ga K "_law_pattern_parts") fd__law_pattern_parts := Fk__law_pattern_parts
  have F__law_pattern_parts : Fun K "_law_pattern_parts" "_law_pattern_parts" sPpt (ga K "_law_pattern_parts") fd__law_pattern_parts := fun_of Fk__law_pattern_parts
  have D__law_pattern_parts : Dn K mg "_law_pattern_parts" sPpt ["_law_kind", "_law_name_here", "_law_variables", "_law_conditions"] (ga K "_law_pattern_parts") fd__law_pattern_parts := ⟨F__law_pattern_parts, g__law_pattern_parts, F__law_pattern_parts.binds (ps := ["_law_kind", "_law_name_here", "_law_variables", "_law_conditions"]) fun _ _ _ _ _ _ us hl => match us, hl with | [_, _, _, _], _ => rfl⟩
  have g__law_rule_row := glo_ok X G (ft 47 (f := .glo "_law_rule_row") rfl)
  obtain ⟨fd__law_rule_row, Fk__law_rule_row⟩ := c.def_ 45 (d := d__law_rule_row) rfl
  have Fk__law_rule_row : FunD K "_law_rule_row" "_law_rule_row" (defArgs sRr) (defBody sRr) (defScope sRr) [] [] (ga K "_law_rule_row") fd__law_rule_row := Fk__law_rule_row
  have F__law_rule_row : Fun K "_law_rule_row" "_law_rule_row" sRr (ga K "_law_rule_row") fd__law_rule_row := fun_of Fk__law_rule_row
  have D__law_rule_row : Dn K mg "_law_rule_row" sRr ["_law_rule_here"] (ga K "_law_rule_row") fd__law_rule_row := ⟨F__law_rule_row, g__law_rule_row, F__law_rule_row.binds (ps := ["_law_rule_here"]) fun _ _ _ _ _ _ us hl => match us, hl with | [_], _ => rfl⟩
  have g__law_making_row := glo_ok X G (ft 48 (f := .glo "_law_making_row") rfl)
  obtain ⟨fd__law_making_row, Fk__law_making_row⟩ := c.def_ 46 (d := d__law_making_row) rfl
  have Fk__law_making_row : FunD K "_law_making_row" "_law_making_row" (defArgs sMr) (defBody sMr) (defScope sMr) [] [] (ga K "_law_making_row") fd__law_making_row := Fk__law_making_row
  have F__law_making_row : Fun K "_law_making_row" "_law_making_row" sMr (ga K "_law_making_row") fd__law_making_row := fun_of Fk__law_making_row
  have D__law_making_row : Dn K mg "_law_making_row" sMr ["_law_making"] (ga K "_law_making_row") fd__law_making_row := ⟨F__law_making_row, g__law_making_row, F__law_making_row.binds (ps := ["_law_making"]) fun _ _ _ _ _ _ us hl => match us, hl with | [_], _ => rfl⟩
  have g__law_makers := glo_ok X G (ft 49 (f := .glo "_law_makers") rfl)
  obtain ⟨fd__law_makers, Fk__law_makers⟩ := c.def_ 47 (d := d__law_makers) rfl
  have Fk__law_makers : FunD K "_law_makers" "_law_makers" (defArgs sMks) (defBody sMks) (defScope sMks) [] [] (ga K "_law_makers") fd__law_makers := Fk__law_makers
  have F__law_makers : Fun K "_law_makers" "_law_makers" sMks (ga K "_law_makers") fd__law_makers := fun_of Fk__law_makers
  have D__law_makers : Dn K mg "_law_makers" sMks ["_law_pot_here", "_law_sorts", "_law_words"] (ga K "_law_makers") fd__law_makers := ⟨F__law_makers, g__law_makers, F__law_makers.binds (ps := ["_law_pot_here", "_law_sorts", "_law_words"]) fun _ _ _ _ _ _ us hl => match us, hl with | [_, _, _], _ => rfl⟩
  have g__law_lends := glo_ok X G (ft 50 (f := .glo "_law_lends") rfl)
  obtain ⟨fd__law_lends, Fk__law_lends⟩ := c.def_ 48 (d := d__law_lends) rfl
  have Fk__law_lends : FunD K "_law_lends" "_law_lends" (defArgs sLe) (defBody sLe) (defScope sLe) [] [] (ga K "_law_lends") fd__law_lends := Fk__law_lends
  have F__law_lends : Fun K "_law_lends" "_law_lends" sLe (ga K "_law_lends") fd__law_lends := fun_of Fk__law_lends
  have D__law_lends : Dn K mg "_law_lends" sLe ["_law_pot_here", "_law_sorts", "_law_words", "_law_many"] (ga K "_law_lends") fd__law_lends := ⟨F__law_lends, g__law_lends, F__law_lends.binds (ps := ["_law_pot_here", "_law_sorts", "_law_words", "_law_many"]) fun _ _ _ _ _ _ us hl => match us, hl with | [_, _, _, _], _ => rfl⟩
  have g__law_scheme := glo_ok X G (ft 51 (f := .glo "_law_scheme") rfl)
  obtain ⟨fd__law_scheme, Fk__law_scheme⟩ := c.def_ 49 (d := d__law_scheme) rfl
  have Fk__law_scheme : FunD K "_law_scheme" "_law_scheme" (defArgs sSc) (defBody sSc) (defScope sSc) [] [] (ga K "_law_scheme") fd__law_scheme := Fk__law_scheme
  have F__law_scheme : Fun K "_law_scheme" "_law_scheme" sSc (ga K "_law_scheme") fd__law_scheme := fun_of Fk__law_scheme
  have D__law_scheme : Dn K mg "_law_scheme" sSc ["_law_pot_here"] (ga K "_law_scheme") fd__law_scheme := ⟨F__law_scheme, g__law_scheme, F__law_scheme.binds (ps := ["_law_pot_here"]) fun _ _ _ _ _ _ us hl => match us, hl with | [_], _ => rfl⟩
  have g__law_stop_row := glo_ok X G (ft 52 (f := .glo "_law_stop_row") rfl)
  obtain ⟨fd__law_stop_row, Fk__law_stop_row⟩ := c.def_ 50 (d := d__law_stop_row) rfl
  have Fk__law_stop_row : FunD K "_law_stop_row" "_law_stop_row" (defArgs sSr) (defBody sSr) (defScope sSr) [] [] (ga K "_law_stop_row") fd__law_stop_row := Fk__law_stop_row
  have F__law_stop_row : Fun K "_law_stop_row" "_law_stop_row" sSr (ga K "_law_stop_row") fd__law_stop_row := fun_of Fk__law_stop_row
  have D__law_stop_row : Dn K mg "_law_stop_row" sSr ["_law_stop"] (ga K "_law_stop_row") fd__law_stop_row := ⟨F__law_stop_row, g__law_stop_row, F__law_stop_row.binds (ps := ["_law_stop"]) fun _ _ _ _ _ _ us hl => match us, hl with | [_], _ => rfl⟩
  have g__law_rows := glo_ok X G (ft 53 (f := .glo "_law_rows") rfl)
  obtain ⟨fd__law_rows, Fk__law_rows⟩ := c.def_ 51 (d := d__law_rows) rfl
  have Fk__law_rows : FunD K "_law_rows" "_law_rows" (defArgs sRo) (defBody sRo) (defScope sRo) [] [] (ga K "_law_rows") fd__law_rows := Fk__law_rows
  have F__law_rows : Fun K "_law_rows" "_law_rows" sRo (ga K "_law_rows") fd__law_rows := fun_of Fk__law_rows
  have D__law_rows : Dn K mg "_law_rows" sRo ["_law_scheme_here"] (ga K "_law_rows") fd__law_rows := ⟨F__law_rows, g__law_rows, F__law_rows.binds (ps := ["_law_scheme_here"]) fun _ _ _ _ _ _ us hl => match us, hl with | [_], _ => rfl⟩
  have g__law_mingled := glo_ok X G (ft 54 (f := .glo "_law_mingled") rfl)
  obtain ⟨fd__law_mingled, Fk__law_mingled⟩ := c.def_ 52 (d := d__law_mingled) rfl
  have Fk__law_mingled : FunD K "_law_mingled" "_law_mingled" (defArgs sMi) (defBody sMi) (defScope sMi) [] [] (ga K "_law_mingled") fd__law_mingled := Fk__law_mingled
  have F__law_mingled : Fun K "_law_mingled" "_law_mingled" sMi (ga K "_law_mingled") fd__law_mingled := fun_of Fk__law_mingled
  have D__law_mingled : Dn K mg "_law_mingled" sMi ["_law_pot_here", "_law_rows_here"] (ga K "_law_mingled") fd__law_mingled := ⟨F__law_mingled, g__law_mingled, F__law_mingled.binds (ps := ["_law_pot_here", "_law_rows_here"]) fun _ _ _ _ _ _ us hl => match us, hl with | [_, _], _ => rfl⟩
  have g__law_made := glo_ok X G (ft 55 (f := .glo "_law_made") rfl)
  obtain ⟨fd__law_made, Fk__law_made⟩ := c.def_ 53 (d := d__law_made) rfl
  have Fk__law_made : FunD K "_law_made" "_law_made" (defArgs sMa) (defBody sMa) (defScope sMa) [] [] (ga K "_law_made") fd__law_made := Fk__law_made
  have F__law_made : Fun K "_law_made" "_law_made" sMa (ga K "_law_made") fd__law_made := fun_of Fk__law_made
  have D__law_made : Dn K mg "_law_made" sMa ["_law_scheme_here"] (ga K "_law_made") fd__law_made := ⟨F__law_made, g__law_made, F__law_made.binds (ps := ["_law_scheme_here"]) fun _ _ _ _ _ _ us hl => match us, hl with | [_], _ => rfl⟩
  have g__law_alike := glo_ok X G (ft 56 (f := .glo "_law_alike") rfl)
  obtain ⟨fd__law_alike, Fk__law_alike⟩ := c.def_ 54 (d := d__law_alike) rfl
  have Fk__law_alike : FunD K "_law_alike" "_law_alike" (defArgs sAl) (defBody sAl) (defScope sAl) [] [] (ga K "_law_alike") fd__law_alike := Fk__law_alike
  have F__law_alike : Fun K "_law_alike" "_law_alike" sAl (ga K "_law_alike") fd__law_alike := fun_of Fk__law_alike
  have D__law_alike : Dn K mg "_law_alike" sAl ["_law_found", "_law_made_here", "_law_scheme_here"] (ga K "_law_alike") fd__law_alike := ⟨F__law_alike, g__law_alike, F__law_alike.binds (ps := ["_law_found", "_law_made_here", "_law_scheme_here"]) fun _ _ _ _ _ _ us hl => match us, hl with | [_, _, _], _ => rfl⟩
  have g_law := glo_ok X G (ft 57 (f := .glo "law") rfl)
  obtain ⟨fd_law, Fk_law⟩ := c.def_ 55 (d := d_law) rfl
  have Fk_law : FunD K "law" "law" (defArgs sLaw) (defBody sLaw) (defScope sLaw) [] [] (ga K "law") fd_law := Fk_law
  have F_law : Fun K "law" "law" sLaw (ga K "law") fd_law := fun_of Fk_law
  have FLb := FunD.bindsA (ps := ["_law_script"]) Fk_law fun _ _ _ _ _ _ us hl => match us, hl with | [_], _ => rfl
  have g_Scheme := glo_ok X G (ft 58 (f := .glo "Scheme") rfl)
  have cls_Scheme := cls_ok (ft 59 (f := .cls "Scheme") rfl)
  have na_Scheme_own_sorts := noat_ok (ft 60 (f := .noat "Scheme" "own_sorts") rfl)
  have na_Scheme_own_words := noat_ok (ft 61 (f := .noat "Scheme" "own_words") rfl)
  have na_Scheme_own_makings := noat_ok (ft 62 (f := .noat "Scheme" "own_makings") rfl)
  have na_Scheme_own_rules := noat_ok (ft 63 (f := .noat "Scheme" "own_rules") rfl)
  have na_Scheme_own_bars := noat_ok (ft 64 (f := .noat "Scheme" "own_bars") rfl)
  have mk_Scheme := mkr_ok (ft 65 (f := .mkr "Scheme") rfl)
  have g_Bar := glo_ok X G (ft 66 (f := .glo "Bar") rfl)
  have cls_Bar := cls_ok (ft 67 (f := .cls "Bar") rfl)
  have na_Bar_name := noat_ok (ft 68 (f := .noat "Bar" "name") rfl)
  have na_Bar_variables := noat_ok (ft 69 (f := .noat "Bar" "variables") rfl)
  have na_Bar_conditions := noat_ok (ft 70 (f := .noat "Bar" "conditions") rfl)
  have mk_Bar := mkr_ok (ft 71 (f := .mkr "Bar") rfl)
  have g_Rule := glo_ok X G (ft 72 (f := .glo "Rule") rfl)
  have cls_Rule := cls_ok (ft 73 (f := .cls "Rule") rfl)
  have na_Rule_name := noat_ok (ft 74 (f := .noat "Rule" "name") rfl)
  have na_Rule_variables := noat_ok (ft 75 (f := .noat "Rule" "variables") rfl)
  have na_Rule_conditions := noat_ok (ft 76 (f := .noat "Rule" "conditions") rfl)
  have na_Rule_gives := noat_ok (ft 77 (f := .noat "Rule" "gives") rfl)
  have na_Rule_by := noat_ok (ft 78 (f := .noat "Rule" "by") rfl)
  have mk_Rule := mkr_ok (ft 79 (f := .mkr "Rule") rfl)
  have g_Making := glo_ok X G (ft 80 (f := .glo "Making") rfl)
  have cls_Making := cls_ok (ft 81 (f := .cls "Making") rfl)
  have na_Making_maker := noat_ok (ft 82 (f := .noat "Making" "maker") rfl)
  have na_Making_made := noat_ok (ft 83 (f := .noat "Making" "made") rfl)
  have na_Making_down := noat_ok (ft 84 (f := .noat "Making" "down") rfl)
  have na_Making_up := noat_ok (ft 85 (f := .noat "Making" "up") rfl)
  have mk_Making := mkr_ok (ft 86 (f := .mkr "Making") rfl)
  obtain ⟨fd_NoName___init__, Fk_NoName___init__⟩ := c.def_ 56 (d := d_NoName___init__) rfl
  have Fk_NoName___init__ : FunD K "__init__" "NoName.__init__" (defArgs sN0) (defBody sN0) (defScope sN0) [] [] (ma K (ga K "NoName") "__init__") fd_NoName___init__ := Fk_NoName___init__
  have F_NoName___init__ : Fun K "__init__" "NoName.__init__" sN0 (ma K (ga K "NoName") "__init__") fd_NoName___init__ := fun_of Fk_NoName___init__
  have b_NoName___init__ := F_NoName___init__.binds (ps := ["self", "name"]) fun _ _ _ _ _ _ us hl => match us, hl with | [_, _], _ => rfl
  obtain ⟨fd_Bar___init__, Fk_Bar___init__⟩ := c.def_ 57 (d := d_Bar___init__) rfl
  have Fk_Bar___init__ : FunD K "__init__" "Bar.__init__" (defArgs sBar) (defBody sBar) (defScope sBar) [] [] (ma K (ga K "Bar") "__init__") fd_Bar___init__ := Fk_Bar___init__
  have F_Bar___init__ : Fun K "__init__" "Bar.__init__" sBar (ma K (ga K "Bar") "__init__") fd_Bar___init__ := fun_of Fk_Bar___init__
  have b_Bar___init__ := F_Bar___init__.binds (ps := ["self", "name", "variables", "conditions"]) fun _ _ _ _ _ _ us hl => match us, hl with | [_, _, _, _], _ => rfl
  obtain ⟨fd_Rule___init__, Fk_Rule___init__⟩ := c.def_ 58 (d := d_Rule___init__) rfl
  have Fk_Rule___init__ : FunD K "__init__" "Rule.__init__" (defArgs sRul) (defBody sRul) (defScope sRul) [] [] (ma K (ga K "Rule") "__init__") fd_Rule___init__ := Fk_Rule___init__
  have F_Rule___init__ : Fun K "__init__" "Rule.__init__" sRul (ma K (ga K "Rule") "__init__") fd_Rule___init__ := fun_of Fk_Rule___init__
  have b_Rule___init__ := F_Rule___init__.binds (ps := ["self", "name", "variables", "conditions", "gives", "by"]) fun _ _ _ _ _ _ us hl => match us, hl with | [_, _, _, _, _, _], _ => rfl
  obtain ⟨fd_Making___init__, Fk_Making___init__⟩ := c.def_ 59 (d := d_Making___init__) rfl
  have Fk_Making___init__ : FunD K "__init__" "Making.__init__" (defArgs sMak) (defBody sMak) (defScope sMak) [] [] (ma K (ga K "Making") "__init__") fd_Making___init__ := Fk_Making___init__
  have F_Making___init__ : Fun K "__init__" "Making.__init__" sMak (ma K (ga K "Making") "__init__") fd_Making___init__ := fun_of Fk_Making___init__
  have b_Making___init__ := F_Making___init__.binds (ps := ["self", "maker", "made", "down", "up"]) fun _ _ _ _ _ _ us hl => match us, hl with | [_, _, _, _, _], _ => rfl
  obtain ⟨fd_Bar___eq__, Fk_Bar___eq__⟩ := c.def_ 60 (d := d_Bar___eq__) rfl
  have Fk_Bar___eq__ : FunD K "__eq__" "Bar.__eq__" (defArgs sBE) (defBody sBE) (defScope sBE) [] [] (ma K (ga K "Bar") "__eq__") fd_Bar___eq__ := Fk_Bar___eq__
  have F_Bar___eq__ : Fun K "__eq__" "Bar.__eq__" sBE (ma K (ga K "Bar") "__eq__") fd_Bar___eq__ := fun_of Fk_Bar___eq__
  have b_Bar___eq__ := F_Bar___eq__.binds (ps := ["self", "other"]) fun _ _ _ _ _ _ us hl => match us, hl with | [_, _], _ => rfl
  obtain ⟨fd_Bar___str__, Fk_Bar___str__⟩ := c.def_ 61 (d := d_Bar___str__) rfl
  have Fk_Bar___str__ : FunD K "__str__" "Bar.__str__" (defArgs sBS) (defBody sBS) (defScope sBS) [] [] (ma K (ga K "Bar") "__str__") fd_Bar___str__ := Fk_Bar___str__
  have F_Bar___str__ : Fun K "__str__" "Bar.__str__" sBS (ma K (ga K "Bar") "__str__") fd_Bar___str__ := fun_of Fk_Bar___str__
  have b_Bar___str__ := F_Bar___str__.binds (ps := ["self"]) fun _ _ _ _ _ _ us hl => match us, hl with | [_], _ => rfl
  obtain ⟨fd_Rule___eq__, Fk_Rule___eq__⟩ := c.def_ 62 (d := d_Rule___eq__) rfl
  have Fk_Rule___eq__ : FunD K "__eq__" "Rule.__eq__" (defArgs sRE) (defBody sRE) (defScope sRE) [] [] (ma K (ga K "Rule") "__eq__") fd_Rule___eq__ := Fk_Rule___eq__
  have F_Rule___eq__ : Fun K "__eq__" "Rule.__eq__" sRE (ma K (ga K "Rule") "__eq__") fd_Rule___eq__ := fun_of Fk_Rule___eq__
  have b_Rule___eq__ := F_Rule___eq__.binds (ps := ["self", "other"]) fun _ _ _ _ _ _ us hl => match us, hl with | [_, _], _ => rfl
  obtain ⟨fd_Rule___str__, Fk_Rule___str__⟩ := c.def_ 63 (d := d_Rule___str__) rfl
  have Fk_Rule___str__ : FunD K "__str__" "Rule.__str__" (defArgs sRS) (defBody sRS) (defScope sRS) [] [] (ma K (ga K "Rule") "__str__") fd_Rule___str__ := Fk_Rule___str__
  have F_Rule___str__ : Fun K "__str__" "Rule.__str__" sRS (ma K (ga K "Rule") "__str__") fd_Rule___str__ := fun_of Fk_Rule___str__
  have b_Rule___str__ := F_Rule___str__.binds (ps := ["self"]) fun _ _ _ _ _ _ us hl => match us, hl with | [_], _ => rfl
  obtain ⟨fd_Making___eq__, Fk_Making___eq__⟩ := c.def_ 64 (d := d_Making___eq__) rfl
  have Fk_Making___eq__ : FunD K "__eq__" "Making.__eq__" (defArgs sME) (defBody sME) (defScope sME) [] [] (ma K (ga K "Making") "__eq__") fd_Making___eq__ := Fk_Making___eq__
  have F_Making___eq__ : Fun K "__eq__" "Making.__eq__" sME (ma K (ga K "Making") "__eq__") fd_Making___eq__ := fun_of Fk_Making___eq__
  have b_Making___eq__ := F_Making___eq__.binds (ps := ["self", "other"]) fun _ _ _ _ _ _ us hl => match us, hl with | [_, _], _ => rfl
  obtain ⟨fd_Making___str__, Fk_Making___str__⟩ := c.def_ 65 (d := d_Making___str__) rfl
  have Fk_Making___str__ : FunD K "__str__" "Making.__str__" (defArgs sMS) (defBody sMS) (defScope sMS) [] [] (ma K (ga K "Making") "__str__") fd_Making___str__ := Fk_Making___str__
  have F_Making___str__ : Fun K "__str__" "Making.__str__" sMS (ma K (ga K "Making") "__str__") fd_Making___str__ := fun_of Fk_Making___str__
  have b_Making___str__ := F_Making___str__.binds (ps := ["self"]) fun _ _ _ _ _ _ us hl => match us, hl with | [_], _ => rfl
  have m_Scheme_sorts := meth_ok (ft 87 (f := .meth "Scheme" "sorts") rfl)
  obtain ⟨fd_Scheme_sorts, Fk_Scheme_sorts⟩ := c.def_ 66 (d := d_Scheme_sorts) rfl
  have Fk_Scheme_sorts : FunD K "sorts" "Scheme.sorts" (defArgs sSor) (defBody sSor) (defScope sSor) [] [] (ma K (ga K "Scheme") "sorts") fd_Scheme_sorts := Fk_Scheme_sorts
  have F_Scheme_sorts : Fun K "sorts" "Scheme.sorts" sSor (ma K (ga K "Scheme") "sorts") fd_Scheme_sorts := fun_of Fk_Scheme_sorts
  have b_Scheme_sorts := F_Scheme_sorts.binds (ps := ["self"]) fun _ _ _ _ _ _ us hl => match us, hl with | [_], _ => rfl
  have m_Scheme_words := meth_ok (ft 88 (f := .meth "Scheme" "words") rfl)
  obtain ⟨fd_Scheme_words, Fk_Scheme_words⟩ := c.def_ 67 (d := d_Scheme_words) rfl
  have Fk_Scheme_words : FunD K "words" "Scheme.words" (defArgs sWor) (defBody sWor) (defScope sWor) [] [] (ma K (ga K "Scheme") "words") fd_Scheme_words := Fk_Scheme_words
  have F_Scheme_words : Fun K "words" "Scheme.words" sWor (ma K (ga K "Scheme") "words") fd_Scheme_words := fun_of Fk_Scheme_words
  have b_Scheme_words := F_Scheme_words.binds (ps := ["self"]) fun _ _ _ _ _ _ us hl => match us, hl with | [_], _ => rfl
  have m_Scheme_makings := meth_ok (ft 89 (f := .meth "Scheme" "makings") rfl)
  obtain ⟨fd_Scheme_makings, Fk_Scheme_makings⟩ := c.def_ 68 (d := d_Scheme_makings) rfl
  have Fk_Scheme_makings : FunD K "makings" "Scheme.makings" (defArgs sSMk) (defBody sSMk) (defScope sSMk) [] [] (ma K (ga K "Scheme") "makings") fd_Scheme_makings := Fk_Scheme_makings
  have F_Scheme_makings : Fun K "makings" "Scheme.makings" sSMk (ma K (ga K "Scheme") "makings") fd_Scheme_makings := fun_of Fk_Scheme_makings
  have b_Scheme_makings := F_Scheme_makings.binds (ps := ["self"]) fun _ _ _ _ _ _ us hl => match us, hl with | [_], _ => rfl
  have m_Scheme_rules := meth_ok (ft 90 (f := .meth "Scheme" "rules") rfl)
  obtain ⟨fd_Scheme_rules, Fk_Scheme_rules⟩ := c.def_ 69 (d := d_Scheme_rules) rfl
  have Fk_Scheme_rules : FunD K "rules" "Scheme.rules" (defArgs sSRu) (defBody sSRu) (defScope sSRu) [] [] (ma K (ga K "Scheme") "rules") fd_Scheme_rules := Fk_Scheme_rules
  have F_Scheme_rules : Fun K "rules" "Scheme.rules" sSRu (ma K (ga K "Scheme") "rules") fd_Scheme_rules := fun_of Fk_Scheme_rules
  have b_Scheme_rules := F_Scheme_rules.binds (ps := ["self"]) fun _ _ _ _ _ _ us hl => match us, hl with | [_], _ => rfl
  have m_Scheme_bars := meth_ok (ft 91 (f := .meth "Scheme" "bars") rfl)
  obtain ⟨fd_Scheme_bars, Fk_Scheme_bars⟩ := c.def_ 70 (d := d_Scheme_bars) rfl
  have Fk_Scheme_bars : FunD K "bars" "Scheme.bars" (defArgs sSBa) (defBody sSBa) (defScope sSBa) [] [] (ma K (ga K "Scheme") "bars") fd_Scheme_bars := Fk_Scheme_bars
  have F_Scheme_bars : Fun K "bars" "Scheme.bars" sSBa (ma K (ga K "Scheme") "bars") fd_Scheme_bars := fun_of Fk_Scheme_bars
  have b_Scheme_bars := F_Scheme_bars.binds (ps := ["self"]) fun _ _ _ _ _ _ us hl => match us, hl with | [_], _ => rfl
  have m_Scheme_rule := meth_ok (ft 92 (f := .meth "Scheme" "rule") rfl)
  obtain ⟨fd_Scheme_rule, Fk_Scheme_rule⟩ := c.def_ 71 (d := d_Scheme_rule) rfl
  have Fk_Scheme_rule : FunD K "rule" "Scheme.rule" (defArgs sSR1) (defBody sSR1) (defScope sSR1) [] [] (ma K (ga K "Scheme") "rule") fd_Scheme_rule := Fk_Scheme_rule
  have F_Scheme_rule : Fun K "rule" "Scheme.rule" sSR1 (ma K (ga K "Scheme") "rule") fd_Scheme_rule := fun_of Fk_Scheme_rule
  have b_Scheme_rule := F_Scheme_rule.binds (ps := ["self", "name"]) fun _ _ _ _ _ _ us hl => match us, hl with | [_, _], _ => rfl
  have m_Scheme_bar := meth_ok (ft 93 (f := .meth "Scheme" "bar") rfl)
  obtain ⟨fd_Scheme_bar, Fk_Scheme_bar⟩ := c.def_ 72 (d := d_Scheme_bar) rfl
  have Fk_Scheme_bar : FunD K "bar" "Scheme.bar" (defArgs sSB1) (defBody sSB1) (defScope sSB1) [] [] (ma K (ga K "Scheme") "bar") fd_Scheme_bar := Fk_Scheme_bar
  have F_Scheme_bar : Fun K "bar" "Scheme.bar" sSB1 (ma K (ga K "Scheme") "bar") fd_Scheme_bar := fun_of Fk_Scheme_bar
  have b_Scheme_bar := F_Scheme_bar.binds (ps := ["self", "name"]) fun _ _ _ _ _ _ us hl => match us, hl with | [_, _], _ => rfl
  have t_abs := free_ok X G (ft 94 (f := .free "abs") rfl)
  have t_int := free_ok X G (ft 95 (f := .free "int") rfl)
  have t_len := free_ok X G (ft 96 (f := .free "len") rfl)
  have t_range := free_ok X G (ft 97 (f := .free "range") rfl)
  have t_all := free_ok X G (ft 98 (f := .free "all") rfl)
  have t_tuple := free_ok X G (ft 99 (f := .free "tuple") rfl)
  have t_enumerate := free_ok X G (ft 100 (f := .free "enumerate") rfl)
  have t_isinstance := free_ok X G (ft 101 (f := .free "isinstance") rfl)
  have t_ValueError := free_ok X G (ft 102 (f := .free "ValueError") rfl)
  have t_list := free_ok X G (ft 103 (f := .free "list") rfl)
  have t_str := free_ok X G (ft 104 (f := .free "str") rfl)
  have t_min := free_ok X G (ft 105 (f := .free "min") rfl)
  have t_max := free_ok X G (ft 106 (f := .free "max") rfl)
  have e := hfa.symm.trans g_law
  cases e
  have T : TxB mg := ⟨t_abs, t_int, t_len, t_range, t_all, t_tuple, t_enumerate, t_isinstance, t_ValueError⟩
  have TN : TxN mg := ⟨str_ok X G (ft 107 rfl), str_ok X G (ft 108 rfl), int_ok X G (ft 109 rfl)⟩
  have TP : TxP mg := ⟨int_ok X G (ft 114 rfl), int_ok X G (ft 115 rfl)⟩
  obtain ⟨dW0, FW⟩ := c.def_ 74 (d := dWho) rfl
  have FW : FunD K "__init__" "WhoError.__init__" (defArgs sW0) (defBody sW0) (defScope sW0) [.str (PySem.Str.ofString "whoerror")] [] (ma K (ga K "WhoError") "__init__") dW0 := FW
  obtain ⟨ds, hds, bW⟩ := FW.binds1 (ps := ["self", "kind"]) 2 1 (by simp) (by rfl) (fun T kV doc pm an cdv ct us its hu hi => match us, hu, its, hi with | [_, _], _, [_], _ => ⟨_, rfl, rfl⟩)
  cases hds
  have ww := whoB_ok qw
  have TW : WhoT K mg (ga K "WhoError") (ma K (ga K "WhoError") "__init__") dW0 := ⟨g_WhoError, ww.1, ww.2, FW.kp, bW⟩
  have E0 := errB_ok (x := "NoName") qe0 g_NoName
  have TB : TxBar K mg (ga K "Bar") (ma K (ga K "Bar") "__init__") := ⟨cls_Bar, na_Bar_name, na_Bar_variables, na_Bar_conditions, g_Bar, mk_Bar⟩
  have TR : TxRul K mg (ga K "Rule") (ma K (ga K "Rule") "__init__") := ⟨cls_Rule, na_Rule_name, na_Rule_variables, na_Rule_conditions, na_Rule_gives, na_Rule_by, g_Rule, mk_Rule⟩
  have TM : TxMak K mg (ga K "Making") (ma K (ga K "Making") "__init__") := ⟨cls_Making, na_Making_maker, na_Making_made, na_Making_down, na_Making_up, g_Making, mk_Making⟩
  have TS : TxS mg := ⟨int_ok X G (ft 110 rfl), int_ok X G (ft 111 rfl), int_ok X G (ft 112 rfl), int_ok X G (ft 113 rfl)⟩
  have TC : TxSch K mg (ga K "Scheme") (ma K (ga K "Scheme") "__init__") := ⟨cls_Scheme, na_Scheme_own_sorts, na_Scheme_own_words, na_Scheme_own_makings, na_Scheme_own_rules, na_Scheme_own_bars, g_Scheme, mk_Scheme⟩
  obtain ⟨dSi, FSi⟩ := c.def_ 73 (d := dSch) rfl
  have FSi : FunD K "__init__" "Scheme.__init__" (defArgs sSch) (defBody sSch) (defScope sSch) [.non, .non, .non] [] (ma K (ga K "Scheme") "__init__") dSi := FSi
  obtain ⟨dss, hdss, bSi⟩ := FSi.binds1 (ps := psSch) 6 3 (by simp) (by rfl) (fun T kV doc pm an cdv ct us its hu hi => match us, hu, its, hi with | [_, _, _, _, _, _], _, [_, _, _], _ => ⟨_, rfl, rfl⟩)
  cases hdss
  obtain ⟨dsr, hdsr, bSi2⟩ := FSi.binds1 (ps := psSch) 3 0 (by simp) (by rfl) (fun T kV doc pm an cdv ct us its hu hi => match us, hu, its, hi with | [_, _, _], _, [_, _, _], _ => ⟨_, rfl, rfl⟩)
  have edsr : dsr = [.none, .none, .none] := by
    cases hdsr with
    | cons r1 t1 =>
      cases t1 with
      | cons r2 t2 =>
        cases t2 with
        | cons r3 t3 =>
          cases t3
          cases r1
          cases r2
          cases r3
          rfl
  rw [edsr] at bSi2
  have kS1 := FSi.kbindsD (ps := psSch) 3 ["rules"] (fun vs ds zs => h1s vs ds zs) (by simp) (fun a d b => h1s_rel a d b) (fun T kV doc pm an cdv ct us its ws hu hi hw => match us, hu, its, hi, ws, hw with | [_, _, _], _, [_, _, _], _, [_], _ => ⟨_, rfl, rfl⟩)
  have kS3 := FSi.kbindsD (ps := psSch) 3 ["makings", "rules", "bars"] (fun vs ds zs => h3s vs ds zs) (by simp) (fun a d b => h3s_rel a d b) (fun T kV doc pm an cdv ct us its ws hu hi hw => match us, hu, its, hi, ws, hw with | [_, _, _], _, [_, _, _], _, [_, _, _], _ => ⟨_, rfl, rfl⟩)
  have tR := insB_ok iR cls_Rule
  have tB := insB_ok iB cls_Bar
  have tM := insB_ok iM cls_Making
  refine ⟨_, fun s v => FLb s [v] rfl, fun base _ _ => ?_⟩
  have GW : FnOk P w K mg base CX0 1 _ dW0 ["self", "kind"] (spWI K) := ok_who FW
  have GI0 : FnOk P w K mg base CX0 2 _ _ ["self", "name"] (spE1 (ga K "NoName") "name" "noname") := ok_noname F_NoName___init__ E0.1 TW GW
  have GIs : FnOk P w K mg base CX0 1 _ _ ["text"] spName := ok_name F_is_name T TN
  have GRN : FnOk P w K mg base (L2.CX P w) 4 _ _ ["texts"] (spRN K (ga K "NoName")) := ok_rn F_refuse_no_name D_is_name GIs E0.1 b_NoName___init__ GI0
  have GRT : FnOk P w K mg base CX0 2 _ _ ["names"] (spFT K) := ok_rt F_refuse_twice T D_first_twice
  have GCP : FnOk P w K mg base (L2.CX P w) 5 _ _ ["name", "variables", "conditions", "given", "hands"] (spCP K (ga K "NoName")) := ok_cp F_check_pattern T TP D_refuse_count D_refuse_no_name D_texts_of_pattern D_refuse_twice D_refuse_no_variable D_ends_of D_refuse_loose D_refuse_apart GRN GRT
  have GB : FnOk P w K mg base (L2.CX P w) 6 _ _ ["self", "name", "variables", "conditions"] (spBar K (ga K "NoName") (ga K "Bar")) := ok_bar F_Bar___init__ T TB D_tuple_of_tuples D_check_pattern GCP
  have GR : FnOk P w K mg base (L2.CX P w) 6 _ _ ["self", "name", "variables", "conditions", "gives", "by"] (spRul K (ga K "NoName") (ga K "Rule")) := ok_rul F_Rule___init__ T TR D_tuple_of_tuples D_check_pattern GCP
  have GM : FnOk P w K mg base (L2.CX P w) 5 _ _ ["self", "maker", "made", "down", "up"] (spMak K (ga K "NoName") (ga K "Making")) := ok_mak F_Making___init__ T TM D_refuse_no_name D_refuse_twice GRN GRT
  have GRE : FnOk P w K mg base CX0 1 _ _ ["self", "other"] (spRE K (ga K "Rule")) := ok_re F_Rule___eq__ T TR tR.2
  have GBE : FnOk P w K mg base CX0 1 _ _ ["self", "other"] (spBE K (ga K "Bar")) := ok_be F_Bar___eq__ T TB tB.2
  have GME : FnOk P w K mg base CX0 1 _ _ ["self", "other"] (spME K (ga K "Making")) := ok_me F_Making___eq__ T TM tM.2
  have GPP : FnOk P w K mg base CX0 2 _ _ ["kind", "pattern"] (spPP K) := ok_pp F_pattern_parts D_variable_part
  have GRP : FnOk P w K mg base CX0 3 _ _ ["rule"] (spRP K (ga K "Rule")) := ok_rp F_rule_parts TR D_pattern_parts GPP
  have GMP : FnOk P w K mg base CX0 1 _ _ ["making"] (spMP K (ga K "Making")) := ok_mp F_making_parts TM
  have GBS : FnOk P w K mg base CX0 3 _ _ ["self"] (spBS K (ga K "Bar")) := ok_bs F_Bar___str__ TB D_pattern_parts GPP
  have GRS : FnOk P w K mg base CX0 4 _ _ ["self"] (spRS K (ga K "Rule")) := ok_rs (fR := ga K "Rule") F_Rule___str__ D_rule_parts GRP
  have GMS : FnOk P w K mg base CX0 2 _ _ ["self"] (spMS K (ga K "Making")) := ok_ms (fM := ga K "Rule") F_Making___str__ D_making_parts GMP
  have GPd : FnOk P w K mg base CX0 2 _ _ ["parts"] (spPd K) := ok_pd F_pattern_draft T D_place_of D_variable_of
  have GBd : FnOk P w K mg base CX0 3 _ _ ["parts"] (spBd K) := ok_bd F_bar_draft T D_pattern_draft GPd
  have GRd : FnOk P w K mg base CX0 3 _ _ ["parts"] (spRd K) := ok_rd F_rule_draft T D_pattern_draft GPd
  have GMd : FnOk P w K mg base CX0 2 _ _ ["parts"] (spMd K) := ok_md F_making_draft T D_place_of
  have GDf : FnOk P w K mg base CX0 4 _ _ ["row", "number"] (spDf K) := ok_df F_draft_of D_parts_of D_rule_draft D_bar_draft D_making_draft GRd GBd GMd
  have M : Mkr P w K mg base (ga K "NoName") (ga K "Rule") (ga K "Bar") (ga K "Making") (ma K (ga K "Rule") "__init__") (ma K (ga K "Bar") "__init__") (ma K (ga K "Making") "__init__") fd_Rule___init__ fd_Bar___init__ fd_Making___init__ := ⟨TR, b_Rule___init__, GR, TB, b_Bar___init__, GB, TM, b_Making___init__, GM⟩
  have GMo : FnOk P w K mg base CX0 8 _ _ ["kind", "draft"] (spMo K (ga K "Rule") (ga K "Bar") (ga K "Making")) := ok_mo F_made_of M
  have GRV : FnOk P w K mg base CX0 2 _ _ ["texts"] (spRNv K) := ok_rnv F_refuse_no_name D_is_name GIs
  have GCS : FnOk P w K mg base CX0 3 _ _ ["sorts", "words", "makings", "rules", "bars"] (spCS K (ga K "Making") (ga K "Rule") (ga K "Bar")) := ok_cs F_check_scheme T TS TM TR TB D_refuse_count D_refuse_no_name D_refuse_twice D_refuse_makings_twice D_refuse_no_sort D_refuse_upward D_refuse_no_word D_first_twice GRV GRT
  have GS : FnOk P w K mg base CX0 4 _ dSi psSch (spSch K (ga K "Scheme") (ga K "Making") (ga K "Rule") (ga K "Bar")) := ok_sch FSi t_list TC D_own_list D_check_scheme GCS
  have GT : FnOk P w K mg base CX0 2 _ _ ["_law_pot_here", "_law_many"] spTak := ok_tak F__law_take T D__law_mixed
  have GPo : FnOk P w K mg base CX0 1 _ _ ["_law_script"] (spPot K) := ok_pot F__law_pot T t_list
  have GLr : FnOk P w K mg base CX0 3 _ _ ["_law_pot_here", "_law_many"] spLrg := ok_lrg F__law_large T D__law_take GT
  have GNa : FnOk P w K mg base CX0 4 _ _ ["_law_pot_here", "_law_taken"] spNam := ok_nam F__law_name T t_str D__law_take GT D__law_name_at D__law_large GLr
  have GNs : FnOk P w K mg base CX0 5 _ _ ["_law_pot_here", "_law_many"] spNms := ok_nms F__law_names T D__law_name GNa
  have GSo : FnOk P w K mg base CX0 3 _ _ ["_law_pot_here", "_law_words"] spSom := ok_som F__law_some T D__law_take GT
  have GPa : FnOk P w K mg base CX0 6 _ _ ["_law_pot_here", "_law_sorts", "_law_words"] (spPat K) := ok_pat F__law_pattern T t_min t_max D__law_take GT D__law_names GNs
  have GRu : FnOk P w K mg base CX0 7 _ _ ["_law_pot_here", "_law_sorts", "_law_words", "_law_taken"] (spRu K) := ok_ru' F__law_rule T D__law_take GT D__law_name GNa D__law_pattern GPa
  have GPt : FnOk P w K mg base CX0 1 _ _ ["_law_kind", "_law_name_here", "_law_variables", "_law_conditions"] (spPpt K) := ok_ppt F__law_pattern_parts T
  have GRr : FnOk P w K mg base CX0 2 _ _ ["_law_rule_here"] (spRr K) := ok_rr F__law_rule_row T t_list D__law_pattern_parts GPt
  have W : Wst P w K mg base (ga K "Rule") (ga K "Bar") (ga K "Making") (ma K (ga K "Rule") "__str__") (ma K (ga K "Bar") "__str__") (ma K (ga K "Making") "__str__") (ma K (ga K "Rule") "__eq__") (ma K (ga K "Bar") "__eq__") (ma K (ga K "Making") "__eq__") fd_Rule___str__ fd_Bar___str__ fd_Making___str__ fd_Rule___eq__ fd_Bar___eq__ fd_Making___eq__ := ⟨eqO_ok mSRa, mSRb, GRS, b_Rule___str__, eqO_ok mSBa, mSBb, GBS, b_Bar___str__, eqO_ok mSMa, mSMb, GMS, b_Making___str__, eqO_ok mERa, mERb, GRE, b_Rule___eq__, eqO_ok mEBa, mEBb, GBE, b_Bar___eq__, eqO_ok mEMa, mEMb, GME, b_Making___eq__, tR.1, tB.1, tM.1, tR.2, tB.2, tM.2, of_decide_eq_true k1, of_decide_eq_true k2, n1, n2, n3, n4, n5⟩
  have kt : Kt K (ga K "Rule") (ga K "Bar") (ga K "Making") := ⟨of_decide_eq_true k3, of_decide_eq_true k4, of_decide_eq_true k5, of_decide_eq_true k6⟩
  have W7 : Ne7 K (ga K "Rule") (ga K "Bar") (ma K (ga K "Rule") "__eq__") (ma K (ga K "Bar") "__eq__") := ⟨eqneB_ok eR, eqneB_ok eB⟩
  have W9 : Mt9 P w K mg base (ga K "Scheme") (ga K "Rule") (ga K "Bar") (ma K (ga K "Scheme") "sorts") (ma K (ga K "Scheme") "words") (ma K (ga K "Scheme") "makings") (ma K (ga K "Scheme") "rules") (ma K (ga K "Scheme") "bars") (ma K (ga K "Scheme") "rule") (ma K (ga K "Scheme") "bar") fd_Scheme_sorts fd_Scheme_words fd_Scheme_makings fd_Scheme_rules fd_Scheme_bars fd_Scheme_rule fd_Scheme_bar := ⟨m_Scheme_sorts, b_Scheme_sorts, ok_sor F_Scheme_sorts t_list TC, m_Scheme_words, b_Scheme_words, ok_wor F_Scheme_words t_list TC, m_Scheme_makings, b_Scheme_makings, ok_smk F_Scheme_makings t_list TC, m_Scheme_rules, b_Scheme_rules, ok_sru F_Scheme_rules t_list TC, m_Scheme_bars, b_Scheme_bars, ok_sba F_Scheme_bars t_list TC, m_Scheme_rule, b_Scheme_rule, ok_sr1 F_Scheme_rule TC TR, m_Scheme_bar, b_Scheme_bar, ok_sb1 F_Scheme_bar TC TB⟩
  have Z : MkS P w K mg base (ga K "Scheme") (ga K "Rule") (ga K "Bar") (ga K "Making") (ma K (ga K "Scheme") "__init__") dSi := ⟨TC, GS, bSi, bSi2, kS1, kS3⟩
  have GNb : FnOk P w K mg base CX0 2 _ _ ["rows", "number", "word"] (spNb K) := ok_nb F_names_behind T D_parts_of
  have GSw : FnOk P w K mg base CX0 7 _ _ ["scheme"] (spSw K (ga K "Scheme") (ga K "Rule") (ga K "Bar") (ga K "Making")) := ok_sw F_scheme_rows T t_str TC W W9
  have GRs : FnOk P w K mg base CX0 9 _ _ ["rows"] (spRs K (ga K "Scheme") (ga K "Rule") (ga K "Bar") (ga K "Making")) := ok_rsc F_read_scheme T TC M W kt D_names_behind GNb D_draft_of GDf D_made_of GMo bSi GS
  have GMks : FnOk P w K mg base CX0 4 _ _ ["_law_pot_here", "_law_sorts", "_law_words"] (spMks K) := ok_mks F__law_makers T D__law_take GT D__law_some GSo
  have GLe : FnOk P w K mg base CX0 8 _ _ ["_law_pot_here", "_law_sorts", "_law_words", "_law_many"] (spLe K) := ok_le F__law_lends T D__law_rule GRu
  have GScs : FnOk P w K mg base CX0 9 _ _ ["_law_pot_here"] (spScs K) := ok_scs F__law_scheme T D__law_take GT D__law_names GNs D__law_makers GMks D__law_lends GLe
  have GSr : FnOk P w K mg base CX0 2 _ _ ["_law_stop"] (spSr K) := ok_sr F__law_stop_row D__law_pattern_parts GPt
  have GRo : FnOk P w K mg base CX0 3 _ _ ["_law_scheme_here"] (spRo K) := ok_ro F__law_rows D__law_making_row D__law_rule_row GRr D__law_stop_row GSr
  have GMi : FnOk P w K mg base CX0 3 _ _ ["_law_pot_here", "_law_rows_here"] (spMi K) := ok_mi F__law_mingled T D__law_take GT
  have GMa : FnOk P w K mg base CX0 8 _ _ ["_law_scheme_here"] (spMa K (ga K "Scheme") (ga K "Rule") (ga K "Bar") (ga K "Making")) := ok_ma F__law_made M Z
  have GAl : FnOk P w K mg base CX0 4 _ _ ["_law_found", "_law_made_here", "_law_scheme_here"] (spAl K (ga K "Scheme") (ga K "Rule") (ga K "Bar") (ga K "Making")) := ok_al F__law_alike TC TR TB W W9 W7
  exact ok_law F_law T t_list D__law_pot GPo D__law_scheme GScs D__law_rows GRo D__law_mingled GMi D__law_made GMa D_scheme_rows GSw D_read_scheme GRs D__law_alike GAl
end Wm

open PySem PySem.W PySem.Calls PyProof.Rows
set_option maxRecDepth 100000 in
set_option maxHeartbeats 0 in
theorem PySem.Challenge.cw_whomay_k28_a_scheme_written_holds : PySem.Challenge.rw_whomay_k28_a_scheme_written.Holds := by
  w_on; o_law
  refine HandSHeadRun.head_any (r := OpenLaw.row PySem.Challenge.rw_whomay_k28_a_scheme_written) (q := view (OpenLaw.row PySem.Challenge.rw_whomay_k28_a_scheme_written).prog [88]) (H := Wm.hkW) (ob := Wm.obW) (M := 20000) (loose := Wm.loW) (d := HandSHeadRun.topDef (OpenLaw.row PySem.Challenge.rw_whomay_k28_a_scheme_written).prog 88) (kwd := []) Wm.obW_eq
    (by kernel_rfl) (fun s => by kernel_rfl) Wm.runW (by kernel_rfl) (by kernel_rfl) (by kernel_rfl) (by rfl) (by first | assumption | decide +kernel) (by decide +kernel) ⟨rfl, rfl, rfl, rfl, rfl, by decide +kernel⟩ ?hw ?hc
  case hw => w_witness2
  case hc =>
    refine L2.walk_ofE (l := PySem.Challenge.rw_whomay_k28_a_scheme_written) (n := 63) (k := 10) (x := "_law_script") (CX := L2.CX0) rfl (by decide) (by kernel_rfl) ⟨rfl, by decide, by decide⟩ ?F (fun _ _ _ _ z => z)
    intro w mg fa h Y G hmg0
    obtain ⟨K, KX, c⟩ := Y
    have hmg : mg ("law" : PySem.Str) = some (.ref fa) := by
      have e : (HandSHeadRun.topDef (OpenLaw.row PySem.Challenge.rw_whomay_k28_a_scheme_written).prog 88).name = ("law" : PySem.Str) := by kernel_rfl
      rw [← e]
      exact hmg0
    obtain ⟨fd, hb, hF⟩ := Wm.facts (P := (PySem.Challenge.rw_whomay_k28_a_scheme_written).prog) (w := w) KX G hmg c
    exact ⟨K, fd, Wm.spLaw K, KX, hb, fun H a ns hl _ hS => ⟨a, ns, rfl, hS, hl, fun _ => rfl⟩, hF⟩
