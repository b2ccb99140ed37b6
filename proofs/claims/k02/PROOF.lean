import PyProof.Rows.All
import Wide.All
import OpenK.AllK
import Wide.FinOn
import HandS.ForMost
import HandS.ForExc
import HandS.Walk
import HandS.Star
import HandS.Style
import HandS.TupAny
import HandS.ExcInit
import HandS.ExcIs
import HandS.ExcField
import HandS.Defaults
import HandS.Wide
import HandS.ClsMeth
import KE.KExcIs
import KE.GoesEnum
import PyProof.ListNew
import PyProof.CollectWalk
import HandS.Zip
import KE.KDictZip
import HandS.FStr
import KE.KCallOwn
import HandS.OwnEq
import HandS.HotCalls
import PyProof.SumWalkG
import PyProof.Rows.SumAny
import HandS.ExcInitHot
import HandS.WordsExc
import HandS.TupMul
import KE.DataCmp
import HandS.Words
import KE.KStateDown
import HandS.Head0
import HandS.Head1
import HandS.Head2
import HandS.HeadEnd
import HandS.HeadHook1
import HandS.HeadHook2
import PySem.Challenge.RW_whomay_k02_patterns_refused
set_option Elab.async false
set_option linter.all false
set_option maxRecDepth 100000
set_option maxHeartbeats 4000000
namespace Wm
open PySem L2
def top (i : Nat) : Stmt := PySem.Challenge.pw_whomay_k02_patterns_refused.main.body.getD i (.Pass ⟨0, 0, 0, 0⟩)
abbrev sState : Stmt := top 37
abbrev sDigit : Stmt := top 38
abbrev sW0 : Stmt := inClass (top 2) 0
abbrev sN0 : Stmt := inClass (top 3) 0
abbrev sName : Stmt := top 15
abbrev sRN : Stmt := top 16
abbrev sFT : Stmt := top 17
abbrev sRT : Stmt := top 18
abbrev sRC : Stmt := top 19
abbrev sTT : Stmt := top 23
abbrev sEO : Stmt := top 24
abbrev sTP : Stmt := top 25
abbrev sRV : Stmt := top 26
abbrev sRL : Stmt := top 27
abbrev sRA : Stmt := top 28
abbrev sNam : Stmt := top 39
abbrev sNms : Stmt := top 40
abbrev sT0 : Stmt := inClass (top 5) 0
abbrev sNV : Stmt := inClass (top 6) 0
abbrev sLo : Stmt := inClass (top 7) 0
abbrev sAp : Stmt := inClass (top 8) 0

abbrev sBC : Stmt := inClass (top 4) 0
abbrev sCP : Stmt := top 29
abbrev sBar : Stmt := inClass (top 33) 0
abbrev sRul : Stmt := inClass (top 34) 0
abbrev sLName : Stmt := top 45
abbrev sTld : Stmt := top 48
abbrev sBad : Stmt := top 41
abbrev sVar : Stmt := top 42
abbrev sCon : Stmt := top 43
abbrev sCns : Stmt := top 44
abbrev sHun : Stmt := top 46
abbrev sDue : Stmt := top 47
abbrev sFou : Stmt := top 49
abbrev sLaw : Stmt := top 50
end Wm
/-! a head by one run: what is asked of the written part is one Bool of one's own -/
namespace Wm
open PySem PySem.Spec PyProof.Rows L2 He ClX
def obsM (ck : PySem.W.Frag → Bool) (fn : List DefD) (K : PySem.W.Frag) : AlD := (ck K && fn.all fun d => d.ok K, fn.map fun d => fnW K d.at_)
def SaysM (ck : PySem.W.Frag → Bool) (fn : List DefD) (K : PySem.W.Frag) : Prop := obsM ck fn K = valD fn
/-- what the module's names, and what the C code keeps, reach in n steps -/
def asM (g : Addr → Option Obj) : Nat → List Addr
  | 0 => [mainGlobals, cStatics]
  | n + 1 => growD g (asM g n)
def obsMG (n : Nat) (ck : PySem.W.Frag → Bool) (fn : List DefD) (g : Addr → Option Obj) : AlD := obsM ck fn (frG g (asM g n))
def hookM (n : Nat) (ck : PySem.W.Frag → Bool) (fn : List DefD) : PySem.W.Hook where
  α := AlD
  obs := fun s => obsMG n ck fn s.heap.get?
  val := fun _ => valD fn
  says := fun _ h => ∃ K : PySem.W.Frag, K.In h ∧ SaysM ck fn K
  of := fun _ _ e => ⟨_, frG_in, e⟩
  keeps := fun _ _ _ ⟨K, hK, c⟩ k => ⟨K, PySem.W.Frag.In.keeps hK k, c⟩
theorem obsMG_eq {n : Nat} {ck : PySem.W.Frag → Bool} {fn : List DefD} {g : Addr → Option Obj} {s : Shared} (h : ∀ a, g a = s.heap.get? a) : obsMG n ck fn g = (hookM n ck fn).obs s := by
  have e : g = s.heap.get? := funext h
  rw [e] <;> rfl
section
variable {ck : PySem.W.Frag → Bool} {fn : List DefD} {K : PySem.W.Frag}
theorem SaysM.says (c : SaysM ck fn K) : ck K = true := (ba (show (ck K && fn.all fun d => d.ok K) = true from congrArg (fun z : AlD => z.1) c)).1
theorem SaysM.def_ (c : SaysM ck fn K) (i : Nat) {d : DefD} (h : fn[i]? = some d := by rfl) : ∃ fd, FunD K d.name d.qual d.params d.body d.scope (d.dvs K) (d.kws K) (fAd K d.at_) fd := by
  have c2 := (ba (show (ck K && fn.all fun d => d.ok K) = true from congrArg (fun z : AlD => z.1) c)).2
  have e : fn.map (fun d => fnW K d.at_) = fn.map DefD.val := congrArg (fun z : AlD => z.2) c
  have e2 : (fn.map fun d => fnW K d.at_)[i]? = (fn.map DefD.val)[i]? := by rw [e]
  rw [List.getElem?_map, List.getElem?_map, h] at e2
  exact DefD.funD (Option.some.inj e2) (List.all_eq_true.mp c2 d (List.mem_of_getElem? h))
end
/-- a def without defaults -/
theorem fun_of {K : PySem.W.Frag} {x q : Str} {st : Stmt} {f : Addr} {fd : FuncData} (F : FunD K x q (defArgs st) (defBody st) (defScope st) [] [] f fd) : Fun K x q st f fd := by
  obtain ⟨oc, od, dV, kV, doc, pm, an, cdv, ct, osl, rfl, l, c, d, _⟩ := F.ex
  have e : dV = .none := by
    rcases d with ⟨_, e⟩ | ⟨n, _⟩
    · exact e
    · exact absurd rfl n
  subst e
  exact ⟨⟨oc, od, kV, doc, pm, an, cdv, ct, osl, rfl, l, c⟩, F.kp⟩
/-- an error class whose objects are made by an __init__ of its own -/
def excB (K : PySem.W.Frag) (C : Addr) : Bool := match K.lookup C with
  | some ⟨.type "type", _, .cls cd, sl⟩ => (match cd.mro, sl.toList with
    | .ref C' :: bm, [_, _, _, _, some (.builtin n), _] => C' == C && (n == "ValueError.__new__" && (!cd.hasDel && (cd.hasDict && PySem.HandSPX.refsVE bm)))
    | _, _ => false)
  | _ => false
theorem excB_ok {K : PySem.W.Frag} {C : Addr} (q : excB K C = true) : ∃ nm q N bs bm sn sub ab col dd k0 k1 k2 k3 k5, K.lookup C = some (excClassObj nm q C N bs bm true sn sub ab col dd k0 k1 k2 k3 k5 "ValueError.__new__") ∧ PySem.HandSPX.refsVE bm = true := by
  unfold excB at q
  split at q
  · rename_i dd cd sl ho
    split at q
    · rename_i C' bm k0 k1 k2 k3 n k5 hm hs
      simp only [Bool.and_eq_true, beq_iff_eq, Bool.not_eq_true'] at q
      obtain ⟨rfl, rfl, hdel, hdi, ht⟩ := q
      obtain ⟨nm, bs, mro, ns, qn, hd, sn, sub, ab, col, del⟩ := cd
      dsimp only at hm hdel hdi
      subst hm hdel hdi
      have hsl : sl = #[k0, k1, k2, k3, some (.builtin "ValueError.__new__"), k5] := by
        obtain ⟨l⟩ := sl
        simp only at hs
        rw [hs]
      subst hsl
      exact ⟨nm, qn, ns, bs, bm, sn, sub, ab, col, dd, k0, k1, k2, k3, k5, ho, ht⟩
    · cases q
  · cases q
/-- WhoError, whose __init__ the others call -/
def whoB (K : PySem.W.Frag) (W : Addr) : Bool := PySem.W.readsIn K W (.type "type") && (eqO (PySem.W.specialIn K (.ref W) "__getattribute__") (some (some (.builtin "type.__getattribute__"))) && (match PySem.W.findCls K (.ref W) (.type "type") "__init__" with
  | some (.val (.ref a)) => decide (a = ma K W "__init__")
  | _ => false))
theorem whoB_ok {K : PySem.W.Frag} {W : Addr} (h : whoB K W = true) : CRead K W (.type "type") ∧ PySem.W.findCls K (.ref W) (.type "type") "__init__" = some (.val (.ref (ma K W "__init__"))) := by
  unfold whoB at h
  obtain ⟨h1, h⟩ := ba h
  obtain ⟨h2, h3⟩ := ba h
  refine ⟨⟨h1, eqO_ok h2⟩, ?_⟩
  split at h3
  · rename_i a e
    rw [e, of_decide_eq_true h3]
  · cases h3
end Wm
/-! the reached fragment, gone through once: what was seen is kept as bits of a number -/
namespace Wm
open PySem PySem.Spec PyProof.Rows L2 He ClX
noncomputable def pushB (as : List Addr) : Nat → List Addr → Nat × List Addr := List.rec (motive := fun _ => Nat → List Addr → Nat × List Addr) (fun v acc => (v, acc)) (fun a _ ih v acc => Bool.rec (motive := fun _ => Nat × List Addr) (ih (Nat.lor v (Nat.shiftLeft 1 a)) (a :: acc)) (ih v acc) (Nat.beq (Nat.mod (Nat.shiftRight v a) 2) 1)) as
noncomputable def lvB (g : Addr → Option Obj) (n : Nat) : List Addr → Nat → List Addr := Nat.rec (motive := fun _ => List Addr → Nat → List Addr) (fun fr _ => fr) (fun _ ih fr v => fr ++ (match pushB (fr.flatMap fun a => match g a with
  | some o => refsD o
  | none => []) v [] with
  | (v', nf) => ih nf v')) n
noncomputable def asB (g : Addr → Option Obj) (n : Nat) : List Addr := lvB g n [mainGlobals, cStatics] (Nat.lor (Nat.shiftLeft 1 mainGlobals) (Nat.shiftLeft 1 cStatics))
noncomputable def obsBG (n : Nat) (ck : PySem.W.Frag → Bool) (fn : List DefD) (g : Addr → Option Obj) : AlD := obsM ck fn (frG g (asB g n))
noncomputable def hookB (n : Nat) (ck : PySem.W.Frag → Bool) (fn : List DefD) : PySem.W.Hook where
  α := AlD
  obs := fun s => obsBG n ck fn s.heap.get?
  val := fun _ => valD fn
  says := fun _ h => ∃ K : PySem.W.Frag, K.In h ∧ SaysM ck fn K
  of := fun _ _ e => ⟨_, frG_in, e⟩
  keeps := fun _ _ _ ⟨K, hK, c⟩ k => ⟨K, PySem.W.Frag.In.keeps hK k, c⟩
theorem obsBG_eq {n : Nat} {ck : PySem.W.Frag → Bool} {fn : List DefD} {g : Addr → Option Obj} {s : Shared} (h : ∀ a, g a = s.heap.get? a) : obsBG n ck fn g = (hookB n ck fn).obs s := by
  have e : g = s.heap.get? := funext h
  rw [e] <;> rfl
end Wm
/-! the run's equation in two: what is looked at behind the top, and the facts, each by a run of its own -/
namespace Wm
open PySem PySem.W PySem.Calls PyProof.Rows HandSHeadRun
noncomputable def RunA (r : OpenRow) (q : Program) (M : Nat) (loose : List PySem.Str) (w : World) : Prop :=
  ∀ os : OsState, (endF (stepQ (denQ tabQ) r.prog w) M r.prog w os).map (fun s => (looksF r.prog (boot_heap w.params) s.abs, seenQ q loose (importedModules r.prog.main.body) (fun s => xlAt q [] s && recOk r.toRowW.records s) s.abs)) = some (true, openGood q loose)
noncomputable def RunB (r : OpenRow) (H : Hook) (ob : SharedT → H.α) (M : Nat) (w : World) : Prop :=
  ∀ os : OsState, (endF (stepQ (denQ tabQ) r.prog w) M r.prog w os).map ob = some (H.val w)
theorem runEq_of {r : OpenRow} {q : Program} {H : Hook} {ob : SharedT → H.α} {M : Nat} {loose : List PySem.Str} {w : World} (a : RunA r q M loose w) (b : RunB r H ob M w) : RunEq r q H ob M loose w := fun os => by
  have a := a os
  have b := b os
  revert a b
  generalize endF (stepQ (denQ tabQ) r.prog w) M r.prog w os = z
  cases z with
  | none =>
    intro a
    cases a
  | some s =>
    intro a b
    have e1 := Option.some.inj a
    have e2 : ob s = H.val w := Option.some.inj b
    obtain ⟨e3, e4⟩ := Prod.mk.inj e1
    show some (_, _, _) = _
    rw [e2]
    exact congrArg some (Prod.ext e3 (Prod.ext e4 rfl))
end Wm
namespace Wm
open PySem L2 He ClX StX
/-- what is asked of an error class of one field -/
def errB (K : PySem.W.Frag) (C fI : Addr) (f : Str) : Bool :=
  eqO (PySem.W.findIn K (.ref C) "__setattr__") (some (some (.builtin "object.__setattr__"))) && (decide (PySem.W.subIn K (.ref C) (.type "BaseException") = some true) && (decide (PySem.W.typeIn K (.ref C) = some (.type "type")) && (PySem.W.keepIn K (.ref C) &&
  (decide (PySem.W.typeIn K (.ref fI) = some (.type "function")) && (eqO (PySem.W.findIn K (.ref C) "kind") (some none) && (eqO (PySem.W.findIn K (.ref C) f) (some none) && (eqO (PySem.W.findIn K (.ref C) "__getattribute__") (some (some (.builtin "BaseException.__getattribute__"))) &&
  (eqO (PySem.W.findIn K (.ref C) "__getattr__") (some none) && (PySem.W.hasDictIn K C && (eqO (PySem.W.findIn K (.ref C) "__class__") (some (some (.builtin "object.__class__"))) && (decide (PySem.W.mroIn K C (.type "object") = some true) &&
  (eqO (PySem.W.findIn K (.ref C) "__init__") (some (some (.ref fI))) && (excB K C && (decide (PySem.W.exmOne K (.ref C) (.ref C) = some true) && (eqO (PySem.W.specialIn K (.builtin "object.__class__") "__get__") (some (some (.builtin "getset_descriptor.__get__"))) && decide (PySem.W.takesIn K (.builtin "object.__class__") = some true))))))))))))))))
def kitB (K : PySem.W.Frag) (Z C0 C1 C2 C3 C4 C5 C6 C7 W : Addr) (i : Nat) : Bool := decide (PySem.W.exmOne K (.ref Z) (.ref W) = some true) && (decide (PySem.W.kitOne K (.ref Z) (.ref C0) = some (decide (i = 0))) && (decide (PySem.W.kitOne K (.ref Z) (.ref C1) = some (decide (i = 1))) && (decide (PySem.W.kitOne K (.ref Z) (.ref C2) = some (decide (i = 2))) && (decide (PySem.W.kitOne K (.ref Z) (.ref C3) = some (decide (i = 3))) && (decide (PySem.W.kitOne K (.ref Z) (.ref C4) = some (decide (i = 4))) && (decide (PySem.W.kitOne K (.ref Z) (.ref C5) = some (decide (i = 5))) && (decide (PySem.W.kitOne K (.ref Z) (.ref C6) = some (decide (i = 6))) && (decide (PySem.W.kitOne K (.ref Z) (.ref C7) = some (decide (i = 7))) && (decide (PySem.W.kitOne K (.ref Z) (.type "ValueError") = some true))))))))))
def factL : List Fa := [.glo "WhoError", .glo "BadCount", .glo "NoName", .glo "Twice", .glo "NoVariable", .glo "Loose", .glo "Apart", .glo "NoSort", .glo "NoWord", .glo "is_name", .glo "refuse_no_name", .glo "first_twice", .glo "refuse_twice", .glo "refuse_count", .glo "tuple_of_tuples", .glo "ends_of", .glo "texts_of_pattern", .glo "refuse_no_variable", .glo "refuse_loose", .glo "refuse_apart", .glo "check_pattern", .glo "_law_state", .glo "_law_digit", .glo "_law_name", .glo "_law_names", .glo "_law_bad", .glo "_law_variables", .glo "_law_condition", .glo "_law_conditions", .glo "_law_is_name", .glo "_law_hung", .glo "_law_due", .glo "_law_told", .glo "_law_found", .glo "law", .glo "Bar", .cls "Bar", .noat "Bar" "name", .noat "Bar" "variables", .noat "Bar" "conditions", .mkr "Bar", .glo "Rule", .cls "Rule", .noat "Rule" "name", .noat "Rule" "variables", .noat "Rule" "conditions", .noat "Rule" "gives", .noat "Rule" "by", .mkr "Rule", .free "abs", .free "int", .free "len", .free "range", .free "all", .free "tuple", .free "enumerate", .free "isinstance", .free "ValueError", .free "list", .free "str", .free "max", .free "min", .free "zip", .free "sum", .str "LETTERS" "abcdefghijklmnopqrstuvwxyz", .str "FIGURES" "0123456789", .int "LONGEST_NAME" 12, .int "MOST_VARIABLES" 4, .int "MOST_CONDITIONS" 3]
def ck (K : PySem.W.Frag) : Bool := factL.all (fun f => f.ok K) && (whoB K (ga K "WhoError") && (errB K (ga K "BadCount") (ma K (ga K "BadCount") "__init__") "what" && (errB K (ga K "NoName") (ma K (ga K "NoName") "__init__") "name" && (errB K (ga K "Twice") (ma K (ga K "Twice") "__init__") "name" && (errB K (ga K "NoVariable") (ma K (ga K "NoVariable") "__init__") "name" && (errB K (ga K "Loose") (ma K (ga K "Loose") "__init__") "name" && (errB K (ga K "Apart") (ma K (ga K "Apart") "__init__") "place" && (kitB K (ga K "BadCount") (ga K "BadCount") (ga K "NoName") (ga K "Twice") (ga K "NoVariable") (ga K "Loose") (ga K "Apart") (ga K "NoSort") (ga K "NoWord") (ga K "WhoError") 0 && (kitB K (ga K "NoName") (ga K "BadCount") (ga K "NoName") (ga K "Twice") (ga K "NoVariable") (ga K "Loose") (ga K "Apart") (ga K "NoSort") (ga K "NoWord") (ga K "WhoError") 1 && (kitB K (ga K "Twice") (ga K "BadCount") (ga K "NoName") (ga K "Twice") (ga K "NoVariable") (ga K "Loose") (ga K "Apart") (ga K "NoSort") (ga K "NoWord") (ga K "WhoError") 2 && (kitB K (ga K "NoVariable") (ga K "BadCount") (ga K "NoName") (ga K "Twice") (ga K "NoVariable") (ga K "Loose") (ga K "Apart") (ga K "NoSort") (ga K "NoWord") (ga K "WhoError") 3 && (kitB K (ga K "Loose") (ga K "BadCount") (ga K "NoName") (ga K "Twice") (ga K "NoVariable") (ga K "Loose") (ga K "Apart") (ga K "NoSort") (ga K "NoWord") (ga K "WhoError") 4 && (kitB K (ga K "Apart") (ga K "BadCount") (ga K "NoName") (ga K "Twice") (ga K "NoVariable") (ga K "Loose") (ga K "Apart") (ga K "NoSort") (ga K "NoWord") (ga K "WhoError") 5 && (eqO (PySem.W.findIn K (.ref (ga K "BadCount")) "count") (some none)))))))))))))))
def d_is_name : DefD := ⟨("is_name", none), "is_name", "is_name", defArgs sName, defBody sName, defScope sName, [], []⟩
def d_refuse_no_name : DefD := ⟨("refuse_no_name", none), "refuse_no_name", "refuse_no_name", defArgs sRN, defBody sRN, defScope sRN, [], []⟩
def d_first_twice : DefD := ⟨("first_twice", none), "first_twice", "first_twice", defArgs sFT, defBody sFT, defScope sFT, [], []⟩
def d_refuse_twice : DefD := ⟨("refuse_twice", none), "refuse_twice", "refuse_twice", defArgs sRT, defBody sRT, defScope sRT, [], []⟩
def d_refuse_count : DefD := ⟨("refuse_count", none), "refuse_count", "refuse_count", defArgs sRC, defBody sRC, defScope sRC, [], []⟩
def d_tuple_of_tuples : DefD := ⟨("tuple_of_tuples", none), "tuple_of_tuples", "tuple_of_tuples", defArgs sTT, defBody sTT, defScope sTT, [], []⟩
def d_ends_of : DefD := ⟨("ends_of", none), "ends_of", "ends_of", defArgs sEO, defBody sEO, defScope sEO, [], []⟩
def d_texts_of_pattern : DefD := ⟨("texts_of_pattern", none), "texts_of_pattern", "texts_of_pattern", defArgs sTP, defBody sTP, defScope sTP, [], []⟩
def d_refuse_no_variable : DefD := ⟨("refuse_no_variable", none), "refuse_no_variable", "refuse_no_variable", defArgs sRV, defBody sRV, defScope sRV, [], []⟩
def d_refuse_loose : DefD := ⟨("refuse_loose", none), "refuse_loose", "refuse_loose", defArgs sRL, defBody sRL, defScope sRL, [], []⟩
def d_refuse_apart : DefD := ⟨("refuse_apart", none), "refuse_apart", "refuse_apart", defArgs sRA, defBody sRA, defScope sRA, [], []⟩
def d_check_pattern : DefD := ⟨("check_pattern", none), "check_pattern", "check_pattern", defArgs sCP, defBody sCP, defScope sCP, [], []⟩
def d__law_state : DefD := ⟨("_law_state", none), "_law_state", "_law_state", defArgs sState, defBody sState, defScope sState, [], []⟩
def d__law_digit : DefD := ⟨("_law_digit", none), "_law_digit", "_law_digit", defArgs sDigit, defBody sDigit, defScope sDigit, [], []⟩
def d__law_name : DefD := ⟨("_law_name", none), "_law_name", "_law_name", defArgs sNam, defBody sNam, defScope sNam, [], []⟩
def d__law_names : DefD := ⟨("_law_names", none), "_law_names", "_law_names", defArgs sNms, defBody sNms, defScope sNms, [], []⟩
def d__law_bad : DefD := ⟨("_law_bad", none), "_law_bad", "_law_bad", defArgs sBad, defBody sBad, defScope sBad, [], []⟩
def d__law_variables : DefD := ⟨("_law_variables", none), "_law_variables", "_law_variables", defArgs sVar, defBody sVar, defScope sVar, [], []⟩
def d__law_condition : DefD := ⟨("_law_condition", none), "_law_condition", "_law_condition", defArgs sCon, defBody sCon, defScope sCon, [], []⟩
def d__law_conditions : DefD := ⟨("_law_conditions", none), "_law_conditions", "_law_conditions", defArgs sCns, defBody sCns, defScope sCns, [], []⟩
def d__law_is_name : DefD := ⟨("_law_is_name", none), "_law_is_name", "_law_is_name", defArgs sLName, defBody sLName, defScope sLName, [], []⟩
def d__law_hung : DefD := ⟨("_law_hung", none), "_law_hung", "_law_hung", defArgs sHun, defBody sHun, defScope sHun, [], []⟩
def d__law_due : DefD := ⟨("_law_due", none), "_law_due", "_law_due", defArgs sDue, defBody sDue, defScope sDue, [], []⟩
def d__law_told : DefD := ⟨("_law_told", none), "_law_told", "_law_told", defArgs sTld, defBody sTld, defScope sTld, [], []⟩
def d__law_found : DefD := ⟨("_law_found", none), "_law_found", "_law_found", defArgs sFou, defBody sFou, defScope sFou, [], []⟩
def d_law : DefD := ⟨("law", none), "law", "law", defArgs sLaw, defBody sLaw, defScope sLaw, [], []⟩
def d_BadCount___init__ : DefD := ⟨("BadCount", some "__init__"), "__init__", "BadCount.__init__", defArgs sBC, defBody sBC, defScope sBC, [], []⟩
def d_NoName___init__ : DefD := ⟨("NoName", some "__init__"), "__init__", "NoName.__init__", defArgs sN0, defBody sN0, defScope sN0, [], []⟩
def d_Twice___init__ : DefD := ⟨("Twice", some "__init__"), "__init__", "Twice.__init__", defArgs sT0, defBody sT0, defScope sT0, [], []⟩
def d_NoVariable___init__ : DefD := ⟨("NoVariable", some "__init__"), "__init__", "NoVariable.__init__", defArgs sNV, defBody sNV, defScope sNV, [], []⟩
def d_Loose___init__ : DefD := ⟨("Loose", some "__init__"), "__init__", "Loose.__init__", defArgs sLo, defBody sLo, defScope sLo, [], []⟩
def d_Apart___init__ : DefD := ⟨("Apart", some "__init__"), "__init__", "Apart.__init__", defArgs sAp, defBody sAp, defScope sAp, [], []⟩
def d_Bar___init__ : DefD := ⟨("Bar", some "__init__"), "__init__", "Bar.__init__", defArgs sBar, defBody sBar, defScope sBar, [], []⟩
def d_Rule___init__ : DefD := ⟨("Rule", some "__init__"), "__init__", "Rule.__init__", defArgs sRul, defBody sRul, defScope sRul, [], []⟩
def dWho : DefD := ⟨("WhoError", some "__init__"), "__init__", "WhoError.__init__", defArgs sW0, defBody sW0, defScope sW0, [.str "whoerror"], []⟩
def fnL : List DefD := [d_is_name, d_refuse_no_name, d_first_twice, d_refuse_twice, d_refuse_count, d_tuple_of_tuples, d_ends_of, d_texts_of_pattern, d_refuse_no_variable, d_refuse_loose, d_refuse_apart, d_check_pattern, d__law_state, d__law_digit, d__law_name, d__law_names, d__law_bad, d__law_variables, d__law_condition, d__law_conditions, d__law_is_name, d__law_hung, d__law_due, d__law_told, d__law_found, d_law, d_BadCount___init__, d_NoName___init__, d_Twice___init__, d_NoVariable___init__, d_Loose___init__, d_Apart___init__, d_Bar___init__, d_Rule___init__, dWho]
end Wm
set_option maxHeartbeats 0
namespace Wm
open PySem PySem.W PySem.Calls PyProof.Rows
abbrev RW : OpenRow := OpenLaw.row PySem.Challenge.rw_whomay_k02_patterns_refused
noncomputable abbrev hkW : Hook := hookB 4 ck fnL
noncomputable def obW (s : SharedT) : He.AlD := obsBG 4 ck fnL (HandSHeadRun.getT s)
theorem obW_eq (s : SharedT) : obW s = hkW.obs s.abs := obsBG_eq (HandSHeadRun.getT_eq s)
def lo0 : List PySem.Str := ["_wall", "WhoError", "NoName", "BadCount", "Twice", "NoVariable", "Loose", "Apart", "NoSort", "NoWord", "LETTERS", "FIGURES", "LONGEST_NAME", "is_name", "refuse_no_name", "first_twice", "refuse_twice", "refuse_count", "MOST_VARIABLES", "MOST_CONDITIONS", "tuple_of_tuples", "ends_of", "texts_of_pattern", "refuse_no_variable", "refuse_loose", "refuse_apart", "check_pattern", "variable_part", "pattern_parts", "rule_parts"]
def lo1 : List PySem.Str := ["Bar", "Rule", "_law_cell_at", "_law_state", "_law_digit", "_law_name", "_law_names", "_law_bad", "_law_variables", "_law_condition", "_law_conditions", "_law_is_name", "_law_hung", "_law_due", "_law_told", "_law_found"]
def loW : List PySem.Str := lo0 ++ lo1
theorem runWA (w : World) : RunA RW (view RW.prog [50]) 20000 loW w := by
  intro os
  kernel_rfl
theorem runWB (w : World) : RunB RW hkW obW 20000 w := by
  intro os
  kernel_rfl
theorem runW (w : World) : HandSHeadRun.RunEq RW (view RW.prog [50]) hkW obW 20000 loW w := runEq_of (runWA w) (runWB w)
end Wm
namespace Wm
open PySem L2
/-- the digits' state at p -/
def StOk (H : Hp) (p : Addr) : Prop := ∃ a b c : Int, H p = some (.lst [.int a, .int b, .int c]) ∧ 0 ≤ a ∧ 0 ≤ b ∧ b ≤ 2147483636 ∧ 0 ≤ c ∧ c < 2147483648
/-- all that was tracked is as it was, but at p -/
def But (p : Addr) (H H' : Hp) : Prop := ∀ q o, q ≠ p → H q = some o → H' q = some o
theorem But.refl (p : Addr) (H : Hp) : But p H H := fun _ _ _ h => h
theorem But.trans {p : Addr} {H H1 H2 : Hp} (a : But p H H1) (b : But p H1 H2) : But p H H2 := fun q o n h => b q o n (a q o n h)
theorem But.upd {p : Addr} {H : Hp} {o : HO} : But p H (upd H p o) := fun q o n h => by rw [upd_ne n]; exact h
theorem Same.but {p : Addr} {H H1 : Hp} (a : Same H H1) : But p H H1 := fun q o _ h => a q o h
theorem Same.upd {p : Addr} {H : Hp} {o : HO} (n : H p = none) : Same H (upd H p o) := fun q o h => by rw [upd_ne (ne_of_none h n)]; exact h
theorem But.same {p : Addr} {H0 H H1 : Hp} (n : H0 p = none) (a : Same H0 H) (b : But p H H1) : Same H0 H1 := fun q o h => b q o (ne_of_none h n) (a q o h)
def spState : Sp := fun vs H Q _ => ∃ i : Int, vs = [.int i] ∧ ∀ p H', H p = none → Same H H' → StOk H' p → Q (.ref p) H'
def spDigit : Sp := fun vs H Q _ => ∃ (p : Addr) (n : Int), vs = [.ref p, .int n] ∧ StOk H p ∧ 0 < n ∧ n < 1073741824 ∧ ∀ (d : Int) H', 0 ≤ d → d < n → But p H H' → StOk H' p → Q (.int d) H'
structure TxB (mg : Str → Option Value) : Prop where
  abs : mg "abs" = none
  int : mg "int" = none
  len : mg "len" = none
  range : mg "range" = none
  all : mg "all" = none
  tuple : mg "tuple" = none
  enumerate : mg "enumerate" = none
  isinstance : mg "isinstance" = none
  ve : mg "ValueError" = none
section
variable {P : Program} {w : World} {K : PySem.W.Frag} {mg : Str → Option Value} {base : Heap}
theorem scState : FnScope ["_law_cell"] ["_law_cell"] (defScope sState) := ⟨rfl, rfl, rfl, by decide +kernel, rfl, by decide +kernel, by decide +kernel⟩
theorem ok_state {f : Addr} {fd : FuncData} (F : Fun K "_law_state" "_law_state" sState f fd) (T : TxB mg) : FnOk P w K mg base CX0 1 f fd ["_law_cell"] spState := by
  refine F.ok scState (fun vs H Q E h => ?_) (fun cdv A outer s H vs Q E hr h => ?_)
  · obtain ⟨i, rfl, _⟩ := h
    rfl
  · obtain ⟨i, rfl, k⟩ := h
    refine ⟨_, pss_cons (ps_set (i := 0) scState.nd rfl (Or.inl rfl) (pe_callB call_abs (by rfl) T.abs (by decide +kernel) (pa_cons (pv 0) pa_nil)))
      (pss_one (ps_ret (pe_lst (pa_cons (pe_op op_mul (pv 0) (pe_callTy call_int1 (by rfl) T.int (by decide +kernel) (pa_cons (pe_cmpR op_ge (pv 0) (pe_op op_pow pe_int pe_int) (nomark _)) pa_nil)))
        (pa_cons (pe_op op_add (pe_op op_mod (pv 0) pe_int) pe_int) (pa_cons (pe_op op_mod (pv 0) pe_int) pa_nil)))))), ?_⟩
    refine ⟨_, rfl, _, rfl, ?_⟩
    generalize hj : (if i < 0 then -i else i) = j
    have hj0 : 0 ≤ j := by rw [← hj]; split <;> omega
    refine ⟨_, rfl, _, rfl, _, _, rfl, rfl, ⟨by decide, by decide, by decide⟩, _, _, rfl, rfl, .inr ⟨_, rfl, ?_⟩⟩
    refine ⟨_, _, rfl, rfl, .inr ⟨?_, ?_⟩, _, rfl, _, _, rfl, rfl, (by show (0 : Int) < 2147483629; decide), _, _, rfl, rfl, _, rfl, _, _, rfl, rfl, (by show (0 : Int) < 2147483587; decide), (by show 3 ≤ sizeLine; decide), fun p hp => ?_⟩
    · split <;> decide
    · split <;> decide
    · refine k p _ hp (Same.upd hp) ⟨_, _, _, upd_same, ?_, ?_, ?_, ?_, ?_⟩
      · split
        · omega
        · omega
      · have := Int.emod_nonneg j (show (2147483629 : Int) ≠ 0 by decide); omega
      · have := Int.emod_lt_of_pos j (show (0 : Int) < 2147483629 by decide); omega
      · exact Int.emod_nonneg j (by decide)
      · have := Int.emod_lt_of_pos j (show (0 : Int) < 2147483587 by decide); omega
theorem scDigit : FnScope ["_law_state_here", "_law_base", "_law_found_here", "_law_more"] ["_law_state_here", "_law_base"] (defScope sDigit) := ⟨rfl, rfl, rfl, by decide +kernel, rfl, by decide +kernel, by decide +kernel⟩
theorem ok_digit {f : Addr} {fd : FuncData} (F : Fun K "_law_digit" "_law_digit" sDigit f fd) : FnOk P w K mg base CX0 1 f fd ["_law_state_here", "_law_base"] spDigit := by
  refine F.ok scDigit (fun vs H Q E h => ?_) (fun cdv A outer s H vs Q E hr h => ?_)
  · obtain ⟨p, n, rfl, _⟩ := h
    rfl
  · obtain ⟨p, n, rfl, ⟨a, b, c, hp, ha, hb, hb2, hc, hc2⟩, hn, hn2, k⟩ := h
    refine ⟨_, pss_cons (ps_if (pt_cmpR op_gt (pe_ix ix_list (pv 0) pe_int (fun _ _ => rfl)) pe_int (nomark _))
        (pss_cons (ps_set (i := 2) scDigit.nd rfl (Or.inl rfl) (pe_op op_mod (pe_ix ix_list (pv 0) pe_int (fun _ _ => rfl)) (pv 1)))
          (pss_cons (ps_asg (pe_op op_fdiv (pe_ix ix_list (pv 0) pe_int (fun _ _ => rfl)) (pv 1)) (pg_sub (pv 0) pe_int set_list)) (pss_one (ps_ret (pv 2))))) pss_nil)
      (pss_cons (ps_set (i := 3) scDigit.nd rfl (Or.inl rfl) (pe_op op_mul (pe_ix ix_list (pv 0) pe_int (fun _ _ => rfl)) (pe_op op_add (pe_op op_fdiv (pe_ix ix_list (pv 0) pe_int (fun _ _ => rfl)) pe_int) pe_int)))
      (pss_cons (ps_asg (pe_op op_add (pe_op op_mod (pe_op op_add (pv 3) (pe_ix ix_list (pv 0) pe_int (fun _ _ => rfl))) pe_int) pe_int) (pg_sub (pv 0) pe_int set_list))
      (pss_one (ps_ret (pe_op op_mod (pe_op op_fdiv (pe_ix ix_list (pv 0) pe_int (fun _ _ => rfl)) pe_int) (pv 1)))))), ?_⟩
    refine ⟨_, rfl, p, _, _, _, rfl, rfl, SqL.of hp, atI_nat (j := 0) rfl, _, _, rfl, rfl, _, rfl, ?_⟩
    refine ite2 (fun h0 => ?_) (fun h0 => ?_)
    · refine ⟨_, rfl, p, _, _, _, rfl, rfl, SqL.of hp, atI_nat (j := 0) rfl, _, rfl, _, _, rfl, rfl, hn, ?_⟩
      refine ⟨_, rfl, p, _, _, _, rfl, rfl, SqL.of hp, atI_nat (j := 0) rfl, _, rfl, _, _, rfl, rfl, ⟨hn, hn2⟩, _, rfl, p, _, _, 0, rfl, rfl, hp, rfl, _, rfl, ?_⟩
      refine k _ _ (Int.emod_nonneg a (by omega)) (Int.emod_lt_of_pos a hn) But.upd ⟨_, _, _, upd_same, ?_, hb, hb2, hc, hc2⟩
      exact Int.ediv_nonneg ha (by omega)
    · refine ⟨_, rfl, p, _, _, _, rfl, rfl, SqL.of hp, atI_nat (j := 1) rfl, _, rfl, p, _, _, _, rfl, rfl, SqL.of hp, atI_nat (j := 1) rfl, _, _, rfl, rfl, ⟨by decide, by decide⟩, _, _, rfl, rfl, _, _, rfl, rfl, .inl ⟨?_, ?_⟩, ?_⟩
      · omega
      · omega
      refine ⟨_, rfl, _, rfl, p, _, _, _, rfl, rfl, SqL.of hp, atI_nat (j := 2) rfl, _, _, rfl, rfl, _, _, rfl, rfl, (by show (0 : Int) < 2147483629; decide), _, _, rfl, rfl, _, rfl, p, _, _, 1, rfl, rfl, hp, rfl, ?_⟩
      generalize hm : (b * (b / 1009 + 69621) + c) % 2147483629 = m
      have hm0 : 0 ≤ m := by rw [← hm]; exact Int.emod_nonneg _ (by decide)
      have hm1 : m < 2147483629 := by rw [← hm]; exact Int.emod_lt_of_pos _ (by decide)
      refine ⟨_, rfl, p, _, _, _, rfl, rfl, SqL.of upd_same, atI_nat (j := 1) rfl, _, _, rfl, rfl, ⟨by decide, by decide⟩, _, rfl, _, _, rfl, rfl, hn, ?_⟩
      exact k _ _ (Int.emod_nonneg _ (by omega)) (Int.emod_lt_of_pos _ hn) But.upd ⟨_, _, _, upd_same, ha, by omega, by omega, hc, hc2⟩
end
end Wm
namespace Wm
open PySem L2
/-- a def of the module's top -/
structure Dn (K : PySem.W.Frag) (mg : Str → Option Value) (x : Str) (st : Stmt) (ps : List Str) (f : Addr) (fd : FuncData) : Prop where
  F : Fun K x x st f fd
  g : mg x = some (.ref f)
  b : Binds K fd ps []
theorem str_at (z : Str) {i : Int} (h0 : 0 ≤ i) (h1 : i < z.length) : ∃ c, z.cps[i.toNat]? = some c := by
  have h : i.toNat < z.cps.size := by
    have e : z.length = z.cps.size := rfl
    omega
  exact ⟨z.cps[i.toNat], Array.getElem?_eq_getElem h⟩
/-- every sign is one of unicode's -/
def okS (z : Str) : Prop := ∀ c ∈ z.cps.toList, c < 1114112
theorem okS_one {c : Nat} (h : c < 1114112) : okS ⟨#[c]⟩ := fun d hd => by
  have e : d = c := by simpa using hd
  rw [e]
  exact h
theorem okS_app {a b : Str} (ha : okS a) (hb : okS b) : okS (a ++ b) := fun c hc => by
  have e : (a ++ b).cps.toList = a.cps.toList ++ b.cps.toList := by
    show (a.cps ++ b.cps).toList = _
    simp
  rw [e] at hc
  rcases List.mem_append.mp hc with h | h
  · exact ha c h
  · exact hb c h
theorem rdItem {z : Str} {i : Int} {n : Nat} {H : Hp} {Q : VK} (hz : z.length = n) (h0 : 0 ≤ i) (h1 : i < n) (hn : n < 1000000) (h : ∀ c, z.cps.toList[i.toNat]? = some c → Q (.str ⟨#[c]⟩) H) : rIxS (.str z) (.int i) H Q := by
  have h2 : i < z.length := by rw [hz]; exact h1
  obtain ⟨c, hc⟩ := str_at z h0 h2
  have hl : z.cps.toList[i.toNat]? = some c := by simpa using hc
  have e : i = ((i.toNat : Nat) : Int) := by omega
  refine ⟨z, i, c, rfl, rfl, by rw [hz]; exact Nat.le_trans (Nat.le_of_lt hn) (by decide), ?_, h c hl⟩
  rw [e]
  exact atI_nat hl
theorem abcOk : ∀ c ∈ (PySem.Str.ofString "abcdefghijklmnopqrstuvwxyz0123456789").cps.toList, c < 1114112 := by decide +kernel
theorem abc36 : (PySem.Str.ofString "abcdefghijklmnopqrstuvwxyz0123456789").length = 36 := by decide +kernel
theorem len_app (a b : Str) : (a ++ b).length = a.length + b.length := by
  show (a.cps ++ b.cps).size = a.cps.size + b.cps.size
  exact Array.size_append
theorem len_one (c : Nat) : (⟨#[c]⟩ : Str).length = 1 := rfl
def spSign : Sp := fun vs H Q _ => ∃ i : Int, vs = [.int i] ∧ ∀ c, c < 1114112 → Q (.str ⟨#[c]⟩) H
def spPlain : Sp := fun vs H Q _ => ∃ (p : Addr) (n : Int), vs = [.ref p, .int n] ∧ StOk H p ∧ 1 ≤ n ∧ n ≤ 15 ∧ ∀ (z : Str) H', z.length ≤ 15 → okS z → But p H H' → StOk H' p → Q (.str z) H'
def spText : Sp := fun vs H Q _ => ∃ (p : Addr), vs = [.ref p] ∧ StOk H p ∧ ∀ (z : Str) H', z.length ≤ 40 → okS z → But p H H' → StOk H' p → Q (.str z) H'
section
variable {P : Program} {w : World} {K : PySem.W.Frag} {mg : Str → Option Value} {base : Heap}
end
end Wm
namespace Wm
open PySem L2
theorem strs_at {zs : List Str} {n : Nat} (h : ∀ z ∈ zs, z.length ≤ n) (ho : ∀ z ∈ zs, ∀ c ∈ z.cps.toList, c < 1114112) {j : Nat} (hj : j < zs.length) : ∃ z, (zs.map V.str)[j]? = some (.str z) ∧ z.length ≤ n ∧ okS z :=
  ⟨zs[j], by simp [hj], h _ (List.getElem_mem hj), ho _ (List.getElem_mem hj)⟩
theorem okS_cut {z : Str} (h : okS z) (lo hi : Option Int) : okS (cutS z lo hi) := fun c hc => by
  have hc' : c ∈ (z.cps.toList.drop (HT.sIx z.length 0 lo)).take (HT.sIx z.length z.length hi - HT.sIx z.length 0 lo) := hc
  exact h c (List.mem_of_mem_drop (List.mem_of_mem_take hc'))
theorem okS_join {a : Str} {ys : List Str} (ha : okS a) (h : ∀ y ∈ ys, okS y) : okS (Txt.join a ys) := by
  have e : Txt.join a ys = Str.join a ys := StrLaws.glued_eq_join a ys
  rw [e]
  clear e
  induction ys with
  | nil => exact fun c hc => (List.not_mem_nil (show c ∈ ([] : List Nat) from hc)).elim
  | cons y r ih =>
    cases r with
    | nil => exact h y List.mem_cons_self
    | cons z r =>
      show okS (y ++ a ++ Str.join a (z :: r))
      exact okS_app (okS_app (h y List.mem_cons_self) ha) (ih fun x hx => h x (List.mem_cons_of_mem _ hx))
theorem rdList {K : PySem.W.Frag} {p : Addr} {xs : List V} {i : Int} {j : Nat} {v : V} {H : Hp} {Q : VK} (hp : H p = some (.lst xs)) (e : i = (j : Int)) (hv : xs[j]? = some v) (h : Q v H) : rIxL K (.ref p) (.int i) H Q :=
  ⟨p, xs, i, v, rfl, rfl, SqL.of hp, at_of e hv, h⟩
theorem But.free {p D : Addr} {H H' : Hp} (b : But p H H') (n : D ≠ p) (h : H' D = none) : H D = none := by
  cases e : H D with
  | none => rfl
  | some o =>
    rw [b D o n e] at h
    cases h
theorem sum_ones : ∀ {ys : List Str}, (∀ y ∈ ys, y.length = 1) → (ys.map (·.length)).sum = ys.length
  | [], _ => rfl
  | y :: ys, h => by
    rw [List.map_cons, List.sum_cons, List.length_cons, h y List.mem_cons_self, sum_ones fun z hz => h z (List.mem_cons_of_mem _ hz)]
    omega
theorem join_len (a : Str) (ys : List Str) : (Txt.join a ys).length ≤ (ys.map (·.length)).sum + ys.length * a.length := by
  show (Builtin.Str.glued a ys).length ≤ _
  rw [StrLaws.glued_eq_join]
  exact StrLaws.join_length_le a ys
section
variable {P : Program} {w : World} {K : PySem.W.Frag} {mg : Str → Option Value} {base : Heap}
end
end Wm
namespace Wm
open PySem PySem.Spec PyProof.Rows L2 ClX
section
variable {X : Cx} {CX : CXT} {k : Nat} {C f : Addr} {fd : FuncData} {ps : List Str} {sp : Sp} {E : XK} {e : Expr} {es : List Expr} {t : TA} {x m : Str} {p1 p2 pos : Pos} {ds : List Value} {dvs : List V}
/-- C.f(e, ..), f a def of the class C -/
theorem pe_clsFn {pl : Sem Bool} {mc : Value} (hg : Gl X x) (hm : X.mg x = some (.ref C)) (r : CRead X.K C mc) (ht : PySem.W.findCls X.K (.ref C) mc m = some (.val (.ref f))) (hk : PySem.W.keepIn X.K (.ref f) = true) (F : FnOk X.prog X.w X.K X.mg X.base CX k f fd ps sp)
    (hr : Room k X.A) (hb : Binds X.K fd ps ds) (hd : Vals dvs ds) (hx : Passes CX X E) (ha : PA X (e :: es) t)
    (hc : eval (.Call (.Attribute (.Name x p1) m p2) (e :: es) [] pos) X.env = (do
      let ov ← eval (.Name x p1) X.env
      standAt p2.atName
      let (f, first) ← holding [ov] (getMethod ov m pl)
      callWith pos f first (backTo pos (starEach (e :: es) X.env)) (backToKw pos (keywordEach [] X.env))) := by rfl)
    (hdb : (x == ("__debug__" : Str)) = false := by decide) (he : starEach (e :: es) X.env = (false, eval e X.env) :: starEach es X.env := by rfl) (hpl : (backTo pos (starEach es X.env)).any (·.1) = false := by rfl) :
    PE X (.Call (.Attribute (.Name x p1) m p2) (e :: es) [] pos) (tCall sp dvs E t) := by
  refine ⟨fun pins s σ H Q I h => ?_⟩
  refine PySem.W.methodCall_KW (ld_glob I hg hm ?_ hdb) hc
  refine PySem.W.method_cls I.kIn r.ga (PySem.W.cls_value I.kIn r.rd ht rfl ?_)
  show wpAny _ _ (callWith pos (Value.ref f) [] (backTo pos (starEach (e :: es) X.env)) []) _ _ _
  refine PySem.W.callWith_K (h₀ := X.base) I.ok.mod.kin hk (thn (ha.run pos pins _ σ H _ (I.tok _) h) fun us s1 ⟨vs, H1, I1, r1, q⟩ => ⟨I1.kIn, ?_⟩) he hpl
  exact run_fn F hr hb hd hx I1 r1 q
/-- xs + ys, both to be read -/
def rCatR (K : PySem.W.Frag) : R2 := fun x y H Q => ∃ l b xs zs, x = .ref l ∧ y = .ref b ∧ SqL K H l xs ∧ SqL K H b zs ∧ xs.length + zs.length ≤ sizeLine ∧ ∀ p, H p = none → Q (.ref p) (upd H p (.lst (xs ++ zs)))
theorem op_catR : OpR X (binaryOp .Add) (rCatR X.K) := by
  intro pins s σ H x y v u Q I rx ry h
  obtain ⟨l, b, xs, zs, rfl, rfl, hH, hB, hz, q⟩ := h
  cases rx
  cases ry
  obtain ⟨its, r, e, hl⟩ := I.list hH
  obtain ⟨its2, r2, e2, hl2⟩ := I.list hB
  have l1 := r.length
  have l2 := r2.length
  obtain ⟨⟨cls, dd, data, sl⟩, ho, hc, n, hd⟩ := e.isList
  obtain ⟨⟨cls2, dd2, data2, sl2⟩, ho2, hc2, n2, hd2⟩ := e2.isList
  simp only at hc hd hc2 hd2
  subst hc hd hc2 hd2
  refine concat_meets ⟨_, ho, rfl⟩ ⟨_, ho2, rfl⟩ noFill_list_add seq_list_add PySem.F.slot_list_add PySem.F.entry_list_add (PySem.F.args_list_add_2 _ _) (list_addW l b its.toArray its2.toArray n n2 dd dd2 sl sl2 (by rw [List.size_toArray, List.size_toArray]; omega)) ⟨ho, ho2, ?_⟩
  have ea : its.toArray ++ its2.toArray = (its ++ its2).toArray := by simp
  rw [ea]
  exact ⟨.ref _, _, I.lnew (t' := s.toks) (r.append r2) (by rw [List.length_append]; omega), rfl, q _ I.fresh⟩
end
end Wm
namespace Wm
open PySem PySem.Spec PyProof.Rows L2 ClX
/-- isinstance(e, c) in an except suite, e the exception that it holds (its class D, its dict at dd) -/
def rIsX (K : PySem.W.Frag) (D a dd : Addr) : List V → Hp → VK → Prop := fun xs H Q => ∃ (c : V) (cv : Value) (b : Bool) (fs : List (Str × V)), xs = [.ref a, c] ∧ H dd = some (.xd fs) ∧ (∀ u, RelV c u → u = cv) ∧ PySem.W.kitOne K (.ref D) cv = some b ∧ Q (.bl b) H
theorem call_isX {X : Cx} {a D dd : Addr} {oe : Obj} {pn : List (Addr × Obj)} (C : ExcC X.K D) (hz : Zc (.ref D) (some dd) oe) (hf : ∃ vs, oe.data = .fields vs) : CallR (X.suite a ((a, oe) :: pn)) (.builtin "isinstance") (rIsX X.K D a dd) := by
  intro pins s σ H xs us Q I r h
  obtain ⟨c, cv, b, fs, rfl, hdd, hcv, e, q⟩ := h
  cases r with
  | cons rx rr =>
    cases rr with
    | cons rt rr =>
      cases rr
      cases rx
      have ec := hcv _ rt
      subst ec
      obtain ⟨hget, _⟩ := I.pin (a, oe) (List.mem_append.mpr (.inl List.mem_cons_self))
      obtain ⟨vs, hv⟩ := hf
      have hx : ObjOk X.prog X.w H s.heap dd (.xd fs) := I.hok dd _ hdd
      obtain ⟨mA, hns, hr⟩ := hx
      obtain ⟨od, ho, hl⟩ := lookIn_ns hns
      have J : PySem.W.InstAt s.heap a oe D (some od) := ⟨hget, hz.1, by unfold PySem.W.notCls; rw [hv] <;> rfl, by rw [hz.2]; exact ho⟩
      have hcl : (PySem.W.clsIn X.K D).isSome = true := by
        obtain ⟨cd, hc, _⟩ := PySem.W.any_some C.hd
        rw [hc]
        rfl
      exact PySem.W.kia_one (PySem.W.kitx_exc hcl C.hg C.hk C.hs C.ha C.hn C.ht C.hm) I.kIn J e (fun z => nomatch z) fun tk => ⟨.bl b, H, I.kept (t' := tk) fun _ _ z => z, rfl, q⟩
/-! ### errors of one field -/
def spWI (K : PySem.W.Frag) : Sp := fun vs H Q _ => ∃ (a C : Addr) (v : V), vs = [.ref a, v] ∧ OexC K C ∧ PySem.W.findIn K (.ref C) "kind" = some none ∧ H a = some (exo a C none) ∧ ∀ dx, H dx = none → dx ≠ a → Q .non (upd (upd H dx (exd dx [("kind", v)])) a (exo a C (some dx)))
/-- the dict of an error of one field -/
def ef1 (f kd : Str) (v : V) : List (Str × V) := [(f, v), ("kind", .str kd)]
def spE1 (C : Addr) (f kd : Str) : Sp := fun vs H Q _ => ∃ (a : Addr) (v : V), vs = [.ref a, v] ∧ H a = some (exo a C none) ∧ ∀ dx H', H dx = none → dx ≠ a → (∀ b o, b ≠ a → H b = some o → H' b = some o) → H' a = some (exo a C (some dx)) → H' dx = some (exd dx (ef1 f kd v)) → Q .non H'
/-- what is known of WhoError -/
structure WhoT (K : PySem.W.Frag) (mg : Str → Option Value) (W f0 : Addr) (fd0 : FuncData) : Prop where
  g : mg "WhoError" = some (.ref W)
  r : CRead K W (.type "type")
  m : PySem.W.findCls K (.ref W) (.type "type") "__init__" = some (.val (.ref f0))
  k : PySem.W.keepIn K (.ref f0) = true
  b : Binds K fd0 ["self", "kind"] []
/-- what is known of an error class of one field -/
structure ErrT (K : PySem.W.Frag) (mg : Str → Option Value) (x f : Str) (C fI : Addr) : Prop where
  o : OexC K C
  g : mg x = some (.ref C)
  iC : PySem.W.findIn K (.ref C) "__init__" = some (some (.ref fI))
  tI : PySem.W.typeIn K (.ref fI) = some (.type "function")
  nk : PySem.W.findIn K (.ref C) "kind" = some none
  nf : PySem.W.findIn K (.ref C) f = some none
end Wm
namespace Wm
open PySem L2
section
variable {P : Program} {w : World} {K : PySem.W.Frag} {mg : Str → Option Value} {base : Heap}
theorem scW0 : FnScope ["self", "kind"] ["self", "kind"] (defScope sW0) := ⟨rfl, rfl, rfl, by decide +kernel, rfl, by decide +kernel, by decide +kernel⟩
theorem ok_who {f : Addr} {fd : FuncData} {dvs : List V} (F : FunD K "__init__" "WhoError.__init__" (defArgs sW0) (defBody sW0) (defScope sW0) dvs [] f fd) : FnOk P w K mg base CX0 1 f fd ["self", "kind"] (spWI K) := by
  refine F.ok scW0 (fun vs H Q E h => ?_) (fun cdv A outer s H vs Q E hr h => ?_)
  · obtain ⟨a, C, v, rfl, _⟩ := h
    rfl
  · obtain ⟨a, C, v, rfl, o, nk, ha, k⟩ := h
    refine ⟨_, pss_one (ps_ost (pv 0) (pv 1)), ?_⟩
    exact ⟨_, rfl, _, rfl, a, C, rfl, o, nk, .inl ⟨ha, fun dx n ne => k dx n ne⟩⟩
theorem scN0 : FnScope ["self", "name"] ["self", "name"] (defScope sN0) := ⟨rfl, rfl, rfl, by decide +kernel, rfl, by decide +kernel, by decide +kernel⟩
theorem ok_noname {f C f0 W : Addr} {fd fd0 : FuncData} (F : Fun K "__init__" "NoName.__init__" sN0 f fd) (T : ErrT K mg "NoName" "name" C f) (TW : WhoT K mg W f0 fd0) (G0 : FnOk P w K mg base CX0 1 f0 fd0 ["self", "kind"] (spWI K)) :
    FnOk P w K mg base CX0 2 f fd ["self", "name"] (spE1 C "name" "noname") := by
  refine F.ok scN0 (fun vs H Q E h => ?_) (fun cdv A outer s H vs Q E hr h => ?_)
  · obtain ⟨a, v, rfl, _⟩ := h
    rfl
  · obtain ⟨a, v, rfl, ha, k⟩ := h
    refine ⟨_, pss_cons (ps_expr (pe_clsFn rfl TW.g TW.r TW.m TW.k G0 hr TW.b .nil pass0 (pa_cons (pv 0) (pa_cons pe_str pa_nil)))) (pss_one (ps_ost (pv 0) (pv 1))), ?_⟩
    refine ⟨_, rfl, a, C, _, rfl, T.o, T.nk, ha, fun dx n ne => ?_⟩
    refine ⟨_, rfl, _, rfl, a, C, rfl, T.o, T.nf, .inr ⟨dx, _, upd_same, Eq.trans (upd_ne ne) upd_same, by decide, ?_⟩⟩
    refine k dx _ n ne (fun b o nb e => ?_) ?_ upd_same
    · have nd : b ≠ dx := ne_of_none e n
      rw [upd_ne nd, upd_ne nb, upd_ne nd]
      exact e
    · rw [upd_ne ne.symm, upd_same]
end
end Wm
namespace Wm
open PySem L2
/-! ### names -/
def LET : List Nat := (PySem.Str.ofString "abcdefghijklmnopqrstuvwxyz").cps.toList
def FIG : List Nat := (PySem.Str.ofString "0123456789").cps.toList
def okc (c : Nat) : Bool := decide (c ∈ LET) || decide (c ∈ FIG)
def first (l : List Nat) : Bool := match l with
  | [] => false
  | c :: _ => decide (c ∈ LET)
def isNm (z : Str) : Bool := decide (1 ≤ z.length) && (decide (z.length ≤ 12) && (first z.cps.toList && z.cps.toList.all okc))
theorem alnum : (PySem.Str.ofString "abcdefghijklmnopqrstuvwxyz0123456789").cps.toList = LET ++ FIG := by decide +kernel
theorem let_fig : ∀ c ∈ LET, ¬ c ∈ FIG := by decide +kernel
theorem okc_alnum (c : Nat) : decide (c ∈ (PySem.Str.ofString "abcdefghijklmnopqrstuvwxyz0123456789").cps.toList) = okc c := by
  rw [alnum]
  unfold okc
  by_cases h : c ∈ LET <;> by_cases h2 : c ∈ FIG <;> simp [h, h2]
theorem len_eq (z : Str) : z.length = z.cps.toList.length := by
  show z.cps.size = _
  simp
theorem isNm_small {z : Str} (h : z.length < 1 ∨ 12 < z.length) : isNm z = false := by
  unfold isNm
  rcases h with h | h
  · rw [decide_eq_false (by omega)]
    rfl
  · rw [decide_eq_false (p := z.length ≤ 12) (by omega)]
    simp
theorem isNm_first {z : Str} {c : Nat} (h1 : z.cps.toList[0]? = some c) (hc : ¬ c ∈ LET) : isNm z = false := by
  unfold isNm
  have e : first z.cps.toList = false := by
    cases q : z.cps.toList with
    | nil => rfl
    | cons d r =>
      rw [q] at h1
      have e : d = c := Option.some.inj h1
      rw [e]
      exact decide_eq_false hc
  rw [e]
  simp
theorem isNm_all {z : Str} {c : Nat} (h0 : ¬ z.length < 1) (h12 : ¬ 12 < z.length) (h1 : z.cps.toList[0]? = some c) (hc : c ∈ LET) : isNm z = z.cps.toList.all okc := by
  unfold isNm
  have e : first z.cps.toList = true := by
    cases q : z.cps.toList with
    | nil =>
      rw [q] at h1
      cases h1
    | cons d r =>
      rw [q] at h1
      have e : d = c := Option.some.inj h1
      rw [e]
      exact decide_eq_true hc
  rw [e, decide_eq_true (by omega), decide_eq_true (by omega)]
  rfl
theorem isNm_fig {z : Str} {c : Nat} (h1 : z.cps.toList[0]? = some c) (hc : c ∈ FIG) : isNm z = false := isNm_first h1 fun h => let_fig c h hc
theorem isNm_all2 {z : Str} {c : Nat} (h0 : ¬ z.length < 1) (h12 : ¬ 12 < z.length) (h1 : z.cps.toList[0]? = some c) (hc : ¬ c ∈ FIG) : isNm z = z.cps.toList.all okc := by
  by_cases h : c ∈ LET
  · exact isNm_all h0 h12 h1 h
  · rw [isNm_first h1 h]
    have hm : c ∈ z.cps.toList := List.mem_of_getElem? h1
    have e : okc c = false := by
      unfold okc
      rw [decide_eq_false h, decide_eq_false hc]
      rfl
    symm
    rw [List.all_eq_false]
    exact ⟨c, hm, by rw [e]; decide⟩
theorem all_map {l : List Nat} {f : Nat → Bool} : (l.map f).all id = l.all f := by
  induction l with
  | nil => rfl
  | cons a r ih => rw [List.map_cons, List.all_cons, List.all_cons, ih]; rfl
def spName : Sp := fun vs H Q _ => ∃ z : Str, vs = [.str z] ∧ z.length ≤ 1000 ∧ ∀ H', Same H H' → Q (.bl (isNm z)) H'
/-- the constants of names.py -/
structure TxN (mg : Str → Option Value) : Prop where
  lets : ∃ t, mg "LETTERS" = some (.str (PySem.Str.ofString "abcdefghijklmnopqrstuvwxyz") t)
  figs : ∃ t, mg "FIGURES" = some (.str (PySem.Str.ofString "0123456789") t)
  long : ∃ t, mg "LONGEST_NAME" = some (.int 12 t)
/-- the reading of [f(sign) for sign in text] -/
theorem lc_signs {z : Str} {f : Nat → Bool} {g : TG} {te : TE} {vs : List Nat} {σ : St} {H1 : Hp} {D : Addr} {Qd : Hp → Prop} (hz : z.length ≤ 1000) (hD : H1 D = none)
    (he : ∀ (c : Nat) (H : Hp) (Q : St → Hp → Prop), (∀ σ2, wipe σ2 vs = wipe σ vs → (∀ Q2 : VK, Q2 (.bl (f c)) H → te σ2 H Q2) → Q σ2 H) → g (.str ⟨#[c]⟩) (wipe σ vs) H Q)
    (hd : ∀ H, Same H1 H → H D = some (.lst ((z.cps.toList.map f).map V.bl)) → Qd H) :
    ∃ W : Nat → Nat → Hp → Prop, (∃ m, W 0 m (upd H1 D (.lst []))) ∧ ∀ i m H, W i m H →
      ((Its z).stop i H ∧ Qd H) ∨ ((Its z).go i H ∧ ∃ Nx : Hp → Prop, (∀ H', Nx H' → ∃ m', m' < m ∧ W (i + 1) m' H') ∧ ∀ x H', (Its z).yld i H x H' → g x (wipe σ vs) H' fun σ2 H2 => wipe σ2 vs = wipe σ vs ∧ tYes σ2 H2 fun b H3 =>
        if b = true then te σ2 H3 fun y H4 => ∃ acc, H4 D = some (.lst acc) ∧ acc.length < sizeLine ∧ Nx (upd H4 D (.lst (acc ++ [y]))) else Nx H3) := by
  refine lc_it (walk_str (z := z)) (fun i H' => Same H1 H' ∧ H' D = some (.lst (((z.cps.toList.take i).map f).map V.bl))) ⟨Same.upd hD, upd_same⟩ (fun _ _ _ _ => True.intro) ?_ ?_
  · rintro i x H H' hi ⟨hS, hl⟩ ⟨rfl, c, hc, rfl⟩
    refine he c H' _ fun σ2 hw hq => ⟨hw, hq _ ?_⟩
    refine ⟨_, hl, ?_, ?_, ?_⟩
    · rw [List.length_map, List.length_map, List.length_take]
      have e := len_eq z
      exact Nat.lt_of_le_of_lt (show _ ≤ 1000 by omega) (by decide)
    · intro b o h
      have nb : b ≠ D := ne_of_none h hD
      rw [upd_ne nb]
      exact hS b o h
    · rw [upd_same]
      have e : z.cps.toList[i]? = some c := by simpa using hc
      have hlt : i < z.cps.toList.length := (List.getElem?_eq_some_iff.mp e).1
      rw [List.take_add_one, e, List.map_append, List.map_append]
      rfl
  · rintro H ⟨hS, hl⟩
    refine hd H hS ?_
    rw [hl, List.take_of_length_le (by simp)]
section
variable {P : Program} {w : World} {K : PySem.W.Frag} {mg : Str → Option Value} {base : Heap}
theorem scName : FnScope ["text", "sign"] ["text"] (defScope sName) := ⟨rfl, rfl, rfl, by decide +kernel, rfl, by decide +kernel, by decide +kernel⟩
theorem ok_name {f : Addr} {fd : FuncData} (F : Fun K "is_name" "is_name" sName f fd) (T : TxB mg) (TN : TxN mg) : FnOk P w K mg base CX0 1 f fd ["text"] spName := by
  obtain ⟨t1, hlet⟩ := TN.lets
  obtain ⟨t2, hfig⟩ := TN.figs
  obtain ⟨t3, hlong⟩ := TN.long
  refine F.ok scName (fun vs H Q E h => ?_) (fun cdv A outer s H vs Q E hr h => ?_)
  · obtain ⟨z, rfl, _⟩ := h
    rfl
  · obtain ⟨z, rfl, hz, k⟩ := h
    have hzl : z.length ≤ sizeLine := Nat.le_trans hz (by decide)
    refine ⟨_, (pss_cons (ps_if (PW.pt (pw_or (pt_cmpR op_lt (pe_callB call_len_str (by rfl) T.len (by decide +kernel) (pa_cons (pv 0) pa_nil)) pe_int (nomark _)) (pw_or1 (pt_cmpR op_gt (pe_callB call_len_str (by rfl) T.len (by decide +kernel) (pa_cons (pv 0) pa_nil)) (pe_glob (v := .int 12) (by rfl) hlong ⟨_, rfl⟩) (nomark _))))) (pss_one (ps_ret pe_bl)) pss_nil)
      (pss_cons (ps_if (pt_cmpR op_notIn_sign (pe_ix ix_str (pv 0) pe_int (fun _ _ => rfl)) (pe_glob (v := .str (PySem.Str.ofString "abcdefghijklmnopqrstuvwxyz")) (by rfl) hlet ⟨_, rfl⟩) (by rfl)) (pss_one (ps_ret pe_bl)) pss_nil)
      (pss_one (ps_ret (pe_callB (cr_all rfl) (by rfl) T.all (by decide +kernel) (pa_cons (pe_lc (own := [("sign", 1)]) (g := gName 1) rfl scName.nd (pi_str (pv 0)) (blkOk_by (N := ["text", "sign"]) (sc := defScope sName) (by decide +kernel)) (fun _ _ _ _ _ => (pg_name (i := 1) scName.nd rfl (Or.inl rfl))) (fun _ _ _ _ _ => pts_nil) (fun _ _ _ _ _ => (pe_or (pe_cmpR op_in_sign (pv 1) (pe_glob (v := .str (PySem.Str.ofString "abcdefghijklmnopqrstuvwxyz")) (by rfl) hlet ⟨_, rfl⟩) (by rfl)) (pe_one (pe_cmpR op_in_sign (pv 1) (pe_glob (v := .str (PySem.Str.ofString "0123456789")) (by rfl) hfig ⟨_, rfl⟩) (by rfl)))))) pa_nil)))))), ?_⟩
    refine ⟨_, rfl, z, rfl, hzl, _, _, rfl, rfl, _, rfl, ?_⟩
    refine ite2 (fun h1 => ?_) (fun h1 => ?_)
    · have h1' : (z.length : Int) < 1 := of_decide_eq_true h1
      refine iteT ?_
      have e : isNm z = false := isNm_small (.inl (by omega))
      have q := k H (Same.refl H)
      rw [e] at q
      exact q
    refine ⟨_, rfl, z, rfl, hzl, _, _, rfl, rfl, _, rfl, ?_⟩
    refine ite2 (fun h2 => ?_) (fun h2 => ?_)
    · have h2' : (12 : Int) < z.length := of_decide_eq_true h2
      have e : isNm z = false := isNm_small (.inr (by omega))
      have q := k H (Same.refl H)
      rw [e] at q
      exact q
    have h1' : ¬ z.length < 1 := fun x => h1 (decide_eq_true (by omega))
    have h2' : ¬ 12 < z.length := fun x => h2 (decide_eq_true (by omega))
    refine ⟨_, rfl, ?_⟩
    dsimp only [tC]
    refine rdItem (n := z.length) rfl (by decide) (by omega) (by omega) fun c hc => ?_
    refine ⟨c, _, rfl, rfl, _, rfl, ?_⟩
    refine ite2 (fun h3 => ?_) (fun h3 => ?_)
    · have h3' : ¬ c ∈ LET := fun x => by
        rw [show decide (c ∈ (PySem.Str.ofString "abcdefghijklmnopqrstuvwxyz").cps.toList) = true from decide_eq_true x] at h3
        cases h3
      have q := k H (Same.refl H)
      rw [isNm_first hc h3'] at q
      exact q
    have h3' : c ∈ LET := by
      by_cases x : c ∈ LET
      · exact x
      · rw [show decide (c ∈ (PySem.Str.ofString "abcdefghijklmnopqrstuvwxyz").cps.toList) = false from decide_eq_false x] at h3
        exact absurd rfl h3
    refine ⟨_, rfl, z, rfl, fun D hD => ?_⟩
    refine lc_signs (z := z) (f := okc) hz hD (fun c H Q q => ?_) fun H' hS hl => ?_
    · refine q _ rfl fun Q2 q2 => ?_
      refine ⟨_, rfl, c, _, rfl, rfl, _, rfl, ?_⟩
      unfold okc at q2
      refine ite2 (fun h => ?_) (fun h => ?_)
      · have h' : decide (c ∈ LET) = true := h
        rw [h'] at q2
        exact q2
      · have h' : decide (c ∈ LET) = false := Bool.eq_false_iff.mpr h
        rw [h'] at q2
        exact ⟨_, rfl, c, _, rfl, rfl, q2⟩
    · refine ⟨D, _, rfl, SqL.of hl, ?_⟩
      have q := k H' hS
      rw [isNm_all h1' h2' hc h3', ← all_map] at q
      exact q
end
end Wm
namespace Wm
open PySem L2
theorem mk1 {C : Addr} {f kd : Str} {v : V} {H : Hp} {Q : XK} (k : ∀ d H', H d = none → Same H H' → H' d = some (.xd (ef1 f kd v)) → Q (.ref C) (some d) H') :
    [v].length ≤ 1000 ∧ ∀ a, H a = none → spE1 C f kd (.ref a :: ([v] ++ [])) (upd H a (exo a C none)) (fun u H2 => u = .non ∧ ∃ (d : Addr) (fs : List (Str × V)), H2 a = some (exo a C (some d)) ∧ H2 d = some (exd d fs) ∧ H d = none ∧ Q (.ref C) (some d) (upd (del H2 a) d (.xd fs))) (fun _ _ _ => False) := by
  refine ⟨by show 1 ≤ 1000; decide, fun a na => ⟨a, v, rfl, upd_same, fun dx H' n ne kp ha hd => ⟨rfl, dx, _, ha, hd, ?_, ?_⟩⟩⟩
  · rw [upd_ne ne] at n
    exact n
  · rw [upd_ne ne] at n
    refine k dx _ n (fun b o e => ?_) upd_same
    have nb : b ≠ a := ne_of_none e na
    rw [upd_ne (ne_of_none e n), del_ne nb]
    exact kp b o nb (by rw [upd_ne nb]; exact e)
/-- what is due of the first text that is no name -/
def DueN (C : Addr) (zs : List Str) (H : Hp) (Q : VK) (E : XK) : Prop := match zs.find? (fun z => !isNm z) with
  | none => ∀ H', Same H H' → Q .non H'
  | some z => ∀ d H', H d = none → Same H H' → H' d = some (.xd (ef1 "name" "noname" (.str z))) → E (.ref C) (some d) H'
def spRN (K : PySem.W.Frag) (C : Addr) : Sp := fun vs H Q E => ∃ (l : Addr) (zs : List Str), vs = [.ref l] ∧ SqL K H l (zs.map V.str) ∧ zs.length ≤ 1000 ∧ (∀ z ∈ zs, z.length ≤ 1000) ∧ DueN C zs H Q E
theorem find_none_take {zs : List Str} {i : Nat} {z : Str} {p : Str → Bool} (h : ∀ y ∈ zs.take i, p y = false) (e : zs[i]? = some z) (hz : p z = true) : zs.find? p = some z := by
  have hlt : i < zs.length := (List.getElem?_eq_some_iff.mp e).1
  have e2 : zs = zs.take i ++ z :: zs.drop (i + 1) := by
    have q := List.take_append_drop i zs
    have q2 := List.drop_eq_getElem_cons hlt
    have q3 : zs[i] = z := (List.getElem?_eq_some_iff.mp e).2
    rw [q2, q3] at q
    exact q.symm
  rw [e2, List.find?_append]
  have n : (zs.take i).find? p = none := by
    rw [List.find?_eq_none]
    intro y hy
    rw [h y hy]
    decide
  rw [n]
  simp [hz]
section
variable {P : Program} {w : World} {K : PySem.W.Frag} {mg : Str → Option Value} {base : Heap}
theorem scRN : FnScope ["texts", "text"] ["texts"] (defScope sRN) := ⟨rfl, rfl, rfl, by decide +kernel, rfl, by decide +kernel, by decide +kernel⟩
theorem ok_rn {f fN C fI : Addr} {fd fdN fdI : FuncData} (F : Fun K "refuse_no_name" "refuse_no_name" sRN f fd) (D : Dn K mg "is_name" sName ["text"] fN fdN) (GN : FnOk P w K mg base CX0 1 fN fdN ["text"] spName) (TE : ErrT K mg "NoName" "name" C fI) (bI : Binds K fdI ["self", "name"] [])
    (GI : FnOk P w K mg base CX0 2 fI fdI ["self", "name"] (spE1 C "name" "noname")) : FnOk P w K mg base (L2.CX P w) 4 f fd ["texts"] (spRN K C) := by
  refine F.okX scRN (fun vs H Q E h => ?_) (fun cdv A outer s H vs Q E hr h => ?_)
  · obtain ⟨l, zs, rfl, _⟩ := h
    rfl
  · obtain ⟨l, zs, rfl, hl, hn, hz, k⟩ := h
    have hr1 : Room 1 _ := hr.mono (by decide)
    refine ⟨_, (pss_one (ps_for (passes_of rfl) rfl (pi_list (pv 0)) (pg_name (i := 1) scRN.nd rfl (Or.inl rfl)) (pss_one (ps_if (pt_not (pt_val (pe_call GN hr1 rfl D.g D.F.kp D.b .nil pass0 (pa_cons (pv 1) pa_nil)))) (pss_one (ps_raise rfl (takes_of rfl rfl rfl rfl) (pmk_oex TE.o TE.iC TE.tI GI hr bI .nil pass0 rfl TE.g (pa_cons (pv 1) pa_nil)))) pss_nil)))), ?_⟩
    refine ⟨_, rfl, l, rfl, ⟨_, hl⟩, for_list (K := K) (a := l) (xs := zs.map V.str) (fun i σ H' => ∃ v, σ = [some (.ref l), v] ∧ Same H H' ∧ ∀ y ∈ zs.take i, (!isNm y) = false) ⟨none, rfl, Same.refl H, fun y hy => (List.not_mem_nil hy).elim⟩
      (fun i σ H' _ ⟨_, _, hS, _⟩ => hS.seq hl) ?_ ?_⟩
    · rintro i y σ H' hi ⟨v, rfl, hS, hno⟩
      obtain ⟨z, hzi, rfl⟩ : ∃ z, zs[i]? = some z ∧ y = V.str z := by
        rw [List.getElem?_map] at hi
        cases e : zs[i]? with
        | none =>
          rw [e] at hi
          cases hi
        | some z =>
          rw [e] at hi
          exact ⟨z, rfl, (Option.some.inj hi).symm⟩
      refine ⟨_, rfl, z, rfl, hz z (List.mem_of_getElem? hzi), fun H2 hS2 => ⟨_, rfl, ?_⟩⟩
      refine ite2 (fun h => ?_) (fun h => ?_)
      · refine ⟨_, rfl, ?_⟩
        have e := find_none_take hno hzi h
        unfold DueN at k
        rw [e] at k
        refine mk1 fun d H3 hd hS3 hx => k d H3 (hS.free (hS2.free hd)) (hS.trans (hS2.trans hS3)) hx
      · refine ⟨_, rfl, hS.trans hS2, fun y hy => ?_⟩
        rw [List.take_add_one, hzi] at hy
        rcases List.mem_append.mp hy with hy | hy
        · exact hno y hy
        · have e : y = z := by simpa using hy
          rw [e]
          exact Bool.eq_false_iff.mpr h
    · rintro σ H' ⟨v, rfl, hS, hno⟩
      have e : zs.find? (fun z => !isNm z) = none := by
        rw [List.find?_eq_none]
        intro y hy
        rw [List.length_map, List.take_length] at hno
        rw [hno y hy]
        decide
      unfold DueN at k
      rw [e] at k
      exact k H' hS
end
end Wm
namespace Wm
open PySem PySem.Spec PyProof.Rows L2
/-- enumerate(v): its two new cells -/
theorem meets_enum1 {v : Value} {o : Obj} {H : Heap → Prop} (B : Begins v o H) :
    Meets (Builtin.«enumerate.__new__» ⟨[.type "enumerate", v], []⟩) (fun _ R s => H s.heap ∧
      R (.ok (.ret (.ref (s.heap.push o).objs.size))) { s with heap := (s.heap.push o).push { cls := .type "enumerate", data := .fields #[.none, .bool false, .ref s.heap.objs.size, rawInt 0, .none, .none] } }) :=
  .of_wp fun prog w A R s hh => by
    obtain ⟨hp, g, d, tk, os⟩ := s
    obtain ⟨h1, h⟩ := hh
    have hsub := sub_enumerate
    have q1 : ∀ {A' : Around} {E : Value → Shared → Prop} {Q : Value → Shared → Prop}, Q (.ref hp.objs.size) ⟨hp.push o, g, d, tk, os⟩ → wpAny (model prog w) A' (pyIter v) Q E ⟨hp, g, d, tk, os⟩ := fun q => B.iter prog w _ _ ⟨hp, g, d, tk, os⟩ _ h1 q
    wp_walk using q1
    refine wpAny_stack_any fun stk => wpAny_pure ?_
    split
    · rename_i c _ _ _ _ _
      cases (c == Value.type "enumerate") <;> (wp_walk using q1; exact ⟨_, rfl, h⟩)
    · wp_walk using q1
      exact ⟨_, rfl, h⟩
theorem call_enum_tup {prog : Program} {w : World} {A : Around} {E : Value → Shared → Prop} {s : Shared} {t : Addr} {items : Array Value} {Q : Value → Shared → Prop} (hL : s.heap.IsTuple t items)
    (h : ∀ h', IsEnum h' (s.heap.objs.size + 1) s.heap.objs.size 0 .none → h'.IsTupleIter s.heap.objs.size t 0 → (∀ b o, s.heap.get? b = some o → h'.get? b = some o) → Q (.ref (s.heap.objs.size + 1)) { s with heap := h' }) :
    wpAny (model prog w) A (call (.type "enumerate") [.ref t]) Q E s := by
  refine callType_new F.called_enumerate (by decide) (F.typeCall_enumerate_1 _) (F.newCall_enumerate_1 _) (fun obj => F.args_object_init_2 obj _) F.entry_enumerate_new (meets_enum1 (begins_tuple t items)) ⟨hL, ?_⟩
  generalize ho : ({ cls := .type "tuple_iterator", data := .fields #[.ref t, .int 0 0] } : Obj) = o
  have hz : (s.heap.push o).objs.size = s.heap.objs.size + 1 := Heap.size_push ..
  show _ ∧ _
  rw [hz]
  generalize he : ({ cls := .type "enumerate", data := .fields #[.none, .bool false, .ref s.heap.objs.size, rawInt 0, .none, .none] } : Obj) = eo
  have h2 : ((s.heap.push o).push eo).get? (s.heap.objs.size + 1) = some eo := by
    have q := Heap.get?_push_size (s.heap.push o) (o := eo) (by rw [← he]; rfl)
    rw [hz] at q
    exact q
  have h3 : ((s.heap.push o).push eo).get? s.heap.objs.size = some o := Heap.get?_push_of_some _ (Heap.get?_push_size _ (by rw [← ho]; rfl))
  refine ⟨⟨_, h2, by rw [← he]⟩, h _ ?_ ⟨o, h3, by rw [← ho], by rw [← ho]; rfl⟩ fun b o x => Heap.get?_push_of_some _ (Heap.get?_push_of_some _ x)⟩
  show ((s.heap.push o).push eo).get? (s.heap.objs.size + 1) = some _
  rw [h2, ← he]
/-- the tuple at a, each item in a new pair -/
def IteT (K : PySem.W.Frag) (a : Addr) (xs : List V) : It :=
  ⟨fun i H => SqT K H a xs ∧ i < xs.length, fun i H v H' => ∃ T x, v = .ref T ∧ H T = none ∧ H' = upd H T (.tup [.int (i : Nat), x]) ∧ xs[i]? = some x, fun i H => SqT K H a xs ∧ i = xs.length⟩
theorem turn_enumT {P : Program} {w : World} {K : PySem.W.Frag} {elts : List Expr} {kk : Nat} {tpos : Pos} {xs : List V} (a e it : Addr) (his : List Value) :
    Turn P w K (.Tuple elts kk tpos) (IteT K a xs) [e, it] e (fun i h => (∃ old, IsEnum h e it ((i : Nat) : Int) old) ∧ h.IsTupleIter it a i ∧ e ≠ it ∧ a ≠ it ∧ a ≠ e) where
  mem := by simp
  obj := fun i h st b hb => by
    obtain ⟨⟨old, he⟩, ⟨o, ho, hc, hd⟩, _⟩ := st
    rcases (show b = e ∨ b = it by simpa using hb) with z | z
    · rw [z]
      exact ⟨_, he, fun v q => nomatch q⟩
    · rw [z]
      exact ⟨o, ho, fun v q => by rw [hd] at q; cases q⟩
  keep := fun i h h' st k => let ⟨⟨old, he⟩, hi, hne⟩ := st; ⟨⟨old, k e (by simp) _ he⟩, hi.at fun o q => k it (by simp) o q, hne⟩
  item := by
    intro X hP hw hK hc i pins s σ H E I hf st hg
    subst hP hw hK
    obtain ⟨⟨old, he⟩, hit, hne, nai, nae⟩ := st
    obtain ⟨hq, hlt⟩ := hg
    obtain ⟨its, rv, p, hz⟩ := I.tuple hq
    have hlen := rv.length
    have hel : e < s.heap.objs.size := Heap.lt_size he
    have hil : it < s.heap.objs.size := by obtain ⟨_, q, _⟩ := hit; exact Heap.lt_size q
    have D : Draws X.prog X.w X.A.in1 it [it, a] its.toArray.size (fun i v => its.toArray[i]? = some v) (fun i h => h.IsTupleIter it a i ∧ h.IsTuple a its.toArray) := Draws.tuple (A := X.A.in1) (show X.A.in1.handled = none from I.ok.hd hc) it a nai its.toArray
    refine wpAny_pyNext_enum_itemC D he ⟨hit, p⟩ (by rw [List.size_toArray]; omega) hne (by simp [hne, Ne.symm nae]) fun u h' tk hu ho hst' hT hsz hk => ?_
    have hu' : its[i]? = some u := by simpa using hu
    obtain ⟨x, hx, ru⟩ : ∃ x, xs[i]? = some x ∧ RelV x u := by
      obtain ⟨u2, h2, r2⟩ := rv.get (List.getElem?_eq_getElem hlt)
      rw [hu'] at h2
      cases h2
      exact ⟨_, List.getElem?_eq_getElem hlt, r2⟩
    refine ⟨_, rfl, wpAny_letOwnedTupleGo_enum (s := { s with heap := h', toks := tk + 1 }) ho fun h'' he' sb => ?_⟩
    have hT2 : h''.get? s.heap.objs.size = some { cls := .type "tuple", data := .seq #[.int i tk, u] } := (sb.2 _ (Nat.ne_of_gt hel)).trans hT
    have new : ObjOk X.prog X.w (upd H s.heap.objs.size (.tup [.int (i : Nat), x])) h'' s.heap.objs.size (.tup [.int (i : Nat), x]) := ⟨by show 2 ≤ sizeLine; decide, [.int i tk, u], .cons ⟨_, rfl⟩ (.cons ru .nil), ⟨_, hT2, rfl, _, rfl⟩⟩
    have I1 : Inv X pins σ (upd H s.heap.objs.size (.tup [.int (i : Nat), x])) { s with heap := h'', toks := tk + 1 } :=
      I.turnedNew (ch := [e, it]) (fun b ob hb q => (sb.2 b (fun z => hb (by simp [z]))).trans (hk b ob (fun z => hb (by simp [z])) (fun z => hb (by simp [z])) q)) hf (Nat.le_refl _) new
    refine ⟨.ref s.heap.objs.size, _, I1, rfl, ⟨_, x, rfl, I.hok.fresh (Nat.le_refl _), rfl, hx⟩, ⟨⟨u, ?_⟩, hst'.1.at fun o q => (sb.2 it (Ne.symm hne)).trans q, hne, nai, nae⟩, fun b hb => ?_⟩
    · have e1 : ((i + 1 : Nat) : Int) = (i : Int) + 1 := by omega
      rw [e1]
      exact he'
    · have hb' : b < s.heap.objs.size := by
        rcases (show b = e ∨ b = it by simpa using hb) with z | z
        · rw [z]; exact hel
        · rw [z]; exact hil
      rw [upd_ne (Nat.ne_of_lt hb')]
      exact (hf b hb).1
  done := by
    intro X hP hw hK hc i pins s σ H E I hf st hg
    subst hP hw hK
    obtain ⟨⟨old, he⟩, hit, hne, nai, nae⟩ := st
    obtain ⟨hq, hi⟩ := hg
    obtain ⟨its, rv, p, hz⟩ := I.tuple hq
    have hlen := rv.length
    obtain ⟨f0, f1, f2, f3, f4, f5⟩ := hf it (by simp)
    have D : Draws X.prog X.w X.A.in1 it [it, a] its.toArray.size (fun i v => its.toArray[i]? = some v) (fun i h => h.IsTupleIter it a i ∧ h.IsTuple a its.toArray) := Draws.tuple (A := X.A.in1) (show X.A.in1.handled = none from I.ok.hd hc) it a nai its.toArray
    have en : i = its.toArray.size := by rw [List.size_toArray]; omega
    rw [en] at he hit
    exact wpAny_pyNext_enum_endD D he ⟨hit, p⟩ fun h' eb => ⟨rfl, I.turned (t' := s.toks) (fun b o hb q => eb b o hb q) f0 f1 f3 f4 f5⟩
  self := fun A i s Q E st h => let ⟨⟨_, he⟩, _⟩ := st; wpAny_pyIter_enum he h
def iEnumT (K : PySem.W.Frag) (ta : TA) : TI := fun σ H R => ta σ H fun vs H1 => ∃ a xs, vs = [.ref a] ∧ SqT K H1 a xs ∧ R (IteT K a xs) H1
theorem pi_enumT {X : Cx} {e : Expr} {ta : TA} {p pos tpos : Pos} {elts : List Expr} {kk : Nat} (hg : Gl X "enumerate") (hm : X.mg "enumerate" = none) (ha : PA X [e] ta) (hs : starEach [e] X.env = [(false, eval e X.env)] := by rfl) :
    PI X (.Tuple elts kk tpos) (.Call (.Name "enumerate" p) [e] [] pos) (iEnumT X.K ta) := by
  refine ⟨fun pins s σ H R I h => ?_⟩
  refine Call_ (ld_blt I hg hm boot_enumerate (PyProof.Rows.callWith_type1 (thn (ha.run pos pins s σ H _ I h) fun us s1 ⟨vs, H1, I1, r1, a, xs, ex, hq, q⟩ => ?_) hs rfl))
  subst ex
  cases r1 with
  | cons r rr =>
    cases rr
    cases r
    obtain ⟨its, rv, p', hz⟩ := I1.tuple hq
    have hal : a < s1.heap.objs.size := by obtain ⟨_, z, _⟩ := p'; exact Heap.lt_size z
    refine call_enum_tup (items := its.toArray) p' fun h' he hit hk => wpAny_pyIter_enum he ?_
    have I2 : Inv X pins σ H1 { s1 with heap := h' } := I1.kept (t' := s1.toks) hk
    refine ⟨s1.heap.objs.size + 1, [s1.heap.objs.size + 1, s1.heap.objs.size], _, _, H1, rfl, I2, turn_enumT a (s1.heap.objs.size + 1) s1.heap.objs.size its, ⟨⟨.none, he⟩, hit, Nat.succ_ne_self _, Nat.ne_of_lt hal, Nat.ne_of_lt (Nat.lt_succ_of_lt hal)⟩, fun b hb => ?_, q⟩
    have hle : s1.heap.objs.size ≤ b := by
      rcases (show b = s1.heap.objs.size + 1 ∨ b = s1.heap.objs.size by simpa using hb) with z | z
      · rw [z]; exact Nat.le_add_right _ _
      · rw [z]; exact Nat.le_refl _
    exact I1.fpOk hle (I1.hok.fresh hle)
theorem walk_enumT {K : PySem.W.Frag} {a : Addr} {xs : List V} : Walk (IteT K a xs) xs.length (fun H => SqT K H a xs) (YPair (fun i => some (.int (i : Nat))) (fun i => xs[i]?)) := by
  refine ⟨fun i _ hi q => ⟨q, hi⟩, fun _ q => ⟨q, rfl⟩, fun i H v H' _ q y => ?_⟩
  obtain ⟨T, x, h1, h2, h3, h4⟩ := y
  exact ⟨T, .int (i : Nat), x, h1, h2, h3, rfl, h4⟩
end Wm
namespace Wm
open PySem L2
/-- the outer walk of a comprehension of two clauses -/
theorem lc2_it {J : It} {n : Nat} {G : Hp → Prop} {Y : Nat → Hp → V → Hp → Prop} (w : Walk J n G Y) {g : TG} {vs : List Nat} {σ : St} {H1 : Hp} {D : Addr} {Qd : Hp → Prop} {inner : St → Hp → (Hp → Prop) → Prop} (Pv : Nat → Hp → Prop) (h0 : Pv 0 (upd H1 D (.lst []))) (hG : ∀ i H, i ≤ n → Pv i H → G H)
    (hs : ∀ i x H H', i < n → Pv i H → Y i H x H' → g x (wipe σ vs) H' fun σ2 H2 => wipe σ2 vs = wipe σ vs ∧ inner σ2 H2 (Pv (i + 1))) (hd : ∀ H, Pv n H → Qd H) :
    ∃ W : Nat → Nat → Hp → Prop, (∃ m, W 0 m (upd H1 D (.lst []))) ∧ ∀ i m H, W i m H →
      (J.stop i H ∧ Qd H) ∨ (J.go i H ∧ ∃ Nx : Hp → Prop, (∀ H', Nx H' → ∃ m', m' < m ∧ W (i + 1) m' H') ∧ ∀ x H', J.yld i H x H' → g x (wipe σ vs) H' fun σ2 H2 => wipe σ2 vs = wipe σ vs ∧ inner σ2 H2 Nx) := by
  refine ⟨fun i m H => m = n - i ∧ i ≤ n ∧ Pv i H, ⟨n, by simp, Nat.zero_le _, h0⟩, ?_⟩
  rintro i m H ⟨rfl, hi, p⟩
  have q := hG i H hi p
  by_cases hlt : i < n
  · exact .inr ⟨w.goes i H hlt q, Pv (i + 1), fun H' p' => ⟨n - (i + 1), by omega, rfl, hlt, p'⟩, fun x H' y => hs i x H H' hlt p (w.yields i H x H' hlt q y)⟩
  · have e : i = n := by omega
    subst e
    exact .inl ⟨w.stops H q, hd H p⟩
/-- the inner one -/
theorem lc1_it {J : It} {n : Nat} {G : Hp → Prop} {Y : Nat → Hp → V → Hp → Prop} (w : Walk J n G Y) {g : TG} {te : TE} {vs : List Nat} {σ : St} {H4 : Hp} {D : Addr} {Nx : Hp → Prop} (Pv : Nat → Hp → Prop) (h0 : Pv 0 H4) (hG : ∀ i H, i ≤ n → Pv i H → G H)
    (hs : ∀ i x H H', i < n → Pv i H → Y i H x H' → g x (wipe σ vs) H' fun σ3 H5 => wipe σ3 vs = wipe σ vs ∧ te σ3 H5 fun y H7 => ∃ acc, H7 D = some (.lst acc) ∧ acc.length < sizeLine ∧ Pv (i + 1) (upd H7 D (.lst (acc ++ [y])))) (hd : ∀ H, Pv n H → Nx H) :
    ∃ W1 : Nat → Nat → Hp → Prop, (∃ m, W1 0 m H4) ∧ ∀ j k H, W1 j k H →
      (J.stop j H ∧ Nx H) ∨ (J.go j H ∧ ∃ Nx1 : Hp → Prop, (∀ H', Nx1 H' → ∃ k', k' < k ∧ W1 (j + 1) k' H') ∧ ∀ x H', J.yld j H x H' → g x (wipe σ vs) H' fun σ3 H5 => wipe σ3 vs = wipe σ vs ∧ tYes σ3 H5 fun b H6 =>
        if b = true then te σ3 H6 fun y H7 => ∃ acc, H7 D = some (.lst acc) ∧ acc.length < sizeLine ∧ Nx1 (upd H7 D (.lst (acc ++ [y]))) else Nx1 H6) := by
  refine ⟨fun i m H => m = n - i ∧ i ≤ n ∧ Pv i H, ⟨n, by simp, Nat.zero_le _, h0⟩, ?_⟩
  rintro i m H ⟨rfl, hi, p⟩
  have q := hG i H hi p
  by_cases hlt : i < n
  · exact .inr ⟨w.goes i H hlt q, Pv (i + 1), fun H' p' => ⟨n - (i + 1), by omega, rfl, hlt, p'⟩, fun x H' y => hs i x H H' hlt p (w.yields i H x H' hlt q y)⟩
  · have e : i = n := by omega
    subst e
    exact .inl ⟨w.stops H q, hd H p⟩
/-- tuple(x) of a list or a tuple -/
def rTupOf (K : PySem.W.Frag) : List V → Hp → VK → Prop := fun xs H Q => ∃ p ys, xs = [.ref p] ∧ ((SqL K H p ys ∧ ∀ l, H l = none → Q (.ref l) (upd H l (.tup ys))) ∨ (SqT K H p ys ∧ Q (.ref p) H))
theorem call_tupN {X : Cx} : CallR X (.type "tuple") (rTupOf X.K) := call_tuple_of
theorem same_seqT {K : PySem.W.Frag} {H H' : Hp} {a : Addr} {xs : List V} (e : Same H H') (h : SqT K H a xs) : SqT K H' a xs := by
  rcases h with (h | ⟨o, h⟩) | h
  · exact .inl (.inl (e _ _ h))
  · exact .inl (.inr ⟨o, e _ _ h⟩)
  · exact .inr h
/-- to be read as a list or a tuple -/
def Sq (K : PySem.W.Frag) (H : Hp) (a : Addr) (xs : List V) : Prop := SqL K H a xs ∨ SqT K H a xs
theorem same_sq {K : PySem.W.Frag} {H H' : Hp} {a : Addr} {xs : List V} (e : Same H H') (h : Sq K H a xs) : Sq K H' a xs := h.imp (fun h => e.seq h) (fun h => same_seqT e h)
theorem cut_take (xs : List V) (i : Nat) : cutV xs none (some (i : Int)) = xs.take i := by
  unfold cutV
  rw [HT.sIx_none, HT.sIx_nat, List.drop_zero, Nat.sub_zero]
  by_cases h : i ≤ xs.length
  · rw [Nat.min_eq_left h]
  · rw [Nat.min_eq_right (by omega), List.take_length, List.take_of_length_le (by omega)]
theorem all_take {xs : List V} (h : xs.all flatV = true) (i : Nat) : (xs.take i).all flatV = true := by
  rw [List.all_eq_true] at h ⊢
  exact fun x hx => h x (List.mem_of_mem_take hx)
end Wm
namespace Wm
open PySem L2
/-- no item stands ahead of itself -/
def NoTw (xs : List V) : Prop := ∀ (i : Nat) (x : V), xs[i]? = some x → inV x (xs.take i) = false
def spFT (K : PySem.W.Frag) : Sp := fun vs H Q _ => ∃ (l : Addr) (xs : List V), vs = [.ref l] ∧ Sq K H l xs ∧ xs.all flatV = true ∧ NoTw xs ∧ ∀ H', Same H H' → Q .non H'
def spRC : Sp := fun vs H Q _ => ∃ (z : V) (c lo hi : Int), vs = [z, .int c, .int lo, .int hi] ∧ lo ≤ c ∧ c ≤ hi ∧ Q .non H
section
variable {P : Program} {w : World} {K : PySem.W.Frag} {mg : Str → Option Value} {base : Heap}
theorem scRC : FnScope ["what", "count", "least", "most"] ["what", "count", "least", "most"] (defScope sRC) := ⟨rfl, rfl, rfl, by decide +kernel, rfl, by decide +kernel, by decide +kernel⟩
theorem ok_rc {f : Addr} {fd : FuncData} (F : Fun K "refuse_count" "refuse_count" sRC f fd) : FnOk P w K mg base CX0 1 f fd ["what", "count", "least", "most"] spRC := by
  refine F.ok scRC (fun vs H Q E h => ?_) (fun cdv A outer s H vs Q E hr h => ?_)
  · obtain ⟨z, c, lo, hi, rfl, _⟩ := h
    rfl
  · obtain ⟨z, c, lo, hi, rfl, h1, h2, k⟩ := h
    refine ⟨_, (pss_one (ps_if (PW.pt (pw_or (pt_cmpR op_lt (pv 1) (pv 2) (nomark _)) (pw_or1 (pt_cmpR op_gt (pv 1) (pv 3) (nomark _))))) (pss_one ps_never) pss_nil)), ?_⟩
    refine ⟨_, rfl, _, rfl, _, _, rfl, rfl, _, rfl, ?_⟩
    refine ite2 (fun h => absurd (of_decide_eq_true h) (by omega)) (fun _ => ?_)
    refine ⟨_, rfl, _, rfl, _, _, rfl, rfl, _, rfl, ?_⟩
    exact ite2 (fun h => absurd (of_decide_eq_true h) (by omega)) (fun _ => k)
theorem scFT : FnScope ["row", "place", "part"] ["row"] (defScope sFT) := ⟨rfl, rfl, rfl, by decide +kernel, rfl, by decide +kernel, by decide +kernel⟩
theorem ok_ft {f : Addr} {fd : FuncData} (F : Fun K "first_twice" "first_twice" sFT f fd) (T : TxB mg) : FnOk P w K mg base CX0 1 f fd ["row"] (spFT K) := by
  refine F.ok scFT (fun vs H Q E h => ?_) (fun cdv A outer s H vs Q E hr h => ?_)
  · obtain ⟨l, xs, rfl, _⟩ := h
    rfl
  · obtain ⟨l, xs, rfl, hl, hf, hno, k⟩ := h
    rcases hl with hl | hl
    · refine ⟨_, (pss_cons (ps_for PassesOwn.never rfl (pi_enum rfl T.enumerate (pa_cons (pv 0) pa_nil)) (pg_tup rfl (pgs_cons (pg_name (i := 1) scFT.nd rfl (Or.inl rfl)) (pgs_cons (pg_name (i := 2) scFT.nd rfl (Or.inl rfl)) pgs_nil))) (pss_one (ps_if (pt_cmpR op_in_seq (pv 2) (pe_slice sl_list (pv 0) po_none (po_some (pv 1))) (by rfl)) (pss_one (ps_ret (pv 1))) pss_nil)))
      (pss_one (ps_ret pe_non))), ?_⟩
      refine ⟨_, rfl, l, xs, rfl, hl, for_it walk_enum (fun i σ H' => (∃ u v, σ = [some (.ref l), u, v]) ∧ Same H H') ⟨⟨none, none, rfl⟩, Same.refl H⟩ (fun i σ H' _ p => p.2.seq hl) ?_ ?_⟩
      · rintro i x σ H1 H2 hi ⟨⟨u, v, rfl⟩, hS⟩ ⟨t, y, z, rfl, ht, rfl, e1, e2⟩
        cases e1
        refine ⟨t, _, rfl, SqT.of upd_same, rfl, _, _, rfl, _, _, rfl, rfl, ?_⟩
        have S2 := hS.trans (Same.upd (o := .tup [.int (i : Nat), z]) ht)
        refine ⟨_, rfl, _, rfl, _, rfl, _, rfl, l, xs, rfl, S2.seq hl, fun p hp => ?_⟩
        refine ⟨p, _, rfl, .inl (SqL.of upd_same), ?_, ?_, _, rfl, ?_⟩
        · exact List.all_eq_true.mp hf _ (List.mem_of_getElem? e2)
        · show (cutV xs none (some (i : Int))).all flatV = true
          rw [cut_take]
          exact all_take hf i
        · have e : inV z (cutV xs none (some (i : Int))) = false := by
            rw [cut_take]
            exact hno i z e2
          show if inV z (cutV xs none (some (i : Int))) = true then _ else _
          rw [e]
          exact iteF ⟨⟨_, _, rfl⟩, S2.trans (Same.upd hp)⟩
      · rintro σ H' ⟨_, hS⟩
        exact k H' hS
    · refine ⟨_, (pss_cons (ps_for PassesOwn.never rfl (pi_enumT rfl T.enumerate (pa_cons (pv 0) pa_nil)) (pg_tup rfl (pgs_cons (pg_name (i := 1) scFT.nd rfl (Or.inl rfl)) (pgs_cons (pg_name (i := 2) scFT.nd rfl (Or.inl rfl)) pgs_nil))) (pss_one (ps_if (pt_cmpR op_in_seq (pv 2) (pe_slice sl_tupA (pv 0) po_none (po_some (pv 1))) (by rfl)) (pss_one (ps_ret (pv 1))) pss_nil)))
      (pss_one (ps_ret pe_non))), ?_⟩
      refine ⟨_, rfl, l, xs, rfl, hl, for_it walk_enumT (fun i σ H' => (∃ u v, σ = [some (.ref l), u, v]) ∧ Same H H') ⟨⟨none, none, rfl⟩, Same.refl H⟩ (fun i σ H' _ p => same_seqT p.2 hl) ?_ ?_⟩
      · rintro i x σ H1 H2 hi ⟨⟨u, v, rfl⟩, hS⟩ ⟨t, y, z, rfl, ht, rfl, e1, e2⟩
        cases e1
        refine ⟨t, _, rfl, SqT.of upd_same, rfl, _, _, rfl, _, _, rfl, rfl, ?_⟩
        have S2 := hS.trans (Same.upd (o := .tup [.int (i : Nat), z]) ht)
        refine ⟨_, rfl, _, rfl, _, rfl, _, rfl, l, xs, rfl, same_seqT S2 hl, fun h => ?_, fun h p hp => ?_⟩
        · have en : xs.take i = xs := by
            rw [HT.sIx_nat] at h
            exact List.take_of_length_le (by omega)
          have e : inV z xs = false := by
            have q := hno i z e2
            rw [en] at q
            exact q
          refine ⟨l, xs, rfl, .inr (same_seqT S2 hl), List.all_eq_true.mp hf _ (List.mem_of_getElem? e2), hf, _, rfl, ?_⟩
          show if inV z xs = true then _ else _
          rw [e]
          exact iteF ⟨⟨_, _, rfl⟩, S2⟩
        · refine ⟨p, _, rfl, .inr (SqT.of upd_same), List.all_eq_true.mp hf _ (List.mem_of_getElem? e2), ?_, _, rfl, ?_⟩
          · show (cutV xs none (some (i : Int))).all flatV = true
            rw [cut_take]
            exact all_take hf i
          · have e : inV z (cutV xs none (some (i : Int))) = false := by
              rw [cut_take]
              exact hno i z e2
            show if inV z (cutV xs none (some (i : Int))) = true then _ else _
            rw [e]
            exact iteF ⟨⟨_, _, rfl⟩, S2.trans (Same.upd hp)⟩
      · rintro σ H' ⟨_, hS⟩
        exact k H' hS
theorem scRT : FnScope ["names", "place"] ["names"] (defScope sRT) := ⟨rfl, rfl, rfl, by decide +kernel, rfl, by decide +kernel, by decide +kernel⟩
theorem ok_rt {f fF : Addr} {fd fdF : FuncData} (F : Fun K "refuse_twice" "refuse_twice" sRT f fd) (T : TxB mg) (D : Dn K mg "first_twice" sFT ["row"] fF fdF) : FnOk P w K mg base CX0 2 f fd ["names"] (spFT K) := by
  have G : FnOk P w K mg base CX0 1 fF fdF ["row"] (spFT K) := ok_ft D.F T
  refine F.ok scRT (fun vs H Q E h => ?_) (fun cdv A outer s H vs Q E hr h => ?_)
  · obtain ⟨l, xs, rfl, _⟩ := h
    rfl
  · obtain ⟨l, xs, rfl, hl, hf, hno, k⟩ := h
    refine ⟨_, (pss_cons (ps_set (i := 1) scRT.nd rfl (Or.inl rfl) (pe_call G hr rfl D.g D.F.kp D.b .nil pass0 (pa_cons (pv 0) pa_nil)))
      (pss_one (ps_if (pt_cmp (pc_notN (pv 1))) (pss_one ps_never) pss_nil))), ?_⟩
    refine ⟨_, rfl, l, xs, rfl, hl, hf, hno, fun H' hS => ?_⟩
    refine ⟨_, rfl, _, rfl, ?_⟩
    exact iteF (k H' hS)
end
end Wm
namespace Wm
open PySem L2
/-- the tuples at the addresses -/
def RowsAt (K : PySem.W.Frag) (H : Hp) : List Addr → List (List V) → Prop
  | [], [] => True
  | p :: ps, r :: rs => SqT K H p r ∧ RowsAt K H ps rs
  | _, _ => False
theorem RowsAt.same {K : PySem.W.Frag} {H H' : Hp} (e : Same H H') : ∀ {ps : List Addr} {rs : List (List V)}, RowsAt K H ps rs → RowsAt K H' ps rs
  | [], [], _ => True.intro
  | _ :: _, _ :: _, h => ⟨same_seqT e h.1, RowsAt.same e h.2⟩
  | [], _ :: _, h => h.elim
  | _ :: _, [], h => h.elim
theorem RowsAt.len {K : PySem.W.Frag} {H : Hp} : ∀ {ps : List Addr} {rs : List (List V)}, RowsAt K H ps rs → ps.length = rs.length
  | [], [], _ => rfl
  | _ :: _, _ :: _, h => congrArg Nat.succ (RowsAt.len h.2)
  | [], _ :: _, h => h.elim
  | _ :: _, [], h => h.elim
theorem RowsAt.get {K : PySem.W.Frag} {H : Hp} : ∀ {ps : List Addr} {rs : List (List V)} {i : Nat} {p : Addr}, RowsAt K H ps rs → ps[i]? = some p → ∃ r, rs[i]? = some r ∧ SqT K H p r
  | [], [], i, p, _, e => by simp at e
  | _ :: _, r :: _, 0, p, h, e => by
    have e' := Option.some.inj e
    subst e'
    exact ⟨r, rfl, h.1⟩
  | _ :: ps, _ :: rs, i + 1, p, h, e => by
    obtain ⟨r, h1, h2⟩ := RowsAt.get (i := i) h.2 (by simpa using e)
    exact ⟨r, by simpa using h1, h2⟩
  | [], _ :: _, _, _, h, _ => h.elim
  | _ :: _, [], _, _, h, _ => h.elim
theorem RowsAt.append {K : PySem.W.Frag} {H : Hp} : ∀ {ps qs : List Addr} {rs us : List (List V)}, RowsAt K H ps rs → RowsAt K H qs us → RowsAt K H (ps ++ qs) (rs ++ us)
  | [], _, [], _, _, h => h
  | _ :: _, _, _ :: _, _, h, g => ⟨h.1, RowsAt.append h.2 g⟩
  | [], _, _ :: _, _, h, _ => h.elim
  | _ :: _, _, [], _, h, _ => h.elim
theorem RowsAt.take {K : PySem.W.Frag} {H : Hp} : ∀ {ps : List Addr} {rs : List (List V)} (n : Nat), RowsAt K H ps rs → RowsAt K H (ps.take n) (rs.take n)
  | _, _, 0, _ => True.intro
  | [], [], _ + 1, _ => True.intro
  | _ :: _, _ :: _, n + 1, h => ⟨h.1, RowsAt.take n h.2⟩
  | [], _ :: _, _ + 1, h => h.elim
  | _ :: _, [], _ + 1, h => h.elim
theorem map_ref_get {ps : List Addr} {i : Nat} {x : V} (h : (ps.map V.ref)[i]? = some x) : ∃ p, ps[i]? = some p ∧ x = .ref p := by
  rw [List.getElem?_map] at h
  cases e : ps[i]? with
  | none =>
    rw [e] at h
    cases h
  | some p =>
    rw [e] at h
    exact ⟨p, rfl, (Option.some.inj h).symm⟩
theorem map_str_get {ps : List Str} {i : Nat} {x : V} (h : (ps.map V.str)[i]? = some x) : ∃ p, ps[i]? = some p ∧ x = .str p := by
  rw [List.getElem?_map] at h
  cases e : ps[i]? with
  | none =>
    rw [e] at h
    cases h
  | some p =>
    rw [e] at h
    exact ⟨p, rfl, (Option.some.inj h).symm⟩
abbrev Tri := Str × Str × Str
def triV (t : Tri) : List V := [.str t.1, .str t.2.1, .str t.2.2]
def endsL (ts : List Tri) : List Str := ts.flatMap fun t => [t.1, t.2.2]
theorem endsL_take {ts : List Tri} {i : Nat} {t : Tri} (h : ts[i]? = some t) : endsL (ts.take (i + 1)) = endsL (ts.take i) ++ [t.1, t.2.2] := by
  unfold endsL
  rw [List.take_add_one, h, List.flatMap_append]
  rfl
theorem endsL_len (ts : List Tri) : (endsL ts).length = 2 * ts.length := by
  induction ts with
  | nil => rfl
  | cons t r ih =>
    have e : (endsL (t :: r)).length = 2 + (endsL r).length := by
      show ([t.1, t.2.2] ++ endsL r).length = _
      rw [List.length_append]
      rfl
    have e2 : (t :: r).length = r.length + 1 := rfl
    omega
theorem tri_get {ts : List Tri} {i : Nat} {r : List V} (h : (ts.map triV)[i]? = some r) : ∃ t, ts[i]? = some t ∧ r = triV t := by
  rw [List.getElem?_map] at h
  cases e : ts[i]? with
  | none =>
    rw [e] at h
    cases h
  | some p =>
    rw [e] at h
    exact ⟨p, rfl, (Option.some.inj h).symm⟩
def spTT (K : PySem.W.Frag) : Sp := fun vs H Q _ => ∃ (l : Addr) (ps : List Addr) (rs : List (List V)), vs = [.ref l] ∧ SqL K H l (ps.map V.ref) ∧ RowsAt K H ps rs ∧ ps.length ≤ 1000 ∧ ∀ t H', H t = none → Same H H' → H' t = some (.tup (ps.map V.ref)) → Q (.ref t) H'
def spEO (K : PySem.W.Frag) : Sp := fun vs H Q _ => ∃ (l : Addr) (ps : List Addr) (ts : List Tri), vs = [.ref l] ∧ Sq K H l (ps.map V.ref) ∧ RowsAt K H ps (ts.map triV) ∧ ps.length ≤ 1000 ∧ ∀ d H', H d = none → Same H H' → H' d = some (.lst ((endsL ts).map V.str)) → Q (.ref d) H'
section
variable {P : Program} {w : World} {K : PySem.W.Frag} {mg : Str → Option Value} {base : Heap}
theorem scTT : FnScope ["rows", "row"] ["rows"] (defScope sTT) := ⟨rfl, rfl, rfl, by decide +kernel, rfl, by decide +kernel, by decide +kernel⟩
theorem ok_tt {f : Addr} {fd : FuncData} (F : Fun K "tuple_of_tuples" "tuple_of_tuples" sTT f fd) (T : TxB mg) : FnOk P w K mg base CX0 1 f fd ["rows"] (spTT K) := by
  refine F.ok scTT (fun vs H Q E h => ?_) (fun cdv A outer s H vs Q E hr h => ?_)
  · obtain ⟨l, ps, rs, rfl, _⟩ := h
    rfl
  · obtain ⟨l, ps, rs, rfl, hl, hrs, hn, k⟩ := h
    refine ⟨_, (pss_one (ps_ret (pe_callTy call_tupN (by rfl) T.tuple (by decide +kernel) (pa_cons (pe_lc (own := [("row", 1)]) (g := gName 1) (te := tCB (rTupOf K) (tCons (tVar 1) tNil)) rfl scTT.nd (pi_list (pv 0)) (blkOk_by (N := ["rows", "row"]) (sc := defScope sTT) (by decide +kernel)) (fun _ _ _ _ _ => (pg_name (i := 1) scTT.nd rfl (Or.inl rfl))) (fun _ _ _ _ _ => pts_nil) (fun _ _ _ _ _ => (pe_callTy call_tupN (by rfl) T.tuple (by decide +kernel) (pa_cons (pv 1) pa_nil)))) pa_nil)))), ?_⟩
    refine ⟨_, rfl, l, rfl, ⟨_, hl⟩, fun D hD => ?_⟩
    refine lc_it walk_list (fun i H' => Same H H' ∧ H' D = some (.lst ((ps.take i).map V.ref))) ⟨Same.upd hD, upd_same⟩ (fun i H' _ p => p.1.seq hl) ?_ ?_
    · rintro i x H1 H2 hi ⟨hS, hd⟩ ⟨rfl, hx⟩
      obtain ⟨p, hp, rfl⟩ := map_ref_get hx
      obtain ⟨r, _, hr'⟩ := hrs.get hp
      refine ⟨rfl, ?_⟩
      refine ⟨_, rfl, p, r, rfl, .inr ⟨same_seqT hS hr', _, hd, ?_, ?_, ?_⟩⟩
      · rw [List.length_map, List.length_take]
        exact Nat.lt_of_le_of_lt (show _ ≤ 1000 by omega) (by decide)
      · intro b o h
        rw [upd_ne (ne_of_none h hD)]
        exact hS b o h
      · rw [upd_same, List.take_add_one, hp, List.map_append]
        rfl
    · rintro H' ⟨hS, hd⟩
      rw [List.length_map, List.take_length] at hd
      exact ⟨D, _, rfl, .inl ⟨SqL.of hd, fun t ht => k t _ (hS.free ht) (hS.trans (Same.upd ht)) upd_same⟩⟩
theorem scEO : FnScope ["triples", "x", "word", "y", "end"] ["triples"] (defScope sEO) := ⟨rfl, rfl, rfl, by decide +kernel, rfl, by decide +kernel, by decide +kernel⟩
theorem ok_eo {f : Addr} {fd : FuncData} (F : Fun K "ends_of" "ends_of" sEO f fd) : FnOk P w K mg base CX0 1 f fd ["triples"] (spEO K) := by
  refine F.ok scEO (fun vs H Q E h => ?_) (fun cdv A outer s H vs Q E hr h => ?_)
  · obtain ⟨l, ps, ts, rfl, _⟩ := h
    rfl
  · obtain ⟨l, ps, ts, rfl, hl, hrs, hn, k⟩ := h
    have hlen := hrs.len
    rw [List.length_map] at hlen
    rcases hl with hl | hl
    · refine ⟨_, (pss_one (ps_ret (pe_lc2 (own := [("x", 1), ("word", 2), ("y", 3), ("end", 4)]) (vs1 := [4]) (g := gTup K 3 (gCons (gName 1) (gCons (gName 2) (gCons (gName 3) gNil)))) (g1 := gName 4) (wi1 := iTup K (tTup (tCons (tVar 1) (tCons (tVar 3) tNil)))) rfl scEO.nd (pi_list (pv 0)) (blkOk_by (N := ["triples", "x", "word", "y", "end"]) (sc := defScope sEO) (by decide +kernel)) (by decide) (fun _ _ _ _ _ => (pg_tup rfl (pgs_cons (pg_name (i := 1) scEO.nd rfl (Or.inl rfl)) (pgs_cons (pg_name (i := 2) scEO.nd rfl (Or.inl rfl)) (pgs_cons (pg_name (i := 3) scEO.nd rfl (Or.inl rfl)) pgs_nil))))) (fun _ _ _ _ _ => pts_nil) (fun _ _ _ _ _ => (pi_tup (pe_tup (pa_cons (pv 1) (pa_cons (pv 3) pa_nil))))) (fun _ _ _ _ _ => (pg_name (i := 4) scEO.nd rfl (Or.inl rfl))) (fun _ _ _ _ _ => pts_nil) (fun _ _ _ _ _ => (pv 4))))), ?_⟩
      refine ⟨_, rfl, l, rfl, ⟨_, hl⟩, fun D hD => ?_⟩
      refine lc2_it walk_list (fun i H' => Same H H' ∧ H' D = some (.lst ((endsL (ts.take i)).map V.str))) ⟨Same.upd hD, upd_same⟩ (fun i H' _ p => p.1.seq hl) ?_ ?_
      · rintro i x H1 H2 hi ⟨hS, hd⟩ ⟨rfl, hx⟩
        obtain ⟨p, hp, rfl⟩ := map_ref_get hx
        obtain ⟨r, hr1, hr'⟩ := hrs.get hp
        obtain ⟨t, ht, rfl⟩ := tri_get hr1
        refine ⟨p, _, rfl, same_seqT hS hr', rfl, _, _, rfl, _, _, rfl, _, _, rfl, rfl, rfl, ?_⟩
        refine ⟨_, rfl, _, rfl, by show 2 ≤ sizeLine; decide, fun q hq => ⟨q, rfl, ⟨_, SqT.of upd_same⟩, ?_⟩⟩
        have nDq : D ≠ q := ne_of_none hd hq
        refine lc1_it walk_tup (fun j H' => Same H H' ∧ SqT K H' q [.str t.1, .str t.2.2] ∧ H' D = some (.lst ((endsL (ts.take i) ++ [t.1, t.2.2].take j).map V.str))) ⟨hS.trans (Same.upd hq), SqT.of upd_same, ?_⟩ (fun _ _ _ p => p.2.1) ?_ ?_
        · rw [upd_ne nDq, hd, List.take_zero, List.append_nil]
        · rintro j y H3 H4 hj ⟨hS3, hq3, hd3⟩ ⟨rfl, hy⟩
          refine ⟨rfl, _, rfl, _, hd3, ?_, ?_, ?_, ?_⟩
          · rw [List.length_map, List.length_append, endsL_len, List.length_take, List.length_take]
            have l2 : [t.1, t.2.2].length = 2 := rfl
            exact Nat.lt_of_le_of_lt (show _ ≤ 4000 by omega) (by decide)
          · intro b o h
            rw [upd_ne (ne_of_none h hD)]
            exact hS3 b o h
          · rcases hq3 with (h | ⟨o, h⟩) | h
            · exact .inl (.inl (by rw [upd_ne (ne_of h hd3 (by intro z; cases z))]; exact h))
            · exact .inl (.inr ⟨o, by rw [upd_ne (ne_of h hd3 (by intro z; cases z))]; exact h⟩)
            · exact .inr h
          · have hy' : ([t.1, t.2.2].map V.str)[j]? = some y := hy
            obtain ⟨z, hz, rfl⟩ := map_str_get hy'
            have e : ∀ l : List Str, (l ++ (some z).toList).map V.str = l.map V.str ++ [V.str z] := fun l => by
              rw [List.map_append]
              rfl
            rw [upd_same, List.take_add_one, hz, ← List.append_assoc, e]
        · rintro H3 ⟨hS3, hq3, hd3⟩
          refine ⟨hS3, ?_⟩
          rw [hd3, endsL_take ht]
          rfl
      · rintro H' ⟨hS, hd⟩
        refine k D H' hD hS ?_
        rw [hd, List.length_map, List.take_of_length_le (by omega)]
    · refine ⟨_, (pss_one (ps_ret (pe_lc2 (own := [("x", 1), ("word", 2), ("y", 3), ("end", 4)]) (vs1 := [4]) (g := gTup K 3 (gCons (gName 1) (gCons (gName 2) (gCons (gName 3) gNil)))) (g1 := gName 4) (wi1 := iTup K (tTup (tCons (tVar 1) (tCons (tVar 3) tNil)))) rfl scEO.nd (pi_tup (pv 0)) (blkOk_by (N := ["triples", "x", "word", "y", "end"]) (sc := defScope sEO) (by decide +kernel)) (by decide) (fun _ _ _ _ _ => (pg_tup rfl (pgs_cons (pg_name (i := 1) scEO.nd rfl (Or.inl rfl)) (pgs_cons (pg_name (i := 2) scEO.nd rfl (Or.inl rfl)) (pgs_cons (pg_name (i := 3) scEO.nd rfl (Or.inl rfl)) pgs_nil))))) (fun _ _ _ _ _ => pts_nil) (fun _ _ _ _ _ => (pi_tup (pe_tup (pa_cons (pv 1) (pa_cons (pv 3) pa_nil))))) (fun _ _ _ _ _ => (pg_name (i := 4) scEO.nd rfl (Or.inl rfl))) (fun _ _ _ _ _ => pts_nil) (fun _ _ _ _ _ => (pv 4))))), ?_⟩
      refine ⟨_, rfl, l, rfl, ⟨_, hl⟩, fun D hD => ?_⟩
      refine lc2_it walk_tup (fun i H' => Same H H' ∧ H' D = some (.lst ((endsL (ts.take i)).map V.str))) ⟨Same.upd hD, upd_same⟩ (fun i H' _ p => same_seqT p.1 hl) ?_ ?_
      · rintro i x H1 H2 hi ⟨hS, hd⟩ ⟨rfl, hx⟩
        obtain ⟨p, hp, rfl⟩ := map_ref_get hx
        obtain ⟨r, hr1, hr'⟩ := hrs.get hp
        obtain ⟨t, ht, rfl⟩ := tri_get hr1
        refine ⟨p, _, rfl, same_seqT hS hr', rfl, _, _, rfl, _, _, rfl, _, _, rfl, rfl, rfl, ?_⟩
        refine ⟨_, rfl, _, rfl, by show 2 ≤ sizeLine; decide, fun q hq => ⟨q, rfl, ⟨_, SqT.of upd_same⟩, ?_⟩⟩
        have nDq : D ≠ q := ne_of_none hd hq
        refine lc1_it walk_tup (fun j H' => Same H H' ∧ SqT K H' q [.str t.1, .str t.2.2] ∧ H' D = some (.lst ((endsL (ts.take i) ++ [t.1, t.2.2].take j).map V.str))) ⟨hS.trans (Same.upd hq), SqT.of upd_same, ?_⟩ (fun _ _ _ p => p.2.1) ?_ ?_
        · rw [upd_ne nDq, hd, List.take_zero, List.append_nil]
        · rintro j y H3 H4 hj ⟨hS3, hq3, hd3⟩ ⟨rfl, hy⟩
          refine ⟨rfl, _, rfl, _, hd3, ?_, ?_, ?_, ?_⟩
          · rw [List.length_map, List.length_append, endsL_len, List.length_take, List.length_take]
            have l2 : [t.1, t.2.2].length = 2 := rfl
            exact Nat.lt_of_le_of_lt (show _ ≤ 4000 by omega) (by decide)
          · intro b o h
            rw [upd_ne (ne_of_none h hD)]
            exact hS3 b o h
          · rcases hq3 with (h | ⟨o, h⟩) | h
            · exact .inl (.inl (by rw [upd_ne (ne_of h hd3 (by intro z; cases z))]; exact h))
            · exact .inl (.inr ⟨o, by rw [upd_ne (ne_of h hd3 (by intro z; cases z))]; exact h⟩)
            · exact .inr h
          · have hy' : ([t.1, t.2.2].map V.str)[j]? = some y := hy
            obtain ⟨z, hz, rfl⟩ := map_str_get hy'
            have e : ∀ l : List Str, (l ++ (some z).toList).map V.str = l.map V.str ++ [V.str z] := fun l => by
              rw [List.map_append]
              rfl
            rw [upd_same, List.take_add_one, hz, ← List.append_assoc, e]
        · rintro H3 ⟨hS3, hq3, hd3⟩
          refine ⟨hS3, ?_⟩
          rw [hd3, endsL_take ht]
          rfl
      · rintro H' ⟨hS, hd⟩
        refine k D H' hD hS ?_
        rw [hd, List.length_map, List.take_of_length_le (by omega)]
end
end Wm
namespace Wm
open PySem L2
abbrev Var := Str × Option Str
def sortV : Option Str → V
  | none => .non
  | some s => .str s
def varV (v : Var) : List V := [.str v.1, sortV v.2]
def varT (v : Var) : List Str := v.1 :: v.2.toList
def textsL (nm : Str) (vars : List Var) (ts : List Tri) : List Str := (nm :: vars.flatMap varT) ++ ts.map (·.2.1)
theorem flat_take {vars : List Var} {i : Nat} {v : Var} (h : vars[i]? = some v) : (vars.take (i + 1)).flatMap varT = (vars.take i).flatMap varT ++ varT v := by
  rw [List.take_add_one, h, List.flatMap_append]
  simp
theorem var_get {vars : List Var} {i : Nat} {r : List V} (h : (vars.map varV)[i]? = some r) : ∃ t, vars[i]? = some t ∧ r = varV t := by
  rw [List.getElem?_map] at h
  cases e : vars[i]? with
  | none =>
    rw [e] at h
    cases h
  | some p =>
    rw [e] at h
    exact ⟨p, rfl, (Option.some.inj h).symm⟩
theorem inV_str {z : Str} {ns : List Str} : inV (.str z) (ns.map V.str) = decide (z ∈ ns) := by
  unfold inV
  induction ns with
  | nil => rfl
  | cons a r ih =>
    rw [List.map_cons, List.any_cons, ih]
    show (a == z || _) = _
    by_cases h : a = z
    · subst h
      simp
    · have h2 : ¬ z = a := fun q => h q.symm
      by_cases h3 : z ∈ r <;> simp [h, h2, h3]
theorem flat_strs (ns : List Str) : (ns.map V.str).all flatV = true := by
  rw [List.all_eq_true]
  intro x hx
  obtain ⟨z, _, rfl⟩ := List.mem_map.mp hx
  rfl
def spTP (K : PySem.W.Frag) : Sp := fun vs H Q _ => ∃ (nm : Str) (a b : Addr) (ps qs : List Addr) (vars : List Var) (ts : List Tri), vs = [.str nm, .ref a, .ref b] ∧ SqT K H a (ps.map V.ref) ∧ RowsAt K H ps (vars.map varV) ∧ SqL K H b (qs.map V.ref) ∧ RowsAt K H qs (ts.map triV) ∧
  ps.length ≤ 1000 ∧ qs.length ≤ 1000 ∧ ∀ d H', H d = none → Same H H' → H' d = some (.lst ((textsL nm vars ts).map V.str)) → Q (.ref d) H'
def spRV (K : PySem.W.Frag) : Sp := fun vs H Q _ => ∃ (a b : Addr) (ns zs : List Str), vs = [.ref a, .ref b] ∧ SqL K H a (ns.map V.str) ∧ SqL K H b (zs.map V.str) ∧ (∀ z ∈ zs, z ∈ ns) ∧ ∀ H', Same H H' → Q .non H'
def spRL (K : PySem.W.Frag) : Sp := fun vs H Q _ => ∃ (a b : Addr) (ns : List Str) (ps : List Addr) (ts : List Tri), vs = [.ref a, .ref b] ∧ SqL K H a (ns.map V.str) ∧ SqT K H b (ps.map V.ref) ∧ RowsAt K H ps (ts.map triV) ∧ ps.length ≤ 1000 ∧ (∀ z ∈ ns, z ∈ endsL ts) ∧ ∀ H', Same H H' → Q .non H'
def Hangs (ts : List Tri) : Prop := ∀ (i : Nat) (t : Tri), 0 < i → ts[i]? = some t → t.1 ∈ endsL (ts.take i) ∨ t.2.2 ∈ endsL (ts.take i)
def spRA (K : PySem.W.Frag) : Sp := fun vs H Q _ => ∃ (b : Addr) (ps : List Addr) (ts : List Tri), vs = [.ref b] ∧ SqT K H b (ps.map V.ref) ∧ RowsAt K H ps (ts.map triV) ∧ ps.length ≤ 1000 ∧ Hangs ts ∧ ∀ H', Same H H' → Q .non H'
section
variable {P : Program} {w : World} {K : PySem.W.Frag} {mg : Str → Option Value} {base : Heap}
theorem scTP : FnScope ["name", "variables", "triples", "texts", "variable", "sort", "x", "word", "y"] ["name", "variables", "triples"] (defScope sTP) := ⟨rfl, rfl, rfl, by decide +kernel, rfl, by decide +kernel, by decide +kernel⟩
theorem ok_tp {f : Addr} {fd : FuncData} (F : Fun K "texts_of_pattern" "texts_of_pattern" sTP f fd) : FnOk P w K mg base CX0 1 f fd ["name", "variables", "triples"] (spTP K) := by
  refine F.ok scTP (fun vs H Q E h => ?_) (fun cdv A outer s H vs Q E hr h => ?_)
  · obtain ⟨nm, a, b, ps, qs, vars, ts, rfl, _⟩ := h
    rfl
  · obtain ⟨nm, a, b, ps, qs, vars, ts, rfl, ha, hva, hb, htr, hn, hn2, k⟩ := h
    have hlen := hva.len
    rw [List.length_map] at hlen
    have hlen2 := htr.len
    rw [List.length_map] at hlen2
    have fl : ∀ i, ((vars.take i).flatMap varT).length ≤ 2 * vars.length := fun i => by
      have e : ∀ l : List Var, (l.flatMap varT).length ≤ 2 * l.length := fun l => by
        induction l with
        | nil => exact Nat.le_refl _
        | cons v r ih =>
          have e : ((v :: r).flatMap varT).length = (varT v).length + (r.flatMap varT).length := by
            rw [List.flatMap_cons, List.length_append]
          have e2 : (varT v).length ≤ 2 := by
            unfold varT
            cases v.2 <;> simp
          have e3 : (v :: r).length = r.length + 1 := rfl
          omega
      have q := e (vars.take i)
      rw [List.length_take] at q
      omega
    refine ⟨_, (pss_cons (ps_set (i := 3) scTP.nd rfl (Or.inl rfl) (pe_lst (pa_cons (pv 0) pa_nil)))
      (pss_cons (ps_for PassesOwn.never rfl (pi_tup (pv 1)) (pg_tup rfl (pgs_cons (pg_name (i := 4) scTP.nd rfl (Or.inl rfl)) (pgs_cons (pg_name (i := 5) scTP.nd rfl (Or.inl rfl)) pgs_nil))) (pss_cons (ps_expr (pe_bm PySem.F.plainAttrs_list PySem.F.slot_list_append PySem.F.type_list_append mt_append (pv 3) (pa_cons (pv 4) pa_nil)))
      (pss_one (ps_if (pt_cmp (pc_notN (pv 5))) (pss_one (ps_expr (pe_bm PySem.F.plainAttrs_list PySem.F.slot_list_append PySem.F.type_list_append mt_append (pv 3) (pa_cons (pv 5) pa_nil)))) pss_nil))))
      (pss_cons (ps_expr (pe_bm PySem.F.plainAttrs_list PySem.F.slot_list_extend PySem.F.type_list_extend mt_extend (pv 3) (pa_cons (pe_lc (own := [("x", 6), ("word", 7), ("y", 8)]) (g := gTup K 3 (gCons (gName 6) (gCons (gName 7) (gCons (gName 8) gNil)))) rfl scTP.nd (pi_list (pv 2)) (blkOk_by (N := ["name", "variables", "triples", "texts", "variable", "sort", "x", "word", "y"]) (sc := defScope sTP) (by decide +kernel)) (fun _ _ _ _ _ => (pg_tup rfl (pgs_cons (pg_name (i := 6) scTP.nd rfl (Or.inl rfl)) (pgs_cons (pg_name (i := 7) scTP.nd rfl (Or.inl rfl)) (pgs_cons (pg_name (i := 8) scTP.nd rfl (Or.inl rfl)) pgs_nil))))) (fun _ _ _ _ _ => pts_nil) (fun _ _ _ _ _ => (pv 7))) pa_nil)))
      (pss_one (ps_ret (pv 3)))))), ?_⟩
    refine ⟨_, rfl, by show 1 ≤ sizeLine; decide, fun d hd => ?_⟩
    have S0 : Same H (upd H d (.lst [.str nm])) := Same.upd hd
    refine ⟨_, rfl, a, rfl, ⟨_, same_seqT S0 ha⟩, for_it walk_tup (fun i σ H' => (∃ u v, σ = [some (.str nm), some (.ref a), some (.ref b), some (.ref d), u, v, none, none, none]) ∧ Same H H' ∧ H' d = some (.lst ((nm :: (vars.take i).flatMap varT).map V.str)))
      ⟨⟨none, none, rfl⟩, S0, upd_same⟩ (fun i σ H' _ p => same_seqT p.2.1 ha) ?_ ?_⟩
    · rintro i x σ H1 H2 hi ⟨⟨u, v, rfl⟩, hS, hl⟩ ⟨rfl, hx⟩
      obtain ⟨p, hp, rfl⟩ := map_ref_get hx
      obtain ⟨r, hr1, hr'⟩ := hva.get hp
      obtain ⟨⟨n, so⟩, ht, rfl⟩ := var_get hr1
      have fi := fl i
      refine ⟨p, _, rfl, same_seqT hS hr', rfl, _, _, rfl, _, _, rfl, rfl, ?_⟩
      refine ⟨_, rfl, .inl ⟨rfl, _, SqL.of hl⟩, _, rfl, d, _, _, rfl, rfl, hl, ?_, ?_⟩
      · rw [List.length_map, List.length_cons]
        exact Nat.lt_of_le_of_lt (show _ ≤ 4000 by omega) (by decide)
      have S1 : Same H (upd H2 d (.lst ((nm :: (vars.take i).flatMap varT).map V.str ++ [.str n]))) := fun b' o h => by
        rw [upd_ne (ne_of_none h hd)]
        exact hS b' o h
      refine ⟨_, rfl, _, rfl, ?_⟩
      cases so with
      | none =>
        refine iteF ⟨⟨_, _, rfl⟩, S1, ?_⟩
        rw [upd_same, flat_take ht]
        have e : (nm :: ((vars.take i).flatMap varT ++ varT (n, none))) = (nm :: (vars.take i).flatMap varT) ++ [n] := rfl
        rw [e, List.map_append]
        rfl
      | some so =>
        refine iteT ?_
        refine ⟨_, rfl, .inl ⟨rfl, _, SqL.of upd_same⟩, _, rfl, d, _, _, rfl, rfl, upd_same, ?_, ?_⟩
        · rw [List.length_append, List.length_map, List.length_cons, List.length_singleton]
          exact Nat.lt_of_le_of_lt (show _ ≤ 4000 by omega) (by decide)
        · refine ⟨⟨_, _, rfl⟩, fun b' o h => ?_, ?_⟩
          · rw [upd_ne (ne_of_none h hd)]
            exact S1 b' o h
          · rw [upd_same, flat_take ht]
            have e : (nm :: ((vars.take i).flatMap varT ++ varT (n, some so))) = (nm :: (vars.take i).flatMap varT) ++ [n, so] := rfl
            rw [e, List.map_append, List.append_assoc]
            rfl
    · rintro σ H1 ⟨⟨u, v, rfl⟩, hS, hl⟩
      rw [List.length_map, List.take_of_length_le (by omega)] at hl
      have fi := fl vars.length
      rw [List.take_length] at fi
      refine ⟨_, rfl, .inl ⟨rfl, _, SqL.of hl⟩, _, rfl, b, rfl, ⟨_, hS.seq hb⟩, fun D hD => ?_⟩
      have nDd : D ≠ d := (ne_of_none hl hD).symm
      refine lc_it walk_list (fun i H' => Same H H' ∧ H' d = some (.lst ((nm :: vars.flatMap varT).map V.str)) ∧ H' D = some (.lst (((ts.take i).map (·.2.1)).map V.str))) ⟨hS.trans (Same.upd hD), by rw [upd_ne nDd.symm]; exact hl, upd_same⟩ (fun i H' _ p => p.1.seq hb) ?_ ?_
      · rintro i x H2 H3 hi ⟨hS2, hl2, hD2⟩ ⟨rfl, hx⟩
        obtain ⟨p, hp, rfl⟩ := map_ref_get hx
        obtain ⟨r, hr1, hr'⟩ := htr.get hp
        obtain ⟨t, ht, rfl⟩ := tri_get hr1
        refine ⟨p, _, rfl, same_seqT hS2 hr', rfl, _, _, rfl, _, _, rfl, _, _, rfl, rfl, rfl, ?_⟩
        refine ⟨_, rfl, _, hD2, ?_, ?_, ?_, ?_⟩
        · rw [List.length_map, List.length_map, List.length_take]
          exact Nat.lt_of_le_of_lt (show _ ≤ 1000 by omega) (by decide)
        · intro b' o h
          rw [upd_ne (ne_of_none h (hS.free hD))]
          exact hS2 b' o h
        · rw [upd_ne nDd.symm]
          exact hl2
        · rw [upd_same, List.take_add_one, ht, List.map_append, List.map_append]
          rfl
      · rintro H2 ⟨hS2, hl2, hD2⟩
        rw [List.length_map, List.take_of_length_le (by omega)] at hD2
        refine ⟨d, D, _, _, rfl, rfl, hl2, hD2, ?_, ?_⟩
        · rw [List.length_map, List.length_map, List.length_map, List.length_cons]
          exact Nat.le_trans (show _ ≤ 4000 by omega) (by decide)
        · refine ⟨_, rfl, ?_⟩
          refine k d _ hd (fun b' o h => ?_) ?_
          · rw [upd_ne (ne_of_none h hd)]
            exact hS2 b' o h
          · rw [upd_same]
            unfold textsL
            rw [List.map_append]
theorem scRV : FnScope ["names", "texts", "text"] ["names", "texts"] (defScope sRV) := ⟨rfl, rfl, rfl, by decide +kernel, rfl, by decide +kernel, by decide +kernel⟩
theorem ok_rv {f : Addr} {fd : FuncData} (F : Fun K "refuse_no_variable" "refuse_no_variable" sRV f fd) : FnOk P w K mg base CX0 1 f fd ["names", "texts"] (spRV K) := by
  refine F.ok scRV (fun vs H Q E h => ?_) (fun cdv A outer s H vs Q E hr h => ?_)
  · obtain ⟨a, b, ns, zs, rfl, _⟩ := h
    rfl
  · obtain ⟨a, b, ns, zs, rfl, ha, hb, hin, k⟩ := h
    refine ⟨_, (pss_one (ps_for PassesOwn.never rfl (pi_list (pv 1)) (pg_name (i := 2) scRV.nd rfl (Or.inl rfl)) (pss_one (ps_if (pt_cmpR op_notIn_seq (pv 2) (pv 0) (by rfl)) (pss_one ps_never) pss_nil)))), ?_⟩
    refine ⟨_, rfl, b, rfl, ⟨_, hb⟩, for_list (K := K) (a := b) (xs := zs.map V.str) (fun i σ H' => (∃ v, σ = [some (.ref a), some (.ref b), v]) ∧ H' = H) ⟨⟨none, rfl⟩, rfl⟩ (fun i σ H' _ p => by rw [p.2]; exact hb) ?_ ?_⟩
    · rintro i y σ H' hi ⟨⟨v, rfl⟩, rfl⟩
      obtain ⟨z, hz, rfl⟩ := map_str_get hi
      refine ⟨_, rfl, _, rfl, a, _, rfl, .inl ha, rfl, flat_strs ns, _, rfl, ?_⟩
      show if (!inV (.str z) (ns.map V.str)) = true then _ else _
      rw [inV_str, decide_eq_true (hin z (List.mem_of_getElem? hz))]
      exact iteF ⟨⟨_, rfl⟩, rfl⟩
    · rintro σ H' ⟨_, rfl⟩
      exact k H' (Same.refl H')
theorem scRL : FnScope ["names", "conditions", "tied", "name"] ["names", "conditions"] (defScope sRL) := ⟨rfl, rfl, rfl, by decide +kernel, rfl, by decide +kernel, by decide +kernel⟩
theorem ok_rl {f fE : Addr} {fd fdE : FuncData} (F : Fun K "refuse_loose" "refuse_loose" sRL f fd) (D : Dn K mg "ends_of" sEO ["triples"] fE fdE) : FnOk P w K mg base CX0 2 f fd ["names", "conditions"] (spRL K) := by
  have G : FnOk P w K mg base CX0 1 fE fdE ["triples"] (spEO K) := ok_eo D.F
  refine F.ok scRL (fun vs H Q E h => ?_) (fun cdv A outer s H vs Q E hr h => ?_)
  · obtain ⟨a, b, ns, ps, ts, rfl, _⟩ := h
    rfl
  · obtain ⟨a, b, ns, ps, ts, rfl, ha, hb, htr, hn, hin, k⟩ := h
    refine ⟨_, (pss_cons (ps_set (i := 2) scRL.nd rfl (Or.inl rfl) (pe_call G hr rfl D.g D.F.kp D.b .nil pass0 (pa_cons (pv 1) pa_nil)))
      (pss_one (ps_for PassesOwn.never rfl (pi_list (pv 0)) (pg_name (i := 3) scRL.nd rfl (Or.inl rfl)) (pss_one (ps_if (pt_cmpR op_notIn_seq (pv 3) (pv 2) (by rfl)) (pss_one ps_never) pss_nil))))), ?_⟩
    refine ⟨_, rfl, b, ps, ts, rfl, .inr hb, htr, hn, fun d H1 hd hS hl => ?_⟩
    refine ⟨_, rfl, a, rfl, ⟨_, hS.seq ha⟩, for_list (K := K) (a := a) (xs := ns.map V.str) (fun i σ H' => (∃ v, σ = [some (.ref a), some (.ref b), some (.ref d), v]) ∧ H' = H1) ⟨⟨none, rfl⟩, rfl⟩ (fun i σ H' _ p => by rw [p.2]; exact hS.seq ha) ?_ ?_⟩
    · rintro i y σ H' hi ⟨⟨v, rfl⟩, rfl⟩
      obtain ⟨z, hz, rfl⟩ := map_str_get hi
      refine ⟨_, rfl, _, rfl, d, _, rfl, .inl (SqL.of hl), rfl, flat_strs _, _, rfl, ?_⟩
      show if (!inV (.str z) ((endsL ts).map V.str)) = true then _ else _
      rw [inV_str, decide_eq_true (hin z (List.mem_of_getElem? hz))]
      exact iteF ⟨⟨_, rfl⟩, rfl⟩
    · rintro σ H' ⟨_, rfl⟩
      exact k H' hS
theorem scRA : FnScope ["conditions", "place", "x", "word", "y", "ahead"] ["conditions"] (defScope sRA) := ⟨rfl, rfl, rfl, by decide +kernel, rfl, by decide +kernel, by decide +kernel⟩
theorem ok_ra {f fE : Addr} {fd fdE : FuncData} (F : Fun K "refuse_apart" "refuse_apart" sRA f fd) (T : TxB mg) (D : Dn K mg "ends_of" sEO ["triples"] fE fdE) : FnOk P w K mg base CX0 2 f fd ["conditions"] (spRA K) := by
  have G : FnOk P w K mg base CX0 1 fE fdE ["triples"] (spEO K) := ok_eo D.F
  refine F.ok scRA (fun vs H Q E h => ?_) (fun cdv A outer s H vs Q E hr h => ?_)
  · obtain ⟨b, ps, ts, rfl, _⟩ := h
    rfl
  · obtain ⟨b, ps, ts, rfl, hb, htr, hn, hh, k⟩ := h
    have hlen := htr.len
    rw [List.length_map] at hlen
    refine ⟨_, (pss_one (ps_for PassesOwn.never rfl (pi_enumT rfl T.enumerate (pa_cons (pv 0) pa_nil)) (pg_tup rfl (pgs_cons (pg_name (i := 1) scRA.nd rfl (Or.inl rfl)) (pgs_cons (pg_tup rfl (pgs_cons (pg_name (i := 2) scRA.nd rfl (Or.inl rfl)) (pgs_cons (pg_name (i := 3) scRA.nd rfl (Or.inl rfl)) (pgs_cons (pg_name (i := 4) scRA.nd rfl (Or.inl rfl)) pgs_nil)))) pgs_nil))) (pss_cons (ps_set (i := 5) scRA.nd rfl (Or.inl rfl) (pe_call G hr rfl D.g D.F.kp D.b .nil pass0 (pa_cons (pe_slice sl_tupA (pv 0) po_none (po_some (pv 1))) pa_nil)))
      (pss_one (ps_if (PW.pt (pw_and (pt_cmpR op_gt (pv 1) pe_int (nomark _)) (pw_and (pt_cmpR op_notIn_seq (pv 2) (pv 5) (by rfl)) (pw_and1 (pt_cmpR op_notIn_seq (pv 4) (pv 5) (by rfl)))))) (pss_one ps_never) pss_nil))))), ?_⟩
    refine ⟨_, rfl, b, _, rfl, hb, for_it walk_enumT (fun i σ H' => (∃ u v x y z, σ = [some (.ref b), u, v, x, y, z]) ∧ Same H H') ⟨⟨none, none, none, none, none, rfl⟩, Same.refl H⟩ (fun i σ H' _ p => same_seqT p.2 hb) ?_ ?_⟩
    · rintro i x σ H1 H2 hi ⟨⟨u, v, x1, x2, x3, rfl⟩, hS⟩ ⟨q, y, z, rfl, hq, rfl, e1, e2⟩
      cases e1
      obtain ⟨p, hp, rfl⟩ := map_ref_get e2
      obtain ⟨r, hr1, hr'⟩ := htr.get hp
      obtain ⟨t, ht, rfl⟩ := tri_get hr1
      have S2 := hS.trans (Same.upd (o := .tup [.int (i : Nat), .ref p]) hq)
      have hi' : i < ps.length := by rw [List.length_map] at hi; exact hi
      refine ⟨q, _, rfl, SqT.of upd_same, rfl, _, _, rfl, _, _, rfl, ⟨p, _, rfl, same_seqT S2 hr', rfl, _, _, rfl, _, _, rfl, _, _, rfl, rfl, rfl, ?_⟩⟩
      refine ⟨_, rfl, _, rfl, _, rfl, b, _, rfl, same_seqT S2 hb, fun h => ?_, fun _ c hc => ?_⟩
      · exfalso
        rw [HT.sIx_nat, List.length_map] at h
        omega
      have S3 := S2.trans (Same.upd (o := .tup (cutV (ps.map V.ref) none (some (i : Int)))) hc)
      have hcut : cutV (ps.map V.ref) none (some (i : Int)) = (ps.take i).map V.ref := by rw [cut_take, List.map_take]
      refine ⟨c, ps.take i, ts.take i, rfl, .inr (SqT.of (by rw [upd_same, hcut])), ?_, by rw [List.length_take]; omega, fun d H3 hd hS3 hl => ?_⟩
      · rw [List.map_take]
        exact (htr.take i).same S3
      refine ⟨_, rfl, _, _, rfl, rfl, _, rfl, ?_⟩
      refine ite2 (fun h0 => ?_) (fun _ => ?_)
      · have h0' : (0 : Int) < (i : Int) := of_decide_eq_true h0
        refine ⟨_, rfl, _, rfl, d, _, rfl, .inl (SqL.of hl), rfl, flat_strs _, _, rfl, ?_⟩
        show if (!inV (.str t.1) ((endsL (ts.take i)).map V.str)) = true then _ else _
        rw [inV_str]
        by_cases m1 : t.1 ∈ endsL (ts.take i)
        · rw [decide_eq_true m1]
          exact iteF (iteF ⟨⟨_, _, _, _, _, rfl⟩, S3.trans hS3⟩)
        · rw [decide_eq_false m1]
          refine iteT ?_
          refine ⟨_, rfl, _, rfl, d, _, rfl, .inl (SqL.of hl), rfl, flat_strs _, _, rfl, ?_⟩
          show if (!inV (.str t.2.2) ((endsL (ts.take i)).map V.str)) = true then _ else _
          have m2 : t.2.2 ∈ endsL (ts.take i) := (hh i t (by omega) ht).resolve_left m1
          rw [inV_str, decide_eq_true m2]
          exact iteF ⟨⟨_, _, _, _, _, rfl⟩, S3.trans hS3⟩
      · exact iteF ⟨⟨_, _, _, _, _, rfl⟩, S3.trans hS3⟩
    · rintro σ H' ⟨_, hS⟩
      exact k H' hS
end
end Wm
/-! names as the laws draw them: texts of at most six signs -/
namespace Wm
open PySem L2
def lowC (c : Nat) : Prop := 97 ≤ c ∧ c ≤ 122
def figC (c : Nat) : Prop := 48 ≤ c ∧ c ≤ 57
/-- a text of small letters and figures, the first a letter -/
def NmP (z : Str) : Prop := ∃ c cs, z.cps.toList = c :: cs ∧ lowC c ∧ ∀ d ∈ cs, lowC d ∨ figC d
theorem toList_app (a b : Str) : (a ++ b).cps.toList = a.cps.toList ++ b.cps.toList := by
  show (a.cps ++ b.cps).toList = _
  simp
theorem NmP.app {a b : Str} (h : NmP a) (hb : ∀ d ∈ b.cps.toList, lowC d ∨ figC d) : NmP (a ++ b) := by
  obtain ⟨c, cs, e, l, r⟩ := h
  refine ⟨c, cs ++ b.cps.toList, by rw [toList_app, e]; rfl, l, fun d hd => ?_⟩
  rcases List.mem_append.mp hd with h | h
  · exact r d h
  · exact hb d h
theorem NmP.one {c : Nat} (h : lowC c) : NmP ⟨#[c]⟩ := ⟨c, [], rfl, h, fun _ z => nomatch z⟩
theorem NmP.ok {z : Str} (h : NmP z) : ∀ c ∈ z.cps.toList, c < 1114112 := by
  obtain ⟨c, cs, e, l, r⟩ := h
  intro d hd
  rw [e] at hd
  rcases List.mem_cons.mp hd with h | h
  · rw [h]
    exact Nat.lt_of_le_of_lt l.2 (by decide)
  · rcases r d h with q | q
    · exact Nat.lt_of_le_of_lt q.2 (by decide)
    · exact Nat.lt_of_le_of_lt q.2 (by decide)
def ABC36 : Str := PySem.Str.ofString "abcdefghijklmnopqrstuvwxyz0123456789"
theorem abc36_len : ABC36.length = 36 := by decide +kernel
theorem abc_low {i : Nat} {c : Nat} (hi : i < 26) (h : ABC36.cps.toList[i]? = some c) : lowC c := by
  have q : ∀ j : Fin 26, ∀ d ∈ ABC36.cps.toList[j.1]?, 97 ≤ d ∧ d ≤ 122 := by decide +kernel
  exact q ⟨i, hi⟩ c (by rw [h]; exact rfl)
theorem abc_any {i : Nat} {c : Nat} (h : ABC36.cps.toList[i]? = some c) : lowC c ∨ figC c := by
  have q : ∀ d ∈ ABC36.cps.toList, (97 ≤ d ∧ d ≤ 122) ∨ (48 ≤ d ∧ d ≤ 57) := by decide +kernel
  exact q c (List.mem_of_getElem? h)
/-- the text of a number -/
def numS (n : Nat) : Str := PySem.Str.ofString (toString (n : Int))
def numB (n : Nat) : Bool := (numS n).cps.toList.all (fun d => decide (48 ≤ d ∧ d ≤ 57)) && (decide ((numS n).length ≤ 2) && decide (1 ≤ (numS n).length))
theorem num_all : ∀ n : Fin 70, numB n.1 = true := by decide +kernel
theorem num_inj0 : ∀ n m : Fin 70, (numS n.1).cps.toList = (numS m.1).cps.toList → n = m := by decide +kernel
theorem num_sign {n : Nat} (h : n < 70) : (∀ d ∈ (numS n).cps.toList, lowC d ∨ figC d) ∧ (numS n).length ≤ 2 ∧ 1 ≤ (numS n).length := by
  obtain ⟨a, b⟩ := Bool.and_eq_true_iff.mp (num_all ⟨n, h⟩)
  obtain ⟨b, c⟩ := Bool.and_eq_true_iff.mp b
  refine ⟨fun d hd => .inr ?_, of_decide_eq_true b, of_decide_eq_true c⟩
  have q := List.all_eq_true.mp a d hd
  exact of_decide_eq_true (p := 48 ≤ d ∧ d ≤ 57) q
theorem num_inj {n m : Nat} (hn : n < 70) (hm : m < 70) (h : numS n = numS m) : n = m := congrArg Fin.val (num_inj0 ⟨n, hn⟩ ⟨m, hm⟩ (by rw [h]))
/-- the tries for a name: the word, then the word with 1, 2 .. -/
def tryS (z : Str) : Nat → Str
  | 0 => z
  | n + 1 => z ++ numS (n + 1)
theorem app_inj {a b c : Str} (h : a ++ b = a ++ c) : b = c := by
  have e := congrArg (fun z : Str => z.cps.toList) h
  simp only [toList_app] at e
  have q := List.append_cancel_left e
  cases b; cases c
  simp only at q
  congr
  exact Array.toList_inj.mp q
theorem try_inj {z : Str} {n m : Nat} (hn : n < 70) (hm : m < 70) (h : tryS z n = tryS z m) : n = m := by
  have key : ∀ k, k + 1 < 70 → z ≠ z ++ numS (k + 1) := fun k hk e => by
    have l := congrArg (fun z : Str => z.cps.toList.length) e
    simp only [toList_app, List.length_append] at l
    have q := (num_sign hk).2.2
    have q' : 1 ≤ (numS (k + 1)).cps.toList.length := by simpa [PySem.Str.length] using q
    omega
  cases n with
  | zero =>
    cases m with
    | zero => rfl
    | succ m => exact (key m hm h).elim
  | succ n =>
    cases m with
    | zero => exact (key n hn h.symm).elim
    | succ m => exact num_inj hn hm (app_inj h)
theorem holes {α : Type} [BEq α] [LawfulBEq α] {f : Nat → α} : ∀ {n : Nat} {l : List α}, (∀ i j, i < n → j < n → f i = f j → i = j) → (∀ i, i < n → f i ∈ l) → n ≤ l.length
  | 0, _, _, _ => Nat.zero_le _
  | n + 1, l, inj, h => by
    have hm := h n (Nat.lt_succ_self n)
    have q := holes (n := n) (l := l.erase (f n)) (fun i j hi hj => inj i j (by omega) (by omega)) (fun i hi => by
      refine (List.mem_erase_of_ne fun e => ?_).mpr (h i (by omega))
      have := inj i n (by omega) (by omega) e
      omega)
    rw [List.length_erase_of_mem hm] at q
    have := List.length_pos_of_mem hm
    omega
theorem try_end {z : Str} {taken : List Str} {n : Nat} (ht : taken.length ≤ 60) (h : ∀ i, i < n → tryS z i ∈ taken) (hn : n ≤ 61) : n ≤ taken.length :=
  holes (f := tryS z) (fun i j hi hj e => try_inj (by omega) (by omega) e) h
theorem inV_strs {z : Str} {ns : List Str} : inV (.str z) (ns.map V.str) = decide (z ∈ ns) := by
  unfold inV
  rw [List.any_map]
  induction ns with
  | nil => simp
  | cons a r ih =>
    rw [List.any_cons, ih]
    have e : eqV (.str a) (.str z) = decide (a = z) := by
      unfold eqV
      by_cases h : a = z
      · simp [h]
      · simp [h]
    show (eqV (.str a) (.str z) || _) = _
    rw [e]
    by_cases h : a = z
    · simp [h]
    · have h' : ¬ z = a := fun x => h x.symm
      simp [h, h']
end Wm
namespace Wm
open PySem L2
theorem StOk.upd {p d : Addr} {H : Hp} {o : HO} (n : d ≠ p) (h : StOk H p) : StOk (L2.upd H d o) p := by
  obtain ⟨a, b, c, e, r⟩ := h
  exact ⟨a, b, c, by rw [upd_ne n.symm]; exact e, r⟩
theorem StOk.same {p : Addr} {H H' : Hp} (e : Same H H') (h : StOk H p) : StOk H' p := by
  obtain ⟨a, b, c, q, r⟩ := h
  exact ⟨a, b, c, e _ _ q, r⟩
theorem st_free {p d : Addr} {H : Hp} (h : StOk H p) (n : H d = none) : d ≠ p := by
  obtain ⟨a, b, c, e, _⟩ := h
  exact fun z => by
    rw [z, e] at n
    cases n
theorem but_new {p d : Addr} {H H1 : Hp} {o : HO} (b : But p H H1) (n : d ≠ p) (h0 : H d = none) : But p H (L2.upd H1 d o) := fun q u nq e => by
  rw [upd_ne (ne_of_none e h0)]
  exact b q u nq e
theorem flats (ns : List Str) : (ns.map V.str).all flatV = true := by
  induction ns with
  | nil => rfl
  | cons a r ih => rw [List.map_cons, List.all_cons, ih]; rfl
def spNam : Sp := fun vs H Q _ => ∃ (p ln : Addr) (taken : List Str), vs = [.ref p, .ref ln] ∧ StOk H p ∧ ln ≠ p ∧ H ln = some (.lst (taken.map V.str)) ∧ taken.length ≤ 60 ∧
  ∀ (z : Str) H', NmP z → z.length ≤ 6 → z ∉ taken → But p H H' → StOk H' p → Q (.str z) H'
def spNms : Sp := fun vs H Q _ => ∃ (p : Addr) (n : Int), vs = [.ref p, .int n] ∧ StOk H p ∧ 0 ≤ n ∧ n ≤ 60 ∧
  ∀ (zs : List Str) d H', H d = none → d ≠ p → But p H H' → StOk H' p → H' d = some (.lst (zs.map V.str)) → zs.length = n.toNat → zs.Nodup → (∀ z ∈ zs, NmP z ∧ z.length ≤ 6) → Q (.ref d) H'
/-- how many tries are left -/
def mu7 (σ : L2.St) : Nat := match (σ[7]? : Option (Option V)) with
  | some (some (V.int n)) => 100 - n.toNat
  | _ => 0
theorem log_small {n : Nat} (h : n ≤ 100) : ((n : Int) + 1).natAbs.log2 < 1920 := by
  have e : ((n : Int) + 1).natAbs = n + 1 := by omega
  rw [e]
  have q : (n + 1).log2 ≤ n + 1 := Nat.log2_le_self _
  omega
theorem try_nm {z : Str} (h : NmP z) (hl : z.length ≤ 4) {n : Nat} (hn : n ≤ 60) : NmP (tryS z n) ∧ (tryS z n).length ≤ 6 := by
  cases n with
  | zero => exact ⟨h, by show z.length ≤ 6; omega⟩
  | succ n =>
    have q := num_sign (n := n + 1) (by omega)
    refine ⟨h.app q.1, ?_⟩
    show (z ++ numS (n + 1)).length ≤ 6
    rw [len_app]
    omega
section
variable {P : Program} {w : World} {K : PySem.W.Frag} {mg : Str → Option Value} {base : Heap}
theorem scNam : FnScope ["_law_s", "_law_taken", "_law_some", "_law_kind", "_law_word", "_law_k", "_law_found_here", "_law_n"] ["_law_s", "_law_taken"] (defScope sNam) := ⟨rfl, rfl, rfl, by decide +kernel, rfl, by decide +kernel, by decide +kernel⟩
theorem ok_nam {f fg : Addr} {fd fdg : FuncData} (F : Fun K "_law_name" "_law_name" sNam f fd) (T : TxB mg) (tstr : mg "str" = none) (D : Dn K mg "_law_digit" sDigit ["_law_state_here", "_law_base"] fg fdg) : FnOk P w K mg base CX0 2 f fd ["_law_s", "_law_taken"] spNam := by
  have G : FnOk P w K mg base CX0 1 fg fdg ["_law_state_here", "_law_base"] spDigit := ok_digit D.F
  refine F.ok scNam (fun vs H Q E h => ?_) (fun cdv A outer s H vs Q E hr h => ?_)
  · obtain ⟨p, ln, tk, rfl, _⟩ := h
    rfl
  · obtain ⟨p, ln, taken, rfl, hS, nlp, hT, hl, k⟩ := h
    refine ⟨_, (pss_cons (ps_set (i := 2) scNam.nd rfl (Or.inl rfl) pe_str)
      (pss_cons (ps_set (i := 3) scNam.nd rfl (Or.inl rfl) (pe_call G hr rfl D.g D.F.kp D.b .nil pass0 (pa_cons (pv 0) (pa_cons pe_int pa_nil))))
      (pss_cons (ps_set (i := 4) scNam.nd rfl (Or.inl rfl) (pe_ix ix_str (pv 2) (pe_call G hr rfl D.g D.F.kp D.b .nil pass0 (pa_cons (pv 0) (pa_cons pe_int pa_nil))) (fun _ _ => rfl)))
      (pss_cons (ps_for PassesOwn.never rfl (pi_range1 rfl T.range (pa_cons (pe_call G hr rfl D.g D.F.kp D.b .nil pass0 (pa_cons (pv 0) (pa_cons pe_int pa_nil))) pa_nil)) (pg_name (i := 5) scNam.nd rfl (Or.inl rfl)) (pss_one (ps_set (i := 4) scNam.nd rfl (Or.inl rfl) (pe_op op_add_str (pv 4) (pe_ix ix_str (pv 2) (pe_call G hr rfl D.g D.F.kp D.b .nil pass0 (pa_cons (pv 0) (pa_cons pe_int pa_nil))) (fun _ _ => rfl))))))
      (pss_cons (ps_if (pt_cmpR op_eq (pv 3) pe_int (nomark _)) (pss_one (ps_set (i := 4) scNam.nd rfl (Or.inl rfl) (pe_ix ix_list (pe_lst (pa_cons pe_str (pa_cons pe_str (pa_cons pe_str (pa_cons pe_str pa_nil))))) (pe_call G hr rfl D.g D.F.kp D.b .nil pass0 (pa_cons (pv 0) (pa_cons pe_int pa_nil))) (fun _ _ => rfl)))) pss_nil)
      (pss_cons (ps_set (i := 6) scNam.nd rfl (Or.inl rfl) (pv 4))
      (pss_cons (ps_set (i := 7) scNam.nd rfl (Or.inl rfl) pe_int)
      (pss_cons (ps_while PassesOwn.never (pt_cmpR op_in_seq (pv 6) (pv 1) (by rfl)) (pss_cons (ps_set (i := 7) scNam.nd rfl (Or.inl rfl) (pe_op op_add (pv 7) pe_int))
      (pss_one (ps_set (i := 6) scNam.nd rfl (Or.inl rfl) (pe_op op_add_str (pv 4) (pe_callTy call_str_int (by rfl) tstr (by decide +kernel) (pa_cons (pv 7) pa_nil)))))))
      (pss_one (ps_ret (pv 6))))))))))), ?_⟩
    refine ⟨_, rfl, p, _, rfl, hS, by decide, by decide, fun d1 H1 a1 b1 B1 S1 => ?_⟩
    refine ⟨_, rfl, _, rfl, p, _, rfl, S1, by decide, by decide, fun d2 H2 a2 b2 B2 S2 => ?_⟩
    refine rdItem abc36_len a2 (by omega) (by decide) fun c hc => ?_
    have hc' : lowC c := abc_low (by omega) hc
    refine ⟨_, rfl, p, _, rfl, S2, by decide, by decide, fun d3 H3 a3 b3 B3 S3 => ?_⟩
    refine ⟨d3, rfl, by omega, by omega, ?_⟩
    refine for_range (n := d3.toNat) (fun i σ H' => ∃ (z : Str) (v : Option V), σ = [some (.ref p), some (.ref ln), some (.str ABC36), some (.int d1), some (.str z), v, none, none] ∧ z.length ≤ i + 1 ∧ NmP z ∧ But p H H' ∧ StOk H' p)
      ⟨⟨#[c]⟩, none, rfl, Nat.le_refl _, NmP.one hc', (B1.trans B2).trans B3, S3⟩ ?_ ?_
    · rintro i σ H' hi ⟨z, v, rfl, hz, hp, B, S⟩
      refine ⟨_, rfl, _, rfl, _, rfl, p, _, rfl, S, by decide, by decide, fun d5 H5 a5 b5 B5 S5 => ?_⟩
      refine rdItem abc36_len a5 (by omega) (by decide) fun c hc => ?_
      refine ⟨_, _, rfl, rfl, ?_, ?_⟩
      · rw [len_one]
        exact Nat.le_trans (show z.length + 1 ≤ 100 by omega) (by decide)
      · refine ⟨_, _, rfl, ?_, hp.app (fun d hd => ?_), B.trans B5, S5⟩
        · rw [len_app, len_one]
          omega
        · have e : d = c := by simpa using hd
          rw [e]
          exact abc_any hc
    · rintro σ H4 ⟨z, v, rfl, hz, hp, B, S⟩
      refine ⟨_, rfl, rfl, _, rfl, ?_⟩
      refine ite2 (fun _ => ?_) (fun _ => ?_)
      · refine ⟨by show 4 ≤ sizeLine; decide, fun l nl => ?_⟩
        have nlq := st_free S nl
        refine ⟨_, rfl, p, _, rfl, S.upd nlq, by decide, by decide, fun d6 H6 a6 b6 B6 S6 => ?_⟩
        have hq : ∀ z ∈ (["m1", "m2", "m3", "m10"] : List Str), (∃ c cs, z.cps.toList = c :: cs ∧ (97 ≤ c ∧ c ≤ 122) ∧ ∀ d ∈ cs, (97 ≤ d ∧ d ≤ 122) ∨ (48 ≤ d ∧ d ≤ 57)) ∧ z.length ≤ 4 := by
          intro z hz
          rcases List.mem_cons.mp hz with e | hz
          · rw [e]; exact ⟨⟨109, [49], by decide +kernel, by decide, by decide⟩, by decide +kernel⟩
          rcases List.mem_cons.mp hz with e | hz
          · rw [e]; exact ⟨⟨109, [50], by decide +kernel, by decide, by decide⟩, by decide +kernel⟩
          rcases List.mem_cons.mp hz with e | hz
          · rw [e]; exact ⟨⟨109, [51], by decide +kernel, by decide, by decide⟩, by decide +kernel⟩
          rcases List.mem_cons.mp hz with e | hz
          · rw [e]; exact ⟨⟨109, [49, 48], by decide +kernel, by decide, by decide⟩, by decide +kernel⟩
          cases hz
        have hj : d6.toNat < (["m1", "m2", "m3", "m10"] : List Str).length := by show _ < 4; omega
        refine rdList (B6 l _ nlq upd_same) (j := d6.toNat) (v := .str ((["m1", "m2", "m3", "m10"] : List Str)[d6.toNat])) (by omega) ?_ ?_
        · have e : ((["m1", "m2", "m3", "m10"] : List Str).map V.str)[d6.toNat]? = some (.str ((["m1", "m2", "m3", "m10"] : List Str)[d6.toNat])) := by
            rw [List.getElem?_map, List.getElem?_eq_getElem hj]
            rfl
          exact e
        · have hh := hq _ (List.getElem_mem hj)
          generalize (["m1", "m2", "m3", "m10"] : List Str)[d6.toNat] = zz at hh
          have hzz : NmP zz := hh.1
          have hzl : zz.length ≤ 4 := hh.2
          have BB : But p H H6 := (but_new B nlq ((B.free nlq nl))).trans B6
          have SS : StOk H6 p := S6
          clear hh hq hj B6 S6 B S hz hp nl
          revert zz
          intro zz hzz hzl
          refine ⟨_, rfl, ?_⟩
          have hTT : H6 ln = some (.lst (taken.map V.str)) := BB ln _ nlp hT
          refine while_by (fun σ H' => H' = H6 ∧ ∃ n : Nat, σ = [some (.ref p), some (.ref ln), some (.str ABC36), some (.int d1), some (.str zz), v, some (.str (tryS zz n)), some (.int (n : Int))] ∧ n ≤ 60 ∧ ∀ i, i < n → tryS zz i ∈ taken) (fun σ _ => mu7 σ)
            ⟨rfl, 0, rfl, Nat.zero_le _, fun i hi => absurd hi (Nat.not_lt_zero i)⟩ ?_ ?_
          · rintro σ H' ⟨rfl, n, rfl, hn, hall⟩
            refine ⟨_, rfl, _, rfl, ln, _, rfl, .inl (SqL.of hTT), rfl, flats taken, _, rfl, ?_⟩
            show if inV (.str (tryS zz n)) (taken.map V.str) = true then _ else _
            rw [inV_strs]
            by_cases hm : tryS zz n ∈ taken
            · rw [decide_eq_true hm]
              refine iteT ?_
              have hall' : ∀ i, i < n + 1 → tryS zz i ∈ taken := fun i hi => by
                by_cases e : i = n
                · rw [e]
                  exact hm
                · exact hall i (by omega)
              have hle := try_end hl hall' (by omega)
              refine ⟨_, rfl, _, _, rfl, rfl, ?_⟩
              refine ⟨_, rfl, _, rfl, _, rfl, log_small (by omega), _, _, rfl, rfl, ?_, ?_⟩
              · have q := num_sign (n := n + 1) (by omega)
                exact Nat.le_trans (show zz.length + (numS (n + 1)).length ≤ 100 by omega) (by decide)
              · refine ⟨⟨rfl, n + 1, rfl, by omega, hall'⟩, ?_⟩
                show 100 - ((n : Int) + 1).toNat < 100 - (n : Int).toNat
                omega
            · rw [decide_eq_false hm]
              refine iteF ?_
              exact ⟨_, rfl, k _ _ (try_nm hzz hzl hn).1 (try_nm hzz hzl hn).2 hm BB SS⟩
          · intro σ H' Q1 Q2 f h
            obtain ⟨x, e1, y, e2, p', xs, e3, a, b, c, bb, e4, q⟩ := h
            exact ⟨x, e1, y, e2, p', xs, e3, a, b, c, bb, e4, f _ _ q⟩
      · have hzz : NmP z := hp
        have hzl : z.length ≤ 4 := by omega
        have BB : But p H H4 := B
        have SS : StOk H4 p := S
        refine ⟨_, rfl, ?_⟩
        have hTT : H4 ln = some (.lst (taken.map V.str)) := BB ln _ nlp hT
        refine while_by (fun σ H' => H' = H4 ∧ ∃ n : Nat, σ = [some (.ref p), some (.ref ln), some (.str ABC36), some (.int d1), some (.str z), v, some (.str (tryS z n)), some (.int (n : Int))] ∧ n ≤ 60 ∧ ∀ i, i < n → tryS z i ∈ taken) (fun σ _ => mu7 σ)
          ⟨rfl, 0, rfl, Nat.zero_le _, fun i hi => absurd hi (Nat.not_lt_zero i)⟩ ?_ ?_
        · rintro σ H' ⟨rfl, n, rfl, hn, hall⟩
          refine ⟨_, rfl, _, rfl, ln, _, rfl, .inl (SqL.of hTT), rfl, flats taken, _, rfl, ?_⟩
          show if inV (.str (tryS z n)) (taken.map V.str) = true then _ else _
          rw [inV_strs]
          by_cases hm : tryS z n ∈ taken
          · rw [decide_eq_true hm]
            refine iteT ?_
            have hall' : ∀ i, i < n + 1 → tryS z i ∈ taken := fun i hi => by
              by_cases e : i = n
              · rw [e]
                exact hm
              · exact hall i (by omega)
            have hle := try_end hl hall' (by omega)
            refine ⟨_, rfl, _, _, rfl, rfl, ?_⟩
            refine ⟨_, rfl, _, rfl, _, rfl, log_small (by omega), _, _, rfl, rfl, ?_, ?_⟩
            · have q := num_sign (n := n + 1) (by omega)
              exact Nat.le_trans (show z.length + (numS (n + 1)).length ≤ 100 by omega) (by decide)
            · refine ⟨⟨rfl, n + 1, rfl, by omega, hall'⟩, ?_⟩
              show 100 - ((n : Int) + 1).toNat < 100 - (n : Int).toNat
              omega
          · rw [decide_eq_false hm]
            refine iteF ?_
            exact ⟨_, rfl, k _ _ (try_nm hzz hzl hn).1 (try_nm hzz hzl hn).2 hm BB SS⟩
        · intro σ H' Q1 Q2 f h
          obtain ⟨x, e1, y, e2, p', xs, e3, a, b, c, bb, e4, q⟩ := h
          exact ⟨x, e1, y, e2, p', xs, e3, a, b, c, bb, e4, f _ _ q⟩
theorem scNms : FnScope ["_law_s", "_law_many", "_law_found_here", "_law_k"] ["_law_s", "_law_many"] (defScope sNms) := ⟨rfl, rfl, rfl, by decide +kernel, rfl, by decide +kernel, by decide +kernel⟩
theorem ok_nms {f fL : Addr} {fd dL : FuncData} (F : Fun K "_law_names" "_law_names" sNms f fd) (T : TxB mg) (D : Dn K mg "_law_name" sNam ["_law_s", "_law_taken"] fL dL) (G : FnOk P w K mg base CX0 2 fL dL ["_law_s", "_law_taken"] spNam) : FnOk P w K mg base CX0 3 f fd ["_law_s", "_law_many"] spNms := by
  refine F.ok scNms (fun vs H Q E h => ?_) (fun cdv A outer s H vs Q E hr h => ?_)
  · obtain ⟨p, n, rfl, _⟩ := h
    rfl
  · obtain ⟨p, n, rfl, hS, n0, n6, k⟩ := h
    refine ⟨_, (pss_cons (ps_set (i := 2) scNms.nd rfl (Or.inl rfl) (pe_lst pa_nil))
      (pss_cons (ps_for PassesOwn.never rfl (pi_range1 rfl T.range (pa_cons (pv 1) pa_nil)) (pg_name (i := 3) scNms.nd rfl (Or.inl rfl)) (pss_one (ps_expr (pe_bm PySem.F.plainAttrs_list PySem.F.slot_list_append PySem.F.type_list_append mt_append (pv 2) (pa_cons (pe_call G hr rfl D.g D.F.kp D.b .nil pass0 (pa_cons (pv 0) (pa_cons (pv 2) pa_nil))) pa_nil)))))
      (pss_one (ps_ret (pv 2))))), ?_⟩
    refine ⟨Nat.zero_le _, fun d hd => ?_⟩
    have ndp := st_free hS hd
    refine ⟨_, rfl, n, rfl, by omega, by omega, ?_⟩
    refine for_range (n := n.toNat) (fun i σ H' => (∃ u, σ = [some (.ref p), some (.int n), some (.ref d), u]) ∧ ∃ zs : List Str, H' d = some (.lst (zs.map V.str)) ∧ zs.Nodup ∧ (∀ z ∈ zs, NmP z ∧ z.length ≤ 6) ∧ zs.length = i ∧ But p H H' ∧ StOk H' p)
      ⟨⟨none, rfl⟩, [], upd_same, List.nodup_nil, fun z hz => (List.not_mem_nil hz).elim, rfl, but_new (But.refl p H) ndp hd, hS.upd ndp⟩ ?_ ?_
    · rintro i σ H1 hi ⟨⟨u, rfl⟩, zs, hl, nd, nm, len, B, S⟩
      refine ⟨_, rfl, .inl ⟨rfl, _, SqL.of hl⟩, _, rfl, _, rfl, p, d, zs, rfl, S, ndp, hl, by omega, fun z H2 hz hz6 hm B2 S2 => ?_⟩
      have hl2 := B2 d _ ndp hl
      refine ⟨d, _, _, rfl, rfl, hl2, ?_, ?_⟩
      · rw [List.length_map]
        exact Nat.lt_of_le_of_lt (show _ ≤ 1000 by omega) (by decide)
      · refine ⟨⟨_, rfl⟩, zs ++ [z], ?_, ?_, ?_, ?_, but_new (B.trans B2) ndp hd, S2.upd ndp⟩
        · rw [upd_same, List.map_append]
          rfl
        · rw [List.nodup_append]
          exact ⟨nd, (by simp : [z].Nodup), fun a ha b hb e => by
            have eb : b = z := by simpa using hb
            rw [e, eb] at ha
            exact hm ha⟩
        · intro y hy
          rcases List.mem_append.mp hy with hy | hy
          · exact nm y hy
          · rw [List.mem_singleton.mp hy]
            exact ⟨hz, hz6⟩
        · rw [List.length_append, List.length_singleton]
          omega
    · rintro σ H1 ⟨⟨u, rfl⟩, zs, hl, nd, nm, len, B, S⟩
      exact ⟨_, rfl, k zs d H1 hd ndp B S hl len nd nm⟩
end
end Wm
/-! list(zip(xs, ys)) of two lists of one length -/
namespace Wm
open PySem PySem.Spec PyProof.Rows L2
theorem zl_nolen : typeLookup (.type "zip") "__len__" = pure none := by
  rw [typeLookup_type, builtinLookup_eq_fast]
  kernel_rfl
theorem zl_nohint : typeLookup (.type "zip") "__length_hint__" = pure none := by
  rw [typeLookup_type, builtinLookup_eq_fast]
  kernel_rfl
/-- how the zip stands ahead of turn i -/
def ZSt (z TI TO i1 i2 a b : Addr) (i : Nat) (h : Heap) (H : Hp) : Prop :=
  IsPair h TI (.ref i1) (.ref i2) ∧ h.IsListIter i1 a i ∧ h.IsListIter i2 b i ∧
  (∃ x y, IsPair h TO x y) ∧ (IsZip h z TI TO .none ∨ ∃ (T : Addr) (f : Bool) (u : List V), IsZipHeld h z TI TO T f ∧ H T = some (.tup u))
/-- the pairs that stand in the list so far -/
def Prs (H0 H : Hp) (xs ys : List V) (acc : List Addr) : Prop :=
  ∀ (j : Nat) (t : Addr), acc[j]? = some t → H0 t = none ∧ ∃ x y, xs[j]? = some x ∧ ys[j]? = some y ∧ H t = some (.tup [x, y])
theorem fp_upd {X : Cx} {pins : List (Addr × Obj)} {H : Hp} {c d : Addr} {o : HO} (n : c ≠ d) (h : FpOk X pins H c) : FpOk X pins (L2.upd H d o) c := ⟨by rw [upd_ne n]; exact h.1, h.2⟩
section
variable {X : Cx} {pins : List (Addr × Obj)} {σ : L2.St} {A1 : Around} {Rs : Result → Shared → Prop} {S z TI TO i1 i2 a b : Addr} {xs ys : List V} {H0 : Hp}
theorem zl_loop (hh : A1.handled = none) (D : ZipApart z TI TO i1 i2 a b) (hlen : xs.length = ys.length) (hs : xs.length ≤ sizeLine) (nS : H0 S = none) (ha : SqL X.K H0 a xs) (hb : SqL X.K H0 b ys)
    (same : ∀ {H H' : Hp} {c : Addr} {l : List V}, (∀ q o, H q = some o → H' q = some o) → SqL X.K H c l → SqL X.K H' c l)
    (fin : ∀ (H : Hp) (acc : List Addr) (s : Shared), Inv X pins σ H s → (∀ q o, H0 q = some o → H q = some o) → H S = some (.lst (acc.map V.ref)) → acc.length = xs.length → Prs H0 H xs ys acc → Rs (.ok (.ret .none)) s) :
    ∀ (k i : Nat) (acc : List Addr) (H : Hp) (s : Shared), xs.length - i = k → i ≤ xs.length → Inv X pins σ H s → (∀ c ∈ [z, TI, TO, i1, i2], FpOk X pins H c) → ZSt z TI TO i1 i2 a b i s.heap H → (∀ q o, H0 q = some o → H q = some o) →
      H S = some (.lst (acc.map V.ref)) → acc.length = i → Prs H0 H xs ys acc → codeAny (model X.prog X.w) A1 (.builtin "list.extend.loop" ⟨[.ref S, .ref z, .none], []⟩) Rs s := by
  intro k
  induction k with
  | zero =>
    intro i acc H s hk hi I hf st S0 hS hl hp
    have e : i = xs.length := by omega
    refine codeAny_builtin PySem.F.entry_extend_loop ?_
    rw [Around.under_plainId PySem.F.plain_extend_loop _]
    show wpAny _ A1.in1 (pyNext (.ref z) >>= _) _ _ s
    obtain ⟨its, rv, p, _⟩ := I.list (same S0 ha)
    obtain ⟨its2, rv2, p2, _⟩ := I.list (same S0 hb)
    have l1 := rv.length
    have l2 := rv2.length
    have he : its.toArray[i]? = none ∨ its2.toArray[i]? = none := .inl (by simp; omega)
    have done : ∀ h' : Heap, (∀ c o, c ∉ [z, TI, TO, i1, i2] → s.heap.get? c = some o → h'.get? c = some o) → Rs (.ok (.ret .none)) { s with heap := h' } := fun h' hk => fin H acc _ (I.turnedL (t' := s.toks) (ch := [z, TI, TO, i1, i2]) hk hf) S0 hS (by omega) hp
    obtain ⟨hTI, h1, h2, ⟨x0, y0, hTO⟩, hz | ⟨T, f, u, hz, hT⟩⟩ := st
    · exact wpAny_bind (wpAny_pyNext_zip_end (A := A1.in1) hh D hz hTI hTO h1 h2 p.isList p2.isList he fun h' hk => wpAny_pure (done h' fun c o hc => hk c o (fun q => hc (by simp [q])) (fun q => hc (by simp [q])) (fun q => hc (by simp [q])) (fun q => hc (by simp [q]))))
    · obtain ⟨_, _, _, oT, hoT, _⟩ := I.hok T _ hT
      exact wpAny_bind (wpAny_pyNext_zip_end_held (A := A1.in1) hh D hz hoT hTI h1 h2 p.isList p2.isList he fun h' hk => wpAny_pure (done h' fun c o hc => hk c o (fun q => hc (by simp [q])) (fun q => hc (by simp [q])) (fun q => hc (by simp [q]))))
  | succ k ih =>
    intro i acc H s hk hi I hf st S0 hS hl hp
    have hlt : i < xs.length := by omega
    refine codeAny_builtin PySem.F.entry_extend_loop ?_
    rw [Around.under_plainId PySem.F.plain_extend_loop _]
    show wpAny _ A1.in1 (pyNext (.ref z) >>= _) _ _ s
    obtain ⟨its, rv, p, _⟩ := I.list (same S0 ha)
    obtain ⟨its2, rv2, p2, _⟩ := I.list (same S0 hb)
    have hx : xs[i]? = some xs[i] := List.getElem?_eq_getElem hlt
    have hy : ys[i]? = some (ys[i]'(by omega)) := List.getElem?_eq_getElem (by omega)
    generalize xs[i] = x at hx
    generalize (ys[i]'(by omega)) = y at hy
    obtain ⟨u, hu, ru⟩ := rv.get hx
    obtain ⟨u2, hu2, ru2⟩ := rv2.get hy
    have nT : H s.heap.objs.size = none := I.hok.fresh (Nat.le_refl _)
    have n0 : H0 s.heap.objs.size = none := by
      cases e : H0 s.heap.objs.size with
      | none => rfl
      | some o =>
        rw [S0 _ _ e] at nT
        cases nT
    have nST : S ≠ s.heap.objs.size := fun e => by
      rw [← e, hS] at nT
      cases nT
    have zn : ∀ c ∈ [z, TI, TO, i1, i2], c ≠ S := fun c hc e => by
      have q := (hf c hc).1
      rw [e, hS] at q
      cases q
    have old : ∀ c ∈ [z, TI, TO, i1, i2], (∃ o, s.heap.get? c = some o) → c ≠ s.heap.objs.size := fun c _ ⟨o, e⟩ => Nat.ne_of_lt (Heap.lt_size e)
    have more : ∀ h' : Heap, IsZipHeld h' z TI TO s.heap.objs.size false ∨ (∃ (T : Addr) (f : Bool) (w : List V), IsZipHeld h' z TI TO T f ∧ H T = some (.tup w)) → h'.IsListIter i1 a (i + 1) → h'.IsListIter i2 b (i + 1) → IsPair h' TI (.ref i1) (.ref i2) → (∃ x y, IsPair h' TO x y) → IsPair h' s.heap.objs.size u u2 →
        (∀ c ∈ [z, TI, TO, i1, i2], c ≠ s.heap.objs.size) → (∀ c o, c ∉ [z, TI, TO, i1, i2] → s.heap.get? c = some o → h'.get? c = some o) →
        wpAny (model X.prog X.w) A1.in1 (updateSeq S (·.push (.ref s.heap.objs.size)) >>= fun _ => again (.builtin "list.extend.loop" ⟨[.ref S, .ref z, .none], []⟩))
          (fun fin s' => match fin with | .done f => Rs (.ok f) s' | .again c' => c'.quiet = true ∧ codeAny (model X.prog X.w) A1 c' Rs s') (fun e s' => Rs (.error e) s') { s with heap := h' } := by
      intro h' hz' h1' h2' hTI' ⟨a1, a2, hTO'⟩ hT hn hk
      have new : ObjOk X.prog X.w (L2.upd H s.heap.objs.size (.tup [x, y])) h' s.heap.objs.size (.tup [x, y]) := ⟨by show 2 ≤ sizeLine; decide, [u, u2], .cons ru (.cons ru2 .nil), ⟨_, hT, rfl, _, rfl⟩⟩
      have I1 : Inv X pins σ (L2.upd H s.heap.objs.size (.tup [x, y])) { s with heap := h' } := I.turnedNew (t' := s.toks) (ch := [z, TI, TO, i1, i2]) hk hf (Nat.le_refl _) new
      have hS1 : (L2.upd H s.heap.objs.size (.tup [x, y])) S = some (.lst (acc.map V.ref)) := by rw [upd_ne nST]; exact hS
      obtain ⟨zz, itsS, kS, rS, hlS, eS⟩ := I1.lstM hS1
      rw [List.length_map] at hlS zz
      have I2 := I1.lset (f := fun v : Array Value => v.push (.ref s.heap.objs.size)) (its' := itsS ++ [.ref s.heap.objs.size]) (ys := (acc ++ [s.heap.objs.size]).map V.ref) (t' := s.toks) hS1 eS (by simp) (by rw [List.map_append]; exact rS.append (.cons rfl .nil)) (by rw [List.length_map, List.length_append, List.length_singleton]; omega)
      refine wpAny_bind (wpAny_updateSeq eS rfl (wpAny_pure ⟨plainId_quiet PySem.F.plain_extend_loop _, ?_⟩) (by rw [List.size_toArray]; omega) (by show (itsS.toArray.push _).size ≤ sizeLine + 1; rw [Array.size_push, List.size_toArray]; omega))
      have up : ∀ c o, c ≠ S → h'.get? c = some o → (h'.update S (Obj.mapSeq fun v : Array Value => v.push (.ref s.heap.objs.size))).get? c = some o := fun c o n e => (Heap.get?_update_other _ _ n.symm).trans e
      have grow : ∀ q o, q ≠ S → H q = some o → (L2.upd (L2.upd H s.heap.objs.size (.tup [x, y])) S (.lst ((acc ++ [s.heap.objs.size]).map V.ref))) q = some o := fun q o n e => by
        rw [upd_ne n, upd_ne fun e' => by rw [e', nT] at e; cases e]
        exact e
      have eT : (L2.upd (L2.upd H s.heap.objs.size (.tup [x, y])) S (.lst ((acc ++ [s.heap.objs.size]).map V.ref))) s.heap.objs.size = some (.tup [x, y]) := by rw [upd_ne nST.symm, upd_same]
      refine ih (i + 1) (acc ++ [s.heap.objs.size]) _ _ (by omega) hlt I2 (fun c hc => fp_upd (zn c hc) (fp_upd (hn c hc) (hf c hc))) ⟨up _ _ (zn TI (by simp)) hTI', h1'.at fun o q => up _ _ (zn i1 (by simp)) q, h2'.at fun o q => up _ _ (zn i2 (by simp)) q, ⟨a1, a2, up _ _ (zn TO (by simp)) hTO'⟩, .inr ?_⟩ (fun q o e => grow q o (fun z' => by rw [z', nS] at e; cases e) (S0 q o e)) upd_same (by rw [List.length_append, hl]; rfl) ?_
      · rcases hz' with q | ⟨T, f, w, q, hT'⟩
        · exact ⟨_, _, _, up _ _ (zn z (by simp)) q, eT⟩
        · exact ⟨T, f, w, up _ _ (zn z (by simp)) q, grow T _ (fun z' => by rw [z', hS] at hT'; cases hT') hT'⟩
      · intro j t hj
        rcases Nat.lt_trichotomy j acc.length with q | q | q
        · rw [List.getElem?_append_left q] at hj
          obtain ⟨m0, x', y', e1, e2, e3⟩ := hp j t hj
          exact ⟨m0, x', y', e1, e2, grow t _ (fun z' => by rw [z', hS] at e3; cases e3) e3⟩
        · subst q
          have e : s.heap.objs.size = t := by simpa using hj
          subst e
          exact ⟨n0, x, y, by rw [hl]; exact hx, by rw [hl]; exact hy, eT⟩
        · rw [List.getElem?_eq_none (by rw [List.length_append, List.length_singleton]; omega)] at hj
          cases hj
    have hu' : its.toArray[i]? = some u := by simpa using hu
    have hu2' : its2.toArray[i]? = some u2 := by simpa using hu2
    obtain ⟨hTI, h1, h2, ⟨x0, y0, hTO⟩, hzz⟩ := st
    obtain ⟨o1, e1, q1⟩ := id h1
    obtain ⟨o2, e2, q2⟩ := id h2
    have notin : ∀ c, c ∉ [z, TI, TO, i1, i2] → c ≠ z ∧ c ≠ TO ∧ c ≠ i1 ∧ c ≠ i2 := fun c hc => ⟨fun q => hc (by simp [q]), fun q => hc (by simp [q]), fun q => hc (by simp [q]), fun q => hc (by simp [q])⟩
    have hn : (∃ o, s.heap.get? z = some o) → ∀ c ∈ [z, TI, TO, i1, i2], c ≠ s.heap.objs.size := fun hz c hc => old c hc (by
      have e' : c = z ∨ c = TI ∨ c = TO ∨ c = i1 ∨ c = i2 := by simpa using hc
      rcases e' with q | q | q | q | q
      · rw [q]; exact hz
      · rw [q]; exact ⟨_, hTI⟩
      · rw [q]; exact ⟨_, hTO⟩
      · rw [q]; exact ⟨_, e1⟩
      · rw [q]; exact ⟨_, e2⟩)
    rcases hzz with hz | ⟨T, f, w, hz, hT⟩
    · exact wpAny_bind (wpAny_pyNext_zip_item D hz hTI hTO h1 h2 p.isList p2.isList hu' hu2' fun h' z' TO' h1' h2' hT hsz hk => more h' (.inl z') h1' h2' (hk _ _ D.TIz D.TITO D.TIi1 D.TIi2 hTI) ⟨_, _, TO'⟩ hT (hn ⟨_, hz⟩) fun c o hc => hk c o (notin c hc).1 (notin c hc).2.1 (notin c hc).2.2.1 (notin c hc).2.2.2)
    · obtain ⟨_, _, _, oT, hoT, _⟩ := I.hok T _ hT
      exact wpAny_bind (wpAny_pyNext_zip_item_held D hz hoT hTI h1 h2 p.isList p2.isList hu' hu2' fun h' z' h1' h2' hTn hsz hk => more h' (.inr ⟨T, _, w, z', hT⟩) h1' h2' (hk _ _ D.TIz D.TIi1 D.TIi2 hTI) ⟨_, _, hk _ _ D.TOz D.TOi1 D.TOi2 hTO⟩ hTn (hn ⟨_, hz⟩) fun c o hc => hk c o (notin c hc).1 (notin c hc).2.2.1 (notin c hc).2.2.2)
end
def tLZ (K : PySem.W.Frag) (ta : TA) : TE := fun σ H Q => ta σ H fun vs H1 => ∃ (a b : Addr) (xs ys : List V), vs = [.ref a, .ref b] ∧ SqL K H1 a xs ∧ SqL K H1 b ys ∧ xs.length = ys.length ∧ xs.length ≤ 100000 ∧
  ∀ (p : Addr) (ts : List Addr) (H' : Hp), H1 p = none → (∀ q o, H1 q = some o → H' q = some o) → H' p = some (.lst (ts.map V.ref)) → ts.length = xs.length → Prs H1 H' xs ys ts → Q (.ref p) H'
theorem pe_listZip {X : Cx} {e e2 : Expr} {ta : TA} {p p2 pos pos2 : Pos} (hc : X.calm = true) (hgl : Gl X "list") (hml : X.mg "list" = none) (hg : Gl X "zip") (hm : X.mg "zip" = none) (ha : PA X [e, e2] ta)
    (same : ∀ {H H' : Hp} {c : Addr} {l : List V}, (∀ q o, H q = some o → H' q = some o) → SqL X.K H c l → SqL X.K H' c l)
    (hs : starEach [e, e2] X.env = (false, eval e X.env) :: starEach [e2] X.env := by rfl) (hpl : (backTo pos2 (starEach [e2] X.env)).any (·.1) = false := by rfl)
    (hz : starEach [Expr.Call (.Name "zip" p2) [e, e2] [] pos2] X.env = (false, eval (.Call (.Name "zip" p2) [e, e2] [] pos2) X.env) :: starEach [] X.env := by rfl) :
    PE X (.Call (.Name "list" p) [.Call (.Name "zip" p2) [e, e2] [] pos2] [] pos) (tLZ X.K ta) := by
  refine ⟨fun pins s σ H Q I h => ?_⟩
  refine wpAny_Call_Name_kw (ld_blt (u := .type "list") I hgl hml (by decide +kernel) ?_)
  refine PyProof.Rows.callWith_type1 ?_ hz rfl
  rw [hz]
  show wpAny _ _ (spliced ((false, eval (.Call (.Name "zip" p2) [e, e2] [] pos2) X.env) :: backTo pos (starEach [] X.env))) _ _ s
  refine Calls.spliced_cons ?_
  refine Call_ (ld_blt I hg hm PyProof.Rows.boot_zip (PyProof.Rows.callWith_type1 (thn (ha.run pos2 pins s σ H _ I h) fun us s1 ⟨vs, H1, I1, r1, q1⟩ => ?_) hs hpl))
  obtain ⟨a, b, xs, ys, ex, hqx, hqy, hlen, hsz, q⟩ := q1
  subst ex
  cases r1 with
  | cons r rr =>
    cases rr with
    | cons r' rr =>
      cases rr
      cases r
      cases r'
      obtain ⟨its, rv, p1, _⟩ := I1.list hqx
      obtain ⟨its2, rv2, p2', _⟩ := I1.list hqy
      have la : a < s1.heap.objs.size := p1.lt
      have lb : b < s1.heap.objs.size := p2'.lt
      refine call_zip_2 p1.isList p2'.isList fun h' hz' hTI hTO h1 h2 hsz' hk => Calls.spliced_nil ?_
      have I2 : Inv X pins σ H1 { s1 with heap := h' } := I1.kept (t' := s1.toks) hk
      have D := PySem.W.ktu_apart s1.heap.objs.size a b la lb
      have hf : ∀ c ∈ [s1.heap.objs.size + 4, s1.heap.objs.size + 2, s1.heap.objs.size + 3, s1.heap.objs.size, s1.heap.objs.size + 1], FpOk X pins H1 c := fun c hcm => by
        have hle : s1.heap.objs.size ≤ c := by
          have e' : c = s1.heap.objs.size + 4 ∨ c = s1.heap.objs.size + 2 ∨ c = s1.heap.objs.size + 3 ∨ c = s1.heap.objs.size ∨ c = s1.heap.objs.size + 1 := by simpa using hcm
          rcases e' with z | z | z | z | z
          · rw [z]; exact Nat.le_add_right _ _
          · rw [z]; exact Nat.le_add_right _ _
          · rw [z]; exact Nat.le_add_right _ _
          · rw [z]; exact Nat.le_refl _
          · rw [z]; exact Nat.le_add_right _ _
        exact I1.fpOk hle (I1.hok.fresh hle)
      have hzlt : s1.heap.objs.size + 4 < h'.objs.size := by omega
      generalize hz0 : s1.heap.objs.size + 4 = z at hz' hf D hzlt
      generalize hT1 : s1.heap.objs.size + 2 = TI at hTI hz' hf D
      generalize hT2 : s1.heap.objs.size + 3 = TO at hTO hz' hf D
      generalize hT4 : s1.heap.objs.size + 1 = i2 at h2 hTI hf D
      generalize hT3 : s1.heap.objs.size = i1 at h1 hTI hf D
      refine callType_codes (Q₁ := fun obj s₁ => obj = .ref h'.objs.size ∧ s₁ = { s1 with heap := h'.push { cls := .type "list", data := .seq #[] } }) PySem.F.called_list (PySem.F.typeCall_list_1 _) PySem.F.entry_list_init
        (code_list_new _ ⟨rfl, rfl⟩) fun obj s₁ h₁ => ?_
      obtain ⟨rfl, rfl⟩ := h₁
      have hS : (h'.push { cls := .type "list", data := .seq #[] }).get? h'.objs.size = some { cls := .type "list", data := .seq #[] } := Heap.get?_push_size _ rfl
      refine ⟨⟨_, hS, rfl⟩, PySem.F.args_list_init_2 _ _, ?_⟩
      have fr : H1 h'.objs.size = none := I2.hok.fresh (Nat.le_refl _)
      have I3 : Inv X pins σ (L2.upd H1 h'.objs.size (.lst [])) { s1 with heap := h'.push { cls := .type "list", data := .seq #[] } } := I2.lnew (its := []) (t' := s1.toks) .nil (Nat.zero_le _)
      show wpAny _ _ (do let old ← Builtin.List.listItems (.ref h'.objs.size); Builtin.List.listUpdate (.ref h'.objs.size) (fun _ => #[]); letGo old.toList.reverse; Builtin.List.listExtendWith (.ref h'.objs.size) (.ref z) .none) _ _ _
      refine wpAny_bind ?_
      unfold Builtin.List.listItems
      refine wpAny_bind (wpAny_seqItems hS rfl (wpAny_pure ?_))
      show wpAny _ _ (updateSeq h'.objs.size (fun _ => #[]) >>= fun _ => letGo (#[] : Array Value).toList.reverse >>= fun _ => Builtin.List.listExtendWith (.ref h'.objs.size) (.ref z) .none) _ _ _
      refine wpAny_bind (wpAny_updateSeq hS rfl ?_)
      have I4 := I3.lset (f := fun _ => #[]) (its := []) (its' := []) (ys := []) (t' := s1.toks) upd_same hS rfl .nil (Nat.zero_le _)
      rw [upd_upd] at I4
      have hS4 := Heap.get?_update_self (Obj.mapSeq (fun _ => (#[] : Array Value))) hS rfl
      have k4 : ∀ c o, c ≠ h'.objs.size → h'.get? c = some o → ((h'.push { cls := .type "list", data := .seq #[] }).update h'.objs.size (Obj.mapSeq (fun _ => (#[] : Array Value)))).get? c = some o := fun c o n e => (Heap.get?_update_other _ _ n.symm).trans (Heap.get?_push_of_some _ e)
      refine wpAny_bind (wpAny_letGo ?_)
      have nz : ∀ c o, h'.get? c = some o → c ≠ h'.objs.size := fun c o e => Nat.ne_of_lt (Heap.lt_size e)
      have st4 : ∀ (g : Heap), (∀ c o, c ≠ h'.objs.size → h'.get? c = some o → g.get? c = some o) → ∀ H : Hp, ZSt z TI TO i1 i2 a b 0 g H := fun g kg H => ⟨kg _ _ (nz _ _ hTI) hTI, h1.at fun o e => kg _ o (nz _ o e) e, h2.at fun o e => kg _ o (nz _ o e) e, ⟨_, _, kg _ _ (nz _ _ hTO) hTO⟩, .inl (kg _ _ (nz _ _ hz') hz')⟩
      have go : ∀ (g : Heap), (∀ c o, c ≠ h'.objs.size → h'.get? c = some o → g.get? c = some o) → Inv X pins σ (L2.upd H1 h'.objs.size (.lst [])) { s1 with heap := g } →
          codeAny (model X.prog X.w) X.A.in1 (.builtin "list.extend.loop" ⟨[.ref h'.objs.size, .ref z, .none], []⟩) (wants (fun r s₂ => r = .none ∧ EP X pins σ Q (.ref h'.objs.size) s₂) X.xe) { s1 with heap := g } := fun g kg I5 => by
        refine zl_loop (H0 := H1) (S := h'.objs.size) (A1 := X.A.in1) (I1.ok.hd hc) D hlen (Nat.le_trans hsz (by decide)) fr hqx hqy same ?_ _ 0 [] _ _ rfl (Nat.zero_le _) I5 (fun c hcm => fp_upd ?_ (hf c hcm)) (st4 g kg _) ?_ upd_same rfl (fun j t e => by simp at e)
        · intro H' acc s' I' S' hl' len' pr'
          exact ⟨rfl, .ref _, H', I', rfl, q _ acc H' fr S' hl' len' pr'⟩
        · have e' : c = z ∨ c = TI ∨ c = TO ∨ c = i1 ∨ c = i2 := by simpa using hcm
          obtain ⟨o1, e1, q1⟩ := id h1
          obtain ⟨o2, e2, q2⟩ := id h2
          rcases e' with y | y | y | y | y
          · rw [y]; exact nz _ _ hz'
          · rw [y]; exact nz _ _ hTI
          · rw [y]; exact nz _ _ hTO
          · rw [y]; exact nz _ _ e1
          · rw [y]; exact nz _ _ e2
        · intro q' o e
          rw [upd_ne fun y => by rw [y, fr] at e; cases e]
          exact e
      show wpAny _ _ (Builtin.List.listExtendWith (.ref h'.objs.size) (.ref z) .none) _ _ { s1 with heap := (h'.push { cls := .type "list", data := .seq #[] }).update h'.objs.size (Obj.mapSeq (fun _ => (#[] : Array Value))) }
      unfold Builtin.List.listExtendWith
      have hz4 := k4 _ _ (nz _ _ hz') hz'
      have hty : ∀ t, Shared.TypeIs ({ s1 with heap := (h'.push { cls := .type "list", data := .seq #[] }).update h'.objs.size (Obj.mapSeq (fun _ => (#[] : Array Value))), toks := t } : Shared) (.ref z) "zip" := fun t => ⟨_, hz4, rfl⟩
      refine wpAny_bind (wpAny_typeOf (hty _) ?_)
      have c1 : Builtin.List.listSameRef (.ref h'.objs.size) (.ref z) = false := by simp [Builtin.List.listSameRef, (nz _ _ hz').symm]
      have c2 : (Value.type "zip" == Value.type "list") = false := by decide
      have c3 : (Value.type "zip" == Value.type "tuple") = false := by decide
      simp only [c1, c2, c3, Bool.or_false, Bool.false_eq_true, if_false]
      refine wpAny_bind (wpAny_pyIter_zip hz4 ?_)
      refine wpAny_bind (wpAny_holding ?_)
      unfold Builtin.List.listLengthHint
      refine wpAny_bind (wpAny_specialOf (hty _) zl_nolen ?_)
      show wpAny _ _ (specialOf (Value.ref z) (Str.ofString "__length_hint__") >>= _) _ _ _
      refine wpAny_bind (wpAny_specialOf (hty _) zl_nohint ?_)
      refine wpAny_pure ?_
      show wpAny _ _ (rule "list.extend.makes-room" >>= fun _ => Builtin.List.listTouch (.ref h'.objs.size) >>= fun _ => again (.builtin "list.extend.loop" ⟨[.ref h'.objs.size, .ref z, .none], []⟩)) _ _ _
      refine wpAny_bind (wpAny_rule ?_)
      refine wpAny_bind ?_
      show wpAny _ _ (updateSeq h'.objs.size (·.push .none) >>= fun _ => updateSeq h'.objs.size (·.pop)) _ _ _
      refine wpAny_bind (wpAny_updateSeq hS4 rfl ?_)
      have I6 := I4.lset (f := (·.push Value.none)) (its := []) (its' := [Value.none]) (ys := [.non]) (t' := s1.toks) upd_same hS4 (by simp) (.cons rfl .nil) (by decide)
      rw [upd_upd] at I6
      have hS5 := Heap.get?_update_self (Obj.mapSeq (·.push Value.none)) hS4 rfl
      refine wpAny_updateSeq hS5 rfl ?_ (by decide) (by decide)
      have I7 := I6.lset (f := (·.pop)) (its := [Value.none]) (its' := []) (ys := []) (t' := s1.toks) upd_same hS5 (by rfl) .nil (Nat.zero_le _)
      rw [upd_upd] at I7
      exact wpAny_pure ⟨plainId_quiet PySem.F.plain_extend_loop _, go _ (fun c o n e => (Heap.get?_update_other _ _ n.symm).trans ((Heap.get?_update_other _ _ n.symm).trans (k4 c o n e))) I7⟩
end Wm
namespace Wm
open PySem L2
/-- str(o), o an instance of the class at C, whose __str__ is the def at f -/
def rStrO (C : Addr) (sp : Sp) : List V → Hp → VK → Prop := fun xs H Q => ∃ (a dx : Addr) (fs : List (Str × V)), xs = [.ref a] ∧ H a = some (.ins C dx fs) ∧ sp [.ref a] H (fun v H' => ∃ z : Str, v = .str z ∧ Q (.str z) H') E0
theorem call_strO {X : Cx} {C f : Addr} {fd : FuncData} {k : Nat} {sp : Sp} (hs : PySem.W.findIn X.K (.ref C) "__str__" = some (some (.ref f))) (hf : PySem.W.isFn X.K (.ref f) = true) (F : FnOk X.prog X.w X.K X.mg X.base CX0 k f fd ["self"] sp) (hr : Room (k + 2) X.A) (hb : Binds X.K fd ["self"] []) :
    CallR X (.type "str") (rStrO C sp) := by
  intro pins s σ H xs us Q I r h
  obtain ⟨a, dx, fs, rfl, ha, h⟩ := h
  cases r with
  | cons rx rr =>
    cases rr
    cases rx
    obtain ⟨mA, ob, _⟩ := ins_get I.hok ha
    obtain ⟨od, J, _⟩ := ob.look
    have hr1 : Room (k + 1) X.A.in1 := hr.in1
    have hr2 : Room k X.A.in1.in1 := hr1.in1
    refine PySem.W.kso_call hr2.units0 I.kIn J hs hf ?_
    have hl : ([Value.ref a] ++ []).length = (["self"] : List Str).length := rfl
    have rv : Vals [V.ref a] [Value.ref a] := .cons rfl .nil
    refine wpAny_call (codeAny_mono (F.run X.A.in1.in1 X.stack s H ⟨[Value.ref a], []⟩ [Value.ref a] [V.ref a] _ E0 hr2 I.env0.in1.in1 (hb s [Value.ref a] I.kIn hl) rv h) fun r s' hq => ?_)
    cases r with
    | error e => exact hq.elim
    | ok fl =>
      cases fl with
      | ret u =>
        obtain ⟨v, H', J', ru, z, rfl, q⟩ := I.after (Q := fun v H' => ∃ z : Str, v = .str z ∧ Q (.str z) H') hq
        obtain ⟨t, rfl⟩ := ru
        exact ⟨.str z, H', J', ⟨t, rfl⟩, q⟩
      | next => exact False.elim hq
      | brk => exact False.elim hq
      | cont => exact False.elim hq
end Wm
namespace Wm
open PySem L2 PySem.W
/-- a == b, a an instance of the class at C, whose __eq__ is the def at f -/
def rEqO (K : Frag) (C : Addr) (sp : Sp) : V → V → Hp → VK → Prop := fun x y H Q => ∃ (a b D dx dy : Addr) (fs gs : List (Str × V)), x = .ref a ∧ y = .ref b ∧ H a = some (.ins C dx fs) ∧ H b = some (.ins D dy gs) ∧ notFirst K C (.ref D) = true ∧
  sp [.ref a, .ref b] H (fun v H' => ∃ t : Bool, v = .bl t ∧ Q (.bl t) H') E0
theorem op_eqO {X : Cx} {C f : Addr} {fd : FuncData} {k : Nat} {sp : Sp} {ps : List Str} (hs : findIn X.K (.ref C) "__eq__" = some (some (.ref f))) (hf : isFn X.K (.ref f) = true) (F : FnOk X.prog X.w X.K X.mg X.base CX0 k f fd ps sp) (hr : Room k X.A) (hb : L2.Binds X.K fd ps []) :
    OpR X (compareOp .Eq) (rEqO X.K C sp) := by
  intro pins s σ H x y v u Q I rx ry h
  obtain ⟨a, b, D, dx, dy, fs, gs, rfl, rfl, ha, hb', nf, h⟩ := h
  cases rx
  cases ry
  obtain ⟨mA, oa, _⟩ := ins_get I.hok ha
  obtain ⟨mB, ob, _⟩ := ins_get I.hok hb'
  obtain ⟨od, J, _⟩ := oa.look
  obtain ⟨od', J', _⟩ := ob.look
  obtain ⟨m, hF⟩ := I.fr
  show wpAny _ _ (richCompare .Eq (.ref a) (.ref b)) _ _ _
  refine cmp_K hr.units0 hF I.ok.mod.kin J (InstAt.type J') nf hs hf ?_
  have rv : Vals [V.ref a, V.ref b] [Value.ref a, Value.ref b] := .cons rfl (.cons rfl .nil)
  have hl : ([Value.ref a, Value.ref b] ++ []).length = ps.length := F.len _ _ _ _ h
  have bd := hb s [Value.ref a, Value.ref b] I.kIn hl
  rw [List.append_nil] at bd
  refine wpAny_call (codeAny_mono (F.run X.A X.stack s H ⟨[Value.ref a, Value.ref b], []⟩ [Value.ref a, Value.ref b] [V.ref a, V.ref b] _ E0 hr I.env0 bd rv h) fun r s' hq => ?_)
  cases r with
  | error e => exact hq.elim
  | ok fl =>
    cases fl with
    | next => exact hq.elim
    | brk => exact hq.elim
    | cont => exact hq.elim
    | ret u =>
      obtain ⟨v, H', I2, rv, t, rfl, q⟩ := I.after hq
      cases rv
      exact ⟨.bl t, H', I2, rfl, q⟩
/-- the class at C has its own __eq__, at f, and no __ne__ -/
structure EqNe (K : Frag) (C f : Addr) : Prop where
  ex : ∃ nm q N bs hdct sn sub ab col dd k0 k1 k2 k3 k5 newId oc od es ep osl of, K.lookup C = some (excClassObj nm q C N bs [.type "object"] hdct sn sub ab col dd k0 k1 k2 k3 k5 newId) ∧
    K.lookup N = some ⟨oc, od, .dict es ep, osl⟩ ∧ StrKeys es ∧ nsFind es "__eq__" = some (.ref f) ∧ nsFind es "__ne__" = none ∧ K.lookup f = some of ∧ of.cls = .type "function"
theorem EqNe.at {K : Frag} {C f x dx : Addr} (e : EqNe K C f) {h : Heap} (X : K.In h) (hx : h.get? x = some (instObj C dx)) : h.OwnEqNoNe x C f "object" [.type "object"] := by
  obtain ⟨nm, q, N, bs, hdct, sn, sub, ab, col, dd, k0, k1, k2, k3, k5, newId, oc, od, es, ep, osl, of, h1, h2, h3, h4, h5, h6, h7⟩ := e.ex
  exact ⟨_, of, nm, q, N, bs, hdct, sn, sub, ab, col, dd, k0, k1, k2, k3, k5, newId, nsFind es, _, hx, rfl, X C _ h1, ⟨_, es, ep, X N _ h2, rfl, h3, fun _ => rfl⟩, h4, X f _ h6, h7, PySem.F.cmp_object.mro, PySem.F.cmp_object.eq.lookup, h5⟩
def rNeO (C : Addr) (sp : Sp) : V → V → Hp → VK → Prop := fun x y H Q => ∃ (a b dx dy : Addr) (fs gs : List (Str × V)), x = .ref a ∧ y = .ref b ∧ H a = some (.ins C dx fs) ∧ H b = some (.ins C dy gs) ∧
  sp [.ref a, .ref b] H (fun v H' => ∃ t : Bool, v = .bl t ∧ Q (.bl !t) H') E0
theorem op_neO {X : Cx} {C f : Addr} {fd : FuncData} {k : Nat} {sp : Sp} {ps : List Str} (hs : EqNe X.K C f) (F : FnOk X.prog X.w X.K X.mg X.base CX0 k f fd ps sp) (hr : Room (k + 1) X.A) (hb : L2.Binds X.K fd ps []) :
    OpR X (compareOp .NotEq) (rNeO C sp) := by
  intro pins s σ H x y v u Q I rx ry h
  obtain ⟨a, b, dx, dy, fs, gs, rfl, rfl, ha, hb', h⟩ := h
  cases rx
  cases ry
  have oa := (I.hok a _ ha).2.2.2.1
  have ob := (I.hok b _ hb').2.2.2.1
  have hr1 : Room k X.A.in1 := hr.in1
  refine compareOp_ne_ownEq PySem.F.cmp_object (hs.at I.kIn oa) ob rfl ?_ ?_
  · exact hr1.units0
  have rv : Vals [V.ref a, V.ref b] [Value.ref a, Value.ref b] := .cons rfl (.cons rfl .nil)
  have hl : ([Value.ref a, Value.ref b] ++ []).length = ps.length := F.len _ _ _ _ h
  have bd := hb s [Value.ref a, Value.ref b] I.kIn hl
  rw [List.append_nil] at bd
  refine wpAny_call (codeAny_mono (F.run X.A.in1 X.stack s H ⟨[Value.ref a, Value.ref b], []⟩ [Value.ref a, Value.ref b] [V.ref a, V.ref b] _ E0 hr1 I.env0.in1 bd rv h) fun r s' hq => ?_)
  cases r with
  | error e => exact hq.elim
  | ok fl =>
    cases fl with
    | next => exact hq.elim
    | brk => exact hq.elim
    | cont => exact hq.elim
    | ret u =>
      obtain ⟨v, H', I2, rv, t, rfl, q⟩ := I.after (Q := fun v H' => ∃ t : Bool, v = .bl t ∧ Q (.bl !t) H') hq
      cases rv
      exact ⟨t, rfl, .bl !t, H', I2, rfl, q⟩
end Wm
namespace Wm
open L2 PySem PySem.W
/-- a def to which a caught error is handed within the suite that caught it -/
structure FnE (P : Program) (w : World) (K : Frag) (mg : Str → Option Value) (base : Heap) (k : Nat) (f : Addr) (fd : FuncData) (ps : List Str)
    (sp : Addr → Value → Option Addr → Sp) : Prop where
  len : ∀ a cls d vs H Q E, sp a cls d vs H Q E → vs.length = ps.length
  run : ∀ (A : Around) (outer : List Env) (s : Shared) (H : Hp) (args : Args) (us : List Value) (vs : List V) (Q : VK) (E : XK) (a : Addr) (oe : Obj) (cls : Value) (d : Option Addr),
    L2H.RoomH k A → A.handled = some (.ref a) → Zc cls d oe → (∃ vs, oe.data = .fields vs) → L2H.PinOk outer H s (a, oe) → Env0 P w K mg base A outer s H →
    BindsTo s fd args (ps.zip us) → Vals vs us → sp a cls d vs H Q E → codeAny (model P w) A (.call (.ref f) args) (CR CX0 outer P w H s Q E) s
theorem mark_self {A : Around} {a : Addr} (h : A.handled = some (.ref a)) : A.mark (some (.ref a)) = A := by
  cases A
  simp only at h
  subst h
  rfl
theorem fn_ofE {P : Program} {w : World} {K : Frag} {mg : Str → Option Value} {base : Heap} {k : Nat} {f : Addr} {name qual : Str} {params : Arguments} {body : List Stmt} {scope : Scope}
    {dV kV doc pm cdv ct oc : Value} {an od : Option Addr} {osl : Array (Option Value)} {N ps : List Str} {sp : Addr → Value → Option Addr → Sp}
    (lk : List.lookup f K = some { cls := oc, dict := od, data := .func (fnOf name qual params body scope dV kV doc pm an cdv ct), slots := osl })
    (hcd : codeIn K cdv qual = true) (S : FnScope N ps scope)
    (len : ∀ a cls d vs H Q E, sp a cls d vs H Q E → vs.length = ps.length)
    (hbody : ∀ (A : Around) (outer : List Env) (s : Shared) (H : Hp) (vs : List V) (Q : VK) (E : XK) (a : Addr) (oe : Obj) (cls : Value) (d : Option Addr),
      Zc cls d oe → (∃ vs, oe.data = .fields vs) → L2H.RoomH k (A.deeper (PyProof.Rows.envOfC qual scope s.heap.objs.size f cdv)) → sp a cls d vs H Q E →
      ∃ t, PSs ((cxOf CX0 P w K mg base N qual scope f cdv A outer s H E).suite a [(a, oe)]) body t ∧ t { nx := fun _ H' => Q .non H', rt := Q } (L2.start N vs) H) :
    FnE P w K mg base (k + 1) f (fnOf name qual params body scope dV kV doc pm an cdv ct) ps sp where
  len := len
  run := by
    intro A outer s H args us vs Q E a oe cls d hr hh hz hf hpin e0 hb r hsp
    have KX := Frag.In.keeps e0.mod.kin fun b o e => (e0.bs b o e).1
    have lim := Heap.NoLimit.keeps e0.mod.nolimit fun b o e => (e0.bs b o e).1
    refine codeAny_call_function hr.depth (KX f _ lk) rfl S.co S.gen rfl (codeRec_of KX hcd) (hb _ A.in1 _ _ (wpAny_newFunctionEnv_cells S.kind ?_ ?_))
    · rintro ⟨n, v⟩ hy
      rcases S.par n (List.of_mem_zip hy).1 with q | q
      · exact Or.inl q
      · exact Or.inr ⟨q, cellsFrom_some scope.names (s.heap.objs.size + 1) [] (Or.inl q)⟩
    · intro env he s1 x
      subst he
      refine ⟨Heap.NoLimit.keeps lim x.toInCall.keep, codeAny_func ?_⟩
      obtain ⟨t, ht, hq⟩ := hbody A outer s H vs Q E a oe cls d hz hf (L2H.RoomH.deeper hr _) hsp
      have I := L2H.inv_startH (CX := CX0) (E := E) S hpin e0 (len _ _ _ _ _ _ _ hsp) r x
      have hm : (A.deeper (PyProof.Rows.envOfC qual scope s.heap.objs.size f cdv)).mark (some (.ref a)) = A.deeper (PyProof.Rows.envOfC qual scope s.heap.objs.size f cdv) := mark_self hh
      have o := I.ok
      have I2 : Inv ((cxOf CX0 P w K mg base N qual scope f cdv A outer s H E).suite a [(a, oe)]) [] (L2.start N vs) H s1 :=
        ⟨⟨o.mod, o.kind, o.glob, o.blt, o.above, o.inj, o.has, o.cab, (fun h => by cases h), o.frames, o.stk, o.exf, o.bs, o.bsz, o.noex, o.exfs, o.funs, o.frf⟩,
          I.os, I.bare, I.base, I.loc, I.cell, I.free, I.freeC, I.pin, I.hok, I.len⟩
      have go := ht.run [] s1 (L2.start N vs) H { nx := fun _ H' => Q .non H', rt := Q } I2 hq
      dsimp only [Cx.suite, cxOf] at go
      rw [hm] at go
      refine wpAny_mono go (fun fl s' hs => ?_) fun e s' hs => hs.elim
      cases fl with
      | next =>
        obtain ⟨σ', H', J, q⟩ := hs
        exact ⟨.non, H', J.os, J.bare, J.base, J.hok, rfl, q⟩
      | brk =>
        obtain ⟨_, _, _, q⟩ := hs
        exact q.elim
      | cont =>
        obtain ⟨_, _, _, q⟩ := hs
        exact q.elim
      | ret u =>
        obtain ⟨v, σ', H', J, rv, q⟩ := hs
        exact ⟨v, H', J.os, J.bare, J.base, J.hok, rv, q⟩
theorem FunE_ok {P : Program} {w : World} {K : Frag} {mg : Str → Option Value} {base : Heap} {x qual : Str} {st : Stmt} {f : Addr} {fd : FuncData} {N ps : List Str} {k : Nat} {sp : Addr → Value → Option Addr → Sp}
    (F : Fun K x qual st f fd) (S : FnScope N ps (defScope st))
    (len : ∀ a cls d vs H Q E, sp a cls d vs H Q E → vs.length = ps.length)
    (hbody : ∀ (cdv : Value) (A : Around) (outer : List Env) (s : Shared) (H : Hp) (vs : List V) (Q : VK) (E : XK) (a : Addr) (oe : Obj) (cls : Value) (d : Option Addr),
      Zc cls d oe → (∃ vs, oe.data = .fields vs) → L2H.RoomH k (A.deeper (PyProof.Rows.envOfC qual (defScope st) s.heap.objs.size f cdv)) → sp a cls d vs H Q E →
      ∃ t, PSs ((cxOf CX0 P w K mg base N qual (defScope st) f cdv A outer s H E).suite a [(a, oe)]) (defBody st) t ∧ t { nx := fun _ H' => Q .non H', rt := Q } (L2.start N vs) H) :
    FnE P w K mg base (k + 1) f fd ps sp := by
  obtain ⟨oc, od, kV, doc, pm, an, cdv, ct, osl, rfl, lk, hcd⟩ := F.ex
  exact fn_ofE lk hcd S len fun A outer s H vs Q E a oe cls d hz hf hr hsp => hbody cdv A outer s H vs Q E a oe cls d hz hf hr hsp
/-- the call f(e, ..) of such a def within the suite -/
def tCallE (sp : Sp) (t : TA) : TE := fun σ H Q => t σ H fun vs H1 => sp vs H1 Q (fun _ _ _ => False)
theorem pe_callE {X : Cx} {k : Nat} {f : Addr} {fd : FuncData} {ps : List Str} {sp : Addr → Value → Option Addr → Sp} {a : Addr} {oe : Obj} {cls : Value} {d : Option Addr} {pn : List (Addr × Obj)}
    {x : Str} {q pos : Pos} {e : Expr} {es : List Expr} {t : TA}
    (F : FnE X.prog X.w X.K X.mg X.base k f fd ps sp) (hr : L2H.RoomH k X.A) (hz : Zc cls d oe) (hf : ∃ vs, oe.data = .fields vs) (hg : Gl X x) (hm : X.mg x = some (.ref f))
    (hk : keepIn X.K (.ref f) = true) (hb : L2.Binds X.K fd ps []) (ha : PA (X.suite a ((a, oe) :: pn)) (e :: es) t)
    (hdb : (x == Str.ofString "__debug__") = false := by rfl) (he : starEach (e :: es) X.env = (false, eval e X.env) :: starEach es X.env := by rfl)
    (hpl : ((backTo pos (starEach es X.env)).any fun x => x.1) = false := by rfl) :
    PE (X.suite a ((a, oe) :: pn)) (.Call (.Name x q) (e :: es) [] pos) (tCallE (sp a cls d) t) where
  run := by
    intro pins s σ H Q I h
    refine wpAny_Call_Name_kw (ld_glob I hg hm (callWith_K I.ok.mod.kin hk (thn (ha.run pos pins s σ H _ I h) ?_) he hpl) hdb)
    rintro us s1 ⟨vs, H1, I1, r, h1⟩
    refine ⟨I1.kIn, ?_⟩
    have P1 := I1.pin (a, oe) (List.mem_append_left _ (List.mem_cons_self ..))
    have hp : L2H.PinOk X.stack H1 s1 (a, oe) := ⟨P1.1, P1.2.1, fun hx => (List.mem_cons.mp (I1.stkSub a hx)).elim P1.2.2.1 P1.2.2.2.1, P1.2.2.2.2⟩
    have hl : (us ++ []).length = ps.length := by rw [List.append_nil, ← r.length]; exact F.len _ _ _ _ _ _ _ h1
    have b := hb s1 us I1.kIn hl
    rw [List.append_nil] at b
    have hr2 : L2H.RoomH k (X.suite a ((a, oe) :: pn)).A := ⟨hr.dp, hr.un⟩
    refine wpAny_call (codeAny_mono (F.run (X.suite a ((a, oe) :: pn)).A X.stack s1 H1 ⟨us, []⟩ us vs Q _ a oe cls d hr2 rfl hz hf hp I1.env0 b r h1) fun r s' hq => ?_)
    cases r with
    | error e => exact hq.elim
    | ok fl =>
      cases fl with
      | next => exact hq.elim
      | brk => exact hq.elim
      | cont => exact hq.elim
      | ret u => exact I1.after hq
end Wm
namespace Wm
open PySem L2 PySem.W
/-- an object made where what a refusal is to bring hangs on the slots -/
def tMakeS (C : Addr) (sp : Sp) (E : St → XK) (t : TA) : TE := fun σ H Q => t σ H fun vs H1 => ∀ x dx, H1 x = none → H1 dx = none → dx ≠ x → sp (.ref x :: vs) (upd (upd H1 dx (.own x)) x (.ins C dx [])) (fun v H2 => v = .non ∧ Q (.ref x) H2) (E σ)
theorem pe_makeS {X : Cx} {CX : CXT} {k : Nat} {f C : Addr} {fd : FuncData} {ps : List Str} {sp : Sp} {E : St → XK} {x : Str} {p pos : Pos} {e : Expr} {es : List Expr} {t : TA}
    (M : Mk X.K C f) (F : FnOk X.prog X.w X.K X.mg X.base CX k f fd ps sp) (hr : Room (k + 1) X.A) (hg : Gl X x) (hm : X.mg x = some (.ref C)) (hb : L2.Binds X.K fd ps [])
    (hx : ∀ σ, PassesAt CX X σ (E σ)) (ha : PA X (e :: es) t)
    (hdb : (x == Str.ofString "__debug__") = false := by rfl) (he : starEach (e :: es) X.env = (false, eval e X.env) :: starEach es X.env := by rfl)
    (hpl : ((backTo pos (starEach es X.env)).any fun x => x.1) = false := by rfl) :
    PE X (.Call (.Name x p) (e :: es) [] pos) (tMakeS C sp E t) where
  run := by
    intro pins s0 σ H0 Q I0 h0
    refine wpAny_Call_Name_kw (ld_glob I0 hg hm (callWith_K I0.ok.mod.kin M.kp (thn (ha.run pos pins s0 σ H0 _ I0 h0) ?_) he hpl) hdb)
    rintro us s ⟨vs, H, I, r, h⟩
    refine ⟨I.kIn, ?_⟩
    have hq := h (s.heap.objs.size + 1) s.heap.objs.size (HOk.fresh I.hok (Nat.le_succ _)) (HOk.fresh I.hok (Nat.le_refl _)) (Nat.ne_of_lt (Nat.lt_succ_self _))
    have I2 := Inv.made (C := C) I
    have r2 : Vals (V.ref (s.heap.objs.size + 1) :: vs) (Value.ref (s.heap.objs.size + 1) :: us) := Paired.cons rfl r
    have hl : ((Value.ref (s.heap.objs.size + 1) :: us) ++ []).length = ps.length := by
      rw [List.append_nil, ← r2.length]
      exact F.len _ _ _ _ hq
    have bd := hb ⟨(s.heap.push emptyDict).push (instObj C s.heap.objs.size), s.gens, s.drawn, s.toks, s.os⟩ _ I2.kIn hl
    rw [List.append_nil] at bd
    refine wpAny_call (make_map I.kIn M.makes M.init (beq_iff_eq.mp M.fn) (codeAny_mono (F.run _ X.stack _ _ _ _ _ _ (E σ) (Room.make hr C us []) (Env0.make I2.env0 C us []) bd r2 hq) fun r s' hq' => ?_))
    cases r with
    | error e => exact hx σ pins _ _ e s' I2 hq'
    | ok fl =>
      cases fl with
      | next => exact hq'.elim
      | brk => exact hq'.elim
      | cont => exact hq'.elim
      | ret u =>
        obtain ⟨v, H', I3, rv, rfl, q3⟩ := I2.after (Q := fun v H2 => v = .non ∧ Q (.ref (s.heap.objs.size + 1)) H2) hq'
        exact ⟨rv, .ref (s.heap.objs.size + 1), H', I3, rfl, q3⟩
end Wm
/-! lists walked to their end while an error is handled: sum, comprehensions -/
namespace Wm
open PySem PySem.Spec PyProof.Rows L2 HotX
section
variable {prog : Program} {w : World} {A : Around} {E : Value → Shared → Prop} {s : Shared}
/-- a list iterator at its end: the StopIteration gets the handled error as its context, nothing else is touched -/
theorem next_end_hot {it l x1 : Addr} {i : Nat} {items : Array Value} {Q : Option Value → Shared → Prop} (hot : HotAt A x1 s.heap) (hne : x1 ≠ it) (hit : s.heap.IsListIter it l i) (hl : s.heap.IsList l items) (hx : items[i]? = none)
    (hQ : ∀ h', Heap.ExtBut it s.heap h' → Q none { s with heap := h' }) : wpAny (model prog w) A (pyNext (.ref it)) Q E s := by
  obtain ⟨hh, o1, vs1, g1, f1, c1⟩ := hot
  obtain ⟨oi, gi, ci, di⟩ := id hit
  obtain ⟨ol, gl, _, nl, dl⟩ := hl
  have slot := slot_listiter_next
  unfold pyNext
  refine wpAny_bind (wpAny_attempt (wpAny_callSpecial?_slot (name := Str.ofString "__next__") hit.typeIs slot (wpAny_call_entry slot hit.typeIs entry_listiter_next ?_ (args_listiter_next _))))
  have rd0 : ∀ {Q' : Value → Shared → Prop} {E'} {A'}, Q' (.ref l) s → wpAny (model prog w) A' (field (.ref it) 0) Q' E' s := fun q => wpAny_field gi di (x := .ref l) rfl q
  have rd1 : ∀ {Q' : Value → Shared → Prop} {E'} {A'}, Q' (.int i 0) s → wpAny (model prog w) A' (field (.ref it) 1) Q' E' s := fun q => wpAny_field gi di (x := .int i 0) rfl q
  show wpAny _ _ (field (.ref it) 0 >>= _) _ _ s
  refine wpAny_bind (rd0 ?_)
  show wpAny _ _ (if (Value.ref l == Value.none) = true then _ else _) _ _ s
  rw [if_neg (show ¬ ((Value.ref l == Value.none) = true) from Bool.false_ne_true)]
  show wpAny _ _ (field (.ref it) 1 >>= _) _ _ s
  refine wpAny_bind (rd1 ?_)
  show wpAny _ _ (seqItems? (.ref l) >>= _) _ _ s
  refine wpAny_bind (wpAny_seqItems gl dl ?_)
  simp only [Int.toNat_natCast, hx]
  refine wpAny_bind (wpAny_rule (wpAny_bind (wpAny_setField gi di (by simp) ?_)))
  show wpAny _ _ (newExc (.type "StopIteration") [] >>= _) _ _ _
  refine wpAny_bind ?_
  simp only [newExc, newTuple]
  refine wpAny_bind (wpAny_newObj_type ?_ (by size_fits))
  refine wpAny_bind (m := firstArgMember _ _) (wpAny_of_eq (a := Value.none) (by first | rfl | (simp only [firstArgMember]; rfl)) ?_)
  refine wpAny_newObj_type ?_ (by size_fits)
  refine raiseNew_hot ⟨hh, o1, vs1, (((Heap.SameBut.update ..).extBut.push _).push _) x1 o1 hne g1, f1, c1⟩ (Nat.ne_of_lt (Heap.lt_size (((Heap.SameBut.update ..).extBut.push _) x1 o1 hne g1))) (Heap.get?_push_size _ rfl) rfl (by first | (simp; done) | (simp; omega) | (simp only [Array.size_append]; simp; omega)) ?_
  refine wpAny_bind (wpAny_isInstance (T := "StopIteration") (b := true) ⟨_, Heap.get?_update_self _ (Heap.get?_push_size _ rfl) rfl, rfl⟩ isSubtype_stop ?_)
  refine wpAny_pure (hQ _ fun b o nb e => ?_)
  rw [Heap.get?_update_other _ _ (Nat.ne_of_gt (Heap.lt_size (((Heap.SameBut.update ..).extBut.push _) b o nb e)))]
  exact (((Heap.SameBut.update ..).extBut.push _).push _) b o nb e
/-- the walk over a list, the handled error's object kept in sight -/
theorem walks_hot {x1 : Addr} {o1 : Obj} {v1 : Array Value} (hh : A.handled = some (.ref x1)) (d1 : o1.data = .fields v1) (c1 : v1[2]? = some .none) (I ax : Addr) (hne : ax ≠ I) (hx : x1 ≠ I) (items : Array Value) :
    Walks prog w A I [I, ax, x1] [I] items.size (fun i v => items[i]? = some v) (fun i h => h.IsListIter I ax i ∧ h.IsList ax items ∧ h.get? x1 = some o1) where
  sub := fun b hb => by
    rw [List.mem_singleton.mp hb]
    exact List.mem_cons_self
  frame := fun i h h' ⟨a, b, c⟩ k => ⟨a.at fun o e => k I (by simp) o e, b.at fun o e => k ax (by simp) o e, k x1 (by simp) o1 c⟩
  item := fun i s Q E hi ⟨a, b, c⟩ q => by
    refine wpAny_pyNext_list_item a b (Array.getElem?_eq_getElem hi) fun h' a' sb => ?_
    exact q _ h' s.toks (Array.getElem?_eq_getElem hi) ⟨a', b.at fun o e => (sb.2 ax hne).trans e, (sb.2 x1 hx).trans c⟩ fun y o ny e => (sb.2 y (fun z => ny (by rw [z]; exact List.mem_cons_self))).trans e
  done := fun s Q E ⟨a, b, c⟩ q => next_end_hot ⟨hh, o1, v1, c, d1, c1⟩ hx a b (Array.getElem?_eq_none (Nat.le_refl _)) fun h' eb => q h' s.toks fun y o ny e => eb y o (fun z => ny (by rw [z]; exact List.mem_cons_self)) e
  self := fun i s Q E ⟨a, _, _⟩ q => wpAny_pyIter_listiter a q
theorem sum_hot {l x1 : Addr} {o1 : Obj} {v1 : Array Value} {its : List Value} {ns : List Int} {Q : Value → Shared → Prop} (hh : A.handled = some (.ref x1)) (g1 : s.heap.get? x1 = some o1) (d1 : o1.data = .fields v1) (c1 : v1[2]? = some .none) (hl : s.heap.IsList l its.toArray) (hi : IntsAre its ns)
    (h : ∀ h' tk t', (∀ b o, s.heap.get? b = some o → h'.get? b = some o) → Q (.int ns.sum t') { s with heap := h', toks := tk }) : wpAny (model prog w) A (call (.builtin "sum") [.ref l]) Q E s := by
  obtain ⟨xs, e⟩ := hi.allInts.items
  have hn : numsOf (intItems xs).toList = ns := by rw [← e]; exact hi.numsOf
  rw [nums_intItems] at hn
  rw [e] at hl
  refine call_sum_walkG (iter_intList hl fun s2 e2 st fpl hlI => ?_)
  subst e2
  have hx : x1 ≠ s.heap.objs.size := Nat.ne_of_lt (Heap.lt_size g1)
  refine ⟨_, _, _, _, _, _, numAt xs, rfl, walks_hot (A := A.in1) hh d1 c1 _ l hlI hx (intItems xs), ⟨st.1, st.2, Heap.get?_push_of_some _ g1⟩, fun b hb => ?_, (fun _ _ => intItems_at), fun h' tk t' hk => ?_⟩
  · rcases List.mem_cons.mp hb with z | hb
    · exact fpl b (by rw [z]; simp)
    rcases List.mem_cons.mp hb with z | hb
    · exact fpl b (by rw [z]; simp)
    · rw [List.mem_singleton.mp hb]
      exact Heap.lt_size (Heap.get?_push_of_some _ g1)
  · have q := h h' tk t' (old_kept hk)
    have e3 : preSum (numAt xs) (intItems xs).size = ns.sum := by
      rw [preSum_eq, List.take_of_length_le (by simp [intItems]), hn]
    rw [e3]
    exact q
end
section
variable {X : Cx} {a : Addr} {oe : Obj} {vf : Array Value} {pn : List (Addr × Obj)}
theorem cr_sumH (hf : oe.data = .fields vf) (hn : vf[2]? = some .none) : CallR (X.suite a ((a, oe) :: pn)) (.builtin "sum") (rSum X.K) := by
  intro pins s σ H vs us Q I r h
  obtain ⟨l, ns, rfl, hs, q⟩ := h
  obtain ⟨its, rv, hl, _⟩ := I.list hs
  have P1 := I.pin (a, oe) (List.mem_append_left _ (List.mem_cons_self ..))
  rw [Vals.ref1 r]
  exact sum_hot (x1 := a) rfl P1.1 hf hn hl.isList rv.ints fun h' tk t' hk => ⟨.int _, H, I.kept hk, ⟨_, rfl⟩, q⟩
end
end Wm
/-! [elt for target in a list], no tests, while an error is handled -/
namespace Wm
open PySem PySem.Spec PyProof.Rows L2 HotX
/-- W i: what holds ahead of the turn i -/
def tLcH (K : PySem.W.Frag) (tl : TE) (g : TG) (te : TE) (vs : List Nat) : TE := fun σ H Q => tl σ H fun v H1 => ∃ (l : Addr) (xs : List V), v = .ref l ∧ SqL K H1 l xs ∧ ∀ D, H1 D = none → ∃ W : Nat → Hp → Prop, W 0 (upd H1 D (.lst [])) ∧ (∀ i H', W i H' → SqL K H' l xs) ∧
  (∀ i x H', xs[i]? = some x → W i H' → g x (wipe σ vs) H' fun σ2 H2 => wipe σ2 vs = wipe σ vs ∧ te σ2 H2 fun y H4 => ∃ acc, H4 D = some (.lst acc) ∧ acc.length < sizeLine ∧ W (i + 1) (upd H4 D (.lst (acc ++ [y])))) ∧ ∀ H', W xs.length H' → Q (.ref D) H'
section
variable {X : Cx} {a : Addr} {oe : Obj} {vf : Array Value}
theorem pe_lcH {elt tg l : Expr} {scope : Scope} {own : List (Str × Nat)} {pos : Pos} {tl : TE} {g : TG} {te : TE} (hA : X.A.handled = some (.ref a)) (hpn : (a, oe) ∈ X.pn) (hf : oe.data = .fields vf) (hn : vf[2]? = some .none) (hN : X.N.Nodup) (hl : PE X l tl) (ok : BlkOk X.N X.env.scope scope own)
    (hg : ∀ (s : Shared) (H : Hp) (C : Addr) (cl : List (Str × Addr)) (fp : List Addr), PG (X.blk s H scope (compEnvC scope cl C X.env) fp) tg g)
    (he : ∀ (s : Shared) (H : Hp) (C : Addr) (cl : List (Str × Addr)) (fp : List Addr), PE (X.blk s H scope (compEnvC scope cl C X.env) fp) elt te) (hs : ∀ x, foldedSetIterable l X.env x = pure x := by intro _; rfl) :
    PE X (.ListComp elt [⟨tg, l, [], 0⟩] scope pos) (tLcH X.K tl g te (own.map (·.2))) := by
  refine ⟨fun pins s σ H Q I h => ?_⟩
  rw [eval_ListComp]
  have cells : ∀ y ∈ scope.names, y.2 = .free → ∃ c, X.env.cells.lookup y.1 = some c := fun y hy e => (ok.free y hy e).elim (fun k => I.ok.has _ (.inl k)) (fun k => I.ok.has _ (.inr k))
  refine wpAny_comprehension_free (use := none) rfl hs (closure_ok cells) ok.kind (fun y hy e => by rw [ok.uniq y hy, e]) (thn (hl.run pins s σ H _ I h) fun v s1 ⟨x, H1, I1, r1, q1⟩ => ?_)
  obtain ⟨la, xs, rfl, hq, q⟩ := q1
  cases r1
  obtain ⟨its, rv, p, hz⟩ := I1.list hq
  refine wpAny_pyIter_list p.isList ?_
  -- the iterator, the new list, the block
  generalize hit : s1.heap.objs.size = it
  have itn : H1 it = none := I1.hok.fresh (Nat.le_of_eq hit)
  have I2 : Inv X pins σ H1 { s1 with heap := s1.heap.push { cls := .type "list_iterator", data := .fields #[.ref la, .int 0 0] } } := I1.kept (t' := s1.toks) fun b o e => Heap.get?_push_of_some _ e
  have st2 : ({ s1 with heap := s1.heap.push { cls := .type "list_iterator", data := .fields #[.ref la, .int 0 0] } } : Shared).heap.IsListIter it la 0 := by
    rw [← hit]
    exact ⟨_, Heap.get?_push_size _ rfl, rfl, rfl⟩
  have fp2 : FpOk X pins H1 it := I1.fpOk (Nat.le_of_eq hit) itn
  generalize hs2 : ({ s1 with heap := s1.heap.push { cls := .type "list_iterator", data := .fields #[.ref la, .int 0 0] } } : Shared) = s2 at I2 st2 ⊢
  refine wpAny_newObj_type (newEnv_comp ?_) (by show 0 ≤ sizeLine; decide)
  generalize hD : s2.heap.objs.size = D
  have Dn : H1 D = none := I2.hok.fresh (Nat.le_of_eq hD)
  have itD : it ≠ D := fun z => by
    obtain ⟨o, e, _⟩ := st2
    exact absurd (Heap.lt_size e) (by rw [z, ← hD]; exact Nat.lt_irrefl _)
  obtain ⟨W, w0, wq, step, fin⟩ := q D Dn
  have I3 : Inv X pins σ (upd H1 D (.lst [])) { s2 with heap := s2.heap.push { cls := .type "list", data := .seq ([] : List Value).toArray } } := by
    refine I2.laid (t' := s2.toks) (fun b o e => Heap.get?_push_of_some _ e) (Nat.le_of_eq hD) ⟨Nat.zero_le _, [], 0, .nil, ?_⟩
    rw [← hD]
    exact Heap.get?_push_size _ rfl
  have st3 : ({ s2 with heap := s2.heap.push { cls := .type "list", data := .seq ([] : List Value).toArray } } : Shared).heap.IsListIter it la 0 := st2.at fun o e => Heap.get?_push_of_some _ e
  generalize ({ s2 with heap := s2.heap.push { cls := .type "list", data := .seq ([] : List Value).toArray } } : Shared) = s3 at I3 st3 ⊢
  generalize hH3 : upd H1 D (.lst []) = H3 at I3 w0
  have it3 : H3 it = none := by rw [← hH3, upd_ne itD]; exact itn
  have fp3 : ∀ b ∈ [it], FpOk X pins H3 b ∧ b < s3.heap.objs.size := fun b hb => by
    rw [List.mem_singleton.mp hb]
    obtain ⟨o, e, _⟩ := st3
    exact ⟨⟨it3, fp2.2⟩, Heap.lt_size e⟩
  have I4 := block_start I3 ok hN fp3
  have pg := hg s3 H3 s3.heap.objs.size (cellsFrom (s3.heap.objs.size + 1) scope.names (cloFrom X.env.cells scope.names [])) [it]
  have pe := he s3 H3 s3.heap.objs.size (cellsFrom (s3.heap.objs.size + 1) scope.names (cloFrom X.env.cells scope.names [])) [it]
  have P3 := I3.pin (a, oe) (List.mem_append_left _ hpn)
  have aS : a ∉ frs X.stack := fun z => (List.mem_cons.mp (I3.stkSub a z)).elim P3.2.2.1 P3.2.2.2.1
  have aI : a ≠ it := fun z => fp2.2.2.2.2.2 (a, oe) (List.mem_append_left _ hpn) z
  show codeAny _ _ (.compStart (.ListComp elt [⟨tg, l, [], 0⟩] scope pos) 0 (.ref it) (.ref D) (compEnvC scope (cellsFrom (s3.heap.objs.size + 1) scope.names (cloFrom X.env.cells scope.names [])) s3.heap.objs.size X.env)) _ { s3 with heap := pushCells (s3.heap.push { cls := .type "dict", data := .dict #[] }) scope.names }
  generalize hce : compEnvC scope (cellsFrom (s3.heap.objs.size + 1) scope.names (cloFrom X.env.cells scope.names [])) s3.heap.objs.size X.env = ce at I4 pg pe ⊢
  have cL : ce.locals = s3.heap.objs.size := by subst hce; rfl
  have st4 : ({ s3 with heap := pushCells (s3.heap.push { cls := .type "dict", data := .dict #[] }) scope.names } : Shared).heap.IsListIter it la 0 := st3.at fun o e => pushCells_keeps _ _ _ _ (Heap.get?_push_of_some _ e)
  generalize ({ s3 with heap := pushCells (s3.heap.push { cls := .type "dict", data := .dict #[] }) scope.names } : Shared) = s4 at I4 st4 ⊢
  -- the iterator stands apart in every state of the block
  have apart : ∀ {σ' : L2.St} {H' : Hp} {s' : Shared}, Inv (X.blk s3 H3 scope ce [it]) [] σ' H' s' → H' it = none → FpOk (X.blk s3 H3 scope ce [it]) [] H' it := fun {σ' H' s'} I' z =>
    have m : it ∈ [it] := List.mem_cons_self
    ⟨z, (I'.ok.exf it m).1, I'.ok.exfs it m, .inl m, fun y c e => (I'.ok.exf it m).2 y c e, fun p hp => (List.not_mem_nil (show p ∈ ([] : List (Addr × Obj)) from hp)).elim⟩
  have loop : codeAny (model X.prog X.w) X.A (.compLoop (.ListComp elt [⟨tg, l, [], 0⟩] scope pos) 0 (.ref it) (.ref D) ce) (compPost (model X.prog X.w) X.A X.xe none (EP X pins σ Q) (.ref D) s3.heap.objs.size) s4 := by
    refine compLoop_any (fun n s' => ∃ i H', i + n = xs.length ∧ Inv (X.blk s3 H3 scope ce [it]) [] (wipe σ (own.map (·.2))) H' s' ∧ s'.heap.IsListIter it la i ∧ H' it = none ∧ W i H') ?_ xs.length ⟨0, H3, Nat.zero_add _, I4, st4, it3, w0⟩
    rintro n s5 ⟨i, H5, hi, I5, st5, n5, w5⟩
    obtain ⟨its5, rv5, p5, _⟩ := I5.list (wq i H5 w5)
    have hl5 := rv5.length
    have F5 := apart I5 n5
    obtain ⟨f0, f1, f2, f3, f4, f5⟩ := F5
    cases n with
    | zero =>
      have hot : HotAt X.A a s5.heap := ⟨hA, oe, vf, I5.base.keep a oe P3.1 P3.2.1 aS (fun z => aI (List.mem_singleton.mp z)), hf, hn⟩
      refine next_end_hot hot aI st5 p5.isList (by simp; omega) fun h' eb => ?_
      have I6 : Inv (X.blk s3 H3 scope ce [it]) [] (wipe σ (own.map (·.2))) H5 { s5 with heap := h' } := I5.turned (t' := s5.toks) (fun b o hb e => eb b o hb e) f0 f1 f3 f4 f5
      have I7 : Inv X pins σ H5 { s5 with heap := h' } := I3.call' (ch := [it]) I6.os I6.base I6.hok I6.bare fun b hb => ⟨(fp3 b hb).1.2.2.2.1, (fp3 b hb).1.2.1, (fp3 b hb).1.2.2.2.2.1, (fp3 b hb).1.2.2.2.2.2⟩
      have nC : H5 s3.heap.objs.size = none := by
        rw [← cL]
        exact I6.free
      obtain ⟨m, hm, _⟩ := I6.loc
      have hm : ({ s5 with heap := h' } : Shared).heap.Ns ce.locals m := hm
      rw [cL] at hm
      obtain ⟨k0, k1, k2, k3, k4, k5⟩ := I3.fpOk (Nat.le_refl _) nC
      refine ⟨m, hm, fun h'' sb => ⟨.ref D, H5, I7.turned (t' := s5.toks) (fun b o hb e => (sb.2 b hb).trans e) k0 k1 k3 k4 k5, rfl, fin H5 ?_⟩⟩
      have e : i = xs.length := by omega
      rw [← e]
      exact w5
    | succ n =>
      have hlt : i < xs.length := by omega
      obtain ⟨u, hu, ru⟩ := rv5.get (List.getElem?_eq_getElem hlt)
      refine wpAny_pyNext_list_item st5 p5.isList (x := u) (by simpa using hu) fun h' st6 sb => ?_
      have I6 : Inv (X.blk s3 H3 scope ce [it]) [] (wipe σ (own.map (·.2))) H5 { s5 with heap := h' } := I5.turned (t' := s5.toks) (fun b o hb e => (sb.2 b hb).trans e) f0 f1 f3 f4 f5
      obtain ⟨o6, e6, c6, d6⟩ := id st6
      refine go_of (s := { s5 with heap := h' }) e6 c6 d6 (by decide) ?_
      have I6' := I6.pinned (fp := [it]) (fun b hb => by rw [List.mem_singleton.mp hb]; exact apart I6 n5) (fun b hb => by rw [List.mem_singleton.mp hb]; exact ⟨o6, e6, fun v z => by rw [d6] at z; cases z⟩)
      refine thnF (pg.run _ _ _ H5 _ u _ I6' ru (step i _ H5 (List.getElem?_eq_getElem hlt) w5)) fun _ s8 ⟨σ8, H8, I8, hw8, q8⟩ => ?_
      refine wpAny_tests_nil ?_
      simp only [if_true]
      refine thnF (pe.run _ s8 σ8 H8 _ I8 q8) fun z s10 ⟨yv, H10, I10, r10, acc, hD10, hz10, nx⟩ => ?_
      refine app_ok (X := X.blk s3 H3 scope ce [it]) I10 hD10 hz10 r10 fun s11 I11 => ?_
      have pin := I11.pin (it, o6) (List.mem_append_right _ (List.mem_append_right _ (mem_pinsAt List.mem_cons_self e6)))
      refine ⟨n, Nat.lt_succ_self n, i + 1, _, by omega, (I11.unpinned (pins := [])).weak (by rw [← hw8, wipe_length]) (fun j v e => ?_), st6.at fun o e => ?_, pin.2.1, nx⟩
      · rw [← hw8] at e
        exact (wipe_some e).1
      · rw [e6] at e
        cases e
        exact pin.1
  exact codeAny_compStart_list loop (wpAny_pyIter_listiter st4 loop)
end
end Wm
/-! own errors whose context is known to be None, from raise to the suite that hands them on -/
namespace Wm
open PySem PySem.Spec PyProof.Rows L2
section
variable {X : Cx} {e : Expr} {es : List Expr} {ta : TA} {p pos : Pos}
/-- an own error made: its context is None -/
theorem pmkN_oex {CX : CXT} {x : Str} {C fI : Addr} {k : Nat} {fd : FuncData} {ps : List Str} {sp : Sp} (T : OexC X.K C) (iC : PySem.W.findIn X.K (.ref C) "__init__" = some (some (.ref fI))) (tI : PySem.W.typeIn X.K (.ref fI) = some (.type "function"))
    (G : FnOk X.prog X.w X.K X.mg X.base CX k fI fd ps sp) (hr : Room (k + 1) X.A) (hb : L2.Binds X.K fd ps []) (hx : Passes CX X (fun _ _ _ => False)) (hg : Gl X x) (hm : X.mg x = some (.ref C)) (ha : PA X (e :: es) ta)
    (hdb : (x == ("__debug__" : Str)) = false := by decide) (he : starEach (e :: es) X.env = (false, eval e X.env) :: starEach es X.env := by rfl) (hpl : (backTo pos (starEach es X.env)).any (·.1) = false := by rfl) :
    L2N.PMk X (.Call (.Name x p) (e :: es) [] pos) (tMkO C sp [] ta) := by
  intro pins s σ H Q I h
  obtain ⟨nm, q, N, bs, bm, sn, sub, ab, col, dd, k0, k1, k2, k3, k5, hC, hbm⟩ := T.cls
  refine wpAny_Call_Name_kw (ld_glob I hg hm (PySem.W.callWith_K (h₀ := X.base) I.ok.mod.kin T.kC (thn (ha.run pos pins s σ H _ I h) ?_) he hpl) hdb)
  rintro us ⟨hp, g, dr, tk, os⟩ ⟨vs, H1, I1, r1, hz, q1⟩
  refine ⟨I1.kIn, ?_⟩
  generalize hA : hp.objs.size + 1 = A1 at *
  have le : hp.objs.size ≤ A1 := by omega
  have fr : H1 A1 = none := I1.hok.fresh le
  have hq := q1 A1 fr
  rw [List.append_nil] at hq
  have kp : ∀ b o, hp.get? b = some o → ((hp.push (PySem.W.kdv_tup us)).push (PySem.HandSPX.excO C hp.objs.size)).get? b = some o := fun b o z => Heap.get?_push_of_some _ (Heap.get?_push_of_some _ z)
  have new : ((hp.push (PySem.W.kdv_tup us)).push (PySem.HandSPX.excO C hp.objs.size)).get? A1 = some (PySem.HandSPX.excO C hp.objs.size) := by
    rw [← hA]
    heap_get
  have I2 : Inv X pins σ (upd H1 A1 (exo A1 C none)) ⟨(hp.push (PySem.W.kdv_tup us)).push (PySem.HandSPX.excO C hp.objs.size), g, dr, tk, os⟩ := I1.laid (t' := tk) (a := A1) (o := exo A1 C none) kp le (exo_ok new)
  have r2 : Vals (V.ref A1 :: vs) (Value.ref A1 :: us) := .cons rfl r1
  have ln : (Value.ref A1 :: us ++ []).length = ps.length := by
    rw [List.append_nil, ← r2.length]
    exact G.len _ _ _ _ hq
  have b2 := hb _ (Value.ref A1 :: us) I2.kIn ln
  rw [List.append_nil] at b2
  have big : us.length ≤ sizeLine := by
    rw [← Paired.length r1, sizeLine_eq]
    omega
  subst hA
  refine wpAny_call (PySem.HandSPX.call_own F.excBase_ValueError (fun Y => PySem.HandSPX.refsVE_contains Y bm hbm) (I1.kIn _ _ hC) (PySem.W.looks_findIn I1.kIn iC) (fun self => PySem.W.bind_fn I1.kIn self tI) big
    (codeAny_mono (G.run _ X.stack _ _ _ _ _ _ (fun _ _ _ => False) (hr.make C us []) (I2.env0.make C us []) b2 r2 hq) fun r s' hq' => ?_))
  cases r with
  | error er => exact hx pins σ _ _ er s' I2 hq'
  | ok fl =>
    cases fl with
    | next => exact hq'.elim
    | brk => exact hq'.elim
    | cont => exact hq'.elim
    | ret u =>
      obtain ⟨v, H2, os2, bare2, un2, hok2, rv, rfl, d, fs, ea, ed, hd1, q2⟩ := hq'
      obtain ⟨h2, g2, d2, t2, os'⟩ := s'
      obtain ⟨t0, W, J, kW, ge, hoe, na⟩ := mk_end0 (d2 := d2) (t2 := t2) I1 le kp un2 hok2 os2 bare2 ea ed hd1
      refine ⟨rv, hp.objs.size + 1, _, _, ⟨W, g2, d2, t2, os'⟩, _, .ref C, some d, rfl, J, kW, ge, hoe, ⟨rfl, rfl, fun vs hv => ?_⟩, rfl, rfl, na, rfl, bare2, raises_own T.exC T.tyC, q2⟩
      cases hv
      rfl
end
section
variable {P : Program} {w : World} {K : PySem.W.Frag} {mg : Str → Option Value} {base : Heap}
theorem okN {x qual : Str} {st : Stmt} {f : Addr} {fd : FuncData} {N ps : List Str} {k : Nat} {sp : Sp} (F : Fun K x qual st f fd) (S : FnScope N ps (defScope st)) (len : ∀ vs H Q E, sp vs H Q E → vs.length = ps.length)
    (hbody : ∀ (cdv : Value) (A : Around) (outer : List Env) (s : Shared) (H : Hp) (vs : List V) (Q : VK) (E : XK), Room k (A.deeper (envOfC qual (defScope st) s.heap.objs.size f cdv)) → sp vs H Q E →
      ∃ t, PSs (cxOf (L2N.CX P w) P w K mg base N qual (defScope st) f cdv A outer s H E) (defBody st) t ∧ t { nx := fun _ H' => Q .non H', rt := Q } (L2.start N vs) H) : FnOk P w K mg base (L2N.CX P w) (k + 1) f fd ps sp := by
  obtain ⟨oc, od, kV, doc, pm, an, cdv, ct, osl, rfl, lk, hcd⟩ := F.ex
  exact fn_of lk hcd S len fun A outer s H vs Q E hr hsp => hbody cdv A outer s H vs Q E hr hsp
end
/-- around a body nothing is let out -/
theorem takesN0 {X : Cx} : L2N.Takes X (fun _ _ _ _ => False) := fun _ _ x => by
  obtain ⟨_, _, _, _, _, _, _, _, _, _, _, _, _, _, _, _, z⟩ := x
  exact z.elim
end Wm
namespace Wm
open L2 PySem PySem.W
/-- a def to which a caught error is handed within the suite that caught it -/
structure FnEN (P : Program) (w : World) (K : Frag) (mg : Str → Option Value) (base : Heap) (k : Nat) (f : Addr) (fd : FuncData) (ps : List Str)
    (sp : Addr → Value → Option Addr → Sp) : Prop where
  len : ∀ a cls d vs H Q E, sp a cls d vs H Q E → vs.length = ps.length
  run : ∀ (A : Around) (outer : List Env) (s : Shared) (H : Hp) (args : Args) (us : List Value) (vs : List V) (Q : VK) (E : XK) (a : Addr) (oe : Obj) (cls : Value) (d : Option Addr),
    L2H.RoomH k A → A.handled = some (.ref a) → L2N.Zn cls d oe → (∃ vs, oe.data = .fields vs) → L2H.PinOk outer H s (a, oe) → Env0 P w K mg base A outer s H →
    BindsTo s fd args (ps.zip us) → Vals vs us → sp a cls d vs H Q E → codeAny (model P w) A (.call (.ref f) args) (CR CX0 outer P w H s Q E) s
theorem fn_ofEN {P : Program} {w : World} {K : Frag} {mg : Str → Option Value} {base : Heap} {k : Nat} {f : Addr} {name qual : Str} {params : Arguments} {body : List Stmt} {scope : Scope}
    {dV kV doc pm cdv ct oc : Value} {an od : Option Addr} {osl : Array (Option Value)} {N ps : List Str} {sp : Addr → Value → Option Addr → Sp}
    (lk : List.lookup f K = some { cls := oc, dict := od, data := .func (fnOf name qual params body scope dV kV doc pm an cdv ct), slots := osl })
    (hcd : codeIn K cdv qual = true) (S : FnScope N ps scope)
    (len : ∀ a cls d vs H Q E, sp a cls d vs H Q E → vs.length = ps.length)
    (hbody : ∀ (A : Around) (outer : List Env) (s : Shared) (H : Hp) (vs : List V) (Q : VK) (E : XK) (a : Addr) (oe : Obj) (cls : Value) (d : Option Addr),
      L2N.Zn cls d oe → (∃ vs, oe.data = .fields vs) → L2H.RoomH k (A.deeper (PyProof.Rows.envOfC qual scope s.heap.objs.size f cdv)) → sp a cls d vs H Q E →
      ∃ t, PSs ((cxOf CX0 P w K mg base N qual scope f cdv A outer s H E).suite a [(a, oe)]) body t ∧ t { nx := fun _ H' => Q .non H', rt := Q } (L2.start N vs) H) :
    FnEN P w K mg base (k + 1) f (fnOf name qual params body scope dV kV doc pm an cdv ct) ps sp where
  len := len
  run := by
    intro A outer s H args us vs Q E a oe cls d hr hh hz hf hpin e0 hb r hsp
    have KX := Frag.In.keeps e0.mod.kin fun b o e => (e0.bs b o e).1
    have lim := Heap.NoLimit.keeps e0.mod.nolimit fun b o e => (e0.bs b o e).1
    refine codeAny_call_function hr.depth (KX f _ lk) rfl S.co S.gen rfl (codeRec_of KX hcd) (hb _ A.in1 _ _ (wpAny_newFunctionEnv_cells S.kind ?_ ?_))
    · rintro ⟨n, v⟩ hy
      rcases S.par n (List.of_mem_zip hy).1 with q | q
      · exact Or.inl q
      · exact Or.inr ⟨q, cellsFrom_some scope.names (s.heap.objs.size + 1) [] (Or.inl q)⟩
    · intro env he s1 x
      subst he
      refine ⟨Heap.NoLimit.keeps lim x.toInCall.keep, codeAny_func ?_⟩
      obtain ⟨t, ht, hq⟩ := hbody A outer s H vs Q E a oe cls d hz hf (L2H.RoomH.deeper hr _) hsp
      have I := L2H.inv_startH (CX := CX0) (E := E) S hpin e0 (len _ _ _ _ _ _ _ hsp) r x
      have hm : (A.deeper (PyProof.Rows.envOfC qual scope s.heap.objs.size f cdv)).mark (some (.ref a)) = A.deeper (PyProof.Rows.envOfC qual scope s.heap.objs.size f cdv) := mark_self hh
      have o := I.ok
      have I2 : Inv ((cxOf CX0 P w K mg base N qual scope f cdv A outer s H E).suite a [(a, oe)]) [] (L2.start N vs) H s1 :=
        ⟨⟨o.mod, o.kind, o.glob, o.blt, o.above, o.inj, o.has, o.cab, (fun h => by cases h), o.frames, o.stk, o.exf, o.bs, o.bsz, o.noex, o.exfs, o.funs, o.frf⟩,
          I.os, I.bare, I.base, I.loc, I.cell, I.free, I.freeC, I.pin, I.hok, I.len⟩
      have go := ht.run [] s1 (L2.start N vs) H { nx := fun _ H' => Q .non H', rt := Q } I2 hq
      dsimp only [Cx.suite, cxOf] at go
      rw [hm] at go
      refine wpAny_mono go (fun fl s' hs => ?_) fun e s' hs => hs.elim
      cases fl with
      | next =>
        obtain ⟨σ', H', J, q⟩ := hs
        exact ⟨.non, H', J.os, J.bare, J.base, J.hok, rfl, q⟩
      | brk =>
        obtain ⟨_, _, _, q⟩ := hs
        exact q.elim
      | cont =>
        obtain ⟨_, _, _, q⟩ := hs
        exact q.elim
      | ret u =>
        obtain ⟨v, σ', H', J, rv, q⟩ := hs
        exact ⟨v, H', J.os, J.bare, J.base, J.hok, rv, q⟩
theorem FunEN_ok {P : Program} {w : World} {K : Frag} {mg : Str → Option Value} {base : Heap} {x qual : Str} {st : Stmt} {f : Addr} {fd : FuncData} {N ps : List Str} {k : Nat} {sp : Addr → Value → Option Addr → Sp}
    (F : Fun K x qual st f fd) (S : FnScope N ps (defScope st))
    (len : ∀ a cls d vs H Q E, sp a cls d vs H Q E → vs.length = ps.length)
    (hbody : ∀ (cdv : Value) (A : Around) (outer : List Env) (s : Shared) (H : Hp) (vs : List V) (Q : VK) (E : XK) (a : Addr) (oe : Obj) (cls : Value) (d : Option Addr),
      L2N.Zn cls d oe → (∃ vs, oe.data = .fields vs) → L2H.RoomH k (A.deeper (PyProof.Rows.envOfC qual (defScope st) s.heap.objs.size f cdv)) → sp a cls d vs H Q E →
      ∃ t, PSs ((cxOf CX0 P w K mg base N qual (defScope st) f cdv A outer s H E).suite a [(a, oe)]) (defBody st) t ∧ t { nx := fun _ H' => Q .non H', rt := Q } (L2.start N vs) H) :
    FnEN P w K mg base (k + 1) f fd ps sp := by
  obtain ⟨oc, od, kV, doc, pm, an, cdv, ct, osl, rfl, lk, hcd⟩ := F.ex
  exact fn_ofEN lk hcd S len fun A outer s H vs Q E a oe cls d hz hf hr hsp => hbody cdv A outer s H vs Q E a oe cls d hz hf hr hsp
theorem pe_callEN {X : Cx} {k : Nat} {f : Addr} {fd : FuncData} {ps : List Str} {sp : Addr → Value → Option Addr → Sp} {a : Addr} {oe : Obj} {cls : Value} {d : Option Addr} {pn : List (Addr × Obj)}
    {x : Str} {q pos : Pos} {e : Expr} {es : List Expr} {t : TA}
    (F : FnEN X.prog X.w X.K X.mg X.base k f fd ps sp) (hr : L2H.RoomH k X.A) (hz : L2N.Zn cls d oe) (hf : ∃ vs, oe.data = .fields vs) (hg : Gl X x) (hm : X.mg x = some (.ref f))
    (hk : keepIn X.K (.ref f) = true) (hb : L2.Binds X.K fd ps []) (ha : PA (X.suite a ((a, oe) :: pn)) (e :: es) t)
    (hdb : (x == Str.ofString "__debug__") = false := by rfl) (he : starEach (e :: es) X.env = (false, eval e X.env) :: starEach es X.env := by rfl)
    (hpl : ((backTo pos (starEach es X.env)).any fun x => x.1) = false := by rfl) :
    PE (X.suite a ((a, oe) :: pn)) (.Call (.Name x q) (e :: es) [] pos) (tCallE (sp a cls d) t) where
  run := by
    intro pins s σ H Q I h
    refine wpAny_Call_Name_kw (ld_glob I hg hm (callWith_K I.ok.mod.kin hk (thn (ha.run pos pins s σ H _ I h) ?_) he hpl) hdb)
    rintro us s1 ⟨vs, H1, I1, r, h1⟩
    refine ⟨I1.kIn, ?_⟩
    have P1 := I1.pin (a, oe) (List.mem_append_left _ (List.mem_cons_self ..))
    have hp : L2H.PinOk X.stack H1 s1 (a, oe) := ⟨P1.1, P1.2.1, fun hx => (List.mem_cons.mp (I1.stkSub a hx)).elim P1.2.2.1 P1.2.2.2.1, P1.2.2.2.2⟩
    have hl : (us ++ []).length = ps.length := by rw [List.append_nil, ← r.length]; exact F.len _ _ _ _ _ _ _ h1
    have b := hb s1 us I1.kIn hl
    rw [List.append_nil] at b
    have hr2 : L2H.RoomH k (X.suite a ((a, oe) :: pn)).A := ⟨hr.dp, hr.un⟩
    refine wpAny_call (codeAny_mono (F.run (X.suite a ((a, oe) :: pn)).A X.stack s1 H1 ⟨us, []⟩ us vs Q _ a oe cls d hr2 rfl hz hf hp I1.env0 b r h1) fun r s' hq => ?_)
    cases r with
    | error e => exact hq.elim
    | ok fl =>
      cases fl with
      | next => exact hq.elim
      | brk => exact hq.elim
      | cont => exact hq.elim
      | ret u => exact I1.after hq
end Wm
/-! names for readings that the library leaves unnamed -/
namespace Wm
open PySem L2
abbrev rAddI : R2 := rI0 fun i j => .int (i + j)
abbrev rSubI : R2 := rI0 fun i j => .int (i - j)
abbrev rMulI : R2 := rI CMul fun i j => .int (i * j)
abbrev rModI : R2 := rI (fun _ j => 0 < j) fun i j => .int (i % j)
abbrev rDivI : R2 := rI CDiv fun i j => .int (i / j)
abbrev rAddS : R2 := fun x y H Q => ∃ i j, x = .str i ∧ y = .str j ∧ i.length + j.length ≤ sizeLine ∧ Q (.str (i ++ j)) H
abbrev rLtI : R2 := rI0 fun i j => .bl (decide (i < j))
abbrev rLeI : R2 := rI0 fun i j => .bl (decide (i ≤ j))
abbrev rGtI : R2 := rI0 fun i j => .bl (decide (j < i))
abbrev rGeI : R2 := rI0 fun i j => .bl (decide (j ≤ i))
abbrev rInSg : R2 := fun x y H Q => ∃ (c : Nat) (z : Str), x = .str ⟨#[c]⟩ ∧ y = .str z ∧ Q (.bl (decide (c ∈ z.cps.toList))) H
abbrev rNiSg : R2 := fun x y H Q => ∃ (c : Nat) (z : Str), x = .str ⟨#[c]⟩ ∧ y = .str z ∧ Q (.bl (!decide (c ∈ z.cps.toList))) H
abbrev rInt1 : List V → Hp → VK → Prop := fun xs H Q => (∃ i, xs = [.int i] ∧ Q (.int i) H) ∨ ∃ k, xs = [.bl k] ∧ Q (.int (if k then 1 else 0)) H
abbrev rLenS : List V → Hp → VK → Prop := fun xs H Q => ∃ z, xs = [.str z] ∧ z.length ≤ sizeLine ∧ Q (.int z.length) H
abbrev rLenL (K : PySem.W.Frag) : List V → Hp → VK → Prop := fun xs H Q => ∃ p ys, xs = [.ref p] ∧ (SqL K H p ys ∨ SqT K H p ys) ∧ Q (.int ys.length) H
abbrev rStrI : List V → Hp → VK → Prop := fun xs H Q => ∃ i, xs = [.int i] ∧ i.natAbs.log2 < 1920 ∧ Q (.str (toString i)) H
abbrev rLstOf (K : PySem.W.Frag) : List V → Hp → VK → Prop := fun xs H Q => ∃ p ys, xs = [.ref p] ∧ (SqL K H p ys ∨ SqT K H p ys) ∧ ∀ l, H l = none → Q (.ref l) (upd H l (.lst ys))
end Wm
namespace Wm
open PySem L2 StX
/-! ### what is refused -/
inductive Rf where
  | cnt (w : Str) (n : Int)
  | nm (z : Str)
  | tw (z : Str)
  | nov (z : Str)
  | loose (z : Str)
  | apart (i : Nat)
def ixOf : Rf → Nat
  | .cnt _ _ => 0
  | .nm _ => 1
  | .tw _ => 2
  | .nov _ => 3
  | .loose _ => 4
  | .apart _ => 5
def efC (w n : V) : List (Str × V) := [("count", n), ("what", w), ("kind", .str "badcount")]
def fsOf : Rf → List (Str × V)
  | .cnt w n => efC (.str w) (.int n)
  | .nm z => ef1 "name" "noname" (.str z)
  | .tw z => ef1 "name" "twice" (.str z)
  | .nov z => ef1 "name" "novariable" (.str z)
  | .loose z => ef1 "name" "loose" (.str z)
  | .apart i => ef1 "place" "apart" (.int (i : Nat))
def Rfs (C : Nat → Addr) (o : Option Rf) (H : Hp) (ok : Hp → Prop) (E : XK) : Prop := match o with
  | none => ∀ H', Same H H' → ok H'
  | some r => ∀ d H', H d = none → Same H H' → H' d = some (.xd (fsOf r)) → E (.ref (C (ixOf r))) (some d) H'
theorem Rfs.same {C : Nat → Addr} {o : Option Rf} {H H1 : Hp} {ok : Hp → Prop} {E : XK} (S : Same H H1) (h : Rfs C o H ok E) : Rfs C o H1 ok E := by
  cases o with
  | none => exact fun H' s => h H' (S.trans s)
  | some r => exact fun d H' n s e => h d H' (S.free n) (S.trans s) e
theorem Rfs.map {C : Nat → Addr} {o : Option Rf} {H : Hp} {ok ok' : Hp → Prop} {E : XK} (h : Rfs C o H ok E) (k : o = none → ∀ H', Same H H' → ok H' → ok' H') : Rfs C o H ok' E := by
  cases o with
  | none => exact fun H' s => k rfl H' s (h H' s)
  | some r => exact h
theorem Rfs.step {C : Nat → Addr} {a b : Option Rf} {H : Hp} {ok : Hp → Prop} {E : XK} (h : Rfs C (a.or b) H ok E) : Rfs C a H (fun H' => Rfs C b H' ok E) E := by
  cases a with
  | none => exact fun H' s => Rfs.same s h
  | some r => exact h
/-- the first place at which something is to be said -/
def goF {α β : Type} (p : List α → α → Option β) : List α → List α → Option β
  | _, [] => none
  | pre, x :: r => match p pre x with
    | some b => some b
    | none => goF p (pre ++ [x]) r
theorem goF_take {α β : Type} {p : List α → α → Option β} {xs : List α} : ∀ (i : Nat), (∀ j x, j < i → xs[j]? = some x → p (xs.take j) x = none) → goF p [] xs = goF p (xs.take i) (xs.drop i)
  | 0, _ => by rw [List.take_zero, List.drop_zero]
  | i + 1, h => by
    rw [goF_take i fun j x hj e => h j x (by omega) e]
    cases e : xs[i]? with
    | none =>
      have l := List.getElem?_eq_none_iff.mp e
      rw [List.drop_eq_nil_of_le l, List.drop_eq_nil_of_le (by omega), List.take_of_length_le l, List.take_of_length_le (by omega)]
    | some x =>
      have l := (List.getElem?_eq_some_iff.mp e).1
      have ex := (List.getElem?_eq_some_iff.mp e).2
      rw [List.drop_eq_getElem_cons l, ex]
      have q := h i x (by omega) e
      rw [goF, q, List.take_add_one, e]
      rfl
theorem goF_hit {α β : Type} {p : List α → α → Option β} {xs : List α} {i : Nat} {x : α} {b : β} (h : ∀ j x, j < i → xs[j]? = some x → p (xs.take j) x = none) (e : xs[i]? = some x) (hb : p (xs.take i) x = some b) : goF p [] xs = some b := by
  have l := (List.getElem?_eq_some_iff.mp e).1
  have ex := (List.getElem?_eq_some_iff.mp e).2
  rw [goF_take i h, List.drop_eq_getElem_cons l, ex, goF, hb]
theorem goF_none {α β : Type} {p : List α → α → Option β} {xs : List α} (h : ∀ j x, j < xs.length → xs[j]? = some x → p (xs.take j) x = none) : goF p [] xs = none := by
  rw [goF_take xs.length h, List.drop_length, goF]
theorem goF_more {α β : Type} {p : List α → α → Option β} {xs : List α} {i : Nat} {x : α} (h : ∀ j x, j < i → xs[j]? = some x → p (xs.take j) x = none) (e : xs[i]? = some x) (hn : p (xs.take i) x = none) : ∀ j x, j < i + 1 → xs[j]? = some x → p (xs.take j) x = none := fun j y hj ey => by
  by_cases q : j = i
  · subst q
    rw [e] at ey
    cases ey
    exact hn
  · exact h j y (by omega) ey
def cntO (w : Str) (c lo hi : Int) : Option Rf := if c < lo ∨ hi < c then some (.cnt w c) else none
def nmP (_ : List Str) (z : Str) : Option Rf := if isNm z = true then none else some (.nm z)
def twP (pre : List Str) (z : Str) : Option Rf := if z ∈ pre then some (.tw z) else none
def novP (ns : List Str) (_ : List Str) (z : Str) : Option Rf := if z ∈ ns then none else some (.nov z)
def loP (es : List Str) (_ : List Str) (z : Str) : Option Rf := if z ∈ es then none else some (.loose z)
def apP (pre : List Tri) (t : Tri) : Option Rf := if 0 < pre.length ∧ t.1 ∉ endsL pre ∧ t.2.2 ∉ endsL pre then some (.apart pre.length) else none
def patDue (nm : Str) (vars : List Var) (cs gs : List Tri) (hs : List Str) : Option Rf :=
  (cntO "variables" (vars.length : Int) 1 4).or ((cntO "conditions" (cs.length : Int) 1 3).or ((goF nmP [] (textsL nm vars (cs ++ gs))).or ((goF twP [] (vars.map (·.1))).or ((goF (novP (vars.map (·.1))) [] (endsL (cs ++ gs) ++ hs)).or ((goF (loP (endsL cs)) [] (vars.map (·.1))).or (goF apP [] cs))))))
/-! ### the errors' own inits -/
def spEC (C : Addr) : Sp := fun vs H Q _ => ∃ (a : Addr) (u v : V), vs = [.ref a, u, v] ∧ H a = some (exo a C none) ∧ ∀ dx H', H dx = none → dx ≠ a → (∀ b o, b ≠ a → H b = some o → H' b = some o) → H' a = some (exo a C (some dx)) → H' dx = some (exd dx (efC u v)) → Q .non H'
theorem mkC {C : Addr} {u v : V} {H : Hp} {E : XK} (k : ∀ d H', H d = none → Same H H' → H' d = some (.xd (efC u v)) → E (.ref C) (some d) H') :
    [u, v].length ≤ 1000 ∧ ∀ a, H a = none → spEC C (.ref a :: ([u, v] ++ [])) (upd H a (exo a C none)) (fun w H2 => w = .non ∧ ∃ (d : Addr) (fs : List (Str × V)), H2 a = some (exo a C (some d)) ∧ H2 d = some (exd d fs) ∧ H d = none ∧ E (.ref C) (some d) (upd (del H2 a) d (.xd fs))) (fun _ _ _ => False) := by
  refine ⟨by show 2 ≤ 1000; decide, fun a na => ⟨a, u, v, rfl, upd_same, fun dx H' n ne kp ha hd => ⟨rfl, dx, _, ha, hd, ?_, ?_⟩⟩⟩
  · rw [upd_ne ne] at n
    exact n
  · rw [upd_ne ne] at n
    refine k dx _ n (fun b o e => ?_) upd_same
    have nb : b ≠ a := ne_of_none e na
    rw [upd_ne (ne_of_none e n), del_ne nb]
    exact kp b o nb (by rw [upd_ne nb]; exact e)
def spRC2 (C : Nat → Addr) : Sp := fun vs H Q E => ∃ (z : Str) (c lo hi : Int), vs = [.str z, .int c, .int lo, .int hi] ∧ Rfs C (cntO z c lo hi) H (fun H' => Q .non H') E
def spRN2 (K : PySem.W.Frag) (C : Nat → Addr) : Sp := fun vs H Q E => ∃ (l : Addr) (zs : List Str), vs = [.ref l] ∧ SqL K H l (zs.map V.str) ∧ (∀ z ∈ zs, z.length ≤ 1000) ∧ Rfs C (goF nmP [] zs) H (fun H' => Q .non H') E
def spRT2 (K : PySem.W.Frag) (C : Nat → Addr) : Sp := fun vs H Q E => ∃ (l : Addr) (zs : List Str), vs = [.ref l] ∧ SqL K H l (zs.map V.str) ∧ zs.length ≤ 1000 ∧ Rfs C (goF twP [] zs) H (fun H' => Q .non H') E
def spRV2 (K : PySem.W.Frag) (C : Nat → Addr) : Sp := fun vs H Q E => ∃ (a b : Addr) (ns zs : List Str), vs = [.ref a, .ref b] ∧ SqL K H a (ns.map V.str) ∧ SqL K H b (zs.map V.str) ∧ Rfs C (goF (novP ns) [] zs) H (fun H' => Q .non H') E
def spRL2 (K : PySem.W.Frag) (C : Nat → Addr) : Sp := fun vs H Q E => ∃ (a b : Addr) (ns : List Str) (ps : List Addr) (ts : List Tri), vs = [.ref a, .ref b] ∧ SqL K H a (ns.map V.str) ∧ SqT K H b (ps.map V.ref) ∧ RowsAt K H ps (ts.map triV) ∧ ps.length ≤ 1000 ∧ Rfs C (goF (loP (endsL ts)) [] ns) H (fun H' => Q .non H') E
def spRA2 (K : PySem.W.Frag) (C : Nat → Addr) : Sp := fun vs H Q E => ∃ (b : Addr) (ps : List Addr) (ts : List Tri), vs = [.ref b] ∧ SqT K H b (ps.map V.ref) ∧ RowsAt K H ps (ts.map triV) ∧ ps.length ≤ 1000 ∧ Rfs C (goF apP [] ts) H (fun H' => Q .non H') E
section
variable {P : Program} {w : World} {K : PySem.W.Frag} {mg : Str → Option Value} {base : Heap} {C : Nat → Addr}
theorem scT0 : FnScope ["self", "name"] ["self", "name"] (defScope sT0) := ⟨rfl, rfl, rfl, by decide +kernel, rfl, by decide +kernel, by decide +kernel⟩
theorem ok_twice {f C f0 W : Addr} {fd fd0 : FuncData} (F : Fun K "__init__" "Twice.__init__" sT0 f fd) (T : ErrT K mg "Twice" "name" C f) (TW : WhoT K mg W f0 fd0) (G0 : FnOk P w K mg base CX0 1 f0 fd0 ["self", "kind"] (spWI K)) :
    FnOk P w K mg base CX0 2 f fd ["self", "name"] (spE1 C "name" "twice") := by
  refine F.ok scT0 (fun vs H Q E h => ?_) (fun cdv A outer s H vs Q E hr h => ?_)
  · obtain ⟨a, v, rfl, _⟩ := h
    rfl
  · obtain ⟨a, v, rfl, ha, k⟩ := h
    refine ⟨_, pss_cons (ps_expr (pe_clsFn rfl TW.g TW.r TW.m TW.k G0 hr TW.b .nil pass0 (pa_cons (pv 0) (pa_cons pe_str pa_nil)))) (pss_one (ps_ost (pv 0) (pv 1))), ?_⟩
    refine ⟨_, rfl, a, C, _, rfl, T.o, T.nk, ha, fun dx n ne => ?_⟩
    refine ⟨_, rfl, _, rfl, a, C, rfl, T.o, T.nf, .inr ⟨dx, _, upd_same, Eq.trans (upd_ne ne) upd_same, by decide, ?_⟩⟩
    refine k dx _ n ne (fun b o nb e => ?_) ?_ upd_same
    · have nd : b ≠ dx := ne_of_none e n
      rw [upd_ne nd, upd_ne nb, upd_ne nd]
      exact e
    · rw [upd_ne ne.symm, upd_same]
theorem scNV : FnScope ["self", "name"] ["self", "name"] (defScope sNV) := ⟨rfl, rfl, rfl, by decide +kernel, rfl, by decide +kernel, by decide +kernel⟩
theorem ok_nov {f C f0 W : Addr} {fd fd0 : FuncData} (F : Fun K "__init__" "NoVariable.__init__" sNV f fd) (T : ErrT K mg "NoVariable" "name" C f) (TW : WhoT K mg W f0 fd0) (G0 : FnOk P w K mg base CX0 1 f0 fd0 ["self", "kind"] (spWI K)) :
    FnOk P w K mg base CX0 2 f fd ["self", "name"] (spE1 C "name" "novariable") := by
  refine F.ok scNV (fun vs H Q E h => ?_) (fun cdv A outer s H vs Q E hr h => ?_)
  · obtain ⟨a, v, rfl, _⟩ := h
    rfl
  · obtain ⟨a, v, rfl, ha, k⟩ := h
    refine ⟨_, pss_cons (ps_expr (pe_clsFn rfl TW.g TW.r TW.m TW.k G0 hr TW.b .nil pass0 (pa_cons (pv 0) (pa_cons pe_str pa_nil)))) (pss_one (ps_ost (pv 0) (pv 1))), ?_⟩
    refine ⟨_, rfl, a, C, _, rfl, T.o, T.nk, ha, fun dx n ne => ?_⟩
    refine ⟨_, rfl, _, rfl, a, C, rfl, T.o, T.nf, .inr ⟨dx, _, upd_same, Eq.trans (upd_ne ne) upd_same, by decide, ?_⟩⟩
    refine k dx _ n ne (fun b o nb e => ?_) ?_ upd_same
    · have nd : b ≠ dx := ne_of_none e n
      rw [upd_ne nd, upd_ne nb, upd_ne nd]
      exact e
    · rw [upd_ne ne.symm, upd_same]
theorem scLo : FnScope ["self", "name"] ["self", "name"] (defScope sLo) := ⟨rfl, rfl, rfl, by decide +kernel, rfl, by decide +kernel, by decide +kernel⟩
theorem ok_loose {f C f0 W : Addr} {fd fd0 : FuncData} (F : Fun K "__init__" "Loose.__init__" sLo f fd) (T : ErrT K mg "Loose" "name" C f) (TW : WhoT K mg W f0 fd0) (G0 : FnOk P w K mg base CX0 1 f0 fd0 ["self", "kind"] (spWI K)) :
    FnOk P w K mg base CX0 2 f fd ["self", "name"] (spE1 C "name" "loose") := by
  refine F.ok scLo (fun vs H Q E h => ?_) (fun cdv A outer s H vs Q E hr h => ?_)
  · obtain ⟨a, v, rfl, _⟩ := h
    rfl
  · obtain ⟨a, v, rfl, ha, k⟩ := h
    refine ⟨_, pss_cons (ps_expr (pe_clsFn rfl TW.g TW.r TW.m TW.k G0 hr TW.b .nil pass0 (pa_cons (pv 0) (pa_cons pe_str pa_nil)))) (pss_one (ps_ost (pv 0) (pv 1))), ?_⟩
    refine ⟨_, rfl, a, C, _, rfl, T.o, T.nk, ha, fun dx n ne => ?_⟩
    refine ⟨_, rfl, _, rfl, a, C, rfl, T.o, T.nf, .inr ⟨dx, _, upd_same, Eq.trans (upd_ne ne) upd_same, by decide, ?_⟩⟩
    refine k dx _ n ne (fun b o nb e => ?_) ?_ upd_same
    · have nd : b ≠ dx := ne_of_none e n
      rw [upd_ne nd, upd_ne nb, upd_ne nd]
      exact e
    · rw [upd_ne ne.symm, upd_same]
theorem scAp : FnScope ["self", "place"] ["self", "place"] (defScope sAp) := ⟨rfl, rfl, rfl, by decide +kernel, rfl, by decide +kernel, by decide +kernel⟩
theorem ok_apart {f C f0 W : Addr} {fd fd0 : FuncData} (F : Fun K "__init__" "Apart.__init__" sAp f fd) (T : ErrT K mg "Apart" "place" C f) (TW : WhoT K mg W f0 fd0) (G0 : FnOk P w K mg base CX0 1 f0 fd0 ["self", "kind"] (spWI K)) :
    FnOk P w K mg base CX0 2 f fd ["self", "place"] (spE1 C "place" "apart") := by
  refine F.ok scAp (fun vs H Q E h => ?_) (fun cdv A outer s H vs Q E hr h => ?_)
  · obtain ⟨a, v, rfl, _⟩ := h
    rfl
  · obtain ⟨a, v, rfl, ha, k⟩ := h
    refine ⟨_, pss_cons (ps_expr (pe_clsFn rfl TW.g TW.r TW.m TW.k G0 hr TW.b .nil pass0 (pa_cons (pv 0) (pa_cons pe_str pa_nil)))) (pss_one (ps_ost (pv 0) (pv 1))), ?_⟩
    refine ⟨_, rfl, a, C, _, rfl, T.o, T.nk, ha, fun dx n ne => ?_⟩
    refine ⟨_, rfl, _, rfl, a, C, rfl, T.o, T.nf, .inr ⟨dx, _, upd_same, Eq.trans (upd_ne ne) upd_same, by decide, ?_⟩⟩
    refine k dx _ n ne (fun b o nb e => ?_) ?_ upd_same
    · have nd : b ≠ dx := ne_of_none e n
      rw [upd_ne nd, upd_ne nb, upd_ne nd]
      exact e
    · rw [upd_ne ne.symm, upd_same]

theorem scBC : FnScope ["self", "what", "count"] ["self", "what", "count"] (defScope sBC) := ⟨rfl, rfl, rfl, by decide +kernel, rfl, by decide +kernel, by decide +kernel⟩
theorem ok_badcount {f C f0 W : Addr} {fd fd0 : FuncData} (F : Fun K "__init__" "BadCount.__init__" sBC f fd) (T : ErrT K mg "BadCount" "what" C f) (n2 : PySem.W.findIn K (.ref C) "count" = some none) (TW : WhoT K mg W f0 fd0) (G0 : FnOk P w K mg base CX0 1 f0 fd0 ["self", "kind"] (spWI K)) :
    FnOk P w K mg base CX0 2 f fd ["self", "what", "count"] (spEC C) := by
  refine F.ok scBC (fun vs H Q E h => ?_) (fun cdv A outer s H vs Q E hr h => ?_)
  · obtain ⟨a, u, v, rfl, _⟩ := h
    rfl
  · obtain ⟨a, u, v, rfl, ha, k⟩ := h
    refine ⟨_, pss_cons (ps_expr (pe_clsFn rfl TW.g TW.r TW.m TW.k G0 hr TW.b .nil pass0 (pa_cons (pv 0) (pa_cons pe_str pa_nil)))) (pss_cons (ps_ost (pv 0) (pv 1)) (pss_one (ps_ost (pv 0) (pv 2)))), ?_⟩
    refine ⟨_, rfl, a, C, _, rfl, T.o, T.nk, ha, fun dx n ne => ?_⟩
    refine ⟨_, rfl, _, rfl, a, C, rfl, T.o, T.nf, .inr ⟨dx, _, upd_same, Eq.trans (upd_ne ne) upd_same, by decide, ?_⟩⟩
    refine ⟨_, rfl, _, rfl, a, C, rfl, T.o, n2, .inr ⟨dx, _, Eq.trans (upd_ne ne.symm) upd_same, upd_same, by show 2 ≤ 900; decide, ?_⟩⟩
    refine k dx _ n ne (fun b o nb e => ?_) ?_ upd_same
    · have nd : b ≠ dx := ne_of_none e n
      rw [upd_ne nd, upd_ne nd, upd_ne nb, upd_ne nd]
      exact e
    · rw [upd_ne ne.symm, upd_ne ne.symm, upd_same]
theorem ok_rc2 {f fI : Addr} {fd fdI : FuncData} (F : Fun K "refuse_count" "refuse_count" sRC f fd) (TE : ErrT K mg "BadCount" "what" (C 0) fI) (bI : Binds K fdI ["self", "what", "count"] []) (GI : FnOk P w K mg base CX0 2 fI fdI ["self", "what", "count"] (spEC (C 0))) : FnOk P w K mg base (L2N.CX P w) 4 f fd ["what", "count", "least", "most"] (spRC2 C) := by
  refine okN F scRC (fun vs H Q E h => ?_) (fun cdv A outer s H vs Q E hr h => ?_)
  · obtain ⟨z, c, lo, hi, rfl, _⟩ := h
    rfl
  · obtain ⟨z, c, lo, hi, rfl, k⟩ := h
    have hr3 : Room 3 _ := hr
    refine ⟨_, (pss_one (ps_if (PW.pt (pw_or (pt_cmpR op_lt (pv 1) (pv 2) (nomark _)) (pw_or1 (pt_cmpR op_gt (pv 1) (pv 3) (nomark _))))) (pss_one (L2N.ps_raise rfl (L2N.takes_of rfl rfl rfl rfl) (pmkN_oex TE.o TE.iC TE.tI GI hr3 bI pass0 rfl TE.g (pa_cons (pv 0) (pa_cons (pv 1) pa_nil))))) pss_nil)), ?_⟩
    have bad : (c < lo ∨ hi < c) → ∀ d H', H d = none → Same H H' → H' d = some (.xd (efC (.str z) (.int c))) → E (.ref (C 0)) (some d) H' := fun b => by
      unfold cntO at k
      rw [if_pos b] at k
      exact k
    refine ⟨_, rfl, _, rfl, _, _, rfl, rfl, _, rfl, ?_⟩
    refine ite2 (fun h => ?_) (fun h => ?_)
    · exact ⟨_, rfl, _, rfl, mkC fun d H' n s e => bad (.inl (of_decide_eq_true h)) d H' n s e⟩
    refine ⟨_, rfl, _, rfl, _, _, rfl, rfl, _, rfl, ?_⟩
    refine ite2 (fun h2 => ?_) (fun h2 => ?_)
    · exact ⟨_, rfl, _, rfl, mkC fun d H' n s e => bad (.inr (of_decide_eq_true h2)) d H' n s e⟩
    · unfold cntO at k
      rw [if_neg (fun q => q.elim (fun q => h (decide_eq_true q)) (fun q => h2 (decide_eq_true q)))] at k
      exact k H (Same.refl H)
theorem ok_rn2 {f fN fI : Addr} {fd fdN fdI : FuncData} (F : Fun K "refuse_no_name" "refuse_no_name" sRN f fd) (D : Dn K mg "is_name" sName ["text"] fN fdN) (GN : FnOk P w K mg base CX0 1 fN fdN ["text"] spName) (TE : ErrT K mg "NoName" "name" (C 1) fI) (bI : Binds K fdI ["self", "name"] [])
    (GI : FnOk P w K mg base CX0 2 fI fdI ["self", "name"] (spE1 (C 1) "name" "noname")) : FnOk P w K mg base (L2N.CX P w) 4 f fd ["texts"] (spRN2 K C) := by
  refine okN F scRN (fun vs H Q E h => ?_) (fun cdv A outer s H vs Q E hr h => ?_)
  · obtain ⟨l, zs, rfl, _⟩ := h
    rfl
  · obtain ⟨l, zs, rfl, hl, hz, k⟩ := h
    have hr1 : Room 1 _ := hr.mono (by decide)
    have hr3 : Room 3 _ := hr
    refine ⟨_, (pss_one (ps_for (passes_of rfl) rfl (pi_list (pv 0)) (pg_name (i := 1) scRN.nd rfl (Or.inl rfl)) (pss_one (ps_if (pt_not (pt_val (pe_call GN hr1 rfl D.g D.F.kp D.b .nil pass0 (pa_cons (pv 1) pa_nil)))) (pss_one (L2N.ps_raise rfl (L2N.takes_of rfl rfl rfl rfl) (pmkN_oex TE.o TE.iC TE.tI GI hr3 bI pass0 rfl TE.g (pa_cons (pv 1) pa_nil)))) pss_nil)))), ?_⟩
    refine ⟨_, rfl, l, rfl, ⟨_, hl⟩, for_list (K := K) (a := l) (xs := zs.map V.str) (fun i σ H' => (∃ v, σ = [some (.ref l), v]) ∧ Same H H' ∧ ∀ j y, j < i → zs[j]? = some y → nmP (zs.take j) y = none) ⟨⟨none, rfl⟩, Same.refl H, fun j y h => absurd h (Nat.not_lt_zero j)⟩
      (fun i σ H' _ h => h.2.1.seq hl) ?_ ?_⟩
    · rintro i y σ H' hi ⟨⟨v, rfl⟩, hS, hno⟩
      obtain ⟨z, hzi, rfl⟩ := map_str_get hi
      refine ⟨_, rfl, z, rfl, hz z (List.mem_of_getElem? hzi), fun H2 hS2 => ⟨_, rfl, ?_⟩⟩
      cases e : isNm z with
      | true => exact iteF ⟨⟨_, rfl⟩, hS.trans hS2, goF_more hno hzi (by unfold nmP; rw [if_pos e])⟩
      | false =>
        refine iteT ⟨_, rfl, mk1 fun d H3 hd hS3 hx => ?_⟩
        rw [goF_hit hno hzi (by unfold nmP; rw [if_neg (by rw [e]; decide)])] at k
        exact k d H3 (hS.free (hS2.free hd)) (hS.trans (hS2.trans hS3)) hx
    · rintro σ H' ⟨_, hS, hno⟩
      rw [List.length_map] at hno
      rw [goF_none hno] at k
      exact k H' hS
def spFT2 (K : PySem.W.Frag) : Sp := fun vs H Q _ => ∃ (l : Addr) (zs : List Str), vs = [.ref l] ∧ SqL K H l (zs.map V.str) ∧ zs.length ≤ 1000 ∧ ((∀ j y, j < zs.length → zs[j]? = some y → twP (zs.take j) y = none) → ∀ H', Same H H' → Q .non H') ∧ ∀ i z, zs[i]? = some z → z ∈ zs.take i → (∀ j y, j < i → zs[j]? = some y → twP (zs.take j) y = none) → ∀ H', Same H H' → Q (.int (i : Nat)) H'
theorem ok_ft2 {f : Addr} {fd : FuncData} (F : Fun K "first_twice" "first_twice" sFT f fd) (T : TxB mg) : FnOk P w K mg base CX0 1 f fd ["row"] (spFT2 K) := by
  refine F.ok scFT (fun vs H Q E h => ?_) (fun cdv A outer s H vs Q E hr h => ?_)
  · obtain ⟨l, xs, rfl, _⟩ := h
    rfl
  · obtain ⟨l, zs, rfl, hl, hn, kn, kt⟩ := h
    have hf : (zs.map V.str).all flatV = true := flat_strs _
    refine ⟨_, (pss_cons (ps_for PassesOwn.never rfl (pi_enum rfl T.enumerate (pa_cons (pv 0) pa_nil)) (pg_tup rfl (pgs_cons (pg_name (i := 1) scFT.nd rfl (Or.inl rfl)) (pgs_cons (pg_name (i := 2) scFT.nd rfl (Or.inl rfl)) pgs_nil))) (pss_one (ps_if (pt_cmpR op_in_seq (pv 2) (pe_slice sl_list (pv 0) po_none (po_some (pv 1))) (by rfl)) (pss_one (ps_ret (pv 1))) pss_nil)))
      (pss_one (ps_ret pe_non))), ?_⟩
    refine ⟨_, rfl, l, _, rfl, hl, for_it walk_enum (fun i σ H' => (∃ u v, σ = [some (.ref l), u, v]) ∧ Same H H' ∧ ∀ j y, j < i → zs[j]? = some y → twP (zs.take j) y = none) ⟨⟨none, none, rfl⟩, Same.refl H, fun j y h => absurd h (Nat.not_lt_zero j)⟩ (fun i σ H' _ p => p.2.1.seq hl) ?_ ?_⟩
    · rintro i x σ H1 H2 hi ⟨⟨u, v, rfl⟩, hS, hno⟩ ⟨t, y, z, rfl, ht, rfl, e1, e2⟩
      cases e1
      obtain ⟨z, hz, rfl⟩ := map_str_get e2
      refine ⟨t, _, rfl, SqT.of upd_same, rfl, _, _, rfl, _, _, rfl, rfl, ?_⟩
      have S2 := hS.trans (Same.upd (o := .tup [.int (i : Nat), .str z]) ht)
      refine ⟨_, rfl, _, rfl, _, rfl, _, rfl, l, _, rfl, S2.seq hl, fun p hp => ?_⟩
      refine ⟨p, _, rfl, .inl (SqL.of upd_same), rfl, ?_, _, rfl, ?_⟩
      · show (cutV (zs.map V.str) none (some (i : Int))).all flatV = true
        rw [cut_take]
        exact all_take hf i
      · show if inV (.str z) (cutV (zs.map V.str) none (some (i : Int))) = true then _ else _
        rw [cut_take, ← List.map_take, inV_strs]
        by_cases q : z ∈ zs.take i
        · rw [decide_eq_true q]
          exact iteT ⟨_, rfl, kt i z hz q hno _ (S2.trans (Same.upd hp))⟩
        · rw [decide_eq_false q]
          exact iteF ⟨⟨_, _, rfl⟩, S2.trans (Same.upd hp), goF_more hno hz (by unfold twP; rw [if_neg q])⟩
    · rintro σ H' ⟨_, hS, hno⟩
      rw [List.length_map] at hno
      exact kn hno H' hS
theorem ok_rt2 {f fF fI : Addr} {fd fdF fdI : FuncData} (F : Fun K "refuse_twice" "refuse_twice" sRT f fd) (T : TxB mg) (D : Dn K mg "first_twice" sFT ["row"] fF fdF) (TE : ErrT K mg "Twice" "name" (C 2) fI) (bI : Binds K fdI ["self", "name"] [])
    (GI : FnOk P w K mg base CX0 2 fI fdI ["self", "name"] (spE1 (C 2) "name" "twice")) : FnOk P w K mg base (L2N.CX P w) 4 f fd ["names"] (spRT2 K C) := by
  have G : FnOk P w K mg base CX0 1 fF fdF ["row"] (spFT2 K) := ok_ft2 D.F T
  refine okN F scRT (fun vs H Q E h => ?_) (fun cdv A outer s H vs Q E hr h => ?_)
  · obtain ⟨l, xs, rfl, _⟩ := h
    rfl
  · obtain ⟨l, zs, rfl, hl, hn, k⟩ := h
    have hr1 : Room 1 _ := hr.mono (by decide)
    have hr3 : Room 3 _ := hr
    refine ⟨_, (pss_cons (ps_set (i := 1) scRT.nd rfl (Or.inl rfl) (pe_call G hr1 rfl D.g D.F.kp D.b .nil pass0 (pa_cons (pv 0) pa_nil)))
      (pss_one (ps_if (pt_cmp (pc_notN (pv 1))) (pss_one (L2N.ps_raise rfl (L2N.takes_of rfl rfl rfl rfl) (pmkN_oex TE.o TE.iC TE.tI GI hr3 bI pass0 rfl TE.g (pa_cons (pe_ix ix_list (pv 0) (pv 1) (fun _ _ => rfl)) pa_nil)))) pss_nil))), ?_⟩
    refine ⟨_, rfl, l, zs, rfl, hl, hn, fun no H' hS => ?_, fun i z hz hin hno H' hS => ?_⟩
    · rw [goF_none no] at k
      exact ⟨_, rfl, _, rfl, iteF (k H' hS)⟩
    · rw [goF_hit hno hz (by unfold twP; rw [if_pos hin])] at k
      refine ⟨_, rfl, _, rfl, iteT ⟨_, rfl, _, rfl, l, _, (i : Int), .str z, rfl, rfl, hS.seq hl, atI_nat (by rw [List.getElem?_map, hz]; rfl), ?_⟩⟩
      exact mk1 fun d H3 hd hS3 hx => k d H3 (hS.free hd) (hS.trans hS3) hx
theorem ok_rv2 {f fI : Addr} {fd fdI : FuncData} (F : Fun K "refuse_no_variable" "refuse_no_variable" sRV f fd) (TE : ErrT K mg "NoVariable" "name" (C 3) fI) (bI : Binds K fdI ["self", "name"] []) (GI : FnOk P w K mg base CX0 2 fI fdI ["self", "name"] (spE1 (C 3) "name" "novariable")) :
    FnOk P w K mg base (L2N.CX P w) 4 f fd ["names", "texts"] (spRV2 K C) := by
  refine okN F scRV (fun vs H Q E h => ?_) (fun cdv A outer s H vs Q E hr h => ?_)
  · obtain ⟨a, b, ns, zs, rfl, _⟩ := h
    rfl
  · obtain ⟨a, b, ns, zs, rfl, ha, hb, k⟩ := h
    have hr3 : Room 3 _ := hr
    refine ⟨_, (pss_one (ps_for (passes_of rfl) rfl (pi_list (pv 1)) (pg_name (i := 2) scRV.nd rfl (Or.inl rfl)) (pss_one (ps_if (pt_cmpR op_notIn_seq (pv 2) (pv 0) (by rfl)) (pss_one (L2N.ps_raise rfl (L2N.takes_of rfl rfl rfl rfl) (pmkN_oex TE.o TE.iC TE.tI GI hr3 bI pass0 rfl TE.g (pa_cons (pv 2) pa_nil)))) pss_nil)))), ?_⟩
    refine ⟨_, rfl, b, rfl, ⟨_, hb⟩, for_list (K := K) (a := b) (xs := zs.map V.str) (fun i σ H' => (∃ v, σ = [some (.ref a), some (.ref b), v]) ∧ H' = H ∧ ∀ j y, j < i → zs[j]? = some y → novP ns (zs.take j) y = none) ⟨⟨none, rfl⟩, rfl, fun j y h => absurd h (Nat.not_lt_zero j)⟩ (fun i σ H' _ p => by rw [p.2.1]; exact hb) ?_ ?_⟩
    · rintro i y σ H' hi ⟨⟨v, rfl⟩, rfl, hno⟩
      obtain ⟨z, hz, rfl⟩ := map_str_get hi
      refine ⟨_, rfl, _, rfl, a, _, rfl, .inl ha, rfl, flat_strs ns, _, rfl, ?_⟩
      rw [if_pos rfl, inV_strs]
      by_cases q : z ∈ ns
      · rw [decide_eq_true q]
        exact iteF ⟨⟨_, rfl⟩, rfl, goF_more hno hz (by unfold novP; rw [if_pos q])⟩
      · rw [decide_eq_false q]
        rw [goF_hit hno hz (by unfold novP; rw [if_neg q])] at k
        exact iteT ⟨_, rfl, mk1 fun d H3 hd hS3 hx => k d H3 hd hS3 hx⟩
    · rintro σ H' ⟨_, rfl, hno⟩
      rw [List.length_map] at hno
      rw [goF_none hno] at k
      exact k H' (Same.refl H')
theorem ok_rl2 {f fE fI : Addr} {fd fdE fdI : FuncData} (F : Fun K "refuse_loose" "refuse_loose" sRL f fd) (D : Dn K mg "ends_of" sEO ["triples"] fE fdE) (TE : ErrT K mg "Loose" "name" (C 4) fI) (bI : Binds K fdI ["self", "name"] []) (GI : FnOk P w K mg base CX0 2 fI fdI ["self", "name"] (spE1 (C 4) "name" "loose")) :
    FnOk P w K mg base (L2N.CX P w) 4 f fd ["names", "conditions"] (spRL2 K C) := by
  have G : FnOk P w K mg base CX0 1 fE fdE ["triples"] (spEO K) := ok_eo D.F
  refine okN F scRL (fun vs H Q E h => ?_) (fun cdv A outer s H vs Q E hr h => ?_)
  · obtain ⟨a, b, ns, ps, ts, rfl, _⟩ := h
    rfl
  · obtain ⟨a, b, ns, ps, ts, rfl, ha, hb, htr, hn, k⟩ := h
    have hr1 : Room 1 _ := hr.mono (by decide)
    have hr3 : Room 3 _ := hr
    refine ⟨_, (pss_cons (ps_set (i := 2) scRL.nd rfl (Or.inl rfl) (pe_call G hr1 rfl D.g D.F.kp D.b .nil pass0 (pa_cons (pv 1) pa_nil)))
      (pss_one (ps_for (passes_of rfl) rfl (pi_list (pv 0)) (pg_name (i := 3) scRL.nd rfl (Or.inl rfl)) (pss_one (ps_if (pt_cmpR op_notIn_seq (pv 3) (pv 2) (by rfl)) (pss_one (L2N.ps_raise rfl (L2N.takes_of rfl rfl rfl rfl) (pmkN_oex TE.o TE.iC TE.tI GI hr3 bI pass0 rfl TE.g (pa_cons (pv 3) pa_nil)))) pss_nil))))), ?_⟩
    refine ⟨_, rfl, b, ps, ts, rfl, .inr hb, htr, hn, fun d H1 hd hS hl => ?_⟩
    refine ⟨_, rfl, a, rfl, ⟨_, hS.seq ha⟩, for_list (K := K) (a := a) (xs := ns.map V.str) (fun i σ H' => (∃ v, σ = [some (.ref a), some (.ref b), some (.ref d), v]) ∧ H' = H1 ∧ ∀ j y, j < i → ns[j]? = some y → loP (endsL ts) (ns.take j) y = none) ⟨⟨none, rfl⟩, rfl, fun j y h => absurd h (Nat.not_lt_zero j)⟩ (fun i σ H' _ p => by rw [p.2.1]; exact hS.seq ha) ?_ ?_⟩
    · rintro i y σ H' hi ⟨⟨v, rfl⟩, rfl, hno⟩
      obtain ⟨z, hz, rfl⟩ := map_str_get hi
      refine ⟨_, rfl, _, rfl, d, _, rfl, .inl (SqL.of hl), rfl, flat_strs _, _, rfl, ?_⟩
      rw [if_pos rfl, inV_strs]
      by_cases q : z ∈ endsL ts
      · rw [decide_eq_true q]
        exact iteF ⟨⟨_, rfl⟩, rfl, goF_more hno hz (by unfold loP; rw [if_pos q])⟩
      · rw [decide_eq_false q]
        rw [goF_hit hno hz (by unfold loP; rw [if_neg q])] at k
        exact iteT ⟨_, rfl, mk1 fun d' H3 hd' hS3 hx => k d' H3 (hS.free hd') (hS.trans hS3) hx⟩
    · rintro σ H' ⟨_, rfl, hno⟩
      rw [List.length_map] at hno
      rw [goF_none hno] at k
      exact k H' hS
theorem ok_ra2 {f fE fI : Addr} {fd fdE fdI : FuncData} (F : Fun K "refuse_apart" "refuse_apart" sRA f fd) (T : TxB mg) (D : Dn K mg "ends_of" sEO ["triples"] fE fdE) (TE : ErrT K mg "Apart" "place" (C 5) fI) (bI : Binds K fdI ["self", "place"] []) (GI : FnOk P w K mg base CX0 2 fI fdI ["self", "place"] (spE1 (C 5) "place" "apart")) :
    FnOk P w K mg base (L2N.CX P w) 4 f fd ["conditions"] (spRA2 K C) := by
  have G : FnOk P w K mg base CX0 1 fE fdE ["triples"] (spEO K) := ok_eo D.F
  refine okN F scRA (fun vs H Q E h => ?_) (fun cdv A outer s H vs Q E hr h => ?_)
  · obtain ⟨b, ps, ts, rfl, _⟩ := h
    rfl
  · obtain ⟨b, ps, ts, rfl, hb, htr, hn, k⟩ := h
    have hr1 : Room 1 _ := hr.mono (by decide)
    have hr3 : Room 3 _ := hr
    have hlen := htr.len
    rw [List.length_map] at hlen
    refine ⟨_, (pss_one (ps_for (passes_of rfl) rfl (pi_enumT rfl T.enumerate (pa_cons (pv 0) pa_nil)) (pg_tup rfl (pgs_cons (pg_name (i := 1) scRA.nd rfl (Or.inl rfl)) (pgs_cons (pg_tup rfl (pgs_cons (pg_name (i := 2) scRA.nd rfl (Or.inl rfl)) (pgs_cons (pg_name (i := 3) scRA.nd rfl (Or.inl rfl)) (pgs_cons (pg_name (i := 4) scRA.nd rfl (Or.inl rfl)) pgs_nil)))) pgs_nil))) (pss_cons (ps_set (i := 5) scRA.nd rfl (Or.inl rfl) (pe_call G hr1 rfl D.g D.F.kp D.b .nil pass0 (pa_cons (pe_slice sl_tupA (pv 0) po_none (po_some (pv 1))) pa_nil)))
      (pss_one (ps_if (PW.pt (pw_and (pt_cmpR op_gt (pv 1) pe_int (nomark _)) (pw_and (pt_cmpR op_notIn_seq (pv 2) (pv 5) (by rfl)) (pw_and1 (pt_cmpR op_notIn_seq (pv 4) (pv 5) (by rfl)))))) (pss_one (L2N.ps_raise rfl (L2N.takes_of rfl rfl rfl rfl) (pmkN_oex TE.o TE.iC TE.tI GI hr3 bI pass0 rfl TE.g (pa_cons (pv 1) pa_nil)))) pss_nil))))), ?_⟩
    refine ⟨_, rfl, b, _, rfl, hb, for_it walk_enumT (fun i σ H' => (∃ u v x y z, σ = [some (.ref b), u, v, x, y, z]) ∧ Same H H' ∧ ∀ j y, j < i → ts[j]? = some y → apP (ts.take j) y = none) ⟨⟨none, none, none, none, none, rfl⟩, Same.refl H, fun j y h => absurd h (Nat.not_lt_zero j)⟩ (fun i σ H' _ p => same_seqT p.2.1 hb) ?_ ?_⟩
    · rintro i x σ H1 H2 hi ⟨⟨u, v, x1, x2, x3, rfl⟩, hS, hno⟩ ⟨q, y, z, rfl, hq, rfl, e1, e2⟩
      cases e1
      obtain ⟨p, hp, rfl⟩ := map_ref_get e2
      obtain ⟨r, hr1', hr'⟩ := htr.get hp
      obtain ⟨t, ht, rfl⟩ := tri_get hr1'
      have S2 := hS.trans (Same.upd (o := .tup [.int (i : Nat), .ref p]) hq)
      have hi' : i < ps.length := by rw [List.length_map] at hi; exact hi
      have tl : (ts.take i).length = i := by rw [List.length_take]; omega
      refine ⟨q, _, rfl, SqT.of upd_same, rfl, _, _, rfl, _, _, rfl, ⟨p, _, rfl, same_seqT S2 hr', rfl, _, _, rfl, _, _, rfl, _, _, rfl, rfl, rfl, ?_⟩⟩
      refine ⟨_, rfl, _, rfl, _, rfl, b, _, rfl, same_seqT S2 hb, fun h => ?_, fun _ c hc => ?_⟩
      · exfalso
        rw [HT.sIx_nat, List.length_map] at h
        omega
      have S3 := S2.trans (Same.upd (o := .tup (cutV (ps.map V.ref) none (some (i : Int)))) hc)
      have hcut : cutV (ps.map V.ref) none (some (i : Int)) = (ps.take i).map V.ref := by rw [cut_take, List.map_take]
      refine ⟨c, ps.take i, ts.take i, rfl, .inr (SqT.of (by rw [upd_same, hcut])), ?_, by rw [List.length_take]; omega, fun d H3 hd hS3 hl => ?_⟩
      · rw [List.map_take]
        exact (htr.take i).same S3
      have S33 := S3.trans hS3
      refine ⟨_, rfl, _, _, rfl, rfl, _, rfl, ?_⟩
      refine ite2 (fun h0 => ?_) (fun h0 => ?_)
      · have h0' : (0 : Int) < (i : Int) := of_decide_eq_true h0
        refine ⟨_, rfl, _, rfl, d, _, rfl, .inl (SqL.of hl), rfl, flat_strs _, _, rfl, ?_⟩
        rw [if_pos rfl, inV_strs]
        by_cases m1 : t.1 ∈ endsL (ts.take i)
        · rw [decide_eq_true m1]
          exact iteF (iteF ⟨⟨_, _, _, _, _, rfl⟩, S33, goF_more hno ht (by unfold apP; rw [if_neg fun q => q.2.1 m1])⟩)
        · rw [decide_eq_false m1]
          refine iteT ?_
          refine ⟨_, rfl, _, rfl, d, _, rfl, .inl (SqL.of hl), rfl, flat_strs _, _, rfl, ?_⟩
          rw [if_pos rfl, inV_strs]
          by_cases m2 : t.2.2 ∈ endsL (ts.take i)
          · rw [decide_eq_true m2]
            exact iteF ⟨⟨_, _, _, _, _, rfl⟩, S33, goF_more hno ht (by unfold apP; rw [if_neg fun q => q.2.2 m2])⟩
          · rw [decide_eq_false m2]
            rw [goF_hit hno ht (by unfold apP; rw [if_pos ⟨by omega, m1, m2⟩]), tl] at k
            exact iteT ⟨_, rfl, mk1 fun d' H4 hd' hS4 hx => k d' H4 (S33.free hd') (S33.trans hS4) hx⟩
      · exact iteF ⟨⟨_, _, _, _, _, rfl⟩, S33, goF_more hno ht (by unfold apP; rw [if_neg fun q => h0 (decide_eq_true (by omega))])⟩
    · rintro σ H' ⟨_, hS, hno⟩
      rw [List.length_map] at hno
      rw [goF_none (fun j y hj e => hno j y (by omega) e)] at k
      exact k H' hS
end
end Wm
namespace Wm
open PySem L2 StX
structure TxP (mg : Str → Option Value) : Prop where
  mv : ∃ t, mg "MOST_VARIABLES" = some (.int 4 t)
  mc : ∃ t, mg "MOST_CONDITIONS" = some (.int 3 t)
theorem flat_len (l : List Var) : (l.flatMap varT).length ≤ 2 * l.length := by
  induction l with
  | nil => exact Nat.le_refl _
  | cons v r ih =>
    have e : ((v :: r).flatMap varT).length = (varT v).length + (r.flatMap varT).length := by
      rw [List.flatMap_cons, List.length_append]
    have e2 : (varT v).length ≤ 2 := by
      unfold varT
      cases v.2 <;> simp
    have e3 : (v :: r).length = r.length + 1 := rfl
    omega
def barF (nm : Str) (t1 t2 : Addr) : List (Str × V) := putF "conditions" (.ref t2) (putF "variables" (.ref t1) (putF "name" (.str nm) []))
theorem ne1 : ¬ (("variables" : Str) = "conditions") := by decide +kernel
theorem ne2 : ¬ (("name" : Str) = "conditions") := by decide +kernel
theorem ne3 : ¬ (("name" : Str) = "variables") := by decide +kernel
theorem barF_name (nm : Str) (t1 t2 : Addr) : (barF nm t1 t2).lookup ("name" : Str) = some (.str nm) := by
  unfold barF
  rw [lookup_putF, if_neg ne2, lookup_putF, if_neg ne3, lookup_putF, if_pos rfl]
theorem barF_vars (nm : Str) (t1 t2 : Addr) : (barF nm t1 t2).lookup ("variables" : Str) = some (.ref t1) := by
  unfold barF
  rw [lookup_putF, if_neg ne1, lookup_putF, if_pos rfl]
theorem barF_cond (nm : Str) (t1 t2 : Addr) : (barF nm t1 t2).lookup ("conditions" : Str) = some (.ref t2) := by
  unfold barF
  rw [lookup_putF, if_pos rfl]
theorem putF_len (f : Str) (v : V) : ∀ fs : List (Str × V), (putF f v fs).length ≤ fs.length + 1
  | [] => Nat.le_refl _
  | (g, x) :: r => by
    unfold putF
    split
    · exact Nat.le_succ _
    · have := putF_len f v r
      simp only [List.length_cons]
      omega
structure TxBar (K : PySem.W.Frag) (mg : Str → Option Value) (B fB : Addr) : Prop where
  cl : Cls K B
  nn : NoAttr K B "name"
  nv : NoAttr K B "variables"
  nc : NoAttr K B "conditions"
  g : mg "Bar" = some (.ref B)
  m : Mk K B fB
def rulF (nm : Str) (t1 t2 t3 : Addr) (by_ : Str) : List (Str × V) := putF "by" (.str by_) (putF "gives" (.ref t3) (barF nm t1 t2))
theorem nr1 : ¬ (("gives" : Str) = "by") := by decide +kernel
theorem nr2 : ¬ (("name" : Str) = "by") := by decide +kernel
theorem nr3 : ¬ (("name" : Str) = "gives") := by decide +kernel
theorem nr4 : ¬ (("variables" : Str) = "by") := by decide +kernel
theorem nr5 : ¬ (("variables" : Str) = "gives") := by decide +kernel
theorem nr6 : ¬ (("conditions" : Str) = "by") := by decide +kernel
theorem nr7 : ¬ (("conditions" : Str) = "gives") := by decide +kernel
theorem rulF_name (nm : Str) (t1 t2 t3 : Addr) (b : Str) : (rulF nm t1 t2 t3 b).lookup ("name" : Str) = some (.str nm) := by
  unfold rulF
  rw [lookup_putF, if_neg nr2, lookup_putF, if_neg nr3]
  exact barF_name _ _ _
theorem rulF_vars (nm : Str) (t1 t2 t3 : Addr) (b : Str) : (rulF nm t1 t2 t3 b).lookup ("variables" : Str) = some (.ref t1) := by
  unfold rulF
  rw [lookup_putF, if_neg nr4, lookup_putF, if_neg nr5]
  exact barF_vars _ _ _
theorem rulF_cond (nm : Str) (t1 t2 t3 : Addr) (b : Str) : (rulF nm t1 t2 t3 b).lookup ("conditions" : Str) = some (.ref t2) := by
  unfold rulF
  rw [lookup_putF, if_neg nr6, lookup_putF, if_neg nr7]
  exact barF_cond _ _ _
theorem rulF_gives (nm : Str) (t1 t2 t3 : Addr) (b : Str) : (rulF nm t1 t2 t3 b).lookup ("gives" : Str) = some (.ref t3) := by
  unfold rulF
  rw [lookup_putF, if_neg nr1, lookup_putF, if_pos rfl]
theorem rulF_by (nm : Str) (t1 t2 t3 : Addr) (b : Str) : (rulF nm t1 t2 t3 b).lookup ("by" : Str) = some (.str b) := by
  unfold rulF
  rw [lookup_putF, if_pos rfl]
theorem barF_len (nm : Str) (t1 t2 : Addr) : (barF nm t1 t2).length ≤ 3 := Nat.le_trans (putF_len _ _ _) (Nat.succ_le_succ (Nat.le_trans (putF_len _ _ _) (Nat.succ_le_succ (putF_len _ _ _))))
structure TxRul (K : PySem.W.Frag) (mg : Str → Option Value) (B fB : Addr) : Prop where
  cl : Cls K B
  nn : NoAttr K B "name"
  nv : NoAttr K B "variables"
  nc : NoAttr K B "conditions"
  ng : NoAttr K B "gives"
  nb : NoAttr K B "by"
  g : mg "Rule" = some (.ref B)
  m : Mk K B fB
def spCP2 (K : PySem.W.Frag) (C : Nat → Addr) : Sp := fun vs H Q E => ∃ (nm : Str) (a b g h : Addr) (ps qs us : List Addr) (vars : List Var) (cs gs : List Tri) (hs : List Str), vs = [.str nm, .ref a, .ref b, .ref g, .ref h] ∧ SqT K H a (ps.map V.ref) ∧ RowsAt K H ps (vars.map varV) ∧
  SqT K H b (qs.map V.ref) ∧ RowsAt K H qs (cs.map triV) ∧ SqL K H g (us.map V.ref) ∧ RowsAt K H us (gs.map triV) ∧ SqL K H h (hs.map V.str) ∧ vars.length ≤ 10 ∧ cs.length ≤ 10 ∧ gs.length ≤ 1 ∧ hs.length ≤ 1 ∧ (∀ z ∈ textsL nm vars (cs ++ gs), z.length ≤ 1000) ∧ Rfs C (patDue nm vars cs gs hs) H (fun H' => Q .non H') E
def spBar2 (K : PySem.W.Frag) (C : Nat → Addr) (B : Addr) : Sp := fun vs H Q E => ∃ (H0 : Hp) (x dx l1 l2 : Addr) (nm : Str) (ps qs : List Addr) (vars : List Var) (cs : List Tri), vs = [.ref x, .str nm, .ref l1, .ref l2] ∧ Same H0 H ∧ H0 x = none ∧ H x = some (.ins B dx []) ∧
  SqL K H0 l1 (ps.map V.ref) ∧ RowsAt K H0 ps (vars.map varV) ∧ SqL K H0 l2 (qs.map V.ref) ∧ RowsAt K H0 qs (cs.map triV) ∧ vars.length ≤ 10 ∧ cs.length ≤ 10 ∧ (∀ z ∈ textsL nm vars (cs ++ []), z.length ≤ 1000) ∧
  Rfs C (patDue nm vars cs [] []) H0 (fun H' => ∀ t1 t2, H' x = some (.ins B dx (barF nm t1 t2)) → H' t1 = some (.tup (ps.map V.ref)) → H' t2 = some (.tup (qs.map V.ref)) → Q .non H') E
def spRul2 (K : PySem.W.Frag) (C : Nat → Addr) (B : Addr) : Sp := fun vs H Q E => ∃ (H0 : Hp) (x dx l1 l2 g : Addr) (nm b : Str) (ps qs : List Addr) (vars : List Var) (cs : List Tri) (gt : Tri), vs = [.ref x, .str nm, .ref l1, .ref l2, .ref g, .str b] ∧ Same H0 H ∧ H0 x = none ∧ H x = some (.ins B dx []) ∧
  SqL K H0 l1 (ps.map V.ref) ∧ RowsAt K H0 ps (vars.map varV) ∧ SqL K H0 l2 (qs.map V.ref) ∧ RowsAt K H0 qs (cs.map triV) ∧ H0 g = some (.tup (triV gt)) ∧ vars.length ≤ 10 ∧ cs.length ≤ 10 ∧ (∀ z ∈ textsL nm vars (cs ++ [gt]), z.length ≤ 1000) ∧
  Rfs C (patDue nm vars cs [gt] [b]) H0 (fun H' => ∀ t1 t2, H' x = some (.ins B dx (rulF nm t1 t2 g b)) → H' t1 = some (.tup (ps.map V.ref)) → H' t2 = some (.tup (qs.map V.ref)) → Q .non H') E
/-- what the refusals of a pattern rest on -/
structure TxC (P : Program) (w : World) (K : PySem.W.Frag) (mg : Str → Option Value) (base : Heap) (fRC fRN fTP fRT fRV fEO fRL fRA : Addr) (dRC dRN dTP dRT dRV dEO dRL dRA : FuncData) (C : Nat → Addr) : Prop where
  RC : Dn K mg "refuse_count" sRC ["what", "count", "least", "most"] fRC dRC
  RN : Dn K mg "refuse_no_name" sRN ["texts"] fRN dRN
  TX : Dn K mg "texts_of_pattern" sTP ["name", "variables", "triples"] fTP dTP
  RT : Dn K mg "refuse_twice" sRT ["names"] fRT dRT
  RV : Dn K mg "refuse_no_variable" sRV ["names", "texts"] fRV dRV
  EO : Dn K mg "ends_of" sEO ["triples"] fEO dEO
  RL : Dn K mg "refuse_loose" sRL ["names", "conditions"] fRL dRL
  RA : Dn K mg "refuse_apart" sRA ["conditions"] fRA dRA
  GRC : FnOk P w K mg base (L2N.CX P w) 4 fRC dRC ["what", "count", "least", "most"] (spRC2 C)
  GRN : FnOk P w K mg base (L2N.CX P w) 4 fRN dRN ["texts"] (spRN2 K C)
  GRT : FnOk P w K mg base (L2N.CX P w) 4 fRT dRT ["names"] (spRT2 K C)
  GRV : FnOk P w K mg base (L2N.CX P w) 4 fRV dRV ["names", "texts"] (spRV2 K C)
  GRL : FnOk P w K mg base (L2N.CX P w) 4 fRL dRL ["names", "conditions"] (spRL2 K C)
  GRA : FnOk P w K mg base (L2N.CX P w) 4 fRA dRA ["conditions"] (spRA2 K C)
section
variable {P : Program} {w : World} {K : PySem.W.Frag} {mg : Str → Option Value} {base : Heap} {C : Nat → Addr}
theorem scCP : FnScope ["name", "variables", "conditions", "given", "hands", "triples", "names", "variable", "sort"] ["name", "variables", "conditions", "given", "hands"] (defScope sCP) := ⟨rfl, rfl, rfl, by decide +kernel, rfl, by decide +kernel, by decide +kernel⟩
theorem scBar : FnScope ["self", "name", "variables", "conditions"] ["self", "name", "variables", "conditions"] (defScope sBar) := ⟨rfl, rfl, rfl, by decide +kernel, rfl, by decide +kernel, by decide +kernel⟩
theorem scRul : FnScope ["self", "name", "variables", "conditions", "gives", "by"] ["self", "name", "variables", "conditions", "gives", "by"] (defScope sRul) := ⟨rfl, rfl, rfl, by decide +kernel, rfl, by decide +kernel, by decide +kernel⟩
theorem ok_cp2 {f fRC fRN fTP fRT fRV fEO fRL fRA : Addr} {fd dRC dRN dTP dRT dRV dEO dRL dRA : FuncData} (F : Fun K "check_pattern" "check_pattern" sCP f fd) (T : TxB mg) (TP : TxP mg) (X : TxC P w K mg base fRC fRN fTP fRT fRV fEO fRL fRA dRC dRN dTP dRT dRV dEO dRL dRA C) :
    FnOk P w K mg base (L2N.CX P w) 5 f fd ["name", "variables", "conditions", "given", "hands"] (spCP2 K C) := by
  obtain ⟨RC, RN, TX, RT, RV, EO, RL, RA, GRC, GRN, GRT, GRV, GRL, GRA⟩ := X
  have GTX : FnOk P w K mg base CX0 1 fTP dTP _ (spTP K) := ok_tp TX.F
  have GEO : FnOk P w K mg base CX0 1 fEO dEO _ (spEO K) := ok_eo EO.F
  obtain ⟨t1, hmv⟩ := TP.mv
  obtain ⟨t2, hmc⟩ := TP.mc
  refine okN F scCP (fun vs H Q E h => ?_) (fun cdv A outer s H vs Q E hr h => ?_)
  · obtain ⟨nm, a, b, g, h, ps, qs, us, vars, cs, gs, hs, rfl, _⟩ := h
    rfl
  · obtain ⟨nm, a, b, g, h, ps, qs, us, vars, cs, gs, hs, rfl, ha, hva, hb, hcs, hg, hgs, hh, o1, o2, o3, o6, hz, k⟩ := h
    have hr1 : Room 1 _ := hr.mono (by decide)
    have hr4 : Room 4 _ := hr
    have l1 := hva.len
    have l2 := hcs.len
    have l3 := hgs.len
    rw [List.length_map] at l1 l2 l3
    refine ⟨_, (pss_cons (ps_expr (pe_call GRC hr4 rfl RC.g RC.F.kp RC.b .nil (L2N.passes_call (L2N.takes_of rfl rfl rfl rfl) (fun _ _ _ _ h => h)) (pa_cons pe_str (pa_cons (pe_callB call_len_seq (by rfl) T.len (by decide +kernel) (pa_cons (pv 1) pa_nil)) (pa_cons pe_int (pa_cons (pe_glob (v := .int 4) (by rfl) hmv ⟨_, rfl⟩) pa_nil))))))
      (pss_cons (ps_expr (pe_call GRC hr4 rfl RC.g RC.F.kp RC.b .nil (L2N.passes_call (L2N.takes_of rfl rfl rfl rfl) (fun _ _ _ _ h => h)) (pa_cons pe_str (pa_cons (pe_callB call_len_seq (by rfl) T.len (by decide +kernel) (pa_cons (pv 2) pa_nil)) (pa_cons pe_int (pa_cons (pe_glob (v := .int 3) (by rfl) hmc ⟨_, rfl⟩) pa_nil))))))
      (pss_cons (ps_set (i := 5) scCP.nd rfl (Or.inl rfl) (pe_lst (pa_star (pv 2) (pa_star (pv 3) pa_nil))))
      (pss_cons (ps_expr (pe_call GRN hr4 rfl RN.g RN.F.kp RN.b .nil (L2N.passes_call (L2N.takes_of rfl rfl rfl rfl) (fun _ _ _ _ h => h)) (pa_cons (pe_call GTX hr1 rfl TX.g TX.F.kp TX.b .nil pass0 (pa_cons (pv 0) (pa_cons (pv 1) (pa_cons (pv 5) pa_nil)))) pa_nil)))
      (pss_cons (ps_setLc (i := 6) (own := [("variable", 7), ("sort", 8)]) (g := gTup K 2 (gCons (gName 7) (gCons (gName 8) gNil))) rfl scCP.nd rfl rfl (sw_true rfl rfl rfl (by decide +kernel)) (pi_tup (pv 1)) (blkOk_by (N := ["name", "variables", "conditions", "given", "hands", "triples", "names", "variable", "sort"]) (sc := defScope sCP) (by decide +kernel)) (fun _ _ _ _ _ => (pg_tup rfl (pgs_cons (pg_name (i := 7) scCP.nd rfl (Or.inl rfl)) (pgs_cons (pg_name (i := 8) scCP.nd rfl (Or.inl rfl)) pgs_nil)))) (fun _ _ _ _ _ => pts_nil) (fun _ _ _ _ _ => (pv 7)))
      (pss_cons (ps_expr (pe_call GRT hr4 rfl RT.g RT.F.kp RT.b .nil (L2N.passes_call (L2N.takes_of rfl rfl rfl rfl) (fun _ _ _ _ h => h)) (pa_cons (pv 6) pa_nil)))
      (pss_cons (ps_expr (pe_call GRV hr4 rfl RV.g RV.F.kp RV.b .nil (L2N.passes_call (L2N.takes_of rfl rfl rfl rfl) (fun _ _ _ _ h => h)) (pa_cons (pv 6) (pa_cons (pe_lst (pa_star (pe_call GEO hr1 rfl EO.g EO.F.kp EO.b .nil pass0 (pa_cons (pv 5) pa_nil)) (pa_star (pv 4) pa_nil))) pa_nil))))
      (pss_cons (ps_expr (pe_call GRL hr4 rfl RL.g RL.F.kp RL.b .nil (L2N.passes_call (L2N.takes_of rfl rfl rfl rfl) (fun _ _ _ _ h => h)) (pa_cons (pv 6) (pa_cons (pv 2) pa_nil))))
      (pss_one (ps_expr (pe_call GRA hr4 rfl RA.g RA.F.kp RA.b .nil (L2N.passes_call (L2N.takes_of rfl rfl rfl rfl) (fun _ _ _ _ h => h)) (pa_cons (pv 2) pa_nil)))))))))))), ?_⟩
    rw [show L2.start ["name", "variables", "conditions", "given", "hands", "triples", "names", "variable", "sort"] [V.str nm, V.ref a, V.ref b, V.ref g, V.ref h] = [some (.str nm), some (.ref a), some (.ref b), some (.ref g), some (.ref h), none, none, none, none] from rfl]
    unfold patDue at k
    refine ⟨_, rfl, a, _, rfl, .inr ha, _, _, _, _, rfl, ?_⟩
    rw [List.length_map, l1]
    refine (Rfs.step k).map fun e1 H1 S1 k1 => ?_
    refine ⟨_, rfl, b, _, rfl, .inr (same_seqT S1 hb), _, _, _, _, rfl, ?_⟩
    rw [List.length_map, l2]
    refine (Rfs.step k1).map fun e2 H2 S2 k2 => ?_
    have S02 := S1.trans S2
    -- triples = [*conditions, *given]
    refine ⟨_, rfl, b, _, rfl, .inl (same_seqT S02 hb), _, rfl, g, _, rfl, .inr (S02.seq hg), ?_, fun tr htr => ?_⟩
    · show (qs.map V.ref ++ (us.map V.ref ++ [])).length ≤ sizeLine
      rw [List.append_nil, List.length_append, List.length_map, List.length_map]
      exact Nat.le_trans (show _ ≤ 1000 by omega) (by decide)
    dsimp only [gName, List.set_cons_succ, List.set_cons_zero]
    have etr : qs.map V.ref ++ (us.map V.ref ++ []) = (qs ++ us).map V.ref := by rw [List.append_nil, List.map_append]
    have T3 : Same H2 (upd H2 tr (.lst (qs.map V.ref ++ (us.map V.ref ++ [])))) := Same.upd htr
    have tr3 : (upd H2 tr (.lst (qs.map V.ref ++ (us.map V.ref ++ [])))) tr = some (.lst ((qs ++ us).map V.ref)) := by rw [upd_same, etr]
    have k3 := Rfs.same T3 k2
    generalize upd H2 tr (.lst (qs.map V.ref ++ (us.map V.ref ++ []))) = H3 at T3 tr3 k3
    have S03 := S02.trans T3
    refine ⟨_, rfl, _, rfl, _, rfl, nm, a, tr, ps, qs ++ us, vars, cs ++ gs, rfl, same_seqT S03 ha, hva.same S03, SqL.of tr3, ?_, by omega, by rw [List.length_append]; omega, fun d H4 hd S4 hl => ?_⟩
    · rw [List.map_append]
      exact (hcs.append hgs).same S03
    refine ⟨d, _, rfl, SqL.of hl, hz, ?_⟩
    refine (Rfs.step (Rfs.same S4 k3)).map fun e5 H5 S5 k5 => ?_
    have S05 := (S03.trans S4).trans S5
    have tr5 := S5 _ _ (S4 _ _ tr3)
    -- names = [variable for variable, sort in variables]
    refine ⟨_, rfl, a, rfl, ⟨_, same_seqT S05 ha⟩, fun D hD => ?_⟩
    refine lc_it walk_tup (fun i H' => Same H5 H' ∧ H' D = some (.lst (((vars.take i).map (·.1)).map V.str))) ⟨Same.upd hD, upd_same⟩ (fun i H' _ p => same_seqT (S05.trans p.1) ha) ?_ ?_
    · rintro i x H6 H7 hi ⟨hS4, hD4⟩ ⟨rfl, hx⟩
      obtain ⟨p, hp, rfl⟩ := map_ref_get hx
      obtain ⟨r, hr1', hr'⟩ := hva.get hp
      obtain ⟨⟨n, so⟩, ht, rfl⟩ := var_get hr1'
      refine ⟨p, _, rfl, same_seqT (S05.trans hS4) hr', rfl, _, _, rfl, _, _, rfl, rfl, rfl, ?_⟩
      refine ⟨_, rfl, _, hD4, ?_, ?_, ?_⟩
      · rw [List.length_map, List.length_map, List.length_take]
        exact Nat.lt_of_le_of_lt (show _ ≤ 1000 by omega) (by decide)
      · intro b' o h
        rw [upd_ne (ne_of_none h hD)]
        exact hS4 b' o h
      · rw [upd_same, List.take_add_one, ht, List.map_append, List.map_append]
        rfl
    rintro H6 ⟨S6, hD6⟩
    rw [List.length_map, List.take_of_length_le (by omega)] at hD6
    dsimp only [gName, List.set_cons_succ, List.set_cons_zero]
    -- refuse_twice(names)
    refine ⟨_, rfl, D, _, rfl, SqL.of hD6, by rw [List.length_map]; omega, ?_⟩
    refine (Rfs.step (Rfs.same S6 k5)).map fun e7 H7 S7 k7 => ?_
    have S07 := (S05.trans S6).trans S7
    have tr7 := S7 _ _ (S6 _ _ tr5)
    have hD7 := S7 _ _ hD6
    -- refuse_no_variable(names, [*ends_of(triples), *hands])
    refine ⟨_, rfl, _, rfl, tr, qs ++ us, cs ++ gs, rfl, .inl (SqL.of tr7), ?_, by rw [List.length_append]; omega, fun e H8 he S8 hl8 => ?_⟩
    · rw [List.map_append]
      exact (hcs.append hgs).same S07
    have S08 := S07.trans S8
    refine ⟨e, _, rfl, .inr (SqL.of hl8), _, rfl, h, _, rfl, .inr (S08.seq hh), ?_, fun l hl => ?_⟩
    · rw [List.length_append, List.length_map, endsL_len, List.length_append, List.append_nil, List.length_map]
      exact Nat.le_trans (show _ ≤ 1000 by omega) (by decide)
    have T9 : Same H8 (upd H8 l (.lst ((endsL (cs ++ gs)).map V.str ++ (hs.map V.str ++ [])))) := Same.upd hl
    have e9 : (upd H8 l (.lst ((endsL (cs ++ gs)).map V.str ++ (hs.map V.str ++ [])))) l = some (.lst ((endsL (cs ++ gs) ++ hs).map V.str)) := by rw [upd_same, List.append_nil, List.map_append]
    have k9 := Rfs.same T9 (Rfs.same S8 k7)
    have hD9 := T9 _ _ (S8 _ _ hD7)
    generalize upd H8 l (.lst ((endsL (cs ++ gs)).map V.str ++ (hs.map V.str ++ []))) = H9 at T9 e9 k9 hD9
    have S09 := S08.trans T9
    refine ⟨D, l, _, _, rfl, SqL.of hD9, SqL.of e9, ?_⟩
    refine (Rfs.step k9).map fun e10 H10 S10 k10 => ?_
    have S010 := S09.trans S10
    -- refuse_loose(names, conditions)
    refine ⟨_, rfl, _, rfl, D, b, _, qs, cs, rfl, SqL.of (S10 _ _ hD9), same_seqT S010 hb, hcs.same S010, by omega, ?_⟩
    refine (Rfs.step k10).map fun e11 H11 S11 k11 => ?_
    have S011 := S010.trans S11
    -- refuse_apart(conditions)
    exact ⟨_, rfl, b, qs, cs, rfl, same_seqT S011 hb, hcs.same S011, by omega, k11⟩
theorem ok_bar2 {f fTT fCP B : Addr} {fd dTT dCP : FuncData} (F : Fun K "__init__" "Bar.__init__" sBar f fd) (T : TxB mg) (TB : TxBar K mg B f) (TT : Dn K mg "tuple_of_tuples" sTT ["rows"] fTT dTT)
    (CP : Dn K mg "check_pattern" sCP ["name", "variables", "conditions", "given", "hands"] fCP dCP) (GCP : FnOk P w K mg base (L2N.CX P w) 5 fCP dCP ["name", "variables", "conditions", "given", "hands"] (spCP2 K C)) :
    FnOk P w K mg base (L2N.CX P w) 6 f fd ["self", "name", "variables", "conditions"] (spBar2 K C B) := by
  have GTT : FnOk P w K mg base CX0 1 fTT dTT _ (spTT K) := ok_tt TT.F T
  refine okN F scBar (fun vs H Q E h => ?_) (fun cdv A outer s H vs Q E hr h => ?_)
  · obtain ⟨H0, x, dx, l1, l2, nm, ps, qs, vars, cs, rfl, _⟩ := h
    rfl
  · obtain ⟨H0, x, dx, l1, l2, nm, ps, qs, vars, cs, rfl, S0, x0, hx, h1, hv, h2, hc, o1, o2, hz, k⟩ := h
    have hr1 : Room 1 _ := hr.mono (by decide)
    have b1 := hv.len
    have b2 := hc.len
    rw [List.length_map] at b1 b2
    refine ⟨_, (pss_cons (ps_fld (pv 0) (pv 1) rfl)
      (pss_cons (ps_fld (pv 0) (pe_call GTT hr1 rfl TT.g TT.F.kp TT.b .nil pass0 (pa_cons (pv 2) pa_nil)) rfl)
      (pss_cons (ps_fld (pv 0) (pe_call GTT hr1 rfl TT.g TT.F.kp TT.b .nil pass0 (pa_cons (pv 3) pa_nil)) rfl)
      (pss_one (ps_expr (pe_call GCP hr rfl CP.g CP.F.kp CP.b .nil (L2N.passes_call (L2N.takes_of rfl rfl rfl rfl) (fun _ _ _ _ h => h)) (pa_cons (pv 1) (pa_cons (pe_fld (pv 0) rfl) (pa_cons (pe_fld (pv 0) rfl) (pa_cons (pe_lst pa_nil) (pa_cons (pe_lst pa_nil) pa_nil))))))))))), ?_⟩
    have Sx : ∀ {H1 : Hp} {o : HO}, Same H0 H1 → Same H0 (upd H1 x o) := fun hs b o e => by
      rw [upd_ne (ne_of_none e x0)]
      exact hs b o e
    refine ⟨_, rfl, _, rfl, x, B, dx, [], rfl, hx, TB.cl, TB.nn, (by show 0 < 1000; decide), ?_⟩
    have S1 := Sx (o := .ins B dx (putF "name" (.str nm) [])) S0
    refine ⟨_, rfl, l1, ps, _, rfl, S1.seq h1, hv.same S1, by omega, fun t1 H2 ht1 hS2 hl1 => ?_⟩
    have S2 := S1.trans hS2
    have hx2 := hS2 _ _ (upd_same (H := H) (a := x) (o := .ins B dx (putF "name" (.str nm) [])))
    have n1x : t1 ≠ x := fun z => by
      rw [z, upd_same] at ht1
      cases ht1
    refine ⟨_, rfl, x, B, dx, _, rfl, hx2, TB.cl, TB.nv, Nat.lt_of_le_of_lt (putF_len _ _ _) (by decide), ?_⟩
    have S3 := Sx (o := .ins B dx (putF "variables" (.ref t1) (putF "name" (.str nm) []))) S2
    refine ⟨_, rfl, l2, qs, _, rfl, S3.seq h2, hc.same S3, by omega, fun t2 H4 ht2 hS4 hl2 => ?_⟩
    have S4 := S3.trans hS4
    have hx4 := hS4 _ _ (upd_same (H := H2) (a := x) (o := .ins B dx (putF "variables" (.ref t1) (putF "name" (.str nm) []))))
    have hl1' := hS4 t1 _ (by rw [upd_ne n1x]; exact hl1)
    have n2x : t2 ≠ x := fun z => by
      rw [z, upd_same] at ht2
      cases ht2
    refine ⟨_, rfl, x, B, dx, _, rfl, hx4, TB.cl, TB.nc, Nat.lt_of_le_of_lt (putF_len _ _ _) (Nat.lt_of_le_of_lt (Nat.succ_le_succ (putF_len _ _ _)) (by decide)), ?_⟩
    generalize hH6 : upd H4 x (.ins B dx (putF "conditions" (.ref t2) (putF "variables" (.ref t1) (putF "name" (.str nm) [])))) = H6
    have S6 : Same H0 H6 := by
      rw [← hH6]
      exact Sx S4
    have hx6 : H6 x = some (.ins B dx (barF nm t1 t2)) := by rw [← hH6, upd_same]; rfl
    have h16 : H6 t1 = some (.tup (ps.map V.ref)) := by rw [← hH6, upd_ne n1x]; exact hl1'
    have h26 : H6 t2 = some (.tup (qs.map V.ref)) := by rw [← hH6, upd_ne n2x]; exact hl2
    refine ⟨_, rfl, _, rfl, x, B, dx, _, _, rfl, hx6, TB.cl, TB.nv, barF_vars _ _ _, _, rfl, x, B, dx, _, _, rfl, hx6, TB.cl, TB.nc, barF_cond _ _ _, Nat.zero_le _, fun gl hgl => ⟨Nat.zero_le _, fun h hh => ?_⟩⟩
    have S7 : Same H6 (upd (upd H6 gl (.lst [])) h (.lst [])) := (Same.upd hgl).trans (Same.upd hh)
    have S67 := S6.trans S7
    refine ⟨nm, t1, t2, gl, h, ps, qs, [], vars, cs, [], [], rfl, SqT.of (S7 _ _ h16), hv.same S67, SqT.of (S7 _ _ h26), hc.same S67, SqL.of (Same.upd hh _ _ upd_same), True.intro, SqL.of upd_same, o1, o2, by decide, by decide, hz, ?_⟩
    refine (Rfs.same S67 k).map fun _ H8 hS8 kk => ?_
    exact kk t1 t2 (hS8 _ _ (S7 _ _ hx6)) (hS8 _ _ (S7 _ _ h16)) (hS8 _ _ (S7 _ _ h26))
theorem ok_rul2 {f fTT fCP B : Addr} {fd dTT dCP : FuncData} (F : Fun K "__init__" "Rule.__init__" sRul f fd) (T : TxB mg) (TB : TxRul K mg B f) (TT : Dn K mg "tuple_of_tuples" sTT ["rows"] fTT dTT)
    (CP : Dn K mg "check_pattern" sCP ["name", "variables", "conditions", "given", "hands"] fCP dCP) (GCP : FnOk P w K mg base (L2N.CX P w) 5 fCP dCP ["name", "variables", "conditions", "given", "hands"] (spCP2 K C)) :
    FnOk P w K mg base (L2N.CX P w) 6 f fd ["self", "name", "variables", "conditions", "gives", "by"] (spRul2 K C B) := by
  have GTT : FnOk P w K mg base CX0 1 fTT dTT _ (spTT K) := ok_tt TT.F T
  refine okN F scRul (fun vs H Q E h => ?_) (fun cdv A outer s H vs Q E hr h => ?_)
  · obtain ⟨H0, x, dx, l1, l2, g, nm, b, ps, qs, vars, cs, gt, rfl, _⟩ := h
    rfl
  · obtain ⟨H0, x, dx, l1, l2, g, nm, b, ps, qs, vars, cs, gt, rfl, S0, x0, hx, h1, hv, h2, hc, hg, o1, o2, hz, k⟩ := h
    have hr1 : Room 1 _ := hr.mono (by decide)
    have b1 := hv.len
    have b2 := hc.len
    rw [List.length_map] at b1 b2
    have ngx : g ≠ x := ne_of_none hg x0
    refine ⟨_, (pss_cons (ps_fld (pv 0) (pv 1) rfl)
      (pss_cons (ps_fld (pv 0) (pe_call GTT hr1 rfl TT.g TT.F.kp TT.b .nil pass0 (pa_cons (pv 2) pa_nil)) rfl)
      (pss_cons (ps_fld (pv 0) (pe_call GTT hr1 rfl TT.g TT.F.kp TT.b .nil pass0 (pa_cons (pv 3) pa_nil)) rfl)
      (pss_cons (ps_fld (pv 0) (pe_callTy call_tupN (by rfl) T.tuple (by decide +kernel) (pa_cons (pv 4) pa_nil)) rfl)
      (pss_cons (ps_fld (pv 0) (pv 5) rfl)
      (pss_one (ps_expr (pe_call GCP hr rfl CP.g CP.F.kp CP.b .nil (L2N.passes_call (L2N.takes_of rfl rfl rfl rfl) (fun _ _ _ _ h => h)) (pa_cons (pv 1) (pa_cons (pe_fld (pv 0) rfl) (pa_cons (pe_fld (pv 0) rfl) (pa_cons (pe_lst (pa_cons (pe_fld (pv 0) rfl) pa_nil)) (pa_cons (pe_lst (pa_cons (pv 5) pa_nil)) pa_nil))))))))))))), ?_⟩
    have Sx : ∀ {H1 : Hp} {o : HO}, Same H0 H1 → Same H0 (upd H1 x o) := fun hs b o e => by
      rw [upd_ne (ne_of_none e x0)]
      exact hs b o e
    refine ⟨_, rfl, _, rfl, x, B, dx, [], rfl, hx, TB.cl, TB.nn, (by show 0 < 1000; decide), ?_⟩
    have S1 := Sx (o := .ins B dx (putF "name" (.str nm) [])) S0
    refine ⟨_, rfl, l1, ps, _, rfl, S1.seq h1, hv.same S1, by omega, fun t1 H2 ht1 hS2 hl1 => ?_⟩
    have S2 := S1.trans hS2
    have hx2 := hS2 _ _ (upd_same (H := H) (a := x) (o := .ins B dx (putF "name" (.str nm) [])))
    have n1x : t1 ≠ x := fun z => by
      rw [z, upd_same] at ht1
      cases ht1
    refine ⟨_, rfl, x, B, dx, _, rfl, hx2, TB.cl, TB.nv, Nat.lt_of_le_of_lt (putF_len _ _ _) (by decide), ?_⟩
    have S3 := Sx (o := .ins B dx (putF "variables" (.ref t1) (putF "name" (.str nm) []))) S2
    refine ⟨_, rfl, l2, qs, _, rfl, S3.seq h2, hc.same S3, by omega, fun t2 H4 ht2 hS4 hl2 => ?_⟩
    have S4 := S3.trans hS4
    have hx4 := hS4 _ _ (upd_same (H := H2) (a := x) (o := .ins B dx (putF "variables" (.ref t1) (putF "name" (.str nm) []))))
    have hl1' := hS4 t1 _ (by rw [upd_ne n1x]; exact hl1)
    have n2x : t2 ≠ x := fun z => by
      rw [z, upd_same] at ht2
      cases ht2
    refine ⟨_, rfl, x, B, dx, _, rfl, hx4, TB.cl, TB.nc, Nat.lt_of_le_of_lt (putF_len _ _ _) (Nat.lt_of_le_of_lt (Nat.succ_le_succ (putF_len _ _ _)) (by decide)), ?_⟩
    have S5 := Sx (o := .ins B dx (barF nm t1 t2)) S4
    -- self.gives = tuple(gives); self.by = by
    refine ⟨_, rfl, g, _, rfl, .inr ⟨SqT.of (S5 _ _ hg), ?_⟩⟩
    refine ⟨_, rfl, x, B, dx, _, rfl, upd_same, TB.cl, TB.ng, Nat.lt_of_le_of_lt (barF_len nm t1 t2) (by decide), ?_⟩
    refine ⟨_, rfl, _, rfl, x, B, dx, _, rfl, upd_same, TB.cl, TB.nb, Nat.lt_of_le_of_lt (Nat.le_trans (putF_len _ _ _) (Nat.succ_le_succ (barF_len nm t1 t2))) (by decide), ?_⟩
    rw [upd_upd, upd_upd]
    show _
    generalize hH6 : upd H4 x (.ins B dx (putF "by" (.str b) (putF "gives" (.ref g) (putF "conditions" (.ref t2) (putF "variables" (.ref t1) (putF "name" (.str nm) [])))))) = H6
    have S6 : Same H0 H6 := by
      rw [← hH6]
      exact Sx S4
    have hx6 : H6 x = some (.ins B dx (rulF nm t1 t2 g b)) := by rw [← hH6, upd_same]; rfl
    have h16 : H6 t1 = some (.tup (ps.map V.ref)) := by rw [← hH6, upd_ne n1x]; exact hl1'
    have h26 : H6 t2 = some (.tup (qs.map V.ref)) := by rw [← hH6, upd_ne n2x]; exact hl2
    -- check_pattern(name, self.variables, self.conditions, [self.gives], [by])
    refine ⟨_, rfl, _, rfl, x, B, dx, _, _, rfl, hx6, TB.cl, TB.nv, rulF_vars _ _ _ _ _, _, rfl, x, B, dx, _, _, rfl, hx6, TB.cl, TB.nc, rulF_cond _ _ _ _ _, _, rfl, x, B, dx, _, _, rfl, hx6, TB.cl, TB.ng, rulF_gives _ _ _ _ _, by show 1 ≤ sizeLine; decide, fun gl hgl => ⟨_, rfl, by show 1 ≤ sizeLine; decide, fun h hh => ?_⟩⟩
    have S7 : Same H6 (upd (upd H6 gl (.lst [.ref g])) h (.lst [.str b])) := (Same.upd hgl).trans (Same.upd hh)
    have S67 := S6.trans S7
    refine ⟨nm, t1, t2, gl, h, ps, qs, [g], vars, cs, [gt], [b], rfl, SqT.of (S7 _ _ h16), hv.same S67, SqT.of (S7 _ _ h26), hc.same S67, SqL.of (Same.upd hh _ _ upd_same), ⟨SqT.of (S67 _ _ hg), True.intro⟩, SqL.of upd_same, o1, o2, (show 1 ≤ 1 from Nat.le_refl 1), (show 1 ≤ 1 from Nat.le_refl 1), hz, ?_⟩
    refine (Rfs.same S67 k).map fun _ H8 hS8 kk => ?_
    exact kk t1 t2 (hS8 _ _ (S7 _ _ hx6)) (hS8 _ _ (S7 _ _ h16)) (hS8 _ _ (S7 _ _ h26))
end
end Wm
namespace Wm
open PySem PySem.Spec PyProof.Rows L2
/-! tuple * 0 and tuple * 1 -/
theorem tuple_mulB (l : Addr) (items : Array Value) (n : Nat) (dd : Option Addr) (sl : Array (Option Value)) (b : Bool) (u : Tok) (ne : items.isEmpty = false) :
    Meets (Builtin.«tuple.__mul__» ⟨[.ref l, .int (if b then 1 else 0) u], []⟩) (fun _ R s => s.heap.get? l = some { cls := .type "tuple", dict := dd, data := .seq items n, slots := sl } ∧
      (if b then R (.ok (.ret (Value.ref l))) s else R (.ok (.ret (Value.ref s.heap.objs.size))) { s with heap := s.heap.push { cls := Value.type "tuple", data := Data.seq #[] }, toks := s.toks })) :=
  .of_wp fun pg wd Ar Rs st0 hyp => by
    obtain ⟨h0, g0, d0, t0, o0⟩ := st0
    obtain ⟨at_l, fin⟩ := hyp
    have by_int := AutoSeq1.idx_int
    cases b with
    | true =>
      wp_walk using wpAny_loadPart' at_l
      repeat (first
        | (refine wpAny_ite_false (decide_eq_false (by decide)) ?_; wp_walk using wpAny_loadPart' at_l)
        | (refine wpAny_ite_true (decide_eq_true (by simp)) ?_; wp_walk using wpAny_loadPart' at_l)
        | (refine wpAny_ite_true (by simp) ?_; wp_walk using wpAny_loadPart' at_l))
      exact ⟨_, rfl, fin⟩
    | false =>
      wp_walk using wpAny_loadPart' at_l
      repeat (first
        | (refine wpAny_ite_false (decide_eq_false (by decide)) ?_; wp_walk using wpAny_loadPart' at_l)
        | (refine wpAny_ite_false (decide_eq_false (by simp [ne])) ?_; wp_walk using wpAny_loadPart' at_l)
        | (refine wpAny_ite_true (by simp) ?_; wp_walk using wpAny_loadPart' at_l))
      exact ⟨_, rfl, fin⟩
def rRepB (K : PySem.W.Frag) : R2 := fun x y H Q => ∃ (l : Addr) (b : Bool) (xs : List V), x = .ref l ∧ y = .int (if b then 1 else 0) ∧ SqT K H l xs ∧ xs ≠ [] ∧ if b = true then Q (.ref l) H else ∀ p, H p = none → Q (.ref p) (upd H p (.tup []))
theorem op_repB {X : Cx} : OpR X (binaryOp .Mult) (rRepB X.K) := by
  intro pins s σs H0 x y v u Q J rx ry ⟨l, b, xs, ex, ey, ht, hne, q⟩
  subst ex ey
  cases rx with
  | refl =>
    obtain ⟨tk, rfl⟩ := ry
    obtain ⟨ws, rw0, ⟨⟨c0, d0, dt0, s0⟩, at0, ec0, m0, ed0⟩, _⟩ := J.tuple ht
    cases ec0
    cases ed0
    have full : ws.toArray.isEmpty = false := by
      cases ws with
      | nil => exact absurd (List.length_eq_zero_iff.mp rw0.length) hne
      | cons _ _ => rfl
    have T0 := fun s' => typeIs_int s' (if b then 1 else 0) tk
    refine wpAny_binaryOp_repeat_ref (U := "int") (T := "tuple") (by decide) ⟨_, at0, rfl⟩ T0 noFill_tuple_mul F.fills_int_mul F.slot_int_rmul repeat_tuple F.slot_int_index.lookup ?_
    refine call_meets F.slot_int_rmul (T0 _) F.entry_int_rmul (F.args_int_rmul_2 _ _) (int_rmul_tuple _ tk l ws.toArray m0 d0 s0) ⟨at0, rfl, ⟨_, at0, rfl⟩, ?_⟩
    refine call_meets F.slot_tuple_mul ⟨_, at0, rfl⟩ F.entry_tuple_mul (F.args_tuple_mul_2 _ _) (tuple_mulB l ws.toArray m0 d0 s0 b tk full) ⟨at0, ?_⟩
    cases b
    · exact ⟨.ref s.heap.objs.size, _, J.laid (t' := s.toks) (o := .tup []) (fun _ _ e => Heap.get?_push_of_some _ e) (Nat.le_refl _) ⟨Nat.zero_le _, _, .nil, IsTup.new _ _⟩, rfl, q _ (J.hok.fresh (Nat.le_refl _))⟩
    · exact ⟨.ref l, H0, J, rfl, q⟩
end Wm
namespace Wm
open PySem L2 StX
def rIsG (K : PySem.W.Frag) (cls : Value) (d : Option Addr) (a : Addr) : List V → Hp → VK → Prop := fun xs H Q => ∃ (D dd : Addr), cls = .ref D ∧ d = some dd ∧ ExcC K D ∧ rIsX K D a dd xs H Q
theorem call_isG {X : Cx} {a : Addr} {cls : Value} {d : Option Addr} {oe : Obj} {pn : List (Addr × Obj)} (hz : Zc cls d oe) (hf : ∃ vs, oe.data = .fields vs) : CallR (X.suite a ((a, oe) :: pn)) (.builtin "isinstance") (rIsG X.K cls d a) := by
  intro pins s σ H xs us Q I r h
  obtain ⟨D, dd, rfl, rfl, C, h⟩ := h
  exact call_isX C hz hf pins s σ H xs us Q I r h
/-- an error class, as the law's told asks for it: which of the eight it is -/
structure ErK (K : PySem.W.Frag) (C : Nat → Addr) (W Z : Addr) (i : Nat) : Prop where
  te : PySem.W.exmOne K (.ref Z) (.ref W) = some true
  xc : ExcC K Z
  k0 : PySem.W.kitOne K (.ref Z) (.ref (C 0)) = some (decide (i = 0))
  k1 : PySem.W.kitOne K (.ref Z) (.ref (C 1)) = some (decide (i = 1))
  k2 : PySem.W.kitOne K (.ref Z) (.ref (C 2)) = some (decide (i = 2))
  k3 : PySem.W.kitOne K (.ref Z) (.ref (C 3)) = some (decide (i = 3))
  k4 : PySem.W.kitOne K (.ref Z) (.ref (C 4)) = some (decide (i = 4))
  k5 : PySem.W.kitOne K (.ref Z) (.ref (C 5)) = some (decide (i = 5))
  k6 : PySem.W.kitOne K (.ref Z) (.ref (C 6)) = some (decide (i = 6))
  k7 : PySem.W.kitOne K (.ref Z) (.ref (C 7)) = some (decide (i = 7))
  kv : PySem.W.kitOne K (.ref Z) (.type "ValueError") = some true
structure TxE (K : PySem.W.Frag) (mg : Str → Option Value) (C : Nat → Addr) (W : Addr) : Prop where
  g0 : mg "BadCount" = some (.ref (C 0))
  g1 : mg "NoName" = some (.ref (C 1))
  g2 : mg "Twice" = some (.ref (C 2))
  g3 : mg "NoVariable" = some (.ref (C 3))
  g4 : mg "Loose" = some (.ref (C 4))
  g5 : mg "Apart" = some (.ref (C 5))
  g6 : mg "NoSort" = some (.ref (C 6))
  g7 : mg "NoWord" = some (.ref (C 7))
  gW : mg "WhoError" = some (.ref W)
  er : ∀ i, i < 6 → ErK K C W (C i) i
  xf : ∀ i, i < 6 → XfC K (C i)
  n0_what : PySem.W.findIn K (.ref (C 0)) "what" = some none
  n0_count : PySem.W.findIn K (.ref (C 0)) "count" = some none
  n1_name : PySem.W.findIn K (.ref (C 1)) "name" = some none
  n2_name : PySem.W.findIn K (.ref (C 2)) "name" = some none
  n3_name : PySem.W.findIn K (.ref (C 3)) "name" = some none
  n4_name : PySem.W.findIn K (.ref (C 4)) "name" = some none
  n5_place : PySem.W.findIn K (.ref (C 5)) "place" = some none
def tupOf : Rf → List V
  | .cnt w n => [.str "badcount", .str w, .int n]
  | .nm z => [.str "noname", .str z]
  | .tw z => [.str "twice", .str z]
  | .nov z => [.str "novariable", .str z]
  | .loose z => [.str "loose", .str z]
  | .apart i => [.str "apart", .int (i : Nat)]
theorem ix_lt (r : Rf) : ixOf r < 6 := by
  cases r <;> simp only [ixOf] <;> decide
def spTld (C : Nat → Addr) : Addr → Value → Option Addr → Sp := fun a cls d vs H Q _ => vs = [.ref a] ∧ ∃ (dd : Addr) (r : Rf), d = some dd ∧ cls = .ref (C (ixOf r)) ∧ H dd = some (.xd (fsOf r)) ∧ ∀ t H', Same H H' → H t = none → H' t = some (.tup (tupOf r)) → Q (.ref t) H'
def b2i (b : Bool) : Int := if b then 1 else 0
section
variable {P : Program} {w : World} {K : PySem.W.Frag} {mg : Str → Option Value} {base : Heap} {C : Nat → Addr}
theorem scLName : FnScope ["_law_text", "_law_sign"] ["_law_text"] (defScope sLName) := ⟨rfl, rfl, rfl, by decide +kernel, rfl, by decide +kernel, by decide +kernel⟩
theorem ok_lname {f : Addr} {fd : FuncData} (F : Fun K "_law_is_name" "_law_is_name" sLName f fd) (T : TxB mg) : FnOk P w K mg base CX0 1 f fd ["_law_text"] spName := by
  refine F.ok scLName (fun vs H Q E h => ?_) (fun cdv A outer s H vs Q E hr h => ?_)
  · obtain ⟨z, rfl, _⟩ := h
    rfl
  · obtain ⟨z, rfl, hz, k⟩ := h
    have hzl : z.length ≤ sizeLine := Nat.le_trans hz (by decide)
    refine ⟨_, (pss_cons (ps_if (PW.pt (pw_or (pt_cmpR op_eq (pv 0) pe_str (nomark _)) (pw_or (pt_cmpR op_gt (pe_callB call_len_str (by rfl) T.len (by decide +kernel) (pa_cons (pv 0) pa_nil)) pe_int (nomark _)) (pw_or1 (pt_cmpR op_in_sign (pe_ix ix_str (pv 0) pe_int (fun _ _ => rfl)) pe_str (by rfl)))))) (pss_one (ps_ret pe_bl)) pss_nil)
      (pss_one (ps_ret (pe_callB (cr_all rfl) (by rfl) T.all (by decide +kernel) (pa_cons (pe_lc (own := [("_law_sign", 1)]) (g := gName 1) rfl scLName.nd (pi_str (pv 0)) (blkOk_by (N := ["_law_text", "_law_sign"]) (sc := defScope sLName) (by decide +kernel)) (fun _ _ _ _ _ => (pg_name (i := 1) scLName.nd rfl (Or.inl rfl))) (fun _ _ _ _ _ => pts_nil) (fun _ _ _ _ _ => (pe_cmpR op_in_sign (pv 1) pe_str (by rfl)))) pa_nil))))), ?_⟩
    refine ⟨_, rfl, rfl, _, rfl, ?_⟩
    have q0 := k H (Same.refl H)
    refine ite2 (fun h1 => ?_) (fun h1 => ?_)
    · have h1' : V.str z = V.str (PySem.Str.ofString "") := of_decide_eq_true h1
      have e1 : z = PySem.Str.ofString "" := V.str.inj h1'
      refine iteT ?_
      have e : isNm z = false := by rw [e1]; decide +kernel
      rw [e] at q0
      exact q0
    have h1' : ¬ z.length < 1 := fun x => h1 (decide_eq_true (by
      have e : z.cps = #[] := Array.eq_empty_of_size_eq_zero (by show z.length = 0; omega)
      have e2 : z = PySem.Str.ofString "" := by
        cases z
        cases e
        decide +kernel
      rw [e2]))
    refine ⟨_, rfl, z, rfl, hzl, _, _, rfl, rfl, _, rfl, ?_⟩
    refine ite2 (fun h2 => ?_) (fun h2 => ?_)
    · have h2' : (12 : Int) < z.length := of_decide_eq_true h2
      refine iteT ?_
      rw [isNm_small (.inr (by omega))] at q0
      exact q0
    have h2' : ¬ 12 < z.length := fun x => h2 (decide_eq_true (by omega))
    refine ⟨_, rfl, ?_⟩
    dsimp only [tC]
    refine rdItem (n := z.length) rfl (by decide) (by omega) (by omega) fun c hc => ?_
    refine ⟨c, _, rfl, rfl, _, rfl, ?_⟩
    refine ite2 (fun h3 => ?_) (fun h3 => ?_)
    · have h3' : c ∈ FIG := of_decide_eq_true h3
      rw [isNm_fig hc h3'] at q0
      exact q0
    have h3' : ¬ c ∈ FIG := fun x => h3 (decide_eq_true x)
    refine ⟨_, rfl, z, rfl, fun D hD => ?_⟩
    refine lc_signs (z := z) (f := okc) hz hD (fun c H Q q => ?_) fun H' hS hl => ?_
    · refine q _ rfl fun Q2 q2 => ?_
      rw [← okc_alnum] at q2
      exact ⟨_, rfl, c, _, rfl, rfl, q2⟩
    · refine ⟨D, _, rfl, SqL.of hl, ?_⟩
      have q := k H' hS
      rw [isNm_all2 h1' h2' hc h3', ← all_map] at q
      exact q
theorem scTld : FnScope ["_law_e", "_law_some", "_law_one"] ["_law_e"] (defScope sTld) := ⟨rfl, rfl, rfl, by decide +kernel, rfl, by decide +kernel, by decide +kernel⟩
theorem ok_tld {f W : Addr} {fd : FuncData} (F : Fun K "_law_told" "_law_told" sTld f fd) (T : TxB mg) (tsum : mg "sum" = none) (TE : TxE K mg C W) : FnEN P w K mg base 1 f fd ["_law_e"] (spTld C) := by
  refine FunEN_ok F scTld (fun a cls d vs H Q E h => ?_) (fun cdv A outer s H vs Q E a oe cls d hz hf hr h => ?_)
  · obtain ⟨rfl, _⟩ := h
    rfl
  · obtain ⟨rfl, dd, r, rfl, rfl, hx, k⟩ := h
    obtain ⟨vf, hv⟩ := id hf
    have hn : vf[2]? = some .none := hz.2.2 vf hv
    refine ⟨_, (pss_cons (ps_set (i := 1) scTld.nd rfl (Or.inl rfl) (pe_lst (pa_cons (pe_callB (call_isG hz.zc hf) (by rfl) T.isinstance (by decide +kernel) (pa_cons (pv 0) (pa_cons (pe_glob (v := .ref (C 0)) (by rfl) TE.g0 rfl) pa_nil))) (pa_cons (pe_callB (call_isG hz.zc hf) (by rfl) T.isinstance (by decide +kernel) (pa_cons (pv 0) (pa_cons (pe_glob (v := .ref (C 1)) (by rfl) TE.g1 rfl) pa_nil))) (pa_cons (pe_callB (call_isG hz.zc hf) (by rfl) T.isinstance (by decide +kernel) (pa_cons (pv 0) (pa_cons (pe_glob (v := .ref (C 2)) (by rfl) TE.g2 rfl) pa_nil))) (pa_cons (pe_callB (call_isG hz.zc hf) (by rfl) T.isinstance (by decide +kernel) (pa_cons (pv 0) (pa_cons (pe_glob (v := .ref (C 3)) (by rfl) TE.g3 rfl) pa_nil))) pa_nil))))))
      (pss_cons (ps_set (i := 1) scTld.nd rfl (Or.inl rfl) (pe_op op_cat (pv 1) (pe_lst (pa_cons (pe_callB (call_isG hz.zc hf) (by rfl) T.isinstance (by decide +kernel) (pa_cons (pv 0) (pa_cons (pe_glob (v := .ref (C 4)) (by rfl) TE.g4 rfl) pa_nil))) (pa_cons (pe_callB (call_isG hz.zc hf) (by rfl) T.isinstance (by decide +kernel) (pa_cons (pv 0) (pa_cons (pe_glob (v := .ref (C 5)) (by rfl) TE.g5 rfl) pa_nil))) (pa_cons (pe_callB (call_isG hz.zc hf) (by rfl) T.isinstance (by decide +kernel) (pa_cons (pv 0) (pa_cons (pe_glob (v := .ref (C 6)) (by rfl) TE.g6 rfl) pa_nil))) (pa_cons (pe_callB (call_isG hz.zc hf) (by rfl) T.isinstance (by decide +kernel) (pa_cons (pv 0) (pa_cons (pe_glob (v := .ref (C 7)) (by rfl) TE.g7 rfl) pa_nil))) pa_nil)))))))
      (pss_cons (ps_if (PW.pt (pw_or (pt_cmpR op_ne (pe_callB (cr_sumH hv hn) (by rfl) tsum (by decide +kernel) (pa_cons (pe_lcH (own := [("_law_one", 2)]) (g := gName 2) rfl List.mem_cons_self hv hn scTld.nd (pv 1) (blkOk_by (N := ["_law_e", "_law_some", "_law_one"]) (sc := defScope sTld) (by decide +kernel)) (fun _ _ _ _ _ => (pg_name (i := 2) scTld.nd rfl (Or.inl rfl))) (fun _ _ _ _ _ => (pe_callTy call_int1 (by rfl) T.int (by decide +kernel) (pa_cons (pv 2) pa_nil)))) pa_nil)) pe_int (nomark _)) (pw_or1 (pt_not (pt_val (pe_callB (call_isG hz.zc hf) (by rfl) T.isinstance (by decide +kernel) (pa_cons (pv 0) (pa_cons (pe_bltn (v := .ty "ValueError") (by rfl) T.ve (by decide +kernel) rfl) pa_nil)))))))) (pss_one (ps_ret (pe_tup (pa_cons pe_str pa_nil)))) pss_nil)
      (pss_cons (ps_if (pt_val (pe_ix ix_list (pv 1) pe_int (fun _ _ => rfl))) (pss_one (ps_ret (pe_tup (pa_cons pe_str (pa_cons (pe_xf (TE.xf 0 (by decide)) TE.n0_what hz.zc hf (pv 0)) (pa_cons (pe_xf (TE.xf 0 (by decide)) TE.n0_count hz.zc hf (pv 0)) pa_nil)))))) pss_nil)
      (pss_cons (ps_if (pt_val (pe_ix ix_list (pv 1) pe_int (fun _ _ => rfl))) (pss_one (ps_ret (pe_tup (pa_cons pe_str (pa_cons (pe_xf (TE.xf 1 (by decide)) TE.n1_name hz.zc hf (pv 0)) pa_nil))))) pss_nil)
      (pss_cons (ps_if (pt_val (pe_ix ix_list (pv 1) pe_int (fun _ _ => rfl))) (pss_one (ps_ret (pe_tup (pa_cons pe_str (pa_cons (pe_xf (TE.xf 2 (by decide)) TE.n2_name hz.zc hf (pv 0)) pa_nil))))) pss_nil)
      (pss_cons (ps_if (pt_val (pe_ix ix_list (pv 1) pe_int (fun _ _ => rfl))) (pss_one (ps_ret (pe_tup (pa_cons pe_str (pa_cons (pe_xf (TE.xf 3 (by decide)) TE.n3_name hz.zc hf (pv 0)) pa_nil))))) pss_nil)
      (pss_cons (ps_if (pt_val (pe_ix ix_list (pv 1) pe_int (fun _ _ => rfl))) (pss_one (ps_ret (pe_tup (pa_cons pe_str (pa_cons (pe_xf (TE.xf 4 (by decide)) TE.n4_name hz.zc hf (pv 0)) pa_nil))))) pss_nil)
      (pss_cons (ps_if (pt_val (pe_ix ix_list (pv 1) pe_int (fun _ _ => rfl))) (pss_one (ps_ret (pe_tup (pa_cons pe_str (pa_cons (pe_xf (TE.xf 5 (by decide)) TE.n5_place hz.zc hf (pv 0)) pa_nil))))) pss_nil)
      (pss_one (ps_ret (pe_tup (pa_cons pe_str pa_nil))))))))))))), ?_⟩
    rw [show L2.start ["_law_e", "_law_some", "_law_one"] [V.ref a] = [some (.ref a), none, none] from rfl]
    have EZ := TE.er (ixOf r) (ix_lt r)
    have one : ∀ {i : Nat}, i < 6 → (([decide (i = 0), decide (i = 1), decide (i = 2), decide (i = 3), decide (i = 4), decide (i = 5), decide (i = 6), decide (i = 7)] : List Bool).map b2i).sum = 1 := by
      intro i hi
      rcases (by omega : i = 0 ∨ i = 1 ∨ i = 2 ∨ i = 3 ∨ i = 4 ∨ i = 5) with rfl | rfl | rfl | rfl | rfl | rfl <;> decide
    have one := one (ix_lt r)
    generalize hZ : C (ixOf r) = Z at EZ
    generalize hi : ixOf r = i at EZ one hZ
    refine ⟨_, rfl, Z, dd, rfl, rfl, EZ.xc, _, _, _, _, rfl, hx, (fun u r => r), EZ.k0, ?_⟩
    refine ⟨_, rfl, Z, dd, rfl, rfl, EZ.xc, _, _, _, _, rfl, hx, (fun u r => r), EZ.k1, ?_⟩
    refine ⟨_, rfl, Z, dd, rfl, rfl, EZ.xc, _, _, _, _, rfl, hx, (fun u r => r), EZ.k2, ?_⟩
    refine ⟨_, rfl, Z, dd, rfl, rfl, EZ.xc, _, _, _, _, rfl, hx, (fun u r => r), EZ.k3, ?_⟩
    refine ⟨by show 4 ≤ sizeLine; decide, fun l0 hl0 => ?_⟩
    dsimp only [gName, List.set_cons_succ, List.set_cons_zero]
    have S0 : Same H (upd H l0 (.lst [.bl (decide (i = 0)), .bl (decide (i = 1)), .bl (decide (i = 2)), .bl (decide (i = 3))])) := Same.upd hl0
    have e0 : (upd H l0 (.lst [.bl (decide (i = 0)), .bl (decide (i = 1)), .bl (decide (i = 2)), .bl (decide (i = 3))])) l0 = some (.lst [.bl (decide (i = 0)), .bl (decide (i = 1)), .bl (decide (i = 2)), .bl (decide (i = 3))]) := upd_same
    generalize upd H l0 (.lst [.bl (decide (i = 0)), .bl (decide (i = 1)), .bl (decide (i = 2)), .bl (decide (i = 3))]) = G0 at S0 e0
    have hx0 := S0 _ _ hx
    refine ⟨_, rfl, ?_⟩
    refine ⟨_, rfl, Z, dd, rfl, rfl, EZ.xc, _, _, _, _, rfl, hx0, (fun u r => r), EZ.k4, ?_⟩
    refine ⟨_, rfl, Z, dd, rfl, rfl, EZ.xc, _, _, _, _, rfl, hx0, (fun u r => r), EZ.k5, ?_⟩
    refine ⟨_, rfl, Z, dd, rfl, rfl, EZ.xc, _, _, _, _, rfl, hx0, (fun u r => r), EZ.k6, ?_⟩
    refine ⟨_, rfl, Z, dd, rfl, rfl, EZ.xc, _, _, _, _, rfl, hx0, (fun u r => r), EZ.k7, ?_⟩
    refine ⟨by show 4 ≤ sizeLine; decide, fun l1 hl1 => ?_⟩
    have S1 : Same G0 (upd G0 l1 (.lst [.bl (decide (i = 4)), .bl (decide (i = 5)), .bl (decide (i = 6)), .bl (decide (i = 7))])) := Same.upd hl1
    have e1 : (upd G0 l1 (.lst [.bl (decide (i = 4)), .bl (decide (i = 5)), .bl (decide (i = 6)), .bl (decide (i = 7))])) l1 = some (.lst [.bl (decide (i = 4)), .bl (decide (i = 5)), .bl (decide (i = 6)), .bl (decide (i = 7))]) := upd_same
    have e01 := S1 _ _ e0
    have S01 := S0.trans S1
    generalize upd G0 l1 (.lst [.bl (decide (i = 4)), .bl (decide (i = 5)), .bl (decide (i = 6)), .bl (decide (i = 7))]) = G1 at S1 e1 e01 S01
    refine ⟨l0, l1, _, _, rfl, rfl, e01, e1, by show 8 ≤ sizeLine; decide, fun l hl => ?_⟩
    dsimp only [gName, List.set_cons_succ, List.set_cons_zero]
    have S4 : Same G1 (upd G1 l (.lst ([.bl (decide (i = 0)), .bl (decide (i = 1)), .bl (decide (i = 2)), .bl (decide (i = 3))] ++ [.bl (decide (i = 4)), .bl (decide (i = 5)), .bl (decide (i = 6)), .bl (decide (i = 7))]))) := Same.upd hl
    have el : (upd G1 l (.lst ([.bl (decide (i = 0)), .bl (decide (i = 1)), .bl (decide (i = 2)), .bl (decide (i = 3))] ++ [.bl (decide (i = 4)), .bl (decide (i = 5)), .bl (decide (i = 6)), .bl (decide (i = 7))]))) l = some (.lst [.bl (decide (i = 0)), .bl (decide (i = 1)), .bl (decide (i = 2)), .bl (decide (i = 3)), .bl (decide (i = 4)), .bl (decide (i = 5)), .bl (decide (i = 6)), .bl (decide (i = 7))]) := upd_same
    have S1 := S01.trans S4
    generalize upd G1 l (.lst ([.bl (decide (i = 0)), .bl (decide (i = 1)), .bl (decide (i = 2)), .bl (decide (i = 3))] ++ [.bl (decide (i = 4)), .bl (decide (i = 5)), .bl (decide (i = 6)), .bl (decide (i = 7))])) = H1 at S4 el S1
    refine ⟨_, rfl, l, _, rfl, SqL.of el, fun Dl hD => ⟨fun j H' => H' Dl = some (.lst ((([decide (i = 0), decide (i = 1), decide (i = 2), decide (i = 3), decide (i = 4), decide (i = 5), decide (i = 6), decide (i = 7)].take j).map b2i).map V.int)) ∧ Same H1 H', ⟨upd_same, Same.upd hD⟩, fun j H' p => SqL.of (p.2 _ _ el), ?_, ?_⟩⟩
    · rintro j x H' hxj ⟨hj, sj⟩
      obtain ⟨b, hb, rfl⟩ : ∃ b, ([decide (i = 0), decide (i = 1), decide (i = 2), decide (i = 3), decide (i = 4), decide (i = 5), decide (i = 6), decide (i = 7)] : List Bool)[j]? = some b ∧ V.bl b = x := by
        have hxj : (([decide (i = 0), decide (i = 1), decide (i = 2), decide (i = 3), decide (i = 4), decide (i = 5), decide (i = 6), decide (i = 7)] : List Bool).map V.bl)[j]? = some x := hxj
        rw [List.getElem?_map] at hxj
        exact Option.map_eq_some_iff.mp hxj
      refine ⟨rfl, ⟨_, rfl, .inr ⟨b, rfl, _, hj, ?_, ?_, ?_⟩⟩⟩
      · rw [List.length_map, List.length_map, List.length_take]
        exact Nat.lt_of_le_of_lt (show min j 8 ≤ 8 from Nat.min_le_right _ _) (by decide)
      · rw [upd_same, List.take_add_one, hb, List.map_append, List.map_append]
        rfl
      · intro q o z
        rw [upd_ne (ne_of_none z hD)]
        exact sj q o z
    rintro H2 ⟨hj, s2⟩
    have hj : H2 Dl = some (.lst ((([decide (i = 0), decide (i = 1), decide (i = 2), decide (i = 3), decide (i = 4), decide (i = 5), decide (i = 6), decide (i = 7)] : List Bool).map b2i).map V.int)) := hj
    refine ⟨Dl, _, rfl, SqL.of hj, rfl, _, rfl, ?_⟩
    rw [one]
    refine ite2 (fun q => absurd q (by simp)) (fun _ => ?_)
    have S2 := S1.trans s2
    have hx2 := S2 _ _ hx
    refine ⟨_, rfl, Z, dd, rfl, rfl, EZ.xc, _, _, _, _, rfl, hx2, (fun u r => by cases r; rfl), EZ.kv, _, rfl, ?_⟩
    refine iteF ?_
    have el2 := s2 _ _ el
    subst hZ
    subst hi
    match r, hx2, k, el2 with
    | .cnt w n, hx2, k, el2 =>
      have el3 : H2 l = some (.lst [.bl true, .bl false, .bl false, .bl false, .bl false, .bl false, .bl false, .bl false]) := el2
      refine ⟨_, rfl, ?_⟩
      dsimp only [tC]
      refine rdList el3 (j := 0) rfl rfl ⟨_, rfl, ?_⟩
      refine iteT ?_
      refine ⟨_, rfl, rfl, rfl, dd, _, _, rfl, hx2, rfl, _, rfl, rfl, rfl, dd, _, _, rfl, hx2, rfl, ?_⟩
      exact ⟨by show 3 ≤ sizeLine; decide, fun t nt => k t _ (S2.trans (Same.upd nt)) (S2.free nt) upd_same⟩
    | .nm z, hx2, k, el2 =>
      have el3 : H2 l = some (.lst [.bl false, .bl true, .bl false, .bl false, .bl false, .bl false, .bl false, .bl false]) := el2
      refine ⟨_, rfl, ?_⟩
      dsimp only [tC]
      refine rdList el3 (j := 0) rfl rfl ⟨_, rfl, ?_⟩
      refine iteF ?_
      refine ⟨_, rfl, ?_⟩
      dsimp only [tC]
      refine rdList el3 (j := 1) rfl rfl ⟨_, rfl, ?_⟩
      refine iteT ?_
      refine ⟨_, rfl, rfl, rfl, dd, _, _, rfl, hx2, rfl, ?_⟩
      exact ⟨by show 2 ≤ sizeLine; decide, fun t nt => k t _ (S2.trans (Same.upd nt)) (S2.free nt) upd_same⟩
    | .tw z, hx2, k, el2 =>
      have el3 : H2 l = some (.lst [.bl false, .bl false, .bl true, .bl false, .bl false, .bl false, .bl false, .bl false]) := el2
      refine ⟨_, rfl, ?_⟩
      dsimp only [tC]
      refine rdList el3 (j := 0) rfl rfl ⟨_, rfl, ?_⟩
      refine iteF ?_
      refine ⟨_, rfl, ?_⟩
      dsimp only [tC]
      refine rdList el3 (j := 1) rfl rfl ⟨_, rfl, ?_⟩
      refine iteF ?_
      refine ⟨_, rfl, ?_⟩
      dsimp only [tC]
      refine rdList el3 (j := 2) rfl rfl ⟨_, rfl, ?_⟩
      refine iteT ?_
      refine ⟨_, rfl, rfl, rfl, dd, _, _, rfl, hx2, rfl, ?_⟩
      exact ⟨by show 2 ≤ sizeLine; decide, fun t nt => k t _ (S2.trans (Same.upd nt)) (S2.free nt) upd_same⟩
    | .nov z, hx2, k, el2 =>
      have el3 : H2 l = some (.lst [.bl false, .bl false, .bl false, .bl true, .bl false, .bl false, .bl false, .bl false]) := el2
      refine ⟨_, rfl, ?_⟩
      dsimp only [tC]
      refine rdList el3 (j := 0) rfl rfl ⟨_, rfl, ?_⟩
      refine iteF ?_
      refine ⟨_, rfl, ?_⟩
      dsimp only [tC]
      refine rdList el3 (j := 1) rfl rfl ⟨_, rfl, ?_⟩
      refine iteF ?_
      refine ⟨_, rfl, ?_⟩
      dsimp only [tC]
      refine rdList el3 (j := 2) rfl rfl ⟨_, rfl, ?_⟩
      refine iteF ?_
      refine ⟨_, rfl, ?_⟩
      dsimp only [tC]
      refine rdList el3 (j := 3) rfl rfl ⟨_, rfl, ?_⟩
      refine iteT ?_
      refine ⟨_, rfl, rfl, rfl, dd, _, _, rfl, hx2, rfl, ?_⟩
      exact ⟨by show 2 ≤ sizeLine; decide, fun t nt => k t _ (S2.trans (Same.upd nt)) (S2.free nt) upd_same⟩
    | .loose z, hx2, k, el2 =>
      have el3 : H2 l = some (.lst [.bl false, .bl false, .bl false, .bl false, .bl true, .bl false, .bl false, .bl false]) := el2
      refine ⟨_, rfl, ?_⟩
      dsimp only [tC]
      refine rdList el3 (j := 0) rfl rfl ⟨_, rfl, ?_⟩
      refine iteF ?_
      refine ⟨_, rfl, ?_⟩
      dsimp only [tC]
      refine rdList el3 (j := 1) rfl rfl ⟨_, rfl, ?_⟩
      refine iteF ?_
      refine ⟨_, rfl, ?_⟩
      dsimp only [tC]
      refine rdList el3 (j := 2) rfl rfl ⟨_, rfl, ?_⟩
      refine iteF ?_
      refine ⟨_, rfl, ?_⟩
      dsimp only [tC]
      refine rdList el3 (j := 3) rfl rfl ⟨_, rfl, ?_⟩
      refine iteF ?_
      refine ⟨_, rfl, ?_⟩
      dsimp only [tC]
      refine rdList el3 (j := 4) rfl rfl ⟨_, rfl, ?_⟩
      refine iteT ?_
      refine ⟨_, rfl, rfl, rfl, dd, _, _, rfl, hx2, rfl, ?_⟩
      exact ⟨by show 2 ≤ sizeLine; decide, fun t nt => k t _ (S2.trans (Same.upd nt)) (S2.free nt) upd_same⟩
    | .apart i, hx2, k, el2 =>
      have el3 : H2 l = some (.lst [.bl false, .bl false, .bl false, .bl false, .bl false, .bl true, .bl false, .bl false]) := el2
      refine ⟨_, rfl, ?_⟩
      dsimp only [tC]
      refine rdList el3 (j := 0) rfl rfl ⟨_, rfl, ?_⟩
      refine iteF ?_
      refine ⟨_, rfl, ?_⟩
      dsimp only [tC]
      refine rdList el3 (j := 1) rfl rfl ⟨_, rfl, ?_⟩
      refine iteF ?_
      refine ⟨_, rfl, ?_⟩
      dsimp only [tC]
      refine rdList el3 (j := 2) rfl rfl ⟨_, rfl, ?_⟩
      refine iteF ?_
      refine ⟨_, rfl, ?_⟩
      dsimp only [tC]
      refine rdList el3 (j := 3) rfl rfl ⟨_, rfl, ?_⟩
      refine iteF ?_
      refine ⟨_, rfl, ?_⟩
      dsimp only [tC]
      refine rdList el3 (j := 4) rfl rfl ⟨_, rfl, ?_⟩
      refine iteF ?_
      refine ⟨_, rfl, ?_⟩
      dsimp only [tC]
      refine rdList el3 (j := 5) rfl rfl ⟨_, rfl, ?_⟩
      refine iteT ?_
      refine ⟨_, rfl, rfl, rfl, dd, _, _, rfl, hx2, rfl, ?_⟩
      exact ⟨by show 2 ≤ sizeLine; decide, fun t nt => k t _ (S2.trans (Same.upd nt)) (S2.free nt) upd_same⟩
end
end Wm
namespace Wm
open PySem L2 StX
theorem rows_imp {K : PySem.W.Frag} {H H' : Hp} (s : ∀ {q : Addr} {xs : List V}, SqT K H q xs → SqT K H' q xs) : ∀ {ps : List Addr} {rs : List (List V)}, RowsAt K H ps rs → RowsAt K H' ps rs
  | [], [], _ => True.intro
  | _ :: _, _ :: _, h => ⟨s h.1, rows_imp s h.2⟩
  | [], _ :: _, h => h.elim
  | _ :: _, [], h => h.elim
def NotSt (o : HO) : Prop := ∀ x y z : Int, o ≠ .lst [.int x, .int y, .int z]
def Kp (H H' : Hp) : Prop := ∀ a o, NotSt o → H a = some o → H' a = some o
theorem Kp.refl (H : Hp) : Kp H H := fun _ _ _ h => h
theorem Kp.trans {H H1 H2 : Hp} (a : Kp H H1) (b : Kp H1 H2) : Kp H H2 := fun c o n h => b c o n (a c o n h)
theorem Same.kp {H H' : Hp} (s : Same H H') : Kp H H' := fun a o _ h => s a o h
theorem But.kp {p : Addr} {H H' : Hp} (b : But p H H') (s : StOk H p) : Kp H H' := fun a o n h => by
  obtain ⟨x, y, z, e, _⟩ := s
  refine b a o (fun q => ?_) h
  rw [q, e] at h
  exact n x y z (Option.some.inj h).symm
theorem Kp.new {D : Addr} {H H' : Hp} {o : HO} (k : Kp H H') (h : H D = none) : Kp H (upd H' D o) := fun a u n e => by
  rw [upd_ne (ne_of_none e h)]
  exact k a u n e
theorem ns_tup {xs : List V} : NotSt (.tup xs) := fun _ _ _ z => by cases z
theorem ns_dK {xs : List (L2.Key × V)} : NotSt (.dK xs) := fun _ _ _ z => by cases z
theorem ns_ins {C d : Addr} {fs : List (Str × V)} : NotSt (.ins C d fs) := fun _ _ _ z => by cases z
theorem ns_strs {xs : List Str} : NotSt (.lst (xs.map V.str)) := fun _ _ _ z => by
  cases xs with
  | nil => cases z
  | cons a r =>
    have e := HO.lst.inj z
    rw [List.map_cons] at e
    cases (List.cons.inj e).1
theorem ns_refs {xs : List Addr} : NotSt (.lst (xs.map V.ref)) := fun _ _ _ z => by
  cases xs with
  | nil => cases z
  | cons a r =>
    have e := HO.lst.inj z
    rw [List.map_cons] at e
    cases (List.cons.inj e).1
theorem ns_nil : NotSt (.lst []) := fun _ _ _ z => by cases z
theorem ns_frz {ob : Obj} {u : HO} : NotSt (.frz ob u) := fun _ _ _ z => by cases z
theorem Kp.sqT {K : PySem.W.Frag} {H H' : Hp} {a : Addr} {xs : List V} (e : Kp H H') (h : SqT K H a xs) : SqT K H' a xs := by
  rcases h with (h | ⟨o, h⟩) | h
  · exact .inl (.inl (e _ _ ns_tup h))
  · exact .inl (.inr ⟨o, e _ _ ns_frz h⟩)
  · exact .inr h
theorem Kp.rows {K : PySem.W.Frag} {H H' : Hp} (e : Kp H H') {ps : List Addr} {rs : List (List V)} (h : RowsAt K H ps rs) : RowsAt K H' ps rs := rows_imp (fun q => e.sqT q) h
/-- a list is written: tuples stand -/
theorem sqT_put {K : PySem.W.Frag} {H : Hp} {l a : Addr} {ys : List V} {o : HO} {xs : List V} (hl : H l = some (.lst ys)) (h : SqT K H a xs) : SqT K (upd H l o) a xs := by
  rcases h with (h | ⟨ob, h⟩) | h
  · exact .inl (.inl (by rw [upd_ne (ne_of h hl (by intro z; cases z))]; exact h))
  · exact .inl (.inr ⟨ob, by rw [upd_ne (ne_of h hl (by intro z; cases z))]; exact h⟩)
  · exact .inr h
theorem rows_put {K : PySem.W.Frag} {H : Hp} {l : Addr} {ys : List V} {o : HO} (hl : H l = some (.lst ys)) {ps : List Addr} {rs : List (List V)} (h : RowsAt K H ps rs) : RowsAt K (upd H l o) ps rs := rows_imp (fun q => sqT_put hl q) h
theorem But.ne {p a : Addr} {H : Hp} {o : HO} (s : StOk H p) (h : H a = some o) (n : NotSt o) : a ≠ p := fun q => by
  obtain ⟨x, y, z, e, _⟩ := s
  rw [q, e] at h
  exact n x y z (Option.some.inj h).symm
theorem endsL_app (a b : List Tri) : endsL (a ++ b) = endsL a ++ endsL b := by
  unfold endsL
  rw [List.flatMap_append]
theorem same_make {H : Hp} {x dx C : Addr} (nx : H x = none) (ndx : H dx = none) : Same H (upd (upd H dx (.own x)) x (.ins C dx [])) := fun b o e => by
  rw [upd_ne (ne_of_none e nx), upd_ne (ne_of_none e ndx)]
  exact e
theorem cut1 {a R : TS} {D : Ends} {σ : L2.St} {H : Hp} (Good : L2.St → Hp → Prop) (fin : ∀ σ' H', Good σ' H' → R D σ' H') (h : ∀ R' : TS, (∀ σ' H', Good σ' H' → R' D σ' H') → tSeq a R' D σ H) : tSeq a R D σ H := h R fin
structure Tx3 (mg : Str → Option Value) : Prop where
  list : mg "list" = none
  zip : mg "zip" = none
theorem ixN_nat {n j : Nat} (h : j < n) : L2.ixN n (j : Int) = some j := by
  unfold L2.ixN
  rw [if_pos (by omega), if_pos (by omega)]
  simp
theorem ns_two {x y : Int} : NotSt (.lst [.int x, .int y]) := fun _ _ _ z => by cases z
theorem rows_at {K : PySem.W.Frag} {H : Hp} : ∀ {ps : List Addr} {rs : List (List V)}, ps.length = rs.length → (∀ (i : Nat) p r, ps[i]? = some p → rs[i]? = some r → SqT K H p r) → RowsAt K H ps rs
  | [], [], _, _ => True.intro
  | [], _ :: _, h, _ => by cases h
  | _ :: _, [], h, _ => by cases h
  | p :: ps, r :: rs, h, k => ⟨k 0 p r rfl rfl, rows_at (Nat.succ.inj h) fun i a b ha hb => k (i + 1) a b (by simpa using ha) (by simpa using hb)⟩
/-! ### what the law draws -/
def Dr (z : Str) : Prop := z.length ≤ 13 ∧ okS z
instance (z : Str) : Decidable (okS z) := inferInstanceAs (Decidable (∀ c ∈ z.cps.toList, c < 1114112))
instance (z : Str) : Decidable (Dr z) := inferInstanceAs (Decidable (_ ∧ _))
theorem dr_nm {z : Str} (h : NmP z) (l : z.length ≤ 6) : Dr z := ⟨by omega, h.ok⟩
abbrev BADS : List Str := ["", "A", "9a", "a b", "abcdefghijklm", "a_", "-"]
theorem bads_ok : ∀ z ∈ BADS, Dr z := by decide +kernel
theorem list_at {zs : List Str} (ok : ∀ z ∈ zs, Dr z) {d : Int} (h0 : 0 ≤ d) (h : d < zs.length) : ∃ z, (zs.map V.str)[d.toNat]? = some (.str z) ∧ Dr z := by
  have l : d.toNat < zs.length := by omega
  exact ⟨zs[d.toNat], by rw [List.getElem?_map, List.getElem?_eq_getElem l]; rfl, ok _ (List.getElem_mem l)⟩
abbrev LORD : Str := PySem.Str.ofString "lord"
abbrev BOX : Str := PySem.Str.ofString "box"
theorem sort_at {d : Int} (h0 : 0 ≤ d) (h3 : d < 4) : ∃ o : Option Str, ([V.non, .non, .str LORD, .str BOX] : List V)[d.toNat]? = some (sortV o) ∧ ∀ z, o = some z → Dr z := by
  rcases (by omega : d = 0 ∨ d = 1 ∨ d = 2 ∨ d = 3) with rfl | rfl | rfl | rfl
  · exact ⟨none, rfl, fun z e => by cases e⟩
  · exact ⟨none, rfl, fun z e => by cases e⟩
  · exact ⟨some LORD, rfl, fun z e => by cases e; decide +kernel⟩
  · exact ⟨some BOX, rfl, fun z e => by cases e; decide +kernel⟩
def spBad : Sp := fun vs H Q _ => ∃ p : Addr, vs = [.ref p] ∧ StOk H p ∧ ∀ z H', Dr z → But p H H' → StOk H' p → Q (.str z) H'
def VarsOk (vars : List Var) : Prop := ∀ v ∈ vars, Dr v.1 ∧ ∀ z, v.2 = some z → Dr z
def VsAt (K : PySem.W.Frag) (H : Hp) (lv : Addr) (vars : List Var) : Prop := ∃ us : List Addr, H lv = some (.lst (us.map V.ref)) ∧ RowsAt K H us (vars.map varV)
def spVar (K : PySem.W.Frag) : Sp := fun vs H Q _ => ∃ (p ls : Addr) (a b : Int), vs = [.ref p, .ref ls] ∧ StOk H p ∧ H ls = some (.lst [.int a, .int b]) ∧ ∀ lv H' vars, But p H H' → StOk H' p → VsAt K H' lv vars → vars.length ≤ 5 → VarsOk vars → Q (.ref lv) H'
section
variable {P : Program} {w : World} {K : PySem.W.Frag} {mg : Str → Option Value} {base : Heap}
theorem scBad : FnScope ["_law_s"] ["_law_s"] (defScope sBad) := ⟨rfl, rfl, rfl, by decide +kernel, rfl, by decide +kernel, by decide +kernel⟩
theorem ok_bad {f fG : Addr} {fd dG : FuncData} (F : Fun K "_law_bad" "_law_bad" sBad f fd) (DG : Dn K mg "_law_digit" sDigit ["_law_state_here", "_law_base"] fG dG) : FnOk P w K mg base CX0 2 f fd ["_law_s"] spBad := by
  have GG : FnOk P w K mg base CX0 1 fG dG _ spDigit := ok_digit DG.F
  refine F.ok scBad (fun vs H Q E h => ?_) (fun cdv A outer s H vs Q E hr h => ?_)
  · obtain ⟨p, rfl, _⟩ := h
    rfl
  · obtain ⟨p, rfl, hS, k⟩ := h
    have hr1 : Room 1 _ := hr
    refine ⟨_, (pss_one (ps_ret (pe_ix ix_list (pe_lst (pa_cons pe_str (pa_cons pe_str (pa_cons pe_str (pa_cons pe_str (pa_cons pe_str (pa_cons pe_str (pa_cons pe_str pa_nil)))))))) (pe_call GG hr1 rfl DG.g DG.F.kp DG.b .nil pass0 (pa_cons (pv 0) (pa_cons pe_int pa_nil))) (fun _ _ => rfl)))), ?_⟩
    rw [show L2.start ["_law_s"] [V.ref p] = [some (.ref p)] from rfl]
    refine ⟨by show 7 ≤ sizeLine; decide, fun l hl => ?_⟩
    have nlp := st_free hS hl
    refine ⟨_, rfl, p, 7, rfl, hS.upd nlp, by decide, by decide, fun d H2 a2 b2 B2 S2 => ?_⟩
    obtain ⟨z, hz, dz⟩ := list_at bads_ok a2 b2
    refine rdList (B2 l _ nlp upd_same) (j := d.toNat) (by omega) hz ?_
    exact k z H2 dz (fun q o n e => B2 q o n (by rw [upd_ne (ne_of_none e hl)]; exact e)) S2
theorem scVar : FnScope ["_law_s", "_law_spoils", "_law_many", "_law_names_here", "_law_sorts", "_law_name_here"] ["_law_s", "_law_spoils"] (defScope sVar) := ⟨rfl, rfl, rfl, by decide +kernel, rfl, by decide +kernel, by decide +kernel⟩
theorem ok_var {f fG fN fB : Addr} {fd dG dN dB : FuncData} (F : Fun K "_law_variables" "_law_variables" sVar f fd) (T : TxB mg) (T3 : Tx3 mg) (DG : Dn K mg "_law_digit" sDigit ["_law_state_here", "_law_base"] fG dG) (DN : Dn K mg "_law_names" sNms ["_law_s", "_law_many"] fN dN) (GN : FnOk P w K mg base CX0 3 fN dN ["_law_s", "_law_many"] spNms)
    (DBd : Dn K mg "_law_bad" sBad ["_law_s"] fB dB) : FnOk P w K mg base CX0 4 f fd ["_law_s", "_law_spoils"] (spVar K) := by
  have GG : FnOk P w K mg base CX0 1 fG dG _ spDigit := ok_digit DG.F
  have GBd : FnOk P w K mg base CX0 2 fB dB _ spBad := ok_bad DBd.F DG
  refine F.ok scVar (fun vs H Q E h => ?_) (fun cdv A outer s H vs Q E hr h => ?_)
  · obtain ⟨p, ls, a, b, rfl, _⟩ := h
    rfl
  · obtain ⟨p, ls, ja, jb, rfl, hS, hls, k⟩ := h
    have hr1 : Room 1 _ := hr.mono (by decide)
    have hr2 : Room 2 _ := hr.mono (by decide)
    have hr3 : Room 3 _ := hr
    have nls : ls ≠ p := But.ne hS hls ns_two
    refine ⟨_, (pss_cons (ps_set (i := 2) scVar.nd rfl (Or.inl rfl) (pe_op op_add pe_int (pe_call GG hr1 rfl DG.g DG.F.kp DG.b .nil pass0 (pa_cons (pv 0) (pa_cons pe_int pa_nil)))))
      (pss_cons (ps_if (pt_cmpR op_in_seq pe_int (pv 1) (by rfl)) (pss_one (ps_set (i := 2) scVar.nd rfl (Or.inl rfl) (pe_ix ix_list (pe_lst (pa_cons pe_int (pa_cons pe_int pa_nil))) (pe_call GG hr1 rfl DG.g DG.F.kp DG.b .nil pass0 (pa_cons (pv 0) (pa_cons pe_int pa_nil))) (fun _ _ => rfl)))) pss_nil)
      (pss_cons (ps_set (i := 3) scVar.nd rfl (Or.inl rfl) (pe_call GN hr3 rfl DN.g DN.F.kp DN.b .nil pass0 (pa_cons (pv 0) (pa_cons (pv 2) pa_nil))))
      (pss_cons (ps_if (PW.pt (pw_and (pt_cmpR op_in_seq pe_int (pv 1) (by rfl)) (pw_and1 (pt_cmpR op_gt (pv 2) pe_int (nomark _))))) (pss_one (ps_asg (pe_ix ix_list (pv 3) (pe_call GG hr1 rfl DG.g DG.F.kp DG.b .nil pass0 (pa_cons (pv 0) (pa_cons (pv 2) pa_nil))) (fun _ _ => rfl)) (pg_sub (pv 3) (pe_call GG hr1 rfl DG.g DG.F.kp DG.b .nil pass0 (pa_cons (pv 0) (pa_cons (pv 2) pa_nil))) set_list))) pss_nil)
      (pss_cons (ps_if (PW.pt (pw_and (pt_cmpR op_in_seq pe_int (pv 1) (by rfl)) (pw_and1 (pt_cmpR op_gt (pv 2) pe_int (nomark _))))) (pss_one (ps_asg (pe_call GBd hr2 rfl DBd.g DBd.F.kp DBd.b .nil pass0 (pa_cons (pv 0) pa_nil)) (pg_sub (pv 3) (pe_call GG hr1 rfl DG.g DG.F.kp DG.b .nil pass0 (pa_cons (pv 0) (pa_cons (pv 2) pa_nil))) set_list))) pss_nil)
      (pss_cons (ps_setLc (i := 4) (own := [("_law_name_here", 5)]) (g := gName 5) (tt := tYes) (te := (tOp (rIxL K) (tLst (tCons (tC .non) (tCons (tC .non) (tCons (tC (.str (PySem.Str.ofString "lord"))) (tCons (tC (.str (PySem.Str.ofString "box"))) tNil))))) (tCall spDigit [] E0 (tCons (tVar 0) (tCons (tC (.int 4)) tNil))))) rfl scVar.nd rfl rfl (sw_true rfl rfl rfl (by decide +kernel)) (pi_list (pv 3)) (blkOk_by (N := ["_law_s", "_law_spoils", "_law_many", "_law_names_here", "_law_sorts", "_law_name_here"]) (sc := defScope sVar) (by decide +kernel)) (fun _ _ _ _ _ => (pg_name (i := 5) scVar.nd rfl (Or.inl rfl))) (fun _ _ _ _ _ => pts_nil) (fun _ _ _ _ _ => (pe_ix ix_list (pe_lst (pa_cons pe_non (pa_cons pe_non (pa_cons pe_str (pa_cons pe_str pa_nil))))) (pe_call GG hr1 rfl DG.g DG.F.kp DG.b .nil pass0 (pa_cons (pv 0) (pa_cons pe_int pa_nil))) (fun _ _ => rfl))))
      (pss_cons (ps_if (PW.pt (pw_and (pt_cmpR op_in_seq pe_int (pv 1) (by rfl)) (pw_and1 (pt_cmpR op_gt (pv 2) pe_int (nomark _))))) (pss_one (ps_asg (pe_call GBd hr2 rfl DBd.g DBd.F.kp DBd.b .nil pass0 (pa_cons (pv 0) pa_nil)) (pg_sub (pv 4) (pe_call GG hr1 rfl DG.g DG.F.kp DG.b .nil pass0 (pa_cons (pv 0) (pa_cons (pv 2) pa_nil))) set_list))) pss_nil)
      (pss_one (ps_ret (pe_listZip (by rfl) (by rfl) T3.list (by rfl) T3.zip (pa_cons (pv 3) (pa_cons (pv 4) pa_nil)) (fun h q => Same.seq h q))))))))))), ?_⟩
    rw [show L2.start ["_law_s", "_law_spoils", "_law_many", "_law_names_here", "_law_sorts", "_law_name_here"] [V.ref p, V.ref ls] = [some (.ref p), some (.ref ls), none, none, none, none] from rfl]
    refine ⟨_, rfl, p, 4, rfl, hS, by decide, by decide, fun d H1 a1 b1 B1 S1 => ⟨_, _, rfl, rfl, ?_⟩⟩
    dsimp only [gName, List.set_cons_succ, List.set_cons_zero]
    refine cut1 (fun σ' H' => ∃ m : Int, σ' = [some (.ref p), some (.ref ls), some (.int m), none, none, none] ∧ 0 ≤ m ∧ m ≤ 5 ∧ But p H H' ∧ StOk H' p) ?_ ?_
    rotate_left
    · intro R fin
      refine ⟨_, rfl, ls, _, rfl, .inl (SqL.of (B1 _ _ nls hls)), rfl, rfl, _, rfl, ite2 (fun _ => ?_) (fun _ => ?_)⟩
      · refine ⟨by show 2 ≤ sizeLine; decide, fun l hl => ?_⟩
        have nlp := st_free S1 hl
        refine ⟨_, rfl, p, 2, rfl, S1.upd nlp, by decide, by decide, fun d2 H2 a2 b2 B2 S2 => ?_⟩
        obtain ⟨m, hm, m0, m5⟩ : ∃ m : Int, ([V.int 0, .int 5] : List V)[d2.toNat]? = some (.int m) ∧ 0 ≤ m ∧ m ≤ 5 := by
          rcases (by omega : d2 = 0 ∨ d2 = 1) with rfl | rfl
          · exact ⟨0, rfl, by decide, by decide⟩
          · exact ⟨5, rfl, by decide, by decide⟩
        refine rdList (B2 l _ nlp upd_same) (j := d2.toNat) (by omega) hm ?_
        exact fin _ _ ⟨m, rfl, m0, m5, fun q o n e => B2 q o n (by rw [upd_ne (ne_of_none (B1 _ _ n e) hl)]; exact B1 _ _ n e), S2⟩
      · exact fin _ _ ⟨_, rfl, by omega, by omega, B1, S1⟩
    rintro σ' H2 ⟨m, rfl, m0, m5, B2, S2⟩
    refine ⟨_, rfl, _, rfl, p, m, rfl, S2, m0, by omega, fun zs ln H3 n1 n1p B3 S3 h3 zl znd znm => ?_⟩
    dsimp only [gName, List.set_cons_succ, List.set_cons_zero]
    have B03 := B2.trans B3
    have f0 : H ln = none := B2.free n1p n1
    have zok : ∀ z ∈ zs, Dr z := fun z hz => dr_nm (znm z hz).1 (znm z hz).2
    have wl : ∀ {H1 H2 : Hp} {zs : List Str} {o : HO}, But p H H1 → But p H (upd H1 ln o) := fun b => but_new b n1p f0
    refine cut1 (fun σ' H' => ∃ zs : List Str, σ' = [some (.ref p), some (.ref ls), some (.int m), some (.ref ln), none, none] ∧ H' ln = some (.lst (zs.map V.str)) ∧ zs.length = m.toNat ∧ (∀ z ∈ zs, Dr z) ∧ But p H H' ∧ StOk H' p) ?_ ?_
    rotate_left
    · intro R fin
      refine ⟨_, rfl, ls, _, rfl, .inl (SqL.of (B03 _ _ nls hls)), rfl, rfl, _, rfl, ite2 (fun _ => ⟨_, rfl, _, _, rfl, rfl, _, rfl, ite2 (fun hm => ?_) (fun _ => ?_)⟩) (fun _ => iteF ?_)⟩
      · have hm' : 1 < m := of_decide_eq_true hm
        refine ⟨_, rfl, _, rfl, _, rfl, p, m, rfl, S3, by omega, by omega, fun d4 H4 a4 b4 B4 S4 => ?_⟩
        have h4 := B4 _ _ n1p h3
        have l4 : d4.toNat < zs.length := by omega
        refine rdList h4 (j := d4.toNat) (v := .str zs[d4.toNat]) (by omega) (by rw [List.getElem?_map, List.getElem?_eq_getElem l4]; rfl) ?_
        refine ⟨_, rfl, _, rfl, _, rfl, p, m, rfl, S4, by omega, by omega, fun d5 H5 a5 b5 B5 S5 => ?_⟩
        have h5 := B5 _ _ n1p h4
        obtain ⟨j, rfl⟩ : ∃ n : Nat, d5 = (n : Int) := ⟨d5.toNat, by omega⟩
        refine ⟨ln, _, _, j, rfl, rfl, h5, ixN_nat (by rw [List.length_map]; omega), ?_⟩
        refine fin _ _ ⟨zs.set j zs[d4.toNat], rfl, by rw [upd_same, List.map_set], by rw [List.length_set]; exact zl, fun z hz => ?_, but_new (B03.trans (B4.trans B5)) n1p f0, S5.upd n1p⟩
        rcases List.mem_or_eq_of_mem_set hz with q | q
        · exact zok z q
        · rw [q]
          exact zok _ (List.getElem_mem l4)
      · exact fin _ _ ⟨zs, rfl, h3, zl, zok, B03, S3⟩
      · exact fin _ _ ⟨zs, rfl, h3, zl, zok, B03, S3⟩
    clear h3 zl zok znd znm wl
    rintro σ' H4 ⟨zs, rfl, h4, zl, zok, B4, S4⟩
    refine cut1 (fun σ' H' => ∃ zs : List Str, σ' = [some (.ref p), some (.ref ls), some (.int m), some (.ref ln), none, none] ∧ H' ln = some (.lst (zs.map V.str)) ∧ zs.length = m.toNat ∧ (∀ z ∈ zs, Dr z) ∧ But p H H' ∧ StOk H' p) ?_ ?_
    rotate_left
    · intro R fin
      refine ⟨_, rfl, ls, _, rfl, .inl (SqL.of (B4 _ _ nls hls)), rfl, rfl, _, rfl, ite2 (fun _ => ⟨_, rfl, _, _, rfl, rfl, _, rfl, ite2 (fun hm => ?_) (fun _ => ?_)⟩) (fun _ => iteF ?_)⟩
      · have hm' : 0 < m := of_decide_eq_true hm
        refine ⟨_, rfl, p, rfl, S4, fun y H5 dy B5 S5 => ?_⟩
        refine ⟨_, rfl, _, rfl, _, rfl, p, m, rfl, S5, by omega, by omega, fun d5 H6 a5 b5 B6 S6 => ?_⟩
        obtain ⟨j, rfl⟩ : ∃ n : Nat, d5 = (n : Int) := ⟨d5.toNat, by omega⟩
        refine ⟨ln, _, _, j, rfl, rfl, B6 _ _ n1p (B5 _ _ n1p h4), ixN_nat (by rw [List.length_map]; omega), ?_⟩
        refine fin _ _ ⟨zs.set j y, rfl, by rw [upd_same, List.map_set], by rw [List.length_set]; exact zl, fun z hz => ?_, but_new (B4.trans (B5.trans B6)) n1p f0, S6.upd n1p⟩
        rcases List.mem_or_eq_of_mem_set hz with q | q
        · exact zok z q
        · rw [q]
          exact dy
      · exact fin _ _ ⟨zs, rfl, h4, zl, zok, B4, S4⟩
      · exact fin _ _ ⟨zs, rfl, h4, zl, zok, B4, S4⟩
    clear h4 zl zok
    rintro σ' H5 ⟨zs, rfl, h5, zl, zok, B5, S5⟩
    -- the sorts
    refine ⟨_, rfl, ln, rfl, ⟨_, SqL.of h5⟩, fun D hD => ?_⟩
    have nDp : D ≠ p := st_free S5 hD
    have nlD : ln ≠ D := ne_of_none h5 hD
    have fD : H D = none := B5.free nDp hD
    refine lc_list (K := K) (a := ln) (xs := zs.map V.str) (fun i H' => (∀ q o, q ≠ p → q ≠ D → H5 q = some o → H' q = some o) ∧ StOk H' p ∧ ∃ os : List (Option Str), H' D = some (.lst (os.map sortV)) ∧ os.length = i ∧ ∀ o ∈ os, ∀ z, o = some z → Dr z) ⟨fun q o n1 n2 e => by rw [upd_ne n2]; exact e, S5.upd nDp, [], upd_same, rfl, fun o ho => (List.not_mem_nil ho).elim⟩ (fun i H' _ h => SqL.of (h.1 _ _ n1p nlD h5)) ?_ ?_
    · rintro i x H6 hx ⟨O6, S6, os, hD6, ol, ok⟩
      obtain ⟨z, hz, rfl⟩ := map_str_get hx
      refine ⟨rfl, by show 4 ≤ sizeLine; decide, fun l hl => ?_⟩
      have nlp : l ≠ p := st_free S6 hl
      refine ⟨_, rfl, p, 4, rfl, S6.upd nlp, by decide, by decide, fun d H7 d0 d3 B7 S7 => ?_⟩
      obtain ⟨o, ho, hok⟩ := sort_at d0 d3
      have O7 : ∀ q o, q ≠ p → H6 q = some o → H7 q = some o := fun q o n e => B7 q o n (by rw [upd_ne (ne_of_none e hl)]; exact e)
      refine rdList (B7 l _ nlp upd_same) (j := d.toNat) (by omega) ho ⟨_, O7 _ _ nDp hD6, ?_, fun q o n1 n2 e => ?_, S7.upd nDp, os ++ [o], ?_, ?_, ?_⟩
      · rw [List.length_map]
        have q2 := (List.getElem?_eq_some_iff.mp hz).1
        exact Nat.lt_of_le_of_lt (show _ ≤ 1000 by omega) (by decide)
      · rw [upd_ne n2]
        exact O7 _ _ n1 (O6 _ _ n1 n2 e)
      · rw [upd_same, List.map_append]
        rfl
      · rw [List.length_append, ol]
        rfl
      · intro o' ho' z' ez
        rcases List.mem_append.mp ho' with q | q
        · exact ok o' q z' ez
        · rw [List.mem_singleton.mp q] at ez
          exact hok z' ez
    rintro H6 ⟨O6, S6, os, hD6, ol, ok⟩
    rw [List.length_map] at ol
    have h6 := O6 _ _ n1p nlD h5
    have B6 : But p H H6 := fun q o n e => O6 q o n (ne_of_none e fD) (B5 q o n e)
    dsimp only [gName, List.set_cons_succ, List.set_cons_zero]
    refine cut1 (fun σ' H' => ∃ os : List (Option Str), σ' = [some (.ref p), some (.ref ls), some (.int m), some (.ref ln), some (.ref D), none] ∧ H' ln = some (.lst (zs.map V.str)) ∧ H' D = some (.lst (os.map sortV)) ∧ os.length = zs.length ∧ (∀ o ∈ os, ∀ z, o = some z → Dr z) ∧ But p H H' ∧ StOk H' p) ?_ ?_
    rotate_left
    · intro R fin
      refine ⟨_, rfl, ls, _, rfl, .inl (SqL.of (B6 _ _ nls hls)), rfl, rfl, _, rfl, ite2 (fun _ => ⟨_, rfl, _, _, rfl, rfl, _, rfl, ite2 (fun hm => ?_) (fun _ => ?_)⟩) (fun _ => iteF ?_)⟩
      · have hm' : 0 < m := of_decide_eq_true hm
        refine ⟨_, rfl, p, rfl, S6, fun y H7 dy B7 S7 => ?_⟩
        refine ⟨_, rfl, _, rfl, _, rfl, p, m, rfl, S7, by omega, by omega, fun d5 H8 a5 b5 B8 S8 => ?_⟩
        obtain ⟨j, rfl⟩ : ∃ n : Nat, d5 = (n : Int) := ⟨d5.toNat, by omega⟩
        refine ⟨D, _, _, j, rfl, rfl, B8 _ _ nDp (B7 _ _ nDp hD6), ixN_nat (by rw [List.length_map]; omega), ?_⟩
        refine fin _ _ ⟨os.set j (some y), rfl, by rw [upd_ne nlD]; exact B8 _ _ n1p (B7 _ _ n1p h6), by rw [upd_same, List.map_set]; rfl, by rw [List.length_set]; exact ol, fun o ho z ez => ?_, but_new (B6.trans (B7.trans B8)) nDp fD, S8.upd nDp⟩
        rcases List.mem_or_eq_of_mem_set ho with q | q
        · exact ok o q z ez
        · rw [q] at ez
          cases ez
          exact dy
      · exact fin _ _ ⟨os, rfl, h6, hD6, ol, ok, B6, S6⟩
      · exact fin _ _ ⟨os, rfl, h6, hD6, ol, ok, B6, S6⟩
    clear h6 hD6 ol ok
    rintro σ' H7 ⟨os, rfl, h7, hD7, ol, ok, B7, S7⟩
    refine ⟨_, rfl, _, rfl, ln, D, _, _, rfl, SqL.of h7, SqL.of hD7, by rw [List.length_map, List.length_map, ol], by rw [List.length_map]; omega, fun lz ts H8 nlz T8 hlz tsl prs => ?_⟩
    rw [List.length_map] at tsl
    refine k lz H8 (zs.zip os) (B7.trans (Same.but T8)) (S7.same T8) ⟨ts, hlz, rows_at ?_ fun i t r ht hr' => ?_⟩ ?_ fun v hv => ?_
    · rw [List.length_map, List.length_zip, tsl]
      omega
    · obtain ⟨_, x, y, hx, hy, e⟩ := prs i t ht
      obtain ⟨z, hz, rfl⟩ := map_str_get hx
      rw [List.getElem?_map] at hy
      obtain ⟨o, ho, rfl⟩ := Option.map_eq_some_iff.mp hy
      rw [List.getElem?_map] at hr'
      obtain ⟨v, hv, rfl⟩ := Option.map_eq_some_iff.mp hr'
      rw [List.getElem?_zip_eq_some] at hv
      obtain ⟨v1, v2⟩ := v
      obtain ⟨q1, q2⟩ := hv
      rw [hz] at q1
      rw [ho] at q2
      cases q1
      cases q2
      exact SqT.of e
    · rw [List.length_zip]
      omega
    · obtain ⟨v1, v2⟩ := v
      exact ⟨zok _ (List.of_mem_zip hv).1, fun z e => ok _ (List.of_mem_zip hv).2 z e⟩
end
end Wm
namespace Wm
open PySem L2 StX
def TriDr (t : Tri) : Prop := Dr t.1 ∧ Dr t.2.1 ∧ Dr t.2.2
abbrev WORDS : List Str := ["own", "know", "use"]
theorem words_ok : ∀ z ∈ WORDS, Dr z := by decide +kernel
abbrev ODDS : List Str := ["zz", "", "own"]
theorem odds_ok : ∀ z ∈ ODDS, Dr z := by decide +kernel
/-- where the law's draws are made: the state, what is spoilt, the names to draw from -/
structure Dw (H : Hp) (p ls lp : Addr) (pool : List Str) : Prop where
  s : StOk H p
  l : ∃ a b : Int, H ls = some (.lst [.int a, .int b])
  h : H lp = some (.lst (pool.map V.str))
  p1 : 1 ≤ pool.length
  p9 : pool.length ≤ 10
  ok : ∀ z ∈ pool, Dr z
theorem Dw.but {H H' : Hp} {p ls lp : Addr} {pool : List Str} (w : Dw H p ls lp pool) (b : But p H H') (s : StOk H' p) : Dw H' p ls lp pool := by
  obtain ⟨x, y, e⟩ := w.l
  exact ⟨s, ⟨x, y, b _ _ (But.ne w.s e ns_two) e⟩, b _ _ (But.ne w.s w.h ns_strs) w.h, w.p1, w.p9, w.ok⟩
/-- pool[digit(s, len(pool))] -/
theorem rd_pick {K : PySem.W.Frag} {i j : Nat} {σ : L2.St} {H : Hp} {Q : VK} {ls lp p : Addr} {zs : List Str} (hi : σ[i]? = some (some (.ref lp))) (hj : σ[j]? = some (some (.ref p))) (W : Dw H p ls lp zs)
    (k : ∀ z H', Dr z → But p H H' → StOk H' p → Q (.str z) H') : tOp (rIxL K) (tVar i) (tCall spDigit [] E0 (tCons (tVar j) (tCons (tCB (rLenL K) (tCons (tVar i) tNil)) tNil))) σ H Q := by
  have n : lp ≠ p := But.ne W.s W.h ns_strs
  have l1 := W.p1
  have l9 := W.p9
  refine ⟨_, hi, _, hj, _, hi, lp, _, rfl, .inl (SqL.of W.h), p, _, rfl, W.s, ?_, ?_, fun d H' a b B' S' => ?_⟩
  · rw [List.length_map]
    omega
  · rw [List.length_map]
    omega
  rw [List.length_map] at b
  have hlt : d.toNat < zs.length := by omega
  exact rdList (B' _ _ n W.h) (j := d.toNat) (v := .str zs[d.toNat]) (by omega) (by rw [List.getElem?_map, List.getElem?_eq_getElem hlt]; rfl) (k _ H' (W.ok _ (List.getElem_mem hlt)) B' S')
def spCon (K : PySem.W.Frag) : Sp := fun vs H Q _ => ∃ (p ls lp : Addr) (ch : Bool) (n : Nat) (pool : List Str), vs = [.ref p, .ref ls, .ref lp, .bl ch, .int (n : Nat)] ∧ Dw H p ls lp pool ∧ ∀ t H' tr, But p H H' → StOk H' p → H' t = some (.tup (triV tr)) → TriDr tr → Q (.ref t) H'
def CsAt (K : PySem.W.Frag) (H : Hp) (lc : Addr) (cs : List Tri) : Prop := ∃ qs : List Addr, H lc = some (.lst (qs.map V.ref)) ∧ RowsAt K H qs (cs.map triV)
def spCns (K : PySem.W.Frag) : Sp := fun vs H Q _ => ∃ (p ls lp : Addr) (ch : Bool) (pool : List Str), vs = [.ref p, .ref ls, .ref lp, .bl ch] ∧ Dw H p ls lp pool ∧ ∀ lc H' cs, But p H H' → StOk H' p → CsAt K H' lc cs → cs.length ≤ 4 → (∀ t ∈ cs, TriDr t) → Q (.ref lc) H'
section
variable {P : Program} {w : World} {K : PySem.W.Frag} {mg : Str → Option Value} {base : Heap}
theorem scCon : FnScope ["_law_s", "_law_spoils", "_law_pool", "_law_chain", "_law_k", "_law_x", "_law_y", "_law_word"] ["_law_s", "_law_spoils", "_law_pool", "_law_chain", "_law_k"] (defScope sCon) := ⟨rfl, rfl, rfl, by decide +kernel, rfl, by decide +kernel, by decide +kernel⟩
theorem ok_con {f fG fB : Addr} {fd dG dB : FuncData} (F : Fun K "_law_condition" "_law_condition" sCon f fd) (T : TxB mg) (DG : Dn K mg "_law_digit" sDigit ["_law_state_here", "_law_base"] fG dG) (DBd : Dn K mg "_law_bad" sBad ["_law_s"] fB dB) : FnOk P w K mg base CX0 3 f fd ["_law_s", "_law_spoils", "_law_pool", "_law_chain", "_law_k"] (spCon K) := by
  have GG : FnOk P w K mg base CX0 1 fG dG _ spDigit := ok_digit DG.F
  have GBd : FnOk P w K mg base CX0 2 fB dB _ spBad := ok_bad DBd.F DG
  refine F.ok scCon (fun vs H Q E h => ?_) (fun cdv A outer s H vs Q E hr h => ?_)
  · obtain ⟨p, ls, lp, ch, n, pool, rfl, _⟩ := h
    rfl
  · obtain ⟨p, ls, lp, ch, n, pool, rfl, W, k⟩ := h
    have hr1 : Room 1 _ := hr.mono (by decide)
    have hr2 : Room 2 _ := hr
    have l1 := W.p1
    have l9 := W.p9
    refine ⟨_, (pss_cons (ps_set (i := 5) scCon.nd rfl (Or.inl rfl) (pe_ix ix_list (pv 2) (pe_call GG hr1 rfl DG.g DG.F.kp DG.b .nil pass0 (pa_cons (pv 0) (pa_cons (pe_callB call_len_seq (by rfl) T.len (by decide +kernel) (pa_cons (pv 2) pa_nil)) pa_nil))) (fun _ _ => rfl)))
      (pss_cons (ps_set (i := 6) scCon.nd rfl (Or.inl rfl) (pe_ix ix_list (pv 2) (pe_call GG hr1 rfl DG.g DG.F.kp DG.b .nil pass0 (pa_cons (pv 0) (pa_cons (pe_callB call_len_seq (by rfl) T.len (by decide +kernel) (pa_cons (pv 2) pa_nil)) pa_nil))) (fun _ _ => rfl)))
      (pss_cons (ps_if (pt_val (pv 3)) (pss_cons (ps_set (i := 5) scCon.nd rfl (Or.inl rfl) (pe_ix ix_list (pv 2) (pe_op op_mod (pv 4) (pe_callB call_len_seq (by rfl) T.len (by decide +kernel) (pa_cons (pv 2) pa_nil))) (fun _ _ => rfl)))
      (pss_cons (ps_set (i := 6) scCon.nd rfl (Or.inl rfl) (pe_ix ix_list (pv 2) (pe_op op_mod (pe_op op_add (pv 4) pe_int) (pe_callB call_len_seq (by rfl) T.len (by decide +kernel) (pa_cons (pv 2) pa_nil))) (fun _ _ => rfl)))
      (pss_one (ps_if (pt_cmpR op_eq (pe_call GG hr1 rfl DG.g DG.F.kp DG.b .nil pass0 (pa_cons (pv 0) (pa_cons pe_int pa_nil))) pe_int (nomark _)) (pss_one (ps_par (i := 5) (j := 6) (by rfl) scCon.nd rfl rfl (by decide) rfl rfl (pa_cons (pv 6) (pa_cons (pv 5) pa_nil)) (by rfl))) pss_nil)))) pss_nil)
      (pss_cons (ps_set (i := 7) scCon.nd rfl (Or.inl rfl) (pe_ix ix_list (pe_lst (pa_cons pe_str (pa_cons pe_str (pa_cons pe_str pa_nil)))) (pe_call GG hr1 rfl DG.g DG.F.kp DG.b .nil pass0 (pa_cons (pv 0) (pa_cons pe_int pa_nil))) (fun _ _ => rfl)))
      (pss_cons (ps_if (PW.pt (pw_and (pt_cmpR op_in_seq pe_int (pv 1) (by rfl)) (pw_and1 (pt_cmpR op_eq (pe_call GG hr1 rfl DG.g DG.F.kp DG.b .nil pass0 (pa_cons (pv 0) (pa_cons pe_int pa_nil))) pe_int (nomark _))))) (pss_one (ps_set (i := 7) scCon.nd rfl (Or.inl rfl) (pe_call GBd hr2 rfl DBd.g DBd.F.kp DBd.b .nil pass0 (pa_cons (pv 0) pa_nil)))) pss_nil)
      (pss_cons (ps_if (PW.pt (pw_and (pt_cmpR op_in_seq pe_int (pv 1) (by rfl)) (pw_and1 (pt_cmpR op_eq (pe_call GG hr1 rfl DG.g DG.F.kp DG.b .nil pass0 (pa_cons (pv 0) (pa_cons pe_int pa_nil))) pe_int (nomark _))))) (pss_one (ps_set (i := 6) scCon.nd rfl (Or.inl rfl) (pe_ix ix_list (pe_lst (pa_cons pe_str (pa_cons pe_str (pa_cons pe_str pa_nil)))) (pe_call GG hr1 rfl DG.g DG.F.kp DG.b .nil pass0 (pa_cons (pv 0) (pa_cons pe_int pa_nil))) (fun _ _ => rfl)))) pss_nil)
      (pss_one (ps_ret (pe_tup (pa_cons (pv 5) (pa_cons (pv 7) (pa_cons (pv 6) pa_nil)))))))))))), ?_⟩
    rw [show L2.start ["_law_s", "_law_spoils", "_law_pool", "_law_chain", "_law_k", "_law_x", "_law_y", "_law_word"] [V.ref p, V.ref ls, V.ref lp, V.bl ch, V.int (n : Nat)] = [some (.ref p), some (.ref ls), some (.ref lp), some (.bl ch), some (.int (n : Nat)), none, none, none] from rfl]
    refine rd_pick (ls := ls) (i := 2) (j := 0) rfl rfl W fun x H1 dx B1 S1 => ?_
    dsimp only [gName, List.set_cons_succ, List.set_cons_zero]
    have W1 := W.but B1 S1
    refine rd_pick (ls := ls) (i := 2) (j := 0) rfl rfl W1 fun y H2 dy B2 S2 => ?_
    dsimp only [gName, List.set_cons_succ, List.set_cons_zero]
    have B02 := B1.trans B2
    have W2 := W1.but B2 S2
    refine cut1 (fun σ' H' => ∃ x y : Str, σ' = [some (.ref p), some (.ref ls), some (.ref lp), some (.bl ch), some (.int (n : Nat)), some (.str x), some (.str y), none] ∧ Dr x ∧ Dr y ∧ But p H H' ∧ Dw H' p ls lp pool) ?_ ?_
    rotate_left
    · intro R fin
      refine ⟨_, rfl, _, rfl, ite2 (fun _ => ?_) (fun _ => fin _ _ ⟨x, y, rfl, dx, dy, B02, W2⟩)⟩
      have m1 : n % pool.length < pool.length := Nat.mod_lt _ (by omega)
      have m2 : (n + 1) % pool.length < pool.length := Nat.mod_lt _ (by omega)
      have ha : (pool.map V.str)[n % pool.length]? = some (.str pool[n % pool.length]) := by rw [List.getElem?_map, List.getElem?_eq_getElem m1]; rfl
      have hb : (pool.map V.str)[(n + 1) % pool.length]? = some (.str pool[(n + 1) % pool.length]) := by rw [List.getElem?_map, List.getElem?_eq_getElem m2]; rfl
      have da := W.ok _ (List.getElem_mem m1)
      have db := W.ok _ (List.getElem_mem m2)
      generalize pool[n % pool.length] = a at ha da
      generalize pool[(n + 1) % pool.length] = b at hb db
      refine ⟨_, rfl, _, rfl, _, rfl, lp, _, rfl, .inl (SqL.of W2.h), _, _, rfl, rfl, ?_, rdList W2.h (j := n % pool.length) ?_ ha ?_⟩
      · rw [List.length_map]
        omega
      · rw [List.length_map]
        rfl
      dsimp only [gName, List.set_cons_succ, List.set_cons_zero]
      refine ⟨_, rfl, _, rfl, _, _, rfl, rfl, _, rfl, lp, _, rfl, .inl (SqL.of W2.h), _, _, rfl, rfl, ?_, rdList W2.h (j := (n + 1) % pool.length) ?_ hb ?_⟩
      · rw [List.length_map]
        omega
      · rw [List.length_map, show ((n : Nat) : Int) + 1 = ((n + 1 : Nat) : Int) by omega]
        rfl
      dsimp only [gName, List.set_cons_succ, List.set_cons_zero]
      refine ⟨_, rfl, p, 2, rfl, S2, by decide, by decide, fun d H3 _ _ B3 S3 => ⟨rfl, _, rfl, ite2 (fun _ => ?_) (fun _ => fin _ _ ⟨a, b, rfl, da, db, B02.trans B3, W2.but B3 S3⟩)⟩⟩
      exact ⟨_, rfl, _, rfl, _, _, rfl, fin _ _ ⟨b, a, rfl, db, da, B02.trans B3, W2.but B3 S3⟩⟩
    clear dx dy
    rintro σ' H3 ⟨x, y, rfl, dx, dy, B3, W3⟩
    refine ⟨by show 3 ≤ sizeLine; decide, fun l hl => ?_⟩
    have nlp := st_free W3.s hl
    refine ⟨_, rfl, p, 3, rfl, W3.s.upd nlp, by decide, by decide, fun d H4 a4 b4 B4 S4 => ?_⟩
    obtain ⟨wd, hz, dw⟩ := list_at words_ok a4 b4
    refine rdList (B4 l _ nlp upd_same) (j := d.toNat) (by omega) hz ?_
    have B34 : But p H3 H4 := fun q o n e => B4 q o n (by rw [upd_ne (ne_of_none e hl)]; exact e)
    have B04 := B3.trans B34
    have W4 := W3.but B34 S4
    dsimp only [gName, List.set_cons_succ, List.set_cons_zero]
    refine cut1 (fun σ' H' => ∃ wd : Str, σ' = [some (.ref p), some (.ref ls), some (.ref lp), some (.bl ch), some (.int (n : Nat)), some (.str x), some (.str y), some (.str wd)] ∧ Dr wd ∧ But p H H' ∧ Dw H' p ls lp pool) ?_ ?_
    rotate_left
    · intro R fin
      obtain ⟨ja, jb, hls⟩ := W4.l
      refine ⟨_, rfl, ls, _, rfl, .inl (SqL.of hls), rfl, rfl, _, rfl, ite2 (fun _ => ⟨_, rfl, p, 2, rfl, W4.s, by decide, by decide, fun d H5 _ _ B5 S5 => ⟨rfl, _, rfl, ite2 (fun _ => ?_) (fun _ => fin _ _ ⟨wd, rfl, dw, B04.trans B5, W4.but B5 S5⟩)⟩⟩) (fun _ => iteF (fin _ _ ⟨wd, rfl, dw, B04, W4⟩))⟩
      exact ⟨_, rfl, p, rfl, S5, fun z H6 dz B6 S6 => fin _ _ ⟨z, rfl, dz, B04.trans (B5.trans B6), W4.but (B5.trans B6) S6⟩⟩
    clear dw hz
    rintro σ' H5 ⟨wd, rfl, dw, B5, W5⟩
    refine cut1 (fun σ' H' => ∃ y : Str, σ' = [some (.ref p), some (.ref ls), some (.ref lp), some (.bl ch), some (.int (n : Nat)), some (.str x), some (.str y), some (.str wd)] ∧ Dr y ∧ But p H H' ∧ Dw H' p ls lp pool) ?_ ?_
    rotate_left
    · intro R fin
      obtain ⟨ja, jb, hls⟩ := W5.l
      refine ⟨_, rfl, ls, _, rfl, .inl (SqL.of hls), rfl, rfl, _, rfl, ite2 (fun _ => ⟨_, rfl, p, 2, rfl, W5.s, by decide, by decide, fun d H6 _ _ B6 S6 => ⟨rfl, _, rfl, ite2 (fun _ => ?_) (fun _ => fin _ _ ⟨y, rfl, dy, B5.trans B6, W5.but B6 S6⟩)⟩⟩) (fun _ => iteF (fin _ _ ⟨y, rfl, dy, B5, W5⟩))⟩
      refine ⟨by show 3 ≤ sizeLine; decide, fun l hl => ?_⟩
      have nlp := st_free S6 hl
      refine ⟨_, rfl, p, 3, rfl, S6.upd nlp, by decide, by decide, fun d H7 a4 b4 B7 S7 => ?_⟩
      obtain ⟨z, hz, dz⟩ := list_at odds_ok a4 b4
      refine rdList (B7 l _ nlp upd_same) (j := d.toNat) (by omega) hz ?_
      have B67 : But p H6 H7 := fun q o n e => B7 q o n (by rw [upd_ne (ne_of_none e hl)]; exact e)
      exact fin _ _ ⟨z, rfl, dz, B5.trans (B6.trans B67), W5.but (B6.trans B67) S7⟩
    clear dy
    rintro σ' H6 ⟨y, rfl, dy, B6, W6⟩
    refine ⟨_, rfl, _, rfl, _, rfl, by show 3 ≤ sizeLine; decide, fun t ht => ?_⟩
    have T7 : Same H6 (upd H6 t (.tup [.str x, .str wd, .str y])) := Same.upd ht
    exact k t _ (x, wd, y) (B6.trans (Same.but T7)) (W6.s.same T7) upd_same ⟨dx, dw, dy⟩
theorem scCns : FnScope ["_law_s", "_law_spoils", "_law_pool", "_law_chain", "_law_many", "_law_k"] ["_law_s", "_law_spoils", "_law_pool", "_law_chain"] (defScope sCns) := ⟨rfl, rfl, rfl, by decide +kernel, rfl, by decide +kernel, by decide +kernel⟩
theorem ok_cns {f fG fC : Addr} {fd dG dC : FuncData} (F : Fun K "_law_conditions" "_law_conditions" sCns f fd) (T : TxB mg) (hmax : mg "max" = none) (hmin : mg "min" = none) (DG : Dn K mg "_law_digit" sDigit ["_law_state_here", "_law_base"] fG dG) (DCo : Dn K mg "_law_condition" sCon ["_law_s", "_law_spoils", "_law_pool", "_law_chain", "_law_k"] fC dC) (GCo : FnOk P w K mg base CX0 3 fC dC ["_law_s", "_law_spoils", "_law_pool", "_law_chain", "_law_k"] (spCon K)) :
    FnOk P w K mg base CX0 4 f fd ["_law_s", "_law_spoils", "_law_pool", "_law_chain"] (spCns K) := by
  have GG : FnOk P w K mg base CX0 1 fG dG _ spDigit := ok_digit DG.F
  refine F.ok scCns (fun vs H Q E h => ?_) (fun cdv A outer s H vs Q E hr h => ?_)
  · obtain ⟨p, ls, lp, ch, pool, rfl, _⟩ := h
    rfl
  · obtain ⟨p, ls, lp, ch, pool, rfl, W, k⟩ := h
    have hr1 : Room 1 _ := hr.mono (by decide)
    have hr3 : Room 3 _ := hr
    have l1 := W.p1
    have l9 := W.p9
    refine ⟨_, (pss_cons (ps_set (i := 4) scCns.nd rfl (Or.inl rfl) (pe_op op_add pe_int (pe_call GG hr1 rfl DG.g DG.F.kp DG.b .nil pass0 (pa_cons (pv 0) (pa_cons pe_int pa_nil)))))
      (pss_cons (ps_if (pt_val (pv 3)) (pss_one (ps_set (i := 4) scCns.nd rfl (Or.inl rfl) (pe_callB (call_max2 rfl) (by rfl) hmax (by decide +kernel) (pa_cons pe_int (pa_cons (pe_callB (call_min2 rfl) (by rfl) hmin (by decide +kernel) (pa_cons pe_int (pa_cons (pe_op op_sub (pe_callB call_len_seq (by rfl) T.len (by decide +kernel) (pa_cons (pv 2) pa_nil)) pe_int) pa_nil))) pa_nil))))) pss_nil)
      (pss_cons (ps_if (pt_cmpR op_in_seq pe_int (pv 1) (by rfl)) (pss_one (ps_set (i := 4) scCns.nd rfl (Or.inl rfl) (pe_ix ix_list (pe_lst (pa_cons pe_int (pa_cons pe_int pa_nil))) (pe_call GG hr1 rfl DG.g DG.F.kp DG.b .nil pass0 (pa_cons (pv 0) (pa_cons pe_int pa_nil))) (fun _ _ => rfl)))) pss_nil)
      (pss_one (ps_ret (pe_lc (own := [("_law_k", 5)]) (g := gName 5) (tt := tYes) (te := (tCall (spCon K) [] E0 (tCons (tVar 0) (tCons (tVar 1) (tCons (tVar 2) (tCons (tVar 3) (tCons (tVar 5) tNil))))))) rfl scCns.nd (pi_range1 rfl T.range (pa_cons (pv 4) pa_nil)) (blkOk_by (N := ["_law_s", "_law_spoils", "_law_pool", "_law_chain", "_law_many", "_law_k"]) (sc := defScope sCns) (by decide +kernel)) (fun _ _ _ _ _ => (pg_name (i := 5) scCns.nd rfl (Or.inl rfl))) (fun _ _ _ _ _ => pts_nil) (fun _ _ _ _ _ => (pe_call GCo hr3 rfl DCo.g DCo.F.kp DCo.b .nil pass0 (pa_cons (pv 0) (pa_cons (pv 1) (pa_cons (pv 2) (pa_cons (pv 3) (pa_cons (pv 5) pa_nil))))))))))))), ?_⟩
    rw [show L2.start ["_law_s", "_law_spoils", "_law_pool", "_law_chain", "_law_many", "_law_k"] [V.ref p, V.ref ls, V.ref lp, V.bl ch] = [some (.ref p), some (.ref ls), some (.ref lp), some (.bl ch), none, none] from rfl]
    refine ⟨_, rfl, p, 3, rfl, W.s, by decide, by decide, fun d H1 a1 b1 B1 S1 => ⟨_, _, rfl, rfl, ?_⟩⟩
    dsimp only [gName, List.set_cons_succ, List.set_cons_zero]
    have W1 := W.but B1 S1
    refine cut1 (fun σ' H' => ∃ m : Int, σ' = [some (.ref p), some (.ref ls), some (.ref lp), some (.bl ch), some (.int m), none] ∧ 0 ≤ m ∧ m ≤ 4 ∧ But p H H' ∧ Dw H' p ls lp pool) ?_ ?_
    rotate_left
    · intro R fin
      refine ⟨_, rfl, _, rfl, ite2 (fun _ => ?_) (fun _ => fin _ _ ⟨_, rfl, by omega, by omega, B1, W1⟩)⟩
      refine ⟨_, rfl, lp, _, rfl, .inl (SqL.of W1.h), _, _, rfl, rfl, _, _, rfl, _, _, rfl, ?_⟩
      rw [List.length_map]
      refine fin _ _ ⟨_, rfl, ?_, ?_, B1, W1⟩
      · repeat' split
        all_goals omega
      · repeat' split
        all_goals omega
    rintro σ' H2 ⟨m, rfl, m0, m4, B2, W2⟩
    refine cut1 (fun σ' H' => ∃ m : Int, σ' = [some (.ref p), some (.ref ls), some (.ref lp), some (.bl ch), some (.int m), none] ∧ 0 ≤ m ∧ m ≤ 4 ∧ But p H H' ∧ Dw H' p ls lp pool) ?_ ?_
    rotate_left
    · intro R fin
      obtain ⟨ja, jb, hls⟩ := W2.l
      refine ⟨_, rfl, ls, _, rfl, .inl (SqL.of hls), rfl, rfl, _, rfl, ite2 (fun _ => ?_) (fun _ => fin _ _ ⟨m, rfl, m0, m4, B2, W2⟩)⟩
      refine ⟨by show 2 ≤ sizeLine; decide, fun l hl => ?_⟩
      have nlp := st_free W2.s hl
      refine ⟨_, rfl, p, 2, rfl, W2.s.upd nlp, by decide, by decide, fun d2 H3 a2 b2 B3 S3 => ?_⟩
      obtain ⟨m, hm, m0, m5⟩ : ∃ m : Int, ([V.int 0, .int 4] : List V)[d2.toNat]? = some (.int m) ∧ 0 ≤ m ∧ m ≤ 4 := by
        rcases (by omega : d2 = 0 ∨ d2 = 1) with rfl | rfl
        · exact ⟨0, rfl, by decide, by decide⟩
        · exact ⟨4, rfl, by decide, by decide⟩
      refine rdList (B3 l _ nlp upd_same) (j := d2.toNat) (by omega) hm ?_
      have B23 : But p H2 H3 := fun q o n e => B3 q o n (by rw [upd_ne (ne_of_none e hl)]; exact e)
      exact fin _ _ ⟨m, rfl, m0, m5, B2.trans B23, W2.but B23 S3⟩
    clear m0 m4
    rintro σ' H3 ⟨m, rfl, m0, m4, B3, W3⟩
    obtain ⟨n, rfl⟩ : ∃ n : Nat, m = (n : Int) := ⟨m.toNat, by omega⟩
    refine ⟨_, rfl, _, rfl, by omega, by omega, fun D hD => ?_⟩
    have nDp : D ≠ p := st_free W3.s hD
    have fD : H D = none := B3.free nDp hD
    refine lc_range (n := _) (fun i H' => (∀ q o, q ≠ p → q ≠ D → H3 q = some o → H' q = some o) ∧ StOk H' p ∧ ∃ (qs : List Addr) (cs : List Tri), H' D = some (.lst (qs.map V.ref)) ∧ RowsAt K H' qs (cs.map triV) ∧ cs.length = i ∧ ∀ t ∈ cs, TriDr t) ⟨fun q o n1 n2 e => by rw [upd_ne n2]; exact e, W3.s.upd nDp, [], [], upd_same, True.intro, rfl, fun t ht => (List.not_mem_nil ht).elim⟩ ?_ ?_
    · rintro i H4 hi ⟨O4, S4, qs, cs, hD4, rows, cl, ok⟩
      have W4 : Dw H4 p ls lp pool := by
        obtain ⟨ja, jb, e⟩ := W3.l
        exact ⟨S4, ⟨ja, jb, O4 _ _ (But.ne W3.s e ns_two) (ne_of_none e hD) e⟩, O4 _ _ (But.ne W3.s W3.h ns_strs) (ne_of_none W3.h hD) W3.h, W3.p1, W3.p9, W3.ok⟩
      refine ⟨rfl, _, rfl, _, rfl, _, rfl, _, rfl, _, rfl, p, ls, lp, ch, i, pool, by rw [Int.zero_add]; rfl, W4, fun t H5 tr B5 S5 et td => ?_⟩
      have k5 := B5.kp S4
      have hD5 := B5 _ _ nDp hD4
      have rl := rows.len
      rw [List.length_map] at rl
      refine ⟨_, hD5, ?_, fun q o n1 n2 e => ?_, S5.upd nDp, qs ++ [t], cs ++ [tr], ?_, ?_, ?_, ?_⟩
      · rw [List.length_map]
        exact Nat.lt_of_le_of_lt (show _ ≤ 1000 by omega) (by decide)
      · rw [upd_ne n2]
        exact B5 _ _ n1 (O4 _ _ n1 n2 e)
      · rw [upd_same, List.map_append]
        rfl
      · rw [List.map_append]
        exact RowsAt.append (rows_put hD5 (k5.rows rows)) ⟨sqT_put hD5 (SqT.of et), True.intro⟩
      · rw [List.length_append, cl]
        rfl
      · intro t' ht'
        rcases List.mem_append.mp ht' with q | q
        · exact ok t' q
        · rw [List.mem_singleton.mp q]
          exact td
    · rintro H4 ⟨O4, S4, qs, cs, hD4, rows, cl, ok⟩
      exact k D H4 cs (fun q o n e => O4 q o n (ne_of_none e fD) (B3 q o n e)) S4 ⟨qs, hD4, rows⟩ (by omega) ok
end
end Wm
namespace Wm
open PySem L2 StX
/-- what is answered -/
def VlAt (o : Option Rf) (v : V) (H : Hp) : Prop := match o with
  | none => v = .non
  | some r => ∃ t, v = .ref t ∧ H t = some (.tup (tupOf r))
def hunD (ns : List Str) (cs : List Tri) : Option Rf := (goF (loP (endsL cs)) [] ns).or (goF apP [] cs)
theorem ends_or {cs : List Tri} {z : Str} : z ∈ cs.map (·.1) ++ cs.map (·.2.2) ↔ z ∈ endsL cs := by
  unfold endsL
  rw [List.mem_append, List.mem_flatMap, List.mem_map, List.mem_map]
  constructor
  · rintro (⟨t, ht, e⟩ | ⟨t, ht, e⟩)
    · exact ⟨t, ht, by rw [← e]; simp⟩
    · exact ⟨t, ht, by rw [← e]; simp⟩
  · rintro ⟨t, ht, e⟩
    have e : z = t.1 ∨ z = t.2.2 := by simpa using e
    rcases e with e | e
    · exact .inl ⟨t, ht, e.symm⟩
    · exact .inr ⟨t, ht, e.symm⟩
theorem ends_take {cs : List Tri} {i : Nat} {t : Tri} (h : cs[i]? = some t) : endsL (cs.take (i + 1)) = endsL (cs.take i) ++ [t.1, t.2.2] := by
  rw [List.take_add_one, h]
  show endsL (cs.take i ++ [t]) = _
  rw [endsL_app]
  rfl
theorem CsAt.same {K : PySem.W.Frag} {H H' : Hp} {lc : Addr} {cs : List Tri} (s : Same H H') (h : CsAt K H lc cs) : CsAt K H' lc cs := by
  obtain ⟨qs, e, r⟩ := h
  exact ⟨qs, s _ _ e, r.same s⟩
theorem VsAt.same {K : PySem.W.Frag} {H H' : Hp} {lc : Addr} {cs : List Var} (s : Same H H') (h : VsAt K H lc cs) : VsAt K H' lc cs := by
  obtain ⟨qs, e, r⟩ := h
  exact ⟨qs, s _ _ e, r.same s⟩
def spHun (K : PySem.W.Frag) : Sp := fun vs H Q _ => ∃ (ln lc : Addr) (ns : List Str) (cs : List Tri), vs = [.ref ln, .ref lc] ∧ H ln = some (.lst (ns.map V.str)) ∧ CsAt K H lc cs ∧ cs.length ≤ 10 ∧ ∀ v H', Same H H' → VlAt (hunD ns cs) v H' → Q v H'
section
variable {P : Program} {w : World} {K : PySem.W.Frag} {mg : Str → Option Value} {base : Heap}
theorem scHun : FnScope ["_law_names_here", "_law_conditions_here", "_law_x", "_law_word", "_law_y", "_law_known", "_law_one", "_law_seen", "_law_k"] ["_law_names_here", "_law_conditions_here"] (defScope sHun) := ⟨rfl, rfl, rfl, by decide +kernel, rfl, by decide +kernel, by decide +kernel⟩
theorem ok_hun {f : Addr} {fd : FuncData} (F : Fun K "_law_hung" "_law_hung" sHun f fd) (T : TxB mg) : FnOk P w K mg base CX0 1 f fd ["_law_names_here", "_law_conditions_here"] (spHun K) := by
  refine F.ok scHun (fun vs H Q E h => ?_) (fun cdv A outer s H vs Q E hr h => ?_)
  · obtain ⟨ln, lc, ns, cs, rfl, _⟩ := h
    rfl
  · obtain ⟨ln, lc, ns, cs, rfl, hln, ⟨qs, hlc, rows⟩, c10, k⟩ := h
    have cl := rows.len
    rw [List.length_map] at cl
    refine ⟨_, (pss_cons (ps_set (i := 5) scHun.nd rfl (Or.inl rfl) (pe_op op_cat (pe_lc (own := [("_law_x", 2), ("_law_word", 3), ("_law_y", 4)]) (g := gTup K 3 (gCons (gName 2) (gCons (gName 3) (gCons (gName 4) gNil)))) (tt := tYes) (te := (tVar 2)) rfl scHun.nd (pi_list (pv 1)) (blkOk_by (N := ["_law_names_here", "_law_conditions_here", "_law_x", "_law_word", "_law_y", "_law_known", "_law_one", "_law_seen", "_law_k"]) (sc := defScope sHun) (by decide +kernel)) (fun _ _ _ _ _ => (pg_tup rfl (pgs_cons (pg_name (i := 2) scHun.nd rfl (Or.inl rfl)) (pgs_cons (pg_name (i := 3) scHun.nd rfl (Or.inl rfl)) (pgs_cons (pg_name (i := 4) scHun.nd rfl (Or.inl rfl)) pgs_nil))))) (fun _ _ _ _ _ => pts_nil) (fun _ _ _ _ _ => (pv 2))) (pe_lc (own := [("_law_x", 2), ("_law_word", 3), ("_law_y", 4)]) (g := gTup K 3 (gCons (gName 2) (gCons (gName 3) (gCons (gName 4) gNil)))) (tt := tYes) (te := (tVar 4)) rfl scHun.nd (pi_list (pv 1)) (blkOk_by (N := ["_law_names_here", "_law_conditions_here", "_law_x", "_law_word", "_law_y", "_law_known", "_law_one", "_law_seen", "_law_k"]) (sc := defScope sHun) (by decide +kernel)) (fun _ _ _ _ _ => (pg_tup rfl (pgs_cons (pg_name (i := 2) scHun.nd rfl (Or.inl rfl)) (pgs_cons (pg_name (i := 3) scHun.nd rfl (Or.inl rfl)) (pgs_cons (pg_name (i := 4) scHun.nd rfl (Or.inl rfl)) pgs_nil))))) (fun _ _ _ _ _ => pts_nil) (fun _ _ _ _ _ => (pv 4)))))
      (pss_cons (ps_for PassesOwn.never rfl (pi_list (pv 0)) (pg_name (i := 6) scHun.nd rfl (Or.inl rfl)) (pss_one (ps_if (pt_cmpR op_notIn_seq (pv 6) (pv 5) (by rfl)) (pss_one (ps_ret (pe_tup (pa_cons pe_str (pa_cons (pv 6) pa_nil))))) pss_nil)))
      (pss_cons (ps_set (i := 7) scHun.nd rfl (Or.inl rfl) (pe_lst pa_nil))
      (pss_cons (ps_for PassesOwn.never rfl (pi_range1 rfl T.range (pa_cons (pe_callB call_len_seq (by rfl) T.len (by decide +kernel) (pa_cons (pv 1) pa_nil)) pa_nil)) (pg_name (i := 8) scHun.nd rfl (Or.inl rfl)) (pss_cons (ps_asg (pe_ix ix_list (pv 1) (pv 8) (fun _ _ => rfl)) (pg_tup rfl (pgs_cons (pg_name (i := 2) scHun.nd rfl (Or.inl rfl)) (pgs_cons (pg_name (i := 3) scHun.nd rfl (Or.inl rfl)) (pgs_cons (pg_name (i := 4) scHun.nd rfl (Or.inl rfl)) pgs_nil)))))
      (pss_cons (ps_if (PW.pt (pw_and (pt_cmpR op_gt (pv 8) pe_int (nomark _)) (pw_and (pt_cmpR op_notIn_seq (pv 2) (pv 7) (by rfl)) (pw_and1 (pt_cmpR op_notIn_seq (pv 4) (pv 7) (by rfl)))))) (pss_one (ps_ret (pe_tup (pa_cons pe_str (pa_cons (pv 8) pa_nil))))) pss_nil)
      (pss_one (ps_set (i := 7) scHun.nd rfl (Or.inl rfl) (pe_op op_cat (pv 7) (pe_lst (pa_cons (pv 2) (pa_cons (pv 4) pa_nil)))))))))
      (pss_one (ps_ret pe_non)))))), ?_⟩
    rw [show L2.start ["_law_names_here", "_law_conditions_here", "_law_x", "_law_word", "_law_y", "_law_known", "_law_one", "_law_seen", "_law_k"] [V.ref ln, V.ref lc] = [some (.ref ln), some (.ref lc), none, none, none, none, none, none, none] from rfl]
    refine ⟨_, rfl, lc, rfl, ⟨_, SqL.of hlc⟩, fun D hD => ?_⟩
    refine lc_list (K := K) (a := lc) (xs := qs.map V.ref) (fun i H' => Same H H' ∧ H' D = some (.lst (((cs.take i).map (·.1)).map V.str))) ⟨Same.upd hD, upd_same⟩ (fun i H' _ h => SqL.of (h.1 _ _ hlc)) ?_ ?_
    · rintro i x H3 hx ⟨S3, hD3⟩
      obtain ⟨u2, hu2, rfl⟩ := map_ref_get hx
      obtain ⟨ru2, hru2, hsu2⟩ := rows.get hu2
      obtain ⟨t2, ht2, rfl⟩ := tri_get hru2
      refine ⟨u2, _, rfl, same_seqT S3 hsu2, rfl, _, _, rfl, _, _, rfl, _, _, rfl, rfl, rfl, _, rfl, _, hD3, ?_, fun b o e => ?_, ?_⟩
      · rw [List.length_map, List.length_map, List.length_take]
        exact Nat.lt_of_le_of_lt (show _ ≤ 1000 by omega) (by decide)
      · rw [upd_ne (ne_of_none e hD)]
        exact S3 _ _ e
      · rw [upd_same, List.take_add_one, ht2, List.map_append, List.map_append]
        rfl
    rintro H1 ⟨S1, hD1⟩
    rw [List.length_map, cl, List.take_length] at hD1
    refine ⟨_, rfl, lc, rfl, ⟨_, SqL.of (S1 _ _ hlc)⟩, fun D2 hD2 => ?_⟩
    refine lc_list (K := K) (a := lc) (xs := qs.map V.ref) (fun i H' => Same H1 H' ∧ H' D2 = some (.lst (((cs.take i).map (·.2.2)).map V.str))) ⟨Same.upd hD2, upd_same⟩ (fun i H' _ h => SqL.of (h.1 _ _ (S1 _ _ hlc))) ?_ ?_
    · rintro i x H3 hx ⟨S3, hD3⟩
      obtain ⟨u2, hu2, rfl⟩ := map_ref_get hx
      obtain ⟨ru2, hru2, hsu2⟩ := rows.get hu2
      obtain ⟨t2, ht2, rfl⟩ := tri_get hru2
      refine ⟨u2, _, rfl, same_seqT (S1.trans S3) hsu2, rfl, _, _, rfl, _, _, rfl, _, _, rfl, rfl, rfl, _, rfl, _, hD3, ?_, fun b o e => ?_, ?_⟩
      · rw [List.length_map, List.length_map, List.length_take]
        exact Nat.lt_of_le_of_lt (show _ ≤ 1000 by omega) (by decide)
      · rw [upd_ne (ne_of_none e hD2)]
        exact S3 _ _ e
      · rw [upd_same, List.take_add_one, ht2, List.map_append, List.map_append]
        rfl
    rintro H2 ⟨S2, hD2'⟩
    rw [List.length_map, cl, List.take_length] at hD2'
    have S02 := S1.trans S2
    refine ⟨D, D2, _, _, rfl, rfl, S2 _ _ hD1, hD2', ?_, fun kn hkn => ?_⟩
    · rw [List.length_map, List.length_map, List.length_map, List.length_map]
      exact Nat.le_trans (show _ ≤ 1000 by omega) (by decide)
    dsimp only [gName, List.set_cons_succ, List.set_cons_zero]
    have T3 : Same H2 (upd H2 kn (.lst ((cs.map (·.1)).map V.str ++ (cs.map (·.2.2)).map V.str))) := Same.upd hkn
    have e3 : (upd H2 kn (.lst ((cs.map (·.1)).map V.str ++ (cs.map (·.2.2)).map V.str))) kn = some (.lst ((cs.map (·.1) ++ cs.map (·.2.2)).map V.str)) := by rw [upd_same, List.map_append]
    generalize upd H2 kn (.lst ((cs.map (·.1)).map V.str ++ (cs.map (·.2.2)).map V.str)) = H3 at T3 e3
    have S03 := S02.trans T3
    have hln3 := S03 _ _ hln
    unfold hunD at k
    refine ⟨_, rfl, ln, rfl, ⟨_, SqL.of hln3⟩, for_list (K := K) (a := ln) (xs := ns.map V.str) (fun i σ H' => (∃ v, σ = [some (.ref ln), some (.ref lc), none, none, none, some (.ref kn), v, none, none]) ∧ H' = H3 ∧ ∀ j y, j < i → ns[j]? = some y → loP (endsL cs) (ns.take j) y = none) ⟨⟨none, rfl⟩, rfl, fun j y h => absurd h (Nat.not_lt_zero j)⟩ (fun i σ H' _ p => by rw [p.2.1]; exact SqL.of hln3) ?_ ?_⟩
    · rintro i y σ H' hi ⟨⟨v, rfl⟩, rfl, hno⟩
      obtain ⟨z, hz, rfl⟩ := map_str_get hi
      dsimp only [gName, List.set_cons_succ, List.set_cons_zero]
      refine ⟨_, rfl, _, rfl, kn, _, rfl, .inl (SqL.of e3), rfl, flat_strs _, _, rfl, ?_⟩
      rw [if_pos rfl, inV_strs]
      by_cases q : z ∈ endsL cs
      · rw [decide_eq_true (ends_or.mpr q)]
        exact iteF ⟨⟨_, rfl⟩, rfl, goF_more hno hz (by unfold loP; rw [if_pos q])⟩
      · rw [decide_eq_false (fun m => q (ends_or.mp m))]
        rw [goF_hit hno hz (by unfold loP; rw [if_neg q])] at k
        refine iteT ⟨_, rfl, by show 2 ≤ sizeLine; decide, fun t ht => k _ _ (S03.trans (Same.upd ht)) ⟨t, rfl, upd_same⟩⟩
    rintro σ H' ⟨⟨v, rfl⟩, rfl, hno⟩
    rw [List.length_map] at hno
    rw [goF_none hno, Option.none_or] at k
    clear hno
    dsimp only
    refine ⟨Nat.zero_le _, fun sn hsn => ?_⟩
    dsimp only [gName, List.set_cons_succ, List.set_cons_zero]
    have S4 := S03.trans (Same.upd (o := .lst []) hsn)
    refine ⟨_, rfl, lc, _, rfl, .inl (SqL.of (S4 _ _ hlc)), _, rfl, ?_, ?_, ?_⟩
    · rw [List.length_map]
      omega
    · rw [List.length_map]
      omega
    refine for_range (n := _) (fun i σ H' => (∃ u v x y z sn, σ = [some (.ref ln), some (.ref lc), u, v, x, some (.ref kn), y, some (.ref sn), z] ∧ H' sn = some (.lst ((endsL (cs.take i)).map V.str))) ∧ Same H H' ∧ ∀ j y, j < i → cs[j]? = some y → apP (cs.take j) y = none) ⟨⟨_, _, _, _, _, sn, rfl, upd_same⟩, S4, fun j y h => absurd h (Nat.not_lt_zero j)⟩ ?_ ?_
    · rintro i σ H5 hi ⟨⟨u, v', x, y, z, sn5, rfl, hsn5⟩, S5, hno⟩
      have hi : i < qs.length := by
        rw [List.length_map] at hi
        omega
      rw [Int.zero_add]
      dsimp only [gName, List.set_cons_succ, List.set_cons_zero]
      obtain ⟨q, hq⟩ : ∃ q, qs[i]? = some q := ⟨_, List.getElem?_eq_getElem hi⟩
      obtain ⟨r, hr1', hr'⟩ := rows.get hq
      obtain ⟨t, ht, rfl⟩ := tri_get hr1'
      have tl : (cs.take i).length = i := by rw [List.length_take]; omega
      refine ⟨_, rfl, _, rfl, rdList (S5 _ _ hlc) (j := i) rfl (by rw [List.getElem?_map, hq]; rfl) ⟨q, _, rfl, same_seqT S5 hr', rfl, _, _, rfl, _, _, rfl, _, _, rfl, rfl, ?_⟩⟩
      dsimp only [gName, List.set_cons_succ, List.set_cons_zero]
      have step : apP (cs.take i) t = none → ∀ D : Ends, (∀ sn6 H6, H6 sn6 = some (.lst ((endsL (cs.take (i + 1))).map V.str)) → Same H H6 → (∀ j y, j < i + 1 → cs[j]? = some y → apP (cs.take j) y = none) → D.nx [some (.ref ln), some (.ref lc), some (.str t.1), some (.str t.2.1), some (.str t.2.2), some (.ref kn), y, some (.ref sn6), some (.int (i : Nat))] H6) → tAsg (tOp rCat (tVar 7) (tLst (tCons (tVar 2) (tCons (tVar 4) tNil)))) (gName 7) D [some (.ref ln), some (.ref lc), some (.str t.1), some (.str t.2.1), some (.str t.2.2), some (.ref kn), y, some (.ref sn5), some (.int (i : Nat))] H5 := fun en D fin => by
        refine ⟨_, rfl, _, rfl, _, rfl, by show 2 ≤ sizeLine; decide, fun l hl => ⟨sn5, l, _, _, rfl, rfl, (upd_ne (ne_of_none hsn5 hl)).trans hsn5, upd_same, ?_, fun s6 hs6 => ?_⟩⟩
        · rw [List.length_map, endsL_len, List.length_take]
          exact Nat.le_trans (show _ ≤ 1000 by simp; omega) (by decide)
        · refine fin s6 _ ?_ (S5.trans ((Same.upd hl).trans (Same.upd hs6))) (goF_more hno ht en)
          rw [upd_same, ends_take ht, List.map_append]
          rfl
      refine ⟨_, rfl, _, _, rfl, rfl, _, rfl, ?_⟩
      refine ite2 (fun h0 => ?_) (fun h0 => ?_)
      · have h0' : (0 : Int) < (i : Int) := of_decide_eq_true h0
        refine ⟨_, rfl, _, rfl, sn5, _, rfl, .inl (SqL.of hsn5), rfl, flat_strs _, _, rfl, ?_⟩
        rw [if_pos rfl, inV_strs]
        by_cases m1 : t.1 ∈ endsL (cs.take i)
        · rw [decide_eq_true m1]
          exact iteF (iteF (step (by unfold apP; rw [if_neg fun q => q.2.1 m1]) _ fun sn6 H6 e6 S6 n6 => ⟨⟨_, _, _, _, _, sn6, rfl, e6⟩, S6, n6⟩))
        · rw [decide_eq_false m1]
          refine iteT ?_
          refine ⟨_, rfl, _, rfl, sn5, _, rfl, .inl (SqL.of hsn5), rfl, flat_strs _, _, rfl, ?_⟩
          rw [if_pos rfl, inV_strs]
          by_cases m2 : t.2.2 ∈ endsL (cs.take i)
          · rw [decide_eq_true m2]
            exact iteF (step (by unfold apP; rw [if_neg fun q => q.2.2 m2]) _ fun sn6 H6 e6 S6 n6 => ⟨⟨_, _, _, _, _, sn6, rfl, e6⟩, S6, n6⟩)
          · rw [decide_eq_false m2]
            rw [goF_hit hno ht (by unfold apP; rw [if_pos ⟨by omega, m1, m2⟩]), tl] at k
            exact iteT ⟨_, rfl, by show 2 ≤ sizeLine; decide, fun a ha => k _ _ (S5.trans (Same.upd ha)) ⟨a, rfl, upd_same⟩⟩
      · exact iteF (step (by unfold apP; rw [if_neg fun q => h0 (decide_eq_true (by omega))]) _ fun sn6 H6 e6 S6 n6 => ⟨⟨_, _, _, _, _, sn6, rfl, e6⟩, S6, n6⟩)
    · rintro σ H5 ⟨⟨u, v', x, y, z, sn5, rfl, hsn5⟩, S5, hno⟩
      have hlen : ((qs.map V.ref).length : Int).toNat = cs.length := by
        rw [List.length_map, cl]
        omega
      rw [goF_none (fun j y hj e => hno j y (by omega) e)] at k
      exact k _ _ S5 rfl
end
end Wm
namespace Wm
open PySem L2 StX
def spDue (K : PySem.W.Frag) : Sp := fun vs H Q _ => ∃ (nm : Str) (lv lc lt lh : Addr) (vars : List Var) (cs gs : List Tri) (hs : List Str), vs = [.str nm, .ref lv, .ref lc, .ref lt, .ref lh] ∧ VsAt K H lv vars ∧ CsAt K H lc cs ∧ CsAt K H lt (cs ++ gs) ∧ H lh = some (.lst (hs.map V.str)) ∧ vars.length ≤ 10 ∧ cs.length ≤ 10 ∧ gs.length ≤ 1 ∧ hs.length ≤ 1 ∧ (∀ z ∈ textsL nm vars (cs ++ gs), z.length ≤ 1000) ∧ ∀ v H', Same H H' → VlAt (patDue nm vars cs gs hs) v H' → Q v H'
theorem flat_len2 : ∀ (vars : List Var), (vars.flatMap varT).length ≤ 2 * vars.length
  | [] => Nat.le_refl _
  | v :: r => by
    have q := flat_len2 r
    obtain ⟨n, o⟩ := v
    rw [List.flatMap_cons, List.length_append, List.length_cons]
    cases o
    · show 1 + _ ≤ _
      omega
    · show 2 + _ ≤ _
      omega
section
variable {P : Program} {w : World} {K : PySem.W.Frag} {mg : Str → Option Value} {base : Heap}
theorem scDue : FnScope ["_law_name_here", "_law_variables_here", "_law_conditions_here", "_law_triples", "_law_hands", "_law_texts", "_law_one", "_law_sort", "_law_x", "_law_word", "_law_y", "_law_text", "_law_names_here", "_law_spoken"] ["_law_name_here", "_law_variables_here", "_law_conditions_here", "_law_triples", "_law_hands"] (defScope sDue) := ⟨rfl, rfl, rfl, by decide +kernel, rfl, by decide +kernel, by decide +kernel⟩
theorem ok_due {f fI fH : Addr} {fd dI dH : FuncData} (F : Fun K "_law_due" "_law_due" sDue f fd) (T : TxB mg) (DIs : Dn K mg "_law_is_name" sLName ["_law_text"] fI dI) (DHu : Dn K mg "_law_hung" sHun ["_law_names_here", "_law_conditions_here"] fH dH) : FnOk P w K mg base CX0 2 f fd ["_law_name_here", "_law_variables_here", "_law_conditions_here", "_law_triples", "_law_hands"] (spDue K) := by
  have GIs : FnOk P w K mg base CX0 1 fI dI ["_law_text"] spName := ok_lname DIs.F T
  have GHu : FnOk P w K mg base CX0 1 fH dH _ (spHun K) := ok_hun DHu.F T
  refine F.ok scDue (fun vs H Q E h => ?_) (fun cdv A outer s H vs Q E hr h => ?_)
  · obtain ⟨nm, lv, lc, lt, lh, vars, cs, gs, hs, rfl, _⟩ := h
    rfl
  · obtain ⟨nm, lv, lc, lt, lh, vars, cs, gs, hs, rfl, ⟨us, hlv, rv⟩, hlc, ⟨ws, hlt, rt⟩, hlh, v10, c10, g1, h1, hz, k⟩ := h
    have hr1 : Room 1 _ := hr
    have vl := rv.len
    have tl := rt.len
    rw [List.length_map] at vl tl
    rw [List.length_append] at tl
    obtain ⟨qs, hlcq, rc⟩ := id hlc
    have cl := rc.len
    rw [List.length_map] at cl
    refine ⟨_, (pss_cons (ps_if (pt_not (pt_chain op_le op_le pe_int (pe_callB call_len_seq (by rfl) T.len (by decide +kernel) (pa_cons (pv 1) pa_nil)) pe_int (by rfl))) (pss_one (ps_ret (pe_tup (pa_cons pe_str (pa_cons pe_str (pa_cons (pe_callB call_len_seq (by rfl) T.len (by decide +kernel) (pa_cons (pv 1) pa_nil)) pa_nil)))))) pss_nil)
      (pss_cons (ps_if (pt_not (pt_chain op_le op_le pe_int (pe_callB call_len_seq (by rfl) T.len (by decide +kernel) (pa_cons (pv 2) pa_nil)) pe_int (by rfl))) (pss_one (ps_ret (pe_tup (pa_cons pe_str (pa_cons pe_str (pa_cons (pe_callB call_len_seq (by rfl) T.len (by decide +kernel) (pa_cons (pv 2) pa_nil)) pa_nil)))))) pss_nil)
      (pss_cons (ps_set (i := 5) scDue.nd rfl (Or.inl rfl) (pe_lst (pa_cons (pv 0) pa_nil)))
      (pss_cons (ps_for PassesOwn.never rfl (pi_list (pv 1)) (pg_tup rfl (pgs_cons (pg_name (i := 6) scDue.nd rfl (Or.inl rfl)) (pgs_cons (pg_name (i := 7) scDue.nd rfl (Or.inl rfl)) pgs_nil))) (pss_one (ps_set (i := 5) scDue.nd rfl (Or.inl rfl) (pe_op op_cat (pe_op op_cat (pv 5) (pe_lst (pa_cons (pv 6) pa_nil))) (pe_op op_rep (pe_lst (pa_cons (pv 7) pa_nil)) (pe_callTy call_int1 (by rfl) T.int (by decide +kernel) (pa_cons (pe_cmp (pc_notN (pv 7)) rfl) pa_nil)))))))
      (pss_cons (ps_for PassesOwn.never rfl (pi_list (pe_op op_cat (pv 5) (pe_lc (own := [("_law_x", 8), ("_law_word", 9), ("_law_y", 10)]) (g := gTup K 3 (gCons (gName 8) (gCons (gName 9) (gCons (gName 10) gNil)))) (tt := tYes) (te := (tVar 9)) rfl scDue.nd (pi_list (pv 3)) (blkOk_by (N := ["_law_name_here", "_law_variables_here", "_law_conditions_here", "_law_triples", "_law_hands", "_law_texts", "_law_one", "_law_sort", "_law_x", "_law_word", "_law_y", "_law_text", "_law_names_here", "_law_spoken"]) (sc := defScope sDue) (by decide +kernel)) (fun _ _ _ _ _ => (pg_tup rfl (pgs_cons (pg_name (i := 8) scDue.nd rfl (Or.inl rfl)) (pgs_cons (pg_name (i := 9) scDue.nd rfl (Or.inl rfl)) (pgs_cons (pg_name (i := 10) scDue.nd rfl (Or.inl rfl)) pgs_nil))))) (fun _ _ _ _ _ => pts_nil) (fun _ _ _ _ _ => (pv 9))))) (pg_name (i := 11) scDue.nd rfl (Or.inl rfl)) (pss_one (ps_if (pt_not (pt_val (pe_call GIs hr1 rfl DIs.g DIs.F.kp DIs.b .nil pass0 (pa_cons (pv 11) pa_nil)))) (pss_one (ps_ret (pe_tup (pa_cons pe_str (pa_cons (pv 11) pa_nil))))) pss_nil)))
      (pss_cons (ps_set (i := 12) scDue.nd rfl (Or.inl rfl) (pe_lst pa_nil))
      (pss_cons (ps_for PassesOwn.never rfl (pi_list (pv 1)) (pg_tup rfl (pgs_cons (pg_name (i := 6) scDue.nd rfl (Or.inl rfl)) (pgs_cons (pg_name (i := 7) scDue.nd rfl (Or.inl rfl)) pgs_nil))) (pss_cons (ps_if (pt_cmpR op_in_seq (pv 6) (pv 12) (by rfl)) (pss_one (ps_ret (pe_tup (pa_cons pe_str (pa_cons (pv 6) pa_nil))))) pss_nil)
      (pss_one (ps_expr (pe_bm PySem.F.plainAttrs_list PySem.F.slot_list_append PySem.F.type_list_append mt_append (pv 12) (pa_cons (pv 6) pa_nil))))))
      (pss_cons (ps_set (i := 13) scDue.nd rfl (Or.inl rfl) (pe_lst pa_nil))
      (pss_cons (ps_for PassesOwn.never rfl (pi_list (pv 3)) (pg_tup rfl (pgs_cons (pg_name (i := 8) scDue.nd rfl (Or.inl rfl)) (pgs_cons (pg_name (i := 9) scDue.nd rfl (Or.inl rfl)) (pgs_cons (pg_name (i := 10) scDue.nd rfl (Or.inl rfl)) pgs_nil)))) (pss_one (ps_set (i := 13) scDue.nd rfl (Or.inl rfl) (pe_op op_cat (pv 13) (pe_lst (pa_cons (pv 8) (pa_cons (pv 10) pa_nil)))))))
      (pss_cons (ps_for PassesOwn.never rfl (pi_list (pe_op op_cat (pv 13) (pv 4))) (pg_name (i := 6) scDue.nd rfl (Or.inl rfl)) (pss_one (ps_if (pt_cmpR op_notIn_seq (pv 6) (pv 12) (by rfl)) (pss_one (ps_ret (pe_tup (pa_cons pe_str (pa_cons (pv 6) pa_nil))))) pss_nil)))
      (pss_one (ps_ret (pe_call GHu hr1 rfl DHu.g DHu.F.kp DHu.b .nil pass0 (pa_cons (pv 12) (pa_cons (pv 2) pa_nil))))))))))))))), ?_⟩
    rw [show L2.start ["_law_name_here", "_law_variables_here", "_law_conditions_here", "_law_triples", "_law_hands", "_law_texts", "_law_one", "_law_sort", "_law_x", "_law_word", "_law_y", "_law_text", "_law_names_here", "_law_spoken"] [V.str nm, V.ref lv, V.ref lc, V.ref lt, V.ref lh] = [some (.str nm), some (.ref lv), some (.ref lc), some (.ref lt), some (.ref lh), none, none, none, none, none, none, none, none, none] from rfl]
    unfold patDue at k
    by_cases b1 : (vars.length : Int) < 1 ∨ 4 < (vars.length : Int)
    · rw [show cntO "variables" (vars.length : Int) 1 4 = some (.cnt "variables" (vars.length : Int)) from if_pos b1] at k
      refine ⟨_, rfl, lv, _, rfl, .inl (SqL.of hlv), _, _, rfl, rfl, _, rfl, ?_⟩
      rw [List.length_map, vl]
      refine ite2 (fun q1 => ⟨_, _, rfl, rfl, _, rfl, ?_⟩) (fun q1 => ⟨_, rfl, iteT ?_⟩)
      · have q1 := of_decide_eq_true q1
        rw [decide_eq_false (by omega)]
        refine iteT ⟨_, rfl, lv, _, rfl, .inl (SqL.of hlv), by show 3 ≤ sizeLine; decide, fun t ht => k _ _ (Same.upd ht) ⟨t, rfl, ?_⟩⟩
        rw [upd_same, List.length_map, vl]
        rfl
      · refine ⟨_, rfl, lv, _, rfl, .inl (SqL.of hlv), by show 3 ≤ sizeLine; decide, fun t ht => k _ _ (Same.upd ht) ⟨t, rfl, ?_⟩⟩
        rw [upd_same, List.length_map, vl]
        rfl
    rw [show cntO "variables" (vars.length : Int) 1 4 = none from if_neg b1, Option.none_or] at k
    refine ⟨_, rfl, lv, _, rfl, .inl (SqL.of hlv), _, _, rfl, rfl, _, rfl, ?_⟩
    rw [List.length_map, vl, decide_eq_true (by omega : (1 : Int) ≤ vars.length)]
    refine iteT ⟨_, _, rfl, rfl, _, rfl, ?_⟩
    rw [decide_eq_true (by omega : (vars.length : Int) ≤ 4)]
    refine iteF ?_
    by_cases b2 : (cs.length : Int) < 1 ∨ 3 < (cs.length : Int)
    · rw [show cntO "conditions" (cs.length : Int) 1 3 = some (.cnt "conditions" (cs.length : Int)) from if_pos b2] at k
      refine ⟨_, rfl, lc, _, rfl, .inl (SqL.of hlcq), _, _, rfl, rfl, _, rfl, ?_⟩
      rw [List.length_map, cl]
      refine ite2 (fun q1 => ⟨_, _, rfl, rfl, _, rfl, ?_⟩) (fun q1 => ⟨_, rfl, iteT ?_⟩)
      · have q1 := of_decide_eq_true q1
        rw [decide_eq_false (by omega)]
        refine iteT ⟨_, rfl, lc, _, rfl, .inl (SqL.of hlcq), by show 3 ≤ sizeLine; decide, fun t ht => k _ _ (Same.upd ht) ⟨t, rfl, ?_⟩⟩
        rw [upd_same, List.length_map, cl]
        rfl
      · refine ⟨_, rfl, lc, _, rfl, .inl (SqL.of hlcq), by show 3 ≤ sizeLine; decide, fun t ht => k _ _ (Same.upd ht) ⟨t, rfl, ?_⟩⟩
        rw [upd_same, List.length_map, cl]
        rfl
    rw [show cntO "conditions" (cs.length : Int) 1 3 = none from if_neg b2, Option.none_or] at k
    refine ⟨_, rfl, lc, _, rfl, .inl (SqL.of hlcq), _, _, rfl, rfl, _, rfl, ?_⟩
    rw [List.length_map, cl, decide_eq_true (by omega : (1 : Int) ≤ cs.length)]
    refine iteT ⟨_, _, rfl, rfl, _, rfl, ?_⟩
    rw [decide_eq_true (by omega : (cs.length : Int) ≤ 3)]
    refine iteF ?_
    -- the texts
    refine ⟨_, rfl, by show 1 ≤ sizeLine; decide, fun l hl => ?_⟩
    dsimp only [gName, List.set_cons_succ, List.set_cons_zero]
    have S0 : Same H (upd H l (.lst [.str nm])) := Same.upd hl
    refine ⟨_, rfl, lv, rfl, ⟨_, SqL.of (S0 _ _ hlv)⟩, for_list (K := K) (a := lv) (xs := us.map V.ref) (fun i σ H' => (∃ tx u v, σ = [some (.str nm), some (.ref lv), some (.ref lc), some (.ref lt), some (.ref lh), some (.ref tx), u, v, none, none, none, none, none, none] ∧ H' tx = some (.lst ((nm :: (vars.take i).flatMap varT).map V.str))) ∧ Same H H') ⟨⟨l, none, none, rfl, upd_same⟩, S0⟩ (fun i σ H' _ p => SqL.of (p.2 _ _ hlv)) ?_ ?_⟩
    · rintro i x σ H1 hi ⟨⟨tx, u', v', rfl, htx⟩, S1⟩
      obtain ⟨u, hu, rfl⟩ := map_ref_get hi
      obtain ⟨r, hr1', hr'⟩ := rv.get hu
      obtain ⟨⟨n, so⟩, hv, rfl⟩ := var_get hr1'
      have fl := flat_len2 (vars.take i)
      rw [List.length_take] at fl
      refine ⟨u, _, rfl, same_seqT S1 hr', rfl, _, _, rfl, _, _, rfl, rfl, ?_⟩
      dsimp only [gName, List.set_cons_succ, List.set_cons_zero]
      refine ⟨_, rfl, _, rfl, by show 1 ≤ sizeLine; decide, fun l1 hl1 => ⟨tx, l1, _, _, rfl, rfl, (upd_ne (ne_of_none htx hl1)).trans htx, upd_same, ?_, fun l2 hl2 => ?_⟩⟩
      · simp only [List.length_map, List.length_cons, List.length_nil]
        exact Nat.le_trans (show _ ≤ 1000 by omega) (by decide)
      refine ⟨_, rfl, by show 1 ≤ sizeLine; decide, fun l3 hl3 => ?_⟩
      have T1 : Same H1 (upd H1 l1 (.lst [.str n])) := Same.upd hl1
      generalize upd H1 l1 (.lst [.str n]) = G1 at T1 hl2 hl3
      have T2 : Same G1 (upd G1 l2 (.lst ((nm :: (vars.take i).flatMap varT).map V.str ++ [.str n]))) := Same.upd hl2
      have e2 : (upd G1 l2 (.lst ((nm :: (vars.take i).flatMap varT).map V.str ++ [.str n]))) l2 = some (.lst (((nm :: (vars.take i).flatMap varT) ++ [n]).map V.str)) := by rw [upd_same, List.map_append]; rfl
      generalize upd G1 l2 (.lst ((nm :: (vars.take i).flatMap varT).map V.str ++ [.str n])) = G2 at T2 e2 hl3
      refine ⟨_, rfl, .inr ⟨_, rfl, ?_⟩⟩
      have rep : (List.replicate (if (!decide (sortV so = V.non)) = true then (1 : Int) else 0).toNat [sortV so]).flatten = so.toList.map V.str := by
        cases so with
        | none => rfl
        | some z => rfl
      have rn : (if (!decide (sortV so = V.non)) = true then (1 : Int) else 0).toNat ≤ 1 := by split <;> decide
      have rb : (0 : Int) ≤ (if (!decide (sortV so = V.non)) = true then (1 : Int) else 0) ∧ (if (!decide (sortV so = V.non)) = true then (1 : Int) else 0) ≤ 1 := by split <;> decide
      generalize (if (!decide (sortV so = V.non)) = true then (1 : Int) else 0) = kk at rep rn rb
      refine ⟨l3, kk, _, rfl, rfl, upd_same, by omega, by omega, ?_, fun l4 hl4 => ?_⟩
      · exact Nat.le_trans (show 1 * kk.toNat ≤ 1 by omega) (by decide)
      rw [rep]
      have T3 : Same G2 (upd G2 l3 (.lst [sortV so])) := Same.upd hl3
      have e3 := T3 _ _ e2
      generalize upd G2 l3 (.lst [sortV so]) = G3 at T3 e3 hl4
      refine ⟨l2, l4, _, _, rfl, rfl, (upd_ne (ne_of_none e3 hl4)).trans e3, upd_same, ?_, fun tx2 htx2 => ⟨⟨tx2, _, _, rfl, ?_⟩, S1.trans (T1.trans (T2.trans (T3.trans ((Same.upd hl4).trans (Same.upd htx2)))))⟩⟩
      · simp only [List.length_map, List.length_append, List.length_cons, List.length_nil]
        have q : so.toList.length ≤ 1 := by cases so <;> simp
        exact Nat.le_trans (show _ ≤ 1000 by omega) (by decide)
      · rw [upd_same, ← List.map_append, flat_take hv]
        show some (HO.lst (((nm :: (vars.take i).flatMap varT) ++ [n] ++ so.toList).map V.str)) = some (HO.lst ((nm :: ((vars.take i).flatMap varT ++ n :: so.toList)).map V.str))
        rw [List.append_assoc]
        rfl
    rintro σ H1 ⟨⟨tx, u', v', rfl, htx⟩, S1⟩
    rw [List.length_map, vl, List.take_length] at htx
    have fl := flat_len2 vars
    dsimp only
    -- the texts and the words
    refine ⟨_, rfl, _, rfl, lt, rfl, ⟨_, SqL.of (S1 _ _ hlt)⟩, fun D hD => ?_⟩
    refine lc_list (K := K) (a := lt) (xs := ws.map V.ref) (fun i H' => Same H1 H' ∧ H' D = some (.lst ((((cs ++ gs).take i).map (·.2.1)).map V.str))) ⟨Same.upd hD, upd_same⟩ (fun i H' _ h => SqL.of (h.1 _ _ (S1 _ _ hlt))) ?_ ?_
    · rintro i x H3 hx ⟨S3, hD3⟩
      obtain ⟨u2, hu2, rfl⟩ := map_ref_get hx
      obtain ⟨ru2, hru2, hsu2⟩ := rt.get hu2
      obtain ⟨t2, ht2, rfl⟩ := tri_get hru2
      refine ⟨u2, _, rfl, same_seqT (S1.trans S3) hsu2, rfl, _, _, rfl, _, _, rfl, _, _, rfl, rfl, rfl, _, rfl, _, hD3, ?_, fun b o e => ?_, ?_⟩
      · rw [List.length_map, List.length_map, List.length_take, List.length_append]
        exact Nat.lt_of_le_of_lt (show _ ≤ 1000 by omega) (by decide)
      · rw [upd_ne (ne_of_none e hD)]
        exact S3 _ _ e
      · rw [upd_same, List.take_add_one, ht2, List.map_append, List.map_append]
        rfl
    rintro H2 ⟨S2, hD2⟩
    rw [List.length_map, tl, ← List.length_append, List.take_length] at hD2
    refine ⟨tx, D, _, _, rfl, rfl, S2 _ _ htx, hD2, ?_, fun ta hta => ?_⟩
    · rw [List.length_map, List.length_map, List.length_map, List.length_cons, List.length_append]
      exact Nat.le_trans (show _ ≤ 1000 by omega) (by decide)
    have T3 : Same H2 (upd H2 ta (.lst ((nm :: vars.flatMap varT).map V.str ++ ((cs ++ gs).map (·.2.1)).map V.str))) := Same.upd hta
    have e3 : (upd H2 ta (.lst ((nm :: vars.flatMap varT).map V.str ++ ((cs ++ gs).map (·.2.1)).map V.str))) ta = some (.lst ((textsL nm vars (cs ++ gs)).map V.str)) := by
      rw [upd_same]
      unfold textsL
      rw [List.map_append (l₁ := nm :: vars.flatMap varT)]
    generalize upd H2 ta (.lst ((nm :: vars.flatMap varT).map V.str ++ ((cs ++ gs).map (·.2.1)).map V.str)) = H3 at T3 e3
    have S3 := S1.trans (S2.trans T3)
    generalize hts : textsL nm vars (cs ++ gs) = ts at e3 hz k
    refine ⟨ta, rfl, ⟨_, SqL.of e3⟩, for_list (K := K) (a := ta) (xs := ts.map V.str) (fun i σ H' => (∃ v, σ = [some (.str nm), some (.ref lv), some (.ref lc), some (.ref lt), some (.ref lh), some (.ref tx), u', v', none, none, none, v, none, none]) ∧ Same H3 H' ∧ ∀ j y, j < i → ts[j]? = some y → nmP (ts.take j) y = none) ⟨⟨none, rfl⟩, Same.refl H3, fun j y h => absurd h (Nat.not_lt_zero j)⟩ (fun i σ H' _ p => SqL.of (p.2.1 _ _ e3)) ?_ ?_⟩
    · rintro i y σ H4 hi ⟨⟨v, rfl⟩, S4, hno⟩
      obtain ⟨z, hzi, rfl⟩ := map_str_get hi
      dsimp only [gName, List.set_cons_succ, List.set_cons_zero]
      refine ⟨_, rfl, z, rfl, hz z (List.mem_of_getElem? hzi), fun H5 S5 => ⟨_, rfl, ?_⟩⟩
      cases q : isNm z with
      | true => exact iteF ⟨⟨_, rfl⟩, S4.trans S5, goF_more hno hzi (by unfold nmP; rw [if_pos q])⟩
      | false =>
        rw [goF_hit hno hzi (by unfold nmP; rw [if_neg (by rw [q]; decide)])] at k
        exact iteT ⟨_, rfl, by show 2 ≤ sizeLine; decide, fun t ht => k _ _ (S3.trans (S4.trans (S5.trans (Same.upd ht)))) ⟨t, rfl, upd_same⟩⟩
    rintro σ H4 ⟨⟨v4, rfl⟩, S4, hno⟩
    rw [List.length_map] at hno
    rw [goF_none hno, Option.none_or] at k
    clear hno
    dsimp only
    have S04 := S3.trans S4
    -- the names, and whether one stands twice
    refine ⟨Nat.zero_le _, fun nl hnl => ?_⟩
    dsimp only [gName, List.set_cons_succ, List.set_cons_zero]
    have T5 : Same H4 (upd H4 nl (.lst [])) := Same.upd hnl
    have e5 : (upd H4 nl (.lst [])) nl = some (.lst []) := upd_same
    generalize upd H4 nl (.lst []) = H5 at T5 e5
    have S05 := S04.trans T5
    have f5 : H nl = none := S04.free hnl
    generalize hns : vars.map (·.1) = ns at k
    refine ⟨_, rfl, lv, rfl, ⟨_, SqL.of (S05 _ _ hlv)⟩, for_list (K := K) (a := lv) (xs := us.map V.ref) (fun i σ H' => (∃ u v, σ = [some (.str nm), some (.ref lv), some (.ref lc), some (.ref lt), some (.ref lh), some (.ref tx), u, v, none, none, none, v4, some (.ref nl), none]) ∧ H' nl = some (.lst ((ns.take i).map V.str)) ∧ Same H H' ∧ ∀ j y, j < i → ns[j]? = some y → twP (ns.take j) y = none) ⟨⟨_, _, rfl⟩, e5, S05, fun j y h => absurd h (Nat.not_lt_zero j)⟩ (fun i σ H' _ p => SqL.of (p.2.2.1 _ _ hlv)) ?_ ?_⟩
    · rintro i x σ H6 hi ⟨⟨u5, v5, rfl⟩, hnl6, S6, hno⟩
      obtain ⟨u, hu, rfl⟩ := map_ref_get hi
      obtain ⟨r, hr1', hr'⟩ := rv.get hu
      obtain ⟨⟨n, so⟩, hv, rfl⟩ := var_get hr1'
      have hn : ns[i]? = some n := by rw [← hns, List.getElem?_map, hv]; rfl
      refine ⟨u, _, rfl, same_seqT S6 hr', rfl, _, _, rfl, _, _, rfl, rfl, ?_⟩
      dsimp only [gName, List.set_cons_succ, List.set_cons_zero]
      refine ⟨_, rfl, _, rfl, nl, _, rfl, .inl (SqL.of hnl6), rfl, flat_strs _, _, rfl, ?_⟩
      rw [if_neg (by decide), inV_strs]
      by_cases q : n ∈ ns.take i
      · rw [decide_eq_true q]
        rw [goF_hit hno hn (by unfold twP; rw [if_pos q])] at k
        exact iteT ⟨_, rfl, by show 2 ≤ sizeLine; decide, fun t ht => k _ _ (S6.trans (Same.upd ht)) ⟨t, rfl, upd_same⟩⟩
      · rw [decide_eq_false q]
        refine iteF ?_
        refine ⟨_, rfl, .inl ⟨rfl, _, SqL.of hnl6⟩, _, rfl, nl, _, _, rfl, rfl, hnl6, ?_, ⟨_, _, rfl⟩, ?_, fun b o e => ?_, goF_more hno hn (by unfold twP; rw [if_neg q])⟩
        · rw [List.length_map, List.length_take]
          have q2 : ns.length ≤ 10 := by rw [← hns, List.length_map]; exact v10
          exact Nat.lt_of_le_of_lt (show _ ≤ 1000 by omega) (by decide)
        · rw [upd_same, List.take_add_one, hn, List.map_append]
          rfl
        · rw [upd_ne (ne_of_none e f5)]
          exact S6 _ _ e
    rintro σ H6 ⟨⟨u5, v5, rfl⟩, hnl6, S6, hno⟩
    have nsl : ns.length = us.length := by rw [← hns, List.length_map, vl]
    rw [List.length_map] at hno hnl6
    rw [← nsl, List.take_length] at hnl6
    rw [goF_none fun j y hj e => hno j y (by omega) e, Option.none_or] at k
    clear hno
    dsimp only
    -- what is spoken of
    refine ⟨Nat.zero_le _, fun sp hsp => ?_⟩
    dsimp only [gName, List.set_cons_succ, List.set_cons_zero]
    have T7 : Same H6 (upd H6 sp (.lst [])) := Same.upd hsp
    have e7 : (upd H6 sp (.lst [])) sp = some (.lst []) := upd_same
    generalize upd H6 sp (.lst []) = H7 at T7 e7
    have S07 := S6.trans T7
    have hnl7 := T7 _ _ hnl6
    refine ⟨_, rfl, lt, rfl, ⟨_, SqL.of (S07 _ _ hlt)⟩, for_list (K := K) (a := lt) (xs := ws.map V.ref) (fun i σ H' => (∃ x y z sp, σ = [some (.str nm), some (.ref lv), some (.ref lc), some (.ref lt), some (.ref lh), some (.ref tx), u5, v5, x, y, z, v4, some (.ref nl), some (.ref sp)] ∧ H' sp = some (.lst ((endsL ((cs ++ gs).take i)).map V.str))) ∧ Same H7 H') ⟨⟨_, _, _, sp, rfl, e7⟩, Same.refl H7⟩ (fun i σ H' _ p => SqL.of (p.2 _ _ (S07 _ _ hlt))) ?_ ?_⟩
    · rintro i x σ H8 hi ⟨⟨x8, y8, z8, sp8, rfl, hsp8⟩, S8⟩
      obtain ⟨u, hu, rfl⟩ := map_ref_get hi
      obtain ⟨r, hr1', hr'⟩ := rt.get hu
      obtain ⟨t, ht, rfl⟩ := tri_get hr1'
      refine ⟨u, _, rfl, same_seqT (S07.trans S8) hr', rfl, _, _, rfl, _, _, rfl, _, _, rfl, rfl, ?_⟩
      dsimp only [gName, List.set_cons_succ, List.set_cons_zero]
      refine ⟨_, rfl, _, rfl, _, rfl, by show 2 ≤ sizeLine; decide, fun l hl => ⟨sp8, l, _, _, rfl, rfl, (upd_ne (ne_of_none hsp8 hl)).trans hsp8, upd_same, ?_, fun s6 hs6 => ⟨⟨_, _, _, s6, rfl, ?_⟩, S8.trans ((Same.upd hl).trans (Same.upd hs6))⟩⟩⟩
      · rw [List.length_map, endsL_len, List.length_take, List.length_append]
        exact Nat.le_trans (show _ ≤ 1000 by simp; omega) (by decide)
      · rw [upd_same, ends_take ht, List.map_append]
        rfl
    rintro σ H8 ⟨⟨x8, y8, z8, sp8, rfl, hsp8⟩, S8⟩
    rw [List.length_map, tl, ← List.length_append, List.take_length] at hsp8
    dsimp only
    have S08 := S07.trans S8
    refine ⟨_, rfl, _, rfl, sp8, lh, _, _, rfl, rfl, hsp8, S08 _ _ hlh, ?_, fun sa hsa => ?_⟩
    · rw [List.length_map, List.length_map, endsL_len, List.length_append]
      exact Nat.le_trans (show _ ≤ 1000 by omega) (by decide)
    have T9 : Same H8 (upd H8 sa (.lst ((endsL (cs ++ gs)).map V.str ++ hs.map V.str))) := Same.upd hsa
    have e9 : (upd H8 sa (.lst ((endsL (cs ++ gs)).map V.str ++ hs.map V.str))) sa = some (.lst ((endsL (cs ++ gs) ++ hs).map V.str)) := by rw [upd_same, List.map_append]
    generalize upd H8 sa (.lst ((endsL (cs ++ gs)).map V.str ++ hs.map V.str)) = H9 at T9 e9
    have S09 := S08.trans T9
    have hnl9 := T9 _ _ (S8 _ _ hnl7)
    generalize endsL (cs ++ gs) ++ hs = ys at e9 k
    refine ⟨sa, rfl, ⟨_, SqL.of e9⟩, for_list (K := K) (a := sa) (xs := ys.map V.str) (fun i σ H' => (∃ v, σ = [some (.str nm), some (.ref lv), some (.ref lc), some (.ref lt), some (.ref lh), some (.ref tx), v, v5, x8, y8, z8, v4, some (.ref nl), some (.ref sp8)]) ∧ H' = H9 ∧ ∀ j y, j < i → ys[j]? = some y → novP ns (ys.take j) y = none) ⟨⟨_, rfl⟩, rfl, fun j y h => absurd h (Nat.not_lt_zero j)⟩ (fun i σ H' _ p => by rw [p.2.1]; exact SqL.of e9) ?_ ?_⟩
    · rintro i y σ H' hi ⟨⟨v, rfl⟩, rfl, hno⟩
      obtain ⟨z, hzi, rfl⟩ := map_str_get hi
      dsimp only [gName, List.set_cons_succ, List.set_cons_zero]
      refine ⟨_, rfl, _, rfl, nl, _, rfl, .inl (SqL.of hnl9), rfl, flat_strs _, _, rfl, ?_⟩
      rw [if_pos rfl, inV_strs]
      by_cases q : z ∈ ns
      · rw [decide_eq_true q]
        exact iteF ⟨⟨_, rfl⟩, rfl, goF_more hno hzi (by unfold novP; rw [if_pos q])⟩
      · rw [decide_eq_false q]
        rw [goF_hit hno hzi (by unfold novP; rw [if_neg q])] at k
        exact iteT ⟨_, rfl, by show 2 ≤ sizeLine; decide, fun t ht => k _ _ (S09.trans (Same.upd ht)) ⟨t, rfl, upd_same⟩⟩
    rintro σ H' ⟨⟨v, rfl⟩, rfl, hno⟩
    rw [List.length_map] at hno
    rw [goF_none hno, Option.none_or] at k
    dsimp only
    exact ⟨_, rfl, _, rfl, nl, lc, ns, cs, rfl, hnl9, hlc.same S09, c10, fun v H10 S10 vl => k v H10 (S09.trans S10) vl⟩
end
end Wm
namespace Wm
open PySem L2 StX
/-- what is told of a pattern that was made -/
def MdAt (K : PySem.W.Frag) (H : Hp) (f : Addr) (nm : Str) (vars : List Var) (cs : List Tri) (tl : List V) : Prop := ∃ (t1 t2 : Addr) (us qs : List Addr), H t1 = some (.tup (us.map V.ref)) ∧ RowsAt K H us (vars.map varV) ∧ H t2 = some (.tup (qs.map V.ref)) ∧ RowsAt K H qs (cs.map triV) ∧ H f = some (.tup ([.str "made", .str nm, .ref t1, .ref t2] ++ tl))
def gsOf (bar : Bool) (gt : Tri) : List Tri := if bar then [] else [gt]
def hsOf (bar : Bool) (b : Str) : List Str := if bar then [] else [b]
def tlOf (bar : Bool) (g : Addr) (b : Str) : List V := if bar then [] else [.ref g, .str b]
def FdAt (K : PySem.W.Frag) (H : Hp) (f : Addr) (nm : Str) (vars : List Var) (cs : List Tri) (tl : List V) : Option Rf → Prop
  | none => MdAt K H f nm vars cs tl
  | some r => H f = some (.tup (tupOf r))
def tFB (K : PySem.W.Frag) (C : Nat → Addr) (BB RB : Addr) (W : WX) : TS := tIfS (tTest (tVar 5))
  (tSeq (tAsg (tMakeS BB (spBar2 K C BB) (WE W) (tCons (tVar 0) (tCons (tCB (rLstOf K) (tCons (tVar 1) tNil)) (tCons (tCB (rLstOf K) (tCons (tVar 2) tNil)) tNil)))) (gName 7)) (tAsg (tTup (tCons (tC (.str "made")) (tCons (tFld K (tVar 7) "name") (tCons (tFld K (tVar 7) "variables") (tCons (tFld K (tVar 7) "conditions") tNil))))) (gName 6)))
  (tSeq (tAsg (tMakeS RB (spRul2 K C RB) (WE W) (tCons (tVar 0) (tCons (tCB (rLstOf K) (tCons (tVar 1) tNil)) (tCons (tCB (rLstOf K) (tCons (tVar 2) tNil)) (tCons (tVar 3) (tCons (tVar 4) tNil)))))) (gName 7)) (tAsg (tTup (tCons (tC (.str "made")) (tCons (tFld K (tVar 7) "name") (tCons (tFld K (tVar 7) "variables") (tCons (tFld K (tVar 7) "conditions") (tCons (tFld K (tVar 7) "gives") (tCons (tFld K (tVar 7) "by") tNil))))))) (gName 6)))
def tFS (C : Nat → Addr) : Addr → Value → Option Addr → TS := fun a cls d => tAsg (tCallE (spTld C a cls d) (tCons (tVar 8) tNil)) (gName 6)
def spFou (K : PySem.W.Frag) : Sp := fun vs H Q _ => ∃ (nm b : Str) (lv lc g : Addr) (bar : Bool) (vars : List Var) (cs : List Tri) (gt : Tri), vs = [.str nm, .ref lv, .ref lc, .ref g, .str b, .bl bar] ∧ VsAt K H lv vars ∧ CsAt K H lc cs ∧ H g = some (.tup (triV gt)) ∧ vars.length ≤ 10 ∧ cs.length ≤ 10 ∧ (∀ z ∈ textsL nm vars (cs ++ gsOf bar gt), z.length ≤ 1000) ∧ ∀ f H', Same H H' → FdAt K H' f nm vars cs (tlOf bar g b) (patDue nm vars cs (gsOf bar gt) (hsOf bar b)) → Q (.ref f) H'
section
variable {P : Program} {w : World} {K : PySem.W.Frag} {mg : Str → Option Value} {base : Heap} {C : Nat → Addr}
theorem scFou : FnScope ["_law_name_here", "_law_variables_here", "_law_conditions_here", "_law_gives", "_law_by", "_law_bar", "_law_found_here", "_law_one", "_law_e"] ["_law_name_here", "_law_variables_here", "_law_conditions_here", "_law_gives", "_law_by", "_law_bar"] (defScope sFou) := ⟨rfl, rfl, rfl, by decide +kernel, rfl, by decide +kernel, by decide +kernel⟩
theorem ok_fou {f fT fB fR BB RB W : Addr} {fd dT dB dR : FuncData} (F : Fun K "_law_found" "_law_found" sFou f fd) (T : TxB mg) (T3 : Tx3 mg) (TE : TxE K mg C W) (DTl : Dn K mg "_law_told" sTld ["_law_e"] fT dT) (GTl : FnEN P w K mg base 1 fT dT ["_law_e"] (spTld C)) (TB : TxBar K mg BB fB) (bB : Binds K dB ["self", "name", "variables", "conditions"] []) (GB : FnOk P w K mg base (L2N.CX P w) 6 fB dB ["self", "name", "variables", "conditions"] (spBar2 K C BB))
    (TR : TxRul K mg RB fR) (bR : Binds K dR ["self", "name", "variables", "conditions", "gives", "by"] []) (GR : FnOk P w K mg base (L2N.CX P w) 6 fR dR ["self", "name", "variables", "conditions", "gives", "by"] (spRul2 K C RB)) : FnOk P w K mg base CX0 8 f fd ["_law_name_here", "_law_variables_here", "_law_conditions_here", "_law_gives", "_law_by", "_law_bar"] (spFou K) := by
  refine F.ok scFou (fun vs H Q E h => ?_) (fun cdv A outer s H vs Q E hr h => ?_)
  · obtain ⟨nm, b, lv, lc, g, bar, vars, cs, gt, rfl, _⟩ := h
    rfl
  · obtain ⟨nm, b, lv, lc, g, bar, vars, cs, gt, rfl, ⟨us, hlv, rv⟩, ⟨qs, hlc, rc⟩, hg, v10, c10, hz, k⟩ := h
    have hr1 : Room 1 _ := hr.mono (by decide)
    have hr7 : Room 7 _ := hr
    refine ⟨_, (pss_cons (ps_set (i := 6) scFou.nd rfl (Or.inl rfl) pe_non)
      (pss_cons (L2N.ps_try_as (i := 8) (tb := tFB K C BB RB) (ts := tFS C) (Wout := fun _ _ _ _ => False) rfl rfl scFou.nd rfl rfl ⟨rfl, by decide, Or.inl TE.gW⟩ takesN0 (fun W_ pn xe tk _ => (pss_one (ps_if (pt_val (pv 5)) (pss_cons (ps_set (i := 7) scFou.nd rfl (Or.inl rfl) (by exact (pe_makeS TB.m GB hr7 rfl TB.g bB (fun σ => L2N.passAt tk σ) (by exact (pa_cons (pv 0) (pa_cons (pe_callTy call_list_of (by rfl) T3.list (by decide +kernel) (pa_cons (pv 1) pa_nil)) (pa_cons (pe_callTy call_list_of (by rfl) T3.list (by decide +kernel) (pa_cons (pv 2) pa_nil)) pa_nil)))))))
      (pss_one (ps_set (i := 6) scFou.nd rfl (Or.inl rfl) (pe_tup (pa_cons pe_str (pa_cons (pe_fld (pv 7) rfl) (pa_cons (pe_fld (pv 7) rfl) (pa_cons (pe_fld (pv 7) rfl) pa_nil)))))))) (pss_cons (ps_set (i := 7) scFou.nd rfl (Or.inl rfl) (by exact (pe_makeS TR.m GR hr7 rfl TR.g bR (fun σ => L2N.passAt tk σ) (by exact (pa_cons (pv 0) (pa_cons (pe_callTy call_list_of (by rfl) T3.list (by decide +kernel) (pa_cons (pv 1) pa_nil)) (pa_cons (pe_callTy call_list_of (by rfl) T3.list (by decide +kernel) (pa_cons (pv 2) pa_nil)) (pa_cons (pv 3) (pa_cons (pv 4) pa_nil)))))))))
      (pss_one (ps_set (i := 6) scFou.nd rfl (Or.inl rfl) (pe_tup (pa_cons pe_str (pa_cons (pe_fld (pv 7) rfl) (pa_cons (pe_fld (pv 7) rfl) (pa_cons (pe_fld (pv 7) rfl) (pa_cons (pe_fld (pv 7) rfl) (pa_cons (pe_fld (pv 7) rfl) pa_nil))))))))))))) (fun a oe cls d pn hz hf => (pss_one (ps_set (i := 6) scFou.nd rfl (Or.inl rfl) (by exact (pe_callEN GTl (L2H.roomH_of hr1) hz hf rfl DTl.g DTl.F.kp DTl.b (pa_cons (pv 8) pa_nil)))))))
      (pss_one (ps_ret (pv 6))))), ?_⟩
    rw [show L2.start ["_law_name_here", "_law_variables_here", "_law_conditions_here", "_law_gives", "_law_by", "_law_bar", "_law_found_here", "_law_one", "_law_e"] [V.str nm, V.ref lv, V.ref lc, V.ref g, V.str b, V.bl bar] = [some (.str nm), some (.ref lv), some (.ref lc), some (.ref g), some (.str b), some (.bl bar), none, none, none] from rfl]
    dsimp only [gName, List.set_cons_succ, List.set_cons_zero]
    refine ⟨_, rfl, _, rfl, ?_⟩
    have told : ∀ (r : Rf) (dZ : Addr) (H15 : Hp) (D : Ends) (x : Option V), Same H H15 → H15 dZ = some (.xd (fsOf r)) → patDue nm vars cs (gsOf bar gt) (hsOf bar b) = some r → (∀ t H16, Same H H16 → H16 t = some (.tup (tupOf r)) → D.nx [some (.str nm), some (.ref lv), some (.ref lc), some (.ref g), some (.str b), some (.bl bar), some (.ref t), x, none] H16) →
        wAs K (.ref W) 8 (tFS C) (fun _ _ _ _ => False) D (.ref (C (ixOf r))) (some dZ) [some (.str nm), some (.ref lv), some (.ref lc), some (.ref g), some (.str b), some (.bl bar), some .non, x, none] H15 := by
      intro r dZ H15 D x S15 hx15 due fin
      refine ⟨true, (TE.er _ (ix_lt r)).te, fun _ a0 _ => ?_, fun q => Bool.noConfusion q⟩
      exact ⟨_, rfl, rfl, dZ, r, rfl, rfl, hx15, fun t9 H16 S16 t90 e16 => fin t9 H16 (S15.trans S16) e16⟩
    have fill : ∀ {S : Hp}, Same H S → ∀ {l1 l2 : Addr}, S l1 = none → (upd S l1 (.lst (us.map V.ref))) l2 = none → Same H (upd (upd S l1 (.lst (us.map V.ref))) l2 (.lst (qs.map V.ref))) := fun s _ _ a b => (s.trans (Same.upd a)).trans (Same.upd b)
    cases bar with
    | true =>
      refine iteT ?_
      refine ⟨_, rfl, _, rfl, lv, _, rfl, .inl (SqL.of hlv), fun l1 hl1 => ⟨_, rfl, lc, _, rfl, .inl (SqL.of (Same.upd hl1 _ _ hlc)), fun l2 hl2 => ?_⟩⟩
      have n12 : l1 ≠ l2 := ne_of_none upd_same hl2
      have S2 := fill (Same.refl H) hl1 hl2
      have e1 : (upd (upd H l1 (.lst (us.map V.ref))) l2 (.lst (qs.map V.ref))) l1 = some (.lst (us.map V.ref)) := by rw [upd_ne n12, upd_same]
      have e2 : (upd (upd H l1 (.lst (us.map V.ref))) l2 (.lst (qs.map V.ref))) l2 = some (.lst (qs.map V.ref)) := upd_same
      generalize upd (upd H l1 (.lst (us.map V.ref))) l2 (.lst (qs.map V.ref)) = H2 at S2 e1 e2
      intro x dx nx ndx nex
      refine ⟨H2, x, dx, l1, l2, nm, us, qs, vars, cs, rfl, same_make nx ndx, nx, upd_same, SqL.of e1, rv.same S2, SqL.of e2, rc.same S2, v10, c10, hz, ?_⟩
      cases hdu : patDue nm vars cs [] [] with
      | none =>
        intro H15 S15 t1 t2 hx ht1 ht2
        refine ⟨rfl, ?_⟩
        dsimp only [gName, List.set_cons_succ, List.set_cons_zero]
        refine ⟨_, rfl, x, BB, dx, _, _, rfl, hx, TB.cl, TB.nn, barF_name _ _ _, _, rfl, x, BB, dx, _, _, rfl, hx, TB.cl, TB.nv, barF_vars _ _ _, _, rfl, x, BB, dx, _, _, rfl, hx, TB.cl, TB.nc, barF_cond _ _ _, by show 4 ≤ sizeLine; decide, fun f hf => ?_⟩
        have S16 := (S2.trans S15).trans (Same.upd (o := .tup [.str "made", .str nm, .ref t1, .ref t2]) hf)
        refine ⟨_, rfl, k f _ S16 ?_⟩
        show FdAt K _ f nm vars cs _ (patDue nm vars cs [] [])
        rw [hdu]
        exact ⟨t1, t2, us, qs, (Same.upd hf) _ _ ht1, rv.same S16, (Same.upd hf) _ _ ht2, rc.same S16, upd_same⟩
      | some r =>
        intro dZ H15 n15 S15 hx15
        refine told r dZ H15 _ _ (S2.trans S15) hx15 hdu fun t H16 S16 e16 => ?_
        refine ⟨_, rfl, k t _ S16 ?_⟩
        show FdAt K _ t nm vars cs _ (patDue nm vars cs [] [])
        rw [hdu]
        exact e16
    | false =>
      refine iteF ?_
      refine ⟨_, rfl, _, rfl, lv, _, rfl, .inl (SqL.of hlv), fun l1 hl1 => ⟨_, rfl, lc, _, rfl, .inl (SqL.of (Same.upd hl1 _ _ hlc)), fun l2 hl2 => ⟨_, rfl, _, rfl, ?_⟩⟩⟩
      have n12 : l1 ≠ l2 := ne_of_none upd_same hl2
      have S2 := fill (Same.refl H) hl1 hl2
      have e1 : (upd (upd H l1 (.lst (us.map V.ref))) l2 (.lst (qs.map V.ref))) l1 = some (.lst (us.map V.ref)) := by rw [upd_ne n12, upd_same]
      have e2 : (upd (upd H l1 (.lst (us.map V.ref))) l2 (.lst (qs.map V.ref))) l2 = some (.lst (qs.map V.ref)) := upd_same
      generalize upd (upd H l1 (.lst (us.map V.ref))) l2 (.lst (qs.map V.ref)) = H2 at S2 e1 e2
      intro x dx nx ndx nex
      refine ⟨H2, x, dx, l1, l2, g, nm, b, us, qs, vars, cs, gt, rfl, same_make nx ndx, nx, upd_same, SqL.of e1, rv.same S2, SqL.of e2, rc.same S2, S2 _ _ hg, v10, c10, hz, ?_⟩
      cases hdu : patDue nm vars cs [gt] [b] with
      | none =>
        intro H15 S15 t1 t2 hx ht1 ht2
        refine ⟨rfl, ?_⟩
        dsimp only [gName, List.set_cons_succ, List.set_cons_zero]
        refine ⟨_, rfl, x, RB, dx, _, _, rfl, hx, TR.cl, TR.nn, rulF_name _ _ _ _ _, _, rfl, x, RB, dx, _, _, rfl, hx, TR.cl, TR.nv, rulF_vars _ _ _ _ _, _, rfl, x, RB, dx, _, _, rfl, hx, TR.cl, TR.nc, rulF_cond _ _ _ _ _, _, rfl, x, RB, dx, _, _, rfl, hx, TR.cl, TR.ng, rulF_gives _ _ _ _ _, _, rfl, x, RB, dx, _, _, rfl, hx, TR.cl, TR.nb, rulF_by _ _ _ _ _, by show 6 ≤ sizeLine; decide, fun f hf => ?_⟩
        have S16 := (S2.trans S15).trans (Same.upd (o := .tup [.str "made", .str nm, .ref t1, .ref t2, .ref g, .str b]) hf)
        refine ⟨_, rfl, k f _ S16 ?_⟩
        show FdAt K _ f nm vars cs _ (patDue nm vars cs [gt] [b])
        rw [hdu]
        exact ⟨t1, t2, us, qs, (Same.upd hf) _ _ ht1, rv.same S16, (Same.upd hf) _ _ ht2, rc.same S16, upd_same⟩
      | some r =>
        intro dZ H15 n15 S15 hx15
        refine told r dZ H15 _ _ (S2.trans S15) hx15 hdu fun t H16 S16 e16 => ?_
        refine ⟨_, rfl, k t _ S16 ?_⟩
        show FdAt K _ t nm vars cs _ (patDue nm vars cs [gt] [b])
        rw [hdu]
        exact e16
end
end Wm
namespace Wm
open PySem L2 StX
def sortD : Option Str → PyData
  | none => .none
  | some s => .str s
def varD (v : Var) : List PyData := [.str v.1, sortD v.2]
def triD (t : Tri) : List PyData := [.str t.1, .str t.2.1, .str t.2.2]
def rowsD (rs : List (List PyData)) : PyData := .tuple (rs.map PyData.tuple)
theorem dp_var {K : PySem.W.Frag} {H : Hp} (v : Var) : DpAll K H (varV v) (varD v) := by
  obtain ⟨n, s⟩ := v
  cases s with
  | none => exact .cons (.str _) (.cons .non .nil)
  | some s => exact .cons (.str _) (.cons (.str _) .nil)
theorem dp_tri {K : PySem.W.Frag} {H : Hp} (t : Tri) : DpAll K H (triV t) (triD t) := .cons (.str _) (.cons (.str _) (.cons (.str _) .nil))
theorem dp_rows {K : PySem.W.Frag} {H : Hp} {α : Type} {f : α → List V} {g : α → List PyData} (h : ∀ a, DpAll K H (f a) (g a)) : ∀ {ps : List Addr} {xs : List α}, RowsAt K H ps (xs.map f) → DpAll K H (ps.map V.ref) ((xs.map g).map PyData.tuple)
  | [], [], _ => .nil
  | _ :: _, x :: _, r => .cons (.tup r.1 (h x)) (dp_rows h r.2)
  | [], _ :: _, r => r.elim
  | _ :: _, [], r => r.elim
theorem strOk_of {z : Str} (h : okS z) : PyData.strOk z = true := by
  unfold PyData.strOk
  rw [Array.all_eq_true_iff_forall_mem]
  intro c hc
  exact decide_eq_true (h c (by simpa using hc))
theorem eqv_self {d : PyData} (h : SeqAt.shaped d = true) : PyData.eqv d d = true := SeqAt.eqv_refl d (SeqAt.canLay_of_shaped h)
def VarOk (v : Var) : Prop := okS v.1 ∧ ∀ z, v.2 = some z → okS z
def TriOk (t : Tri) : Prop := okS t.1 ∧ okS t.2.1 ∧ okS t.2.2
theorem tups_sh : ∀ {rs : List (List PyData)}, (∀ r ∈ rs, PyData.canLayAll0 r = true ∧ PyData.depthAll r ≤ 1) → PyData.canLayAll0 (rs.map PyData.tuple) = true ∧ PyData.depthAll (rs.map PyData.tuple) ≤ 2
  | [], _ => by simp [PyData.canLayAll0, PyData.depthAll]
  | r :: rs, h => by
    obtain ⟨a, b⟩ := h r List.mem_cons_self
    obtain ⟨h2, h3⟩ := tups_sh (rs := rs) fun y hy => h y (List.mem_cons_of_mem _ hy)
    have e : (PyData.tuple r).canLay0 = true := by simp [PyData.canLay0, a]
    have d : (PyData.tuple r).depth ≤ 2 := by
      simp [PyData.depth]
      omega
    refine ⟨by simp only [List.map_cons, PyData.canLayAll0, e, h2, Bool.and_self], ?_⟩
    simp only [List.map_cons, PyData.depthAll]
    omega
theorem rows_sh {rs : List (List PyData)} (h : ∀ r ∈ rs, PyData.canLayAll0 r = true ∧ PyData.depthAll r ≤ 1) : SeqAt.shaped (rowsD rs) = true := by
  obtain ⟨a, b⟩ := tups_sh h
  unfold rowsD
  generalize rs.map PyData.tuple = X at a b
  simp [SeqAt.shaped, PyData.canLay0, PyData.depth, a]
  omega
theorem var_sh {v : Var} (h : VarOk v) : PyData.canLayAll0 (varD v) = true ∧ PyData.depthAll (varD v) ≤ 1 := by
  obtain ⟨n, s⟩ := v
  have a := strOk_of h.1
  cases s with
  | none => simp [varD, sortD, PyData.canLay0, PyData.canLayAll0, PyData.depth, PyData.depthAll, a]
  | some s =>
    have b := strOk_of (h.2 s rfl)
    simp [varD, sortD, PyData.canLay0, PyData.canLayAll0, PyData.depth, PyData.depthAll, a, b]
theorem tri_sh {t : Tri} (h : TriOk t) : PyData.canLayAll0 (triD t) = true ∧ PyData.depthAll (triD t) ≤ 1 := by
  have a := strOk_of h.1
  have b := strOk_of h.2.1
  have c := strOk_of h.2.2
  simp [triD, PyData.canLay0, PyData.canLayAll0, PyData.depth, PyData.depthAll, a, b, c]
theorem vars_sh {vs : List Var} (h : ∀ v ∈ vs, VarOk v) : SeqAt.shaped (rowsD (vs.map varD)) = true := rows_sh fun r hr => by
  obtain ⟨v, hv, rfl⟩ := List.mem_map.mp hr
  exact var_sh (h v hv)
theorem tris_sh {vs : List Tri} (h : ∀ v ∈ vs, TriOk v) : SeqAt.shaped (rowsD (vs.map triD)) = true := rows_sh fun r hr => by
  obtain ⟨v, hv, rfl⟩ := List.mem_map.mp hr
  exact tri_sh (h v hv)
theorem tri1_sh {t : Tri} (h : TriOk t) : SeqAt.shaped (.tuple (triD t)) = true := by
  obtain ⟨a, b⟩ := tri_sh h
  generalize triD t = X at a b
  simp [SeqAt.shaped, PyData.canLay0, PyData.depth, a]
  omega
/-! ### what is due, as data -/
def tupD : Rf → List PyData
  | .cnt w n => [.str "badcount", .str w, .int n]
  | .nm z => [.str "noname", .str z]
  | .tw z => [.str "twice", .str z]
  | .nov z => [.str "novariable", .str z]
  | .loose z => [.str "loose", .str z]
  | .apart i => [.str "apart", .int (i : Nat)]
def RfOk : Rf → Prop
  | .cnt w _ => okS w
  | .nm z => okS z
  | .tw z => okS z
  | .nov z => okS z
  | .loose z => okS z
  | .apart _ => True
theorem dp_tup {K : PySem.W.Frag} {H : Hp} (r : Rf) : DpAll K H (tupOf r) (tupD r) := by
  cases r with
  | cnt w n => exact .cons (.str _) (.cons (.str _) (.cons (.int _) .nil))
  | nm z => exact .cons (.str _) (.cons (.str _) .nil)
  | tw z => exact .cons (.str _) (.cons (.str _) .nil)
  | nov z => exact .cons (.str _) (.cons (.str _) .nil)
  | loose z => exact .cons (.str _) (.cons (.str _) .nil)
  | apart i => exact .cons (.str _) (.cons (.int _) .nil)
theorem kd_ok : ∀ z ∈ (["badcount", "noname", "twice", "novariable", "loose", "apart", "made", "take"] : List Str), Dr z := by decide +kernel
theorem tup_sh {r : Rf} (h : RfOk r) : SeqAt.shaped (.tuple (tupD r)) = true := by
  have k : ∀ z ∈ (["badcount", "noname", "twice", "novariable", "loose", "apart", "made", "take"] : List Str), PyData.strOk z = true := fun z hz => strOk_of (kd_ok z hz).2
  have k1 := k "badcount" (by simp)
  have k2 := k "noname" (by simp)
  have k3 := k "twice" (by simp)
  have k4 := k "novariable" (by simp)
  have k5 := k "loose" (by simp)
  have k6 := k "apart" (by simp)
  cases r with
  | cnt w n => have a := strOk_of (show okS w from h); simp [tupD, SeqAt.shaped, PyData.canLay0, PyData.canLayAll0, PyData.depth, PyData.depthAll, a, k1]
  | nm z => have a := strOk_of (show okS z from h); simp [tupD, SeqAt.shaped, PyData.canLay0, PyData.canLayAll0, PyData.depth, PyData.depthAll, a, k2]
  | tw z => have a := strOk_of (show okS z from h); simp [tupD, SeqAt.shaped, PyData.canLay0, PyData.canLayAll0, PyData.depth, PyData.depthAll, a, k3]
  | nov z => have a := strOk_of (show okS z from h); simp [tupD, SeqAt.shaped, PyData.canLay0, PyData.canLayAll0, PyData.depth, PyData.depthAll, a, k4]
  | loose z => have a := strOk_of (show okS z from h); simp [tupD, SeqAt.shaped, PyData.canLay0, PyData.canLayAll0, PyData.depth, PyData.depthAll, a, k5]
  | apart i => simp [tupD, SeqAt.shaped, PyData.canLay0, PyData.canLayAll0, PyData.depth, PyData.depthAll, k6]
theorem goF_some {α β : Type} {p : List α → α → Option β} {b : β} : ∀ {xs pre : List α}, goF p pre xs = some b → ∃ q x, x ∈ xs ∧ p q x = some b
  | [], _, h => by cases h
  | x :: r, pre, h => by
    rw [goF] at h
    split at h
    · rename_i y e
      cases h
      exact ⟨pre, x, List.mem_cons_self, e⟩
    · obtain ⟨q, y, hy, e⟩ := goF_some h
      exact ⟨q, y, List.mem_cons_of_mem _ hy, e⟩
theorem due_ok {nm : Str} {vars : List Var} {cs gs : List Tri} {hs : List Str} {r : Rf} (ht : ∀ z ∈ textsL nm vars (cs ++ gs), okS z) (hn : ∀ v ∈ vars, okS v.1) (he : ∀ z ∈ endsL (cs ++ gs) ++ hs, okS z) (h : patDue nm vars cs gs hs = some r) : RfOk r := by
  have hn' : ∀ z ∈ vars.map (·.1), okS z := fun z hz => by
    obtain ⟨v, hv, rfl⟩ := List.mem_map.mp hz
    exact hn v hv
  unfold patDue at h
  simp only [Option.or_eq_some_iff] at h
  rcases h with h | ⟨_, h | ⟨_, h | ⟨_, h | ⟨_, h | ⟨_, h | ⟨_, h⟩⟩⟩⟩⟩⟩
  · unfold cntO at h
    split at h
    · cases h
      show okS _
      unfold okS
      decide +kernel
    · cases h
  · unfold cntO at h
    split at h
    · cases h
      show okS _
      unfold okS
      decide +kernel
    · cases h
  · obtain ⟨q, x, hx, e⟩ := goF_some h
    unfold nmP at e
    split at e
    · cases e
    · cases e
      exact ht x hx
  · obtain ⟨q, x, hx, e⟩ := goF_some h
    unfold twP at e
    split at e
    · cases e
      exact hn' x hx
    · cases e
  · obtain ⟨q, x, hx, e⟩ := goF_some h
    unfold novP at e
    split at e
    · cases e
    · cases e
      exact he x hx
  · obtain ⟨q, x, hx, e⟩ := goF_some h
    unfold loP at e
    split at e
    · cases e
    · cases e
      exact hn' x hx
  · obtain ⟨q, x, hx, e⟩ := goF_some h
    unfold apP at e
    split at e
    · cases e
      trivial
    · cases e
def tlD (bar : Bool) (gt : Tri) (b : Str) : List PyData := if bar then [] else [.tuple (triD gt), .str b]
def madD (nm : Str) (vars : List Var) (cs : List Tri) (bar : Bool) (gt : Tri) (b : Str) : PyData := .tuple ([.str "made", .str nm, rowsD (vars.map varD), rowsD (cs.map triD)] ++ tlD bar gt b)
theorem VarsOk.ok {vars : List Var} (h : VarsOk vars) : ∀ v ∈ vars, VarOk v := fun v hv => ⟨(h v hv).1.2, fun z e => ((h v hv).2 z e).2⟩
theorem TriDr.ok {t : Tri} (h : TriDr t) : TriOk t := ⟨h.1.2, h.2.1.2, h.2.2.2⟩
theorem mad_sh {nm : Str} {vars : List Var} {cs : List Tri} {bar : Bool} {gt : Tri} {b : Str} (hn : Dr nm) (hv : VarsOk vars) (hc : ∀ t ∈ cs, TriDr t) (hg : TriDr gt) (hb : Dr b) : SeqAt.shaped (madD nm vars cs bar gt b) = true := by
  obtain ⟨a1, a2⟩ := tups_sh (rs := vars.map varD) fun y hy => by
    obtain ⟨v, h, rfl⟩ := List.mem_map.mp hy
    exact var_sh (hv.ok v h)
  obtain ⟨b1, b2⟩ := tups_sh (rs := cs.map triD) fun y hy => by
    obtain ⟨v, h, rfl⟩ := List.mem_map.mp hy
    exact tri_sh (hc v h).ok
  obtain ⟨g1, g2⟩ := tri_sh hg.ok
  have c1 := strOk_of (kd_ok "made" (by simp)).2
  have c2 := strOk_of hn.2
  have c3 := strOk_of hb.2
  unfold madD rowsD tlD
  generalize (vars.map varD).map PyData.tuple = X at a1 a2
  generalize (cs.map triD).map PyData.tuple = Y at b1 b2
  generalize triD gt = Z at g1 g2
  cases bar
  · simp [SeqAt.shaped, PyData.canLay0, PyData.canLayAll0, PyData.depth, PyData.depthAll, a1, b1, g1, c1, c2, c3]
    omega
  · simp [SeqAt.shaped, PyData.canLay0, PyData.canLayAll0, PyData.depth, PyData.depthAll, a1, b1, c1, c2]
    omega
/-- the data of an answer -/
def ansD (nm : Str) (vars : List Var) (cs : List Tri) (bar : Bool) (gt : Tri) (b : Str) : Option Rf → PyData
  | none => madD nm vars cs bar gt b
  | some r => .tuple (tupD r)
theorem fd_dp {K : PySem.W.Frag} {H : Hp} {f g : Addr} {nm b : Str} {vars : List Var} {cs : List Tri} {bar : Bool} {gt : Tri} {o : Option Rf} (hg : H g = some (.tup (triV gt))) (h : FdAt K H f nm vars cs (tlOf bar g b) o) : Dp K H (.ref f) (ansD nm vars cs bar gt b o) := by
  cases o with
  | some r => exact .tup (SqT.of h) (dp_tup r)
  | none =>
    obtain ⟨t1, t2, us, qs, h1, h2, h3, h4, h5⟩ := h
    have q1 : Dp K H (.ref t1) (rowsD (vars.map varD)) := .tup (SqT.of h1) (dp_rows dp_var h2)
    have q2 : Dp K H (.ref t2) (rowsD (cs.map triD)) := .tup (SqT.of h3) (dp_rows dp_tri h4)
    cases bar with
    | true => exact .tup (SqT.of h5) (.cons (.str _) (.cons (.str _) (.cons q1 (.cons q2 .nil))))
    | false => exact .tup (SqT.of h5) (.cons (.str _) (.cons (.str _) (.cons q1 (.cons q2 (.cons (.tup (SqT.of hg) (dp_tri _)) (.cons (.str _) .nil))))))
def lstD (vars : List Var) : PyData := .list ((vars.map varD).map PyData.tuple)
theorem lst_sh {vars : List Var} (hv : VarsOk vars) : SeqAt.shaped (lstD vars) = true := by
  obtain ⟨a1, a2⟩ := tups_sh (rs := vars.map varD) fun y hy => by
    obtain ⟨v, h, rfl⟩ := List.mem_map.mp hy
    exact var_sh (hv.ok v h)
  unfold lstD
  generalize (vars.map varD).map PyData.tuple = X at a1 a2
  simp [SeqAt.shaped, PyData.canLay0, PyData.canLayAll0, PyData.depth, PyData.depthAll, a1]
  omega
theorem lst_nil (vars : List Var) : PyData.eqv (lstD vars) (.list []) = decide (vars = []) := by
  cases vars with
  | nil => decide +kernel
  | cons v r =>
    rw [decide_eq_false (by simp)]
    unfold lstD
    simp only [List.map_cons, PyData.eqv, PyData.eqvAll]
def poolOf (vars : List Var) : List Str := vars.map (·.1) ++ (if vars = [] then [PySem.Str.ofString "a"] else [] : List Str)
theorem VsAt.kp {K : PySem.W.Frag} {H H' : Hp} {lv : Addr} {vars : List Var} (k : Kp H H') (h : VsAt K H lv vars) : VsAt K H' lv vars := by
  obtain ⟨us, e, r⟩ := h
  exact ⟨us, k _ _ ns_refs e, k.rows r⟩
theorem CsAt.kp {K : PySem.W.Frag} {H H' : Hp} {lv : Addr} {vars : List Tri} (k : Kp H H') (h : CsAt K H lv vars) : CsAt K H' lv vars := by
  obtain ⟨us, e, r⟩ := h
  exact ⟨us, k _ _ ns_refs e, k.rows r⟩
theorem texts_dr {nm : Str} {vars : List Var} {ts : List Tri} (hn : Dr nm) (hv : VarsOk vars) (ht : ∀ t ∈ ts, TriDr t) : ∀ z ∈ textsL nm vars ts, Dr z := fun z hz => by
  unfold textsL at hz
  rcases List.mem_append.mp hz with q | q
  · rcases List.mem_cons.mp q with q | q
    · rw [q]
      exact hn
    · obtain ⟨v, hv', q⟩ := List.mem_flatMap.mp q
      rcases List.mem_cons.mp (show z ∈ v.1 :: v.2.toList from q) with q | q
      · rw [q]
        exact (hv v hv').1
      · exact (hv v hv').2 z (by simpa using q)
  · obtain ⟨t, h, rfl⟩ := List.mem_map.mp q
    exact (ht t h).2.1
theorem ends_dr {ts : List Tri} (ht : ∀ t ∈ ts, TriDr t) : ∀ z ∈ endsL ts, Dr z := fun z hz => by
  unfold endsL at hz
  obtain ⟨t, h, q⟩ := List.mem_flatMap.mp hz
  have q : z = t.1 ∨ z = t.2.2 := by simpa using q
  rcases q with q | q <;> rw [q]
  · exact (ht t h).1
  · exact (ht t h).2.2
end Wm
namespace Wm
open PySem L2 StX
def spLaw (K : PySem.W.Frag) : Sp := fun vs H Q _ => ∃ (a : Addr) (ns : List Int), vs = [.ref a] ∧ SqL K H a (ns.map V.int) ∧ ns.length ≤ 63 ∧ ∀ H', Q (.bl true) H'
theorem pool_ok {vars : List Var} (hv : VarsOk vars) : ∀ z ∈ poolOf vars, Dr z := fun z hz => by
  unfold poolOf at hz
  rcases List.mem_append.mp hz with q | q
  · obtain ⟨v, h, rfl⟩ := List.mem_map.mp q
    exact (hv v h).1
  · split at q
    · rw [List.mem_singleton.mp q]
      decide +kernel
    · exact (List.not_mem_nil q).elim
theorem pool_len (vars : List Var) (h : vars.length ≤ 5) : 1 ≤ (poolOf vars).length ∧ (poolOf vars).length ≤ 10 := by
  unfold poolOf
  cases vars with
  | nil => decide
  | cons v r =>
    rw [if_neg (by simp), List.append_nil, List.length_map]
    rw [List.length_cons] at h ⊢
    omega
section
variable {P : Program} {w : World} {K : PySem.W.Frag} {mg : Str → Option Value} {base : Heap}
theorem scLaw : FnScope ["_law_script", "_law_cell", "_law_s", "_law_spoils", "_law_bar", "_law_chain", "_law_variables_here", "_law_one", "_law_sort", "_law_pool", "_law_conditions_here", "_law_gives", "_law_by", "_law_name_here", "_law_parts", "_law_due_here"] ["_law_script"] (defScope sLaw) := ⟨rfl, rfl, rfl, by decide +kernel, rfl, by decide +kernel, by decide +kernel⟩
theorem ok_law {f fSt fG fV fB fCo fCs fDu fFo : Addr} {fd dSt dG dV dB dCo dCs dDu dFo : FuncData} (F : Fun K "law" "law" sLaw f fd) (T : TxB mg) (DSt : Dn K mg "_law_state" sState ["_law_cell"] fSt dSt) (DG : Dn K mg "_law_digit" sDigit ["_law_state_here", "_law_base"] fG dG) (DBd : Dn K mg "_law_bad" sBad ["_law_s"] fB dB)
    (DVr : Dn K mg "_law_variables" sVar ["_law_s", "_law_spoils"] fV dV) (GVr : FnOk P w K mg base CX0 4 fV dV ["_law_s", "_law_spoils"] (spVar K)) (DCo : Dn K mg "_law_condition" sCon ["_law_s", "_law_spoils", "_law_pool", "_law_chain", "_law_k"] fCo dCo) (GCo : FnOk P w K mg base CX0 3 fCo dCo ["_law_s", "_law_spoils", "_law_pool", "_law_chain", "_law_k"] (spCon K))
    (DCs : Dn K mg "_law_conditions" sCns ["_law_s", "_law_spoils", "_law_pool", "_law_chain"] fCs dCs) (GCs : FnOk P w K mg base CX0 4 fCs dCs ["_law_s", "_law_spoils", "_law_pool", "_law_chain"] (spCns K)) (DDu : Dn K mg "_law_due" sDue ["_law_name_here", "_law_variables_here", "_law_conditions_here", "_law_triples", "_law_hands"] fDu dDu) (GDu : FnOk P w K mg base CX0 2 fDu dDu ["_law_name_here", "_law_variables_here", "_law_conditions_here", "_law_triples", "_law_hands"] (spDue K))
    (DFo : Dn K mg "_law_found" sFou ["_law_name_here", "_law_variables_here", "_law_conditions_here", "_law_gives", "_law_by", "_law_bar"] fFo dFo) (GFo : FnOk P w K mg base CX0 8 fFo dFo ["_law_name_here", "_law_variables_here", "_law_conditions_here", "_law_gives", "_law_by", "_law_bar"] (spFou K)) :
    FnOk P w K mg base CX0 9 f fd ["_law_script"] (spLaw K) := by
  have GSt : FnOk P w K mg base CX0 1 fSt dSt _ spState := ok_state DSt.F T
  have GG : FnOk P w K mg base CX0 1 fG dG _ spDigit := ok_digit DG.F
  have GBd : FnOk P w K mg base CX0 2 fB dB _ spBad := ok_bad DBd.F DG
  refine F.ok scLaw (fun vs H Q E h => ?_) (fun cdv A outer s H vs Q E hr h => ?_)
  · obtain ⟨a, ns, rfl, _⟩ := h
    rfl
  · obtain ⟨a, ns, rfl, hA, hlen, kk⟩ := h
    have hr1 : Room 1 _ := hr.mono (by decide)
    have hr2 : Room 2 _ := hr.mono (by decide)
    have hr3 : Room 3 _ := hr.mono (by decide)
    have hr4 : Room 4 _ := hr.mono (by decide)
    have hr8 : Room 8 _ := hr
    refine ⟨_, (pss_cons (ps_for PassesOwn.never rfl (pi_list (pe_slice sl_list (pe_op op_catR (pv 0) (pe_lst (pa_cons pe_int pa_nil))) po_none (po_some pe_int))) (pg_name (i := 1) scLaw.nd rfl (Or.inl rfl)) (pss_cons (ps_set (i := 2) scLaw.nd rfl (Or.inl rfl) (pe_call GSt hr1 rfl DSt.g DSt.F.kp DSt.b .nil pass0 (pa_cons (pv 1) pa_nil)))
      (pss_cons (ps_set (i := 3) scLaw.nd rfl (Or.inl rfl) (pe_lst (pa_cons (pe_call GG hr1 rfl DG.g DG.F.kp DG.b .nil pass0 (pa_cons (pv 2) (pa_cons pe_int pa_nil))) (pa_cons (pe_op op_mul (pe_call GG hr1 rfl DG.g DG.F.kp DG.b .nil pass0 (pa_cons (pv 2) (pa_cons pe_int pa_nil))) (pe_call GG hr1 rfl DG.g DG.F.kp DG.b .nil pass0 (pa_cons (pv 2) (pa_cons pe_int pa_nil)))) pa_nil))))
      (pss_cons (ps_set (i := 4) scLaw.nd rfl (Or.inl rfl) (pe_cmpR op_eq (pe_call GG hr1 rfl DG.g DG.F.kp DG.b .nil pass0 (pa_cons (pv 2) (pa_cons pe_int pa_nil))) pe_int (nomark _)))
      (pss_cons (ps_set (i := 5) scLaw.nd rfl (Or.inl rfl) (pe_cmpR op_eq (pe_call GG hr1 rfl DG.g DG.F.kp DG.b .nil pass0 (pa_cons (pv 2) (pa_cons pe_int pa_nil))) pe_int (nomark _)))
      (pss_cons (ps_set (i := 6) scLaw.nd rfl (Or.inl rfl) (pe_call GVr hr4 rfl DVr.g DVr.F.kp DVr.b .nil pass0 (pa_cons (pv 2) (pa_cons (pv 3) pa_nil))))
      (pss_cons (ps_set (i := 9) scLaw.nd rfl (Or.inl rfl) (pe_op op_cat (pe_lc (own := [("_law_one", 7), ("_law_sort", 8)]) (g := gTup K 2 (gCons (gName 7) (gCons (gName 8) gNil))) (tt := tYes) (te := (tVar 7)) rfl scLaw.nd (pi_list (pv 6)) (blkOk_by (N := ["_law_script", "_law_cell", "_law_s", "_law_spoils", "_law_bar", "_law_chain", "_law_variables_here", "_law_one", "_law_sort", "_law_pool", "_law_conditions_here", "_law_gives", "_law_by", "_law_name_here", "_law_parts", "_law_due_here"]) (sc := defScope sLaw) (by decide +kernel)) (fun _ _ _ _ _ => (pg_tup rfl (pgs_cons (pg_name (i := 7) scLaw.nd rfl (Or.inl rfl)) (pgs_cons (pg_name (i := 8) scLaw.nd rfl (Or.inl rfl)) pgs_nil)))) (fun _ _ _ _ _ => pts_nil) (fun _ _ _ _ _ => (pv 7))) (pe_op op_rep (pe_lst (pa_cons pe_str pa_nil)) (pe_callTy call_int1 (by rfl) T.int (by decide +kernel) (pa_cons (pe_cmpR (op_eqD hr.units) (pv 6) (pe_lst pa_nil) (nomark _)) pa_nil)))))
      (pss_cons (ps_set (i := 10) scLaw.nd rfl (Or.inl rfl) (pe_call GCs hr4 rfl DCs.g DCs.F.kp DCs.b .nil pass0 (pa_cons (pv 2) (pa_cons (pv 3) (pa_cons (pv 9) (pa_cons (pv 5) pa_nil))))))
      (pss_cons (ps_set (i := 11) scLaw.nd rfl (Or.inl rfl) (pe_call GCo hr3 rfl DCo.g DCo.F.kp DCo.b .nil pass0 (pa_cons (pv 2) (pa_cons (pv 3) (pa_cons (pv 9) (pa_cons pe_bl (pa_cons pe_int pa_nil)))))))
      (pss_cons (ps_set (i := 12) scLaw.nd rfl (Or.inl rfl) (pe_ix ix_list (pv 9) (pe_call GG hr1 rfl DG.g DG.F.kp DG.b .nil pass0 (pa_cons (pv 2) (pa_cons (pe_callB call_len_seq (by rfl) T.len (by decide +kernel) (pa_cons (pv 9) pa_nil)) pa_nil))) (fun _ _ => rfl)))
      (pss_cons (ps_if (pt_cmpR op_in_seq pe_int (pv 3) (by rfl)) (pss_one (ps_set (i := 12) scLaw.nd rfl (Or.inl rfl) (pe_ix ix_list (pe_lst (pa_cons pe_str (pa_cons pe_str (pa_cons pe_str pa_nil)))) (pe_call GG hr1 rfl DG.g DG.F.kp DG.b .nil pass0 (pa_cons (pv 2) (pa_cons pe_int pa_nil))) (fun _ _ => rfl)))) pss_nil)
      (pss_cons (ps_set (i := 13) scLaw.nd rfl (Or.inl rfl) pe_str)
      (pss_cons (ps_if (pt_cmpR op_in_seq pe_int (pv 3) (by rfl)) (pss_one (ps_set (i := 13) scLaw.nd rfl (Or.inl rfl) (pe_call GBd hr2 rfl DBd.g DBd.F.kp DBd.b .nil pass0 (pa_cons (pv 2) pa_nil)))) pss_nil)
      (pss_cons (ps_set (i := 14) scLaw.nd rfl (Or.inl rfl) (pe_op op_catA (pe_tup (pa_cons (pv 13) (pa_cons (pe_callTy call_tupN (by rfl) T.tuple (by decide +kernel) (pa_cons (pv 6) pa_nil)) (pa_cons (pe_callTy call_tupN (by rfl) T.tuple (by decide +kernel) (pa_cons (pv 10) pa_nil)) pa_nil)))) (pe_op op_repB (pe_tup (pa_cons (pv 11) (pa_cons (pv 12) pa_nil))) (pe_callTy call_int1 (by rfl) T.int (by decide +kernel) (pa_cons (pe_not (pv 4)) pa_nil)))))
      (pss_cons (ps_set (i := 15) scLaw.nd rfl (Or.inl rfl) (pe_call GDu hr2 rfl DDu.g DDu.F.kp DDu.b .nil pass0 (pa_cons (pv 13) (pa_cons (pv 6) (pa_cons (pv 10) (pa_cons (pe_op op_cat (pv 10) (pe_op op_rep (pe_lst (pa_cons (pv 11) pa_nil)) (pe_callTy call_int1 (by rfl) T.int (by decide +kernel) (pa_cons (pe_not (pv 4)) pa_nil)))) (pa_cons (pe_op op_rep (pe_lst (pa_cons (pv 12) pa_nil)) (pe_callTy call_int1 (by rfl) T.int (by decide +kernel) (pa_cons (pe_not (pv 4)) pa_nil))) pa_nil)))))))
      (pss_cons (ps_if (pt_cmp (pc_isN (pv 15))) (pss_one (ps_set (i := 15) scLaw.nd rfl (Or.inl rfl) (pe_op op_catA (pe_tup (pa_cons pe_str pa_nil)) (pv 14)))) pss_nil)
      (pss_one (ps_if (pt_cmpR (op_neD hr.units) (pe_call GFo hr8 rfl DFo.g DFo.F.kp DFo.b .nil pass0 (pa_cons (pv 13) (pa_cons (pv 6) (pa_cons (pv 10) (pa_cons (pv 11) (pa_cons (pv 12) (pa_cons (pv 4) pa_nil))))))) (pv 15) (nomark _)) (pss_one (ps_ret pe_bl)) pss_nil))))))))))))))))))
      (pss_one (ps_ret pe_bl))), ?_⟩
    rw [show L2.start ["_law_script", "_law_cell", "_law_s", "_law_spoils", "_law_bar", "_law_chain", "_law_variables_here", "_law_one", "_law_sort", "_law_pool", "_law_conditions_here", "_law_gives", "_law_by", "_law_name_here", "_law_parts", "_law_due_here"] [V.ref a] = [some (.ref a), none, none, none, none, none, none, none, none, none, none, none, none, none, none, none] from rfl]
    refine ⟨_, rfl, by show 1 ≤ sizeLine; decide, fun l0 n0 => ?_⟩
    have R0 := Same.upd (o := .lst [.int 0]) n0
    refine ⟨a, l0, _, _, rfl, rfl, R0.seq hA, SqL.of upd_same, ?_, fun l1 n1 => ?_⟩
    · rw [List.length_map]
      exact Nat.le_trans (show ns.length + 1 ≤ 1000 by omega) (by decide)
    refine ⟨_, rfl, l1, _, rfl, SqL.of upd_same, fun l2 n2 => ?_⟩
    generalize hH3 : upd (upd (upd H l0 (.lst [.int 0])) l1 (.lst (ns.map V.int ++ [V.int 0]))) l2 (.lst (cutV (ns.map V.int ++ [V.int 0]) none (some 24))) = H3
    have hl2 : H3 l2 = some (.lst ((ns.map V.int ++ [V.int 0]).take 24)) := by
      rw [← hH3, upd_same]
      have e := cut_take (ns.map V.int ++ [V.int 0]) 24
      exact congrArg (fun l => some (HO.lst l)) e
    refine ⟨l2, rfl, ⟨_, SqL.of hl2⟩, for_list (K := K) (a := l2) (xs := (ns.map V.int ++ [V.int 0]).take 24) (fun i σ H' => (∃ u1 u2 u3 u4 u5 u6 u7 u8 u9 u10 u11 u12 u13, σ = [some (.ref a), u1, u2, u3, u4, u5, u6, none, none, u7, u8, u9, u10, u11, u12, u13]) ∧ Same H3 H')
      ⟨⟨none, none, none, none, none, none, none, none, none, none, none, none, none, rfl⟩, Same.refl _⟩ (fun i σ H' _ q => SqL.of (q.2 _ _ hl2)) ?_ (fun σ H' _ => kk H')⟩
    rintro i y σ Ha hi ⟨⟨u1, u2, u3, u4, u5, u6, u7, u8, u9, u10, u11, u12, u13, rfl⟩, hS⟩
    obtain ⟨c0, rfl⟩ : ∃ c, y = V.int c := by
      have hm := List.mem_of_mem_take (List.mem_of_getElem? hi)
      rcases List.mem_append.mp hm with h | h
      · obtain ⟨c, _, rfl⟩ := List.mem_map.mp h
        exact ⟨c, rfl⟩
      · exact ⟨0, List.mem_singleton.mp h⟩
    dsimp only [gName, List.set_cons_succ, List.set_cons_zero]
    refine ⟨_, rfl, c0, rfl, fun p Hb np Sb stb => ?_⟩
    dsimp only [gName, List.set_cons_succ, List.set_cons_zero]
    have p3 : H3 p = none := hS.free np
    have Sb3 := hS.trans Sb
    -- what is spoilt
    refine ⟨_, rfl, p, 16, rfl, stb, by decide, by decide, fun d1 H1 a1 b1 B1 S1 => ⟨_, rfl, p, 10, rfl, S1, by decide, by decide, fun d2 H2 a2 b2 B2 S2 => ⟨_, rfl, p, 2, rfl, S2, by decide, by decide, fun d3 H4 a3 b3 B3 S4 => ⟨_, _, rfl, rfl, .inl ⟨by omega, by omega⟩, by show 2 ≤ sizeLine; decide, fun ls hls => ?_⟩⟩⟩⟩
    dsimp only [gName, List.set_cons_succ, List.set_cons_zero]
    have SS4 : Same H3 H4 := But.same p3 Sb3 (B1.trans (B2.trans B3))
    have T5 : Same H4 (upd H4 ls (.lst [.int d1, .int (d2 * d3)])) := Same.upd hls
    have e5 : (upd H4 ls (.lst [.int d1, .int (d2 * d3)])) ls = some (.lst [.int d1, .int (d2 * d3)]) := upd_same
    have S5 := S4.same T5
    generalize upd H4 ls (.lst [.int d1, .int (d2 * d3)]) = H5 at T5 e5 S5
    have SS5 := SS4.trans T5
    have nls : ls ≠ p := But.ne S5 e5 ns_two
    refine ⟨_, rfl, p, 3, rfl, S5, by decide, by decide, fun d6 H6 _ _ B6 S6 => ⟨rfl, ?_⟩⟩
    generalize decide (V.int d6 = V.int 2) = bar
    dsimp only [gName, List.set_cons_succ, List.set_cons_zero]
    refine ⟨_, rfl, p, 2, rfl, S6, by decide, by decide, fun d7 H7 _ _ B7 S7 => ⟨rfl, ?_⟩⟩
    generalize decide (V.int d7 = V.int 1) = ch
    dsimp only [gName, List.set_cons_succ, List.set_cons_zero]
    have B57 := B6.trans B7
    have SS7 : Same H3 H7 := But.same p3 SS5 B57
    have e7 := B57 _ _ nls e5
    -- the variables
    refine ⟨_, rfl, _, rfl, p, ls, _, _, rfl, S7, e7, fun lv H8 vars B8 S8 vs8 v5 vok => ?_⟩
    dsimp only [gName, List.set_cons_succ, List.set_cons_zero]
    have SS8 : Same H3 H8 := But.same p3 SS7 B8
    have e8 := B8 _ _ nls e7
    obtain ⟨us, hlv, rv⟩ := id vs8
    have vl := rv.len
    rw [List.length_map] at vl
    -- the pool
    refine ⟨_, rfl, lv, rfl, ⟨_, SqL.of hlv⟩, fun D hD => ?_⟩
    refine lc_list (K := K) (a := lv) (xs := us.map V.ref) (fun i H' => Same H8 H' ∧ H' D = some (.lst (((vars.take i).map (·.1)).map V.str))) ⟨Same.upd hD, upd_same⟩ (fun i H' _ h => SqL.of (h.1 _ _ hlv)) ?_ ?_
    · rintro i x H9 hx ⟨S9, hD9⟩
      obtain ⟨u2, hu2, rfl⟩ := map_ref_get hx
      obtain ⟨ru2, hru2, hsu2⟩ := rv.get hu2
      obtain ⟨v2, hv2, rfl⟩ := var_get hru2
      refine ⟨u2, _, rfl, same_seqT S9 hsu2, rfl, _, _, rfl, _, _, rfl, rfl, rfl, _, rfl, _, hD9, ?_, fun b o e => ?_, ?_⟩
      · rw [List.length_map, List.length_map, List.length_take]
        exact Nat.lt_of_le_of_lt (show _ ≤ 1000 by omega) (by decide)
      · rw [upd_ne (ne_of_none e hD)]
        exact S9 _ _ e
      · rw [upd_same, List.take_add_one, hv2, List.map_append, List.map_append]
        rfl
    rintro H9 ⟨T9, hD9⟩
    rw [List.length_map, vl, List.take_length] at hD9
    refine ⟨by show 1 ≤ sizeLine; decide, fun la hla => ?_⟩
    have T10 : Same H9 (upd H9 la (.lst [.str (PySem.Str.ofString "a")])) := Same.upd hla
    have e10 : (upd H9 la (.lst [.str (PySem.Str.ofString "a")])) la = some (.lst [.str (PySem.Str.ofString "a")]) := upd_same
    generalize upd H9 la (.lst [.str (PySem.Str.ofString "a")]) = H10 at T10 e10
    refine ⟨_, rfl, Nat.zero_le _, fun lb hlb => ?_⟩
    have T11 : Same H10 (upd H10 lb (.lst [])) := Same.upd hlb
    have e11 : (upd H10 lb (.lst [])) lb = some (.lst []) := upd_same
    generalize upd H10 lb (.lst []) = H11 at T11 e11
    have S8b : Same H8 H11 := Same.trans T9 (T10.trans T11)
    refine ⟨lstD vars, .list [], .lst (SqL.of (S8b _ _ hlv)) (dp_rows dp_var (rv.same S8b)), .lst (SqL.of e11) .nil, lst_sh vok, by decide +kernel, ?_⟩
    rw [lst_nil]
    refine .inr ⟨_, rfl, ?_⟩
    have rep : (List.replicate (if decide (vars = []) = true then (1 : Int) else 0).toNat [V.str (PySem.Str.ofString "a")]).flatten = (if vars = [] then [PySem.Str.ofString "a"] else [] : List Str).map V.str := by
      by_cases q : vars = []
      · rw [decide_eq_true q, if_pos q]
        rfl
      · rw [decide_eq_false q, if_neg q]
        rfl
    have rb : (0 : Int) ≤ (if decide (vars = []) = true then (1 : Int) else 0) ∧ (if decide (vars = []) = true then (1 : Int) else 0) ≤ 1 := by split <;> decide
    generalize (if decide (vars = []) = true then (1 : Int) else 0) = kn at rep rb
    refine ⟨la, kn, _, rfl, rfl, T11 _ _ e10, by omega, by omega, Nat.le_trans (show 1 * kn.toNat ≤ 1 by omega) (by decide), fun lr hlr => ?_⟩
    rw [rep]
    have T12 : Same H11 (upd H11 lr (.lst ((if vars = [] then [PySem.Str.ofString "a"] else [] : List Str).map V.str))) := Same.upd hlr
    have e12 : (upd H11 lr (.lst ((if vars = [] then [PySem.Str.ofString "a"] else [] : List Str).map V.str))) lr = some (.lst ((if vars = [] then [PySem.Str.ofString "a"] else [] : List Str).map V.str)) := upd_same
    have hD12 := T12 _ _ (T11 _ _ (T10 _ _ hD9))
    generalize upd H11 lr (.lst ((if vars = [] then [PySem.Str.ofString "a"] else [] : List Str).map V.str)) = H12 at T12 e12 hD12
    refine ⟨D, lr, _, _, rfl, rfl, hD12, e12, ?_, fun lp hlp => ?_⟩
    · rw [List.length_map, List.length_map, List.length_map]
      exact Nat.le_trans (show _ ≤ 1000 by split <;> simp <;> omega) (by decide)
    dsimp only [gName, List.set_cons_succ, List.set_cons_zero]
    have T13 : Same H12 (upd H12 lp (.lst ((vars.map (·.1)).map V.str ++ (if vars = [] then [PySem.Str.ofString "a"] else [] : List Str).map V.str))) := Same.upd hlp
    have e13 : (upd H12 lp (.lst ((vars.map (·.1)).map V.str ++ (if vars = [] then [PySem.Str.ofString "a"] else [] : List Str).map V.str))) lp = some (.lst ((poolOf vars).map V.str)) := by
      rw [upd_same]
      unfold poolOf
      rw [List.map_append (l₁ := vars.map (·.1))]
    generalize upd H12 lp (.lst ((vars.map (·.1)).map V.str ++ (if vars = [] then [PySem.Str.ofString "a"] else [] : List Str).map V.str)) = H13 at T13 e13
    have S13 : Same H8 H13 := S8b.trans (T12.trans T13)
    have SS13 := SS8.trans S13
    have vs13 := vs8.same S13
    obtain ⟨pl1, pl2⟩ := pool_len vars v5
    have W13 : Dw H13 p ls lp (poolOf vars) := ⟨S8.same S13, ⟨_, _, S13 _ _ e8⟩, e13, pl1, pl2, pool_ok vok⟩
    clear e10 e11 e12 T10 T11 T12 T13 hD9 hD12 rep rb T9 hla hlb hlr hlp hD
    -- the conditions, what is given, by whom
    refine ⟨_, rfl, _, rfl, _, rfl, _, rfl, p, ls, lp, ch, poolOf vars, rfl, W13, fun lc H14 cs B14 S14 cs14 c4 cok => ?_⟩
    dsimp only [gName, List.set_cons_succ, List.set_cons_zero]
    have W14 := W13.but B14 S14
    have vs14 := vs13.kp (B14.kp W13.s)
    have SS14 : Same H3 H14 := But.same p3 SS13 B14
    refine ⟨_, rfl, _, rfl, _, rfl, p, ls, lp, false, 0, poolOf vars, rfl, W14, fun g H15 gt B15 S15 g15 gok => ?_⟩
    dsimp only [gName, List.set_cons_succ, List.set_cons_zero]
    have W15 := W14.but B15 S15
    have k15 := B15.kp W14.s
    have vs15 := vs14.kp k15
    have cs15 := cs14.kp k15
    have SS15 : Same H3 H15 := But.same p3 SS14 B15
    refine rd_pick (ls := ls) (i := 9) (j := 2) rfl rfl W15 fun by0 H16 bok B16 S16 => ?_
    dsimp only [gName, List.set_cons_succ, List.set_cons_zero]
    refine cut1 (fun σ' H' => ∃ b : Str, σ' = [some (.ref a), some (.int c0), some (.ref p), some (.ref ls), some (.bl bar), some (.bl ch), some (.ref lv), none, none, some (.ref lp), some (.ref lc), some (.ref g), some (.str b), u11, u12, u13] ∧ Dr b ∧ But p H15 H' ∧ Dw H' p ls lp (poolOf vars)) ?_ ?_
    rotate_left
    · intro R fin
      have W16 := W15.but B16 S16
      obtain ⟨ja, jb, h⟩ := W16.l
      refine ⟨_, rfl, ls, _, rfl, .inl (SqL.of h), rfl, rfl, _, rfl, ite2 (fun _ => ?_) (fun _ => fin _ _ ⟨by0, rfl, bok, B16, W16⟩)⟩
      refine ⟨by show 3 ≤ sizeLine; decide, fun l hl => ?_⟩
      have nlp := st_free S16 hl
      refine ⟨_, rfl, p, 3, rfl, S16.upd nlp, by decide, by decide, fun d H17 a4 b4 B17 S17 => ?_⟩
      obtain ⟨z, hz, dz⟩ := list_at odds_ok a4 b4
      refine rdList (B17 l _ nlp upd_same) (j := d.toNat) (by omega) hz ?_
      have B67 : But p H16 H17 := fun q o n e => B17 q o n (by rw [upd_ne (ne_of_none e hl)]; exact e)
      exact fin _ _ ⟨z, rfl, dz, B16.trans B67, W16.but B67 S17⟩
    clear bok
    rintro σ' H17 ⟨b, rfl, bok, B17, W17⟩
    refine cut1 (fun σ' H' => σ' = [some (.ref a), some (.int c0), some (.ref p), some (.ref ls), some (.bl bar), some (.bl ch), some (.ref lv), none, none, some (.ref lp), some (.ref lc), some (.ref g), some (.str b), some (.str (PySem.Str.ofString "take")), u12, u13] ∧ H' = H17) ?_ (fun R fin => fin _ _ ⟨rfl, rfl⟩)
    rintro σ' _ ⟨rfl, rfl⟩
    refine cut1 (fun σ' H' => ∃ nm : Str, σ' = [some (.ref a), some (.int c0), some (.ref p), some (.ref ls), some (.bl bar), some (.bl ch), some (.ref lv), none, none, some (.ref lp), some (.ref lc), some (.ref g), some (.str b), some (.str nm), u12, u13] ∧ Dr nm ∧ But p H15 H') ?_ ?_
    rotate_left
    · intro R fin
      obtain ⟨ja, jb, h⟩ := W17.l
      refine ⟨_, rfl, ls, _, rfl, .inl (SqL.of h), rfl, rfl, _, rfl, ite2 (fun _ => ?_) (fun _ => fin _ _ ⟨_, rfl, kd_ok "take" (by simp), B17⟩)⟩
      exact ⟨_, rfl, p, rfl, W17.s, fun z H18 dz B18 S18 => fin _ _ ⟨z, rfl, dz, B17.trans B18⟩⟩
    rintro σ' H18 ⟨nm, rfl, nok, B18⟩
    have k18 := B18.kp S15
    have vs18 := vs15.kp k18
    have cs18 := cs15.kp k18
    have g18 := k18 _ _ ns_tup g15
    have SS18 : Same H3 H18 := But.same p3 SS15 B18
    clear vs13 vs14 vs15 cs14 cs15 g15 W13 W14 W15 W17 vs8 hlv rv vl
    obtain ⟨us, hlv, rv⟩ := id vs18
    obtain ⟨qs, hlc, rc⟩ := id cs18
    have SG : ∀ {H' : Hp}, Same H18 H' → Same H3 H' := fun q => SS18.trans q
    -- the parts
    refine cut1 (fun σ' H' => ∃ pt t1 t2 : Addr, σ' = [some (.ref a), some (.int c0), some (.ref p), some (.ref ls), some (.bl bar), some (.bl ch), some (.ref lv), none, none, some (.ref lp), some (.ref lc), some (.ref g), some (.str b), some (.str nm), some (.ref pt), u13] ∧ H' t1 = some (.tup (us.map V.ref)) ∧ H' t2 = some (.tup (qs.map V.ref)) ∧ H' pt = some (.tup ([.str nm, .ref t1, .ref t2] ++ tlOf bar g b)) ∧ Same H18 H') ?_ ?_
    rotate_left
    · intro R fin
      refine ⟨_, rfl, _, rfl, lv, _, rfl, .inl ⟨SqL.of hlv, fun t1 ht1 => ⟨_, rfl, lc, _, rfl, .inl ⟨SqL.of (Same.upd ht1 _ _ hlc), fun t2 ht2 => ?_⟩⟩⟩⟩
      have n12 : t1 ≠ t2 := ne_of_none upd_same ht2
      have T19 : Same H18 (upd (upd H18 t1 (.tup (us.map V.ref))) t2 (.tup (qs.map V.ref))) := (Same.upd ht1).trans (Same.upd ht2)
      have et1 : (upd (upd H18 t1 (.tup (us.map V.ref))) t2 (.tup (qs.map V.ref))) t1 = some (.tup (us.map V.ref)) := by rw [upd_ne n12, upd_same]
      have et2 : (upd (upd H18 t1 (.tup (us.map V.ref))) t2 (.tup (qs.map V.ref))) t2 = some (.tup (qs.map V.ref)) := upd_same
      generalize upd (upd H18 t1 (.tup (us.map V.ref))) t2 (.tup (qs.map V.ref)) = H19 at T19 et1 et2
      refine ⟨by show 3 ≤ sizeLine; decide, fun t3 ht3 => ⟨_, rfl, _, rfl, by show 2 ≤ sizeLine; decide, fun t4 ht4 => ⟨_, rfl, _, rfl, .inr ⟨_, rfl, ?_⟩⟩⟩⟩
      have T20 : Same H19 (upd (upd H19 t3 (.tup [.str nm, .ref t1, .ref t2])) t4 (.tup [.ref g, .str b])) := (Same.upd ht3).trans (Same.upd ht4)
      have et3 : (upd (upd H19 t3 (.tup [.str nm, .ref t1, .ref t2])) t4 (.tup [.ref g, .str b])) t3 = some (.tup [.str nm, .ref t1, .ref t2]) := (Same.upd ht4) _ _ upd_same
      have et4 : (upd (upd H19 t3 (.tup [.str nm, .ref t1, .ref t2])) t4 (.tup [.ref g, .str b])) t4 = some (.tup [.ref g, .str b]) := upd_same
      generalize upd (upd H19 t3 (.tup [.str nm, .ref t1, .ref t2])) t4 (.tup [.ref g, .str b]) = H20 at T20 et3 et4
      have S20 := T19.trans T20
      refine ⟨t4, !bar, _, rfl, rfl, SqT.of et4, by simp, ?_⟩
      cases bar with
      | true =>
        refine iteF fun t5 ht5 => ?_
        have e3' : (upd H20 t5 (.tup [])) t3 = some (.tup [.str nm, .ref t1, .ref t2]) := (Same.upd ht5) _ _ et3
        refine ⟨t3, t5, _, _, rfl, rfl, SqT.of e3', SqT.of upd_same, by show 3 + 0 ≤ sizeLine; decide, (fun q => by cases q), fun _ _ => ?_, fun _ q => absurd rfl q⟩
        exact fin _ _ ⟨t3, t1, t2, rfl, (Same.upd ht5) _ _ (T20 _ _ et1), (Same.upd ht5) _ _ (T20 _ _ et2), e3', S20.trans (Same.upd ht5)⟩
      | false =>
        refine iteT ?_
        refine ⟨t3, t4, _, _, rfl, rfl, SqT.of et3, SqT.of et4, by show 3 + 2 ≤ sizeLine; decide, (fun q => by cases q), (fun _ q => by cases q), fun _ _ t6 ht6 => ?_⟩
        exact fin _ _ ⟨t6, t1, t2, rfl, (Same.upd ht6) _ _ (T20 _ _ et1), (Same.upd ht6) _ _ (T20 _ _ et2), upd_same, S20.trans (Same.upd ht6)⟩
    rintro σ' H19 ⟨pt, t1, t2, rfl, ht1, ht2, hpt, S19⟩
    have tok : ∀ t ∈ cs ++ gsOf bar gt, TriDr t := fun t ht => by
      rcases List.mem_append.mp ht with q | q
      · exact cok t q
      · unfold gsOf at q
        cases bar
        · rw [List.mem_singleton.mp q]
          exact gok
        · exact (List.not_mem_nil q).elim
    have txd := texts_dr nok vok tok
    have hsd : ∀ z ∈ endsL (cs ++ gsOf bar gt) ++ hsOf bar b, Dr z := fun z hz => by
      rcases List.mem_append.mp hz with q | q
      · exact ends_dr tok z q
      · unfold hsOf at q
        cases bar
        · rw [List.mem_singleton.mp q]
          exact bok
        · exact (List.not_mem_nil q).elim
    have kb : -2 ^ 63 ≤ (if (!bar) = true then (1 : Int) else 0) ∧ (if (!bar) = true then (1 : Int) else 0) < 2 ^ 63 ∧ 1 * (if (!bar) = true then (1 : Int) else 0).toNat ≤ sizeLine := by cases bar <;> exact ⟨by decide, by decide, by decide⟩
    have rep : ∀ x : V, (List.replicate (if (!bar) = true then (1 : Int) else 0).toNat [x]).flatten = if bar then [] else [x] := fun x => by cases bar <;> rfl
    have gl : (if bar then [] else [V.ref g] : List V) = (if bar then [] else [g] : List Addr).map V.ref := by cases bar <;> rfl
    have hl0 : (if bar then [] else [V.str b] : List V) = (hsOf bar b).map V.str := by cases bar <;> rfl
    generalize ho : patDue nm vars cs (gsOf bar gt) (hsOf bar b) = o
    have rfo : ∀ r, o = some r → RfOk r := fun r e => due_ok (fun z hz => (txd z hz).2) (fun v hv => (vok v hv).1.2) (fun z hz => (hsd z hz).2) (ho.trans e)
    -- what is due
    refine cut1 (fun σ' H' => ∃ v : V, σ' = [some (.ref a), some (.int c0), some (.ref p), some (.ref ls), some (.bl bar), some (.bl ch), some (.ref lv), none, none, some (.ref lp), some (.ref lc), some (.ref g), some (.str b), some (.str nm), some (.ref pt), some v] ∧ VlAt o v H' ∧ Same H19 H') ?_ ?_
    rotate_left
    · intro R fin
      refine ⟨_, rfl, _, rfl, _, rfl, _, rfl, _, rfl, by show 1 ≤ sizeLine; decide, fun l hl => ⟨_, rfl, _, rfl, .inr ⟨_, rfl, l, _, _, rfl, rfl, upd_same, kb.1, kb.2.1, kb.2.2, fun l2 hl2 => ?_⟩⟩⟩
      rw [rep, gl]
      have T1 : Same H19 (upd H19 l (.lst [.ref g])) := Same.upd hl
      generalize upd H19 l (.lst [.ref g]) = G1 at T1 hl2
      have T2 : Same G1 (upd G1 l2 (.lst ((if bar then [] else [g] : List Addr).map V.ref))) := Same.upd hl2
      have e2 : (upd G1 l2 (.lst ((if bar then [] else [g] : List Addr).map V.ref))) l2 = some (.lst ((if bar then [] else [g] : List Addr).map V.ref)) := upd_same
      generalize upd G1 l2 (.lst ((if bar then [] else [g] : List Addr).map V.ref)) = G2 at T2 e2
      have S2 : Same H18 G2 := S19.trans (T1.trans T2)
      have ql := rc.len
      rw [List.length_map] at ql
      have gl1 : (if bar then [] else [g] : List Addr).length ≤ 1 := by cases bar <;> simp
      refine ⟨lc, l2, _, _, rfl, rfl, S2 _ _ hlc, e2, ?_, fun lt hlt => ?_⟩
      · rw [List.length_map, List.length_map]
        exact Nat.le_trans (show _ ≤ 1000 by omega) (by decide)
      have T3 : Same G2 (upd G2 lt (.lst (qs.map V.ref ++ (if bar then [] else [g] : List Addr).map V.ref))) := Same.upd hlt
      have e3 : (upd G2 lt (.lst (qs.map V.ref ++ (if bar then [] else [g] : List Addr).map V.ref))) lt = some (.lst ((qs ++ (if bar then [] else [g] : List Addr)).map V.ref)) := by rw [upd_same, List.map_append]
      generalize upd G2 lt (.lst (qs.map V.ref ++ (if bar then [] else [g] : List Addr).map V.ref)) = G3 at T3 e3
      refine ⟨_, rfl, by show 1 ≤ sizeLine; decide, fun l3 hl3 => ⟨_, rfl, _, rfl, .inr ⟨_, rfl, l3, _, _, rfl, rfl, upd_same, kb.1, kb.2.1, kb.2.2, fun lh hlh => ?_⟩⟩⟩
      rw [rep, hl0]
      have T4 : Same G3 (upd (upd G3 l3 (.lst [.str b])) lh (.lst ((hsOf bar b).map V.str))) := (Same.upd hl3).trans (Same.upd hlh)
      have e4 : (upd (upd G3 l3 (.lst [.str b])) lh (.lst ((hsOf bar b).map V.str))) lh = some (.lst ((hsOf bar b).map V.str)) := upd_same
      generalize upd (upd G3 l3 (.lst [.str b])) lh (.lst ((hsOf bar b).map V.str)) = G4 at T4 e4
      have S4 : Same H18 G4 := S2.trans (T3.trans T4)
      refine ⟨nm, lv, lc, lt, lh, vars, cs, gsOf bar gt, hsOf bar b, rfl, vs18.same S4, cs18.same S4, ⟨_, T4 _ _ e3, ?_⟩, e4, by omega, by omega, by cases bar <;> simp [gsOf], by cases bar <;> simp [hsOf], fun z hz => Nat.le_trans (txd z hz).1 (by decide), fun v H' S vl => ?_⟩
      · rw [List.map_append]
        refine RowsAt.append (rc.same S4) ?_
        cases bar
        · exact ⟨SqT.of (S4 _ _ g18), True.intro⟩
        · exact True.intro
      · rw [ho] at vl
        exact fin _ _ ⟨v, rfl, vl, T1.trans (T2.trans (T3.trans (T4.trans S)))⟩
    rintro σ' H20 ⟨v, rfl, vl, S20⟩
    have S1820 := S19.trans S20
    refine cut1 (fun σ' H' => ∃ v : V, σ' = [some (.ref a), some (.int c0), some (.ref p), some (.ref ls), some (.bl bar), some (.bl ch), some (.ref lv), none, none, some (.ref lp), some (.ref lc), some (.ref g), some (.str b), some (.str nm), some (.ref pt), some v] ∧ (∀ H2, Same H' H2 → Dp K H2 v (ansD nm vars cs bar gt b o)) ∧ Same H20 H') ?_ ?_
    rotate_left
    · intro R fin
      cases o with
      | some r =>
        obtain ⟨t, rfl, ht⟩ := vl
        refine ⟨_, rfl, _, rfl, iteF ?_⟩
        exact fin _ _ ⟨_, rfl, fun H2 S => .tup (SqT.of (S _ _ ht)) (dp_tup r), Same.refl _⟩
      | none =>
        cases vl
        refine ⟨_, rfl, _, rfl, iteT ?_⟩
        refine ⟨by show 1 ≤ sizeLine; decide, fun t ht => ?_⟩
        have T1 : Same H20 (upd H20 t (.tup [.str (PySem.Str.ofString "made")])) := Same.upd ht
        have e1 : (upd H20 t (.tup [.str (PySem.Str.ofString "made")])) t = some (.tup [.str (PySem.Str.ofString "made")]) := upd_same
        generalize upd H20 t (.tup [.str (PySem.Str.ofString "made")]) = G1 at T1 e1
        have S1 := S20.trans T1
        have tl2 : (tlOf bar g b).length ≤ 2 := by cases bar <;> simp [tlOf]
        refine ⟨_, rfl, t, pt, _, _, rfl, rfl, SqT.of e1, SqT.of (S1 _ _ hpt), ?_, (fun q => by cases q), (fun _ q => by cases q), fun _ _ q hq => ?_⟩
        · rw [List.length_append]
          exact Nat.le_trans (show 1 + (3 + _) ≤ 1000 by omega) (by decide)
        have T2 := Same.upd (o := .tup ([.str (PySem.Str.ofString "made")] ++ ([.str nm, .ref t1, .ref t2] ++ tlOf bar g b))) hq
        have S2 := S1.trans T2
        have S3 := S19.trans S2
        exact fin _ _ ⟨_, rfl, fun H2 S => fd_dp (o := none) (S _ _ (S3 _ _ g18)) ⟨t1, t2, us, qs, S _ _ (S2 _ _ ht1), rv.same (S3.trans S), S _ _ (S2 _ _ ht2), rc.same (S3.trans S), S _ _ upd_same⟩, T1.trans T2⟩
    clear vl
    rintro σ' H21 ⟨v, rfl, dp, S21⟩
    have S1821 := S1820.trans S21
    refine ⟨_, rfl, _, rfl, _, rfl, _, rfl, _, rfl, _, rfl, nm, b, lv, lc, g, bar, vars, cs, gt, rfl, vs18.same S1821, cs18.same S1821, S1821 _ _ g18, by omega, by omega, fun z hz => Nat.le_trans (txd z hz).1 (by decide), fun f H22 S22 fd => ?_⟩
    rw [ho] at fd
    have sh : SeqAt.shaped (ansD nm vars cs bar gt b o) = true := by
      cases o with
      | none => exact mad_sh nok vok cok gok bok
      | some r => exact tup_sh (rfo r rfl)
    refine ⟨_, rfl, _, _, fd_dp (S22 _ _ (S1821 _ _ g18)) fd, dp _ S22, sh, sh, _, rfl, ?_⟩
    rw [eqv_self sh]
    exact iteF ⟨⟨_, _, _, _, _, _, _, _, _, _, _, _, _, rfl⟩, SG (S1821.trans S22)⟩
end
end Wm
namespace Wm
open PySem L2 He ClX StX
theorem errB_ok {K : PySem.W.Frag} {mg : Str → Option Value} {x f : Str} {C fI : Addr} (h : errB K C fI f = true) (g : mg x = some (.ref C)) : ErrT K mg x f C fI ∧ XfC K C ∧ ExcC K C ∧ PySem.W.exmOne K (.ref C) (.ref C) = some true := by
  unfold errB at h
  obtain ⟨h1, h⟩ := ba h
  obtain ⟨h2, h⟩ := ba h
  obtain ⟨h3, h⟩ := ba h
  obtain ⟨h4, h⟩ := ba h
  obtain ⟨h5, h⟩ := ba h
  obtain ⟨h6, h⟩ := ba h
  obtain ⟨h7, h⟩ := ba h
  obtain ⟨h8, h⟩ := ba h
  obtain ⟨h9, h⟩ := ba h
  obtain ⟨h10, h⟩ := ba h
  obtain ⟨h11, h⟩ := ba h
  obtain ⟨h12, h⟩ := ba h
  obtain ⟨h13, h⟩ := ba h
  obtain ⟨h14, h⟩ := ba h
  obtain ⟨h15, h⟩ := ba h
  obtain ⟨h16, h17⟩ := ba h
  exact ⟨⟨⟨excB_ok h14, eqO_ok h1, of_decide_eq_true h2, of_decide_eq_true h3, h4⟩, g, eqO_ok h13, of_decide_eq_true h5, eqO_ok h6, eqO_ok h7⟩, ⟨eqO_ok h8, eqO_ok h9, of_decide_eq_true h2, h10⟩,
    ⟨eqO_ok h8, eqO_ok h9, of_decide_eq_true h2, h10, eqO_ok h11, eqO_ok h16, of_decide_eq_true h17, of_decide_eq_true h12⟩, of_decide_eq_true h15⟩
abbrev clsC (K : PySem.W.Frag) : Nat → Addr
  | 0 => ga K "BadCount"
  | 1 => ga K "NoName"
  | 2 => ga K "Twice"
  | 3 => ga K "NoVariable"
  | 4 => ga K "Loose"
  | 5 => ga K "Apart"
  | 6 => ga K "NoSort"
  | 7 => ga K "NoWord"
  | _ => 0
theorem kitB_ok {K : PySem.W.Frag} {C : Nat → Addr} {Z W : Addr} {i : Nat} (h : kitB K Z (C 0) (C 1) (C 2) (C 3) (C 4) (C 5) (C 6) (C 7) W i = true) (xc : ExcC K Z) : ErK K C W Z i := by
  unfold kitB at h
  obtain ⟨h0, h⟩ := ba h
  obtain ⟨h1, h⟩ := ba h
  obtain ⟨h2, h⟩ := ba h
  obtain ⟨h3, h⟩ := ba h
  obtain ⟨h4, h⟩ := ba h
  obtain ⟨h5, h⟩ := ba h
  obtain ⟨h6, h⟩ := ba h
  obtain ⟨h7, h⟩ := ba h
  obtain ⟨h8, h⟩ := ba h
  exact ⟨of_decide_eq_true h0, xc, of_decide_eq_true h1, of_decide_eq_true h2, of_decide_eq_true h3, of_decide_eq_true h4, of_decide_eq_true h5, of_decide_eq_true h6, of_decide_eq_true h7, of_decide_eq_true h8, of_decide_eq_true h⟩
theorem facts {P : Program} {w : World} {K : PySem.W.Frag} {h : Heap} {mg : Str → Option Value} {fa : Addr} (X : K.In h) (G : h.Ns mainGlobals mg) (hfa : mg "law" = some (.ref fa)) (c : SaysM ck fnL K) :
    ∃ fd : FuncData, (∀ (s : Shared) (v : Value), BindsTo s fd ⟨[v], []⟩ [("_law_script", v)]) ∧ ∀ base : Heap, K.In base → base.Ns mainGlobals mg → FnOk P w K mg base CX0 9 fa fd ["_law_script"] (spLaw K) := by
  have q := c.says
  unfold ck at q
  obtain ⟨qf, q⟩ := ba q
  obtain ⟨qw, q⟩ := ba q
  obtain ⟨qe0, q⟩ := ba q
  obtain ⟨qe1, q⟩ := ba q
  obtain ⟨qe2, q⟩ := ba q
  obtain ⟨qe3, q⟩ := ba q
  obtain ⟨qe4, q⟩ := ba q
  obtain ⟨qe5, q⟩ := ba q
  obtain ⟨qk0, q⟩ := ba q
  obtain ⟨qk1, q⟩ := ba q
  obtain ⟨qk2, q⟩ := ba q
  obtain ⟨qk3, q⟩ := ba q
  obtain ⟨qk4, q⟩ := ba q
  obtain ⟨qk5, qn⟩ := ba q
  have ft : ∀ (i : Nat) {f : Fa}, factL[i]? = some f → f.ok K = true := fun i {f} e => List.all_eq_true.mp qf f (List.mem_of_getElem? e)
  have g_WhoError := glo_ok X G (ft 0 (f := .glo "WhoError") rfl)
  have g_BadCount := glo_ok X G (ft 1 (f := .glo "BadCount") rfl)
  have g_NoName := glo_ok X G (ft 2 (f := .glo "NoName") rfl)
  have g_Twice := glo_ok X G (ft 3 (f := .glo "Twice") rfl)
  have g_NoVariable := glo_ok X G (ft 4 (f := .glo "NoVariable") rfl)
  have g_Loose := glo_ok X G (ft 5 (f := .glo "Loose") rfl)
  have g_Apart := glo_ok X G (ft 6 (f := .glo "Apart") rfl)
  have g_NoSort := glo_ok X G (ft 7 (f := .glo "NoSort") rfl)
  have g_NoWord := glo_ok X G (ft 8 (f := .glo "NoWord") rfl)
  have g_is_name := glo_ok X G (ft 9 (f := .glo "is_name") rfl)
  obtain ⟨fd_is_name, Fk_is_name⟩ := c.def_ 0 (d := d_is_name) rfl
  have Fk_is_name : FunD K "is_name" "is_name" (defArgs sName) (defBody sName) (defScope sName) [] [] (ga K "is_name") fd_is_name := Fk_is_name
  have F_is_name : Fun K "is_name" "is_name" sName (ga K "is_name") fd_is_name := fun_of Fk_is_name
  have D_is_name : Dn K mg "is_name" sName ["text"] (ga K "is_name") fd_is_name := ⟨F_is_name, g_is_name, F_is_name.binds (ps := ["text"]) fun _ _ _ _ _ _ us hl => match us, hl with | [_], _ => rfl⟩
  have g_refuse_no_name := glo_ok X G (ft 10 (f := .glo "refuse_no_name") rfl)
  obtain ⟨fd_refuse_no_name, Fk_refuse_no_name⟩ := c.def_ 1 (d := d_refuse_no_name) rfl
  have Fk_refuse_no_name : FunD K "refuse_no_name" "refuse_no_name" (defArgs sRN) (defBody sRN) (defScope sRN) [] [] (ga K "refuse_no_name") fd_refuse_no_name := Fk_refuse_no_name
  have F_refuse_no_name : Fun K "refuse_no_name" "refuse_no_name" sRN (ga K "refuse_no_name") fd_refuse_no_name := fun_of Fk_refuse_no_name
  have D_refuse_no_name : Dn K mg "refuse_no_name" sRN ["texts"] (ga K "refuse_no_name") fd_refuse_no_name := ⟨F_refuse_no_name, g_refuse_no_name, F_refuse_no_name.binds (ps := ["texts"]) fun _ _ _ _ _ _ us hl => match us, hl with | [_], _ => rfl⟩
  have g_first_twice := glo_ok X G (ft 11 (f := .glo "first_twice") rfl)
  obtain ⟨fd_first_twice, Fk_first_twice⟩ := c.def_ 2 (d := d_first_twice) rfl
  have Fk_first_twice : FunD K "first_twice" "first_twice" (defArgs sFT) (defBody sFT) (defScope sFT) [] [] (ga K "first_twice") fd_first_twice := Fk_first_twice
  have F_first_twice : Fun K "first_twice" "first_twice" sFT (ga K "first_twice") fd_first_twice := fun_of Fk_first_twice
  have D_first_twice : Dn K mg "first_twice" sFT ["row"] (ga K "first_twice") fd_first_twice := ⟨F_first_twice, g_first_twice, F_first_twice.binds (ps := ["row"]) fun _ _ _ _ _ _ us hl => match us, hl with | [_], _ => rfl⟩
  have g_refuse_twice := glo_ok X G (ft 12 (f := .glo "refuse_twice") rfl)
  obtain ⟨fd_refuse_twice, Fk_refuse_twice⟩ := c.def_ 3 (d := d_refuse_twice) rfl
  have Fk_refuse_twice : FunD K "refuse_twice" "refuse_twice" (defArgs sRT) (defBody sRT) (defScope sRT) [] [] (ga K "refuse_twice") fd_refuse_twice := Fk_refuse_twice
  have F_refuse_twice : Fun K "refuse_twice" "refuse_twice" sRT (ga K "refuse_twice") fd_refuse_twice := fun_of Fk_refuse_twice
  have D_refuse_twice : Dn K mg "refuse_twice" sRT ["names"] (ga K "refuse_twice") fd_refuse_twice := ⟨F_refuse_twice, g_refuse_twice, F_refuse_twice.binds (ps := ["names"]) fun _ _ _ _ _ _ us hl => match us, hl with | [_], _ => rfl⟩
  have g_refuse_count := glo_ok X G (ft 13 (f := .glo "refuse_count") rfl)
  obtain ⟨fd_refuse_count, Fk_refuse_count⟩ := c.def_ 4 (d := d_refuse_count) rfl
  have Fk_refuse_count : FunD K "refuse_count" "refuse_count" (defArgs sRC) (defBody sRC) (defScope sRC) [] [] (ga K "refuse_count") fd_refuse_count := Fk_refuse_count
  have F_refuse_count : Fun K "refuse_count" "refuse_count" sRC (ga K "refuse_count") fd_refuse_count := fun_of Fk_refuse_count
  have D_refuse_count : Dn K mg "refuse_count" sRC ["what", "count", "least", "most"] (ga K "refuse_count") fd_refuse_count := ⟨F_refuse_count, g_refuse_count, F_refuse_count.binds (ps := ["what", "count", "least", "most"]) fun _ _ _ _ _ _ us hl => match us, hl with | [_, _, _, _], _ => rfl⟩
  have g_tuple_of_tuples := glo_ok X G (ft 14 (f := .glo "tuple_of_tuples") rfl)
  obtain ⟨fd_tuple_of_tuples, Fk_tuple_of_tuples⟩ := c.def_ 5 (d := d_tuple_of_tuples) rfl
  have Fk_tuple_of_tuples : FunD K "tuple_of_tuples" "tuple_of_tuples" (defArgs sTT) (defBody sTT) (defScope sTT) [] [] (ga K "tuple_of_tuples") fd_tuple_of_tuples := Fk_tuple_of_tuples
  have F_tuple_of_tuples : Fun K "tuple_of_tuples" "tuple_of_tuples" sTT (ga K "tuple_of_tuples") fd_tuple_of_tuples := fun_of Fk_tuple_of_tuples
  have D_tuple_of_tuples : Dn K mg "tuple_of_tuples" sTT ["rows"] (ga K "tuple_of_tuples") fd_tuple_of_tuples := ⟨F_tuple_of_tuples, g_tuple_of_tuples, F_tuple_of_tuples.binds (ps := ["rows"]) fun _ _ _ _ _ _ us hl => match us, hl with | [_], _ => rfl⟩
  have g_ends_of := glo_ok X G (ft 15 (f := .glo "ends_of") rfl)
  obtain ⟨fd_ends_of, Fk_ends_of⟩ := c.def_ 6 (d := d_ends_of) rfl
  have Fk_ends_of : FunD K "ends_of" "ends_of" (defArgs sEO) (defBody sEO) (defScope sEO) [] [] (ga K "ends_of") fd_ends_of := Fk_ends_of
  have F_ends_of : Fun K "ends_of" "ends_of" sEO (ga K "ends_of") fd_ends_of := fun_of Fk_ends_of
  have D_ends_of : Dn K mg "ends_of" sEO ["triples"] (ga K "ends_of") fd_ends_of := ⟨F_ends_of, g_ends_of, F_ends_of.binds (ps := ["triples"]) fun _ _ _ _ _ _ us hl => match us, hl with | [_], _ => rfl⟩
  have g_texts_of_pattern := glo_ok X G (ft 16 (f := .glo "texts_of_pattern") rfl)
  obtain ⟨fd_texts_of_pattern, Fk_texts_of_pattern⟩ := c.def_ 7 (d := d_texts_of_pattern) rfl
  have Fk_texts_of_pattern : FunD K "texts_of_pattern" "texts_of_pattern" (defArgs sTP) (defBody sTP) (defScope sTP) [] [] (ga K "texts_of_pattern") fd_texts_of_pattern := Fk_texts_of_pattern
  have F_texts_of_pattern : Fun K "texts_of_pattern" "texts_of_pattern" sTP (ga K "texts_of_pattern") fd_texts_of_pattern := fun_of Fk_texts_of_pattern
  have D_texts_of_pattern : Dn K mg "texts_of_pattern" sTP ["name", "variables", "triples"] (ga K "texts_of_pattern") fd_texts_of_pattern := ⟨F_texts_of_pattern, g_texts_of_pattern, F_texts_of_pattern.binds (ps := ["name", "variables", "triples"]) fun _ _ _ _ _ _ us hl => match us, hl with | [_, _, _], _ => rfl⟩
  have g_refuse_no_variable := glo_ok X G (ft 17 (f := .glo "refuse_no_variable") rfl)
  obtain ⟨fd_refuse_no_variable, Fk_refuse_no_variable⟩ := c.def_ 8 (d := d_refuse_no_variable) rfl
  have Fk_refuse_no_variable : FunD K "refuse_no_variable" "refuse_no_variable" (defArgs sRV) (defBody sRV) (defScope sRV) [] [] (ga K "refuse_no_variable") fd_refuse_no_variable := Fk_refuse_no_variable
  have F_refuse_no_variable : Fun K "refuse_no_variable" "refuse_no_variable" sRV (ga K "refuse_no_variable") fd_refuse_no_variable := fun_of Fk_refuse_no_variable
  have D_refuse_no_variable : Dn K mg "refuse_no_variable" sRV ["names", "texts"] (ga K "refuse_no_variable") fd_refuse_no_variable := ⟨F_refuse_no_variable, g_refuse_no_variable, F_refuse_no_variable.binds (ps := ["names", "texts"]) fun _ _ _ _ _ _ us hl => match us, hl with | [_, _], _ => rfl⟩
  have g_refuse_loose := glo_ok X G (ft 18 (f := .glo "refuse_loose") rfl)
  obtain ⟨fd_refuse_loose, Fk_refuse_loose⟩ := c.def_ 9 (d := d_refuse_loose) rfl
  have Fk_refuse_loose : FunD K "refuse_loose" "refuse_loose" (defArgs sRL) (defBody sRL) (defScope sRL) [] [] (ga K "refuse_loose") fd_refuse_loose := Fk_refuse_loose
  have F_refuse_loose : Fun K "refuse_loose" "refuse_loose" sRL (ga K "refuse_loose") fd_refuse_loose := fun_of Fk_refuse_loose
  have D_refuse_loose : Dn K mg "refuse_loose" sRL ["names", "conditions"] (ga K "refuse_loose") fd_refuse_loose := ⟨F_refuse_loose, g_refuse_loose, F_refuse_loose.binds (ps := ["names", "conditions"]) fun _ _ _ _ _ _ us hl => match us, hl with | [_, _], _ => rfl⟩
  have g_refuse_apart := glo_ok X G (ft 19 (f := .glo "refuse_apart") rfl)
  obtain ⟨fd_refuse_apart, Fk_refuse_apart⟩ := c.def_ 10 (d := d_refuse_apart) rfl
  have Fk_refuse_apart : FunD K "refuse_apart" "refuse_apart" (defArgs sRA) (defBody sRA) (defScope sRA) [] [] (ga K "refuse_apart") fd_refuse_apart := Fk_refuse_apart
  have F_refuse_apart : Fun K "refuse_apart" "refuse_apart" sRA (ga K "refuse_apart") fd_refuse_apart := fun_of Fk_refuse_apart
  have D_refuse_apart : Dn K mg "refuse_apart" sRA ["conditions"] (ga K "refuse_apart") fd_refuse_apart := ⟨F_refuse_apart, g_refuse_apart, F_refuse_apart.binds (ps := ["conditions"]) fun _ _ _ _ _ _ us hl => match us, hl with | [_], _ => rfl⟩
  have g_check_pattern := glo_ok X G (ft 20 (f := .glo "check_pattern") rfl)
  obtain ⟨fd_check_pattern, Fk_check_pattern⟩ := c.def_ 11 (d := d_check_pattern) rfl
  have Fk_check_pattern : FunD K "check_pattern" "check_pattern" (defArgs sCP) (defBody sCP) (defScope sCP) [] [] (ga K "check_pattern") fd_check_pattern := Fk_check_pattern
  have F_check_pattern : Fun K "check_pattern" "check_pattern" sCP (ga K "check_pattern") fd_check_pattern := fun_of Fk_check_pattern
  have D_check_pattern : Dn K mg "check_pattern" sCP ["name", "variables", "conditions", "given", "hands"] (ga K "check_pattern") fd_check_pattern := ⟨F_check_pattern, g_check_pattern, F_check_pattern.binds (ps := ["name", "variables", "conditions", "given", "hands"]) fun _ _ _ _ _ _ us hl => match us, hl with | [_, _, _, _, _], _ => rfl⟩
  have g__law_state := glo_ok X G (ft 21 (f := .glo "_law_state") rfl)
  obtain ⟨fd__law_state, Fk__law_state⟩ := c.def_ 12 (d := d__law_state) rfl
  have Fk__law_state : FunD K "_law_state" "_law_state" (defArgs sState) (defBody sState) (defScope sState) [] [] (ga K "_law_state") fd__law_state := Fk__law_state
  have F__law_state : Fun K "_law_state" "_law_state" sState (ga K "_law_state") fd__law_state := fun_of Fk__law_state
  have D__law_state : Dn K mg "_law_state" sState ["_law_cell"] (ga K "_law_state") fd__law_state := ⟨F__law_state, g__law_state, F__law_state.binds (ps := ["_law_cell"]) fun _ _ _ _ _ _ us hl => match us, hl with | [_], _ => rfl⟩
  have g__law_digit := glo_ok X G (ft 22 (f := .glo "_law_digit") rfl)
  obtain ⟨fd__law_digit, Fk__law_digit⟩ := c.def_ 13 (d := d__law_digit) rfl
  have Fk__law_digit : FunD K "_law_digit" "_law_digit" (defArgs sDigit) (defBody sDigit) (defScope sDigit) [] [] (ga K "_law_digit") fd__law_digit := Fk__law_digit
  have F__law_digit : Fun K "_law_digit" "_law_digit" sDigit (ga K "_law_digit") fd__law_digit := fun_of Fk__law_digit
  have D__law_digit : Dn K mg "_law_digit" sDigit ["_law_state_here", "_law_base"] (ga K "_law_digit") fd__law_digit := ⟨F__law_digit, g__law_digit, F__law_digit.binds (ps := ["_law_state_here", "_law_base"]) fun _ _ _ _ _ _ us hl => match us, hl with | [_, _], _ => rfl⟩
  have g__law_name := glo_ok X G (ft 23 (f := .glo "_law_name") rfl)
  obtain ⟨fd__law_name, Fk__law_name⟩ := c.def_ 14 (d := d__law_name) rfl
  have Fk__law_name : FunD K "_law_name" "_law_name" (defArgs sNam) (defBody sNam) (defScope sNam) [] [] (ga K "_law_name") fd__law_name := Fk__law_name
  have F__law_name : Fun K "_law_name" "_law_name" sNam (ga K "_law_name") fd__law_name := fun_of Fk__law_name
  have D__law_name : Dn K mg "_law_name" sNam ["_law_s", "_law_taken"] (ga K "_law_name") fd__law_name := ⟨F__law_name, g__law_name, F__law_name.binds (ps := ["_law_s", "_law_taken"]) fun _ _ _ _ _ _ us hl => match us, hl with | [_, _], _ => rfl⟩
  have g__law_names := glo_ok X G (ft 24 (f := .glo "_law_names") rfl)
  obtain ⟨fd__law_names, Fk__law_names⟩ := c.def_ 15 (d := d__law_names) rfl
  have Fk__law_names : FunD K "_law_names" "_law_names" (defArgs sNms) (defBody sNms) (defScope sNms) [] [] (ga K "_law_names") fd__law_names := Fk__law_names
  have F__law_names : Fun K "_law_names" "_law_names" sNms (ga K "_law_names") fd__law_names := fun_of Fk__law_names
  have D__law_names : Dn K mg "_law_names" sNms ["_law_s", "_law_many"] (ga K "_law_names") fd__law_names := ⟨F__law_names, g__law_names, F__law_names.binds (ps := ["_law_s", "_law_many"]) fun _ _ _ _ _ _ us hl => match us, hl with | [_, _], _ => rfl⟩
  have g__law_bad := glo_ok X G (ft 25 (f := .glo "_law_bad") rfl)
  obtain ⟨fd__law_bad, Fk__law_bad⟩ := c.def_ 16 (d := d__law_bad) rfl
  have Fk__law_bad : FunD K "_law_bad" "_law_bad" (defArgs sBad) (defBody sBad) (defScope sBad) [] [] (ga K "_law_bad") fd__law_bad := Fk__law_bad
  have F__law_bad : Fun K "_law_bad" "_law_bad" sBad (ga K "_law_bad") fd__law_bad := fun_of Fk__law_bad
  have D__law_bad : Dn K mg "_law_bad" sBad ["_law_s"] (ga K "_law_bad") fd__law_bad := ⟨F__law_bad, g__law_bad, F__law_bad.binds (ps := ["_law_s"]) fun _ _ _ _ _ _ us hl => match us, hl with | [_], _ => rfl⟩
  have g__law_variables := glo_ok X G (ft 26 (f := .glo "_law_variables") rfl)
  obtain ⟨fd__law_variables, Fk__law_variables⟩ := c.def_ 17 (d := d__law_variables) rfl
  have Fk__law_variables : FunD K "_law_variables" "_law_variables" (defArgs sVar) (defBody sVar) (defScope sVar) [] [] (ga K "_law_variables") fd__law_variables := Fk__law_variables
  have F__law_variables : Fun K "_law_variables" "_law_variables" sVar (ga K "_law_variables") fd__law_variables := fun_of Fk__law_variables
  have D__law_variables : Dn K mg "_law_variables" sVar ["_law_s", "_law_spoils"] (ga K "_law_variables") fd__law_variables := ⟨F__law_variables, g__law_variables, F__law_variables.binds (ps := ["_law_s", "_law_spoils"]) fun _ _ _ _ _ _ us hl => match us, hl with | [_, _], _ => rfl⟩
  have g__law_condition := glo_ok X G (ft 27 (f := .glo "_law_condition") rfl)
  obtain ⟨fd__law_condition, Fk__law_condition⟩ := c.def_ 18 (d := d__law_condition) rfl
  have Fk__law_condition : FunD K "_law_condition" "_law_condition" (defArgs sCon) (defBody sCon) (defScope sCon) [] [] (ga K "_law_condition") fd__law_condition := Fk__law_condition
  have F__law_condition : Fun K "_law_condition" "_law_condition" sCon (ga K "_law_condition") fd__law_condition := fun_of Fk__law_condition
  have D__law_condition : Dn K mg "_law_condition" sCon ["_law_s", "_law_spoils", "_law_pool", "_law_chain", "_law_k"] (ga K "_law_condition") fd__law_condition := ⟨F__law_condition, g__law_condition, F__law_condition.binds (ps := ["_law_s", "_law_spoils", "_law_pool", "_law_chain", "_law_k"]) fun _ _ _ _ _ _ us hl => match us, hl with | [_, _, _, _, _], _ => rfl⟩
  have g__law_conditions := glo_ok X G (ft 28 (f := .glo "_law_conditions") rfl)
  obtain ⟨fd__law_conditions, Fk__law_conditions⟩ := c.def_ 19 (d := d__law_conditions) rfl
  have Fk__law_conditions : FunD K "_law_conditions" "_law_conditions" (defArgs sCns) (defBody sCns) (defScope sCns) [] [] (ga K "_law_conditions") fd__law_conditions := Fk__law_conditions
  have F__law_conditions : Fun K "_law_conditions" "_law_conditions" sCns (ga K "_law_conditions") fd__law_conditions := fun_of Fk__law_conditions
  have D__law_conditions : Dn K mg "_law_conditions" sCns ["_law_s", "_law_spoils", "_law_pool", "_law_chain"] (ga K "_law_conditions") fd__law_conditions := ⟨F__law_conditions, g__law_conditions, F__law_conditions.binds (ps := ["_law_s", "_law_spoils", "_law_pool", "_law_chain"]) fun _ _ _ _ _ _ us hl => match us, hl with | [_, _, _, _], _ => rfl⟩
  have g__law_is_name := glo_ok X G (ft 29 (f := .glo "_law_is_name") rfl)
  obtain ⟨fd__law_is_name, Fk__law_is_name⟩ := c.def_ 20 (d := d__law_is_name) rfl
  have Fk__law_is_name : FunD K "_law_is_name" "_law_is_name" (defArgs sLName) (defBody sLName) (defScope sLName) [] [] (ga K "_law_is_name") fd__law_is_name := Fk__law_is_name
  have F__law_is_name : Fun K "_law_is_name" "_law_is_name" sLName (ga K "_law_is_name") fd__law_is_name := fun_of Fk__law_is_name
  have D__law_is_name : Dn K mg "_law_is_name" sLName ["_law_text"] (ga K "_law_is_name") fd__law_is_name := ⟨F__law_is_name, g__law_is_name, F__law_is_name.binds (ps := ["_law_text"]) fun _ _ _ _ _ _ us hl => match us, hl with | [_], _ => rfl⟩
  have g__law_hung := glo_ok X G (ft 30 (f := .glo "_law_hung") rfl)
  obtain ⟨fd__law_hung, Fk__law_hung⟩ := c.def_ 21 (d := d__law_hung) rfl
  have Fk__law_hung : FunD K "_law_hung" "_law_hung" (defArgs sHun) (defBody sHun) (defScope sHun) [] [] (ga K "_law_hung") fd__law_hung := Fk__law_hung
  have F__law_hung : Fun K "_law_hung" "_law_hung" sHun (ga K "_law_hung") fd__law_hung := fun_of Fk__law_hung
  have D__law_hung : Dn K mg "_law_hung" sHun ["_law_names_here", "_law_conditions_here"] (ga K "_law_hung") fd__law_hung := ⟨F__law_hung, g__law_hung, F__law_hung.binds (ps := ["_law_names_here", "_law_conditions_here"]) fun _ _ _ _ _ _ us hl => match us, hl with | [_, _], _ => rfl⟩
  have g__law_due := glo_ok X G (ft 31 (f := .glo "_law_due") rfl)
  obtain ⟨fd__law_due, Fk__law_due⟩ := c.def_ 22 (d := d__law_due) rfl
  have Fk__law_due : FunD K "_law_due" "_law_due" (defArgs sDue) (defBody sDue) (defScope sDue) [] [] (ga K "_law_due") fd__law_due := Fk__law_due
  have F__law_due : Fun K "_law_due" "_law_due" sDue (ga K "_law_due") fd__law_due := fun_of Fk__law_due
  have D__law_due : Dn K mg "_law_due" sDue ["_law_name_here", "_law_variables_here", "_law_conditions_here", "_law_triples", "_law_hands"] (ga K "_law_due") fd__law_due := ⟨F__law_due, g__law_due, F__law_due.binds (ps := ["_law_name_here", "_law_variables_here", "_law_conditions_here", "_law_triples", "_law_hands"]) fun _ _ _ _ _ _ us hl => match us, hl with | [_, _, _, _, _], _ => rfl⟩
  have g__law_told := glo_ok X G (ft 32 (f := .glo "_law_told") rfl)
  obtain ⟨fd__law_told, Fk__law_told⟩ := c.def_ 23 (d := d__law_told) rfl
  have Fk__law_told : FunD K "_law_told" "_law_told" (defArgs sTld) (defBody sTld) (defScope sTld) [] [] (ga K "_law_told") fd__law_told := Fk__law_told
  have F__law_told : Fun K "_law_told" "_law_told" sTld (ga K "_law_told") fd__law_told := fun_of Fk__law_told
  have D__law_told : Dn K mg "_law_told" sTld ["_law_e"] (ga K "_law_told") fd__law_told := ⟨F__law_told, g__law_told, F__law_told.binds (ps := ["_law_e"]) fun _ _ _ _ _ _ us hl => match us, hl with | [_], _ => rfl⟩
  have g__law_found := glo_ok X G (ft 33 (f := .glo "_law_found") rfl)
  obtain ⟨fd__law_found, Fk__law_found⟩ := c.def_ 24 (d := d__law_found) rfl
  have Fk__law_found : FunD K "_law_found" "_law_found" (defArgs sFou) (defBody sFou) (defScope sFou) [] [] (ga K "_law_found") fd__law_found := Fk__law_found
  have F__law_found : Fun K "_law_found" "_law_found" sFou (ga K "_law_found") fd__law_found := fun_of Fk__law_found
  have D__law_found : Dn K mg "_law_found" sFou ["_law_name_here", "_law_variables_here", "_law_conditions_here", "_law_gives", "_law_by", "_law_bar"] (ga K "_law_found") fd__law_found := ⟨F__law_found, g__law_found, F__law_found.binds (ps := ["_law_name_here", "_law_variables_here", "_law_conditions_here", "_law_gives", "_law_by", "_law_bar"]) fun _ _ _ _ _ _ us hl => match us, hl with | [_, _, _, _, _, _], _ => rfl⟩
  have g_law := glo_ok X G (ft 34 (f := .glo "law") rfl)
  obtain ⟨fd_law, Fk_law⟩ := c.def_ 25 (d := d_law) rfl
  have Fk_law : FunD K "law" "law" (defArgs sLaw) (defBody sLaw) (defScope sLaw) [] [] (ga K "law") fd_law := Fk_law
  have F_law : Fun K "law" "law" sLaw (ga K "law") fd_law := fun_of Fk_law
  have FLb := FunD.bindsA (ps := ["_law_script"]) Fk_law fun _ _ _ _ _ _ us hl => match us, hl with | [_], _ => rfl
  have g_Bar := glo_ok X G (ft 35 (f := .glo "Bar") rfl)
  have cls_Bar := cls_ok (ft 36 (f := .cls "Bar") rfl)
  have na_Bar_name := noat_ok (ft 37 (f := .noat "Bar" "name") rfl)
  have na_Bar_variables := noat_ok (ft 38 (f := .noat "Bar" "variables") rfl)
  have na_Bar_conditions := noat_ok (ft 39 (f := .noat "Bar" "conditions") rfl)
  have mk_Bar := mkr_ok (ft 40 (f := .mkr "Bar") rfl)
  have g_Rule := glo_ok X G (ft 41 (f := .glo "Rule") rfl)
  have cls_Rule := cls_ok (ft 42 (f := .cls "Rule") rfl)
  have na_Rule_name := noat_ok (ft 43 (f := .noat "Rule" "name") rfl)
  have na_Rule_variables := noat_ok (ft 44 (f := .noat "Rule" "variables") rfl)
  have na_Rule_conditions := noat_ok (ft 45 (f := .noat "Rule" "conditions") rfl)
  have na_Rule_gives := noat_ok (ft 46 (f := .noat "Rule" "gives") rfl)
  have na_Rule_by := noat_ok (ft 47 (f := .noat "Rule" "by") rfl)
  have mk_Rule := mkr_ok (ft 48 (f := .mkr "Rule") rfl)
  obtain ⟨fd_BadCount___init__, Fk_BadCount___init__⟩ := c.def_ 26 (d := d_BadCount___init__) rfl
  have Fk_BadCount___init__ : FunD K "__init__" "BadCount.__init__" (defArgs sBC) (defBody sBC) (defScope sBC) [] [] (ma K (ga K "BadCount") "__init__") fd_BadCount___init__ := Fk_BadCount___init__
  have F_BadCount___init__ : Fun K "__init__" "BadCount.__init__" sBC (ma K (ga K "BadCount") "__init__") fd_BadCount___init__ := fun_of Fk_BadCount___init__
  have b_BadCount___init__ := F_BadCount___init__.binds (ps := ["self", "what", "count"]) fun _ _ _ _ _ _ us hl => match us, hl with | [_, _, _], _ => rfl
  obtain ⟨fd_NoName___init__, Fk_NoName___init__⟩ := c.def_ 27 (d := d_NoName___init__) rfl
  have Fk_NoName___init__ : FunD K "__init__" "NoName.__init__" (defArgs sN0) (defBody sN0) (defScope sN0) [] [] (ma K (ga K "NoName") "__init__") fd_NoName___init__ := Fk_NoName___init__
  have F_NoName___init__ : Fun K "__init__" "NoName.__init__" sN0 (ma K (ga K "NoName") "__init__") fd_NoName___init__ := fun_of Fk_NoName___init__
  have b_NoName___init__ := F_NoName___init__.binds (ps := ["self", "name"]) fun _ _ _ _ _ _ us hl => match us, hl with | [_, _], _ => rfl
  obtain ⟨fd_Twice___init__, Fk_Twice___init__⟩ := c.def_ 28 (d := d_Twice___init__) rfl
  have Fk_Twice___init__ : FunD K "__init__" "Twice.__init__" (defArgs sT0) (defBody sT0) (defScope sT0) [] [] (ma K (ga K "Twice") "__init__") fd_Twice___init__ := Fk_Twice___init__
  have F_Twice___init__ : Fun K "__init__" "Twice.__init__" sT0 (ma K (ga K "Twice") "__init__") fd_Twice___init__ := fun_of Fk_Twice___init__
  have b_Twice___init__ := F_Twice___init__.binds (ps := ["self", "name"]) fun _ _ _ _ _ _ us hl => match us, hl with | [_, _], _ => rfl
  obtain ⟨fd_NoVariable___init__, Fk_NoVariable___init__⟩ := c.def_ 29 (d := d_NoVariable___init__) rfl
  have Fk_NoVariable___init__ : FunD K "__init__" "NoVariable.__init__" (defArgs sNV) (defBody sNV) (defScope sNV) [] [] (ma K (ga K "NoVariable") "__init__") fd_NoVariable___init__ := Fk_NoVariable___init__
  have F_NoVariable___init__ : Fun K "__init__" "NoVariable.__init__" sNV (ma K (ga K "NoVariable") "__init__") fd_NoVariable___init__ := fun_of Fk_NoVariable___init__
  have b_NoVariable___init__ := F_NoVariable___init__.binds (ps := ["self", "name"]) fun _ _ _ _ _ _ us hl => match us, hl with | [_, _], _ => rfl
  obtain ⟨fd_Loose___init__, Fk_Loose___init__⟩ := c.def_ 30 (d := d_Loose___init__) rfl
  have Fk_Loose___init__ : FunD K "__init__" "Loose.__init__" (defArgs sLo) (defBody sLo) (defScope sLo) [] [] (ma K (ga K "Loose") "__init__") fd_Loose___init__ := Fk_Loose___init__
  have F_Loose___init__ : Fun K "__init__" "Loose.__init__" sLo (ma K (ga K "Loose") "__init__") fd_Loose___init__ := fun_of Fk_Loose___init__
  have b_Loose___init__ := F_Loose___init__.binds (ps := ["self", "name"]) fun _ _ _ _ _ _ us hl => match us, hl with | [_, _], _ => rfl
  obtain ⟨fd_Apart___init__, Fk_Apart___init__⟩ := c.def_ 31 (d := d_Apart___init__) rfl
  have Fk_Apart___init__ : FunD K "__init__" "Apart.__init__" (defArgs sAp) (defBody sAp) (defScope sAp) [] [] (ma K (ga K "Apart") "__init__") fd_Apart___init__ := Fk_Apart___init__
  have F_Apart___init__ : Fun K "__init__" "Apart.__init__" sAp (ma K (ga K "Apart") "__init__") fd_Apart___init__ := fun_of Fk_Apart___init__
  have b_Apart___init__ := F_Apart___init__.binds (ps := ["self", "place"]) fun _ _ _ _ _ _ us hl => match us, hl with | [_, _], _ => rfl
  obtain ⟨fd_Bar___init__, Fk_Bar___init__⟩ := c.def_ 32 (d := d_Bar___init__) rfl
  have Fk_Bar___init__ : FunD K "__init__" "Bar.__init__" (defArgs sBar) (defBody sBar) (defScope sBar) [] [] (ma K (ga K "Bar") "__init__") fd_Bar___init__ := Fk_Bar___init__
  have F_Bar___init__ : Fun K "__init__" "Bar.__init__" sBar (ma K (ga K "Bar") "__init__") fd_Bar___init__ := fun_of Fk_Bar___init__
  have b_Bar___init__ := F_Bar___init__.binds (ps := ["self", "name", "variables", "conditions"]) fun _ _ _ _ _ _ us hl => match us, hl with | [_, _, _, _], _ => rfl
  obtain ⟨fd_Rule___init__, Fk_Rule___init__⟩ := c.def_ 33 (d := d_Rule___init__) rfl
  have Fk_Rule___init__ : FunD K "__init__" "Rule.__init__" (defArgs sRul) (defBody sRul) (defScope sRul) [] [] (ma K (ga K "Rule") "__init__") fd_Rule___init__ := Fk_Rule___init__
  have F_Rule___init__ : Fun K "__init__" "Rule.__init__" sRul (ma K (ga K "Rule") "__init__") fd_Rule___init__ := fun_of Fk_Rule___init__
  have b_Rule___init__ := F_Rule___init__.binds (ps := ["self", "name", "variables", "conditions", "gives", "by"]) fun _ _ _ _ _ _ us hl => match us, hl with | [_, _, _, _, _, _], _ => rfl
  have t_abs := free_ok X G (ft 49 (f := .free "abs") rfl)
  have t_int := free_ok X G (ft 50 (f := .free "int") rfl)
  have t_len := free_ok X G (ft 51 (f := .free "len") rfl)
  have t_range := free_ok X G (ft 52 (f := .free "range") rfl)
  have t_all := free_ok X G (ft 53 (f := .free "all") rfl)
  have t_tuple := free_ok X G (ft 54 (f := .free "tuple") rfl)
  have t_enumerate := free_ok X G (ft 55 (f := .free "enumerate") rfl)
  have t_isinstance := free_ok X G (ft 56 (f := .free "isinstance") rfl)
  have t_ValueError := free_ok X G (ft 57 (f := .free "ValueError") rfl)
  have t_list := free_ok X G (ft 58 (f := .free "list") rfl)
  have t_str := free_ok X G (ft 59 (f := .free "str") rfl)
  have t_max := free_ok X G (ft 60 (f := .free "max") rfl)
  have t_min := free_ok X G (ft 61 (f := .free "min") rfl)
  have t_zip := free_ok X G (ft 62 (f := .free "zip") rfl)
  have t_sum := free_ok X G (ft 63 (f := .free "sum") rfl)
  have e := hfa.symm.trans g_law
  cases e
  have T : TxB mg := ⟨t_abs, t_int, t_len, t_range, t_all, t_tuple, t_enumerate, t_isinstance, t_ValueError⟩
  have T3 : Tx3 mg := ⟨t_list, t_zip⟩
  have TN : TxN mg := ⟨str_ok X G (ft 64 rfl), str_ok X G (ft 65 rfl), int_ok X G (ft 66 rfl)⟩
  have TP : TxP mg := ⟨int_ok X G (ft 67 rfl), int_ok X G (ft 68 rfl)⟩
  obtain ⟨dW0, FW⟩ := c.def_ 34 (d := dWho) rfl
  have FW : FunD K "__init__" "WhoError.__init__" (defArgs sW0) (defBody sW0) (defScope sW0) [.str (PySem.Str.ofString "whoerror")] [] (ma K (ga K "WhoError") "__init__") dW0 := FW
  obtain ⟨ds, hds, bW⟩ := FW.binds1 (ps := ["self", "kind"]) 2 1 (by simp) (by rfl) (fun T kV doc pm an cdv ct us its hu hi => match us, hu, its, hi with | [_, _], _, [_], _ => ⟨_, rfl, rfl⟩)
  cases hds
  have ww := whoB_ok qw
  have TW : WhoT K mg (ga K "WhoError") (ma K (ga K "WhoError") "__init__") dW0 := ⟨g_WhoError, ww.1, ww.2, FW.kp, bW⟩
  have E0 := errB_ok (x := "BadCount") qe0 g_BadCount
  have E1 := errB_ok (x := "NoName") qe1 g_NoName
  have E2 := errB_ok (x := "Twice") qe2 g_Twice
  have E3 := errB_ok (x := "NoVariable") qe3 g_NoVariable
  have E4 := errB_ok (x := "Loose") qe4 g_Loose
  have E5 := errB_ok (x := "Apart") qe5 g_Apart
  have TE : TxE K mg (clsC K) (ga K "WhoError") := ⟨g_BadCount, g_NoName, g_Twice, g_NoVariable, g_Loose, g_Apart, g_NoSort, g_NoWord, g_WhoError, fun i hi => match i, hi with
    | 0, _ => kitB_ok (C := clsC K) qk0 E0.2.2.1
    | 1, _ => kitB_ok (C := clsC K) qk1 E1.2.2.1
    | 2, _ => kitB_ok (C := clsC K) qk2 E2.2.2.1
    | 3, _ => kitB_ok (C := clsC K) qk3 E3.2.2.1
    | 4, _ => kitB_ok (C := clsC K) qk4 E4.2.2.1
    | 5, _ => kitB_ok (C := clsC K) qk5 E5.2.2.1
    | n + 6, hi => absurd hi (by omega), fun i hi => match i, hi with
    | 0, _ => E0.2.1
    | 1, _ => E1.2.1
    | 2, _ => E2.2.1
    | 3, _ => E3.2.1
    | 4, _ => E4.2.1
    | 5, _ => E5.2.1
    | n + 6, hi => absurd hi (by omega), E0.1.nf, eqO_ok qn, E1.1.nf, E2.1.nf, E3.1.nf, E4.1.nf, E5.1.nf⟩
  have TB : TxBar K mg (ga K "Bar") (ma K (ga K "Bar") "__init__") := ⟨cls_Bar, na_Bar_name, na_Bar_variables, na_Bar_conditions, g_Bar, mk_Bar⟩
  have TR : TxRul K mg (ga K "Rule") (ma K (ga K "Rule") "__init__") := ⟨cls_Rule, na_Rule_name, na_Rule_variables, na_Rule_conditions, na_Rule_gives, na_Rule_by, g_Rule, mk_Rule⟩
  refine ⟨_, fun s v => FLb s [v] rfl, fun base _ _ => ?_⟩
  have GW : FnOk P w K mg base CX0 1 _ dW0 ["self", "kind"] (spWI K) := ok_who FW
  have GI0 : FnOk P w K mg base CX0 2 _ _ ["self", "what", "count"] (spEC (ga K "BadCount")) := ok_badcount F_BadCount___init__ E0.1 (eqO_ok qn) TW GW
  have GI1 : FnOk P w K mg base CX0 2 _ _ ["self", "name"] (spE1 (ga K "NoName") "name" "noname") := ok_noname F_NoName___init__ E1.1 TW GW
  have GI2 : FnOk P w K mg base CX0 2 _ _ ["self", "name"] (spE1 (ga K "Twice") "name" "twice") := ok_twice F_Twice___init__ E2.1 TW GW
  have GI3 : FnOk P w K mg base CX0 2 _ _ ["self", "name"] (spE1 (ga K "NoVariable") "name" "novariable") := ok_nov F_NoVariable___init__ E3.1 TW GW
  have GI4 : FnOk P w K mg base CX0 2 _ _ ["self", "name"] (spE1 (ga K "Loose") "name" "loose") := ok_loose F_Loose___init__ E4.1 TW GW
  have GI5 : FnOk P w K mg base CX0 2 _ _ ["self", "place"] (spE1 (ga K "Apart") "place" "apart") := ok_apart F_Apart___init__ E5.1 TW GW
  have GIs : FnOk P w K mg base CX0 1 _ _ ["text"] spName := ok_name F_is_name T TN
  have GRC : FnOk P w K mg base (L2N.CX P w) 4 _ _ ["what", "count", "least", "most"] (spRC2 (clsC K)) := ok_rc2 F_refuse_count E0.1 b_BadCount___init__ GI0
  have GRN : FnOk P w K mg base (L2N.CX P w) 4 _ _ ["texts"] (spRN2 K (clsC K)) := ok_rn2 F_refuse_no_name D_is_name GIs E1.1 b_NoName___init__ GI1
  have GRT : FnOk P w K mg base (L2N.CX P w) 4 _ _ ["names"] (spRT2 K (clsC K)) := ok_rt2 F_refuse_twice T D_first_twice E2.1 b_Twice___init__ GI2
  have GRV : FnOk P w K mg base (L2N.CX P w) 4 _ _ ["names", "texts"] (spRV2 K (clsC K)) := ok_rv2 F_refuse_no_variable E3.1 b_NoVariable___init__ GI3
  have GRL : FnOk P w K mg base (L2N.CX P w) 4 _ _ ["names", "conditions"] (spRL2 K (clsC K)) := ok_rl2 F_refuse_loose D_ends_of E4.1 b_Loose___init__ GI4
  have GRA : FnOk P w K mg base (L2N.CX P w) 4 _ _ ["conditions"] (spRA2 K (clsC K)) := ok_ra2 F_refuse_apart T D_ends_of E5.1 b_Apart___init__ GI5
  have GCP : FnOk P w K mg base (L2N.CX P w) 5 _ _ ["name", "variables", "conditions", "given", "hands"] (spCP2 K (clsC K)) := ok_cp2 F_check_pattern T TP ⟨D_refuse_count, D_refuse_no_name, D_texts_of_pattern, D_refuse_twice, D_refuse_no_variable, D_ends_of, D_refuse_loose, D_refuse_apart, GRC, GRN, GRT, GRV, GRL, GRA⟩
  have GB : FnOk P w K mg base (L2N.CX P w) 6 _ _ ["self", "name", "variables", "conditions"] (spBar2 K (clsC K) (ga K "Bar")) := ok_bar2 F_Bar___init__ T TB D_tuple_of_tuples D_check_pattern GCP
  have GR : FnOk P w K mg base (L2N.CX P w) 6 _ _ ["self", "name", "variables", "conditions", "gives", "by"] (spRul2 K (clsC K) (ga K "Rule")) := ok_rul2 F_Rule___init__ T TR D_tuple_of_tuples D_check_pattern GCP
  have GNm : FnOk P w K mg base CX0 2 _ _ ["_law_s", "_law_taken"] spNam := ok_nam F__law_name T t_str D__law_digit
  have GN : FnOk P w K mg base CX0 3 _ _ ["_law_s", "_law_many"] spNms := ok_nms F__law_names T D__law_name GNm
  have GVr : FnOk P w K mg base CX0 4 _ _ ["_law_s", "_law_spoils"] (spVar K) := ok_var F__law_variables T T3 D__law_digit D__law_names GN D__law_bad
  have GCo : FnOk P w K mg base CX0 3 _ _ ["_law_s", "_law_spoils", "_law_pool", "_law_chain", "_law_k"] (spCon K) := ok_con F__law_condition T D__law_digit D__law_bad
  have GCs : FnOk P w K mg base CX0 4 _ _ ["_law_s", "_law_spoils", "_law_pool", "_law_chain"] (spCns K) := ok_cns F__law_conditions T t_max t_min D__law_digit D__law_condition GCo
  have GDu : FnOk P w K mg base CX0 2 _ _ ["_law_name_here", "_law_variables_here", "_law_conditions_here", "_law_triples", "_law_hands"] (spDue K) := ok_due F__law_due T D__law_is_name D__law_hung
  have GTl : FnEN P w K mg base 1 _ _ ["_law_e"] (spTld (clsC K)) := ok_tld F__law_told T t_sum TE
  have GFo : FnOk P w K mg base CX0 8 _ _ ["_law_name_here", "_law_variables_here", "_law_conditions_here", "_law_gives", "_law_by", "_law_bar"] (spFou K) := ok_fou F__law_found T T3 TE D__law_told GTl TB b_Bar___init__ GB TR b_Rule___init__ GR
  exact ok_law F_law T D__law_state D__law_digit D__law_bad D__law_variables GVr D__law_condition GCo D__law_conditions GCs D__law_due GDu D__law_found GFo
end Wm

open PySem PySem.W PySem.Calls PyProof.Rows
set_option maxRecDepth 100000 in
set_option maxHeartbeats 0 in
theorem PySem.Challenge.cw_whomay_k02_patterns_refused_holds : PySem.Challenge.rw_whomay_k02_patterns_refused.Holds := by
  w_on; o_law
  refine HandSHeadRun.head_any (r := OpenLaw.row PySem.Challenge.rw_whomay_k02_patterns_refused) (q := view (OpenLaw.row PySem.Challenge.rw_whomay_k02_patterns_refused).prog [50]) (H := Wm.hkW) (ob := Wm.obW) (M := 20000) (loose := Wm.loW) (d := HandSHeadRun.topDef (OpenLaw.row PySem.Challenge.rw_whomay_k02_patterns_refused).prog 50) (kwd := []) Wm.obW_eq
    (by kernel_rfl) (fun s => by kernel_rfl) Wm.runW (by kernel_rfl) (by kernel_rfl) (by kernel_rfl) (by rfl) (by first | assumption | decide +kernel) (by decide +kernel) ⟨rfl, rfl, rfl, rfl, rfl, by decide +kernel⟩ ?hw ?hc
  case hw => w_witness2
  case hc =>
    refine L2.walk_ofE (l := PySem.Challenge.rw_whomay_k02_patterns_refused) (n := 63) (k := 9) (x := "_law_script") (CX := L2.CX0) rfl (by decide) (by kernel_rfl) ⟨rfl, by decide, by decide⟩ ?F (fun _ _ _ _ z => z)
    intro w mg fa h Y G hmg0
    obtain ⟨K, KX, c⟩ := Y
    have hmg : mg ("law" : PySem.Str) = some (.ref fa) := by
      have e : (HandSHeadRun.topDef (OpenLaw.row PySem.Challenge.rw_whomay_k02_patterns_refused).prog 50).name = ("law" : PySem.Str) := by kernel_rfl
      rw [← e]
      exact hmg0
    obtain ⟨fd, hb, hF⟩ := Wm.facts (P := (PySem.Challenge.rw_whomay_k02_patterns_refused).prog) (w := w) KX G hmg c
    exact ⟨K, fd, Wm.spLaw K, KX, hb, fun H a ns hl _ hS => ⟨a, ns, rfl, hS, hl, fun _ => rfl⟩, hF⟩
