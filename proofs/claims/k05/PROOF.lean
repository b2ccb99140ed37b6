import PyProof.Rows.All
import Wide.All
import OpenK.AllK
import Wide.FinOn
import HandS.ForMost
import HandS.ForExc
import HandS.Walk
import HandS.Star
import HandS.Style
import HandS.TupAny
import HandS.ExcInit
import HandS.ExcIs
import HandS.ExcField
import HandS.Defaults
import HandS.Wide
import HandS.ClsMeth
import KE.KExcIs
import KE.GoesEnum
import HandS.FStr
import KE.KCallOwn
import HandS.OwnEq
import HandS.IsInst
import HandS.Deep
import PyProof.ListNew
import PyProof.CollectWalk
import HandS.Zip
import KE.KDictZip
import HandS.HotCalls
import PyProof.SumWalkG
import PyProof.Rows.SumAny
import HandS.ExcInitHot
import HandS.WordsExc
import HandS.Text
import PyProof.StrLawsChain
import PyProof.StrLawsTight
import HandS.ExcOwn
import HandS.MakeKwOnly
import HandS.MakeKw
import PyProof.NeKinds
import KE.DataCmp
import PyProof.EqAt
import PyProof.EqKinds
import HandS.Words
import KE.KStateDown
import HandS.Head0
import HandS.Head1
import HandS.Head2
import HandS.HeadEnd
import HandS.HeadHook1
import HandS.HeadHook2
import PySem.Challenge.RW_whomay_k05_schemes_refused
set_option Elab.async false
set_option linter.all false
set_option maxRecDepth 100000
set_option maxHeartbeats 4000000
namespace Wm
open PySem L2
def top (i : Nat) : Stmt := PySem.Challenge.pw_whomay_k05_schemes_refused.main.body.getD i (.Pass ⟨0, 0, 0, 0⟩)
abbrev sState : Stmt := top 54
abbrev sDigit : Stmt := top 55
abbrev sW0 : Stmt := inClass (top 2) 0
abbrev sN0 : Stmt := inClass (top 3) 0
abbrev sName : Stmt := top 18
abbrev sRN : Stmt := top 19
abbrev sFT : Stmt := top 20
abbrev sRT : Stmt := top 21
abbrev sRC : Stmt := top 22
abbrev sTT : Stmt := top 38
abbrev sEO : Stmt := top 39
abbrev sTP : Stmt := top 40
abbrev sRV : Stmt := top 41
abbrev sRL : Stmt := top 42
abbrev sRA : Stmt := top 43
abbrev sCP : Stmt := top 44
abbrev sBar : Stmt := inClass (top 49) 0
abbrev sRul : Stmt := inClass (top 50) 0
abbrev sRE : Stmt := inClass (top 50) 1
abbrev sBE : Stmt := inClass (top 49) 1
abbrev sNam : Stmt := top 56
abbrev sNms : Stmt := top 57
abbrev sMak : Stmt := inClass (top 51) 0
abbrev sOL : Stmt := top 28
abbrev sRMT : Stmt := top 29
abbrev sRNS : Stmt := top 30
abbrev sRU : Stmt := top 31
abbrev sRNW : Stmt := top 32
abbrev sCS : Stmt := top 33
abbrev sT0 : Stmt := inClass (top 5) 0
abbrev sNS : Stmt := inClass (top 9) 0
abbrev sNW : Stmt := inClass (top 11) 0

abbrev sBC : Stmt := inClass (top 4) 0
abbrev sUp : Stmt := inClass (top 10) 0
abbrev sSch : Stmt := inClass (top 34) 0
abbrev sSMk : Stmt := inClass (top 34) 3
abbrev sSRu : Stmt := inClass (top 34) 4
abbrev sSBa : Stmt := inClass (top 34) 5
abbrev sSor : Stmt := inClass (top 34) 1
abbrev sWor : Stmt := inClass (top 34) 2
abbrev sLName : Stmt := top 64
abbrev sTld : Stmt := top 68
abbrev sBad : Stmt := top 58
abbrev sRow : Stmt := top 59
abbrev sPik : Stmt := top 60
abbrev sNrt : Stmt := top 63
abbrev sTwi : Stmt := top 65
abbrev sMkg : Stmt := top 61
abbrev sPat : Stmt := top 62
abbrev sDup : Stmt := top 67
abbrev sDuc : Stmt := top 66
abbrev sFou : Stmt := top 69
abbrev sLaw : Stmt := top 70
end Wm
/-! a head by one run: what is asked of the written part is one Bool of one's own -/
namespace Wm
open PySem PySem.Spec PyProof.Rows L2 He ClX
def obsM (ck : PySem.W.Frag → Bool) (fn : List DefD) (K : PySem.W.Frag) : AlD := (ck K && fn.all fun d => d.ok K, fn.map fun d => fnW K d.at_)
def SaysM (ck : PySem.W.Frag → Bool) (fn : List DefD) (K : PySem.W.Frag) : Prop := obsM ck fn K = valD fn
/-- what the module's names, and what the C code keeps, reach in n steps -/
def asM (g : Addr → Option Obj) : Nat → List Addr
  | 0 => [mainGlobals, cStatics]
  | n + 1 => growD g (asM g n)
def obsMG (n : Nat) (ck : PySem.W.Frag → Bool) (fn : List DefD) (g : Addr → Option Obj) : AlD := obsM ck fn (frG g (asM g n))
def hookM (n : Nat) (ck : PySem.W.Frag → Bool) (fn : List DefD) : PySem.W.Hook where
  α := AlD
  obs := fun s => obsMG n ck fn s.heap.get?
  val := fun _ => valD fn
  says := fun _ h => ∃ K : PySem.W.Frag, K.In h ∧ SaysM ck fn K
  of := fun _ _ e => ⟨_, frG_in, e⟩
  keeps := fun _ _ _ ⟨K, hK, c⟩ k => ⟨K, PySem.W.Frag.In.keeps hK k, c⟩
theorem obsMG_eq {n : Nat} {ck : PySem.W.Frag → Bool} {fn : List DefD} {g : Addr → Option Obj} {s : Shared} (h : ∀ a, g a = s.heap.get? a) : obsMG n ck fn g = (hookM n ck fn).obs s := by
  have e : g = s.heap.get? := funext h
  rw [e] <;> rfl
section
variable {ck : PySem.W.Frag → Bool} {fn : List DefD} {K : PySem.W.Frag}
theorem SaysM.says (c : SaysM ck fn K) : ck K = true := (ba (show (ck K && fn.all fun d => d.ok K) = true from congrArg (fun z : AlD => z.1) c)).1
theorem SaysM.def_ (c : SaysM ck fn K) (i : Nat) {d : DefD} (h : fn[i]? = some d := by rfl) : ∃ fd, FunD K d.name d.qual d.params d.body d.scope (d.dvs K) (d.kws K) (fAd K d.at_) fd := by
  have c2 := (ba (show (ck K && fn.all fun d => d.ok K) = true from congrArg (fun z : AlD => z.1) c)).2
  have e : fn.map (fun d => fnW K d.at_) = fn.map DefD.val := congrArg (fun z : AlD => z.2) c
  have e2 : (fn.map fun d => fnW K d.at_)[i]? = (fn.map DefD.val)[i]? := by rw [e]
  rw [List.getElem?_map, List.getElem?_map, h] at e2
  exact DefD.funD (Option.some.inj e2) (List.all_eq_true.mp c2 d (List.mem_of_getElem? h))
end
/-- a def without defaults -/
theorem fun_of {K : PySem.W.Frag} {x q : Str} {st : Stmt} {f : Addr} {fd : FuncData} (F : FunD K x q (defArgs st) (defBody st) (defScope st) [] [] f fd) : Fun K x q st f fd := by
  obtain ⟨oc, od, dV, kV, doc, pm, an, cdv, ct, osl, rfl, l, c, d, _⟩ := F.ex
  have e : dV = .none := by
    rcases d with ⟨_, e⟩ | ⟨n, _⟩
    · exact e
    · exact absurd rfl n
  subst e
  exact ⟨⟨oc, od, kV, doc, pm, an, cdv, ct, osl, rfl, l, c⟩, F.kp⟩
/-- an error class whose objects are made by an __init__ of its own -/
def excB (K : PySem.W.Frag) (C : Addr) : Bool := match K.lookup C with
  | some ⟨.type "type", _, .cls cd, sl⟩ => (match cd.mro, sl.toList with
    | .ref C' :: bm, [_, _, _, _, some (.builtin n), _] => C' == C && (n == "ValueError.__new__" && (!cd.hasDel && (cd.hasDict && PySem.HandSPX.refsVE bm)))
    | _, _ => false)
  | _ => false
theorem excB_ok {K : PySem.W.Frag} {C : Addr} (q : excB K C = true) : ∃ nm q N bs bm sn sub ab col dd k0 k1 k2 k3 k5, K.lookup C = some (excClassObj nm q C N bs bm true sn sub ab col dd k0 k1 k2 k3 k5 "ValueError.__new__") ∧ PySem.HandSPX.refsVE bm = true := by
  unfold excB at q
  split at q
  · rename_i dd cd sl ho
    split at q
    · rename_i C' bm k0 k1 k2 k3 n k5 hm hs
      simp only [Bool.and_eq_true, beq_iff_eq, Bool.not_eq_true'] at q
      obtain ⟨rfl, rfl, hdel, hdi, ht⟩ := q
      obtain ⟨nm, bs, mro, ns, qn, hd, sn, sub, ab, col, del⟩ := cd
      dsimp only at hm hdel hdi
      subst hm hdel hdi
      have hsl : sl = #[k0, k1, k2, k3, some (.builtin "ValueError.__new__"), k5] := by
        obtain ⟨l⟩ := sl
        simp only at hs
        rw [hs]
      subst hsl
      exact ⟨nm, qn, ns, bs, bm, sn, sub, ab, col, dd, k0, k1, k2, k3, k5, ho, ht⟩
    · cases q
  · cases q
/-- WhoError, whose __init__ the others call -/
def whoB (K : PySem.W.Frag) (W : Addr) : Bool := PySem.W.readsIn K W (.type "type") && (eqO (PySem.W.specialIn K (.ref W) "__getattribute__") (some (some (.builtin "type.__getattribute__"))) && (match PySem.W.findCls K (.ref W) (.type "type") "__init__" with
  | some (.val (.ref a)) => decide (a = ma K W "__init__")
  | _ => false))
theorem whoB_ok {K : PySem.W.Frag} {W : Addr} (h : whoB K W = true) : CRead K W (.type "type") ∧ PySem.W.findCls K (.ref W) (.type "type") "__init__" = some (.val (.ref (ma K W "__init__"))) := by
  unfold whoB at h
  obtain ⟨h1, h⟩ := ba h
  obtain ⟨h2, h3⟩ := ba h
  refine ⟨⟨h1, eqO_ok h2⟩, ?_⟩
  split at h3
  · rename_i a e
    rw [e, of_decide_eq_true h3]
  · cases h3
end Wm
/-! the reached fragment, gone through once: what was seen is kept as bits of a number -/
namespace Wm
open PySem PySem.Spec PyProof.Rows L2 He ClX
noncomputable def pushB (as : List Addr) : Nat → List Addr → Nat × List Addr := List.rec (motive := fun _ => Nat → List Addr → Nat × List Addr) (fun v acc => (v, acc)) (fun a _ ih v acc => Bool.rec (motive := fun _ => Nat × List Addr) (ih (Nat.lor v (Nat.shiftLeft 1 a)) (a :: acc)) (ih v acc) (Nat.beq (Nat.mod (Nat.shiftRight v a) 2) 1)) as
noncomputable def lvB (g : Addr → Option Obj) (n : Nat) : List Addr → Nat → List Addr := Nat.rec (motive := fun _ => List Addr → Nat → List Addr) (fun fr _ => fr) (fun _ ih fr v => fr ++ (match pushB (fr.flatMap fun a => match g a with
  | some o => refsD o
  | none => []) v [] with
  | (v', nf) => ih nf v')) n
noncomputable def asB (g : Addr → Option Obj) (n : Nat) : List Addr := lvB g n [mainGlobals, cStatics] (Nat.lor (Nat.shiftLeft 1 mainGlobals) (Nat.shiftLeft 1 cStatics))
noncomputable def obsBG (n : Nat) (ck : PySem.W.Frag → Bool) (fn : List DefD) (g : Addr → Option Obj) : AlD := obsM ck fn (frG g (asB g n))
noncomputable def hookB (n : Nat) (ck : PySem.W.Frag → Bool) (fn : List DefD) : PySem.W.Hook where
  α := AlD
  obs := fun s => obsBG n ck fn s.heap.get?
  val := fun _ => valD fn
  says := fun _ h => ∃ K : PySem.W.Frag, K.In h ∧ SaysM ck fn K
  of := fun _ _ e => ⟨_, frG_in, e⟩
  keeps := fun _ _ _ ⟨K, hK, c⟩ k => ⟨K, PySem.W.Frag.In.keeps hK k, c⟩
theorem obsBG_eq {n : Nat} {ck : PySem.W.Frag → Bool} {fn : List DefD} {g : Addr → Option Obj} {s : Shared} (h : ∀ a, g a = s.heap.get? a) : obsBG n ck fn g = (hookB n ck fn).obs s := by
  have e : g = s.heap.get? := funext h
  rw [e] <;> rfl
end Wm
/-! the run's equation in two: what is looked at behind the top, and the facts, each by a run of its own -/
namespace Wm
open PySem PySem.W PySem.Calls PyProof.Rows HandSHeadRun
noncomputable def RunA (r : OpenRow) (q : Program) (M : Nat) (loose : List PySem.Str) (w : World) : Prop :=
  ∀ os : OsState, (endF (stepQ (denQ tabQ) r.prog w) M r.prog w os).map (fun s => (looksF r.prog (boot_heap w.params) s.abs, seenQ q loose (importedModules r.prog.main.body) (fun s => xlAt q [] s && recOk r.toRowW.records s) s.abs)) = some (true, openGood q loose)
noncomputable def RunB (r : OpenRow) (H : Hook) (ob : SharedT → H.α) (M : Nat) (w : World) : Prop :=
  ∀ os : OsState, (endF (stepQ (denQ tabQ) r.prog w) M r.prog w os).map ob = some (H.val w)
theorem runEq_of {r : OpenRow} {q : Program} {H : Hook} {ob : SharedT → H.α} {M : Nat} {loose : List PySem.Str} {w : World} (a : RunA r q M loose w) (b : RunB r H ob M w) : RunEq r q H ob M loose w := fun os => by
  have a := a os
  have b := b os
  revert a b
  generalize endF (stepQ (denQ tabQ) r.prog w) M r.prog w os = z
  cases z with
  | none =>
    intro a
    cases a
  | some s =>
    intro a b
    have e1 := Option.some.inj a
    have e2 : ob s = H.val w := Option.some.inj b
    obtain ⟨e3, e4⟩ := Prod.mk.inj e1
    show some (_, _, _) = _
    rw [e2]
    exact congrArg some (Prod.ext e3 (Prod.ext e4 rfl))
end Wm
namespace Wm
open PySem L2 He ClX StX
/-- what is asked of an error class of one field -/
def errB (K : PySem.W.Frag) (C fI : Addr) (f : Str) : Bool :=
  eqO (PySem.W.findIn K (.ref C) "__setattr__") (some (some (.builtin "object.__setattr__"))) && (decide (PySem.W.subIn K (.ref C) (.type "BaseException") = some true) && (decide (PySem.W.typeIn K (.ref C) = some (.type "type")) && (PySem.W.keepIn K (.ref C) &&
  (decide (PySem.W.typeIn K (.ref fI) = some (.type "function")) && (eqO (PySem.W.findIn K (.ref C) "kind") (some none) && (eqO (PySem.W.findIn K (.ref C) f) (some none) && (eqO (PySem.W.findIn K (.ref C) "__getattribute__") (some (some (.builtin "BaseException.__getattribute__"))) &&
  (eqO (PySem.W.findIn K (.ref C) "__getattr__") (some none) && (PySem.W.hasDictIn K C && (eqO (PySem.W.findIn K (.ref C) "__class__") (some (some (.builtin "object.__class__"))) && (decide (PySem.W.mroIn K C (.type "object") = some true) &&
  (eqO (PySem.W.findIn K (.ref C) "__init__") (some (some (.ref fI))) && (excB K C && (decide (PySem.W.exmOne K (.ref C) (.ref C) = some true) && (eqO (PySem.W.specialIn K (.builtin "object.__class__") "__get__") (some (some (.builtin "getset_descriptor.__get__"))) && decide (PySem.W.takesIn K (.builtin "object.__class__") = some true))))))))))))))))
def kitB (K : PySem.W.Frag) (Z C0 C1 C2 C3 C4 C5 C6 W : Addr) (i : Nat) : Bool := decide (PySem.W.exmOne K (.ref Z) (.ref W) = some true) && (decide (PySem.W.kitOne K (.ref Z) (.ref C0) = some (decide (i = 0))) && (decide (PySem.W.kitOne K (.ref Z) (.ref C1) = some (decide (i = 1))) && (decide (PySem.W.kitOne K (.ref Z) (.ref C2) = some (decide (i = 2))) && (decide (PySem.W.kitOne K (.ref Z) (.ref C3) = some (decide (i = 3))) && (decide (PySem.W.kitOne K (.ref Z) (.ref C4) = some (decide (i = 4))) && (decide (PySem.W.kitOne K (.ref Z) (.ref C5) = some (decide (i = 5))) && (decide (PySem.W.kitOne K (.ref Z) (.ref C6) = some (decide (i = 6))) && (decide (PySem.W.kitOne K (.ref Z) (.type "ValueError") = some true)))))))))
def factL : List Fa := [.glo "WhoError", .glo "BadCount", .glo "NoName", .glo "Twice", .glo "NoSort", .glo "Upward", .glo "NoWord", .glo "NoVariable", .glo "is_name", .glo "refuse_no_name", .glo "first_twice", .glo "refuse_twice", .glo "refuse_count", .glo "own_list", .glo "refuse_makings_twice", .glo "refuse_no_sort", .glo "refuse_upward", .glo "refuse_no_word", .glo "check_scheme", .glo "tuple_of_tuples", .glo "ends_of", .glo "texts_of_pattern", .glo "refuse_no_variable", .glo "refuse_loose", .glo "refuse_apart", .glo "check_pattern", .glo "_law_state", .glo "_law_digit", .glo "_law_name", .glo "_law_names", .glo "_law_bad", .glo "_law_row", .glo "_law_pick", .glo "_law_makings", .glo "_law_patterns", .glo "_law_names_right", .glo "_law_is_name", .glo "_law_twice", .glo "_law_due_counts", .glo "_law_due_parts", .glo "_law_told", .glo "_law_found", .glo "law", .glo "Scheme", .cls "Scheme", .noat "Scheme" "own_sorts", .noat "Scheme" "own_words", .noat "Scheme" "own_makings", .noat "Scheme" "own_rules", .noat "Scheme" "own_bars", .mkr "Scheme", .glo "Bar", .cls "Bar", .noat "Bar" "name", .noat "Bar" "variables", .noat "Bar" "conditions", .mkr "Bar", .glo "Rule", .cls "Rule", .noat "Rule" "name", .noat "Rule" "variables", .noat "Rule" "conditions", .noat "Rule" "gives", .noat "Rule" "by", .mkr "Rule", .glo "Making", .cls "Making", .noat "Making" "maker", .noat "Making" "made", .noat "Making" "down", .noat "Making" "up", .mkr "Making", .meth "Scheme" "sorts", .meth "Scheme" "words", .meth "Scheme" "makings", .meth "Scheme" "rules", .meth "Scheme" "bars", .free "abs", .free "int", .free "len", .free "range", .free "all", .free "tuple", .free "enumerate", .free "isinstance", .free "ValueError", .free "list", .free "str", .free "max", .free "sum", .str "LETTERS" "abcdefghijklmnopqrstuvwxyz", .str "FIGURES" "0123456789", .int "LONGEST_NAME" 12, .int "MOST_SORTS" 4, .int "MOST_WORDS" 5, .int "MOST_RULES" 8, .int "MOST_BARS" 4, .int "MOST_VARIABLES" 4, .int "MOST_CONDITIONS" 3]
def ck (K : PySem.W.Frag) : Bool := factL.all (fun f => f.ok K) && (whoB K (ga K "WhoError") && (errB K (ga K "BadCount") (ma K (ga K "BadCount") "__init__") "what" && (errB K (ga K "NoName") (ma K (ga K "NoName") "__init__") "name" && (errB K (ga K "Twice") (ma K (ga K "Twice") "__init__") "name" && (errB K (ga K "NoSort") (ma K (ga K "NoSort") "__init__") "name" && (errB K (ga K "Upward") (ma K (ga K "Upward") "__init__") "maker" && (errB K (ga K "NoWord") (ma K (ga K "NoWord") "__init__") "name" && (kitB K (ga K "BadCount") (ga K "BadCount") (ga K "NoName") (ga K "Twice") (ga K "NoSort") (ga K "Upward") (ga K "NoWord") (ga K "NoVariable") (ga K "WhoError") 0 && (kitB K (ga K "NoName") (ga K "BadCount") (ga K "NoName") (ga K "Twice") (ga K "NoSort") (ga K "Upward") (ga K "NoWord") (ga K "NoVariable") (ga K "WhoError") 1 && (kitB K (ga K "Twice") (ga K "BadCount") (ga K "NoName") (ga K "Twice") (ga K "NoSort") (ga K "Upward") (ga K "NoWord") (ga K "NoVariable") (ga K "WhoError") 2 && (kitB K (ga K "NoSort") (ga K "BadCount") (ga K "NoName") (ga K "Twice") (ga K "NoSort") (ga K "Upward") (ga K "NoWord") (ga K "NoVariable") (ga K "WhoError") 3 && (kitB K (ga K "Upward") (ga K "BadCount") (ga K "NoName") (ga K "Twice") (ga K "NoSort") (ga K "Upward") (ga K "NoWord") (ga K "NoVariable") (ga K "WhoError") 4 && (kitB K (ga K "NoWord") (ga K "BadCount") (ga K "NoName") (ga K "Twice") (ga K "NoSort") (ga K "Upward") (ga K "NoWord") (ga K "NoVariable") (ga K "WhoError") 5 && (eqO (PySem.W.findIn K (.ref (ga K "BadCount")) "count") (some none) && (eqO (PySem.W.findIn K (.ref (ga K "Upward")) "made") (some none))))))))))))))))
def d_is_name : DefD := ⟨("is_name", none), "is_name", "is_name", defArgs sName, defBody sName, defScope sName, [], []⟩
def d_refuse_no_name : DefD := ⟨("refuse_no_name", none), "refuse_no_name", "refuse_no_name", defArgs sRN, defBody sRN, defScope sRN, [], []⟩
def d_first_twice : DefD := ⟨("first_twice", none), "first_twice", "first_twice", defArgs sFT, defBody sFT, defScope sFT, [], []⟩
def d_refuse_twice : DefD := ⟨("refuse_twice", none), "refuse_twice", "refuse_twice", defArgs sRT, defBody sRT, defScope sRT, [], []⟩
def d_refuse_count : DefD := ⟨("refuse_count", none), "refuse_count", "refuse_count", defArgs sRC, defBody sRC, defScope sRC, [], []⟩
def d_own_list : DefD := ⟨("own_list", none), "own_list", "own_list", defArgs sOL, defBody sOL, defScope sOL, [], []⟩
def d_refuse_makings_twice : DefD := ⟨("refuse_makings_twice", none), "refuse_makings_twice", "refuse_makings_twice", defArgs sRMT, defBody sRMT, defScope sRMT, [], []⟩
def d_refuse_no_sort : DefD := ⟨("refuse_no_sort", none), "refuse_no_sort", "refuse_no_sort", defArgs sRNS, defBody sRNS, defScope sRNS, [], []⟩
def d_refuse_upward : DefD := ⟨("refuse_upward", none), "refuse_upward", "refuse_upward", defArgs sRU, defBody sRU, defScope sRU, [], []⟩
def d_refuse_no_word : DefD := ⟨("refuse_no_word", none), "refuse_no_word", "refuse_no_word", defArgs sRNW, defBody sRNW, defScope sRNW, [], []⟩
def d_check_scheme : DefD := ⟨("check_scheme", none), "check_scheme", "check_scheme", defArgs sCS, defBody sCS, defScope sCS, [], []⟩
def d_tuple_of_tuples : DefD := ⟨("tuple_of_tuples", none), "tuple_of_tuples", "tuple_of_tuples", defArgs sTT, defBody sTT, defScope sTT, [], []⟩
def d_ends_of : DefD := ⟨("ends_of", none), "ends_of", "ends_of", defArgs sEO, defBody sEO, defScope sEO, [], []⟩
def d_texts_of_pattern : DefD := ⟨("texts_of_pattern", none), "texts_of_pattern", "texts_of_pattern", defArgs sTP, defBody sTP, defScope sTP, [], []⟩
def d_refuse_no_variable : DefD := ⟨("refuse_no_variable", none), "refuse_no_variable", "refuse_no_variable", defArgs sRV, defBody sRV, defScope sRV, [], []⟩
def d_refuse_loose : DefD := ⟨("refuse_loose", none), "refuse_loose", "refuse_loose", defArgs sRL, defBody sRL, defScope sRL, [], []⟩
def d_refuse_apart : DefD := ⟨("refuse_apart", none), "refuse_apart", "refuse_apart", defArgs sRA, defBody sRA, defScope sRA, [], []⟩
def d_check_pattern : DefD := ⟨("check_pattern", none), "check_pattern", "check_pattern", defArgs sCP, defBody sCP, defScope sCP, [], []⟩
def d__law_state : DefD := ⟨("_law_state", none), "_law_state", "_law_state", defArgs sState, defBody sState, defScope sState, [], []⟩
def d__law_digit : DefD := ⟨("_law_digit", none), "_law_digit", "_law_digit", defArgs sDigit, defBody sDigit, defScope sDigit, [], []⟩
def d__law_name : DefD := ⟨("_law_name", none), "_law_name", "_law_name", defArgs sNam, defBody sNam, defScope sNam, [], []⟩
def d__law_names : DefD := ⟨("_law_names", none), "_law_names", "_law_names", defArgs sNms, defBody sNms, defScope sNms, [], []⟩
def d__law_bad : DefD := ⟨("_law_bad", none), "_law_bad", "_law_bad", defArgs sBad, defBody sBad, defScope sBad, [], []⟩
def d__law_row : DefD := ⟨("_law_row", none), "_law_row", "_law_row", defArgs sRow, defBody sRow, defScope sRow, [], []⟩
def d__law_pick : DefD := ⟨("_law_pick", none), "_law_pick", "_law_pick", defArgs sPik, defBody sPik, defScope sPik, [], []⟩
def d__law_makings : DefD := ⟨("_law_makings", none), "_law_makings", "_law_makings", defArgs sMkg, defBody sMkg, defScope sMkg, [], []⟩
def d__law_patterns : DefD := ⟨("_law_patterns", none), "_law_patterns", "_law_patterns", defArgs sPat, defBody sPat, defScope sPat, [], []⟩
def d__law_names_right : DefD := ⟨("_law_names_right", none), "_law_names_right", "_law_names_right", defArgs sNrt, defBody sNrt, defScope sNrt, [], []⟩
def d__law_is_name : DefD := ⟨("_law_is_name", none), "_law_is_name", "_law_is_name", defArgs sLName, defBody sLName, defScope sLName, [], []⟩
def d__law_twice : DefD := ⟨("_law_twice", none), "_law_twice", "_law_twice", defArgs sTwi, defBody sTwi, defScope sTwi, [], []⟩
def d__law_due_counts : DefD := ⟨("_law_due_counts", none), "_law_due_counts", "_law_due_counts", defArgs sDuc, defBody sDuc, defScope sDuc, [], []⟩
def d__law_due_parts : DefD := ⟨("_law_due_parts", none), "_law_due_parts", "_law_due_parts", defArgs sDup, defBody sDup, defScope sDup, [], []⟩
def d__law_told : DefD := ⟨("_law_told", none), "_law_told", "_law_told", defArgs sTld, defBody sTld, defScope sTld, [], []⟩
def d__law_found : DefD := ⟨("_law_found", none), "_law_found", "_law_found", defArgs sFou, defBody sFou, defScope sFou, [], []⟩
def d_law : DefD := ⟨("law", none), "law", "law", defArgs sLaw, defBody sLaw, defScope sLaw, [], []⟩
def d_BadCount___init__ : DefD := ⟨("BadCount", some "__init__"), "__init__", "BadCount.__init__", defArgs sBC, defBody sBC, defScope sBC, [], []⟩
def d_NoName___init__ : DefD := ⟨("NoName", some "__init__"), "__init__", "NoName.__init__", defArgs sN0, defBody sN0, defScope sN0, [], []⟩
def d_Twice___init__ : DefD := ⟨("Twice", some "__init__"), "__init__", "Twice.__init__", defArgs sT0, defBody sT0, defScope sT0, [], []⟩
def d_NoSort___init__ : DefD := ⟨("NoSort", some "__init__"), "__init__", "NoSort.__init__", defArgs sNS, defBody sNS, defScope sNS, [], []⟩
def d_Upward___init__ : DefD := ⟨("Upward", some "__init__"), "__init__", "Upward.__init__", defArgs sUp, defBody sUp, defScope sUp, [], []⟩
def d_NoWord___init__ : DefD := ⟨("NoWord", some "__init__"), "__init__", "NoWord.__init__", defArgs sNW, defBody sNW, defScope sNW, [], []⟩
def d_Bar___init__ : DefD := ⟨("Bar", some "__init__"), "__init__", "Bar.__init__", defArgs sBar, defBody sBar, defScope sBar, [], []⟩
def d_Rule___init__ : DefD := ⟨("Rule", some "__init__"), "__init__", "Rule.__init__", defArgs sRul, defBody sRul, defScope sRul, [], []⟩
def d_Making___init__ : DefD := ⟨("Making", some "__init__"), "__init__", "Making.__init__", defArgs sMak, defBody sMak, defScope sMak, [], []⟩
def d_Scheme_sorts : DefD := ⟨("Scheme", some "sorts"), "sorts", "Scheme.sorts", defArgs sSor, defBody sSor, defScope sSor, [], []⟩
def d_Scheme_words : DefD := ⟨("Scheme", some "words"), "words", "Scheme.words", defArgs sWor, defBody sWor, defScope sWor, [], []⟩
def d_Scheme_makings : DefD := ⟨("Scheme", some "makings"), "makings", "Scheme.makings", defArgs sSMk, defBody sSMk, defScope sSMk, [], []⟩
def d_Scheme_rules : DefD := ⟨("Scheme", some "rules"), "rules", "Scheme.rules", defArgs sSRu, defBody sSRu, defScope sSRu, [], []⟩
def d_Scheme_bars : DefD := ⟨("Scheme", some "bars"), "bars", "Scheme.bars", defArgs sSBa, defBody sSBa, defScope sSBa, [], []⟩
def dWho : DefD := ⟨("WhoError", some "__init__"), "__init__", "WhoError.__init__", defArgs sW0, defBody sW0, defScope sW0, [.str "whoerror"], []⟩
def dSch : DefD := ⟨("Scheme", some "__init__"), "__init__", "Scheme.__init__", defArgs sSch, defBody sSch, defScope sSch, [.non, .non, .non], []⟩
def fnL : List DefD := [d_is_name, d_refuse_no_name, d_first_twice, d_refuse_twice, d_refuse_count, d_own_list, d_refuse_makings_twice, d_refuse_no_sort, d_refuse_upward, d_refuse_no_word, d_check_scheme, d_tuple_of_tuples, d_ends_of, d_texts_of_pattern, d_refuse_no_variable, d_refuse_loose, d_refuse_apart, d_check_pattern, d__law_state, d__law_digit, d__law_name, d__law_names, d__law_bad, d__law_row, d__law_pick, d__law_makings, d__law_patterns, d__law_names_right, d__law_is_name, d__law_twice, d__law_due_counts, d__law_due_parts, d__law_told, d__law_found, d_law, d_BadCount___init__, d_NoName___init__, d_Twice___init__, d_NoSort___init__, d_Upward___init__, d_NoWord___init__, d_Bar___init__, d_Rule___init__, d_Making___init__, d_Scheme_sorts, d_Scheme_words, d_Scheme_makings, d_Scheme_rules, d_Scheme_bars, dWho, dSch]
end Wm
set_option maxHeartbeats 0
namespace Wm
open PySem PySem.W PySem.Calls PyProof.Rows
abbrev RW : OpenRow := OpenLaw.row PySem.Challenge.rw_whomay_k05_schemes_refused
noncomputable abbrev hkW : Hook := hookB 4 ck fnL
noncomputable def obW (s : SharedT) : He.AlD := obsBG 4 ck fnL (HandSHeadRun.getT s)
theorem obW_eq (s : SharedT) : obW s = hkW.obs s.abs := obsBG_eq (HandSHeadRun.getT_eq s)
def lo0 : List PySem.Str := ["_wall", "WhoError", "NoName", "BadCount", "Twice", "NoVariable", "Loose", "Apart", "NoSort", "Upward", "NoWord", "NoRule", "NoBar", "LETTERS", "FIGURES", "LONGEST_NAME", "is_name", "refuse_no_name", "first_twice", "refuse_twice", "refuse_count", "MOST_SORTS", "MOST_WORDS", "MOST_RULES", "MOST_BARS", "own_list", "refuse_makings_twice", "refuse_no_sort", "refuse_upward", "refuse_no_word"]
def lo1 : List PySem.Str := ["check_scheme", "Scheme", "MOST_VARIABLES", "MOST_CONDITIONS", "tuple_of_tuples", "ends_of", "texts_of_pattern", "refuse_no_variable", "refuse_loose", "refuse_apart", "check_pattern", "variable_part", "pattern_parts", "rule_parts", "making_parts", "Bar", "Rule", "Making", "_law_cell_at", "_law_state", "_law_digit", "_law_name", "_law_names", "_law_bad", "_law_row", "_law_pick", "_law_makings", "_law_patterns", "_law_names_right", "_law_is_name"]
def lo2 : List PySem.Str := ["_law_twice", "_law_due_counts", "_law_due_parts", "_law_told", "_law_found"]
def loW : List PySem.Str := lo0 ++ lo1 ++ lo2
theorem runWA (w : World) : RunA RW (view RW.prog [70]) 20000 loW w := by
  intro os
  kernel_rfl
theorem runWB (w : World) : RunB RW hkW obW 20000 w := by
  intro os
  kernel_rfl
theorem runW (w : World) : HandSHeadRun.RunEq RW (view RW.prog [70]) hkW obW 20000 loW w := runEq_of (runWA w) (runWB w)
end Wm
namespace Wm
open PySem L2
/-- the digits' state at p -/
def StOk (H : Hp) (p : Addr) : Prop := ∃ a b c : Int, H p = some (.lst [.int a, .int b, .int c]) ∧ 0 ≤ a ∧ 0 ≤ b ∧ b ≤ 2147483636 ∧ 0 ≤ c ∧ c < 2147483648
/-- all that was tracked is as it was, but at p -/
def But (p : Addr) (H H' : Hp) : Prop := ∀ q o, q ≠ p → H q = some o → H' q = some o
theorem But.refl (p : Addr) (H : Hp) : But p H H := fun _ _ _ h => h
theorem But.trans {p : Addr} {H H1 H2 : Hp} (a : But p H H1) (b : But p H1 H2) : But p H H2 := fun q o n h => b q o n (a q o n h)
theorem But.upd {p : Addr} {H : Hp} {o : HO} : But p H (upd H p o) := fun q o n h => by rw [upd_ne n]; exact h
theorem Same.but {p : Addr} {H H1 : Hp} (a : Same H H1) : But p H H1 := fun q o _ h => a q o h
theorem Same.upd {p : Addr} {H : Hp} {o : HO} (n : H p = none) : Same H (upd H p o) := fun q o h => by rw [upd_ne (ne_of_none h n)]; exact h
theorem But.same {p : Addr} {H0 H H1 : Hp} (n : H0 p = none) (a : Same H0 H) (b : But p H H1) : Same H0 H1 := fun q o h => b q o (ne_of_none h n) (a q o h)
def spState : Sp := fun vs H Q _ => ∃ i : Int, vs = [.int i] ∧ ∀ p H', H p = none → Same H H' → StOk H' p → Q (.ref p) H'
def spDigit : Sp := fun vs H Q _ => ∃ (p : Addr) (n : Int), vs = [.ref p, .int n] ∧ StOk H p ∧ 0 < n ∧ n < 1073741824 ∧ ∀ (d : Int) H', 0 ≤ d → d < n → But p H H' → StOk H' p → Q (.int d) H'
structure TxB (mg : Str → Option Value) : Prop where
  abs : mg "abs" = none
  int : mg "int" = none
  len : mg "len" = none
  range : mg "range" = none
  all : mg "all" = none
  tuple : mg "tuple" = none
  enumerate : mg "enumerate" = none
  isinstance : mg "isinstance" = none
  ve : mg "ValueError" = none
section
variable {P : Program} {w : World} {K : PySem.W.Frag} {mg : Str → Option Value} {base : Heap}
theorem scState : FnScope ["_law_cell"] ["_law_cell"] (defScope sState) := ⟨rfl, rfl, rfl, by decide +kernel, rfl, by decide +kernel, by decide +kernel⟩
theorem ok_state {f : Addr} {fd : FuncData} (F : Fun K "_law_state" "_law_state" sState f fd) (T : TxB mg) : FnOk P w K mg base CX0 1 f fd ["_law_cell"] spState := by
  refine F.ok scState (fun vs H Q E h => ?_) (fun cdv A outer s H vs Q E hr h => ?_)
  · obtain ⟨i, rfl, _⟩ := h
    rfl
  · obtain ⟨i, rfl, k⟩ := h
    refine ⟨_, pss_cons (ps_set (i := 0) scState.nd rfl (Or.inl rfl) (pe_callB call_abs (by rfl) T.abs (by decide +kernel) (pa_cons (pv 0) pa_nil)))
      (pss_one (ps_ret (pe_lst (pa_cons (pe_op op_mul (pv 0) (pe_callTy call_int1 (by rfl) T.int (by decide +kernel) (pa_cons (pe_cmpR op_ge (pv 0) (pe_op op_pow pe_int pe_int) (nomark _)) pa_nil)))
        (pa_cons (pe_op op_add (pe_op op_mod (pv 0) pe_int) pe_int) (pa_cons (pe_op op_mod (pv 0) pe_int) pa_nil)))))), ?_⟩
    refine ⟨_, rfl, _, rfl, ?_⟩
    generalize hj : (if i < 0 then -i else i) = j
    have hj0 : 0 ≤ j := by rw [← hj]; split <;> omega
    refine ⟨_, rfl, _, rfl, _, _, rfl, rfl, ⟨by decide, by decide, by decide⟩, _, _, rfl, rfl, .inr ⟨_, rfl, ?_⟩⟩
    refine ⟨_, _, rfl, rfl, .inr ⟨?_, ?_⟩, _, rfl, _, _, rfl, rfl, (by show (0 : Int) < 2147483629; decide), _, _, rfl, rfl, _, rfl, _, _, rfl, rfl, (by show (0 : Int) < 2147483587; decide), (by show 3 ≤ sizeLine; decide), fun p hp => ?_⟩
    · split <;> decide
    · split <;> decide
    · refine k p _ hp (Same.upd hp) ⟨_, _, _, upd_same, ?_, ?_, ?_, ?_, ?_⟩
      · split
        · omega
        · omega
      · have := Int.emod_nonneg j (show (2147483629 : Int) ≠ 0 by decide); omega
      · have := Int.emod_lt_of_pos j (show (0 : Int) < 2147483629 by decide); omega
      · exact Int.emod_nonneg j (by decide)
      · have := Int.emod_lt_of_pos j (show (0 : Int) < 2147483587 by decide); omega
theorem scDigit : FnScope ["_law_state_here", "_law_base", "_law_found_here", "_law_more"] ["_law_state_here", "_law_base"] (defScope sDigit) := ⟨rfl, rfl, rfl, by decide +kernel, rfl, by decide +kernel, by decide +kernel⟩
theorem ok_digit {f : Addr} {fd : FuncData} (F : Fun K "_law_digit" "_law_digit" sDigit f fd) : FnOk P w K mg base CX0 1 f fd ["_law_state_here", "_law_base"] spDigit := by
  refine F.ok scDigit (fun vs H Q E h => ?_) (fun cdv A outer s H vs Q E hr h => ?_)
  · obtain ⟨p, n, rfl, _⟩ := h
    rfl
  · obtain ⟨p, n, rfl, ⟨a, b, c, hp, ha, hb, hb2, hc, hc2⟩, hn, hn2, k⟩ := h
    refine ⟨_, pss_cons (ps_if (pt_cmpR op_gt (pe_ix ix_list (pv 0) pe_int (fun _ _ => rfl)) pe_int (nomark _))
        (pss_cons (ps_set (i := 2) scDigit.nd rfl (Or.inl rfl) (pe_op op_mod (pe_ix ix_list (pv 0) pe_int (fun _ _ => rfl)) (pv 1)))
          (pss_cons (ps_asg (pe_op op_fdiv (pe_ix ix_list (pv 0) pe_int (fun _ _ => rfl)) (pv 1)) (pg_sub (pv 0) pe_int set_list)) (pss_one (ps_ret (pv 2))))) pss_nil)
      (pss_cons (ps_set (i := 3) scDigit.nd rfl (Or.inl rfl) (pe_op op_mul (pe_ix ix_list (pv 0) pe_int (fun _ _ => rfl)) (pe_op op_add (pe_op op_fdiv (pe_ix ix_list (pv 0) pe_int (fun _ _ => rfl)) pe_int) pe_int)))
      (pss_cons (ps_asg (pe_op op_add (pe_op op_mod (pe_op op_add (pv 3) (pe_ix ix_list (pv 0) pe_int (fun _ _ => rfl))) pe_int) pe_int) (pg_sub (pv 0) pe_int set_list))
      (pss_one (ps_ret (pe_op op_mod (pe_op op_fdiv (pe_ix ix_list (pv 0) pe_int (fun _ _ => rfl)) pe_int) (pv 1)))))), ?_⟩
    refine ⟨_, rfl, p, _, _, _, rfl, rfl, SqL.of hp, atI_nat (j := 0) rfl, _, _, rfl, rfl, _, rfl, ?_⟩
    refine ite2 (fun h0 => ?_) (fun h0 => ?_)
    · refine ⟨_, rfl, p, _, _, _, rfl, rfl, SqL.of hp, atI_nat (j := 0) rfl, _, rfl, _, _, rfl, rfl, hn, ?_⟩
      refine ⟨_, rfl, p, _, _, _, rfl, rfl, SqL.of hp, atI_nat (j := 0) rfl, _, rfl, _, _, rfl, rfl, ⟨hn, hn2⟩, _, rfl, p, _, _, 0, rfl, rfl, hp, rfl, _, rfl, ?_⟩
      refine k _ _ (Int.emod_nonneg a (by omega)) (Int.emod_lt_of_pos a hn) But.upd ⟨_, _, _, upd_same, ?_, hb, hb2, hc, hc2⟩
      exact Int.ediv_nonneg ha (by omega)
    · refine ⟨_, rfl, p, _, _, _, rfl, rfl, SqL.of hp, atI_nat (j := 1) rfl, _, rfl, p, _, _, _, rfl, rfl, SqL.of hp, atI_nat (j := 1) rfl, _, _, rfl, rfl, ⟨by decide, by decide⟩, _, _, rfl, rfl, _, _, rfl, rfl, .inl ⟨?_, ?_⟩, ?_⟩
      · omega
      · omega
      refine ⟨_, rfl, _, rfl, p, _, _, _, rfl, rfl, SqL.of hp, atI_nat (j := 2) rfl, _, _, rfl, rfl, _, _, rfl, rfl, (by show (0 : Int) < 2147483629; decide), _, _, rfl, rfl, _, rfl, p, _, _, 1, rfl, rfl, hp, rfl, ?_⟩
      generalize hm : (b * (b / 1009 + 69621) + c) % 2147483629 = m
      have hm0 : 0 ≤ m := by rw [← hm]; exact Int.emod_nonneg _ (by decide)
      have hm1 : m < 2147483629 := by rw [← hm]; exact Int.emod_lt_of_pos _ (by decide)
      refine ⟨_, rfl, p, _, _, _, rfl, rfl, SqL.of upd_same, atI_nat (j := 1) rfl, _, _, rfl, rfl, ⟨by decide, by decide⟩, _, rfl, _, _, rfl, rfl, hn, ?_⟩
      exact k _ _ (Int.emod_nonneg _ (by omega)) (Int.emod_lt_of_pos _ hn) But.upd ⟨_, _, _, upd_same, ha, by omega, by omega, hc, hc2⟩
end
end Wm
namespace Wm
open PySem L2
/-- a def of the module's top -/
structure Dn (K : PySem.W.Frag) (mg : Str → Option Value) (x : Str) (st : Stmt) (ps : List Str) (f : Addr) (fd : FuncData) : Prop where
  F : Fun K x x st f fd
  g : mg x = some (.ref f)
  b : Binds K fd ps []
theorem str_at (z : Str) {i : Int} (h0 : 0 ≤ i) (h1 : i < z.length) : ∃ c, z.cps[i.toNat]? = some c := by
  have h : i.toNat < z.cps.size := by
    have e : z.length = z.cps.size := rfl
    omega
  exact ⟨z.cps[i.toNat], Array.getElem?_eq_getElem h⟩
/-- every sign is one of unicode's -/
def okS (z : Str) : Prop := ∀ c ∈ z.cps.toList, c < 1114112
theorem okS_one {c : Nat} (h : c < 1114112) : okS ⟨#[c]⟩ := fun d hd => by
  have e : d = c := by simpa using hd
  rw [e]
  exact h
theorem okS_app {a b : Str} (ha : okS a) (hb : okS b) : okS (a ++ b) := fun c hc => by
  have e : (a ++ b).cps.toList = a.cps.toList ++ b.cps.toList := by
    show (a.cps ++ b.cps).toList = _
    simp
  rw [e] at hc
  rcases List.mem_append.mp hc with h | h
  · exact ha c h
  · exact hb c h
theorem rdItem {z : Str} {i : Int} {n : Nat} {H : Hp} {Q : VK} (hz : z.length = n) (h0 : 0 ≤ i) (h1 : i < n) (hn : n < 1000000) (h : ∀ c, z.cps.toList[i.toNat]? = some c → Q (.str ⟨#[c]⟩) H) : rIxS (.str z) (.int i) H Q := by
  have h2 : i < z.length := by rw [hz]; exact h1
  obtain ⟨c, hc⟩ := str_at z h0 h2
  have hl : z.cps.toList[i.toNat]? = some c := by simpa using hc
  have e : i = ((i.toNat : Nat) : Int) := by omega
  refine ⟨z, i, c, rfl, rfl, by rw [hz]; exact Nat.le_trans (Nat.le_of_lt hn) (by decide), ?_, h c hl⟩
  rw [e]
  exact atI_nat hl
theorem abcOk : ∀ c ∈ (PySem.Str.ofString "abcdefghijklmnopqrstuvwxyz0123456789").cps.toList, c < 1114112 := by decide +kernel
theorem abc36 : (PySem.Str.ofString "abcdefghijklmnopqrstuvwxyz0123456789").length = 36 := by decide +kernel
theorem len_app (a b : Str) : (a ++ b).length = a.length + b.length := by
  show (a.cps ++ b.cps).size = a.cps.size + b.cps.size
  exact Array.size_append
theorem len_one (c : Nat) : (⟨#[c]⟩ : Str).length = 1 := rfl
def spSign : Sp := fun vs H Q _ => ∃ i : Int, vs = [.int i] ∧ ∀ c, c < 1114112 → Q (.str ⟨#[c]⟩) H
def spPlain : Sp := fun vs H Q _ => ∃ (p : Addr) (n : Int), vs = [.ref p, .int n] ∧ StOk H p ∧ 1 ≤ n ∧ n ≤ 15 ∧ ∀ (z : Str) H', z.length ≤ 15 → okS z → But p H H' → StOk H' p → Q (.str z) H'
def spText : Sp := fun vs H Q _ => ∃ (p : Addr), vs = [.ref p] ∧ StOk H p ∧ ∀ (z : Str) H', z.length ≤ 40 → okS z → But p H H' → StOk H' p → Q (.str z) H'
section
variable {P : Program} {w : World} {K : PySem.W.Frag} {mg : Str → Option Value} {base : Heap}
end
end Wm
namespace Wm
open PySem L2
theorem strs_at {zs : List Str} {n : Nat} (h : ∀ z ∈ zs, z.length ≤ n) (ho : ∀ z ∈ zs, ∀ c ∈ z.cps.toList, c < 1114112) {j : Nat} (hj : j < zs.length) : ∃ z, (zs.map V.str)[j]? = some (.str z) ∧ z.length ≤ n ∧ okS z :=
  ⟨zs[j], by simp [hj], h _ (List.getElem_mem hj), ho _ (List.getElem_mem hj)⟩
theorem okS_cut {z : Str} (h : okS z) (lo hi : Option Int) : okS (cutS z lo hi) := fun c hc => by
  have hc' : c ∈ (z.cps.toList.drop (HT.sIx z.length 0 lo)).take (HT.sIx z.length z.length hi - HT.sIx z.length 0 lo) := hc
  exact h c (List.mem_of_mem_drop (List.mem_of_mem_take hc'))
theorem okS_join {a : Str} {ys : List Str} (ha : okS a) (h : ∀ y ∈ ys, okS y) : okS (Txt.join a ys) := by
  have e : Txt.join a ys = Str.join a ys := StrLaws.glued_eq_join a ys
  rw [e]
  clear e
  induction ys with
  | nil => exact fun c hc => (List.not_mem_nil (show c ∈ ([] : List Nat) from hc)).elim
  | cons y r ih =>
    cases r with
    | nil => exact h y List.mem_cons_self
    | cons z r =>
      show okS (y ++ a ++ Str.join a (z :: r))
      exact okS_app (okS_app (h y List.mem_cons_self) ha) (ih fun x hx => h x (List.mem_cons_of_mem _ hx))
theorem rdList {K : PySem.W.Frag} {p : Addr} {xs : List V} {i : Int} {j : Nat} {v : V} {H : Hp} {Q : VK} (hp : H p = some (.lst xs)) (e : i = (j : Int)) (hv : xs[j]? = some v) (h : Q v H) : rIxL K (.ref p) (.int i) H Q :=
  ⟨p, xs, i, v, rfl, rfl, SqL.of hp, at_of e hv, h⟩
theorem But.free {p D : Addr} {H H' : Hp} (b : But p H H') (n : D ≠ p) (h : H' D = none) : H D = none := by
  cases e : H D with
  | none => rfl
  | some o =>
    rw [b D o n e] at h
    cases h
theorem sum_ones : ∀ {ys : List Str}, (∀ y ∈ ys, y.length = 1) → (ys.map (·.length)).sum = ys.length
  | [], _ => rfl
  | y :: ys, h => by
    rw [List.map_cons, List.sum_cons, List.length_cons, h y List.mem_cons_self, sum_ones fun z hz => h z (List.mem_cons_of_mem _ hz)]
    omega
theorem join_len (a : Str) (ys : List Str) : (Txt.join a ys).length ≤ (ys.map (·.length)).sum + ys.length * a.length := by
  show (Builtin.Str.glued a ys).length ≤ _
  rw [StrLaws.glued_eq_join]
  exact StrLaws.join_length_le a ys
section
variable {P : Program} {w : World} {K : PySem.W.Frag} {mg : Str → Option Value} {base : Heap}
end
end Wm
namespace Wm
open PySem PySem.Spec PyProof.Rows L2 ClX
section
variable {X : Cx} {CX : CXT} {k : Nat} {C f : Addr} {fd : FuncData} {ps : List Str} {sp : Sp} {E : XK} {e : Expr} {es : List Expr} {t : TA} {x m : Str} {p1 p2 pos : Pos} {ds : List Value} {dvs : List V}
/-- C.f(e, ..), f a def of the class C -/
theorem pe_clsFn {pl : Sem Bool} {mc : Value} (hg : Gl X x) (hm : X.mg x = some (.ref C)) (r : CRead X.K C mc) (ht : PySem.W.findCls X.K (.ref C) mc m = some (.val (.ref f))) (hk : PySem.W.keepIn X.K (.ref f) = true) (F : FnOk X.prog X.w X.K X.mg X.base CX k f fd ps sp)
    (hr : Room k X.A) (hb : Binds X.K fd ps ds) (hd : Vals dvs ds) (hx : Passes CX X E) (ha : PA X (e :: es) t)
    (hc : eval (.Call (.Attribute (.Name x p1) m p2) (e :: es) [] pos) X.env = (do
      let ov ← eval (.Name x p1) X.env
      standAt p2.atName
      let (f, first) ← holding [ov] (getMethod ov m pl)
      callWith pos f first (backTo pos (starEach (e :: es) X.env)) (backToKw pos (keywordEach [] X.env))) := by rfl)
    (hdb : (x == ("__debug__" : Str)) = false := by decide) (he : starEach (e :: es) X.env = (false, eval e X.env) :: starEach es X.env := by rfl) (hpl : (backTo pos (starEach es X.env)).any (·.1) = false := by rfl) :
    PE X (.Call (.Attribute (.Name x p1) m p2) (e :: es) [] pos) (tCall sp dvs E t) := by
  refine ⟨fun pins s σ H Q I h => ?_⟩
  refine PySem.W.methodCall_KW (ld_glob I hg hm ?_ hdb) hc
  refine PySem.W.method_cls I.kIn r.ga (PySem.W.cls_value I.kIn r.rd ht rfl ?_)
  show wpAny _ _ (callWith pos (Value.ref f) [] (backTo pos (starEach (e :: es) X.env)) []) _ _ _
  refine PySem.W.callWith_K (h₀ := X.base) I.ok.mod.kin hk (thn (ha.run pos pins _ σ H _ (I.tok _) h) fun us s1 ⟨vs, H1, I1, r1, q⟩ => ⟨I1.kIn, ?_⟩) he hpl
  exact run_fn F hr hb hd hx I1 r1 q
/-- xs + ys, both to be read -/
def rCatR (K : PySem.W.Frag) : R2 := fun x y H Q => ∃ l b xs zs, x = .ref l ∧ y = .ref b ∧ SqL K H l xs ∧ SqL K H b zs ∧ xs.length + zs.length ≤ sizeLine ∧ ∀ p, H p = none → Q (.ref p) (upd H p (.lst (xs ++ zs)))
theorem op_catR : OpR X (binaryOp .Add) (rCatR X.K) := by
  intro pins s σ H x y v u Q I rx ry h
  obtain ⟨l, b, xs, zs, rfl, rfl, hH, hB, hz, q⟩ := h
  cases rx
  cases ry
  obtain ⟨its, r, e, hl⟩ := I.list hH
  obtain ⟨its2, r2, e2, hl2⟩ := I.list hB
  have l1 := r.length
  have l2 := r2.length
  obtain ⟨⟨cls, dd, data, sl⟩, ho, hc, n, hd⟩ := e.isList
  obtain ⟨⟨cls2, dd2, data2, sl2⟩, ho2, hc2, n2, hd2⟩ := e2.isList
  simp only at hc hd hc2 hd2
  subst hc hd hc2 hd2
  refine concat_meets ⟨_, ho, rfl⟩ ⟨_, ho2, rfl⟩ noFill_list_add seq_list_add PySem.F.slot_list_add PySem.F.entry_list_add (PySem.F.args_list_add_2 _ _) (list_addW l b its.toArray its2.toArray n n2 dd dd2 sl sl2 (by rw [List.size_toArray, List.size_toArray]; omega)) ⟨ho, ho2, ?_⟩
  have ea : its.toArray ++ its2.toArray = (its ++ its2).toArray := by simp
  rw [ea]
  exact ⟨.ref _, _, I.lnew (t' := s.toks) (r.append r2) (by rw [List.length_append]; omega), rfl, q _ I.fresh⟩
end
end Wm
namespace Wm
open PySem PySem.Spec PyProof.Rows L2 ClX
/-- isinstance(e, c) in an except suite, e the exception that it holds (its class D, its dict at dd) -/
def rIsX (K : PySem.W.Frag) (D a dd : Addr) : List V → Hp → VK → Prop := fun xs H Q => ∃ (c : V) (cv : Value) (b : Bool) (fs : List (Str × V)), xs = [.ref a, c] ∧ H dd = some (.xd fs) ∧ (∀ u, RelV c u → u = cv) ∧ PySem.W.kitOne K (.ref D) cv = some b ∧ Q (.bl b) H
theorem call_isX {X : Cx} {a D dd : Addr} {oe : Obj} {pn : List (Addr × Obj)} (C : ExcC X.K D) (hz : Zc (.ref D) (some dd) oe) (hf : ∃ vs, oe.data = .fields vs) : CallR (X.suite a ((a, oe) :: pn)) (.builtin "isinstance") (rIsX X.K D a dd) := by
  intro pins s σ H xs us Q I r h
  obtain ⟨c, cv, b, fs, rfl, hdd, hcv, e, q⟩ := h
  cases r with
  | cons rx rr =>
    cases rr with
    | cons rt rr =>
      cases rr
      cases rx
      have ec := hcv _ rt
      subst ec
      obtain ⟨hget, _⟩ := I.pin (a, oe) (List.mem_append.mpr (.inl List.mem_cons_self))
      obtain ⟨vs, hv⟩ := hf
      have hx : ObjOk X.prog X.w H s.heap dd (.xd fs) := I.hok dd _ hdd
      obtain ⟨mA, hns, hr⟩ := hx
      obtain ⟨od, ho, hl⟩ := lookIn_ns hns
      have J : PySem.W.InstAt s.heap a oe D (some od) := ⟨hget, hz.1, by unfold PySem.W.notCls; rw [hv] <;> rfl, by rw [hz.2]; exact ho⟩
      have hcl : (PySem.W.clsIn X.K D).isSome = true := by
        obtain ⟨cd, hc, _⟩ := PySem.W.any_some C.hd
        rw [hc]
        rfl
      exact PySem.W.kia_one (PySem.W.kitx_exc hcl C.hg C.hk C.hs C.ha C.hn C.ht C.hm) I.kIn J e (fun z => nomatch z) fun tk => ⟨.bl b, H, I.kept (t' := tk) fun _ _ z => z, rfl, q⟩
/-! ### errors of one field -/
def spWI (K : PySem.W.Frag) : Sp := fun vs H Q _ => ∃ (a C : Addr) (v : V), vs = [.ref a, v] ∧ OexC K C ∧ PySem.W.findIn K (.ref C) "kind" = some none ∧ H a = some (exo a C none) ∧ ∀ dx, H dx = none → dx ≠ a → Q .non (upd (upd H dx (exd dx [("kind", v)])) a (exo a C (some dx)))
/-- the dict of an error of one field -/
def ef1 (f kd : Str) (v : V) : List (Str × V) := [(f, v), ("kind", .str kd)]
def spE1 (C : Addr) (f kd : Str) : Sp := fun vs H Q _ => ∃ (a : Addr) (v : V), vs = [.ref a, v] ∧ H a = some (exo a C none) ∧ ∀ dx H', H dx = none → dx ≠ a → (∀ b o, b ≠ a → H b = some o → H' b = some o) → H' a = some (exo a C (some dx)) → H' dx = some (exd dx (ef1 f kd v)) → Q .non H'
/-- what is known of WhoError -/
structure WhoT (K : PySem.W.Frag) (mg : Str → Option Value) (W f0 : Addr) (fd0 : FuncData) : Prop where
  g : mg "WhoError" = some (.ref W)
  r : CRead K W (.type "type")
  m : PySem.W.findCls K (.ref W) (.type "type") "__init__" = some (.val (.ref f0))
  k : PySem.W.keepIn K (.ref f0) = true
  b : Binds K fd0 ["self", "kind"] []
/-- what is known of an error class of one field -/
structure ErrT (K : PySem.W.Frag) (mg : Str → Option Value) (x f : Str) (C fI : Addr) : Prop where
  o : OexC K C
  g : mg x = some (.ref C)
  iC : PySem.W.findIn K (.ref C) "__init__" = some (some (.ref fI))
  tI : PySem.W.typeIn K (.ref fI) = some (.type "function")
  nk : PySem.W.findIn K (.ref C) "kind" = some none
  nf : PySem.W.findIn K (.ref C) f = some none
end Wm
namespace Wm
open PySem L2
section
variable {P : Program} {w : World} {K : PySem.W.Frag} {mg : Str → Option Value} {base : Heap}
theorem scW0 : FnScope ["self", "kind"] ["self", "kind"] (defScope sW0) := ⟨rfl, rfl, rfl, by decide +kernel, rfl, by decide +kernel, by decide +kernel⟩
theorem ok_who {f : Addr} {fd : FuncData} {dvs : List V} (F : FunD K "__init__" "WhoError.__init__" (defArgs sW0) (defBody sW0) (defScope sW0) dvs [] f fd) : FnOk P w K mg base CX0 1 f fd ["self", "kind"] (spWI K) := by
  refine F.ok scW0 (fun vs H Q E h => ?_) (fun cdv A outer s H vs Q E hr h => ?_)
  · obtain ⟨a, C, v, rfl, _⟩ := h
    rfl
  · obtain ⟨a, C, v, rfl, o, nk, ha, k⟩ := h
    refine ⟨_, pss_one (ps_ost (pv 0) (pv 1)), ?_⟩
    exact ⟨_, rfl, _, rfl, a, C, rfl, o, nk, .inl ⟨ha, fun dx n ne => k dx n ne⟩⟩
theorem scN0 : FnScope ["self", "name"] ["self", "name"] (defScope sN0) := ⟨rfl, rfl, rfl, by decide +kernel, rfl, by decide +kernel, by decide +kernel⟩
theorem ok_noname {f C f0 W : Addr} {fd fd0 : FuncData} (F : Fun K "__init__" "NoName.__init__" sN0 f fd) (T : ErrT K mg "NoName" "name" C f) (TW : WhoT K mg W f0 fd0) (G0 : FnOk P w K mg base CX0 1 f0 fd0 ["self", "kind"] (spWI K)) :
    FnOk P w K mg base CX0 2 f fd ["self", "name"] (spE1 C "name" "noname") := by
  refine F.ok scN0 (fun vs H Q E h => ?_) (fun cdv A outer s H vs Q E hr h => ?_)
  · obtain ⟨a, v, rfl, _⟩ := h
    rfl
  · obtain ⟨a, v, rfl, ha, k⟩ := h
    refine ⟨_, pss_cons (ps_expr (pe_clsFn rfl TW.g TW.r TW.m TW.k G0 hr TW.b .nil pass0 (pa_cons (pv 0) (pa_cons pe_str pa_nil)))) (pss_one (ps_ost (pv 0) (pv 1))), ?_⟩
    refine ⟨_, rfl, a, C, _, rfl, T.o, T.nk, ha, fun dx n ne => ?_⟩
    refine ⟨_, rfl, _, rfl, a, C, rfl, T.o, T.nf, .inr ⟨dx, _, upd_same, Eq.trans (upd_ne ne) upd_same, by decide, ?_⟩⟩
    refine k dx _ n ne (fun b o nb e => ?_) ?_ upd_same
    · have nd : b ≠ dx := ne_of_none e n
      rw [upd_ne nd, upd_ne nb, upd_ne nd]
      exact e
    · rw [upd_ne ne.symm, upd_same]
end
end Wm
namespace Wm
open PySem L2
/-! ### names -/
def LET : List Nat := (PySem.Str.ofString "abcdefghijklmnopqrstuvwxyz").cps.toList
def FIG : List Nat := (PySem.Str.ofString "0123456789").cps.toList
def okc (c : Nat) : Bool := decide (c ∈ LET) || decide (c ∈ FIG)
def first (l : List Nat) : Bool := match l with
  | [] => false
  | c :: _ => decide (c ∈ LET)
def isNm (z : Str) : Bool := decide (1 ≤ z.length) && (decide (z.length ≤ 12) && (first z.cps.toList && z.cps.toList.all okc))
theorem alnum : (PySem.Str.ofString "abcdefghijklmnopqrstuvwxyz0123456789").cps.toList = LET ++ FIG := by decide +kernel
theorem let_fig : ∀ c ∈ LET, ¬ c ∈ FIG := by decide +kernel
theorem okc_alnum (c : Nat) : decide (c ∈ (PySem.Str.ofString "abcdefghijklmnopqrstuvwxyz0123456789").cps.toList) = okc c := by
  rw [alnum]
  unfold okc
  by_cases h : c ∈ LET <;> by_cases h2 : c ∈ FIG <;> simp [h, h2]
theorem len_eq (z : Str) : z.length = z.cps.toList.length := by
  show z.cps.size = _
  simp
theorem isNm_small {z : Str} (h : z.length < 1 ∨ 12 < z.length) : isNm z = false := by
  unfold isNm
  rcases h with h | h
  · rw [decide_eq_false (by omega)]
    rfl
  · rw [decide_eq_false (p := z.length ≤ 12) (by omega)]
    simp
theorem isNm_first {z : Str} {c : Nat} (h1 : z.cps.toList[0]? = some c) (hc : ¬ c ∈ LET) : isNm z = false := by
  unfold isNm
  have e : first z.cps.toList = false := by
    cases q : z.cps.toList with
    | nil => rfl
    | cons d r =>
      rw [q] at h1
      have e : d = c := Option.some.inj h1
      rw [e]
      exact decide_eq_false hc
  rw [e]
  simp
theorem isNm_all {z : Str} {c : Nat} (h0 : ¬ z.length < 1) (h12 : ¬ 12 < z.length) (h1 : z.cps.toList[0]? = some c) (hc : c ∈ LET) : isNm z = z.cps.toList.all okc := by
  unfold isNm
  have e : first z.cps.toList = true := by
    cases q : z.cps.toList with
    | nil =>
      rw [q] at h1
      cases h1
    | cons d r =>
      rw [q] at h1
      have e : d = c := Option.some.inj h1
      rw [e]
      exact decide_eq_true hc
  rw [e, decide_eq_true (by omega), decide_eq_true (by omega)]
  rfl
theorem isNm_fig {z : Str} {c : Nat} (h1 : z.cps.toList[0]? = some c) (hc : c ∈ FIG) : isNm z = false := isNm_first h1 fun h => let_fig c h hc
theorem isNm_all2 {z : Str} {c : Nat} (h0 : ¬ z.length < 1) (h12 : ¬ 12 < z.length) (h1 : z.cps.toList[0]? = some c) (hc : ¬ c ∈ FIG) : isNm z = z.cps.toList.all okc := by
  by_cases h : c ∈ LET
  · exact isNm_all h0 h12 h1 h
  · rw [isNm_first h1 h]
    have hm : c ∈ z.cps.toList := List.mem_of_getElem? h1
    have e : okc c = false := by
      unfold okc
      rw [decide_eq_false h, decide_eq_false hc]
      rfl
    symm
    rw [List.all_eq_false]
    exact ⟨c, hm, by rw [e]; decide⟩
theorem all_map {l : List Nat} {f : Nat → Bool} : (l.map f).all id = l.all f := by
  induction l with
  | nil => rfl
  | cons a r ih => rw [List.map_cons, List.all_cons, List.all_cons, ih]; rfl
def spName : Sp := fun vs H Q _ => ∃ z : Str, vs = [.str z] ∧ z.length ≤ 1000 ∧ ∀ H', Same H H' → Q (.bl (isNm z)) H'
/-- the constants of names.py -/
structure TxN (mg : Str → Option Value) : Prop where
  lets : ∃ t, mg "LETTERS" = some (.str (PySem.Str.ofString "abcdefghijklmnopqrstuvwxyz") t)
  figs : ∃ t, mg "FIGURES" = some (.str (PySem.Str.ofString "0123456789") t)
  long : ∃ t, mg "LONGEST_NAME" = some (.int 12 t)
/-- the reading of [f(sign) for sign in text] -/
theorem lc_signs {z : Str} {f : Nat → Bool} {g : TG} {te : TE} {vs : List Nat} {σ : St} {H1 : Hp} {D : Addr} {Qd : Hp → Prop} (hz : z.length ≤ 1000) (hD : H1 D = none)
    (he : ∀ (c : Nat) (H : Hp) (Q : St → Hp → Prop), (∀ σ2, wipe σ2 vs = wipe σ vs → (∀ Q2 : VK, Q2 (.bl (f c)) H → te σ2 H Q2) → Q σ2 H) → g (.str ⟨#[c]⟩) (wipe σ vs) H Q)
    (hd : ∀ H, Same H1 H → H D = some (.lst ((z.cps.toList.map f).map V.bl)) → Qd H) :
    ∃ W : Nat → Nat → Hp → Prop, (∃ m, W 0 m (upd H1 D (.lst []))) ∧ ∀ i m H, W i m H →
      ((Its z).stop i H ∧ Qd H) ∨ ((Its z).go i H ∧ ∃ Nx : Hp → Prop, (∀ H', Nx H' → ∃ m', m' < m ∧ W (i + 1) m' H') ∧ ∀ x H', (Its z).yld i H x H' → g x (wipe σ vs) H' fun σ2 H2 => wipe σ2 vs = wipe σ vs ∧ tYes σ2 H2 fun b H3 =>
        if b = true then te σ2 H3 fun y H4 => ∃ acc, H4 D = some (.lst acc) ∧ acc.length < sizeLine ∧ Nx (upd H4 D (.lst (acc ++ [y]))) else Nx H3) := by
  refine lc_it (walk_str (z := z)) (fun i H' => Same H1 H' ∧ H' D = some (.lst (((z.cps.toList.take i).map f).map V.bl))) ⟨Same.upd hD, upd_same⟩ (fun _ _ _ _ => True.intro) ?_ ?_
  · rintro i x H H' hi ⟨hS, hl⟩ ⟨rfl, c, hc, rfl⟩
    refine he c H' _ fun σ2 hw hq => ⟨hw, hq _ ?_⟩
    refine ⟨_, hl, ?_, ?_, ?_⟩
    · rw [List.length_map, List.length_map, List.length_take]
      have e := len_eq z
      exact Nat.lt_of_le_of_lt (show _ ≤ 1000 by omega) (by decide)
    · intro b o h
      have nb : b ≠ D := ne_of_none h hD
      rw [upd_ne nb]
      exact hS b o h
    · rw [upd_same]
      have e : z.cps.toList[i]? = some c := by simpa using hc
      have hlt : i < z.cps.toList.length := (List.getElem?_eq_some_iff.mp e).1
      rw [List.take_add_one, e, List.map_append, List.map_append]
      rfl
  · rintro H ⟨hS, hl⟩
    refine hd H hS ?_
    rw [hl, List.take_of_length_le (by simp)]
section
variable {P : Program} {w : World} {K : PySem.W.Frag} {mg : Str → Option Value} {base : Heap}
theorem scName : FnScope ["text", "sign"] ["text"] (defScope sName) := ⟨rfl, rfl, rfl, by decide +kernel, rfl, by decide +kernel, by decide +kernel⟩
theorem ok_name {f : Addr} {fd : FuncData} (F : Fun K "is_name" "is_name" sName f fd) (T : TxB mg) (TN : TxN mg) : FnOk P w K mg base CX0 1 f fd ["text"] spName := by
  obtain ⟨t1, hlet⟩ := TN.lets
  obtain ⟨t2, hfig⟩ := TN.figs
  obtain ⟨t3, hlong⟩ := TN.long
  refine F.ok scName (fun vs H Q E h => ?_) (fun cdv A outer s H vs Q E hr h => ?_)
  · obtain ⟨z, rfl, _⟩ := h
    rfl
  · obtain ⟨z, rfl, hz, k⟩ := h
    have hzl : z.length ≤ sizeLine := Nat.le_trans hz (by decide)
    refine ⟨_, (pss_cons (ps_if (PW.pt (pw_or (pt_cmpR op_lt (pe_callB call_len_str (by rfl) T.len (by decide +kernel) (pa_cons (pv 0) pa_nil)) pe_int (nomark _)) (pw_or1 (pt_cmpR op_gt (pe_callB call_len_str (by rfl) T.len (by decide +kernel) (pa_cons (pv 0) pa_nil)) (pe_glob (v := .int 12) (by rfl) hlong ⟨_, rfl⟩) (nomark _))))) (pss_one (ps_ret pe_bl)) pss_nil)
      (pss_cons (ps_if (pt_cmpR op_notIn_sign (pe_ix ix_str (pv 0) pe_int (fun _ _ => rfl)) (pe_glob (v := .str (PySem.Str.ofString "abcdefghijklmnopqrstuvwxyz")) (by rfl) hlet ⟨_, rfl⟩) (by rfl)) (pss_one (ps_ret pe_bl)) pss_nil)
      (pss_one (ps_ret (pe_callB (cr_all rfl) (by rfl) T.all (by decide +kernel) (pa_cons (pe_lc (own := [("sign", 1)]) (g := gName 1) rfl scName.nd (pi_str (pv 0)) (blkOk_by (N := ["text", "sign"]) (sc := defScope sName) (by decide +kernel)) (fun _ _ _ _ _ => (pg_name (i := 1) scName.nd rfl (Or.inl rfl))) (fun _ _ _ _ _ => pts_nil) (fun _ _ _ _ _ => (pe_or (pe_cmpR op_in_sign (pv 1) (pe_glob (v := .str (PySem.Str.ofString "abcdefghijklmnopqrstuvwxyz")) (by rfl) hlet ⟨_, rfl⟩) (by rfl)) (pe_one (pe_cmpR op_in_sign (pv 1) (pe_glob (v := .str (PySem.Str.ofString "0123456789")) (by rfl) hfig ⟨_, rfl⟩) (by rfl)))))) pa_nil)))))), ?_⟩
    refine ⟨_, rfl, z, rfl, hzl, _, _, rfl, rfl, _, rfl, ?_⟩
    refine ite2 (fun h1 => ?_) (fun h1 => ?_)
    · have h1' : (z.length : Int) < 1 := of_decide_eq_true h1
      refine iteT ?_
      have e : isNm z = false := isNm_small (.inl (by omega))
      have q := k H (Same.refl H)
      rw [e] at q
      exact q
    refine ⟨_, rfl, z, rfl, hzl, _, _, rfl, rfl, _, rfl, ?_⟩
    refine ite2 (fun h2 => ?_) (fun h2 => ?_)
    · have h2' : (12 : Int) < z.length := of_decide_eq_true h2
      have e : isNm z = false := isNm_small (.inr (by omega))
      have q := k H (Same.refl H)
      rw [e] at q
      exact q
    have h1' : ¬ z.length < 1 := fun x => h1 (decide_eq_true (by omega))
    have h2' : ¬ 12 < z.length := fun x => h2 (decide_eq_true (by omega))
    refine ⟨_, rfl, ?_⟩
    dsimp only [tC]
    refine rdItem (n := z.length) rfl (by decide) (by omega) (by omega) fun c hc => ?_
    refine ⟨c, _, rfl, rfl, _, rfl, ?_⟩
    refine ite2 (fun h3 => ?_) (fun h3 => ?_)
    · have h3' : ¬ c ∈ LET := fun x => by
        rw [show decide (c ∈ (PySem.Str.ofString "abcdefghijklmnopqrstuvwxyz").cps.toList) = true from decide_eq_true x] at h3
        cases h3
      have q := k H (Same.refl H)
      rw [isNm_first hc h3'] at q
      exact q
    have h3' : c ∈ LET := by
      by_cases x : c ∈ LET
      · exact x
      · rw [show decide (c ∈ (PySem.Str.ofString "abcdefghijklmnopqrstuvwxyz").cps.toList) = false from decide_eq_false x] at h3
        exact absurd rfl h3
    refine ⟨_, rfl, z, rfl, fun D hD => ?_⟩
    refine lc_signs (z := z) (f := okc) hz hD (fun c H Q q => ?_) fun H' hS hl => ?_
    · refine q _ rfl fun Q2 q2 => ?_
      refine ⟨_, rfl, c, _, rfl, rfl, _, rfl, ?_⟩
      unfold okc at q2
      refine ite2 (fun h => ?_) (fun h => ?_)
      · have h' : decide (c ∈ LET) = true := h
        rw [h'] at q2
        exact q2
      · have h' : decide (c ∈ LET) = false := Bool.eq_false_iff.mpr h
        rw [h'] at q2
        exact ⟨_, rfl, c, _, rfl, rfl, q2⟩
    · refine ⟨D, _, rfl, SqL.of hl, ?_⟩
      have q := k H' hS
      rw [isNm_all h1' h2' hc h3', ← all_map] at q
      exact q
end
end Wm
namespace Wm
open PySem L2
theorem mk1 {C : Addr} {f kd : Str} {v : V} {H : Hp} {Q : XK} (k : ∀ d H', H d = none → Same H H' → H' d = some (.xd (ef1 f kd v)) → Q (.ref C) (some d) H') :
    [v].length ≤ 1000 ∧ ∀ a, H a = none → spE1 C f kd (.ref a :: ([v] ++ [])) (upd H a (exo a C none)) (fun u H2 => u = .non ∧ ∃ (d : Addr) (fs : List (Str × V)), H2 a = some (exo a C (some d)) ∧ H2 d = some (exd d fs) ∧ H d = none ∧ Q (.ref C) (some d) (upd (del H2 a) d (.xd fs))) (fun _ _ _ => False) := by
  refine ⟨by show 1 ≤ 1000; decide, fun a na => ⟨a, v, rfl, upd_same, fun dx H' n ne kp ha hd => ⟨rfl, dx, _, ha, hd, ?_, ?_⟩⟩⟩
  · rw [upd_ne ne] at n
    exact n
  · rw [upd_ne ne] at n
    refine k dx _ n (fun b o e => ?_) upd_same
    have nb : b ≠ a := ne_of_none e na
    rw [upd_ne (ne_of_none e n), del_ne nb]
    exact kp b o nb (by rw [upd_ne nb]; exact e)
/-- what is due of the first text that is no name -/
def DueN (C : Addr) (zs : List Str) (H : Hp) (Q : VK) (E : XK) : Prop := match zs.find? (fun z => !isNm z) with
  | none => ∀ H', Same H H' → Q .non H'
  | some z => ∀ d H', H d = none → Same H H' → H' d = some (.xd (ef1 "name" "noname" (.str z))) → E (.ref C) (some d) H'
def spRN (K : PySem.W.Frag) (C : Addr) : Sp := fun vs H Q E => ∃ (l : Addr) (zs : List Str), vs = [.ref l] ∧ SqL K H l (zs.map V.str) ∧ zs.length ≤ 1000 ∧ (∀ z ∈ zs, z.length ≤ 1000) ∧ DueN C zs H Q E
theorem find_none_take {zs : List Str} {i : Nat} {z : Str} {p : Str → Bool} (h : ∀ y ∈ zs.take i, p y = false) (e : zs[i]? = some z) (hz : p z = true) : zs.find? p = some z := by
  have hlt : i < zs.length := (List.getElem?_eq_some_iff.mp e).1
  have e2 : zs = zs.take i ++ z :: zs.drop (i + 1) := by
    have q := List.take_append_drop i zs
    have q2 := List.drop_eq_getElem_cons hlt
    have q3 : zs[i] = z := (List.getElem?_eq_some_iff.mp e).2
    rw [q2, q3] at q
    exact q.symm
  rw [e2, List.find?_append]
  have n : (zs.take i).find? p = none := by
    rw [List.find?_eq_none]
    intro y hy
    rw [h y hy]
    decide
  rw [n]
  simp [hz]
section
variable {P : Program} {w : World} {K : PySem.W.Frag} {mg : Str → Option Value} {base : Heap}
theorem scRN : FnScope ["texts", "text"] ["texts"] (defScope sRN) := ⟨rfl, rfl, rfl, by decide +kernel, rfl, by decide +kernel, by decide +kernel⟩
theorem ok_rn {f fN C fI : Addr} {fd fdN fdI : FuncData} (F : Fun K "refuse_no_name" "refuse_no_name" sRN f fd) (D : Dn K mg "is_name" sName ["text"] fN fdN) (GN : FnOk P w K mg base CX0 1 fN fdN ["text"] spName) (TE : ErrT K mg "NoName" "name" C fI) (bI : Binds K fdI ["self", "name"] [])
    (GI : FnOk P w K mg base CX0 2 fI fdI ["self", "name"] (spE1 C "name" "noname")) : FnOk P w K mg base (L2.CX P w) 4 f fd ["texts"] (spRN K C) := by
  refine F.okX scRN (fun vs H Q E h => ?_) (fun cdv A outer s H vs Q E hr h => ?_)
  · obtain ⟨l, zs, rfl, _⟩ := h
    rfl
  · obtain ⟨l, zs, rfl, hl, hn, hz, k⟩ := h
    have hr1 : Room 1 _ := hr.mono (by decide)
    refine ⟨_, (pss_one (ps_for (passes_of rfl) rfl (pi_list (pv 0)) (pg_name (i := 1) scRN.nd rfl (Or.inl rfl)) (pss_one (ps_if (pt_not (pt_val (pe_call GN hr1 rfl D.g D.F.kp D.b .nil pass0 (pa_cons (pv 1) pa_nil)))) (pss_one (ps_raise rfl (takes_of rfl rfl rfl rfl) (pmk_oex TE.o TE.iC TE.tI GI hr bI .nil pass0 rfl TE.g (pa_cons (pv 1) pa_nil)))) pss_nil)))), ?_⟩
    refine ⟨_, rfl, l, rfl, ⟨_, hl⟩, for_list (K := K) (a := l) (xs := zs.map V.str) (fun i σ H' => ∃ v, σ = [some (.ref l), v] ∧ Same H H' ∧ ∀ y ∈ zs.take i, (!isNm y) = false) ⟨none, rfl, Same.refl H, fun y hy => (List.not_mem_nil hy).elim⟩
      (fun i σ H' _ ⟨_, _, hS, _⟩ => hS.seq hl) ?_ ?_⟩
    · rintro i y σ H' hi ⟨v, rfl, hS, hno⟩
      obtain ⟨z, hzi, rfl⟩ : ∃ z, zs[i]? = some z ∧ y = V.str z := by
        rw [List.getElem?_map] at hi
        cases e : zs[i]? with
        | none =>
          rw [e] at hi
          cases hi
        | some z =>
          rw [e] at hi
          exact ⟨z, rfl, (Option.some.inj hi).symm⟩
      refine ⟨_, rfl, z, rfl, hz z (List.mem_of_getElem? hzi), fun H2 hS2 => ⟨_, rfl, ?_⟩⟩
      refine ite2 (fun h => ?_) (fun h => ?_)
      · refine ⟨_, rfl, ?_⟩
        have e := find_none_take hno hzi h
        unfold DueN at k
        rw [e] at k
        refine mk1 fun d H3 hd hS3 hx => k d H3 (hS.free (hS2.free hd)) (hS.trans (hS2.trans hS3)) hx
      · refine ⟨_, rfl, hS.trans hS2, fun y hy => ?_⟩
        rw [List.take_add_one, hzi] at hy
        rcases List.mem_append.mp hy with hy | hy
        · exact hno y hy
        · have e : y = z := by simpa using hy
          rw [e]
          exact Bool.eq_false_iff.mpr h
    · rintro σ H' ⟨v, rfl, hS, hno⟩
      have e : zs.find? (fun z => !isNm z) = none := by
        rw [List.find?_eq_none]
        intro y hy
        rw [List.length_map, List.take_length] at hno
        rw [hno y hy]
        decide
      unfold DueN at k
      rw [e] at k
      exact k H' hS
end
end Wm
namespace Wm
open PySem PySem.Spec PyProof.Rows L2
/-- enumerate(v): its two new cells -/
theorem meets_enum1 {v : Value} {o : Obj} {H : Heap → Prop} (B : Begins v o H) :
    Meets (Builtin.«enumerate.__new__» ⟨[.type "enumerate", v], []⟩) (fun _ R s => H s.heap ∧
      R (.ok (.ret (.ref (s.heap.push o).objs.size))) { s with heap := (s.heap.push o).push { cls := .type "enumerate", data := .fields #[.none, .bool false, .ref s.heap.objs.size, rawInt 0, .none, .none] } }) :=
  .of_wp fun prog w A R s hh => by
    obtain ⟨hp, g, d, tk, os⟩ := s
    obtain ⟨h1, h⟩ := hh
    have hsub := sub_enumerate
    have q1 : ∀ {A' : Around} {E : Value → Shared → Prop} {Q : Value → Shared → Prop}, Q (.ref hp.objs.size) ⟨hp.push o, g, d, tk, os⟩ → wpAny (model prog w) A' (pyIter v) Q E ⟨hp, g, d, tk, os⟩ := fun q => B.iter prog w _ _ ⟨hp, g, d, tk, os⟩ _ h1 q
    wp_walk using q1
    refine wpAny_stack_any fun stk => wpAny_pure ?_
    split
    · rename_i c _ _ _ _ _
      cases (c == Value.type "enumerate") <;> (wp_walk using q1; exact ⟨_, rfl, h⟩)
    · wp_walk using q1
      exact ⟨_, rfl, h⟩
theorem call_enum_tup {prog : Program} {w : World} {A : Around} {E : Value → Shared → Prop} {s : Shared} {t : Addr} {items : Array Value} {Q : Value → Shared → Prop} (hL : s.heap.IsTuple t items)
    (h : ∀ h', IsEnum h' (s.heap.objs.size + 1) s.heap.objs.size 0 .none → h'.IsTupleIter s.heap.objs.size t 0 → (∀ b o, s.heap.get? b = some o → h'.get? b = some o) → Q (.ref (s.heap.objs.size + 1)) { s with heap := h' }) :
    wpAny (model prog w) A (call (.type "enumerate") [.ref t]) Q E s := by
  refine callType_new F.called_enumerate (by decide) (F.typeCall_enumerate_1 _) (F.newCall_enumerate_1 _) (fun obj => F.args_object_init_2 obj _) F.entry_enumerate_new (meets_enum1 (begins_tuple t items)) ⟨hL, ?_⟩
  generalize ho : ({ cls := .type "tuple_iterator", data := .fields #[.ref t, .int 0 0] } : Obj) = o
  have hz : (s.heap.push o).objs.size = s.heap.objs.size + 1 := Heap.size_push ..
  show _ ∧ _
  rw [hz]
  generalize he : ({ cls := .type "enumerate", data := .fields #[.none, .bool false, .ref s.heap.objs.size, rawInt 0, .none, .none] } : Obj) = eo
  have h2 : ((s.heap.push o).push eo).get? (s.heap.objs.size + 1) = some eo := by
    have q := Heap.get?_push_size (s.heap.push o) (o := eo) (by rw [← he]; rfl)
    rw [hz] at q
    exact q
  have h3 : ((s.heap.push o).push eo).get? s.heap.objs.size = some o := Heap.get?_push_of_some _ (Heap.get?_push_size _ (by rw [← ho]; rfl))
  refine ⟨⟨_, h2, by rw [← he]⟩, h _ ?_ ⟨o, h3, by rw [← ho], by rw [← ho]; rfl⟩ fun b o x => Heap.get?_push_of_some _ (Heap.get?_push_of_some _ x)⟩
  show ((s.heap.push o).push eo).get? (s.heap.objs.size + 1) = some _
  rw [h2, ← he]
/-- the tuple at a, each item in a new pair -/
def IteT (K : PySem.W.Frag) (a : Addr) (xs : List V) : It :=
  ⟨fun i H => SqT K H a xs ∧ i < xs.length, fun i H v H' => ∃ T x, v = .ref T ∧ H T = none ∧ H' = upd H T (.tup [.int (i : Nat), x]) ∧ xs[i]? = some x, fun i H => SqT K H a xs ∧ i = xs.length⟩
theorem turn_enumT {P : Program} {w : World} {K : PySem.W.Frag} {elts : List Expr} {kk : Nat} {tpos : Pos} {xs : List V} (a e it : Addr) (his : List Value) :
    Turn P w K (.Tuple elts kk tpos) (IteT K a xs) [e, it] e (fun i h => (∃ old, IsEnum h e it ((i : Nat) : Int) old) ∧ h.IsTupleIter it a i ∧ e ≠ it ∧ a ≠ it ∧ a ≠ e) where
  mem := by simp
  obj := fun i h st b hb => by
    obtain ⟨⟨old, he⟩, ⟨o, ho, hc, hd⟩, _⟩ := st
    rcases (show b = e ∨ b = it by simpa using hb) with z | z
    · rw [z]
      exact ⟨_, he, fun v q => nomatch q⟩
    · rw [z]
      exact ⟨o, ho, fun v q => by rw [hd] at q; cases q⟩
  keep := fun i h h' st k => let ⟨⟨old, he⟩, hi, hne⟩ := st; ⟨⟨old, k e (by simp) _ he⟩, hi.at fun o q => k it (by simp) o q, hne⟩
  item := by
    intro X hP hw hK hc i pins s σ H E I hf st hg
    subst hP hw hK
    obtain ⟨⟨old, he⟩, hit, hne, nai, nae⟩ := st
    obtain ⟨hq, hlt⟩ := hg
    obtain ⟨its, rv, p, hz⟩ := I.tuple hq
    have hlen := rv.length
    have hel : e < s.heap.objs.size := Heap.lt_size he
    have hil : it < s.heap.objs.size := by obtain ⟨_, q, _⟩ := hit; exact Heap.lt_size q
    have D : Draws X.prog X.w X.A.in1 it [it, a] its.toArray.size (fun i v => its.toArray[i]? = some v) (fun i h => h.IsTupleIter it a i ∧ h.IsTuple a its.toArray) := Draws.tuple (A := X.A.in1) (show X.A.in1.handled = none from I.ok.hd hc) it a nai its.toArray
    refine wpAny_pyNext_enum_itemC D he ⟨hit, p⟩ (by rw [List.size_toArray]; omega) hne (by simp [hne, Ne.symm nae]) fun u h' tk hu ho hst' hT hsz hk => ?_
    have hu' : its[i]? = some u := by simpa using hu
    obtain ⟨x, hx, ru⟩ : ∃ x, xs[i]? = some x ∧ RelV x u := by
      obtain ⟨u2, h2, r2⟩ := rv.get (List.getElem?_eq_getElem hlt)
      rw [hu'] at h2
      cases h2
      exact ⟨_, List.getElem?_eq_getElem hlt, r2⟩
    refine ⟨_, rfl, wpAny_letOwnedTupleGo_enum (s := { s with heap := h', toks := tk + 1 }) ho fun h'' he' sb => ?_⟩
    have hT2 : h''.get? s.heap.objs.size = some { cls := .type "tuple", data := .seq #[.int i tk, u] } := (sb.2 _ (Nat.ne_of_gt hel)).trans hT
    have new : ObjOk X.prog X.w (upd H s.heap.objs.size (.tup [.int (i : Nat), x])) h'' s.heap.objs.size (.tup [.int (i : Nat), x]) := ⟨by show 2 ≤ sizeLine; decide, [.int i tk, u], .cons ⟨_, rfl⟩ (.cons ru .nil), ⟨_, hT2, rfl, _, rfl⟩⟩
    have I1 : Inv X pins σ (upd H s.heap.objs.size (.tup [.int (i : Nat), x])) { s with heap := h'', toks := tk + 1 } :=
      I.turnedNew (ch := [e, it]) (fun b ob hb q => (sb.2 b (fun z => hb (by simp [z]))).trans (hk b ob (fun z => hb (by simp [z])) (fun z => hb (by simp [z])) q)) hf (Nat.le_refl _) new
    refine ⟨.ref s.heap.objs.size, _, I1, rfl, ⟨_, x, rfl, I.hok.fresh (Nat.le_refl _), rfl, hx⟩, ⟨⟨u, ?_⟩, hst'.1.at fun o q => (sb.2 it (Ne.symm hne)).trans q, hne, nai, nae⟩, fun b hb => ?_⟩
    · have e1 : ((i + 1 : Nat) : Int) = (i : Int) + 1 := by omega
      rw [e1]
      exact he'
    · have hb' : b < s.heap.objs.size := by
        rcases (show b = e ∨ b = it by simpa using hb) with z | z
        · rw [z]; exact hel
        · rw [z]; exact hil
      rw [upd_ne (Nat.ne_of_lt hb')]
      exact (hf b hb).1
  done := by
    intro X hP hw hK hc i pins s σ H E I hf st hg
    subst hP hw hK
    obtain ⟨⟨old, he⟩, hit, hne, nai, nae⟩ := st
    obtain ⟨hq, hi⟩ := hg
    obtain ⟨its, rv, p, hz⟩ := I.tuple hq
    have hlen := rv.length
    obtain ⟨f0, f1, f2, f3, f4, f5⟩ := hf it (by simp)
    have D : Draws X.prog X.w X.A.in1 it [it, a] its.toArray.size (fun i v => its.toArray[i]? = some v) (fun i h => h.IsTupleIter it a i ∧ h.IsTuple a its.toArray) := Draws.tuple (A := X.A.in1) (show X.A.in1.handled = none from I.ok.hd hc) it a nai its.toArray
    have en : i = its.toArray.size := by rw [List.size_toArray]; omega
    rw [en] at he hit
    exact wpAny_pyNext_enum_endD D he ⟨hit, p⟩ fun h' eb => ⟨rfl, I.turned (t' := s.toks) (fun b o hb q => eb b o hb q) f0 f1 f3 f4 f5⟩
  self := fun A i s Q E st h => let ⟨⟨_, he⟩, _⟩ := st; wpAny_pyIter_enum he h
def iEnumT (K : PySem.W.Frag) (ta : TA) : TI := fun σ H R => ta σ H fun vs H1 => ∃ a xs, vs = [.ref a] ∧ SqT K H1 a xs ∧ R (IteT K a xs) H1
theorem pi_enumT {X : Cx} {e : Expr} {ta : TA} {p pos tpos : Pos} {elts : List Expr} {kk : Nat} (hg : Gl X "enumerate") (hm : X.mg "enumerate" = none) (ha : PA X [e] ta) (hs : starEach [e] X.env = [(false, eval e X.env)] := by rfl) :
    PI X (.Tuple elts kk tpos) (.Call (.Name "enumerate" p) [e] [] pos) (iEnumT X.K ta) := by
  refine ⟨fun pins s σ H R I h => ?_⟩
  refine Call_ (ld_blt I hg hm boot_enumerate (PyProof.Rows.callWith_type1 (thn (ha.run pos pins s σ H _ I h) fun us s1 ⟨vs, H1, I1, r1, a, xs, ex, hq, q⟩ => ?_) hs rfl))
  subst ex
  cases r1 with
  | cons r rr =>
    cases rr
    cases r
    obtain ⟨its, rv, p', hz⟩ := I1.tuple hq
    have hal : a < s1.heap.objs.size := by obtain ⟨_, z, _⟩ := p'; exact Heap.lt_size z
    refine call_enum_tup (items := its.toArray) p' fun h' he hit hk => wpAny_pyIter_enum he ?_
    have I2 : Inv X pins σ H1 { s1 with heap := h' } := I1.kept (t' := s1.toks) hk
    refine ⟨s1.heap.objs.size + 1, [s1.heap.objs.size + 1, s1.heap.objs.size], _, _, H1, rfl, I2, turn_enumT a (s1.heap.objs.size + 1) s1.heap.objs.size its, ⟨⟨.none, he⟩, hit, Nat.succ_ne_self _, Nat.ne_of_lt hal, Nat.ne_of_lt (Nat.lt_succ_of_lt hal)⟩, fun b hb => ?_, q⟩
    have hle : s1.heap.objs.size ≤ b := by
      rcases (show b = s1.heap.objs.size + 1 ∨ b = s1.heap.objs.size by simpa using hb) with z | z
      · rw [z]; exact Nat.le_add_right _ _
      · rw [z]; exact Nat.le_refl _
    exact I1.fpOk hle (I1.hok.fresh hle)
theorem walk_enumT {K : PySem.W.Frag} {a : Addr} {xs : List V} : Walk (IteT K a xs) xs.length (fun H => SqT K H a xs) (YPair (fun i => some (.int (i : Nat))) (fun i => xs[i]?)) := by
  refine ⟨fun i _ hi q => ⟨q, hi⟩, fun _ q => ⟨q, rfl⟩, fun i H v H' _ q y => ?_⟩
  obtain ⟨T, x, h1, h2, h3, h4⟩ := y
  exact ⟨T, .int (i : Nat), x, h1, h2, h3, rfl, h4⟩
end Wm
namespace Wm
open PySem L2
/-- the outer walk of a comprehension of two clauses -/
theorem lc2_it {J : It} {n : Nat} {G : Hp → Prop} {Y : Nat → Hp → V → Hp → Prop} (w : Walk J n G Y) {g : TG} {vs : List Nat} {σ : St} {H1 : Hp} {D : Addr} {Qd : Hp → Prop} {inner : St → Hp → (Hp → Prop) → Prop} (Pv : Nat → Hp → Prop) (h0 : Pv 0 (upd H1 D (.lst []))) (hG : ∀ i H, i ≤ n → Pv i H → G H)
    (hs : ∀ i x H H', i < n → Pv i H → Y i H x H' → g x (wipe σ vs) H' fun σ2 H2 => wipe σ2 vs = wipe σ vs ∧ inner σ2 H2 (Pv (i + 1))) (hd : ∀ H, Pv n H → Qd H) :
    ∃ W : Nat → Nat → Hp → Prop, (∃ m, W 0 m (upd H1 D (.lst []))) ∧ ∀ i m H, W i m H →
      (J.stop i H ∧ Qd H) ∨ (J.go i H ∧ ∃ Nx : Hp → Prop, (∀ H', Nx H' → ∃ m', m' < m ∧ W (i + 1) m' H') ∧ ∀ x H', J.yld i H x H' → g x (wipe σ vs) H' fun σ2 H2 => wipe σ2 vs = wipe σ vs ∧ inner σ2 H2 Nx) := by
  refine ⟨fun i m H => m = n - i ∧ i ≤ n ∧ Pv i H, ⟨n, by simp, Nat.zero_le _, h0⟩, ?_⟩
  rintro i m H ⟨rfl, hi, p⟩
  have q := hG i H hi p
  by_cases hlt : i < n
  · exact .inr ⟨w.goes i H hlt q, Pv (i + 1), fun H' p' => ⟨n - (i + 1), by omega, rfl, hlt, p'⟩, fun x H' y => hs i x H H' hlt p (w.yields i H x H' hlt q y)⟩
  · have e : i = n := by omega
    subst e
    exact .inl ⟨w.stops H q, hd H p⟩
/-- the inner one -/
theorem lc1_it {J : It} {n : Nat} {G : Hp → Prop} {Y : Nat → Hp → V → Hp → Prop} (w : Walk J n G Y) {g : TG} {te : TE} {vs : List Nat} {σ : St} {H4 : Hp} {D : Addr} {Nx : Hp → Prop} (Pv : Nat → Hp → Prop) (h0 : Pv 0 H4) (hG : ∀ i H, i ≤ n → Pv i H → G H)
    (hs : ∀ i x H H', i < n → Pv i H → Y i H x H' → g x (wipe σ vs) H' fun σ3 H5 => wipe σ3 vs = wipe σ vs ∧ te σ3 H5 fun y H7 => ∃ acc, H7 D = some (.lst acc) ∧ acc.length < sizeLine ∧ Pv (i + 1) (upd H7 D (.lst (acc ++ [y])))) (hd : ∀ H, Pv n H → Nx H) :
    ∃ W1 : Nat → Nat → Hp → Prop, (∃ m, W1 0 m H4) ∧ ∀ j k H, W1 j k H →
      (J.stop j H ∧ Nx H) ∨ (J.go j H ∧ ∃ Nx1 : Hp → Prop, (∀ H', Nx1 H' → ∃ k', k' < k ∧ W1 (j + 1) k' H') ∧ ∀ x H', J.yld j H x H' → g x (wipe σ vs) H' fun σ3 H5 => wipe σ3 vs = wipe σ vs ∧ tYes σ3 H5 fun b H6 =>
        if b = true then te σ3 H6 fun y H7 => ∃ acc, H7 D = some (.lst acc) ∧ acc.length < sizeLine ∧ Nx1 (upd H7 D (.lst (acc ++ [y]))) else Nx1 H6) := by
  refine ⟨fun i m H => m = n - i ∧ i ≤ n ∧ Pv i H, ⟨n, by simp, Nat.zero_le _, h0⟩, ?_⟩
  rintro i m H ⟨rfl, hi, p⟩
  have q := hG i H hi p
  by_cases hlt : i < n
  · exact .inr ⟨w.goes i H hlt q, Pv (i + 1), fun H' p' => ⟨n - (i + 1), by omega, rfl, hlt, p'⟩, fun x H' y => hs i x H H' hlt p (w.yields i H x H' hlt q y)⟩
  · have e : i = n := by omega
    subst e
    exact .inl ⟨w.stops H q, hd H p⟩
/-- tuple(x) of a list or a tuple -/
def rTupOf (K : PySem.W.Frag) : List V → Hp → VK → Prop := fun xs H Q => ∃ p ys, xs = [.ref p] ∧ ((SqL K H p ys ∧ ∀ l, H l = none → Q (.ref l) (upd H l (.tup ys))) ∨ (SqT K H p ys ∧ Q (.ref p) H))
theorem call_tupN {X : Cx} : CallR X (.type "tuple") (rTupOf X.K) := call_tuple_of
theorem same_seqT {K : PySem.W.Frag} {H H' : Hp} {a : Addr} {xs : List V} (e : Same H H') (h : SqT K H a xs) : SqT K H' a xs := by
  rcases h with (h | ⟨o, h⟩) | h
  · exact .inl (.inl (e _ _ h))
  · exact .inl (.inr ⟨o, e _ _ h⟩)
  · exact .inr h
/-- to be read as a list or a tuple -/
def Sq (K : PySem.W.Frag) (H : Hp) (a : Addr) (xs : List V) : Prop := SqL K H a xs ∨ SqT K H a xs
theorem same_sq {K : PySem.W.Frag} {H H' : Hp} {a : Addr} {xs : List V} (e : Same H H') (h : Sq K H a xs) : Sq K H' a xs := h.imp (fun h => e.seq h) (fun h => same_seqT e h)
theorem cut_take (xs : List V) (i : Nat) : cutV xs none (some (i : Int)) = xs.take i := by
  unfold cutV
  rw [HT.sIx_none, HT.sIx_nat, List.drop_zero, Nat.sub_zero]
  by_cases h : i ≤ xs.length
  · rw [Nat.min_eq_left h]
  · rw [Nat.min_eq_right (by omega), List.take_length, List.take_of_length_le (by omega)]
theorem all_take {xs : List V} (h : xs.all flatV = true) (i : Nat) : (xs.take i).all flatV = true := by
  rw [List.all_eq_true] at h ⊢
  exact fun x hx => h x (List.mem_of_mem_take hx)
end Wm
namespace Wm
open PySem L2
/-- no item stands ahead of itself -/
def NoTw (xs : List V) : Prop := ∀ (i : Nat) (x : V), xs[i]? = some x → inV x (xs.take i) = false
def spFT (K : PySem.W.Frag) : Sp := fun vs H Q _ => ∃ (l : Addr) (xs : List V), vs = [.ref l] ∧ Sq K H l xs ∧ xs.all flatV = true ∧ NoTw xs ∧ ∀ H', Same H H' → Q .non H'
def spRC : Sp := fun vs H Q _ => ∃ (z : V) (c lo hi : Int), vs = [z, .int c, .int lo, .int hi] ∧ lo ≤ c ∧ c ≤ hi ∧ Q .non H
section
variable {P : Program} {w : World} {K : PySem.W.Frag} {mg : Str → Option Value} {base : Heap}
theorem scRC : FnScope ["what", "count", "least", "most"] ["what", "count", "least", "most"] (defScope sRC) := ⟨rfl, rfl, rfl, by decide +kernel, rfl, by decide +kernel, by decide +kernel⟩
theorem ok_rc {f : Addr} {fd : FuncData} (F : Fun K "refuse_count" "refuse_count" sRC f fd) : FnOk P w K mg base CX0 1 f fd ["what", "count", "least", "most"] spRC := by
  refine F.ok scRC (fun vs H Q E h => ?_) (fun cdv A outer s H vs Q E hr h => ?_)
  · obtain ⟨z, c, lo, hi, rfl, _⟩ := h
    rfl
  · obtain ⟨z, c, lo, hi, rfl, h1, h2, k⟩ := h
    refine ⟨_, (pss_one (ps_if (PW.pt (pw_or (pt_cmpR op_lt (pv 1) (pv 2) (nomark _)) (pw_or1 (pt_cmpR op_gt (pv 1) (pv 3) (nomark _))))) (pss_one ps_never) pss_nil)), ?_⟩
    refine ⟨_, rfl, _, rfl, _, _, rfl, rfl, _, rfl, ?_⟩
    refine ite2 (fun h => absurd (of_decide_eq_true h) (by omega)) (fun _ => ?_)
    refine ⟨_, rfl, _, rfl, _, _, rfl, rfl, _, rfl, ?_⟩
    exact ite2 (fun h => absurd (of_decide_eq_true h) (by omega)) (fun _ => k)
theorem scFT : FnScope ["row", "place", "part"] ["row"] (defScope sFT) := ⟨rfl, rfl, rfl, by decide +kernel, rfl, by decide +kernel, by decide +kernel⟩
theorem ok_ft {f : Addr} {fd : FuncData} (F : Fun K "first_twice" "first_twice" sFT f fd) (T : TxB mg) : FnOk P w K mg base CX0 1 f fd ["row"] (spFT K) := by
  refine F.ok scFT (fun vs H Q E h => ?_) (fun cdv A outer s H vs Q E hr h => ?_)
  · obtain ⟨l, xs, rfl, _⟩ := h
    rfl
  · obtain ⟨l, xs, rfl, hl, hf, hno, k⟩ := h
    rcases hl with hl | hl
    · refine ⟨_, (pss_cons (ps_for PassesOwn.never rfl (pi_enum rfl T.enumerate (pa_cons (pv 0) pa_nil)) (pg_tup rfl (pgs_cons (pg_name (i := 1) scFT.nd rfl (Or.inl rfl)) (pgs_cons (pg_name (i := 2) scFT.nd rfl (Or.inl rfl)) pgs_nil))) (pss_one (ps_if (pt_cmpR op_in_seq (pv 2) (pe_slice sl_list (pv 0) po_none (po_some (pv 1))) (by rfl)) (pss_one (ps_ret (pv 1))) pss_nil)))
      (pss_one (ps_ret pe_non))), ?_⟩
      refine ⟨_, rfl, l, xs, rfl, hl, for_it walk_enum (fun i σ H' => (∃ u v, σ = [some (.ref l), u, v]) ∧ Same H H') ⟨⟨none, none, rfl⟩, Same.refl H⟩ (fun i σ H' _ p => p.2.seq hl) ?_ ?_⟩
      · rintro i x σ H1 H2 hi ⟨⟨u, v, rfl⟩, hS⟩ ⟨t, y, z, rfl, ht, rfl, e1, e2⟩
        cases e1
        refine ⟨t, _, rfl, SqT.of upd_same, rfl, _, _, rfl, _, _, rfl, rfl, ?_⟩
        have S2 := hS.trans (Same.upd (o := .tup [.int (i : Nat), z]) ht)
        refine ⟨_, rfl, _, rfl, _, rfl, _, rfl, l, xs, rfl, S2.seq hl, fun p hp => ?_⟩
        refine ⟨p, _, rfl, .inl (SqL.of upd_same), ?_, ?_, _, rfl, ?_⟩
        · exact List.all_eq_true.mp hf _ (List.mem_of_getElem? e2)
        · show (cutV xs none (some (i : Int))).all flatV = true
          rw [cut_take]
          exact all_take hf i
        · have e : inV z (cutV xs none (some (i : Int))) = false := by
            rw [cut_take]
            exact hno i z e2
          show if inV z (cutV xs none (some (i : Int))) = true then _ else _
          rw [e]
          exact iteF ⟨⟨_, _, rfl⟩, S2.trans (Same.upd hp)⟩
      · rintro σ H' ⟨_, hS⟩
        exact k H' hS
    · refine ⟨_, (pss_cons (ps_for PassesOwn.never rfl (pi_enumT rfl T.enumerate (pa_cons (pv 0) pa_nil)) (pg_tup rfl (pgs_cons (pg_name (i := 1) scFT.nd rfl (Or.inl rfl)) (pgs_cons (pg_name (i := 2) scFT.nd rfl (Or.inl rfl)) pgs_nil))) (pss_one (ps_if (pt_cmpR op_in_seq (pv 2) (pe_slice sl_tupA (pv 0) po_none (po_some (pv 1))) (by rfl)) (pss_one (ps_ret (pv 1))) pss_nil)))
      (pss_one (ps_ret pe_non))), ?_⟩
      refine ⟨_, rfl, l, xs, rfl, hl, for_it walk_enumT (fun i σ H' => (∃ u v, σ = [some (.ref l), u, v]) ∧ Same H H') ⟨⟨none, none, rfl⟩, Same.refl H⟩ (fun i σ H' _ p => same_seqT p.2 hl) ?_ ?_⟩
      · rintro i x σ H1 H2 hi ⟨⟨u, v, rfl⟩, hS⟩ ⟨t, y, z, rfl, ht, rfl, e1, e2⟩
        cases e1
        refine ⟨t, _, rfl, SqT.of upd_same, rfl, _, _, rfl, _, _, rfl, rfl, ?_⟩
        have S2 := hS.trans (Same.upd (o := .tup [.int (i : Nat), z]) ht)
        refine ⟨_, rfl, _, rfl, _, rfl, _, rfl, l, xs, rfl, same_seqT S2 hl, fun h => ?_, fun h p hp => ?_⟩
        · have en : xs.take i = xs := by
            rw [HT.sIx_nat] at h
            exact List.take_of_length_le (by omega)
          have e : inV z xs = false := by
            have q := hno i z e2
            rw [en] at q
            exact q
          refine ⟨l, xs, rfl, .inr (same_seqT S2 hl), List.all_eq_true.mp hf _ (List.mem_of_getElem? e2), hf, _, rfl, ?_⟩
          show if inV z xs = true then _ else _
          rw [e]
          exact iteF ⟨⟨_, _, rfl⟩, S2⟩
        · refine ⟨p, _, rfl, .inr (SqT.of upd_same), List.all_eq_true.mp hf _ (List.mem_of_getElem? e2), ?_, _, rfl, ?_⟩
          · show (cutV xs none (some (i : Int))).all flatV = true
            rw [cut_take]
            exact all_take hf i
          · have e : inV z (cutV xs none (some (i : Int))) = false := by
              rw [cut_take]
              exact hno i z e2
            show if inV z (cutV xs none (some (i : Int))) = true then _ else _
            rw [e]
            exact iteF ⟨⟨_, _, rfl⟩, S2.trans (Same.upd hp)⟩
      · rintro σ H' ⟨_, hS⟩
        exact k H' hS
theorem scRT : FnScope ["names", "place"] ["names"] (defScope sRT) := ⟨rfl, rfl, rfl, by decide +kernel, rfl, by decide +kernel, by decide +kernel⟩
theorem ok_rt {f fF : Addr} {fd fdF : FuncData} (F : Fun K "refuse_twice" "refuse_twice" sRT f fd) (T : TxB mg) (D : Dn K mg "first_twice" sFT ["row"] fF fdF) : FnOk P w K mg base CX0 2 f fd ["names"] (spFT K) := by
  have G : FnOk P w K mg base CX0 1 fF fdF ["row"] (spFT K) := ok_ft D.F T
  refine F.ok scRT (fun vs H Q E h => ?_) (fun cdv A outer s H vs Q E hr h => ?_)
  · obtain ⟨l, xs, rfl, _⟩ := h
    rfl
  · obtain ⟨l, xs, rfl, hl, hf, hno, k⟩ := h
    refine ⟨_, (pss_cons (ps_set (i := 1) scRT.nd rfl (Or.inl rfl) (pe_call G hr rfl D.g D.F.kp D.b .nil pass0 (pa_cons (pv 0) pa_nil)))
      (pss_one (ps_if (pt_cmp (pc_notN (pv 1))) (pss_one ps_never) pss_nil))), ?_⟩
    refine ⟨_, rfl, l, xs, rfl, hl, hf, hno, fun H' hS => ?_⟩
    refine ⟨_, rfl, _, rfl, ?_⟩
    exact iteF (k H' hS)
end
end Wm
namespace Wm
open PySem L2
/-- the tuples at the addresses -/
def RowsAt (K : PySem.W.Frag) (H : Hp) : List Addr → List (List V) → Prop
  | [], [] => True
  | p :: ps, r :: rs => SqT K H p r ∧ RowsAt K H ps rs
  | _, _ => False
theorem RowsAt.same {K : PySem.W.Frag} {H H' : Hp} (e : Same H H') : ∀ {ps : List Addr} {rs : List (List V)}, RowsAt K H ps rs → RowsAt K H' ps rs
  | [], [], _ => True.intro
  | _ :: _, _ :: _, h => ⟨same_seqT e h.1, RowsAt.same e h.2⟩
  | [], _ :: _, h => h.elim
  | _ :: _, [], h => h.elim
theorem RowsAt.len {K : PySem.W.Frag} {H : Hp} : ∀ {ps : List Addr} {rs : List (List V)}, RowsAt K H ps rs → ps.length = rs.length
  | [], [], _ => rfl
  | _ :: _, _ :: _, h => congrArg Nat.succ (RowsAt.len h.2)
  | [], _ :: _, h => h.elim
  | _ :: _, [], h => h.elim
theorem RowsAt.get {K : PySem.W.Frag} {H : Hp} : ∀ {ps : List Addr} {rs : List (List V)} {i : Nat} {p : Addr}, RowsAt K H ps rs → ps[i]? = some p → ∃ r, rs[i]? = some r ∧ SqT K H p r
  | [], [], i, p, _, e => by simp at e
  | _ :: _, r :: _, 0, p, h, e => by
    have e' := Option.some.inj e
    subst e'
    exact ⟨r, rfl, h.1⟩
  | _ :: ps, _ :: rs, i + 1, p, h, e => by
    obtain ⟨r, h1, h2⟩ := RowsAt.get (i := i) h.2 (by simpa using e)
    exact ⟨r, by simpa using h1, h2⟩
  | [], _ :: _, _, _, h, _ => h.elim
  | _ :: _, [], _, _, h, _ => h.elim
theorem RowsAt.append {K : PySem.W.Frag} {H : Hp} : ∀ {ps qs : List Addr} {rs us : List (List V)}, RowsAt K H ps rs → RowsAt K H qs us → RowsAt K H (ps ++ qs) (rs ++ us)
  | [], _, [], _, _, h => h
  | _ :: _, _, _ :: _, _, h, g => ⟨h.1, RowsAt.append h.2 g⟩
  | [], _, _ :: _, _, h, _ => h.elim
  | _ :: _, _, [], _, h, _ => h.elim
theorem RowsAt.take {K : PySem.W.Frag} {H : Hp} : ∀ {ps : List Addr} {rs : List (List V)} (n : Nat), RowsAt K H ps rs → RowsAt K H (ps.take n) (rs.take n)
  | _, _, 0, _ => True.intro
  | [], [], _ + 1, _ => True.intro
  | _ :: _, _ :: _, n + 1, h => ⟨h.1, RowsAt.take n h.2⟩
  | [], _ :: _, _ + 1, h => h.elim
  | _ :: _, [], _ + 1, h => h.elim
theorem map_ref_get {ps : List Addr} {i : Nat} {x : V} (h : (ps.map V.ref)[i]? = some x) : ∃ p, ps[i]? = some p ∧ x = .ref p := by
  rw [List.getElem?_map] at h
  cases e : ps[i]? with
  | none =>
    rw [e] at h
    cases h
  | some p =>
    rw [e] at h
    exact ⟨p, rfl, (Option.some.inj h).symm⟩
theorem map_str_get {ps : List Str} {i : Nat} {x : V} (h : (ps.map V.str)[i]? = some x) : ∃ p, ps[i]? = some p ∧ x = .str p := by
  rw [List.getElem?_map] at h
  cases e : ps[i]? with
  | none =>
    rw [e] at h
    cases h
  | some p =>
    rw [e] at h
    exact ⟨p, rfl, (Option.some.inj h).symm⟩
abbrev Tri := Str × Str × Str
def triV (t : Tri) : List V := [.str t.1, .str t.2.1, .str t.2.2]
def endsL (ts : List Tri) : List Str := ts.flatMap fun t => [t.1, t.2.2]
theorem endsL_take {ts : List Tri} {i : Nat} {t : Tri} (h : ts[i]? = some t) : endsL (ts.take (i + 1)) = endsL (ts.take i) ++ [t.1, t.2.2] := by
  unfold endsL
  rw [List.take_add_one, h, List.flatMap_append]
  rfl
theorem endsL_len (ts : List Tri) : (endsL ts).length = 2 * ts.length := by
  induction ts with
  | nil => rfl
  | cons t r ih =>
    have e : (endsL (t :: r)).length = 2 + (endsL r).length := by
      show ([t.1, t.2.2] ++ endsL r).length = _
      rw [List.length_append]
      rfl
    have e2 : (t :: r).length = r.length + 1 := rfl
    omega
theorem tri_get {ts : List Tri} {i : Nat} {r : List V} (h : (ts.map triV)[i]? = some r) : ∃ t, ts[i]? = some t ∧ r = triV t := by
  rw [List.getElem?_map] at h
  cases e : ts[i]? with
  | none =>
    rw [e] at h
    cases h
  | some p =>
    rw [e] at h
    exact ⟨p, rfl, (Option.some.inj h).symm⟩
def spTT (K : PySem.W.Frag) : Sp := fun vs H Q _ => ∃ (l : Addr) (ps : List Addr) (rs : List (List V)), vs = [.ref l] ∧ SqL K H l (ps.map V.ref) ∧ RowsAt K H ps rs ∧ ps.length ≤ 1000 ∧ ∀ t H', H t = none → Same H H' → H' t = some (.tup (ps.map V.ref)) → Q (.ref t) H'
def spEO (K : PySem.W.Frag) : Sp := fun vs H Q _ => ∃ (l : Addr) (ps : List Addr) (ts : List Tri), vs = [.ref l] ∧ Sq K H l (ps.map V.ref) ∧ RowsAt K H ps (ts.map triV) ∧ ps.length ≤ 1000 ∧ ∀ d H', H d = none → Same H H' → H' d = some (.lst ((endsL ts).map V.str)) → Q (.ref d) H'
section
variable {P : Program} {w : World} {K : PySem.W.Frag} {mg : Str → Option Value} {base : Heap}
theorem scTT : FnScope ["rows", "row"] ["rows"] (defScope sTT) := ⟨rfl, rfl, rfl, by decide +kernel, rfl, by decide +kernel, by decide +kernel⟩
theorem ok_tt {f : Addr} {fd : FuncData} (F : Fun K "tuple_of_tuples" "tuple_of_tuples" sTT f fd) (T : TxB mg) : FnOk P w K mg base CX0 1 f fd ["rows"] (spTT K) := by
  refine F.ok scTT (fun vs H Q E h => ?_) (fun cdv A outer s H vs Q E hr h => ?_)
  · obtain ⟨l, ps, rs, rfl, _⟩ := h
    rfl
  · obtain ⟨l, ps, rs, rfl, hl, hrs, hn, k⟩ := h
    refine ⟨_, (pss_one (ps_ret (pe_callTy call_tupN (by rfl) T.tuple (by decide +kernel) (pa_cons (pe_lc (own := [("row", 1)]) (g := gName 1) (te := tCB (rTupOf K) (tCons (tVar 1) tNil)) rfl scTT.nd (pi_list (pv 0)) (blkOk_by (N := ["rows", "row"]) (sc := defScope sTT) (by decide +kernel)) (fun _ _ _ _ _ => (pg_name (i := 1) scTT.nd rfl (Or.inl rfl))) (fun _ _ _ _ _ => pts_nil) (fun _ _ _ _ _ => (pe_callTy call_tupN (by rfl) T.tuple (by decide +kernel) (pa_cons (pv 1) pa_nil)))) pa_nil)))), ?_⟩
    refine ⟨_, rfl, l, rfl, ⟨_, hl⟩, fun D hD => ?_⟩
    refine lc_it walk_list (fun i H' => Same H H' ∧ H' D = some (.lst ((ps.take i).map V.ref))) ⟨Same.upd hD, upd_same⟩ (fun i H' _ p => p.1.seq hl) ?_ ?_
    · rintro i x H1 H2 hi ⟨hS, hd⟩ ⟨rfl, hx⟩
      obtain ⟨p, hp, rfl⟩ := map_ref_get hx
      obtain ⟨r, _, hr'⟩ := hrs.get hp
      refine ⟨rfl, ?_⟩
      refine ⟨_, rfl, p, r, rfl, .inr ⟨same_seqT hS hr', _, hd, ?_, ?_, ?_⟩⟩
      · rw [List.length_map, List.length_take]
        exact Nat.lt_of_le_of_lt (show _ ≤ 1000 by omega) (by decide)
      · intro b o h
        rw [upd_ne (ne_of_none h hD)]
        exact hS b o h
      · rw [upd_same, List.take_add_one, hp, List.map_append]
        rfl
    · rintro H' ⟨hS, hd⟩
      rw [List.length_map, List.take_length] at hd
      exact ⟨D, _, rfl, .inl ⟨SqL.of hd, fun t ht => k t _ (hS.free ht) (hS.trans (Same.upd ht)) upd_same⟩⟩
theorem scEO : FnScope ["triples", "x", "word", "y", "end"] ["triples"] (defScope sEO) := ⟨rfl, rfl, rfl, by decide +kernel, rfl, by decide +kernel, by decide +kernel⟩
theorem ok_eo {f : Addr} {fd : FuncData} (F : Fun K "ends_of" "ends_of" sEO f fd) : FnOk P w K mg base CX0 1 f fd ["triples"] (spEO K) := by
  refine F.ok scEO (fun vs H Q E h => ?_) (fun cdv A outer s H vs Q E hr h => ?_)
  · obtain ⟨l, ps, ts, rfl, _⟩ := h
    rfl
  · obtain ⟨l, ps, ts, rfl, hl, hrs, hn, k⟩ := h
    have hlen := hrs.len
    rw [List.length_map] at hlen
    rcases hl with hl | hl
    · refine ⟨_, (pss_one (ps_ret (pe_lc2 (own := [("x", 1), ("word", 2), ("y", 3), ("end", 4)]) (vs1 := [4]) (g := gTup K 3 (gCons (gName 1) (gCons (gName 2) (gCons (gName 3) gNil)))) (g1 := gName 4) (wi1 := iTup K (tTup (tCons (tVar 1) (tCons (tVar 3) tNil)))) rfl scEO.nd (pi_list (pv 0)) (blkOk_by (N := ["triples", "x", "word", "y", "end"]) (sc := defScope sEO) (by decide +kernel)) (by decide) (fun _ _ _ _ _ => (pg_tup rfl (pgs_cons (pg_name (i := 1) scEO.nd rfl (Or.inl rfl)) (pgs_cons (pg_name (i := 2) scEO.nd rfl (Or.inl rfl)) (pgs_cons (pg_name (i := 3) scEO.nd rfl (Or.inl rfl)) pgs_nil))))) (fun _ _ _ _ _ => pts_nil) (fun _ _ _ _ _ => (pi_tup (pe_tup (pa_cons (pv 1) (pa_cons (pv 3) pa_nil))))) (fun _ _ _ _ _ => (pg_name (i := 4) scEO.nd rfl (Or.inl rfl))) (fun _ _ _ _ _ => pts_nil) (fun _ _ _ _ _ => (pv 4))))), ?_⟩
      refine ⟨_, rfl, l, rfl, ⟨_, hl⟩, fun D hD => ?_⟩
      refine lc2_it walk_list (fun i H' => Same H H' ∧ H' D = some (.lst ((endsL (ts.take i)).map V.str))) ⟨Same.upd hD, upd_same⟩ (fun i H' _ p => p.1.seq hl) ?_ ?_
      · rintro i x H1 H2 hi ⟨hS, hd⟩ ⟨rfl, hx⟩
        obtain ⟨p, hp, rfl⟩ := map_ref_get hx
        obtain ⟨r, hr1, hr'⟩ := hrs.get hp
        obtain ⟨t, ht, rfl⟩ := tri_get hr1
        refine ⟨p, _, rfl, same_seqT hS hr', rfl, _, _, rfl, _, _, rfl, _, _, rfl, rfl, rfl, ?_⟩
        refine ⟨_, rfl, _, rfl, by show 2 ≤ sizeLine; decide, fun q hq => ⟨q, rfl, ⟨_, SqT.of upd_same⟩, ?_⟩⟩
        have nDq : D ≠ q := ne_of_none hd hq
        refine lc1_it walk_tup (fun j H' => Same H H' ∧ SqT K H' q [.str t.1, .str t.2.2] ∧ H' D = some (.lst ((endsL (ts.take i) ++ [t.1, t.2.2].take j).map V.str))) ⟨hS.trans (Same.upd hq), SqT.of upd_same, ?_⟩ (fun _ _ _ p => p.2.1) ?_ ?_
        · rw [upd_ne nDq, hd, List.take_zero, List.append_nil]
        · rintro j y H3 H4 hj ⟨hS3, hq3, hd3⟩ ⟨rfl, hy⟩
          refine ⟨rfl, _, rfl, _, hd3, ?_, ?_, ?_, ?_⟩
          · rw [List.length_map, List.length_append, endsL_len, List.length_take, List.length_take]
            have l2 : [t.1, t.2.2].length = 2 := rfl
            exact Nat.lt_of_le_of_lt (show _ ≤ 4000 by omega) (by decide)
          · intro b o h
            rw [upd_ne (ne_of_none h hD)]
            exact hS3 b o h
          · rcases hq3 with (h | ⟨o, h⟩) | h
            · exact .inl (.inl (by rw [upd_ne (ne_of h hd3 (by intro z; cases z))]; exact h))
            · exact .inl (.inr ⟨o, by rw [upd_ne (ne_of h hd3 (by intro z; cases z))]; exact h⟩)
            · exact .inr h
          · have hy' : ([t.1, t.2.2].map V.str)[j]? = some y := hy
            obtain ⟨z, hz, rfl⟩ := map_str_get hy'
            have e : ∀ l : List Str, (l ++ (some z).toList).map V.str = l.map V.str ++ [V.str z] := fun l => by
              rw [List.map_append]
              rfl
            rw [upd_same, List.take_add_one, hz, ← List.append_assoc, e]
        · rintro H3 ⟨hS3, hq3, hd3⟩
          refine ⟨hS3, ?_⟩
          rw [hd3, endsL_take ht]
          rfl
      · rintro H' ⟨hS, hd⟩
        refine k D H' hD hS ?_
        rw [hd, List.length_map, List.take_of_length_le (by omega)]
    · refine ⟨_, (pss_one (ps_ret (pe_lc2 (own := [("x", 1), ("word", 2), ("y", 3), ("end", 4)]) (vs1 := [4]) (g := gTup K 3 (gCons (gName 1) (gCons (gName 2) (gCons (gName 3) gNil)))) (g1 := gName 4) (wi1 := iTup K (tTup (tCons (tVar 1) (tCons (tVar 3) tNil)))) rfl scEO.nd (pi_tup (pv 0)) (blkOk_by (N := ["triples", "x", "word", "y", "end"]) (sc := defScope sEO) (by decide +kernel)) (by decide) (fun _ _ _ _ _ => (pg_tup rfl (pgs_cons (pg_name (i := 1) scEO.nd rfl (Or.inl rfl)) (pgs_cons (pg_name (i := 2) scEO.nd rfl (Or.inl rfl)) (pgs_cons (pg_name (i := 3) scEO.nd rfl (Or.inl rfl)) pgs_nil))))) (fun _ _ _ _ _ => pts_nil) (fun _ _ _ _ _ => (pi_tup (pe_tup (pa_cons (pv 1) (pa_cons (pv 3) pa_nil))))) (fun _ _ _ _ _ => (pg_name (i := 4) scEO.nd rfl (Or.inl rfl))) (fun _ _ _ _ _ => pts_nil) (fun _ _ _ _ _ => (pv 4))))), ?_⟩
      refine ⟨_, rfl, l, rfl, ⟨_, hl⟩, fun D hD => ?_⟩
      refine lc2_it walk_tup (fun i H' => Same H H' ∧ H' D = some (.lst ((endsL (ts.take i)).map V.str))) ⟨Same.upd hD, upd_same⟩ (fun i H' _ p => same_seqT p.1 hl) ?_ ?_
      · rintro i x H1 H2 hi ⟨hS, hd⟩ ⟨rfl, hx⟩
        obtain ⟨p, hp, rfl⟩ := map_ref_get hx
        obtain ⟨r, hr1, hr'⟩ := hrs.get hp
        obtain ⟨t, ht, rfl⟩ := tri_get hr1
        refine ⟨p, _, rfl, same_seqT hS hr', rfl, _, _, rfl, _, _, rfl, _, _, rfl, rfl, rfl, ?_⟩
        refine ⟨_, rfl, _, rfl, by show 2 ≤ sizeLine; decide, fun q hq => ⟨q, rfl, ⟨_, SqT.of upd_same⟩, ?_⟩⟩
        have nDq : D ≠ q := ne_of_none hd hq
        refine lc1_it walk_tup (fun j H' => Same H H' ∧ SqT K H' q [.str t.1, .str t.2.2] ∧ H' D = some (.lst ((endsL (ts.take i) ++ [t.1, t.2.2].take j).map V.str))) ⟨hS.trans (Same.upd hq), SqT.of upd_same, ?_⟩ (fun _ _ _ p => p.2.1) ?_ ?_
        · rw [upd_ne nDq, hd, List.take_zero, List.append_nil]
        · rintro j y H3 H4 hj ⟨hS3, hq3, hd3⟩ ⟨rfl, hy⟩
          refine ⟨rfl, _, rfl, _, hd3, ?_, ?_, ?_, ?_⟩
          · rw [List.length_map, List.length_append, endsL_len, List.length_take, List.length_take]
            have l2 : [t.1, t.2.2].length = 2 := rfl
            exact Nat.lt_of_le_of_lt (show _ ≤ 4000 by omega) (by decide)
          · intro b o h
            rw [upd_ne (ne_of_none h hD)]
            exact hS3 b o h
          · rcases hq3 with (h | ⟨o, h⟩) | h
            · exact .inl (.inl (by rw [upd_ne (ne_of h hd3 (by intro z; cases z))]; exact h))
            · exact .inl (.inr ⟨o, by rw [upd_ne (ne_of h hd3 (by intro z; cases z))]; exact h⟩)
            · exact .inr h
          · have hy' : ([t.1, t.2.2].map V.str)[j]? = some y := hy
            obtain ⟨z, hz, rfl⟩ := map_str_get hy'
            have e : ∀ l : List Str, (l ++ (some z).toList).map V.str = l.map V.str ++ [V.str z] := fun l => by
              rw [List.map_append]
              rfl
            rw [upd_same, List.take_add_one, hz, ← List.append_assoc, e]
        · rintro H3 ⟨hS3, hq3, hd3⟩
          refine ⟨hS3, ?_⟩
          rw [hd3, endsL_take ht]
          rfl
      · rintro H' ⟨hS, hd⟩
        refine k D H' hD hS ?_
        rw [hd, List.length_map, List.take_of_length_le (by omega)]
end
end Wm
namespace Wm
open PySem L2
abbrev Var := Str × Option Str
def sortV : Option Str → V
  | none => .non
  | some s => .str s
def varV (v : Var) : List V := [.str v.1, sortV v.2]
def varT (v : Var) : List Str := v.1 :: v.2.toList
def textsL (nm : Str) (vars : List Var) (ts : List Tri) : List Str := (nm :: vars.flatMap varT) ++ ts.map (·.2.1)
theorem flat_take {vars : List Var} {i : Nat} {v : Var} (h : vars[i]? = some v) : (vars.take (i + 1)).flatMap varT = (vars.take i).flatMap varT ++ varT v := by
  rw [List.take_add_one, h, List.flatMap_append]
  simp
theorem var_get {vars : List Var} {i : Nat} {r : List V} (h : (vars.map varV)[i]? = some r) : ∃ t, vars[i]? = some t ∧ r = varV t := by
  rw [List.getElem?_map] at h
  cases e : vars[i]? with
  | none =>
    rw [e] at h
    cases h
  | some p =>
    rw [e] at h
    exact ⟨p, rfl, (Option.some.inj h).symm⟩
theorem inV_str {z : Str} {ns : List Str} : inV (.str z) (ns.map V.str) = decide (z ∈ ns) := by
  unfold inV
  induction ns with
  | nil => rfl
  | cons a r ih =>
    rw [List.map_cons, List.any_cons, ih]
    show (a == z || _) = _
    by_cases h : a = z
    · subst h
      simp
    · have h2 : ¬ z = a := fun q => h q.symm
      by_cases h3 : z ∈ r <;> simp [h, h2, h3]
theorem flat_strs (ns : List Str) : (ns.map V.str).all flatV = true := by
  rw [List.all_eq_true]
  intro x hx
  obtain ⟨z, _, rfl⟩ := List.mem_map.mp hx
  rfl
def spTP (K : PySem.W.Frag) : Sp := fun vs H Q _ => ∃ (nm : Str) (a b : Addr) (ps qs : List Addr) (vars : List Var) (ts : List Tri), vs = [.str nm, .ref a, .ref b] ∧ SqT K H a (ps.map V.ref) ∧ RowsAt K H ps (vars.map varV) ∧ SqL K H b (qs.map V.ref) ∧ RowsAt K H qs (ts.map triV) ∧
  ps.length ≤ 1000 ∧ qs.length ≤ 1000 ∧ ∀ d H', H d = none → Same H H' → H' d = some (.lst ((textsL nm vars ts).map V.str)) → Q (.ref d) H'
def spRV (K : PySem.W.Frag) : Sp := fun vs H Q _ => ∃ (a b : Addr) (ns zs : List Str), vs = [.ref a, .ref b] ∧ SqL K H a (ns.map V.str) ∧ SqL K H b (zs.map V.str) ∧ (∀ z ∈ zs, z ∈ ns) ∧ ∀ H', Same H H' → Q .non H'
def spRL (K : PySem.W.Frag) : Sp := fun vs H Q _ => ∃ (a b : Addr) (ns : List Str) (ps : List Addr) (ts : List Tri), vs = [.ref a, .ref b] ∧ SqL K H a (ns.map V.str) ∧ SqT K H b (ps.map V.ref) ∧ RowsAt K H ps (ts.map triV) ∧ ps.length ≤ 1000 ∧ (∀ z ∈ ns, z ∈ endsL ts) ∧ ∀ H', Same H H' → Q .non H'
def Hangs (ts : List Tri) : Prop := ∀ (i : Nat) (t : Tri), 0 < i → ts[i]? = some t → t.1 ∈ endsL (ts.take i) ∨ t.2.2 ∈ endsL (ts.take i)
def spRA (K : PySem.W.Frag) : Sp := fun vs H Q _ => ∃ (b : Addr) (ps : List Addr) (ts : List Tri), vs = [.ref b] ∧ SqT K H b (ps.map V.ref) ∧ RowsAt K H ps (ts.map triV) ∧ ps.length ≤ 1000 ∧ Hangs ts ∧ ∀ H', Same H H' → Q .non H'
section
variable {P : Program} {w : World} {K : PySem.W.Frag} {mg : Str → Option Value} {base : Heap}
theorem scTP : FnScope ["name", "variables", "triples", "texts", "variable", "sort", "x", "word", "y"] ["name", "variables", "triples"] (defScope sTP) := ⟨rfl, rfl, rfl, by decide +kernel, rfl, by decide +kernel, by decide +kernel⟩
theorem ok_tp {f : Addr} {fd : FuncData} (F : Fun K "texts_of_pattern" "texts_of_pattern" sTP f fd) : FnOk P w K mg base CX0 1 f fd ["name", "variables", "triples"] (spTP K) := by
  refine F.ok scTP (fun vs H Q E h => ?_) (fun cdv A outer s H vs Q E hr h => ?_)
  · obtain ⟨nm, a, b, ps, qs, vars, ts, rfl, _⟩ := h
    rfl
  · obtain ⟨nm, a, b, ps, qs, vars, ts, rfl, ha, hva, hb, htr, hn, hn2, k⟩ := h
    have hlen := hva.len
    rw [List.length_map] at hlen
    have hlen2 := htr.len
    rw [List.length_map] at hlen2
    have fl : ∀ i, ((vars.take i).flatMap varT).length ≤ 2 * vars.length := fun i => by
      have e : ∀ l : List Var, (l.flatMap varT).length ≤ 2 * l.length := fun l => by
        induction l with
        | nil => exact Nat.le_refl _
        | cons v r ih =>
          have e : ((v :: r).flatMap varT).length = (varT v).length + (r.flatMap varT).length := by
            rw [List.flatMap_cons, List.length_append]
          have e2 : (varT v).length ≤ 2 := by
            unfold varT
            cases v.2 <;> simp
          have e3 : (v :: r).length = r.length + 1 := rfl
          omega
      have q := e (vars.take i)
      rw [List.length_take] at q
      omega
    refine ⟨_, (pss_cons (ps_set (i := 3) scTP.nd rfl (Or.inl rfl) (pe_lst (pa_cons (pv 0) pa_nil)))
      (pss_cons (ps_for PassesOwn.never rfl (pi_tup (pv 1)) (pg_tup rfl (pgs_cons (pg_name (i := 4) scTP.nd rfl (Or.inl rfl)) (pgs_cons (pg_name (i := 5) scTP.nd rfl (Or.inl rfl)) pgs_nil))) (pss_cons (ps_expr (pe_bm PySem.F.plainAttrs_list PySem.F.slot_list_append PySem.F.type_list_append mt_append (pv 3) (pa_cons (pv 4) pa_nil)))
      (pss_one (ps_if (pt_cmp (pc_notN (pv 5))) (pss_one (ps_expr (pe_bm PySem.F.plainAttrs_list PySem.F.slot_list_append PySem.F.type_list_append mt_append (pv 3) (pa_cons (pv 5) pa_nil)))) pss_nil))))
      (pss_cons (ps_expr (pe_bm PySem.F.plainAttrs_list PySem.F.slot_list_extend PySem.F.type_list_extend mt_extend (pv 3) (pa_cons (pe_lc (own := [("x", 6), ("word", 7), ("y", 8)]) (g := gTup K 3 (gCons (gName 6) (gCons (gName 7) (gCons (gName 8) gNil)))) rfl scTP.nd (pi_list (pv 2)) (blkOk_by (N := ["name", "variables", "triples", "texts", "variable", "sort", "x", "word", "y"]) (sc := defScope sTP) (by decide +kernel)) (fun _ _ _ _ _ => (pg_tup rfl (pgs_cons (pg_name (i := 6) scTP.nd rfl (Or.inl rfl)) (pgs_cons (pg_name (i := 7) scTP.nd rfl (Or.inl rfl)) (pgs_cons (pg_name (i := 8) scTP.nd rfl (Or.inl rfl)) pgs_nil))))) (fun _ _ _ _ _ => pts_nil) (fun _ _ _ _ _ => (pv 7))) pa_nil)))
      (pss_one (ps_ret (pv 3)))))), ?_⟩
    refine ⟨_, rfl, by show 1 ≤ sizeLine; decide, fun d hd => ?_⟩
    have S0 : Same H (upd H d (.lst [.str nm])) := Same.upd hd
    refine ⟨_, rfl, a, rfl, ⟨_, same_seqT S0 ha⟩, for_it walk_tup (fun i σ H' => (∃ u v, σ = [some (.str nm), some (.ref a), some (.ref b), some (.ref d), u, v, none, none, none]) ∧ Same H H' ∧ H' d = some (.lst ((nm :: (vars.take i).flatMap varT).map V.str)))
      ⟨⟨none, none, rfl⟩, S0, upd_same⟩ (fun i σ H' _ p => same_seqT p.2.1 ha) ?_ ?_⟩
    · rintro i x σ H1 H2 hi ⟨⟨u, v, rfl⟩, hS, hl⟩ ⟨rfl, hx⟩
      obtain ⟨p, hp, rfl⟩ := map_ref_get hx
      obtain ⟨r, hr1, hr'⟩ := hva.get hp
      obtain ⟨⟨n, so⟩, ht, rfl⟩ := var_get hr1
      have fi := fl i
      refine ⟨p, _, rfl, same_seqT hS hr', rfl, _, _, rfl, _, _, rfl, rfl, ?_⟩
      refine ⟨_, rfl, .inl ⟨rfl, _, SqL.of hl⟩, _, rfl, d, _, _, rfl, rfl, hl, ?_, ?_⟩
      · rw [List.length_map, List.length_cons]
        exact Nat.lt_of_le_of_lt (show _ ≤ 4000 by omega) (by decide)
      have S1 : Same H (upd H2 d (.lst ((nm :: (vars.take i).flatMap varT).map V.str ++ [.str n]))) := fun b' o h => by
        rw [upd_ne (ne_of_none h hd)]
        exact hS b' o h
      refine ⟨_, rfl, _, rfl, ?_⟩
      cases so with
      | none =>
        refine iteF ⟨⟨_, _, rfl⟩, S1, ?_⟩
        rw [upd_same, flat_take ht]
        have e : (nm :: ((vars.take i).flatMap varT ++ varT (n, none))) = (nm :: (vars.take i).flatMap varT) ++ [n] := rfl
        rw [e, List.map_append]
        rfl
      | some so =>
        refine iteT ?_
        refine ⟨_, rfl, .inl ⟨rfl, _, SqL.of upd_same⟩, _, rfl, d, _, _, rfl, rfl, upd_same, ?_, ?_⟩
        · rw [List.length_append, List.length_map, List.length_cons, List.length_singleton]
          exact Nat.lt_of_le_of_lt (show _ ≤ 4000 by omega) (by decide)
        · refine ⟨⟨_, _, rfl⟩, fun b' o h => ?_, ?_⟩
          · rw [upd_ne (ne_of_none h hd)]
            exact S1 b' o h
          · rw [upd_same, flat_take ht]
            have e : (nm :: ((vars.take i).flatMap varT ++ varT (n, some so))) = (nm :: (vars.take i).flatMap varT) ++ [n, so] := rfl
            rw [e, List.map_append, List.append_assoc]
            rfl
    · rintro σ H1 ⟨⟨u, v, rfl⟩, hS, hl⟩
      rw [List.length_map, List.take_of_length_le (by omega)] at hl
      have fi := fl vars.length
      rw [List.take_length] at fi
      refine ⟨_, rfl, .inl ⟨rfl, _, SqL.of hl⟩, _, rfl, b, rfl, ⟨_, hS.seq hb⟩, fun D hD => ?_⟩
      have nDd : D ≠ d := (ne_of_none hl hD).symm
      refine lc_it walk_list (fun i H' => Same H H' ∧ H' d = some (.lst ((nm :: vars.flatMap varT).map V.str)) ∧ H' D = some (.lst (((ts.take i).map (·.2.1)).map V.str))) ⟨hS.trans (Same.upd hD), by rw [upd_ne nDd.symm]; exact hl, upd_same⟩ (fun i H' _ p => p.1.seq hb) ?_ ?_
      · rintro i x H2 H3 hi ⟨hS2, hl2, hD2⟩ ⟨rfl, hx⟩
        obtain ⟨p, hp, rfl⟩ := map_ref_get hx
        obtain ⟨r, hr1, hr'⟩ := htr.get hp
        obtain ⟨t, ht, rfl⟩ := tri_get hr1
        refine ⟨p, _, rfl, same_seqT hS2 hr', rfl, _, _, rfl, _, _, rfl, _, _, rfl, rfl, rfl, ?_⟩
        refine ⟨_, rfl, _, hD2, ?_, ?_, ?_, ?_⟩
        · rw [List.length_map, List.length_map, List.length_take]
          exact Nat.lt_of_le_of_lt (show _ ≤ 1000 by omega) (by decide)
        · intro b' o h
          rw [upd_ne (ne_of_none h (hS.free hD))]
          exact hS2 b' o h
        · rw [upd_ne nDd.symm]
          exact hl2
        · rw [upd_same, List.take_add_one, ht, List.map_append, List.map_append]
          rfl
      · rintro H2 ⟨hS2, hl2, hD2⟩
        rw [List.length_map, List.take_of_length_le (by omega)] at hD2
        refine ⟨d, D, _, _, rfl, rfl, hl2, hD2, ?_, ?_⟩
        · rw [List.length_map, List.length_map, List.length_map, List.length_cons]
          exact Nat.le_trans (show _ ≤ 4000 by omega) (by decide)
        · refine ⟨_, rfl, ?_⟩
          refine k d _ hd (fun b' o h => ?_) ?_
          · rw [upd_ne (ne_of_none h hd)]
            exact hS2 b' o h
          · rw [upd_same]
            unfold textsL
            rw [List.map_append]
theorem scRV : FnScope ["names", "texts", "text"] ["names", "texts"] (defScope sRV) := ⟨rfl, rfl, rfl, by decide +kernel, rfl, by decide +kernel, by decide +kernel⟩
theorem ok_rv {f : Addr} {fd : FuncData} (F : Fun K "refuse_no_variable" "refuse_no_variable" sRV f fd) : FnOk P w K mg base CX0 1 f fd ["names", "texts"] (spRV K) := by
  refine F.ok scRV (fun vs H Q E h => ?_) (fun cdv A outer s H vs Q E hr h => ?_)
  · obtain ⟨a, b, ns, zs, rfl, _⟩ := h
    rfl
  · obtain ⟨a, b, ns, zs, rfl, ha, hb, hin, k⟩ := h
    refine ⟨_, (pss_one (ps_for PassesOwn.never rfl (pi_list (pv 1)) (pg_name (i := 2) scRV.nd rfl (Or.inl rfl)) (pss_one (ps_if (pt_cmpR op_notIn_seq (pv 2) (pv 0) (by rfl)) (pss_one ps_never) pss_nil)))), ?_⟩
    refine ⟨_, rfl, b, rfl, ⟨_, hb⟩, for_list (K := K) (a := b) (xs := zs.map V.str) (fun i σ H' => (∃ v, σ = [some (.ref a), some (.ref b), v]) ∧ H' = H) ⟨⟨none, rfl⟩, rfl⟩ (fun i σ H' _ p => by rw [p.2]; exact hb) ?_ ?_⟩
    · rintro i y σ H' hi ⟨⟨v, rfl⟩, rfl⟩
      obtain ⟨z, hz, rfl⟩ := map_str_get hi
      refine ⟨_, rfl, _, rfl, a, _, rfl, .inl ha, rfl, flat_strs ns, _, rfl, ?_⟩
      show if (!inV (.str z) (ns.map V.str)) = true then _ else _
      rw [inV_str, decide_eq_true (hin z (List.mem_of_getElem? hz))]
      exact iteF ⟨⟨_, rfl⟩, rfl⟩
    · rintro σ H' ⟨_, rfl⟩
      exact k H' (Same.refl H')
theorem scRL : FnScope ["names", "conditions", "tied", "name"] ["names", "conditions"] (defScope sRL) := ⟨rfl, rfl, rfl, by decide +kernel, rfl, by decide +kernel, by decide +kernel⟩
theorem ok_rl {f fE : Addr} {fd fdE : FuncData} (F : Fun K "refuse_loose" "refuse_loose" sRL f fd) (D : Dn K mg "ends_of" sEO ["triples"] fE fdE) : FnOk P w K mg base CX0 2 f fd ["names", "conditions"] (spRL K) := by
  have G : FnOk P w K mg base CX0 1 fE fdE ["triples"] (spEO K) := ok_eo D.F
  refine F.ok scRL (fun vs H Q E h => ?_) (fun cdv A outer s H vs Q E hr h => ?_)
  · obtain ⟨a, b, ns, ps, ts, rfl, _⟩ := h
    rfl
  · obtain ⟨a, b, ns, ps, ts, rfl, ha, hb, htr, hn, hin, k⟩ := h
    refine ⟨_, (pss_cons (ps_set (i := 2) scRL.nd rfl (Or.inl rfl) (pe_call G hr rfl D.g D.F.kp D.b .nil pass0 (pa_cons (pv 1) pa_nil)))
      (pss_one (ps_for PassesOwn.never rfl (pi_list (pv 0)) (pg_name (i := 3) scRL.nd rfl (Or.inl rfl)) (pss_one (ps_if (pt_cmpR op_notIn_seq (pv 3) (pv 2) (by rfl)) (pss_one ps_never) pss_nil))))), ?_⟩
    refine ⟨_, rfl, b, ps, ts, rfl, .inr hb, htr, hn, fun d H1 hd hS hl => ?_⟩
    refine ⟨_, rfl, a, rfl, ⟨_, hS.seq ha⟩, for_list (K := K) (a := a) (xs := ns.map V.str) (fun i σ H' => (∃ v, σ = [some (.ref a), some (.ref b), some (.ref d), v]) ∧ H' = H1) ⟨⟨none, rfl⟩, rfl⟩ (fun i σ H' _ p => by rw [p.2]; exact hS.seq ha) ?_ ?_⟩
    · rintro i y σ H' hi ⟨⟨v, rfl⟩, rfl⟩
      obtain ⟨z, hz, rfl⟩ := map_str_get hi
      refine ⟨_, rfl, _, rfl, d, _, rfl, .inl (SqL.of hl), rfl, flat_strs _, _, rfl, ?_⟩
      show if (!inV (.str z) ((endsL ts).map V.str)) = true then _ else _
      rw [inV_str, decide_eq_true (hin z (List.mem_of_getElem? hz))]
      exact iteF ⟨⟨_, rfl⟩, rfl⟩
    · rintro σ H' ⟨_, rfl⟩
      exact k H' hS
theorem scRA : FnScope ["conditions", "place", "x", "word", "y", "ahead"] ["conditions"] (defScope sRA) := ⟨rfl, rfl, rfl, by decide +kernel, rfl, by decide +kernel, by decide +kernel⟩
theorem ok_ra {f fE : Addr} {fd fdE : FuncData} (F : Fun K "refuse_apart" "refuse_apart" sRA f fd) (T : TxB mg) (D : Dn K mg "ends_of" sEO ["triples"] fE fdE) : FnOk P w K mg base CX0 2 f fd ["conditions"] (spRA K) := by
  have G : FnOk P w K mg base CX0 1 fE fdE ["triples"] (spEO K) := ok_eo D.F
  refine F.ok scRA (fun vs H Q E h => ?_) (fun cdv A outer s H vs Q E hr h => ?_)
  · obtain ⟨b, ps, ts, rfl, _⟩ := h
    rfl
  · obtain ⟨b, ps, ts, rfl, hb, htr, hn, hh, k⟩ := h
    have hlen := htr.len
    rw [List.length_map] at hlen
    refine ⟨_, (pss_one (ps_for PassesOwn.never rfl (pi_enumT rfl T.enumerate (pa_cons (pv 0) pa_nil)) (pg_tup rfl (pgs_cons (pg_name (i := 1) scRA.nd rfl (Or.inl rfl)) (pgs_cons (pg_tup rfl (pgs_cons (pg_name (i := 2) scRA.nd rfl (Or.inl rfl)) (pgs_cons (pg_name (i := 3) scRA.nd rfl (Or.inl rfl)) (pgs_cons (pg_name (i := 4) scRA.nd rfl (Or.inl rfl)) pgs_nil)))) pgs_nil))) (pss_cons (ps_set (i := 5) scRA.nd rfl (Or.inl rfl) (pe_call G hr rfl D.g D.F.kp D.b .nil pass0 (pa_cons (pe_slice sl_tupA (pv 0) po_none (po_some (pv 1))) pa_nil)))
      (pss_one (ps_if (PW.pt (pw_and (pt_cmpR op_gt (pv 1) pe_int (nomark _)) (pw_and (pt_cmpR op_notIn_seq (pv 2) (pv 5) (by rfl)) (pw_and1 (pt_cmpR op_notIn_seq (pv 4) (pv 5) (by rfl)))))) (pss_one ps_never) pss_nil))))), ?_⟩
    refine ⟨_, rfl, b, _, rfl, hb, for_it walk_enumT (fun i σ H' => (∃ u v x y z, σ = [some (.ref b), u, v, x, y, z]) ∧ Same H H') ⟨⟨none, none, none, none, none, rfl⟩, Same.refl H⟩ (fun i σ H' _ p => same_seqT p.2 hb) ?_ ?_⟩
    · rintro i x σ H1 H2 hi ⟨⟨u, v, x1, x2, x3, rfl⟩, hS⟩ ⟨q, y, z, rfl, hq, rfl, e1, e2⟩
      cases e1
      obtain ⟨p, hp, rfl⟩ := map_ref_get e2
      obtain ⟨r, hr1, hr'⟩ := htr.get hp
      obtain ⟨t, ht, rfl⟩ := tri_get hr1
      have S2 := hS.trans (Same.upd (o := .tup [.int (i : Nat), .ref p]) hq)
      have hi' : i < ps.length := by rw [List.length_map] at hi; exact hi
      refine ⟨q, _, rfl, SqT.of upd_same, rfl, _, _, rfl, _, _, rfl, ⟨p, _, rfl, same_seqT S2 hr', rfl, _, _, rfl, _, _, rfl, _, _, rfl, rfl, rfl, ?_⟩⟩
      refine ⟨_, rfl, _, rfl, _, rfl, b, _, rfl, same_seqT S2 hb, fun h => ?_, fun _ c hc => ?_⟩
      · exfalso
        rw [HT.sIx_nat, List.length_map] at h
        omega
      have S3 := S2.trans (Same.upd (o := .tup (cutV (ps.map V.ref) none (some (i : Int)))) hc)
      have hcut : cutV (ps.map V.ref) none (some (i : Int)) = (ps.take i).map V.ref := by rw [cut_take, List.map_take]
      refine ⟨c, ps.take i, ts.take i, rfl, .inr (SqT.of (by rw [upd_same, hcut])), ?_, by rw [List.length_take]; omega, fun d H3 hd hS3 hl => ?_⟩
      · rw [List.map_take]
        exact (htr.take i).same S3
      refine ⟨_, rfl, _, _, rfl, rfl, _, rfl, ?_⟩
      refine ite2 (fun h0 => ?_) (fun _ => ?_)
      · have h0' : (0 : Int) < (i : Int) := of_decide_eq_true h0
        refine ⟨_, rfl, _, rfl, d, _, rfl, .inl (SqL.of hl), rfl, flat_strs _, _, rfl, ?_⟩
        show if (!inV (.str t.1) ((endsL (ts.take i)).map V.str)) = true then _ else _
        rw [inV_str]
        by_cases m1 : t.1 ∈ endsL (ts.take i)
        · rw [decide_eq_true m1]
          exact iteF (iteF ⟨⟨_, _, _, _, _, rfl⟩, S3.trans hS3⟩)
        · rw [decide_eq_false m1]
          refine iteT ?_
          refine ⟨_, rfl, _, rfl, d, _, rfl, .inl (SqL.of hl), rfl, flat_strs _, _, rfl, ?_⟩
          show if (!inV (.str t.2.2) ((endsL (ts.take i)).map V.str)) = true then _ else _
          have m2 : t.2.2 ∈ endsL (ts.take i) := (hh i t (by omega) ht).resolve_left m1
          rw [inV_str, decide_eq_true m2]
          exact iteF ⟨⟨_, _, _, _, _, rfl⟩, S3.trans hS3⟩
      · exact iteF ⟨⟨_, _, _, _, _, rfl⟩, S3.trans hS3⟩
    · rintro σ H' ⟨_, hS⟩
      exact k H' hS
end
end Wm
namespace Wm
open PySem L2 StX
structure TxP (mg : Str → Option Value) : Prop where
  mv : ∃ t, mg "MOST_VARIABLES" = some (.int 4 t)
  mc : ∃ t, mg "MOST_CONDITIONS" = some (.int 3 t)
theorem DueN.mono {C : Addr} {zs : List Str} {H H1 : Hp} {Q : VK} {E : XK} (hS : Same H H1) (h : DueN C zs H Q E) : DueN C zs H1 Q E := by
  unfold DueN at h ⊢
  split
  · rename_i e
    rw [e] at h
    exact fun H' h1 => h H' (hS.trans h1)
  · rename_i z e
    rw [e] at h
    exact fun d H' h0 h1 h2 => h d H' (hS.free h0) (hS.trans h1) h2
theorem DueN.next {C : Addr} {zs : List Str} {H H1 : Hp} {Q Q' : VK} {E : XK} (h : DueN C zs H Q E) (hS : Same H H1) (r : zs.find? (fun z => !isNm z) = none → ∀ H', Same H1 H' → Q' .non H') : DueN C zs H1 Q' E := by
  have h' := DueN.mono hS h
  unfold DueN at h' ⊢
  cases e : zs.find? (fun z => !isNm z) with
  | none => exact r e
  | some z =>
    rw [e] at h'
    exact h'
theorem flat_len (l : List Var) : (l.flatMap varT).length ≤ 2 * l.length := by
  induction l with
  | nil => exact Nat.le_refl _
  | cons v r ih =>
    have e : ((v :: r).flatMap varT).length = (varT v).length + (r.flatMap varT).length := by
      rw [List.flatMap_cons, List.length_append]
    have e2 : (varT v).length ≤ 2 := by
      unfold varT
      cases v.2 <;> simp
    have e3 : (v :: r).length = r.length + 1 := rfl
    omega
/-- a pattern of which nothing but a text that is no name is to be refused -/
structure PatOk (vars : List Var) (cs gs : List Tri) (hs : List Str) : Prop where
  v1 : 1 ≤ vars.length
  v4 : vars.length ≤ 4
  c1 : 1 ≤ cs.length
  c3 : cs.length ≤ 3
  g3 : gs.length ≤ 1
  h3 : hs.length ≤ 1
  tw : NoTw ((vars.map (·.1)).map V.str)
  en : ∀ z ∈ endsL (cs ++ gs) ++ hs, z ∈ vars.map (·.1)
  lo : ∀ z ∈ vars.map (·.1), z ∈ endsL cs
  ap : Hangs cs
def spCP (K : PySem.W.Frag) (C : Addr) : Sp := fun vs H Q E => ∃ (nm : Str) (a b g h : Addr) (ps qs us : List Addr) (vars : List Var) (cs gs : List Tri) (hs : List Str), vs = [.str nm, .ref a, .ref b, .ref g, .ref h] ∧ SqT K H a (ps.map V.ref) ∧ RowsAt K H ps (vars.map varV) ∧
  SqT K H b (qs.map V.ref) ∧ RowsAt K H qs (cs.map triV) ∧ SqL K H g (us.map V.ref) ∧ RowsAt K H us (gs.map triV) ∧ SqL K H h (hs.map V.str) ∧ PatOk vars cs gs hs ∧ (∀ z ∈ textsL nm vars (cs ++ gs), z.length ≤ 1000) ∧ DueN C (textsL nm vars (cs ++ gs)) H Q E
section
variable {P : Program} {w : World} {K : PySem.W.Frag} {mg : Str → Option Value} {base : Heap}
theorem scCP : FnScope ["name", "variables", "conditions", "given", "hands", "triples", "names", "variable", "sort"] ["name", "variables", "conditions", "given", "hands"] (defScope sCP) := ⟨rfl, rfl, rfl, by decide +kernel, rfl, by decide +kernel, by decide +kernel⟩
theorem ok_cp {f fRC fRN fTP fRT fRV fEO fRL fRA C : Addr} {fd dRC dRN dTP dRT dRV dEO dRL dRA : FuncData} (F : Fun K "check_pattern" "check_pattern" sCP f fd) (T : TxB mg) (TP : TxP mg)
    (RC : Dn K mg "refuse_count" sRC ["what", "count", "least", "most"] fRC dRC) (RN : Dn K mg "refuse_no_name" sRN ["texts"] fRN dRN) (TX : Dn K mg "texts_of_pattern" sTP ["name", "variables", "triples"] fTP dTP) (RT : Dn K mg "refuse_twice" sRT ["names"] fRT dRT)
    (RV : Dn K mg "refuse_no_variable" sRV ["names", "texts"] fRV dRV) (EO : Dn K mg "ends_of" sEO ["triples"] fEO dEO) (RL : Dn K mg "refuse_loose" sRL ["names", "conditions"] fRL dRL) (RA : Dn K mg "refuse_apart" sRA ["conditions"] fRA dRA)
    (GRN : FnOk P w K mg base (L2.CX P w) 4 fRN dRN ["texts"] (spRN K C)) (GRT : FnOk P w K mg base CX0 2 fRT dRT ["names"] (spFT K)) :
    FnOk P w K mg base (L2.CX P w) 5 f fd ["name", "variables", "conditions", "given", "hands"] (spCP K C) := by
  have GRC : FnOk P w K mg base CX0 1 fRC dRC _ spRC := ok_rc RC.F
  have GTX : FnOk P w K mg base CX0 1 fTP dTP _ (spTP K) := ok_tp TX.F
  have GRV : FnOk P w K mg base CX0 1 fRV dRV _ (spRV K) := ok_rv RV.F
  have GEO : FnOk P w K mg base CX0 1 fEO dEO _ (spEO K) := ok_eo EO.F
  have GRL : FnOk P w K mg base CX0 2 fRL dRL _ (spRL K) := ok_rl RL.F EO
  have GRA : FnOk P w K mg base CX0 2 fRA dRA _ (spRA K) := ok_ra RA.F T EO
  obtain ⟨t1, hmv⟩ := TP.mv
  obtain ⟨t2, hmc⟩ := TP.mc
  refine F.okX scCP (fun vs H Q E h => ?_) (fun cdv A outer s H vs Q E hr h => ?_)
  · obtain ⟨nm, a, b, g, h, ps, qs, us, vars, cs, gs, hs, rfl, _⟩ := h
    rfl
  · obtain ⟨nm, a, b, g, h, ps, qs, us, vars, cs, gs, hs, rfl, ha, hva, hb, hcs, hg, hgs, hh, ok, hz, k⟩ := h
    have hr1 : Room 1 _ := hr.mono (by decide)
    have hr2 : Room 2 _ := hr.mono (by decide)
    have l1 := hva.len
    have l2 := hcs.len
    have l3 := hgs.len
    rw [List.length_map] at l1 l2 l3
    have o1 := ok.v4
    have o2 := ok.c3
    have o3 := ok.g3
    have o4 := ok.v1
    have o5 := ok.c1
    have o6 := ok.h3
    refine ⟨_, (pss_cons (ps_expr (pe_call GRC hr1 rfl RC.g RC.F.kp RC.b .nil pass0 (pa_cons pe_str (pa_cons (pe_callB call_len_seq (by rfl) T.len (by decide +kernel) (pa_cons (pv 1) pa_nil)) (pa_cons pe_int (pa_cons (pe_glob (v := .int 4) (by rfl) hmv ⟨_, rfl⟩) pa_nil))))))
      (pss_cons (ps_expr (pe_call GRC hr1 rfl RC.g RC.F.kp RC.b .nil pass0 (pa_cons pe_str (pa_cons (pe_callB call_len_seq (by rfl) T.len (by decide +kernel) (pa_cons (pv 2) pa_nil)) (pa_cons pe_int (pa_cons (pe_glob (v := .int 3) (by rfl) hmc ⟨_, rfl⟩) pa_nil))))))
      (pss_cons (ps_set (i := 5) scCP.nd rfl (Or.inl rfl) (pe_lst (pa_star (pv 2) (pa_star (pv 3) pa_nil))))
      (pss_cons (ps_expr (pe_call GRN hr rfl RN.g RN.F.kp RN.b .nil (passes_call (takes_of rfl rfl rfl rfl) (fun _ _ _ _ h => h)) (pa_cons (pe_call GTX hr1 rfl TX.g TX.F.kp TX.b .nil pass0 (pa_cons (pv 0) (pa_cons (pv 1) (pa_cons (pv 5) pa_nil)))) pa_nil)))
      (pss_cons (ps_setLc (i := 6) (own := [("variable", 7), ("sort", 8)]) (g := gTup K 2 (gCons (gName 7) (gCons (gName 8) gNil))) rfl scCP.nd rfl rfl (sw_true rfl rfl rfl (by decide +kernel)) (pi_tup (pv 1)) (blkOk_by (N := ["name", "variables", "conditions", "given", "hands", "triples", "names", "variable", "sort"]) (sc := defScope sCP) (by decide +kernel)) (fun _ _ _ _ _ => (pg_tup rfl (pgs_cons (pg_name (i := 7) scCP.nd rfl (Or.inl rfl)) (pgs_cons (pg_name (i := 8) scCP.nd rfl (Or.inl rfl)) pgs_nil)))) (fun _ _ _ _ _ => pts_nil) (fun _ _ _ _ _ => (pv 7)))
      (pss_cons (ps_expr (pe_call GRT hr2 rfl RT.g RT.F.kp RT.b .nil pass0 (pa_cons (pv 6) pa_nil)))
      (pss_cons (ps_expr (pe_call GRV hr1 rfl RV.g RV.F.kp RV.b .nil pass0 (pa_cons (pv 6) (pa_cons (pe_lst (pa_star (pe_call GEO hr1 rfl EO.g EO.F.kp EO.b .nil pass0 (pa_cons (pv 5) pa_nil)) (pa_star (pv 4) pa_nil))) pa_nil))))
      (pss_cons (ps_expr (pe_call GRL hr2 rfl RL.g RL.F.kp RL.b .nil pass0 (pa_cons (pv 6) (pa_cons (pv 2) pa_nil))))
      (pss_one (ps_expr (pe_call GRA hr2 rfl RA.g RA.F.kp RA.b .nil pass0 (pa_cons (pv 2) pa_nil)))))))))))), ?_⟩
    refine ⟨_, rfl, a, _, rfl, .inr ha, _, _, _, _, rfl, ?_, ?_, ?_⟩
    · rw [List.length_map]; omega
    · rw [List.length_map]; omega
    refine ⟨_, rfl, b, _, rfl, .inr hb, _, _, _, _, rfl, ?_, ?_, ?_⟩
    · rw [List.length_map]; omega
    · rw [List.length_map]; omega
    -- triples = [*conditions, *given]
    refine ⟨_, rfl, b, _, rfl, .inl hb, _, rfl, g, _, rfl, .inr hg, ?_, fun tr htr => ?_⟩
    · show (qs.map V.ref ++ (us.map V.ref ++ [])).length ≤ sizeLine
      rw [List.append_nil, List.length_append, List.length_map, List.length_map]
      exact Nat.le_trans (show _ ≤ 1000 by omega) (by decide)
    have etr : qs.map V.ref ++ (us.map V.ref ++ []) = (qs ++ us).map V.ref := by rw [List.append_nil, List.map_append]
    have S1 : Same H (upd H tr (.lst (qs.map V.ref ++ (us.map V.ref ++ [])))) := Same.upd htr
    refine ⟨_, rfl, _, rfl, _, rfl, nm, a, tr, ps, qs ++ us, vars, cs ++ gs, rfl, same_seqT S1 ha, hva.same S1, SqL.of (by rw [upd_same, etr]), ?_, by omega, by rw [List.length_append]; omega, fun d H2 hd hS2 hl => ?_⟩
    · rw [List.map_append]
      exact (hcs.append hgs).same S1
    have S2 := S1.trans hS2
    refine ⟨d, _, rfl, SqL.of hl, ?_, hz, ?_⟩
    · unfold textsL
      have e : ∀ l : List Var, (l.flatMap varT).length ≤ 2 * l.length := flat_len
      have e2 := e vars
      rw [List.length_append, List.length_cons, List.length_map, List.length_append]
      omega
    refine DueN.next k S2 fun hn H3 hS3 => ?_
    have S3 := S2.trans hS3
    -- names = [variable for variable, sort in variables]
    refine ⟨_, rfl, a, rfl, ⟨_, same_seqT S3 ha⟩, fun D hD => ?_⟩
    refine lc_it walk_tup (fun i H' => Same H3 H' ∧ H' D = some (.lst (((vars.take i).map (·.1)).map V.str))) ⟨Same.upd hD, upd_same⟩ (fun i H' _ p => same_seqT (S3.trans p.1) ha) ?_ ?_
    · rintro i x H4 H5 hi ⟨hS4, hD4⟩ ⟨rfl, hx⟩
      obtain ⟨p, hp, rfl⟩ := map_ref_get hx
      obtain ⟨r, hr1', hr'⟩ := hva.get hp
      obtain ⟨⟨n, so⟩, ht, rfl⟩ := var_get hr1'
      refine ⟨p, _, rfl, same_seqT (S3.trans hS4) hr', rfl, _, _, rfl, _, _, rfl, rfl, rfl, ?_⟩
      refine ⟨_, rfl, _, hD4, ?_, ?_, ?_⟩
      · rw [List.length_map, List.length_map, List.length_take]
        exact Nat.lt_of_le_of_lt (show _ ≤ 1000 by omega) (by decide)
      · intro b' o h
        rw [upd_ne (ne_of_none h hD)]
        exact hS4 b' o h
      · rw [upd_same, List.take_add_one, ht, List.map_append, List.map_append]
        rfl
    rintro H4 ⟨hS4, hD4⟩
    rw [List.length_map, List.take_of_length_le (by omega)] at hD4
    have S4 := S3.trans hS4
    have tr4 : H4 tr = some (.lst ((qs ++ us).map V.ref)) := by
      have q : (upd H tr (.lst (qs.map V.ref ++ (us.map V.ref ++ [])))) tr = some (.lst ((qs ++ us).map V.ref)) := by rw [upd_same, etr]
      exact hS4 _ _ (hS3 _ _ (hS2 _ _ q))
    -- refuse_twice(names)
    refine ⟨_, rfl, D, _, rfl, .inl (SqL.of hD4), flat_strs _, ok.tw, fun H5 hS5 => ?_⟩
    have S5 := S4.trans hS5
    -- refuse_no_variable(names, [*ends_of(triples), *hands])
    refine ⟨_, rfl, _, rfl, tr, qs ++ us, cs ++ gs, rfl, .inl (SqL.of (hS5 _ _ tr4)), ?_, by rw [List.length_append]; omega, fun e H6 he hS6 hl6 => ?_⟩
    · rw [List.map_append]
      exact (hcs.append hgs).same S5
    have S6 := S5.trans hS6
    refine ⟨e, _, rfl, .inr (SqL.of hl6), _, rfl, h, _, rfl, .inr (S6.seq hh), ?_, fun l hl => ?_⟩
    · rw [List.length_append, List.length_map, endsL_len, List.length_append, List.append_nil, List.length_map]
      exact Nat.le_trans (show _ ≤ 1000 by omega) (by decide)
    refine ⟨D, l, _, endsL (cs ++ gs) ++ hs, rfl, SqL.of (Same.upd hl _ _ (hS6 _ _ (hS5 _ _ hD4))), SqL.of ?_, ok.en, fun H7 hS7 => ?_⟩
    · rw [upd_same, List.append_nil, List.map_append]
    have S7 := S6.trans ((Same.upd hl).trans hS7)
    have D7 := hS7 _ _ (Same.upd hl _ _ (hS6 _ _ (hS5 _ _ hD4)))
    -- refuse_loose(names, conditions)
    refine ⟨_, rfl, _, rfl, D, b, _, qs, cs, rfl, SqL.of D7, same_seqT S7 hb, hcs.same S7, by omega, ok.lo, fun H8 hS8 => ?_⟩
    have S8 := S7.trans hS8
    -- refuse_apart(conditions)
    refine ⟨_, rfl, b, qs, cs, rfl, same_seqT S8 hb, hcs.same S8, by omega, ok.ap, fun H9 hS9 => ?_⟩
    unfold DueN at k
    rw [hn] at k
    exact k H9 (S8.trans hS9)
end
end Wm
namespace Wm
open PySem L2 StX
def barF (nm : Str) (t1 t2 : Addr) : List (Str × V) := putF "conditions" (.ref t2) (putF "variables" (.ref t1) (putF "name" (.str nm) []))
theorem ne1 : ¬ (("variables" : Str) = "conditions") := by decide +kernel
theorem ne2 : ¬ (("name" : Str) = "conditions") := by decide +kernel
theorem ne3 : ¬ (("name" : Str) = "variables") := by decide +kernel
theorem barF_name (nm : Str) (t1 t2 : Addr) : (barF nm t1 t2).lookup ("name" : Str) = some (.str nm) := by
  unfold barF
  rw [lookup_putF, if_neg ne2, lookup_putF, if_neg ne3, lookup_putF, if_pos rfl]
theorem barF_vars (nm : Str) (t1 t2 : Addr) : (barF nm t1 t2).lookup ("variables" : Str) = some (.ref t1) := by
  unfold barF
  rw [lookup_putF, if_neg ne1, lookup_putF, if_pos rfl]
theorem barF_cond (nm : Str) (t1 t2 : Addr) : (barF nm t1 t2).lookup ("conditions" : Str) = some (.ref t2) := by
  unfold barF
  rw [lookup_putF, if_pos rfl]
theorem putF_len (f : Str) (v : V) : ∀ fs : List (Str × V), (putF f v fs).length ≤ fs.length + 1
  | [] => Nat.le_refl _
  | (g, x) :: r => by
    unfold putF
    split
    · exact Nat.le_succ _
    · have := putF_len f v r
      simp only [List.length_cons]
      omega
/-- what the making of an object that may be refused by a text is to bring; H0: what stood ahead of it -/
def DueM (C : Addr) (zs : List Str) (H0 : Hp) (ok : Hp → Prop) (E : XK) : Prop := match zs.find? (fun z => !isNm z) with
  | none => ∀ H', Same H0 H' → ok H'
  | some z => ∀ d H', H0 d = none → Same H0 H' → H' d = some (.xd (ef1 "name" "noname" (.str z))) → E (.ref C) (some d) H'
theorem DueM.toN {C : Addr} {zs : List Str} {H0 H1 : Hp} {ok : Hp → Prop} {Q : VK} {E : XK} (h : DueM C zs H0 ok E) (hS : Same H0 H1) (r : zs.find? (fun z => !isNm z) = none → ∀ H', Same H1 H' → Q .non H') : DueN C zs H1 Q E := by
  unfold DueM at h
  unfold DueN
  cases e : zs.find? (fun z => !isNm z) with
  | none => exact r e
  | some z =>
    rw [e] at h
    exact fun d H' h0 h1 h2 => h d H' (hS.free h0) (hS.trans h1) h2
structure TxBar (K : PySem.W.Frag) (mg : Str → Option Value) (B fB : Addr) : Prop where
  cl : Cls K B
  nn : NoAttr K B "name"
  nv : NoAttr K B "variables"
  nc : NoAttr K B "conditions"
  g : mg "Bar" = some (.ref B)
  m : Mk K B fB
def spBar (K : PySem.W.Frag) (C B : Addr) : Sp := fun vs H Q E => ∃ (H0 : Hp) (x dx l1 l2 : Addr) (nm : Str) (ps qs : List Addr) (vars : List Var) (cs : List Tri), vs = [.ref x, .str nm, .ref l1, .ref l2] ∧ Same H0 H ∧ H0 x = none ∧ H x = some (.ins B dx []) ∧
  SqL K H0 l1 (ps.map V.ref) ∧ RowsAt K H0 ps (vars.map varV) ∧ SqL K H0 l2 (qs.map V.ref) ∧ RowsAt K H0 qs (cs.map triV) ∧ PatOk vars cs [] [] ∧ (∀ z ∈ textsL nm vars cs, z.length ≤ 1000) ∧
  DueM C (textsL nm vars cs) H0 (fun H' => ∀ t1 t2, H' x = some (.ins B dx (barF nm t1 t2)) → H' t1 = some (.tup (ps.map V.ref)) → H' t2 = some (.tup (qs.map V.ref)) → Q .non H') E
section
variable {P : Program} {w : World} {K : PySem.W.Frag} {mg : Str → Option Value} {base : Heap}
theorem scBar : FnScope ["self", "name", "variables", "conditions"] ["self", "name", "variables", "conditions"] (defScope sBar) := ⟨rfl, rfl, rfl, by decide +kernel, rfl, by decide +kernel, by decide +kernel⟩
theorem ok_bar {f fTT fCP C B : Addr} {fd dTT dCP : FuncData} (F : Fun K "__init__" "Bar.__init__" sBar f fd) (T : TxB mg) (TB : TxBar K mg B f) (TT : Dn K mg "tuple_of_tuples" sTT ["rows"] fTT dTT)
    (CP : Dn K mg "check_pattern" sCP ["name", "variables", "conditions", "given", "hands"] fCP dCP) (GCP : FnOk P w K mg base (L2.CX P w) 5 fCP dCP ["name", "variables", "conditions", "given", "hands"] (spCP K C)) :
    FnOk P w K mg base (L2.CX P w) 6 f fd ["self", "name", "variables", "conditions"] (spBar K C B) := by
  have GTT : FnOk P w K mg base CX0 1 fTT dTT _ (spTT K) := ok_tt TT.F T
  refine F.okX scBar (fun vs H Q E h => ?_) (fun cdv A outer s H vs Q E hr h => ?_)
  · obtain ⟨H0, x, dx, l1, l2, nm, ps, qs, vars, cs, rfl, _⟩ := h
    rfl
  · obtain ⟨H0, x, dx, l1, l2, nm, ps, qs, vars, cs, rfl, S0, x0, hx, h1, hv, h2, hc, ok, hz, k⟩ := h
    have hr1 : Room 1 _ := hr.mono (by decide)
    have b1 := hv.len
    have b2 := hc.len
    rw [List.length_map] at b1 b2
    have o1 := ok.v4
    have o2 := ok.c3
    refine ⟨_, (pss_cons (ps_fld (pv 0) (pv 1) rfl)
      (pss_cons (ps_fld (pv 0) (pe_call GTT hr1 rfl TT.g TT.F.kp TT.b .nil pass0 (pa_cons (pv 2) pa_nil)) rfl)
      (pss_cons (ps_fld (pv 0) (pe_call GTT hr1 rfl TT.g TT.F.kp TT.b .nil pass0 (pa_cons (pv 3) pa_nil)) rfl)
      (pss_one (ps_expr (pe_call GCP hr rfl CP.g CP.F.kp CP.b .nil (passes_call (takes_of rfl rfl rfl rfl) (fun _ _ _ _ h => h)) (pa_cons (pv 1) (pa_cons (pe_fld (pv 0) rfl) (pa_cons (pe_fld (pv 0) rfl) (pa_cons (pe_lst pa_nil) (pa_cons (pe_lst pa_nil) pa_nil))))))))))), ?_⟩
    -- self.name = name
    refine ⟨_, rfl, _, rfl, x, B, dx, [], rfl, hx, TB.cl, TB.nn, (by show 0 < 1000; decide), ?_⟩
    have Sx : ∀ {H1 : Hp} {o : HO}, Same H0 H1 → Same H0 (upd H1 x o) := fun hs b o e => by
      rw [upd_ne (ne_of_none e x0)]
      exact hs b o e
    have S1 := Sx (o := .ins B dx (putF "name" (.str nm) [])) S0
    -- self.variables = tuple_of_tuples(variables)
    refine ⟨_, rfl, l1, ps, _, rfl, S1.seq h1, hv.same S1, by omega, fun t1 H2 ht1 hS2 hl1 => ?_⟩
    have S2 := S1.trans hS2
    have hx2 := hS2 _ _ (upd_same (H := H) (a := x) (o := .ins B dx (putF "name" (.str nm) [])))
    have n1x : t1 ≠ x := fun z => by
      rw [z, upd_same] at ht1
      cases ht1
    refine ⟨_, rfl, x, B, dx, _, rfl, hx2, TB.cl, TB.nv, Nat.lt_of_le_of_lt (putF_len _ _ _) (by decide), ?_⟩
    have S3 := Sx (o := .ins B dx (putF "variables" (.ref t1) (putF "name" (.str nm) []))) S2
    -- self.conditions = tuple_of_tuples(conditions)
    refine ⟨_, rfl, l2, qs, _, rfl, S3.seq h2, hc.same S3, by omega, fun t2 H4 ht2 hS4 hl2 => ?_⟩
    have S4 := S3.trans hS4
    have hx4 := hS4 _ _ (upd_same (H := H2) (a := x) (o := .ins B dx (putF "variables" (.ref t1) (putF "name" (.str nm) []))))
    have hl1' := hS4 t1 _ (by rw [upd_ne n1x]; exact hl1)
    have n2x : t2 ≠ x := fun z => by
      rw [z, upd_same] at ht2
      cases ht2
    refine ⟨_, rfl, x, B, dx, _, rfl, hx4, TB.cl, TB.nc, Nat.lt_of_le_of_lt (putF_len _ _ _) (Nat.lt_of_le_of_lt (Nat.succ_le_succ (putF_len _ _ _)) (by decide)), ?_⟩
    have S5 := Sx (o := .ins B dx (barF nm t1 t2)) S4
    have hx5 : (upd H4 x (.ins B dx (barF nm t1 t2))) x = some (.ins B dx (barF nm t1 t2)) := upd_same
    have h15 : (upd H4 x (.ins B dx (barF nm t1 t2))) t1 = some (.tup (ps.map V.ref)) := by rw [upd_ne n1x]; exact hl1'
    have h25 : (upd H4 x (.ins B dx (barF nm t1 t2))) t2 = some (.tup (qs.map V.ref)) := by rw [upd_ne n2x]; exact hl2
    -- check_pattern(name, self.variables, self.conditions, [], [])
    refine ⟨_, rfl, _, rfl, x, B, dx, _, _, rfl, hx5, TB.cl, TB.nv, barF_vars _ _ _, _, rfl, x, B, dx, _, _, rfl, hx5, TB.cl, TB.nc, barF_cond _ _ _, Nat.zero_le _, fun g hg => ⟨Nat.zero_le _, fun h hh => ?_⟩⟩
    have S7 : Same (upd H4 x (.ins B dx (barF nm t1 t2))) (upd (upd (upd H4 x (.ins B dx (barF nm t1 t2))) g (.lst [])) h (.lst [])) := (Same.upd hg).trans (Same.upd hh)
    have S57 := S5.trans S7
    have e0 : cs ++ ([] : List Tri) = cs := List.append_nil cs
    refine ⟨nm, t1, t2, g, h, ps, qs, [], vars, cs, [], [], rfl, SqT.of (S7 _ _ h15), hv.same S57, SqT.of (S7 _ _ h25), hc.same S57, SqL.of (Same.upd hh _ _ upd_same), True.intro, SqL.of upd_same, ok, by rw [e0]; exact hz, ?_⟩
    rw [e0]
    refine k.toN S57 fun hn H8 hS8 => ?_
    unfold DueM at k
    rw [hn] at k
    exact k H8 (S57.trans hS8) t1 t2 (hS8 _ _ (S7 _ _ hx5)) (hS8 _ _ (S7 _ _ h15)) (hS8 _ _ (S7 _ _ h25))
end
end Wm
namespace Wm
open PySem L2
/-- str(o), o an instance of the class at C, whose __str__ is the def at f -/
def rStrO (C : Addr) (sp : Sp) : List V → Hp → VK → Prop := fun xs H Q => ∃ (a dx : Addr) (fs : List (Str × V)), xs = [.ref a] ∧ H a = some (.ins C dx fs) ∧ sp [.ref a] H (fun v H' => ∃ z : Str, v = .str z ∧ Q (.str z) H') E0
theorem call_strO {X : Cx} {C f : Addr} {fd : FuncData} {k : Nat} {sp : Sp} (hs : PySem.W.findIn X.K (.ref C) "__str__" = some (some (.ref f))) (hf : PySem.W.isFn X.K (.ref f) = true) (F : FnOk X.prog X.w X.K X.mg X.base CX0 k f fd ["self"] sp) (hr : Room (k + 2) X.A) (hb : Binds X.K fd ["self"] []) :
    CallR X (.type "str") (rStrO C sp) := by
  intro pins s σ H xs us Q I r h
  obtain ⟨a, dx, fs, rfl, ha, h⟩ := h
  cases r with
  | cons rx rr =>
    cases rr
    cases rx
    obtain ⟨mA, ob, _⟩ := ins_get I.hok ha
    obtain ⟨od, J, _⟩ := ob.look
    have hr1 : Room (k + 1) X.A.in1 := hr.in1
    have hr2 : Room k X.A.in1.in1 := hr1.in1
    refine PySem.W.kso_call hr2.units0 I.kIn J hs hf ?_
    have hl : ([Value.ref a] ++ []).length = (["self"] : List Str).length := rfl
    have rv : Vals [V.ref a] [Value.ref a] := .cons rfl .nil
    refine wpAny_call (codeAny_mono (F.run X.A.in1.in1 X.stack s H ⟨[Value.ref a], []⟩ [Value.ref a] [V.ref a] _ E0 hr2 I.env0.in1.in1 (hb s [Value.ref a] I.kIn hl) rv h) fun r s' hq => ?_)
    cases r with
    | error e => exact hq.elim
    | ok fl =>
      cases fl with
      | ret u =>
        obtain ⟨v, H', J', ru, z, rfl, q⟩ := I.after (Q := fun v H' => ∃ z : Str, v = .str z ∧ Q (.str z) H') hq
        obtain ⟨t, rfl⟩ := ru
        exact ⟨.str z, H', J', ⟨t, rfl⟩, q⟩
      | next => exact False.elim hq
      | brk => exact False.elim hq
      | cont => exact False.elim hq
end Wm
namespace Wm
open PySem L2 PySem.W
/-- a == b, a an instance of the class at C, whose __eq__ is the def at f -/
def rEqO (K : Frag) (C : Addr) (sp : Sp) : V → V → Hp → VK → Prop := fun x y H Q => ∃ (a b D dx dy : Addr) (fs gs : List (Str × V)), x = .ref a ∧ y = .ref b ∧ H a = some (.ins C dx fs) ∧ H b = some (.ins D dy gs) ∧ notFirst K C (.ref D) = true ∧
  sp [.ref a, .ref b] H (fun v H' => ∃ t : Bool, v = .bl t ∧ Q (.bl t) H') E0
theorem op_eqO {X : Cx} {C f : Addr} {fd : FuncData} {k : Nat} {sp : Sp} {ps : List Str} (hs : findIn X.K (.ref C) "__eq__" = some (some (.ref f))) (hf : isFn X.K (.ref f) = true) (F : FnOk X.prog X.w X.K X.mg X.base CX0 k f fd ps sp) (hr : Room k X.A) (hb : L2.Binds X.K fd ps []) :
    OpR X (compareOp .Eq) (rEqO X.K C sp) := by
  intro pins s σ H x y v u Q I rx ry h
  obtain ⟨a, b, D, dx, dy, fs, gs, rfl, rfl, ha, hb', nf, h⟩ := h
  cases rx
  cases ry
  obtain ⟨mA, oa, _⟩ := ins_get I.hok ha
  obtain ⟨mB, ob, _⟩ := ins_get I.hok hb'
  obtain ⟨od, J, _⟩ := oa.look
  obtain ⟨od', J', _⟩ := ob.look
  obtain ⟨m, hF⟩ := I.fr
  show wpAny _ _ (richCompare .Eq (.ref a) (.ref b)) _ _ _
  refine cmp_K hr.units0 hF I.ok.mod.kin J (InstAt.type J') nf hs hf ?_
  have rv : Vals [V.ref a, V.ref b] [Value.ref a, Value.ref b] := .cons rfl (.cons rfl .nil)
  have hl : ([Value.ref a, Value.ref b] ++ []).length = ps.length := F.len _ _ _ _ h
  have bd := hb s [Value.ref a, Value.ref b] I.kIn hl
  rw [List.append_nil] at bd
  refine wpAny_call (codeAny_mono (F.run X.A X.stack s H ⟨[Value.ref a, Value.ref b], []⟩ [Value.ref a, Value.ref b] [V.ref a, V.ref b] _ E0 hr I.env0 bd rv h) fun r s' hq => ?_)
  cases r with
  | error e => exact hq.elim
  | ok fl =>
    cases fl with
    | next => exact hq.elim
    | brk => exact hq.elim
    | cont => exact hq.elim
    | ret u =>
      obtain ⟨v, H', I2, rv, t, rfl, q⟩ := I.after hq
      cases rv
      exact ⟨.bl t, H', I2, rfl, q⟩
/-- the class at C has its own __eq__, at f, and no __ne__ -/
structure EqNe (K : Frag) (C f : Addr) : Prop where
  ex : ∃ nm q N bs hdct sn sub ab col dd k0 k1 k2 k3 k5 newId oc od es ep osl of, K.lookup C = some (excClassObj nm q C N bs [.type "object"] hdct sn sub ab col dd k0 k1 k2 k3 k5 newId) ∧
    K.lookup N = some ⟨oc, od, .dict es ep, osl⟩ ∧ StrKeys es ∧ nsFind es "__eq__" = some (.ref f) ∧ nsFind es "__ne__" = none ∧ K.lookup f = some of ∧ of.cls = .type "function"
theorem EqNe.at {K : Frag} {C f x dx : Addr} (e : EqNe K C f) {h : Heap} (X : K.In h) (hx : h.get? x = some (instObj C dx)) : h.OwnEqNoNe x C f "object" [.type "object"] := by
  obtain ⟨nm, q, N, bs, hdct, sn, sub, ab, col, dd, k0, k1, k2, k3, k5, newId, oc, od, es, ep, osl, of, h1, h2, h3, h4, h5, h6, h7⟩ := e.ex
  exact ⟨_, of, nm, q, N, bs, hdct, sn, sub, ab, col, dd, k0, k1, k2, k3, k5, newId, nsFind es, _, hx, rfl, X C _ h1, ⟨_, es, ep, X N _ h2, rfl, h3, fun _ => rfl⟩, h4, X f _ h6, h7, PySem.F.cmp_object.mro, PySem.F.cmp_object.eq.lookup, h5⟩
def rNeO (C : Addr) (sp : Sp) : V → V → Hp → VK → Prop := fun x y H Q => ∃ (a b dx dy : Addr) (fs gs : List (Str × V)), x = .ref a ∧ y = .ref b ∧ H a = some (.ins C dx fs) ∧ H b = some (.ins C dy gs) ∧
  sp [.ref a, .ref b] H (fun v H' => ∃ t : Bool, v = .bl t ∧ Q (.bl !t) H') E0
theorem op_neO {X : Cx} {C f : Addr} {fd : FuncData} {k : Nat} {sp : Sp} {ps : List Str} (hs : EqNe X.K C f) (F : FnOk X.prog X.w X.K X.mg X.base CX0 k f fd ps sp) (hr : Room (k + 1) X.A) (hb : L2.Binds X.K fd ps []) :
    OpR X (compareOp .NotEq) (rNeO C sp) := by
  intro pins s σ H x y v u Q I rx ry h
  obtain ⟨a, b, dx, dy, fs, gs, rfl, rfl, ha, hb', h⟩ := h
  cases rx
  cases ry
  have oa := (I.hok a _ ha).2.2.2.1
  have ob := (I.hok b _ hb').2.2.2.1
  have hr1 : Room k X.A.in1 := hr.in1
  refine compareOp_ne_ownEq PySem.F.cmp_object (hs.at I.kIn oa) ob rfl ?_ ?_
  · exact hr1.units0
  have rv : Vals [V.ref a, V.ref b] [Value.ref a, Value.ref b] := .cons rfl (.cons rfl .nil)
  have hl : ([Value.ref a, Value.ref b] ++ []).length = ps.length := F.len _ _ _ _ h
  have bd := hb s [Value.ref a, Value.ref b] I.kIn hl
  rw [List.append_nil] at bd
  refine wpAny_call (codeAny_mono (F.run X.A.in1 X.stack s H ⟨[Value.ref a, Value.ref b], []⟩ [Value.ref a, Value.ref b] [V.ref a, V.ref b] _ E0 hr1 I.env0.in1 bd rv h) fun r s' hq => ?_)
  cases r with
  | error e => exact hq.elim
  | ok fl =>
    cases fl with
    | next => exact hq.elim
    | brk => exact hq.elim
    | cont => exact hq.elim
    | ret u =>
      obtain ⟨v, H', I2, rv, t, rfl, q⟩ := I.after (Q := fun v H' => ∃ t : Bool, v = .bl t ∧ Q (.bl !t) H') hq
      cases rv
      exact ⟨t, rfl, .bl !t, H', I2, rfl, q⟩
end Wm
namespace Wm
open PySem L2 StX
def rulF (nm : Str) (t1 t2 t3 : Addr) (by_ : Str) : List (Str × V) := putF "by" (.str by_) (putF "gives" (.ref t3) (barF nm t1 t2))
theorem nr1 : ¬ (("gives" : Str) = "by") := by decide +kernel
theorem nr2 : ¬ (("name" : Str) = "by") := by decide +kernel
theorem nr3 : ¬ (("name" : Str) = "gives") := by decide +kernel
theorem nr4 : ¬ (("variables" : Str) = "by") := by decide +kernel
theorem nr5 : ¬ (("variables" : Str) = "gives") := by decide +kernel
theorem nr6 : ¬ (("conditions" : Str) = "by") := by decide +kernel
theorem nr7 : ¬ (("conditions" : Str) = "gives") := by decide +kernel
theorem rulF_name (nm : Str) (t1 t2 t3 : Addr) (b : Str) : (rulF nm t1 t2 t3 b).lookup ("name" : Str) = some (.str nm) := by
  unfold rulF
  rw [lookup_putF, if_neg nr2, lookup_putF, if_neg nr3]
  exact barF_name _ _ _
theorem rulF_vars (nm : Str) (t1 t2 t3 : Addr) (b : Str) : (rulF nm t1 t2 t3 b).lookup ("variables" : Str) = some (.ref t1) := by
  unfold rulF
  rw [lookup_putF, if_neg nr4, lookup_putF, if_neg nr5]
  exact barF_vars _ _ _
theorem rulF_cond (nm : Str) (t1 t2 t3 : Addr) (b : Str) : (rulF nm t1 t2 t3 b).lookup ("conditions" : Str) = some (.ref t2) := by
  unfold rulF
  rw [lookup_putF, if_neg nr6, lookup_putF, if_neg nr7]
  exact barF_cond _ _ _
theorem rulF_gives (nm : Str) (t1 t2 t3 : Addr) (b : Str) : (rulF nm t1 t2 t3 b).lookup ("gives" : Str) = some (.ref t3) := by
  unfold rulF
  rw [lookup_putF, if_neg nr1, lookup_putF, if_pos rfl]
theorem rulF_by (nm : Str) (t1 t2 t3 : Addr) (b : Str) : (rulF nm t1 t2 t3 b).lookup ("by" : Str) = some (.str b) := by
  unfold rulF
  rw [lookup_putF, if_pos rfl]
theorem barF_len (nm : Str) (t1 t2 : Addr) : (barF nm t1 t2).length ≤ 3 := Nat.le_trans (putF_len _ _ _) (Nat.succ_le_succ (Nat.le_trans (putF_len _ _ _) (Nat.succ_le_succ (putF_len _ _ _))))
structure TxRul (K : PySem.W.Frag) (mg : Str → Option Value) (B fB : Addr) : Prop where
  cl : Cls K B
  nn : NoAttr K B "name"
  nv : NoAttr K B "variables"
  nc : NoAttr K B "conditions"
  ng : NoAttr K B "gives"
  nb : NoAttr K B "by"
  g : mg "Rule" = some (.ref B)
  m : Mk K B fB
def spRul (K : PySem.W.Frag) (C B : Addr) : Sp := fun vs H Q E => ∃ (H0 : Hp) (x dx l1 l2 g : Addr) (nm b : Str) (ps qs : List Addr) (vars : List Var) (cs : List Tri) (gt : Tri), vs = [.ref x, .str nm, .ref l1, .ref l2, .ref g, .str b] ∧ Same H0 H ∧ H0 x = none ∧ H x = some (.ins B dx []) ∧
  SqL K H0 l1 (ps.map V.ref) ∧ RowsAt K H0 ps (vars.map varV) ∧ SqL K H0 l2 (qs.map V.ref) ∧ RowsAt K H0 qs (cs.map triV) ∧ H0 g = some (.tup (triV gt)) ∧ PatOk vars cs [gt] [b] ∧ (∀ z ∈ textsL nm vars (cs ++ [gt]), z.length ≤ 1000) ∧
  DueM C (textsL nm vars (cs ++ [gt])) H0 (fun H' => ∀ t1 t2, H' x = some (.ins B dx (rulF nm t1 t2 g b)) → H' t1 = some (.tup (ps.map V.ref)) → H' t2 = some (.tup (qs.map V.ref)) → Q .non H') E
section
variable {P : Program} {w : World} {K : PySem.W.Frag} {mg : Str → Option Value} {base : Heap}
theorem scRul : FnScope ["self", "name", "variables", "conditions", "gives", "by"] ["self", "name", "variables", "conditions", "gives", "by"] (defScope sRul) := ⟨rfl, rfl, rfl, by decide +kernel, rfl, by decide +kernel, by decide +kernel⟩
theorem ok_rul {f fTT fCP C B : Addr} {fd dTT dCP : FuncData} (F : Fun K "__init__" "Rule.__init__" sRul f fd) (T : TxB mg) (TB : TxRul K mg B f) (TT : Dn K mg "tuple_of_tuples" sTT ["rows"] fTT dTT)
    (CP : Dn K mg "check_pattern" sCP ["name", "variables", "conditions", "given", "hands"] fCP dCP) (GCP : FnOk P w K mg base (L2.CX P w) 5 fCP dCP ["name", "variables", "conditions", "given", "hands"] (spCP K C)) :
    FnOk P w K mg base (L2.CX P w) 6 f fd ["self", "name", "variables", "conditions", "gives", "by"] (spRul K C B) := by
  have GTT : FnOk P w K mg base CX0 1 fTT dTT _ (spTT K) := ok_tt TT.F T
  refine F.okX scRul (fun vs H Q E h => ?_) (fun cdv A outer s H vs Q E hr h => ?_)
  · obtain ⟨H0, x, dx, l1, l2, g, nm, b, ps, qs, vars, cs, gt, rfl, _⟩ := h
    rfl
  · obtain ⟨H0, x, dx, l1, l2, g, nm, b, ps, qs, vars, cs, gt, rfl, S0, x0, hx, h1, hv, h2, hc, hg, ok, hz, k⟩ := h
    have hr1 : Room 1 _ := hr.mono (by decide)
    have b1 := hv.len
    have b2 := hc.len
    rw [List.length_map] at b1 b2
    have o1 := ok.v4
    have o2 := ok.c3
    have ngx : g ≠ x := ne_of_none hg x0
    refine ⟨_, (pss_cons (ps_fld (pv 0) (pv 1) rfl)
      (pss_cons (ps_fld (pv 0) (pe_call GTT hr1 rfl TT.g TT.F.kp TT.b .nil pass0 (pa_cons (pv 2) pa_nil)) rfl)
      (pss_cons (ps_fld (pv 0) (pe_call GTT hr1 rfl TT.g TT.F.kp TT.b .nil pass0 (pa_cons (pv 3) pa_nil)) rfl)
      (pss_cons (ps_fld (pv 0) (pe_callTy call_tupN (by rfl) T.tuple (by decide +kernel) (pa_cons (pv 4) pa_nil)) rfl)
      (pss_cons (ps_fld (pv 0) (pv 5) rfl)
      (pss_one (ps_expr (pe_call GCP hr rfl CP.g CP.F.kp CP.b .nil (passes_call (takes_of rfl rfl rfl rfl) (fun _ _ _ _ h => h)) (pa_cons (pv 1) (pa_cons (pe_fld (pv 0) rfl) (pa_cons (pe_fld (pv 0) rfl) (pa_cons (pe_lst (pa_cons (pe_fld (pv 0) rfl) pa_nil)) (pa_cons (pe_lst (pa_cons (pv 5) pa_nil)) pa_nil))))))))))))), ?_⟩
    have Sx : ∀ {H1 : Hp} {o : HO}, Same H0 H1 → Same H0 (upd H1 x o) := fun hs b o e => by
      rw [upd_ne (ne_of_none e x0)]
      exact hs b o e
    refine ⟨_, rfl, _, rfl, x, B, dx, [], rfl, hx, TB.cl, TB.nn, (by show 0 < 1000; decide), ?_⟩
    have S1 := Sx (o := .ins B dx (putF "name" (.str nm) [])) S0
    refine ⟨_, rfl, l1, ps, _, rfl, S1.seq h1, hv.same S1, by omega, fun t1 H2 ht1 hS2 hl1 => ?_⟩
    have S2 := S1.trans hS2
    have hx2 := hS2 _ _ (upd_same (H := H) (a := x) (o := .ins B dx (putF "name" (.str nm) [])))
    have n1x : t1 ≠ x := fun z => by
      rw [z, upd_same] at ht1
      cases ht1
    refine ⟨_, rfl, x, B, dx, _, rfl, hx2, TB.cl, TB.nv, Nat.lt_of_le_of_lt (putF_len _ _ _) (by decide), ?_⟩
    have S3 := Sx (o := .ins B dx (putF "variables" (.ref t1) (putF "name" (.str nm) []))) S2
    refine ⟨_, rfl, l2, qs, _, rfl, S3.seq h2, hc.same S3, by omega, fun t2 H4 ht2 hS4 hl2 => ?_⟩
    have S4 := S3.trans hS4
    have hx4 := hS4 _ _ (upd_same (H := H2) (a := x) (o := .ins B dx (putF "variables" (.ref t1) (putF "name" (.str nm) []))))
    have hl1' := hS4 t1 _ (by rw [upd_ne n1x]; exact hl1)
    have n2x : t2 ≠ x := fun z => by
      rw [z, upd_same] at ht2
      cases ht2
    refine ⟨_, rfl, x, B, dx, _, rfl, hx4, TB.cl, TB.nc, Nat.lt_of_le_of_lt (putF_len _ _ _) (Nat.lt_of_le_of_lt (Nat.succ_le_succ (putF_len _ _ _)) (by decide)), ?_⟩
    have S5 := Sx (o := .ins B dx (barF nm t1 t2)) S4
    -- self.gives = tuple(gives); self.by = by
    refine ⟨_, rfl, g, _, rfl, .inr ⟨SqT.of (S5 _ _ hg), ?_⟩⟩
    refine ⟨_, rfl, x, B, dx, _, rfl, upd_same, TB.cl, TB.ng, Nat.lt_of_le_of_lt (barF_len nm t1 t2) (by decide), ?_⟩
    refine ⟨_, rfl, _, rfl, x, B, dx, _, rfl, upd_same, TB.cl, TB.nb, Nat.lt_of_le_of_lt (Nat.le_trans (putF_len _ _ _) (Nat.succ_le_succ (barF_len nm t1 t2))) (by decide), ?_⟩
    rw [upd_upd, upd_upd]
    show _
    generalize hH6 : upd H4 x (.ins B dx (putF "by" (.str b) (putF "gives" (.ref g) (putF "conditions" (.ref t2) (putF "variables" (.ref t1) (putF "name" (.str nm) [])))))) = H6
    have S6 : Same H0 H6 := by
      rw [← hH6]
      exact Sx S4
    have hx6 : H6 x = some (.ins B dx (rulF nm t1 t2 g b)) := by rw [← hH6, upd_same]; rfl
    have h16 : H6 t1 = some (.tup (ps.map V.ref)) := by rw [← hH6, upd_ne n1x]; exact hl1'
    have h26 : H6 t2 = some (.tup (qs.map V.ref)) := by rw [← hH6, upd_ne n2x]; exact hl2
    -- check_pattern(name, self.variables, self.conditions, [self.gives], [by])
    refine ⟨_, rfl, _, rfl, x, B, dx, _, _, rfl, hx6, TB.cl, TB.nv, rulF_vars _ _ _ _ _, _, rfl, x, B, dx, _, _, rfl, hx6, TB.cl, TB.nc, rulF_cond _ _ _ _ _, _, rfl, x, B, dx, _, _, rfl, hx6, TB.cl, TB.ng, rulF_gives _ _ _ _ _, by show 1 ≤ sizeLine; decide, fun gl hgl => ⟨_, rfl, by show 1 ≤ sizeLine; decide, fun h hh => ?_⟩⟩
    have S7 : Same H6 (upd (upd H6 gl (.lst [.ref g])) h (.lst [.str b])) := (Same.upd hgl).trans (Same.upd hh)
    have S67 := S6.trans S7
    refine ⟨nm, t1, t2, gl, h, ps, qs, [g], vars, cs, [gt], [b], rfl, SqT.of (S7 _ _ h16), hv.same S67, SqT.of (S7 _ _ h26), hc.same S67, SqL.of (Same.upd hh _ _ upd_same), ⟨SqT.of (S67 _ _ hg), True.intro⟩, SqL.of upd_same, ok, hz, ?_⟩
    refine k.toN S67 fun hn H8 hS8 => ?_
    unfold DueM at k
    rw [hn] at k
    exact k H8 (S67.trans hS8) t1 t2 (hS8 _ _ (S7 _ _ hx6)) (hS8 _ _ (S7 _ _ h16)) (hS8 _ _ (S7 _ _ h26))
end
end Wm
namespace Wm
open PySem L2 StX
def sortD : Option Str → PyData
  | none => .none
  | some s => .str s
def varD (v : Var) : List PyData := [.str v.1, sortD v.2]
def triD (t : Tri) : List PyData := [.str t.1, .str t.2.1, .str t.2.2]
def rowsD (rs : List (List PyData)) : PyData := .tuple (rs.map PyData.tuple)
theorem dp_var {K : PySem.W.Frag} {H : Hp} (v : Var) : DpAll K H (varV v) (varD v) := by
  obtain ⟨n, s⟩ := v
  cases s with
  | none => exact .cons (.str _) (.cons .non .nil)
  | some s => exact .cons (.str _) (.cons (.str _) .nil)
theorem dp_tri {K : PySem.W.Frag} {H : Hp} (t : Tri) : DpAll K H (triV t) (triD t) := .cons (.str _) (.cons (.str _) (.cons (.str _) .nil))
theorem dp_rows {K : PySem.W.Frag} {H : Hp} {α : Type} {f : α → List V} {g : α → List PyData} (h : ∀ a, DpAll K H (f a) (g a)) : ∀ {ps : List Addr} {xs : List α}, RowsAt K H ps (xs.map f) → DpAll K H (ps.map V.ref) ((xs.map g).map PyData.tuple)
  | [], [], _ => .nil
  | _ :: _, x :: _, r => .cons (.tup r.1 (h x)) (dp_rows h r.2)
  | [], _ :: _, r => r.elim
  | _ :: _, [], r => r.elim
/-- the parts that rules and bars have alike, as they stand at t1 and t2 -/
structure RowsD (K : PySem.W.Frag) (H : Hp) (t1 t2 : Addr) (vars : List Var) (cs : List Tri) : Prop where
  ex : ∃ ps qs : List Addr, SqT K H t1 (ps.map V.ref) ∧ RowsAt K H ps (vars.map varV) ∧ SqT K H t2 (qs.map V.ref) ∧ RowsAt K H qs (cs.map triV)
  s1 : SeqAt.shaped (rowsD (vars.map varD)) = true
  s2 : SeqAt.shaped (rowsD (cs.map triD)) = true
theorem RowsD.d1 {K : PySem.W.Frag} {H : Hp} {t1 t2 : Addr} {vars : List Var} {cs : List Tri} (h : RowsD K H t1 t2 vars cs) : Dp K H (.ref t1) (rowsD (vars.map varD)) := by
  obtain ⟨ps, qs, a, b, _⟩ := h.ex
  exact .tup a (dp_rows dp_var b)
theorem RowsD.d2 {K : PySem.W.Frag} {H : Hp} {t1 t2 : Addr} {vars : List Var} {cs : List Tri} (h : RowsD K H t1 t2 vars cs) : Dp K H (.ref t2) (rowsD (cs.map triD)) := by
  obtain ⟨ps, qs, _, _, a, b⟩ := h.ex
  exact .tup a (dp_rows dp_tri b)
def sameB (nm : Str) (vars : List Var) (cs : List Tri) (nm' : Str) (vars' : List Var) (cs' : List Tri) : Bool := decide (nm = nm') && (PyData.eqv (rowsD (vars.map varD)) (rowsD (vars'.map varD)) && PyData.eqv (rowsD (cs.map triD)) (rowsD (cs'.map triD)))
def spBE (K : PySem.W.Frag) (B : Addr) : Sp := fun vs H Q _ => ∃ (x y : Addr), vs = [.ref x, .ref y] ∧
  ((∃ (dx dy t1 t2 s1 s2 : Addr) (nm nm' : Str) (vars vars' : List Var) (cs cs' : List Tri), H x = some (.ins B dx (barF nm t1 t2)) ∧ H y = some (.ins B dy (barF nm' s1 s2)) ∧ TyX K H (.ref y) (.ref B) ∧ RowsD K H t1 t2 vars cs ∧ RowsD K H s1 s2 vars' cs' ∧ Q (.bl (sameB nm vars cs nm' vars' cs')) H) ∨
   (∃ D, TyX K H (.ref y) (.ref D) ∧ PySem.W.kitOne K (.ref D) (.ref B) = some false ∧ Q (.bl false) H))
def sameR (nm : Str) (vars : List Var) (cs : List Tri) (g : Tri) (b : Str) (nm' : Str) (vars' : List Var) (cs' : List Tri) (g' : Tri) (b' : Str) : Bool := decide (nm = nm') && (PyData.eqv (rowsD (vars.map varD)) (rowsD (vars'.map varD)) && (PyData.eqv (rowsD (cs.map triD)) (rowsD (cs'.map triD)) && (PyData.eqv (.tuple (triD g)) (.tuple (triD g')) && decide (b = b'))))
def spRE (K : PySem.W.Frag) (B : Addr) : Sp := fun vs H Q _ => ∃ (x y : Addr), vs = [.ref x, .ref y] ∧
  ((∃ (dx dy t1 t2 t3 s1 s2 s3 : Addr) (nm nm' b b' : Str) (vars vars' : List Var) (cs cs' : List Tri) (g g' : Tri), H x = some (.ins B dx (rulF nm t1 t2 t3 b)) ∧ H y = some (.ins B dy (rulF nm' s1 s2 s3 b')) ∧ TyX K H (.ref y) (.ref B) ∧ RowsD K H t1 t2 vars cs ∧ RowsD K H s1 s2 vars' cs' ∧ SqT K H t3 (triV g) ∧ SqT K H s3 (triV g') ∧
      SeqAt.shaped (.tuple (triD g)) = true ∧ SeqAt.shaped (.tuple (triD g')) = true ∧ Q (.bl (sameR nm vars cs g b nm' vars' cs' g' b')) H) ∨
   (∃ D, TyX K H (.ref y) (.ref D) ∧ PySem.W.kitOne K (.ref D) (.ref B) = some false ∧ Q (.bl false) H))
section
variable {P : Program} {w : World} {K : PySem.W.Frag} {mg : Str → Option Value} {base : Heap}
theorem scBE : FnScope ["self", "other"] ["self", "other"] (defScope sBE) := ⟨rfl, rfl, rfl, by decide +kernel, rfl, by decide +kernel, by decide +kernel⟩
theorem ok_be {f fB B : Addr} {fd : FuncData} (F : Fun K "__eq__" "Bar.__eq__" sBE f fd) (T : TxB mg) (TB : TxBar K mg B fB) (kk : PySem.W.kitOne K (.ref B) (.ref B) = some true) : FnOk P w K mg base CX0 1 f fd ["self", "other"] (spBE K B) := by
  refine F.ok scBE (fun vs H Q E h => ?_) (fun cdv A outer s H vs Q E hr h => ?_)
  · obtain ⟨x, y, rfl, _⟩ := h
    rfl
  · obtain ⟨x, y, rfl, h⟩ := h
    refine ⟨_, (pss_one (ps_ret (pe_and (pe_callB call_isi (by rfl) T.isinstance (by decide +kernel) (pa_cons (pv 1) (pa_cons (pe_glob (v := .ref B) (by rfl) TB.g rfl) pa_nil)))
      (pe_and (pe_cmpR op_eq (pe_fld (pv 0) rfl) (pe_fld (pv 1) rfl) (nomark _))
      (pe_and (pe_cmpR (op_eqD hr.units) (pe_fld (pv 0) rfl) (pe_fld (pv 1) rfl) (nomark _))
      (pe_one (pe_cmpR (op_eqD hr.units) (pe_fld (pv 0) rfl) (pe_fld (pv 1) rfl) (nomark _)))))))), ?_⟩
    refine ⟨_, rfl, ?_⟩
    rcases h with ⟨dx, dy, t1, t2, s1, s2, nm, nm', vars, vars', cs, cs', hx, hy, ty, r, r', q⟩ | ⟨D, ty, kf, q⟩
    · refine ⟨_, _, _, _, _, rfl, .own B, ty, kk, true, rfl, ?_⟩
      refine iteT ?_
      refine ⟨_, rfl, x, B, dx, _, _, rfl, hx, TB.cl, TB.nn, barF_name _ _ _, _, rfl, y, B, dy, _, _, rfl, hy, TB.cl, TB.nn, barF_name _ _ _, rfl, _, rfl, ?_⟩
      unfold sameB at q
      refine ite2 (fun c => ?_) (fun c => ?_)
      rotate_left
      · have e : ¬ nm = nm' := fun e => c (by rw [e]; exact decide_eq_true rfl)
        rw [decide_eq_false e, Bool.false_and] at q
        exact q
      have e1 : nm = nm' := V.str.inj (of_decide_eq_true c)
      rw [decide_eq_true e1, Bool.true_and] at q
      refine ⟨_, rfl, x, B, dx, _, _, rfl, hx, TB.cl, TB.nv, barF_vars _ _ _, _, rfl, y, B, dy, _, _, rfl, hy, TB.cl, TB.nv, barF_vars _ _ _, _, _, r.d1, r'.d1, r.s1, r'.s1, _, rfl, ?_⟩
      refine ite2 (fun c => ?_) (fun c => ?_)
      rotate_left
      · rw [Bool.eq_false_iff.mpr c, Bool.false_and] at q
        exact q
      rw [c, Bool.true_and] at q
      exact ⟨_, rfl, x, B, dx, _, _, rfl, hx, TB.cl, TB.nc, barF_cond _ _ _, _, rfl, y, B, dy, _, _, rfl, hy, TB.cl, TB.nc, barF_cond _ _ _, _, _, r.d2, r'.d2, r.s2, r'.s2, q⟩
    · refine ⟨_, _, _, _, _, rfl, .own B, ty, kf, false, rfl, ?_⟩
      exact iteF q
theorem scRE : FnScope ["self", "other"] ["self", "other"] (defScope sRE) := ⟨rfl, rfl, rfl, by decide +kernel, rfl, by decide +kernel, by decide +kernel⟩
theorem ok_re {f fB B : Addr} {fd : FuncData} (F : Fun K "__eq__" "Rule.__eq__" sRE f fd) (T : TxB mg) (TB : TxRul K mg B fB) (kk : PySem.W.kitOne K (.ref B) (.ref B) = some true) : FnOk P w K mg base CX0 1 f fd ["self", "other"] (spRE K B) := by
  refine F.ok scRE (fun vs H Q E h => ?_) (fun cdv A outer s H vs Q E hr h => ?_)
  · obtain ⟨x, y, rfl, _⟩ := h
    rfl
  · obtain ⟨x, y, rfl, h⟩ := h
    refine ⟨_, (pss_one (ps_ret (pe_and (pe_callB call_isi (by rfl) T.isinstance (by decide +kernel) (pa_cons (pv 1) (pa_cons (pe_glob (v := .ref B) (by rfl) TB.g rfl) pa_nil)))
      (pe_and (pe_cmpR op_eq (pe_fld (pv 0) rfl) (pe_fld (pv 1) rfl) (nomark _))
      (pe_and (pe_cmpR (op_eqD hr.units) (pe_fld (pv 0) rfl) (pe_fld (pv 1) rfl) (nomark _))
      (pe_and (pe_cmpR (op_eqD hr.units) (pe_fld (pv 0) rfl) (pe_fld (pv 1) rfl) (nomark _))
      (pe_and (pe_cmpR (op_eqD hr.units) (pe_fld (pv 0) rfl) (pe_fld (pv 1) rfl) (nomark _))
      (pe_one (pe_cmpR op_eq (pe_fld (pv 0) rfl) (pe_fld (pv 1) rfl) (nomark _)))))))))), ?_⟩
    refine ⟨_, rfl, ?_⟩
    rcases h with ⟨dx, dy, t1, t2, t3, s1, s2, s3, nm, nm', b, b', vars, vars', cs, cs', g, g', hx, hy, ty, r, r', h3, h3', sg, sg', q⟩ | ⟨D, ty, kf, q⟩
    · refine ⟨_, _, _, _, _, rfl, .own B, ty, kk, true, rfl, ?_⟩
      refine iteT ?_
      refine ⟨_, rfl, x, B, dx, _, _, rfl, hx, TB.cl, TB.nn, rulF_name _ _ _ _ _, _, rfl, y, B, dy, _, _, rfl, hy, TB.cl, TB.nn, rulF_name _ _ _ _ _, rfl, _, rfl, ?_⟩
      unfold sameR at q
      refine ite2 (fun c => ?_) (fun c => ?_)
      rotate_left
      · have e : ¬ nm = nm' := fun e => c (by rw [e]; exact decide_eq_true rfl)
        rw [decide_eq_false e, Bool.false_and] at q
        exact q
      have e1 : nm = nm' := V.str.inj (of_decide_eq_true c)
      rw [decide_eq_true e1, Bool.true_and] at q
      refine ⟨_, rfl, x, B, dx, _, _, rfl, hx, TB.cl, TB.nv, rulF_vars _ _ _ _ _, _, rfl, y, B, dy, _, _, rfl, hy, TB.cl, TB.nv, rulF_vars _ _ _ _ _, _, _, r.d1, r'.d1, r.s1, r'.s1, _, rfl, ?_⟩
      refine ite2 (fun c => ?_) (fun c => ?_)
      rotate_left
      · rw [Bool.eq_false_iff.mpr c, Bool.false_and] at q
        exact q
      rw [c, Bool.true_and] at q
      refine ⟨_, rfl, x, B, dx, _, _, rfl, hx, TB.cl, TB.nc, rulF_cond _ _ _ _ _, _, rfl, y, B, dy, _, _, rfl, hy, TB.cl, TB.nc, rulF_cond _ _ _ _ _, _, _, r.d2, r'.d2, r.s2, r'.s2, _, rfl, ?_⟩
      refine ite2 (fun c => ?_) (fun c => ?_)
      rotate_left
      · rw [Bool.eq_false_iff.mpr c, Bool.false_and] at q
        exact q
      rw [c, Bool.true_and] at q
      refine ⟨_, rfl, x, B, dx, _, _, rfl, hx, TB.cl, TB.ng, rulF_gives _ _ _ _ _, _, rfl, y, B, dy, _, _, rfl, hy, TB.cl, TB.ng, rulF_gives _ _ _ _ _, _, _, .tup h3 (dp_tri g), .tup h3' (dp_tri g'), sg, sg', _, rfl, ?_⟩
      refine ite2 (fun c => ?_) (fun c => ?_)
      rotate_left
      · rw [Bool.eq_false_iff.mpr c, Bool.false_and] at q
        exact q
      rw [c, Bool.true_and] at q
      refine ⟨_, rfl, x, B, dx, _, _, rfl, hx, TB.cl, TB.nb, rulF_by _ _ _ _ _, _, rfl, y, B, dy, _, _, rfl, hy, TB.cl, TB.nb, rulF_by _ _ _ _ _, rfl, ?_⟩
      have eb : decide (V.str b = V.str b') = decide (b = b') := decide_eq_decide.mpr ⟨V.str.inj, fun e => by rw [e]⟩
      rw [eb]
      exact q
    · refine ⟨_, _, _, _, _, rfl, .own B, ty, kf, false, rfl, ?_⟩
      exact iteF q
end
end Wm
/-! names as the laws draw them: texts of at most six signs -/
namespace Wm
open PySem L2
def lowC (c : Nat) : Prop := 97 ≤ c ∧ c ≤ 122
def figC (c : Nat) : Prop := 48 ≤ c ∧ c ≤ 57
/-- a text of small letters and figures, the first a letter -/
def NmP (z : Str) : Prop := ∃ c cs, z.cps.toList = c :: cs ∧ lowC c ∧ ∀ d ∈ cs, lowC d ∨ figC d
theorem toList_app (a b : Str) : (a ++ b).cps.toList = a.cps.toList ++ b.cps.toList := by
  show (a.cps ++ b.cps).toList = _
  simp
theorem NmP.app {a b : Str} (h : NmP a) (hb : ∀ d ∈ b.cps.toList, lowC d ∨ figC d) : NmP (a ++ b) := by
  obtain ⟨c, cs, e, l, r⟩ := h
  refine ⟨c, cs ++ b.cps.toList, by rw [toList_app, e]; rfl, l, fun d hd => ?_⟩
  rcases List.mem_append.mp hd with h | h
  · exact r d h
  · exact hb d h
theorem NmP.one {c : Nat} (h : lowC c) : NmP ⟨#[c]⟩ := ⟨c, [], rfl, h, fun _ z => nomatch z⟩
theorem NmP.ok {z : Str} (h : NmP z) : ∀ c ∈ z.cps.toList, c < 1114112 := by
  obtain ⟨c, cs, e, l, r⟩ := h
  intro d hd
  rw [e] at hd
  rcases List.mem_cons.mp hd with h | h
  · rw [h]
    exact Nat.lt_of_le_of_lt l.2 (by decide)
  · rcases r d h with q | q
    · exact Nat.lt_of_le_of_lt q.2 (by decide)
    · exact Nat.lt_of_le_of_lt q.2 (by decide)
def ABC36 : Str := PySem.Str.ofString "abcdefghijklmnopqrstuvwxyz0123456789"
theorem abc36_len : ABC36.length = 36 := by decide +kernel
theorem abc_low {i : Nat} {c : Nat} (hi : i < 26) (h : ABC36.cps.toList[i]? = some c) : lowC c := by
  have q : ∀ j : Fin 26, ∀ d ∈ ABC36.cps.toList[j.1]?, 97 ≤ d ∧ d ≤ 122 := by decide +kernel
  exact q ⟨i, hi⟩ c (by rw [h]; exact rfl)
theorem abc_any {i : Nat} {c : Nat} (h : ABC36.cps.toList[i]? = some c) : lowC c ∨ figC c := by
  have q : ∀ d ∈ ABC36.cps.toList, (97 ≤ d ∧ d ≤ 122) ∨ (48 ≤ d ∧ d ≤ 57) := by decide +kernel
  exact q c (List.mem_of_getElem? h)
/-- the text of a number -/
def numS (n : Nat) : Str := PySem.Str.ofString (toString (n : Int))
def numB (n : Nat) : Bool := (numS n).cps.toList.all (fun d => decide (48 ≤ d ∧ d ≤ 57)) && (decide ((numS n).length ≤ 2) && decide (1 ≤ (numS n).length))
theorem num_all : ∀ n : Fin 70, numB n.1 = true := by decide +kernel
theorem num_inj0 : ∀ n m : Fin 70, (numS n.1).cps.toList = (numS m.1).cps.toList → n = m := by decide +kernel
theorem num_sign {n : Nat} (h : n < 70) : (∀ d ∈ (numS n).cps.toList, lowC d ∨ figC d) ∧ (numS n).length ≤ 2 ∧ 1 ≤ (numS n).length := by
  obtain ⟨a, b⟩ := Bool.and_eq_true_iff.mp (num_all ⟨n, h⟩)
  obtain ⟨b, c⟩ := Bool.and_eq_true_iff.mp b
  refine ⟨fun d hd => .inr ?_, of_decide_eq_true b, of_decide_eq_true c⟩
  have q := List.all_eq_true.mp a d hd
  exact of_decide_eq_true (p := 48 ≤ d ∧ d ≤ 57) q
theorem num_inj {n m : Nat} (hn : n < 70) (hm : m < 70) (h : numS n = numS m) : n = m := congrArg Fin.val (num_inj0 ⟨n, hn⟩ ⟨m, hm⟩ (by rw [h]))
/-- the tries for a name: the word, then the word with 1, 2 .. -/
def tryS (z : Str) : Nat → Str
  | 0 => z
  | n + 1 => z ++ numS (n + 1)
theorem app_inj {a b c : Str} (h : a ++ b = a ++ c) : b = c := by
  have e := congrArg (fun z : Str => z.cps.toList) h
  simp only [toList_app] at e
  have q := List.append_cancel_left e
  cases b; cases c
  simp only at q
  congr
  exact Array.toList_inj.mp q
theorem try_inj {z : Str} {n m : Nat} (hn : n < 70) (hm : m < 70) (h : tryS z n = tryS z m) : n = m := by
  have key : ∀ k, k + 1 < 70 → z ≠ z ++ numS (k + 1) := fun k hk e => by
    have l := congrArg (fun z : Str => z.cps.toList.length) e
    simp only [toList_app, List.length_append] at l
    have q := (num_sign hk).2.2
    have q' : 1 ≤ (numS (k + 1)).cps.toList.length := by simpa [PySem.Str.length] using q
    omega
  cases n with
  | zero =>
    cases m with
    | zero => rfl
    | succ m => exact (key m hm h).elim
  | succ n =>
    cases m with
    | zero => exact (key n hn h.symm).elim
    | succ m => exact num_inj hn hm (app_inj h)
theorem holes {α : Type} [BEq α] [LawfulBEq α] {f : Nat → α} : ∀ {n : Nat} {l : List α}, (∀ i j, i < n → j < n → f i = f j → i = j) → (∀ i, i < n → f i ∈ l) → n ≤ l.length
  | 0, _, _, _ => Nat.zero_le _
  | n + 1, l, inj, h => by
    have hm := h n (Nat.lt_succ_self n)
    have q := holes (n := n) (l := l.erase (f n)) (fun i j hi hj => inj i j (by omega) (by omega)) (fun i hi => by
      refine (List.mem_erase_of_ne fun e => ?_).mpr (h i (by omega))
      have := inj i n (by omega) (by omega) e
      omega)
    rw [List.length_erase_of_mem hm] at q
    have := List.length_pos_of_mem hm
    omega
theorem try_end {z : Str} {taken : List Str} {n : Nat} (ht : taken.length ≤ 60) (h : ∀ i, i < n → tryS z i ∈ taken) (hn : n ≤ 61) : n ≤ taken.length :=
  holes (f := tryS z) (fun i j hi hj e => try_inj (by omega) (by omega) e) h
theorem inV_strs {z : Str} {ns : List Str} : inV (.str z) (ns.map V.str) = decide (z ∈ ns) := by
  unfold inV
  rw [List.any_map]
  induction ns with
  | nil => simp
  | cons a r ih =>
    rw [List.any_cons, ih]
    have e : eqV (.str a) (.str z) = decide (a = z) := by
      unfold eqV
      by_cases h : a = z
      · simp [h]
      · simp [h]
    show (eqV (.str a) (.str z) || _) = _
    rw [e]
    by_cases h : a = z
    · simp [h]
    · have h' : ¬ z = a := fun x => h x.symm
      simp [h, h']
end Wm
namespace Wm
open PySem L2
theorem StOk.upd {p d : Addr} {H : Hp} {o : HO} (n : d ≠ p) (h : StOk H p) : StOk (L2.upd H d o) p := by
  obtain ⟨a, b, c, e, r⟩ := h
  exact ⟨a, b, c, by rw [upd_ne n.symm]; exact e, r⟩
theorem StOk.same {p : Addr} {H H' : Hp} (e : Same H H') (h : StOk H p) : StOk H' p := by
  obtain ⟨a, b, c, q, r⟩ := h
  exact ⟨a, b, c, e _ _ q, r⟩
theorem st_free {p d : Addr} {H : Hp} (h : StOk H p) (n : H d = none) : d ≠ p := by
  obtain ⟨a, b, c, e, _⟩ := h
  exact fun z => by
    rw [z, e] at n
    cases n
theorem but_new {p d : Addr} {H H1 : Hp} {o : HO} (b : But p H H1) (n : d ≠ p) (h0 : H d = none) : But p H (L2.upd H1 d o) := fun q u nq e => by
  rw [upd_ne (ne_of_none e h0)]
  exact b q u nq e
theorem flats (ns : List Str) : (ns.map V.str).all flatV = true := by
  induction ns with
  | nil => rfl
  | cons a r ih => rw [List.map_cons, List.all_cons, ih]; rfl
def spNam : Sp := fun vs H Q _ => ∃ (p ln : Addr) (taken : List Str), vs = [.ref p, .ref ln] ∧ StOk H p ∧ ln ≠ p ∧ H ln = some (.lst (taken.map V.str)) ∧ taken.length ≤ 60 ∧
  ∀ (z : Str) H', NmP z → z.length ≤ 6 → z ∉ taken → But p H H' → StOk H' p → Q (.str z) H'
def spNms : Sp := fun vs H Q _ => ∃ (p : Addr) (n : Int), vs = [.ref p, .int n] ∧ StOk H p ∧ 0 ≤ n ∧ n ≤ 60 ∧
  ∀ (zs : List Str) d H', H d = none → d ≠ p → But p H H' → StOk H' p → H' d = some (.lst (zs.map V.str)) → zs.length = n.toNat → zs.Nodup → (∀ z ∈ zs, NmP z ∧ z.length ≤ 6) → Q (.ref d) H'
/-- how many tries are left -/
def mu7 (σ : L2.St) : Nat := match (σ[7]? : Option (Option V)) with
  | some (some (V.int n)) => 100 - n.toNat
  | _ => 0
theorem log_small {n : Nat} (h : n ≤ 100) : ((n : Int) + 1).natAbs.log2 < 1920 := by
  have e : ((n : Int) + 1).natAbs = n + 1 := by omega
  rw [e]
  have q : (n + 1).log2 ≤ n + 1 := Nat.log2_le_self _
  omega
theorem try_nm {z : Str} (h : NmP z) (hl : z.length ≤ 4) {n : Nat} (hn : n ≤ 60) : NmP (tryS z n) ∧ (tryS z n).length ≤ 6 := by
  cases n with
  | zero => exact ⟨h, by show z.length ≤ 6; omega⟩
  | succ n =>
    have q := num_sign (n := n + 1) (by omega)
    refine ⟨h.app q.1, ?_⟩
    show (z ++ numS (n + 1)).length ≤ 6
    rw [len_app]
    omega
section
variable {P : Program} {w : World} {K : PySem.W.Frag} {mg : Str → Option Value} {base : Heap}
theorem scNam : FnScope ["_law_s", "_law_taken", "_law_some", "_law_kind", "_law_word", "_law_k", "_law_found_here", "_law_n"] ["_law_s", "_law_taken"] (defScope sNam) := ⟨rfl, rfl, rfl, by decide +kernel, rfl, by decide +kernel, by decide +kernel⟩
theorem ok_nam {f fg : Addr} {fd fdg : FuncData} (F : Fun K "_law_name" "_law_name" sNam f fd) (T : TxB mg) (tstr : mg "str" = none) (D : Dn K mg "_law_digit" sDigit ["_law_state_here", "_law_base"] fg fdg) : FnOk P w K mg base CX0 2 f fd ["_law_s", "_law_taken"] spNam := by
  have G : FnOk P w K mg base CX0 1 fg fdg ["_law_state_here", "_law_base"] spDigit := ok_digit D.F
  refine F.ok scNam (fun vs H Q E h => ?_) (fun cdv A outer s H vs Q E hr h => ?_)
  · obtain ⟨p, ln, tk, rfl, _⟩ := h
    rfl
  · obtain ⟨p, ln, taken, rfl, hS, nlp, hT, hl, k⟩ := h
    refine ⟨_, (pss_cons (ps_set (i := 2) scNam.nd rfl (Or.inl rfl) pe_str)
      (pss_cons (ps_set (i := 3) scNam.nd rfl (Or.inl rfl) (pe_call G hr rfl D.g D.F.kp D.b .nil pass0 (pa_cons (pv 0) (pa_cons pe_int pa_nil))))
      (pss_cons (ps_set (i := 4) scNam.nd rfl (Or.inl rfl) (pe_ix ix_str (pv 2) (pe_call G hr rfl D.g D.F.kp D.b .nil pass0 (pa_cons (pv 0) (pa_cons pe_int pa_nil))) (fun _ _ => rfl)))
      (pss_cons (ps_for PassesOwn.never rfl (pi_range1 rfl T.range (pa_cons (pe_call G hr rfl D.g D.F.kp D.b .nil pass0 (pa_cons (pv 0) (pa_cons pe_int pa_nil))) pa_nil)) (pg_name (i := 5) scNam.nd rfl (Or.inl rfl)) (pss_one (ps_set (i := 4) scNam.nd rfl (Or.inl rfl) (pe_op op_add_str (pv 4) (pe_ix ix_str (pv 2) (pe_call G hr rfl D.g D.F.kp D.b .nil pass0 (pa_cons (pv 0) (pa_cons pe_int pa_nil))) (fun _ _ => rfl))))))
      (pss_cons (ps_if (pt_cmpR op_eq (pv 3) pe_int (nomark _)) (pss_one (ps_set (i := 4) scNam.nd rfl (Or.inl rfl) (pe_ix ix_list (pe_lst (pa_cons pe_str (pa_cons pe_str (pa_cons pe_str (pa_cons pe_str pa_nil))))) (pe_call G hr rfl D.g D.F.kp D.b .nil pass0 (pa_cons (pv 0) (pa_cons pe_int pa_nil))) (fun _ _ => rfl)))) pss_nil)
      (pss_cons (ps_set (i := 6) scNam.nd rfl (Or.inl rfl) (pv 4))
      (pss_cons (ps_set (i := 7) scNam.nd rfl (Or.inl rfl) pe_int)
      (pss_cons (ps_while PassesOwn.never (pt_cmpR op_in_seq (pv 6) (pv 1) (by rfl)) (pss_cons (ps_set (i := 7) scNam.nd rfl (Or.inl rfl) (pe_op op_add (pv 7) pe_int))
      (pss_one (ps_set (i := 6) scNam.nd rfl (Or.inl rfl) (pe_op op_add_str (pv 4) (pe_callTy call_str_int (by rfl) tstr (by decide +kernel) (pa_cons (pv 7) pa_nil)))))))
      (pss_one (ps_ret (pv 6))))))))))), ?_⟩
    refine ⟨_, rfl, p, _, rfl, hS, by decide, by decide, fun d1 H1 a1 b1 B1 S1 => ?_⟩
    refine ⟨_, rfl, _, rfl, p, _, rfl, S1, by decide, by decide, fun d2 H2 a2 b2 B2 S2 => ?_⟩
    refine rdItem abc36_len a2 (by omega) (by decide) fun c hc => ?_
    have hc' : lowC c := abc_low (by omega) hc
    refine ⟨_, rfl, p, _, rfl, S2, by decide, by decide, fun d3 H3 a3 b3 B3 S3 => ?_⟩
    refine ⟨d3, rfl, by omega, by omega, ?_⟩
    refine for_range (n := d3.toNat) (fun i σ H' => ∃ (z : Str) (v : Option V), σ = [some (.ref p), some (.ref ln), some (.str ABC36), some (.int d1), some (.str z), v, none, none] ∧ z.length ≤ i + 1 ∧ NmP z ∧ But p H H' ∧ StOk H' p)
      ⟨⟨#[c]⟩, none, rfl, Nat.le_refl _, NmP.one hc', (B1.trans B2).trans B3, S3⟩ ?_ ?_
    · rintro i σ H' hi ⟨z, v, rfl, hz, hp, B, S⟩
      refine ⟨_, rfl, _, rfl, _, rfl, p, _, rfl, S, by decide, by decide, fun d5 H5 a5 b5 B5 S5 => ?_⟩
      refine rdItem abc36_len a5 (by omega) (by decide) fun c hc => ?_
      refine ⟨_, _, rfl, rfl, ?_, ?_⟩
      · rw [len_one]
        exact Nat.le_trans (show z.length + 1 ≤ 100 by omega) (by decide)
      · refine ⟨_, _, rfl, ?_, hp.app (fun d hd => ?_), B.trans B5, S5⟩
        · rw [len_app, len_one]
          omega
        · have e : d = c := by simpa using hd
          rw [e]
          exact abc_any hc
    · rintro σ H4 ⟨z, v, rfl, hz, hp, B, S⟩
      refine ⟨_, rfl, rfl, _, rfl, ?_⟩
      refine ite2 (fun _ => ?_) (fun _ => ?_)
      · refine ⟨by show 4 ≤ sizeLine; decide, fun l nl => ?_⟩
        have nlq := st_free S nl
        refine ⟨_, rfl, p, _, rfl, S.upd nlq, by decide, by decide, fun d6 H6 a6 b6 B6 S6 => ?_⟩
        have hq : ∀ z ∈ (["m1", "m2", "m3", "m10"] : List Str), (∃ c cs, z.cps.toList = c :: cs ∧ (97 ≤ c ∧ c ≤ 122) ∧ ∀ d ∈ cs, (97 ≤ d ∧ d ≤ 122) ∨ (48 ≤ d ∧ d ≤ 57)) ∧ z.length ≤ 4 := by
          intro z hz
          rcases List.mem_cons.mp hz with e | hz
          · rw [e]; exact ⟨⟨109, [49], by decide +kernel, by decide, by decide⟩, by decide +kernel⟩
          rcases List.mem_cons.mp hz with e | hz
          · rw [e]; exact ⟨⟨109, [50], by decide +kernel, by decide, by decide⟩, by decide +kernel⟩
          rcases List.mem_cons.mp hz with e | hz
          · rw [e]; exact ⟨⟨109, [51], by decide +kernel, by decide, by decide⟩, by decide +kernel⟩
          rcases List.mem_cons.mp hz with e | hz
          · rw [e]; exact ⟨⟨109, [49, 48], by decide +kernel, by decide, by decide⟩, by decide +kernel⟩
          cases hz
        have hj : d6.toNat < (["m1", "m2", "m3", "m10"] : List Str).length := by show _ < 4; omega
        refine rdList (B6 l _ nlq upd_same) (j := d6.toNat) (v := .str ((["m1", "m2", "m3", "m10"] : List Str)[d6.toNat])) (by omega) ?_ ?_
        · have e : ((["m1", "m2", "m3", "m10"] : List Str).map V.str)[d6.toNat]? = some (.str ((["m1", "m2", "m3", "m10"] : List Str)[d6.toNat])) := by
            rw [List.getElem?_map, List.getElem?_eq_getElem hj]
            rfl
          exact e
        · have hh := hq _ (List.getElem_mem hj)
          generalize (["m1", "m2", "m3", "m10"] : List Str)[d6.toNat] = zz at hh
          have hzz : NmP zz := hh.1
          have hzl : zz.length ≤ 4 := hh.2
          have BB : But p H H6 := (but_new B nlq ((B.free nlq nl))).trans B6
          have SS : StOk H6 p := S6
          clear hh hq hj B6 S6 B S hz hp nl
          revert zz
          intro zz hzz hzl
          refine ⟨_, rfl, ?_⟩
          have hTT : H6 ln = some (.lst (taken.map V.str)) := BB ln _ nlp hT
          refine while_by (fun σ H' => H' = H6 ∧ ∃ n : Nat, σ = [some (.ref p), some (.ref ln), some (.str ABC36), some (.int d1), some (.str zz), v, some (.str (tryS zz n)), some (.int (n : Int))] ∧ n ≤ 60 ∧ ∀ i, i < n → tryS zz i ∈ taken) (fun σ _ => mu7 σ)
            ⟨rfl, 0, rfl, Nat.zero_le _, fun i hi => absurd hi (Nat.not_lt_zero i)⟩ ?_ ?_
          · rintro σ H' ⟨rfl, n, rfl, hn, hall⟩
            refine ⟨_, rfl, _, rfl, ln, _, rfl, .inl (SqL.of hTT), rfl, flats taken, _, rfl, ?_⟩
            show if inV (.str (tryS zz n)) (taken.map V.str) = true then _ else _
            rw [inV_strs]
            by_cases hm : tryS zz n ∈ taken
            · rw [decide_eq_true hm]
              refine iteT ?_
              have hall' : ∀ i, i < n + 1 → tryS zz i ∈ taken := fun i hi => by
                by_cases e : i = n
                · rw [e]
                  exact hm
                · exact hall i (by omega)
              have hle := try_end hl hall' (by omega)
              refine ⟨_, rfl, _, _, rfl, rfl, ?_⟩
              refine ⟨_, rfl, _, rfl, _, rfl, log_small (by omega), _, _, rfl, rfl, ?_, ?_⟩
              · have q := num_sign (n := n + 1) (by omega)
                exact Nat.le_trans (show zz.length + (numS (n + 1)).length ≤ 100 by omega) (by decide)
              · refine ⟨⟨rfl, n + 1, rfl, by omega, hall'⟩, ?_⟩
                show 100 - ((n : Int) + 1).toNat < 100 - (n : Int).toNat
                omega
            · rw [decide_eq_false hm]
              refine iteF ?_
              exact ⟨_, rfl, k _ _ (try_nm hzz hzl hn).1 (try_nm hzz hzl hn).2 hm BB SS⟩
          · intro σ H' Q1 Q2 f h
            obtain ⟨x, e1, y, e2, p', xs, e3, a, b, c, bb, e4, q⟩ := h
            exact ⟨x, e1, y, e2, p', xs, e3, a, b, c, bb, e4, f _ _ q⟩
      · have hzz : NmP z := hp
        have hzl : z.length ≤ 4 := by omega
        have BB : But p H H4 := B
        have SS : StOk H4 p := S
        refine ⟨_, rfl, ?_⟩
        have hTT : H4 ln = some (.lst (taken.map V.str)) := BB ln _ nlp hT
        refine while_by (fun σ H' => H' = H4 ∧ ∃ n : Nat, σ = [some (.ref p), some (.ref ln), some (.str ABC36), some (.int d1), some (.str z), v, some (.str (tryS z n)), some (.int (n : Int))] ∧ n ≤ 60 ∧ ∀ i, i < n → tryS z i ∈ taken) (fun σ _ => mu7 σ)
          ⟨rfl, 0, rfl, Nat.zero_le _, fun i hi => absurd hi (Nat.not_lt_zero i)⟩ ?_ ?_
        · rintro σ H' ⟨rfl, n, rfl, hn, hall⟩
          refine ⟨_, rfl, _, rfl, ln, _, rfl, .inl (SqL.of hTT), rfl, flats taken, _, rfl, ?_⟩
          show if inV (.str (tryS z n)) (taken.map V.str) = true then _ else _
          rw [inV_strs]
          by_cases hm : tryS z n ∈ taken
          · rw [decide_eq_true hm]
            refine iteT ?_
            have hall' : ∀ i, i < n + 1 → tryS z i ∈ taken := fun i hi => by
              by_cases e : i = n
              · rw [e]
                exact hm
              · exact hall i (by omega)
            have hle := try_end hl hall' (by omega)
            refine ⟨_, rfl, _, _, rfl, rfl, ?_⟩
            refine ⟨_, rfl, _, rfl, _, rfl, log_small (by omega), _, _, rfl, rfl, ?_, ?_⟩
            · have q := num_sign (n := n + 1) (by omega)
              exact Nat.le_trans (show z.length + (numS (n + 1)).length ≤ 100 by omega) (by decide)
            · refine ⟨⟨rfl, n + 1, rfl, by omega, hall'⟩, ?_⟩
              show 100 - ((n : Int) + 1).toNat < 100 - (n : Int).toNat
              omega
          · rw [decide_eq_false hm]
            refine iteF ?_
            exact ⟨_, rfl, k _ _ (try_nm hzz hzl hn).1 (try_nm hzz hzl hn).2 hm BB SS⟩
        · intro σ H' Q1 Q2 f h
          obtain ⟨x, e1, y, e2, p', xs, e3, a, b, c, bb, e4, q⟩ := h
          exact ⟨x, e1, y, e2, p', xs, e3, a, b, c, bb, e4, f _ _ q⟩
theorem scNms : FnScope ["_law_s", "_law_many", "_law_found_here", "_law_k"] ["_law_s", "_law_many"] (defScope sNms) := ⟨rfl, rfl, rfl, by decide +kernel, rfl, by decide +kernel, by decide +kernel⟩
theorem ok_nms {f fL : Addr} {fd dL : FuncData} (F : Fun K "_law_names" "_law_names" sNms f fd) (T : TxB mg) (D : Dn K mg "_law_name" sNam ["_law_s", "_law_taken"] fL dL) (G : FnOk P w K mg base CX0 2 fL dL ["_law_s", "_law_taken"] spNam) : FnOk P w K mg base CX0 3 f fd ["_law_s", "_law_many"] spNms := by
  refine F.ok scNms (fun vs H Q E h => ?_) (fun cdv A outer s H vs Q E hr h => ?_)
  · obtain ⟨p, n, rfl, _⟩ := h
    rfl
  · obtain ⟨p, n, rfl, hS, n0, n6, k⟩ := h
    refine ⟨_, (pss_cons (ps_set (i := 2) scNms.nd rfl (Or.inl rfl) (pe_lst pa_nil))
      (pss_cons (ps_for PassesOwn.never rfl (pi_range1 rfl T.range (pa_cons (pv 1) pa_nil)) (pg_name (i := 3) scNms.nd rfl (Or.inl rfl)) (pss_one (ps_expr (pe_bm PySem.F.plainAttrs_list PySem.F.slot_list_append PySem.F.type_list_append mt_append (pv 2) (pa_cons (pe_call G hr rfl D.g D.F.kp D.b .nil pass0 (pa_cons (pv 0) (pa_cons (pv 2) pa_nil))) pa_nil)))))
      (pss_one (ps_ret (pv 2))))), ?_⟩
    refine ⟨Nat.zero_le _, fun d hd => ?_⟩
    have ndp := st_free hS hd
    refine ⟨_, rfl, n, rfl, by omega, by omega, ?_⟩
    refine for_range (n := n.toNat) (fun i σ H' => (∃ u, σ = [some (.ref p), some (.int n), some (.ref d), u]) ∧ ∃ zs : List Str, H' d = some (.lst (zs.map V.str)) ∧ zs.Nodup ∧ (∀ z ∈ zs, NmP z ∧ z.length ≤ 6) ∧ zs.length = i ∧ But p H H' ∧ StOk H' p)
      ⟨⟨none, rfl⟩, [], upd_same, List.nodup_nil, fun z hz => (List.not_mem_nil hz).elim, rfl, but_new (But.refl p H) ndp hd, hS.upd ndp⟩ ?_ ?_
    · rintro i σ H1 hi ⟨⟨u, rfl⟩, zs, hl, nd, nm, len, B, S⟩
      refine ⟨_, rfl, .inl ⟨rfl, _, SqL.of hl⟩, _, rfl, _, rfl, p, d, zs, rfl, S, ndp, hl, by omega, fun z H2 hz hz6 hm B2 S2 => ?_⟩
      have hl2 := B2 d _ ndp hl
      refine ⟨d, _, _, rfl, rfl, hl2, ?_, ?_⟩
      · rw [List.length_map]
        exact Nat.lt_of_le_of_lt (show _ ≤ 1000 by omega) (by decide)
      · refine ⟨⟨_, rfl⟩, zs ++ [z], ?_, ?_, ?_, ?_, but_new (B.trans B2) ndp hd, S2.upd ndp⟩
        · rw [upd_same, List.map_append]
          rfl
        · rw [List.nodup_append]
          exact ⟨nd, (by simp : [z].Nodup), fun a ha b hb e => by
            have eb : b = z := by simpa using hb
            rw [e, eb] at ha
            exact hm ha⟩
        · intro y hy
          rcases List.mem_append.mp hy with hy | hy
          · exact nm y hy
          · rw [List.mem_singleton.mp hy]
            exact ⟨hz, hz6⟩
        · rw [List.length_append, List.length_singleton]
          omega
    · rintro σ H1 ⟨⟨u, rfl⟩, zs, hl, nd, nm, len, B, S⟩
      exact ⟨_, rfl, k zs d H1 hd ndp B S hl len nd nm⟩
end
end Wm
namespace Wm
open PySem L2 StX
def makF (mk md : Str) (t1 t2 : Addr) : List (Str × V) := putF "up" (.ref t2) (putF "down" (.ref t1) (putF "made" (.str md) (putF "maker" (.str mk) [])))
theorem nm1 : ¬ (("maker" : Str) = "up") := by decide +kernel
theorem nm2 : ¬ (("maker" : Str) = "down") := by decide +kernel
theorem nm3 : ¬ (("maker" : Str) = "made") := by decide +kernel
theorem nm4 : ¬ (("made" : Str) = "up") := by decide +kernel
theorem nm5 : ¬ (("made" : Str) = "down") := by decide +kernel
theorem nm6 : ¬ (("down" : Str) = "up") := by decide +kernel
theorem makF_maker (mk md : Str) (t1 t2 : Addr) : (makF mk md t1 t2).lookup ("maker" : Str) = some (.str mk) := by
  unfold makF
  rw [lookup_putF, if_neg nm1, lookup_putF, if_neg nm2, lookup_putF, if_neg nm3, lookup_putF, if_pos rfl]
theorem makF_made (mk md : Str) (t1 t2 : Addr) : (makF mk md t1 t2).lookup ("made" : Str) = some (.str md) := by
  unfold makF
  rw [lookup_putF, if_neg nm4, lookup_putF, if_neg nm5, lookup_putF, if_pos rfl]
theorem makF_down (mk md : Str) (t1 t2 : Addr) : (makF mk md t1 t2).lookup ("down" : Str) = some (.ref t1) := by
  unfold makF
  rw [lookup_putF, if_neg nm6, lookup_putF, if_pos rfl]
theorem makF_up (mk md : Str) (t1 t2 : Addr) : (makF mk md t1 t2).lookup ("up" : Str) = some (.ref t2) := by
  unfold makF
  rw [lookup_putF, if_pos rfl]
structure TxMak (K : PySem.W.Frag) (mg : Str → Option Value) (B fB : Addr) : Prop where
  cl : Cls K B
  nk : NoAttr K B "maker"
  nd : NoAttr K B "made"
  nw : NoAttr K B "down"
  nu : NoAttr K B "up"
  g : mg "Making" = some (.ref B)
  m : Mk K B fB
def spMak (K : PySem.W.Frag) (C B : Addr) : Sp := fun vs H Q E => ∃ (H0 : Hp) (x dx l1 l2 : Addr) (mk md : Str) (ds us : List Str), vs = [.ref x, .str mk, .str md, .ref l1, .ref l2] ∧ Same H0 H ∧ H0 x = none ∧ H x = some (.ins B dx []) ∧
  SqL K H0 l1 (ds.map V.str) ∧ SqL K H0 l2 (us.map V.str) ∧ ds.length ≤ 100 ∧ us.length ≤ 100 ∧ NoTw (ds.map V.str) ∧ NoTw (us.map V.str) ∧ (∀ z ∈ mk :: md :: (ds ++ us), z.length ≤ 1000) ∧
  DueM C (mk :: md :: (ds ++ us)) H0 (fun H' => ∀ t1 t2, H' x = some (.ins B dx (makF mk md t1 t2)) → H' t1 = some (.tup (ds.map V.str)) → H' t2 = some (.tup (us.map V.str)) → Q .non H') E
section
variable {P : Program} {w : World} {K : PySem.W.Frag} {mg : Str → Option Value} {base : Heap}
theorem scMak : FnScope ["self", "maker", "made", "down", "up"] ["self", "maker", "made", "down", "up"] (defScope sMak) := ⟨rfl, rfl, rfl, by decide +kernel, rfl, by decide +kernel, by decide +kernel⟩
theorem ok_mak {f fRN fRT C B : Addr} {fd dRN dRT : FuncData} (F : Fun K "__init__" "Making.__init__" sMak f fd) (T : TxB mg) (TM : TxMak K mg B f) (RN : Dn K mg "refuse_no_name" sRN ["texts"] fRN dRN) (RT : Dn K mg "refuse_twice" sRT ["names"] fRT dRT)
    (GRN : FnOk P w K mg base (L2.CX P w) 4 fRN dRN ["texts"] (spRN K C)) (GRT : FnOk P w K mg base CX0 2 fRT dRT ["names"] (spFT K)) : FnOk P w K mg base (L2.CX P w) 5 f fd ["self", "maker", "made", "down", "up"] (spMak K C B) := by
  refine F.okX scMak (fun vs H Q E h => ?_) (fun cdv A outer s H vs Q E hr h => ?_)
  · obtain ⟨H0, x, dx, l1, l2, mk, md, ds, us, rfl, _⟩ := h
    rfl
  · obtain ⟨H0, x, dx, l1, l2, mk, md, ds, us, rfl, S0, x0, hx, h1, h2, n1, n2, w1, w2, hz, k⟩ := h
    have hr2 : Room 2 _ := hr.mono (by decide)
    have Sx : ∀ {H1 : Hp} {o : HO}, Same H0 H1 → Same H0 (upd H1 x o) := fun hs b o e => by
      rw [upd_ne (ne_of_none e x0)]
      exact hs b o e
    refine ⟨_, (pss_cons (ps_fld (pv 0) (pv 1) rfl)
      (pss_cons (ps_fld (pv 0) (pv 2) rfl)
      (pss_cons (ps_fld (pv 0) (pe_callTy call_tupN (by rfl) T.tuple (by decide +kernel) (pa_cons (pv 3) pa_nil)) rfl)
      (pss_cons (ps_fld (pv 0) (pe_callTy call_tupN (by rfl) T.tuple (by decide +kernel) (pa_cons (pv 4) pa_nil)) rfl)
      (pss_cons (ps_expr (pe_call GRN hr rfl RN.g RN.F.kp RN.b .nil (passes_call (takes_of rfl rfl rfl rfl) (fun _ _ _ _ h => h)) (pa_cons (pe_lst (pa_cons (pv 1) (pa_cons (pv 2) (pa_star (pe_fld (pv 0) rfl) (pa_star (pe_fld (pv 0) rfl) pa_nil))))) pa_nil)))
      (pss_cons (ps_expr (pe_call GRT hr2 rfl RT.g RT.F.kp RT.b .nil pass0 (pa_cons (pe_fld (pv 0) rfl) pa_nil)))
      (pss_one (ps_expr (pe_call GRT hr2 rfl RT.g RT.F.kp RT.b .nil pass0 (pa_cons (pe_fld (pv 0) rfl) pa_nil)))))))))), ?_⟩
    refine ⟨_, rfl, _, rfl, x, B, dx, [], rfl, hx, TM.cl, TM.nk, (by show 0 < 1000; decide), ?_⟩
    have S1 := Sx (o := .ins B dx (putF "maker" (.str mk) [])) S0
    refine ⟨_, rfl, _, rfl, x, B, dx, _, rfl, upd_same, TM.cl, TM.nd, Nat.lt_of_le_of_lt (putF_len _ _ _) (by decide), ?_⟩
    rw [upd_upd]
    have S2 := Sx (o := .ins B dx (putF "made" (.str md) (putF "maker" (.str mk) []))) S0
    have few2 : (putF "made" (.str md) (putF "maker" (.str mk) [])).length ≤ 10 := Nat.le_trans (putF_len _ _ _) (Nat.le_trans (Nat.succ_le_succ (putF_len _ _ _)) (by decide))
    -- self.down = tuple(down)
    refine ⟨_, rfl, l1, _, rfl, .inl ⟨S2.seq h1, fun t1 ht1 => ?_⟩⟩
    have n1x : t1 ≠ x := fun z => by
      rw [z, upd_same] at ht1
      cases ht1
    refine ⟨_, rfl, x, B, dx, _, rfl, Eq.trans (upd_ne n1x.symm) upd_same, TM.cl, TM.nw, Nat.lt_of_le_of_lt few2 (by decide), ?_⟩
    generalize hH3 : upd (upd (upd H x (.ins B dx (putF "made" (.str md) (putF "maker" (.str mk) [])))) t1 (.tup (ds.map V.str))) x (.ins B dx (putF "down" (.ref t1) (putF "made" (.str md) (putF "maker" (.str mk) [])))) = H3
    have S3 : Same H0 H3 := by
      rw [← hH3]
      exact Sx (S2.trans (Same.upd ht1))
    have hx3 : H3 x = some (.ins B dx (putF "down" (.ref t1) (putF "made" (.str md) (putF "maker" (.str mk) [])))) := by rw [← hH3, upd_same]
    have h13 : H3 t1 = some (.tup (ds.map V.str)) := by rw [← hH3, upd_ne n1x, upd_same]
    -- self.up = tuple(up)
    refine ⟨_, rfl, l2, _, rfl, .inl ⟨S3.seq h2, fun t2 ht2 => ?_⟩⟩
    have n2x : t2 ≠ x := (ne_of_none hx3 ht2).symm
    have n21 : t2 ≠ t1 := (ne_of_none h13 ht2).symm
    refine ⟨_, rfl, x, B, dx, _, rfl, Eq.trans (upd_ne n2x.symm) hx3, TM.cl, TM.nu, Nat.lt_of_le_of_lt (Nat.le_trans (putF_len _ _ _) (Nat.succ_le_succ few2)) (by decide), ?_⟩
    show _
    generalize hH4 : upd (upd H3 t2 (.tup (us.map V.str))) x (.ins B dx (putF "up" (.ref t2) (putF "down" (.ref t1) (putF "made" (.str md) (putF "maker" (.str mk) []))))) = H4
    have S4 : Same H0 H4 := by
      rw [← hH4]
      exact Sx (S3.trans (Same.upd ht2))
    have hx4 : H4 x = some (.ins B dx (makF mk md t1 t2)) := by rw [← hH4, upd_same]; rfl
    have h14 : H4 t1 = some (.tup (ds.map V.str)) := by rw [← hH4, upd_ne n1x, upd_ne n21.symm]; exact h13
    have h24 : H4 t2 = some (.tup (us.map V.str)) := by rw [← hH4, upd_ne n2x, upd_same]
    -- refuse_no_name([maker, made, *self.down, *self.up])
    refine ⟨_, rfl, _, rfl, _, rfl, x, B, dx, _, _, rfl, hx4, TM.cl, TM.nw, makF_down _ _ _ _, t1, _, rfl, .inl (SqT.of h14), _, rfl, x, B, dx, _, _, rfl, hx4, TM.cl, TM.nu, makF_up _ _ _ _, t2, _, rfl, .inl (SqT.of h24), ?_, fun l hl => ?_⟩
    · show (V.str mk :: V.str md :: (ds.map V.str ++ (us.map V.str ++ []))).length ≤ sizeLine
      rw [List.append_nil, List.length_cons, List.length_cons, List.length_append, List.length_map, List.length_map]
      exact Nat.le_trans (show _ ≤ 1000 by omega) (by decide)
    have el : V.str mk :: V.str md :: (ds.map V.str ++ (us.map V.str ++ [])) = (mk :: md :: (ds ++ us)).map V.str := by
      rw [List.append_nil, List.map_cons, List.map_cons, List.map_append]
    have S5 := S4.trans (Same.upd (o := .lst (V.str mk :: V.str md :: (ds.map V.str ++ (us.map V.str ++ [])))) hl)
    refine ⟨l, mk :: md :: (ds ++ us), rfl, SqL.of (by rw [upd_same, ← el]), ?_, hz, ?_⟩
    · rw [List.length_cons, List.length_cons, List.length_append]
      omega
    refine k.toN S5 fun hn H6 hS6 => ?_
    have hx6 := hS6 _ _ (Same.upd (o := .lst (V.str mk :: V.str md :: (ds.map V.str ++ (us.map V.str ++ [])))) hl _ _ hx4)
    have h16 := hS6 _ _ (Same.upd (o := .lst (V.str mk :: V.str md :: (ds.map V.str ++ (us.map V.str ++ [])))) hl _ _ h14)
    have h26 := hS6 _ _ (Same.upd (o := .lst (V.str mk :: V.str md :: (ds.map V.str ++ (us.map V.str ++ [])))) hl _ _ h24)
    refine ⟨_, rfl, x, B, dx, _, _, rfl, hx6, TM.cl, TM.nw, makF_down _ _ _ _, t1, _, rfl, .inr (SqT.of h16), flat_strs _, w1, fun H7 hS7 => ?_⟩
    refine ⟨_, rfl, x, B, dx, _, _, rfl, hS7 _ _ hx6, TM.cl, TM.nu, makF_up _ _ _ _, t2, _, rfl, .inr (SqT.of (hS7 _ _ h26)), flat_strs _, w2, fun H8 hS8 => ?_⟩
    unfold DueM at k
    rw [hn] at k
    exact k H8 (S5.trans (hS6.trans (hS7.trans hS8))) t1 t2 (hS8 _ _ (hS7 _ _ hx6)) (hS8 _ _ (hS7 _ _ h16)) (hS8 _ _ (hS7 _ _ h26))
end
end Wm
namespace Wm
open PySem L2 StX
theorem strOk_of {z : Str} (h : okS z) : PyData.strOk z = true := by
  unfold PyData.strOk
  rw [Array.all_eq_true_iff_forall_mem]
  intro c hc
  exact decide_eq_true (h c (by simpa using hc))
/-! ### rows of objects -/
def AllAt {α : Type} (R : Addr → α → Prop) : List Addr → List α → Prop
  | [], [] => True
  | a :: as, x :: xs => R a x ∧ AllAt R as xs
  | _, _ => False
theorem AllAt.imp {α : Type} {R R' : Addr → α → Prop} (h : ∀ a x, R a x → R' a x) : ∀ {as : List Addr} {xs : List α}, AllAt R as xs → AllAt R' as xs
  | [], [], _ => True.intro
  | _ :: _, _ :: _, q => ⟨h _ _ q.1, AllAt.imp h q.2⟩
  | [], _ :: _, q => q.elim
  | _ :: _, [], q => q.elim
theorem AllAt.len {α : Type} {R : Addr → α → Prop} : ∀ {as : List Addr} {xs : List α}, AllAt R as xs → as.length = xs.length
  | [], [], _ => rfl
  | _ :: _, _ :: _, q => congrArg (· + 1) (AllAt.len q.2)
  | [], _ :: _, q => q.elim
  | _ :: _, [], q => q.elim
theorem AllAt.get {α : Type} {R : Addr → α → Prop} : ∀ {as : List Addr} {xs : List α} {j : Nat} {y : V}, AllAt R as xs → (as.map V.ref)[j]? = some y → ∃ a x, y = .ref a ∧ xs[j]? = some x ∧ R a x
  | a :: as, x :: xs, 0, y, h, e => ⟨a, x, (Option.some.inj e).symm, rfl, h.1⟩
  | a :: as, x :: xs, j + 1, y, h, e => by
    obtain ⟨a', x', p, q, r⟩ := AllAt.get (j := j) h.2 (by simpa using e)
    exact ⟨a', x', p, by simpa using q, r⟩
  | [], _, _, _, _, e => by simp at e
  | _ :: _, [], _, _, h, _ => h.elim
theorem AllAt.append {α : Type} {R : Addr → α → Prop} : ∀ {as bs : List Addr} {xs ys : List α}, AllAt R as xs → AllAt R bs ys → AllAt R (as ++ bs) (xs ++ ys)
  | [], _, [], _, _, q => q
  | _ :: _, _, _ :: _, _, h, q => ⟨h.1, AllAt.append h.2 q⟩
  | [], _, _ :: _, _, h, _ => h.elim
  | _ :: _, _, [], _, h, _ => h.elim
structure MkD where
  mr : Str
  md : Str
  dn : List Str
  up : List Str
structure PtD where
  nm : Str
  vars : List Var
  cs : List Tri
structure RlD where
  p : PtD
  g : Tri
  bh : Str
def MkAt (K : PySem.W.Frag) (B : Addr) (H : Hp) (a : Addr) (m : MkD) : Prop := ∃ d t1 t2, H a = some (.ins B d (makF m.mr m.md t1 t2)) ∧ SqT K H t1 (m.dn.map V.str) ∧ SqT K H t2 (m.up.map V.str)
def BrAt (K : PySem.W.Frag) (B : Addr) (H : Hp) (a : Addr) (b : PtD) : Prop := ∃ d t1 t2 ps qs, H a = some (.ins B d (barF b.nm t1 t2)) ∧ SqT K H t1 (ps.map V.ref) ∧ RowsAt K H ps (b.vars.map varV) ∧ SqT K H t2 (qs.map V.ref) ∧ RowsAt K H qs (b.cs.map triV)
def RlAt (K : PySem.W.Frag) (B : Addr) (H : Hp) (a : Addr) (r : RlD) : Prop := ∃ d t1 t2 t3 ps qs, H a = some (.ins B d (rulF r.p.nm t1 t2 t3 r.bh)) ∧ SqT K H t1 (ps.map V.ref) ∧ RowsAt K H ps (r.p.vars.map varV) ∧ SqT K H t2 (qs.map V.ref) ∧ RowsAt K H qs (r.p.cs.map triV) ∧ SqT K H t3 (triV r.g)
theorem MkAt.same {K : PySem.W.Frag} {B : Addr} {H H' : Hp} {a : Addr} {m : MkD} (s : Same H H') (h : MkAt K B H a m) : MkAt K B H' a m := by
  obtain ⟨d, t1, t2, x, y, z⟩ := h
  exact ⟨d, t1, t2, s _ _ x, same_seqT s y, same_seqT s z⟩
theorem BrAt.same {K : PySem.W.Frag} {B : Addr} {H H' : Hp} {a : Addr} {b : PtD} (s : Same H H') (h : BrAt K B H a b) : BrAt K B H' a b := by
  obtain ⟨d, t1, t2, ps, qs, x, y, z, u, v⟩ := h
  exact ⟨d, t1, t2, ps, qs, s _ _ x, same_seqT s y, z.same s, same_seqT s u, v.same s⟩
theorem RlAt.same {K : PySem.W.Frag} {B : Addr} {H H' : Hp} {a : Addr} {r : RlD} (s : Same H H') (h : RlAt K B H a r) : RlAt K B H' a r := by
  obtain ⟨d, t1, t2, t3, ps, qs, x, y, z, u, v, w⟩ := h
  exact ⟨d, t1, t2, t3, ps, qs, s _ _ x, same_seqT s y, z.same s, same_seqT s u, v.same s, same_seqT s w⟩
/-! ### pairs that do not stand twice -/
def prV (p : Str × Str) : List V := [.str p.1, .str p.2]
def prD (p : Str × Str) : PyData := .tuple [.str p.1, .str p.2]
theorem prD_eqv (a b : Str × Str) : PyData.eqv (prD a) (prD b) = decide (a = b) := by
  obtain ⟨a1, a2⟩ := a
  obtain ⟨b1, b2⟩ := b
  simp only [prD, PyData.eqv, PyData.eqvAll, Prod.mk.injEq]
  by_cases h1 : a1 = b1 <;> by_cases h2 : a2 = b2 <;> simp [h1, h2]
theorem u65 {k : Nat} {A : Around} (r : Room k A) : A.units + 65 < cLine := by
  have := r.un
  omega
theorem prs_dp {K : PySem.W.Frag} {H : Hp} : ∀ {qs : List Addr} {ps : List (Str × Str)}, RowsAt K H qs (ps.map prV) → DpAll K H (qs.map V.ref) (ps.map prD)
  | [], [], _ => .nil
  | _ :: _, _ :: _, h => .cons (.tup h.1 (.cons (.str _) (.cons (.str _) .nil))) (prs_dp h.2)
  | [], _ :: _, h => h.elim
  | _ :: _, [], h => h.elim
theorem prs_sh : ∀ {ps : List (Str × Str)}, (∀ p ∈ ps, okS p.1 ∧ okS p.2) → PyData.canLayAll0 (ps.map prD) = true ∧ PyData.depthAll (ps.map prD) ≤ 2
  | [], _ => by simp [PyData.canLayAll0, PyData.depthAll]
  | p :: r, h => by
    obtain ⟨a, b⟩ := h p List.mem_cons_self
    obtain ⟨h2, h3⟩ := prs_sh (ps := r) fun y hy => h y (List.mem_cons_of_mem _ hy)
    have sa := strOk_of a
    have sb := strOk_of b
    have e : (prD p).canLay0 = true := by simp [prD, PyData.canLay0, PyData.canLayAll0, sa, sb]
    have d : (prD p).depth ≤ 2 := by simp [prD, PyData.depth, PyData.depthAll]
    refine ⟨by simp only [List.map_cons, PyData.canLayAll0, e, h2, Bool.and_self], ?_⟩
    simp only [List.map_cons, PyData.depthAll]
    omega
theorem rows_imp {K : PySem.W.Frag} {H H' : Hp} (s : ∀ {q : Addr} {xs : List V}, SqT K H q xs → SqT K H' q xs) : ∀ {ps : List Addr} {rs : List (List V)}, RowsAt K H ps rs → RowsAt K H' ps rs
  | [], [], _ => True.intro
  | _ :: _, _ :: _, h => ⟨s h.1, rows_imp s h.2⟩
  | [], _ :: _, h => h.elim
  | _ :: _, [], h => h.elim
def spFT2 (K : PySem.W.Frag) : Sp := fun vs H Q _ => ∃ (l : Addr) (qs : List Addr) (ps : List (Str × Str)), vs = [.ref l] ∧ SqL K H l (qs.map V.ref) ∧ RowsAt K H qs (ps.map prV) ∧ ps.Nodup ∧ (∀ p ∈ ps, okS p.1 ∧ okS p.2) ∧ ∀ H', Same H H' → Q .non H'
def spRMT (K : PySem.W.Frag) (B : Addr) : Sp := fun vs H Q _ => ∃ (m : Addr) (as : List Addr) (ms : List MkD), vs = [.ref m] ∧ SqL K H m (as.map V.ref) ∧ AllAt (MkAt K B H) as ms ∧ ms.length ≤ 1000 ∧ (ms.map fun x => (x.mr, x.md)).Nodup ∧ (∀ x ∈ ms, okS x.mr ∧ okS x.md) ∧ ∀ H', Same H H' → Q .non H'
section
variable {P : Program} {w : World} {K : PySem.W.Frag} {mg : Str → Option Value} {base : Heap}
theorem ok_ft2 {f : Addr} {fd : FuncData} (F : Fun K "first_twice" "first_twice" sFT f fd) (T : TxB mg) : FnOk P w K mg base CX0 1 f fd ["row"] (spFT2 K) := by
  refine F.ok scFT (fun vs H Q E h => ?_) (fun cdv A outer s H vs Q E hr h => ?_)
  · obtain ⟨l, qs, ps, rfl, _⟩ := h
    rfl
  · obtain ⟨l, qs, ps, rfl, hl, hq, hnd, hok, k⟩ := h
    refine ⟨_, (pss_cons (ps_for PassesOwn.never rfl (pi_enum rfl T.enumerate (pa_cons (pv 0) pa_nil)) (pg_tup rfl (pgs_cons (pg_name (i := 1) scFT.nd rfl (Or.inl rfl)) (pgs_cons (pg_name (i := 2) scFT.nd rfl (Or.inl rfl)) pgs_nil))) (pss_one (ps_if (pt_cmpR (op_inD (u65 hr)) (pv 2) (pe_slice sl_list (pv 0) po_none (po_some (pv 1))) (by rfl)) (pss_one (ps_ret (pv 1))) pss_nil)))
      (pss_one (ps_ret pe_non))), ?_⟩
    refine ⟨_, rfl, l, _, rfl, hl, for_it walk_enum (fun i σ H' => (∃ u v, σ = [some (.ref l), u, v]) ∧ Same H H') ⟨⟨none, none, rfl⟩, Same.refl H⟩ (fun i σ H' _ p => p.2.seq hl) ?_ ?_⟩
    · rintro i x σ H1 H2 hi ⟨⟨u, v, rfl⟩, hS⟩ ⟨t, y, z, rfl, ht, rfl, e1, e2⟩
      cases e1
      refine ⟨t, _, rfl, SqT.of upd_same, rfl, _, _, rfl, _, _, rfl, rfl, ?_⟩
      have S2 := hS.trans (Same.upd (o := .tup [.int (i : Nat), z]) ht)
      have e2 : (qs.map V.ref)[i]? = some z := e2
      rw [List.getElem?_map] at e2
      obtain ⟨q, hqi, rfl⟩ := Option.map_eq_some_iff.mp e2
      obtain ⟨r, hri, hqt⟩ := hq.get hqi
      rw [List.getElem?_map] at hri
      obtain ⟨p, hpi, rfl⟩ := Option.map_eq_some_iff.mp hri
      refine ⟨_, rfl, _, rfl, _, rfl, _, rfl, l, _, rfl, S2.seq hl, fun c hc => ?_⟩
      rw [show cutV (qs.map V.ref) none (some (i : Int)) = (qs.take i).map V.ref by rw [cut_take, List.map_take]]
      have S3 := S2.trans (Same.upd (o := .lst ((qs.take i).map V.ref)) hc)
      have hrow : RowsAt K (upd (upd H1 t (.tup [.int (i : Nat), .ref q])) c (.lst ((qs.take i).map V.ref))) (qs.take i) ((ps.take i).map prV) := by
        have e := (hq.same S3).take i
        rw [← List.map_take] at e
        exact e
      obtain ⟨l1, l2⟩ := prs_sh (ps := ps.take i) fun p hp => hok p (List.mem_of_mem_take hp)
      have shl : SeqAt.shaped (.list ((ps.take i).map prD)) = true := by
        generalize (ps.take i).map prD = X at l1 l2
        simp [SeqAt.shaped, PyData.canLay0, PyData.depth, l1]
        omega
      have shp : SeqAt.shaped (prD p) = true := by
        obtain ⟨a, b⟩ := hok p (List.mem_of_getElem? hpi)
        have sa := strOk_of a
        have sb := strOk_of b
        simp [prD, SeqAt.shaped, PyData.canLay0, PyData.canLayAll0, PyData.depth, PyData.depthAll, sa, sb]
      refine ⟨prD p, _, .tup (same_seqT S3 hqt) (.cons (.str _) (.cons (.str _) .nil)), .lst (SqL.of upd_same) (prs_dp hrow), shp, shl, _, rfl, ?_⟩
      have no : ((ps.take i).map prD).any (fun z => PyData.eqv z (prD p)) = false := by
        rw [List.any_map, List.any_eq_false]
        intro y hy
        show ¬ PyData.eqv (prD y) (prD p) = true
        rw [prD_eqv]
        intro e
        have e := of_decide_eq_true e
        subst e
        obtain ⟨j, hj⟩ := List.mem_iff_getElem?.mp hy
        have hlt : j < i := by
          have q := (List.getElem?_eq_some_iff.mp hj).1
          rw [List.length_take] at q
          omega
        rw [List.getElem?_take_of_lt hlt] at hj
        have hjl := (List.getElem?_eq_some_iff.mp hj).1
        have hil := (List.getElem?_eq_some_iff.mp hpi).1
        exact (List.pairwise_iff_getElem.mp hnd) j i hjl hil hlt ((List.getElem?_eq_some_iff.mp hj).2.trans (List.getElem?_eq_some_iff.mp hpi).2.symm)
      rw [no]
      exact iteF ⟨⟨_, _, rfl⟩, S3⟩
    · rintro σ H' ⟨_, hS⟩
      exact k H' hS
theorem scRMT : FnScope ["makings", "pairs", "place", "making"] ["makings"] (defScope sRMT) := ⟨rfl, rfl, rfl, by decide +kernel, rfl, by decide +kernel, by decide +kernel⟩
theorem ok_rmt {f fF B fB : Addr} {fd fdF : FuncData} (F : Fun K "refuse_makings_twice" "refuse_makings_twice" sRMT f fd) (T : TxB mg) (TM : TxMak K mg B fB) (D : Dn K mg "first_twice" sFT ["row"] fF fdF) : FnOk P w K mg base CX0 2 f fd ["makings"] (spRMT K B) := by
  have G : FnOk P w K mg base CX0 1 fF fdF ["row"] (spFT2 K) := ok_ft2 D.F T
  refine F.ok scRMT (fun vs H Q E h => ?_) (fun cdv A outer s H vs Q E hr h => ?_)
  · obtain ⟨m, as, ms, rfl, _⟩ := h
    rfl
  · obtain ⟨m, as, ms, rfl, hm, hms, hl, hnd, hok, k⟩ := h
    refine ⟨_, (pss_cons (ps_setLc (i := 1) (own := [("making", 3)]) (g := gName 3) (te := tTup (tCons (tFld K (tVar 3) "maker") (tCons (tFld K (tVar 3) "made") tNil))) rfl scRMT.nd rfl rfl (sw_true rfl rfl rfl (by decide +kernel)) (pi_list (pv 0)) (blkOk_by (N := ["makings", "pairs", "place", "making"]) (sc := defScope sRMT) (by decide +kernel)) (fun _ _ _ _ _ => (pg_name (i := 3) scRMT.nd rfl (Or.inl rfl))) (fun _ _ _ _ _ => pts_nil) (fun _ _ _ _ _ => (pe_tup (pa_cons (pe_fld (pv 3) rfl) (pa_cons (pe_fld (pv 3) rfl) pa_nil)))))
      (pss_cons (ps_set (i := 2) scRMT.nd rfl (Or.inl rfl) (pe_call G hr rfl D.g D.F.kp D.b .nil pass0 (pa_cons (pv 1) pa_nil)))
      (pss_one (ps_if (pt_cmp (pc_notN (pv 2))) (pss_one ps_never) pss_nil)))), ?_⟩
    refine ⟨_, rfl, m, rfl, ⟨_, hm⟩, fun D' hD => ?_⟩
    refine lc_list (K := K) (a := m) (xs := as.map V.ref) (fun i H' => Same H H' ∧ ∃ qs : List Addr, H' D' = some (.lst (qs.map V.ref)) ∧ qs.length = i ∧ RowsAt K H' qs (((ms.map fun x => (x.mr, x.md)).take i).map prV)) ⟨Same.upd hD, [], upd_same, rfl, True.intro⟩ (fun i H' _ p => p.1.seq hm) ?_ ?_
    · rintro i x H' hi ⟨hS, qs, hq, hql, hrow⟩
      obtain ⟨a, y, rfl, hy, hat⟩ := hms.get hi
      obtain ⟨d, t1, t2, ha, _, _⟩ := MkAt.same hS hat
      refine ⟨rfl, ?_⟩
      refine ⟨_, rfl, a, B, d, _, _, rfl, ha, TM.cl, TM.nk, makF_maker _ _ _ _, ?_⟩
      refine ⟨_, rfl, a, B, d, _, _, rfl, ha, TM.cl, TM.nd, makF_made _ _ _ _, ?_⟩
      refine ⟨by show 2 ≤ sizeLine; decide, fun t ht => ?_⟩
      have nt : t ≠ D' := (ne_of_none hq ht).symm
      have il : i < ms.length := (List.getElem?_eq_some_iff.mp hy).1
      refine ⟨_, Same.upd ht _ _ hq, ?_, ?_, qs ++ [t], ?_, ?_, ?_⟩
      · rw [List.length_map]
        exact Nat.lt_of_le_of_lt (show qs.length ≤ 1000 by omega) (by decide)
      · intro b o h
        rw [upd_ne (ne_of_none h hD)]
        exact Same.upd ht _ _ (hS b o h)
      · rw [upd_same, List.map_append]
        rfl
      · rw [List.length_append, List.length_singleton]
        omega
      · rw [List.take_add_one, List.getElem?_map, hy, List.map_append]
        have B' : But D' (upd H' t (.tup [.str y.mr, .str y.md])) (upd (upd H' t (.tup [.str y.mr, .str y.md])) D' (.lst (qs.map V.ref ++ [.ref t]))) := But.upd
        have keep : ∀ {q : Addr} {xs : List V}, SqT K (upd H' t (.tup [.str y.mr, .str y.md])) q xs → SqT K (upd (upd H' t (.tup [.str y.mr, .str y.md])) D' (.lst (qs.map V.ref ++ [.ref t]))) q xs := fun {q xs} h => by
          have hp : (upd H' t (.tup [.str y.mr, .str y.md])) D' = some (.lst (qs.map V.ref)) := Same.upd ht _ _ hq
          rcases h with (h | ⟨u, h⟩) | h
          · exact .inl (.inl (B' _ _ (ne_of h hp (by intro z; cases z)) h))
          · exact .inl (.inr ⟨u, B' _ _ (ne_of h hp (by intro z; cases z)) h⟩)
          · exact .inr h
        have r1 : RowsAt K (upd H' t (.tup [.str y.mr, .str y.md])) (qs ++ [t]) (((ms.map fun x => (x.mr, x.md)).take i).map prV ++ [prV (y.mr, y.md)]) := (hrow.same (Same.upd ht)).append ⟨SqT.of upd_same, True.intro⟩
        exact rows_imp keep r1
    · rintro H' ⟨hS, qs, hq, hql, hrow⟩
      rw [List.length_map, hms.len] at hql
      rw [List.length_map, hms.len, List.take_of_length_le (by rw [List.length_map]; exact Nat.le_refl _)] at hrow
      dsimp only [List.set_cons_succ, List.set_cons_zero]
      refine ⟨_, rfl, D', qs, _, rfl, SqL.of hq, hrow, hnd, fun p hp => ?_, fun H2 S2 => ?_⟩
      · obtain ⟨x, hx, rfl⟩ := List.mem_map.mp hp
        exact hok x hx
      · refine ⟨_, rfl, _, rfl, ?_⟩
        exact iteF (k _ (hS.trans S2))
end
end Wm
namespace Wm
open PySem L2 StX
/-- what a pattern's variables are, be it a rule or a bar -/
def PvAt (K : PySem.W.Frag) (H : Hp) (a : Addr) (vars : List Var) : Prop := ∃ C d fs t1 ps, H a = some (.ins C d fs) ∧ Cls K C ∧ NoAttr K C "variables" ∧ fs.lookup ("variables" : Str) = some (.ref t1) ∧ SqT K H t1 (ps.map V.ref) ∧ RowsAt K H ps (vars.map varV)
theorem PvAt.same {K : PySem.W.Frag} {H H' : Hp} {a : Addr} {v : List Var} (s : Same H H') (h : PvAt K H a v) : PvAt K H' a v := by
  obtain ⟨C, d, fs, t1, ps, a1, a2, a3, a4, a5, a6⟩ := h
  exact ⟨C, d, fs, t1, ps, s _ _ a1, a2, a3, a4, same_seqT s a5, a6.same s⟩
def spRNS (K : PySem.W.Frag) (B : Addr) : Sp := fun vs H Q _ => ∃ (s m p : Addr) (ss : List Str) (as bs : List Addr) (ms : List MkD) (vv : List (List Var)), vs = [.ref s, .ref m, .ref p] ∧ SqL K H s (ss.map V.str) ∧ SqL K H m (as.map V.ref) ∧ AllAt (MkAt K B H) as ms ∧ SqL K H p (bs.map V.ref) ∧ AllAt (PvAt K H) bs vv ∧ ms.length ≤ 1000 ∧ vv.length ≤ 1000 ∧ (∀ v ∈ vv, v.length ≤ 4) ∧ (∀ x ∈ ms, x.mr ∈ ss ∧ x.md ∈ ss) ∧ (∀ v ∈ vv, ∀ y ∈ v, ∀ z, y.2 = some z → z ∈ ss) ∧ ∀ H', Same H H' → Q .non H'
def spRU (K : PySem.W.Frag) (B : Addr) : Sp := fun vs H Q _ => ∃ (s m : Addr) (ss : List Str) (as : List Addr) (ms : List MkD), vs = [.ref s, .ref m] ∧ SqL K H s (ss.map V.str) ∧ SqL K H m (as.map V.ref) ∧ AllAt (MkAt K B H) as ms ∧ ss.Nodup ∧ (∀ x ∈ ms, ∃ i j : Nat, i < j ∧ ss[i]? = some x.mr ∧ ss[j]? = some x.md) ∧ Q .non H
theorem flat_of (zs : List Str) : (zs.map V.str).all flatV = true := by
  rw [List.all_map]
  exact List.all_eq_true.mpr fun _ _ => rfl
theorem idx_first {ss : List Str} {i m : Nat} {x z : Str} (nd : ss.Nodup) (hi : ss[i]? = some x) (hm : m < i) (hz : ss[m]? = some z) : eqV (.str z) (.str x) = false := by
  have hne : z ≠ x := fun e => by
    subst e
    have a := List.getElem?_eq_some_iff.mp hi
    have b := List.getElem?_eq_some_iff.mp hz
    exact (List.pairwise_iff_getElem.mp nd) m i b.1 a.1 hm (b.2.trans a.2.symm)
  unfold eqV
  simp [hne]
section
variable {P : Program} {w : World} {K : PySem.W.Frag} {mg : Str → Option Value} {base : Heap}
theorem scRU : FnScope ["sorts", "makings", "making"] ["sorts", "makings"] (defScope sRU) := ⟨rfl, rfl, rfl, by decide +kernel, rfl, by decide +kernel, by decide +kernel⟩
theorem ok_ru {f B fB : Addr} {fd : FuncData} (F : Fun K "refuse_upward" "refuse_upward" sRU f fd) (TM : TxMak K mg B fB) : FnOk P w K mg base CX0 1 f fd ["sorts", "makings"] (spRU K B) := by
  refine F.ok scRU (fun vs H Q E h => ?_) (fun cdv A outer s H vs Q E hr h => ?_)
  · obtain ⟨s, m, ss, as, ms, rfl, _⟩ := h
    rfl
  · obtain ⟨s, m, ss, as, ms, rfl, hs, hm, hms, nd, hx, k⟩ := h
    refine ⟨_, (pss_one (ps_for PassesOwn.never rfl (pi_list (pv 1)) (pg_name (i := 2) scRU.nd rfl (Or.inl rfl)) (pss_one (ps_if (pt_cmpR op_le (pe_bm PySem.F.plainAttrs_list PySem.F.slot_list_index PySem.F.type_list_index mt_index (pv 0) (pa_cons (pe_fld (pv 2) rfl) pa_nil)) (pe_bm PySem.F.plainAttrs_list PySem.F.slot_list_index PySem.F.type_list_index mt_index (pv 0) (pa_cons (pe_fld (pv 2) rfl) pa_nil)) (nomark _)) (pss_one ps_never) pss_nil)))), ?_⟩
    refine ⟨_, rfl, m, rfl, ⟨_, hm⟩, for_list (K := K) (a := m) (xs := as.map V.ref) (fun i σ H' => (∃ v, σ = [some (.ref s), some (.ref m), v]) ∧ H' = H) ⟨⟨none, rfl⟩, rfl⟩ (fun i σ H' _ p => by rw [p.2]; exact hm) ?_ (fun σ H' p => by rw [p.2]; exact k)⟩
    rintro i y σ H' hi ⟨⟨v, rfl⟩, rfl⟩
    obtain ⟨a, x, rfl, hxi, hat⟩ := hms.get hi
    obtain ⟨d, t1, t2, ha, _, _⟩ := hat
    obtain ⟨p, q, hpq, hp, hq⟩ := hx x (List.mem_of_getElem? hxi)
    have gp : (ss.map V.str)[p]? = some (.str x.mr) := by rw [List.getElem?_map, hp]; rfl
    have gq : (ss.map V.str)[q]? = some (.str x.md) := by rw [List.getElem?_map, hq]; rfl
    have first : ∀ {n : Nat} {z0 : Str}, ss[n]? = some z0 → ∀ (m : Nat) (z' : V), m < n → (ss.map V.str)[m]? = some z' → eqV z' (.str z0) = false := fun {n z0} hn m z' hm hz => by
      rw [List.getElem?_map] at hz
      obtain ⟨z, hz2, rfl⟩ := Option.map_eq_some_iff.mp hz
      exact idx_first nd hn hm hz2
    dsimp only [gName, List.set_cons_succ, List.set_cons_zero]
    refine ⟨_, rfl, .inl ⟨rfl, _, hs⟩, _, rfl, a, B, d, _, _, rfl, ha, TM.cl, TM.nd, makF_made _ _ _ _, ?_⟩
    refine ⟨s, _, .str x.md, q, .str x.md, rfl, rfl, hs, rfl, flat_of ss, gq, by unfold eqV; simp, first hq, ?_⟩
    refine ⟨_, rfl, .inl ⟨rfl, _, hs⟩, _, rfl, a, B, d, _, _, rfl, ha, TM.cl, TM.nk, makF_maker _ _ _ _, ?_⟩
    refine ⟨s, _, .str x.mr, p, .str x.mr, rfl, rfl, hs, rfl, flat_of ss, gp, by unfold eqV; simp, first hp, ?_⟩
    refine ⟨_, _, rfl, rfl, _, rfl, ?_⟩
    exact ite2 (fun z => absurd (of_decide_eq_true z) (by omega)) (fun _ => ⟨⟨_, rfl⟩, rfl⟩)
theorem scRNS : FnScope ["sorts", "makings", "patterns", "asked", "making", "pattern", "name", "variable", "sort"] ["sorts", "makings", "patterns"] (defScope sRNS) := ⟨rfl, rfl, rfl, by decide +kernel, rfl, by decide +kernel, by decide +kernel⟩
theorem ok_rns {f B fB : Addr} {fd : FuncData} (F : Fun K "refuse_no_sort" "refuse_no_sort" sRNS f fd) (TM : TxMak K mg B fB) : FnOk P w K mg base CX0 1 f fd ["sorts", "makings", "patterns"] (spRNS K B) := by
  refine F.ok scRNS (fun vs H Q E h => ?_) (fun cdv A outer s H vs Q E hr h => ?_)
  · obtain ⟨s, m, p, ss, as, bs, ms, vv, rfl, _⟩ := h
    rfl
  · obtain ⟨s, m, p, ss, as, bs, ms, vv, rfl, hs, hm, hms, hp, hvv, ml, vl, v4, hx, hy, k⟩ := h
    refine ⟨_, (pss_cons (ps_set (i := 3) scRNS.nd rfl (Or.inl rfl) (pe_lst pa_nil))
      (pss_cons (ps_for PassesOwn.never rfl (pi_list (pv 1)) (pg_name (i := 4) scRNS.nd rfl (Or.inl rfl)) (pss_one (ps_expr (pe_bm PySem.F.plainAttrs_list PySem.F.slot_list_extend PySem.F.type_list_extend mt_extend (pv 3) (pa_cons (pe_lst (pa_cons (pe_fld (pv 4) rfl) (pa_cons (pe_fld (pv 4) rfl) pa_nil))) pa_nil)))))
      (pss_cons (ps_for PassesOwn.never rfl (pi_list (pv 2)) (pg_name (i := 5) scRNS.nd rfl (Or.inl rfl)) (pss_one (ps_expr (pe_bm PySem.F.plainAttrs_list PySem.F.slot_list_extend PySem.F.type_list_extend mt_extend (pv 3) (pa_cons (pe_lc (own := [("variable", 7), ("sort", 8)]) (g := gTup K 2 (gCons (gName 7) (gCons (gName 8) gNil))) rfl scRNS.nd (pi_tup (pe_fld (pv 5) rfl)) (blkOk_by (N := ["sorts", "makings", "patterns", "asked", "making", "pattern", "name", "variable", "sort"]) (sc := defScope sRNS) (by decide +kernel)) (fun _ _ _ _ _ => (pg_tup rfl (pgs_cons (pg_name (i := 7) scRNS.nd rfl (Or.inl rfl)) (pgs_cons (pg_name (i := 8) scRNS.nd rfl (Or.inl rfl)) pgs_nil)))) (fun _ _ _ _ _ => (pts_one (pt_cmp (pc_notN (pv 8))))) (fun _ _ _ _ _ => (pv 8))) pa_nil)))))
      (pss_one (ps_for PassesOwn.never rfl (pi_list (pv 3)) (pg_name (i := 6) scRNS.nd rfl (Or.inl rfl)) (pss_one (ps_if (pt_cmpR op_notIn_seq (pv 6) (pv 0) (by rfl)) (pss_one ps_never) pss_nil))))))), ?_⟩
    refine ⟨Nat.zero_le _, fun d hd => ?_⟩
    dsimp only [List.set_cons_succ, List.set_cons_zero]
    have Sd : ∀ {H1 : Hp} {o : HO}, Same H H1 → Same H (upd H1 d o) := fun hs b o e => by
      rw [upd_ne (ne_of_none e hd)]
      exact hs b o e
    have S0 : Same H (upd H d (.lst [])) := Same.upd hd
    refine ⟨_, rfl, m, rfl, ⟨_, S0.seq hm⟩, for_list (K := K) (a := m) (xs := as.map V.ref) (fun i σ H' => (∃ v, σ = [some (.ref s), some (.ref m), some (.ref p), some (.ref d), v, none, none, none, none]) ∧ Same H H' ∧ ∃ zs : List Str, H' d = some (.lst (zs.map V.str)) ∧ zs.length ≤ 2 * i ∧ ∀ z ∈ zs, z ∈ ss) ⟨⟨none, rfl⟩, S0, [], upd_same, Nat.le_refl _, fun z hz => (List.not_mem_nil hz).elim⟩ (fun i σ H' _ p => p.2.1.seq hm) ?_ ?_⟩
    · rintro i y σ H' hi ⟨⟨v, rfl⟩, hS, zs, hz, zl, zo⟩
      obtain ⟨a, x, rfl, hxi, hat⟩ := hms.get hi
      obtain ⟨d', t1, t2, ha, _, _⟩ := MkAt.same hS hat
      have il : i < ms.length := (List.getElem?_eq_some_iff.mp hxi).1
      have ox := hx x (List.mem_of_getElem? hxi)
      dsimp only [gName, List.set_cons_succ, List.set_cons_zero]
      refine ⟨_, rfl, .inl ⟨rfl, _, SqL.of hz⟩, _, rfl, a, B, d', _, _, rfl, ha, TM.cl, TM.nk, makF_maker _ _ _ _, _, rfl, a, B, d', _, _, rfl, ha, TM.cl, TM.nd, makF_made _ _ _ _, by show 2 ≤ sizeLine; decide, fun l2 nl2 => ?_⟩
      refine ⟨d, l2, _, _, rfl, rfl, Same.upd nl2 _ _ hz, upd_same, ?_, ⟨_, rfl⟩, Sd (hS.trans (Same.upd nl2)), zs ++ [x.mr, x.md], ?_, ?_, ?_⟩
      · rw [List.length_map]
        exact Nat.le_trans (show zs.length + 2 ≤ 10000 by omega) (by decide)
      · rw [upd_same, List.map_append]
        rfl
      · rw [List.length_append]
        show zs.length + 2 ≤ _
        omega
      · intro z hzm
        rcases List.mem_append.mp hzm with q | q
        · exact zo z q
        · rcases List.mem_cons.mp q with e | q
          · rw [e]; exact ox.1
          · rw [List.mem_singleton.mp q]; exact ox.2
    rintro σ H1 ⟨⟨v, rfl⟩, hS1, zs, hz, zl, zo⟩
    rw [List.length_map, hms.len] at zl
    refine ⟨_, rfl, p, rfl, ⟨_, hS1.seq hp⟩, for_list (K := K) (a := p) (xs := bs.map V.ref) (fun i σ H' => (∃ v u, σ = [some (.ref s), some (.ref m), some (.ref p), some (.ref d), v, u, none, none, none]) ∧ Same H H' ∧ ∃ zs : List Str, H' d = some (.lst (zs.map V.str)) ∧ zs.length ≤ 2 * ms.length + 4 * i ∧ ∀ z ∈ zs, z ∈ ss) ⟨⟨_, none, rfl⟩, hS1, zs, hz, by omega, zo⟩ (fun i σ H' _ p => p.2.1.seq hp) ?_ ?_⟩
    · rintro i y σ H' hi ⟨⟨v, u, rfl⟩, hS, zs, hz, zl, zo⟩
      obtain ⟨a, x, rfl, hxi, hat⟩ := hvv.get hi
      obtain ⟨C, d', fs, t1, ps, ha, hc, hn, hlk, ht, hrow⟩ := PvAt.same hS hat
      have il : i < vv.length := (List.getElem?_eq_some_iff.mp hxi).1
      have xm := List.mem_of_getElem? hxi
      have x4 := v4 x xm
      dsimp only [gName, List.set_cons_succ, List.set_cons_zero]
      refine ⟨_, rfl, .inl ⟨rfl, _, SqL.of hz⟩, _, rfl, a, C, d', _, _, rfl, ha, hc, hn, hlk, t1, rfl, ⟨_, ht⟩, fun D hD => ?_⟩
      have ndD : d ≠ D := ne_of_none hz hD
      refine lc_it walk_tup (fun j G => Same H' G ∧ ∃ us : List Str, G D = some (.lst (us.map V.str)) ∧ us.length ≤ j ∧ ∀ z ∈ us, z ∈ ss) ⟨Same.upd hD, [], upd_same, Nat.le_refl _, fun z hz => (List.not_mem_nil hz).elim⟩ (fun j G _ p => same_seqT p.1 ht) ?_ ?_
      · rintro j x' G G' hj ⟨hSG, us, hu, ul, uo⟩ ⟨rfl, hxj⟩
        obtain ⟨q, hqj, rfl⟩ := map_ref_get hxj
        obtain ⟨r, hrj, hqr⟩ := hrow.get hqj
        obtain ⟨⟨n, so⟩, hvj, rfl⟩ := var_get hrj
        have jl : j < x.length := (List.getElem?_eq_some_iff.mp hvj).1
        refine ⟨q, _, rfl, same_seqT hSG hqr, rfl, _, _, rfl, _, _, rfl, rfl, rfl, ?_⟩
        cases so with
        | none =>
          refine ⟨_, rfl, _, rfl, ?_⟩
          refine iteF ?_
          exact ⟨hSG, us, hu, by omega, uo⟩
        | some z =>
          refine ⟨_, rfl, _, rfl, ?_⟩
          refine iteT ?_
          refine ⟨_, rfl, _, hu, ?_, ?_, us ++ [z], ?_, ?_, ?_⟩
          · rw [List.length_map]
            exact Nat.lt_of_le_of_lt (show us.length ≤ 100 by omega) (by decide)
          · intro b o h
            rw [upd_ne (ne_of_none h hD)]
            exact hSG b o h
          · rw [upd_same, List.map_append]
            rfl
          · rw [List.length_append, List.length_singleton]
            omega
          · intro y hyy
            rcases List.mem_append.mp hyy with q | q
            · exact uo y q
            · rw [List.mem_singleton.mp q]
              exact hy x xm (n, some z) (List.mem_of_getElem? hvj) z rfl
      · rintro G ⟨hSG, us, hu, ul, uo⟩
        have ul4 : us.length ≤ 4 := by
          rw [List.length_map, hrow.len, List.length_map] at ul
          omega
        refine ⟨d, D, _, _, rfl, rfl, hSG _ _ hz, hu, ?_, ⟨_, _, rfl⟩, Sd (hS.trans hSG), zs ++ us, ?_, ?_, ?_⟩
        · rw [List.length_map, List.length_map]
          exact Nat.le_trans (show zs.length + us.length ≤ 10000 by omega) (by decide)
        · rw [upd_same, List.map_append]
        · rw [List.length_append]
          omega
        · intro z hzm
          rcases List.mem_append.mp hzm with q | q
          · exact zo z q
          · exact uo z q
    rintro σ H2 ⟨⟨v, u, rfl⟩, hS2, zs, hz, zl, zo⟩
    refine ⟨_, rfl, d, rfl, ⟨_, SqL.of hz⟩, for_list (K := K) (a := d) (xs := zs.map V.str) (fun i σ H' => (∃ v u t, σ = [some (.ref s), some (.ref m), some (.ref p), some (.ref d), v, u, t, none, none]) ∧ H' = H2) ⟨⟨_, _, none, rfl⟩, rfl⟩ (fun i σ H' _ p => by rw [p.2]; exact SqL.of hz) ?_ (fun σ H' p => by rw [p.2]; exact k _ hS2)⟩
    rintro i y σ H' hi ⟨⟨v, u, t, rfl⟩, rfl⟩
    rw [List.getElem?_map] at hi
    obtain ⟨z, hzi, rfl⟩ := Option.map_eq_some_iff.mp hi
    dsimp only [gName, List.set_cons_succ, List.set_cons_zero]
    refine ⟨_, rfl, _, rfl, s, _, rfl, .inl (hS2.seq hs), rfl, flat_of ss, _, rfl, ?_⟩
    show if (!inV (.str z) (ss.map V.str)) = true then _ else _
    rw [inV_strs, decide_eq_true (zo z (List.mem_of_getElem? hzi))]
    exact iteF ⟨⟨_, _, _, rfl⟩, rfl⟩
end
end Wm
namespace Wm
open PySem L2 StX
def spRNW (K : PySem.W.Frag) (MB RB BB : Addr) : Sp := fun vs H Q _ => ∃ (w m r b : Addr) (ws : List Str) (as bs cs : List Addr) (ms : List MkD) (rs : List RlD) (ps : List PtD), vs = [.ref w, .ref m, .ref r, .ref b] ∧ SqL K H w (ws.map V.str) ∧ SqL K H m (as.map V.ref) ∧ AllAt (MkAt K MB H) as ms ∧ SqL K H r (bs.map V.ref) ∧ AllAt (RlAt K RB H) bs rs ∧ SqL K H b (cs.map V.ref) ∧ AllAt (BrAt K BB H) cs ps ∧
  ms.length ≤ 1000 ∧ rs.length ≤ 1000 ∧ ps.length ≤ 1000 ∧ (∀ x ∈ ms, x.dn.length ≤ 100 ∧ x.up.length ≤ 100) ∧ (∀ x ∈ rs, x.p.cs.length ≤ 3) ∧ (∀ x ∈ ps, x.cs.length ≤ 3) ∧ (∀ x ∈ ms, (∀ z ∈ x.dn, z ∈ ws) ∧ ∀ z ∈ x.up, z ∈ ws) ∧ (∀ x ∈ rs, (∀ t ∈ x.p.cs, t.2.1 ∈ ws) ∧ x.g.2.1 ∈ ws) ∧ (∀ x ∈ ps, ∀ t ∈ x.cs, t.2.1 ∈ ws) ∧ ∀ H', Same H H' → Q .non H'
section
variable {P : Program} {w : World} {K : PySem.W.Frag} {mg : Str → Option Value} {base : Heap}
theorem scRNW : FnScope ["words", "makings", "rules", "bars", "asked", "making", "rule", "bar", "name", "x", "word", "y"] ["words", "makings", "rules", "bars"] (defScope sRNW) := ⟨rfl, rfl, rfl, by decide +kernel, rfl, by decide +kernel, by decide +kernel⟩
theorem ok_rnw {f MB fM RB fR BB fB : Addr} {fd : FuncData} (F : Fun K "refuse_no_word" "refuse_no_word" sRNW f fd) (TM : TxMak K mg MB fM) (TR : TxRul K mg RB fR) (TB : TxBar K mg BB fB) : FnOk P w K mg base CX0 1 f fd ["words", "makings", "rules", "bars"] (spRNW K MB RB BB) := by
  refine F.ok scRNW (fun vs H Q E h => ?_) (fun cdv A outer s H vs Q E hr h => ?_)
  · obtain ⟨w, m, r, b, ws, as, bs, cs, ms, rs, ps, rfl, _⟩ := h
    rfl
  · obtain ⟨w, m, r, b, ws, as, bs, cs, ms, rs, ps, rfl, hw, hm, hms, hr', hrs, hb, hps, ml, rl, pl, m1, r1, p1, mo, ro, po, k⟩ := h
    refine ⟨_, (pss_cons (ps_set (i := 4) scRNW.nd rfl (Or.inl rfl) (pe_lst pa_nil))
      (pss_cons (ps_for PassesOwn.never rfl (pi_list (pv 1)) (pg_name (i := 5) scRNW.nd rfl (Or.inl rfl)) (pss_one (ps_expr (pe_bm PySem.F.plainAttrs_list PySem.F.slot_list_extend PySem.F.type_list_extend mt_extend (pv 4) (pa_cons (pe_lst (pa_star (pe_fld (pv 5) rfl) (pa_star (pe_fld (pv 5) rfl) pa_nil))) pa_nil)))))
      (pss_cons (ps_for PassesOwn.never rfl (pi_list (pv 2)) (pg_name (i := 6) scRNW.nd rfl (Or.inl rfl)) (pss_one (ps_expr (pe_bm PySem.F.plainAttrs_list PySem.F.slot_list_extend PySem.F.type_list_extend mt_extend (pv 4) (pa_cons (pe_lc (own := [("x", 9), ("word", 10), ("y", 11)]) (g := gTup K 3 (gCons (gName 9) (gCons (gName 10) (gCons (gName 11) gNil)))) rfl scRNW.nd (pi_list (pe_lst (pa_star (pe_fld (pv 6) rfl) (pa_cons (pe_fld (pv 6) rfl) pa_nil)))) (blkOk_by (N := ["words", "makings", "rules", "bars", "asked", "making", "rule", "bar", "name", "x", "word", "y"]) (sc := defScope sRNW) (by decide +kernel)) (fun _ _ _ _ _ => (pg_tup rfl (pgs_cons (pg_name (i := 9) scRNW.nd rfl (Or.inl rfl)) (pgs_cons (pg_name (i := 10) scRNW.nd rfl (Or.inl rfl)) (pgs_cons (pg_name (i := 11) scRNW.nd rfl (Or.inl rfl)) pgs_nil))))) (fun _ _ _ _ _ => pts_nil) (fun _ _ _ _ _ => (pv 10))) pa_nil)))))
      (pss_cons (ps_for PassesOwn.never rfl (pi_list (pv 3)) (pg_name (i := 7) scRNW.nd rfl (Or.inl rfl)) (pss_one (ps_expr (pe_bm PySem.F.plainAttrs_list PySem.F.slot_list_extend PySem.F.type_list_extend mt_extend (pv 4) (pa_cons (pe_lc (own := [("x", 9), ("word", 10), ("y", 11)]) (g := gTup K 3 (gCons (gName 9) (gCons (gName 10) (gCons (gName 11) gNil)))) rfl scRNW.nd (pi_tup (pe_fld (pv 7) rfl)) (blkOk_by (N := ["words", "makings", "rules", "bars", "asked", "making", "rule", "bar", "name", "x", "word", "y"]) (sc := defScope sRNW) (by decide +kernel)) (fun _ _ _ _ _ => (pg_tup rfl (pgs_cons (pg_name (i := 9) scRNW.nd rfl (Or.inl rfl)) (pgs_cons (pg_name (i := 10) scRNW.nd rfl (Or.inl rfl)) (pgs_cons (pg_name (i := 11) scRNW.nd rfl (Or.inl rfl)) pgs_nil))))) (fun _ _ _ _ _ => pts_nil) (fun _ _ _ _ _ => (pv 10))) pa_nil)))))
      (pss_one (ps_for PassesOwn.never rfl (pi_list (pv 4)) (pg_name (i := 8) scRNW.nd rfl (Or.inl rfl)) (pss_one (ps_if (pt_cmpR op_notIn_seq (pv 8) (pv 0) (by rfl)) (pss_one ps_never) pss_nil)))))))), ?_⟩
    refine ⟨Nat.zero_le _, fun d hd => ?_⟩
    dsimp only [List.set_cons_succ, List.set_cons_zero]
    have Sd : ∀ {H1 : Hp} {o : HO}, Same H H1 → Same H (upd H1 d o) := fun hs b o e => by
      rw [upd_ne (ne_of_none e hd)]
      exact hs b o e
    have S0 : Same H (upd H d (.lst [])) := Same.upd hd
    -- the words of the makings
    refine ⟨_, rfl, m, rfl, ⟨_, S0.seq hm⟩, for_list (K := K) (a := m) (xs := as.map V.ref) (fun i σ H' => (∃ v, σ = [some (.ref w), some (.ref m), some (.ref r), some (.ref b), some (.ref d), v, none, none, none, none, none, none]) ∧ Same H H' ∧ ∃ zs : List Str, H' d = some (.lst (zs.map V.str)) ∧ zs.length ≤ 200 * i ∧ ∀ z ∈ zs, z ∈ ws) ⟨⟨none, rfl⟩, S0, [], upd_same, Nat.le_refl _, fun z hz => (List.not_mem_nil hz).elim⟩ (fun i σ H' _ p => p.2.1.seq hm) ?_ ?_⟩
    · rintro i y σ H' hi ⟨⟨v, rfl⟩, hS, zs, hz, zl, zo⟩
      obtain ⟨a, x, rfl, hxi, hat⟩ := hms.get hi
      obtain ⟨d', t1, t2, ha, ht1, ht2⟩ := MkAt.same hS hat
      have il : i < ms.length := (List.getElem?_eq_some_iff.mp hxi).1
      have xm := List.mem_of_getElem? hxi
      have x1 := m1 x xm
      have xo := mo x xm
      dsimp only [gName, List.set_cons_succ, List.set_cons_zero]
      refine ⟨_, rfl, .inl ⟨rfl, _, SqL.of hz⟩, _, rfl, a, MB, d', _, _, rfl, ha, TM.cl, TM.nw, makF_down _ _ _ _, t1, _, rfl, .inl ht1, _, rfl, a, MB, d', _, _, rfl, ha, TM.cl, TM.nu, makF_up _ _ _ _, t2, _, rfl, .inl ht2, ?_⟩
      show (x.dn.map V.str ++ (x.up.map V.str ++ [])).length ≤ sizeLine ∧ _
      rw [show (x.dn.map V.str ++ (x.up.map V.str ++ [])) = (x.dn ++ x.up).map V.str by rw [List.append_nil, List.map_append]]
      refine ⟨Nat.le_trans (show _ ≤ 1000 by rw [List.length_map, List.length_append]; omega) (by decide), fun l2 nl2 => ?_⟩
      refine ⟨d, l2, _, _, rfl, rfl, Same.upd nl2 _ _ hz, upd_same, ?_, ⟨_, rfl⟩, Sd (hS.trans (Same.upd nl2)), zs ++ (x.dn ++ x.up), ?_, ?_, ?_⟩
      · rw [List.length_map, List.length_map, List.length_append]
        exact Nat.le_trans (show _ ≤ 1000000 by omega) (by decide)
      · rw [upd_same]
        simp
      · rw [List.length_append, List.length_append]
        omega
      · intro z hzm
        rcases List.mem_append.mp hzm with q | q
        · exact zo z q
        · rcases List.mem_append.mp q with q | q
          · exact xo.1 z q
          · exact xo.2 z q
    rintro σ H1 ⟨⟨v, rfl⟩, hS1, zs, hz, zl, zo⟩
    rw [List.length_map, hms.len] at zl
    -- those of the rules
    refine ⟨_, rfl, r, rfl, ⟨_, hS1.seq hr'⟩, for_list (K := K) (a := r) (xs := bs.map V.ref) (fun i σ H' => (∃ v u, σ = [some (.ref w), some (.ref m), some (.ref r), some (.ref b), some (.ref d), v, u, none, none, none, none, none]) ∧ Same H H' ∧ ∃ zs : List Str, H' d = some (.lst (zs.map V.str)) ∧ zs.length ≤ 200 * ms.length + 4 * i ∧ ∀ z ∈ zs, z ∈ ws) ⟨⟨_, none, rfl⟩, hS1, zs, hz, by omega, zo⟩ (fun i σ H' _ p => p.2.1.seq hr') ?_ ?_⟩
    · rintro i y σ H' hi ⟨⟨v, u, rfl⟩, hS, zs, hz, zl, zo⟩
      obtain ⟨a, x, rfl, hxi, hat⟩ := hrs.get hi
      obtain ⟨d', t1, t2, t3, us, qs, ha, ht1, hu, ht2, hq, ht3⟩ := RlAt.same hS hat
      have il : i < rs.length := (List.getElem?_eq_some_iff.mp hxi).1
      have xm := List.mem_of_getElem? hxi
      have x1 := r1 x xm
      have xo := ro x xm
      have ql : qs.length = x.p.cs.length := by rw [hq.len, List.length_map]
      dsimp only [gName, List.set_cons_succ, List.set_cons_zero]
      refine ⟨_, rfl, .inl ⟨rfl, _, SqL.of hz⟩, _, rfl, a, RB, d', _, _, rfl, ha, TR.cl, TR.nc, rulF_cond _ _ _ _ _, t2, _, rfl, .inl ht2, _, rfl, a, RB, d', _, _, rfl, ha, TR.cl, TR.ng, rulF_gives _ _ _ _ _, ?_⟩
      show (qs.map V.ref ++ [V.ref t3]).length ≤ sizeLine ∧ _
      rw [show (qs.map V.ref ++ [V.ref t3]) = (qs ++ [t3]).map V.ref by rw [List.map_append]; rfl]
      refine ⟨Nat.le_trans (show _ ≤ 1000 by rw [List.length_map, List.length_append, List.length_singleton]; omega) (by decide), fun l2 nl2 => ?_⟩
      have S2 : Same H' (upd H' l2 (.lst ((qs ++ [t3]).map V.ref))) := Same.upd nl2
      have e2 : (upd H' l2 (.lst ((qs ++ [t3]).map V.ref))) l2 = some (.lst ((qs ++ [t3]).map V.ref)) := upd_same
      have rows : RowsAt K (upd H' l2 (.lst ((qs ++ [t3]).map V.ref))) (qs ++ [t3]) ((x.p.cs ++ [x.g]).map triV) := by
        have e : (x.p.cs ++ [x.g]).map triV = x.p.cs.map triV ++ [triV x.g] := by rw [List.map_append]; rfl
        rw [e]
        exact (hq.same S2).append (show RowsAt K _ [t3] [triV x.g] from ⟨same_seqT S2 ht3, True.intro⟩)
      generalize upd H' l2 (.lst ((qs ++ [t3]).map V.ref)) = G2 at S2 e2 rows
      refine ⟨l2, rfl, ⟨_, SqL.of e2⟩, fun D hD => ?_⟩
      refine lc_it walk_list (fun j G => Same G2 G ∧ G D = some (.lst ((((x.p.cs ++ [x.g]).take j).map (·.2.1)).map V.str))) ⟨Same.upd hD, upd_same⟩ (fun j G _ p => p.1.seq (SqL.of e2)) ?_ ?_
      · rintro j x' G G' hj ⟨hSG, hu'⟩ ⟨rfl, hxj⟩
        obtain ⟨q, hqj, rfl⟩ := map_ref_get hxj
        obtain ⟨rr, hrj, hqr⟩ := rows.get hqj
        obtain ⟨t, htj, rfl⟩ := tri_get hrj
        have jl : j < (x.p.cs ++ [x.g]).length := (List.getElem?_eq_some_iff.mp htj).1
        refine ⟨q, _, rfl, same_seqT hSG hqr, rfl, _, _, rfl, _, _, rfl, _, _, rfl, rfl, rfl, ?_⟩
        refine ⟨_, rfl, _, hu', ?_, ?_, ?_⟩
        · rw [List.length_map, List.length_map, List.length_take]
          rw [List.length_append, List.length_singleton] at jl ⊢
          exact Nat.lt_of_le_of_lt (show _ ≤ 100 by omega) (by decide)
        · intro b o h
          rw [upd_ne (ne_of_none h hD)]
          exact hSG b o h
        · rw [upd_same, List.take_add_one, htj, List.map_append, List.map_append]
          rfl
      · rintro G ⟨hSG, hu'⟩
        rw [List.length_map, rows.len, List.length_map, List.take_length] at hu'
        have hzG := hSG _ _ (S2 _ _ hz)
        refine ⟨d, D, _, _, rfl, rfl, hzG, hu', ?_, ⟨_, _, rfl⟩, Sd ((hS.trans S2).trans hSG), zs ++ (x.p.cs ++ [x.g]).map (·.2.1), ?_, ?_, ?_⟩
        · rw [List.length_map, List.length_map, List.length_map, List.length_append, List.length_singleton]
          exact Nat.le_trans (show _ ≤ 1000000 by omega) (by decide)
        · rw [upd_same]
          simp
        · rw [List.length_append, List.length_map, List.length_append, List.length_singleton]
          omega
        · intro z hzm
          rcases List.mem_append.mp hzm with q | q
          · exact zo z q
          · obtain ⟨t, ht, rfl⟩ := List.mem_map.mp q
            rcases List.mem_append.mp ht with q | q
            · exact xo.1 t q
            · rw [List.mem_singleton.mp q]
              exact xo.2
    rintro σ H2 ⟨⟨v, u, rfl⟩, hS2, zs, hz, zl, zo⟩
    rw [List.length_map, hrs.len] at zl
    -- those of the bars
    refine ⟨_, rfl, b, rfl, ⟨_, hS2.seq hb⟩, for_list (K := K) (a := b) (xs := cs.map V.ref) (fun i σ H' => (∃ v u t, σ = [some (.ref w), some (.ref m), some (.ref r), some (.ref b), some (.ref d), v, u, t, none, none, none, none]) ∧ Same H H' ∧ ∃ zs : List Str, H' d = some (.lst (zs.map V.str)) ∧ zs.length ≤ 200 * ms.length + 4 * rs.length + 4 * i ∧ ∀ z ∈ zs, z ∈ ws) ⟨⟨_, _, none, rfl⟩, hS2, zs, hz, by omega, zo⟩ (fun i σ H' _ p => p.2.1.seq hb) ?_ ?_⟩
    · rintro i y σ H' hi ⟨⟨v, u, t, rfl⟩, hS, zs, hz, zl, zo⟩
      obtain ⟨a, x, rfl, hxi, hat⟩ := hps.get hi
      obtain ⟨d', t1, t2, us, qs, ha, ht1, hu, ht2, hq⟩ := BrAt.same hS hat
      have il : i < ps.length := (List.getElem?_eq_some_iff.mp hxi).1
      have xm := List.mem_of_getElem? hxi
      have x1 := p1 x xm
      have xo := po x xm
      dsimp only [gName, List.set_cons_succ, List.set_cons_zero]
      refine ⟨_, rfl, .inl ⟨rfl, _, SqL.of hz⟩, _, rfl, a, BB, d', _, _, rfl, ha, TB.cl, TB.nc, barF_cond _ _ _, t2, rfl, ⟨_, ht2⟩, fun D hD => ?_⟩
      refine lc_it walk_tup (fun j G => Same H' G ∧ G D = some (.lst (((x.cs.take j).map (·.2.1)).map V.str))) ⟨Same.upd hD, upd_same⟩ (fun j G _ p => same_seqT p.1 ht2) ?_ ?_
      · rintro j x' G G' hj ⟨hSG, hu'⟩ ⟨rfl, hxj⟩
        obtain ⟨q, hqj, rfl⟩ := map_ref_get hxj
        obtain ⟨rr, hrj, hqr⟩ := hq.get hqj
        obtain ⟨t, htj, rfl⟩ := tri_get hrj
        have jl : j < x.cs.length := (List.getElem?_eq_some_iff.mp htj).1
        refine ⟨q, _, rfl, same_seqT hSG hqr, rfl, _, _, rfl, _, _, rfl, _, _, rfl, rfl, rfl, ?_⟩
        refine ⟨_, rfl, _, hu', ?_, ?_, ?_⟩
        · rw [List.length_map, List.length_map, List.length_take]
          exact Nat.lt_of_le_of_lt (show _ ≤ 100 by omega) (by decide)
        · intro b o h
          rw [upd_ne (ne_of_none h hD)]
          exact hSG b o h
        · rw [upd_same, List.take_add_one, htj, List.map_append, List.map_append]
          rfl
      · rintro G ⟨hSG, hu'⟩
        rw [List.length_map, hq.len, List.length_map, List.take_length] at hu'
        refine ⟨d, D, _, _, rfl, rfl, hSG _ _ hz, hu', ?_, ⟨_, _, _, rfl⟩, Sd (hS.trans hSG), zs ++ x.cs.map (·.2.1), ?_, ?_, ?_⟩
        · rw [List.length_map, List.length_map, List.length_map]
          exact Nat.le_trans (show _ ≤ 1000000 by omega) (by decide)
        · rw [upd_same, List.map_append]
        · rw [List.length_append, List.length_map]
          omega
        · intro z hzm
          rcases List.mem_append.mp hzm with q | q
          · exact zo z q
          · obtain ⟨t, ht, rfl⟩ := List.mem_map.mp q
            exact xo t ht
    rintro σ H3 ⟨⟨v, u, t, rfl⟩, hS3, zs, hz, zl, zo⟩
    refine ⟨_, rfl, d, rfl, ⟨_, SqL.of hz⟩, for_list (K := K) (a := d) (xs := zs.map V.str) (fun i σ H' => (∃ v u t n, σ = [some (.ref w), some (.ref m), some (.ref r), some (.ref b), some (.ref d), v, u, t, n, none, none, none]) ∧ H' = H3) ⟨⟨_, _, _, none, rfl⟩, rfl⟩ (fun i σ H' _ p => by rw [p.2]; exact SqL.of hz) ?_ (fun σ H' p => by rw [p.2]; exact k _ hS3)⟩
    rintro i y σ H' hi ⟨⟨v, u, t, n, rfl⟩, rfl⟩
    rw [List.getElem?_map] at hi
    obtain ⟨z, hzi, rfl⟩ := Option.map_eq_some_iff.mp hi
    dsimp only [gName, List.set_cons_succ, List.set_cons_zero]
    refine ⟨_, rfl, _, rfl, w, _, rfl, .inl (hS3.seq hw), rfl, flat_of ws, _, rfl, ?_⟩
    show if (!inV (.str z) (ws.map V.str)) = true then _ else _
    rw [inV_strs, decide_eq_true (zo z (List.mem_of_getElem? hzi))]
    exact iteF ⟨⟨_, _, _, _, rfl⟩, rfl⟩
end
end Wm
namespace Wm
open PySem L2 StX
/-- names in a row, of which the program refuses none -/
structure Row (zs : List Str) : Prop where
  nm : ∀ z ∈ zs, isNm z = true ∧ z.length ≤ 12
  nd : zs.Nodup
theorem Row.noTw {zs : List Str} (h : Row zs) : NoTw (zs.map V.str) := fun i x e => by
  rw [List.getElem?_map] at e
  obtain ⟨z, ez, rfl⟩ := Option.map_eq_some_iff.mp e
  rw [← List.map_take, inV_strs]
  refine decide_eq_false fun hm => ?_
  obtain ⟨j, hj⟩ := List.mem_iff_getElem?.mp hm
  have hlt : j < i := by
    have q := (List.getElem?_eq_some_iff.mp hj).1
    rw [List.length_take] at q
    omega
  rw [List.getElem?_take_of_lt hlt] at hj
  have hil := (List.getElem?_eq_some_iff.mp ez).1
  have e1 := (List.getElem?_eq_some_iff.mp ez).2
  have hjl := (List.getElem?_eq_some_iff.mp hj).1
  have e2 := (List.getElem?_eq_some_iff.mp hj).2
  exact (List.pairwise_iff_getElem.mp h.nd) j i hjl hil hlt (e2.trans e1.symm)
structure TxS (mg : Str → Option Value) : Prop where
  so : ∃ t, mg "MOST_SORTS" = some (.int 4 t)
  wo : ∃ t, mg "MOST_WORDS" = some (.int 5 t)
  ru : ∃ t, mg "MOST_RULES" = some (.int 8 t)
  ba : ∃ t, mg "MOST_BARS" = some (.int 4 t)
def spRNv (K : PySem.W.Frag) : Sp := fun vs H Q _ => ∃ (l : Addr) (zs : List Str), vs = [.ref l] ∧ SqL K H l (zs.map V.str) ∧ (∀ z ∈ zs, isNm z = true ∧ z.length ≤ 12) ∧ ∀ H', Same H H' → Q .non H'
/-- a scheme that is refused by nothing -/
structure SchOk (ss ws : List Str) (ms : List MkD) (rs : List RlD) (ps : List PtD) : Prop where
  sr : Row ss
  wr : Row ws
  s1 : 1 ≤ ss.length
  s4 : ss.length ≤ 4
  w1 : 1 ≤ ws.length
  w5 : ws.length ≤ 5
  m9 : ms.length ≤ 1000
  r8 : rs.length ≤ 8
  b4 : ps.length ≤ 4
  mt : (ms.map fun x => (x.mr, x.md)).Nodup
  rn : (rs.map (·.p.nm)).Nodup
  bn : (ps.map (·.nm)).Nodup
  so : ∀ z ∈ ss, okS z
  mo : ∀ x ∈ ms, x.mr ∈ ss ∧ x.md ∈ ss
  mu : ∀ x ∈ ms, ∃ i j : Nat, i < j ∧ ss[i]? = some x.mr ∧ ss[j]? = some x.md
  ml : ∀ x ∈ ms, x.dn.length ≤ 100 ∧ x.up.length ≤ 100
  mw : ∀ x ∈ ms, (∀ z ∈ x.dn, z ∈ ws) ∧ ∀ z ∈ x.up, z ∈ ws
  rv : ∀ x ∈ rs, x.p.vars.length ≤ 4 ∧ x.p.cs.length ≤ 3 ∧ (∀ y ∈ x.p.vars, ∀ z, y.2 = some z → z ∈ ss) ∧ (∀ t ∈ x.p.cs, t.2.1 ∈ ws) ∧ x.g.2.1 ∈ ws
  bv : ∀ x ∈ ps, x.vars.length ≤ 4 ∧ x.cs.length ≤ 3 ∧ (∀ y ∈ x.vars, ∀ z, y.2 = some z → z ∈ ss) ∧ ∀ t ∈ x.cs, t.2.1 ∈ ws
def spOL (K : PySem.W.Frag) : Sp := fun vs H Q _ => ∃ x : V, vs = [x] ∧ ((x = .non ∧ ∀ d, H d = none → Q (.ref d) (upd H d (.lst []))) ∨ ∃ (l : Addr) (xs : List V), x = .ref l ∧ SqL K H l xs ∧ ∀ d, H d = none → Q (.ref d) (upd H d (.lst xs)))
def spCS (K : PySem.W.Frag) (MB RB BB : Addr) : Sp := fun vs H Q _ => ∃ (s w m r b : Addr) (ss ws : List Str) (as bs cs : List Addr) (ms : List MkD) (rs : List RlD) (ps : List PtD), vs = [.ref s, .ref w, .ref m, .ref r, .ref b] ∧ SqL K H s (ss.map V.str) ∧ SqL K H w (ws.map V.str) ∧ SqL K H m (as.map V.ref) ∧ AllAt (MkAt K MB H) as ms ∧ SqL K H r (bs.map V.ref) ∧ AllAt (RlAt K RB H) bs rs ∧ SqL K H b (cs.map V.ref) ∧ AllAt (BrAt K BB H) cs ps ∧ SchOk ss ws ms rs ps ∧ ∀ H', Same H H' → Q .non H'
theorem noTw_of {zs : List Str} (h : zs.Nodup) : NoTw (zs.map V.str) := fun i x e => by
  rw [List.getElem?_map] at e
  obtain ⟨z, ez, rfl⟩ := Option.map_eq_some_iff.mp e
  rw [← List.map_take, inV_strs]
  refine decide_eq_false fun hm => ?_
  obtain ⟨j, hj⟩ := List.mem_iff_getElem?.mp hm
  have hlt : j < i := by
    have q := (List.getElem?_eq_some_iff.mp hj).1
    rw [List.length_take] at q
    omega
  rw [List.getElem?_take_of_lt hlt] at hj
  have hil := (List.getElem?_eq_some_iff.mp ez).1
  have hjl := (List.getElem?_eq_some_iff.mp hj).1
  exact (List.pairwise_iff_getElem.mp h) j i hjl hil hlt ((List.getElem?_eq_some_iff.mp hj).2.trans (List.getElem?_eq_some_iff.mp ez).2.symm)
theorem RlAt.pv {K : PySem.W.Frag} {mg : Str → Option Value} {RB fR : Addr} {H : Hp} {a : Addr} {x : RlD} (T : TxRul K mg RB fR) (h : RlAt K RB H a x) : PvAt K H a x.p.vars := by
  obtain ⟨d, t1, t2, t3, ps, qs, a1, a2, a3, _⟩ := h
  exact ⟨RB, d, _, t1, ps, a1, T.cl, T.nv, rulF_vars _ _ _ _ _, a2, a3⟩
theorem BrAt.pv {K : PySem.W.Frag} {mg : Str → Option Value} {BB fB : Addr} {H : Hp} {a : Addr} {x : PtD} (T : TxBar K mg BB fB) (h : BrAt K BB H a x) : PvAt K H a x.vars := by
  obtain ⟨d, t1, t2, ps, qs, a1, a2, a3, _⟩ := h
  exact ⟨BB, d, _, t1, ps, a1, T.cl, T.nv, barF_vars _ _ _, a2, a3⟩
theorem AllAt.map {α β : Type} {R : Addr → β → Prop} {f : α → β} : ∀ {as : List Addr} {xs : List α}, AllAt (fun a x => R a (f x)) as xs → AllAt R as (xs.map f)
  | [], [], _ => True.intro
  | _ :: _, _ :: _, q => ⟨q.1, AllAt.map q.2⟩
  | [], _ :: _, q => q.elim
  | _ :: _, [], q => q.elim
section
variable {P : Program} {w : World} {K : PySem.W.Frag} {mg : Str → Option Value} {base : Heap}
theorem ok_rnv {f fN : Addr} {fd fdN : FuncData} (F : Fun K "refuse_no_name" "refuse_no_name" sRN f fd) (D : Dn K mg "is_name" sName ["text"] fN fdN) (GN : FnOk P w K mg base CX0 1 fN fdN ["text"] spName) : FnOk P w K mg base CX0 2 f fd ["texts"] (spRNv K) := by
  refine F.ok scRN (fun vs H Q E h => ?_) (fun cdv A outer s H vs Q E hr h => ?_)
  · obtain ⟨l, zs, rfl, _⟩ := h
    rfl
  · obtain ⟨l, zs, rfl, hl, hn, k⟩ := h
    refine ⟨_, (pss_one (ps_for PassesOwn.never rfl (pi_list (pv 0)) (pg_name (i := 1) scRN.nd rfl (Or.inl rfl)) (pss_one (ps_if (pt_not (pt_val (pe_call GN hr rfl D.g D.F.kp D.b .nil pass0 (pa_cons (pv 1) pa_nil)))) (pss_one ps_never) pss_nil)))), ?_⟩
    refine ⟨_, rfl, l, rfl, ⟨_, hl⟩, for_list (K := K) (a := l) (xs := zs.map V.str) (fun i σ H' => (∃ v, σ = [some (.ref l), v]) ∧ Same H H') ⟨⟨none, rfl⟩, Same.refl H⟩ (fun i σ H' _ p => p.2.seq hl) ?_ (fun σ H' p => k H' p.2)⟩
    rintro i y σ H' hi ⟨⟨v, rfl⟩, hS⟩
    rw [List.getElem?_map] at hi
    obtain ⟨z, hz, rfl⟩ := Option.map_eq_some_iff.mp hi
    have hq := hn z (List.mem_of_getElem? hz)
    refine ⟨_, rfl, z, rfl, Nat.le_trans hq.2 (by decide), fun H2 hS2 => ⟨_, rfl, ?_⟩⟩
    rw [hq.1]
    exact iteF ⟨⟨_, rfl⟩, hS.trans hS2⟩
theorem scOL : FnScope ["rows"] ["rows"] (defScope sOL) := ⟨rfl, rfl, rfl, by decide +kernel, rfl, by decide +kernel, by decide +kernel⟩
theorem ok_ol {f : Addr} {fd : FuncData} (F : Fun K "own_list" "own_list" sOL f fd) (tl : mg "list" = none) : FnOk P w K mg base CX0 1 f fd ["rows"] (spOL K) := by
  refine F.ok scOL (fun vs H Q E h => ?_) (fun cdv A outer s H vs Q E hr h => ?_)
  · obtain ⟨x, rfl, _⟩ := h
    rfl
  · obtain ⟨x, rfl, h⟩ := h
    refine ⟨_, (pss_cons (ps_if (pt_cmp (pc_isN (pv 0))) (pss_one (ps_ret (pe_lst pa_nil))) pss_nil)
      (pss_one (ps_ret (pe_callTy call_list_of (by rfl) tl (by decide +kernel) (pa_cons (pv 0) pa_nil))))), ?_⟩
    refine ⟨_, rfl, _, rfl, ?_⟩
    rcases h with ⟨rfl, k⟩ | ⟨l, xs, rfl, hl, k⟩
    · exact iteT ⟨Nat.zero_le _, fun d hd => k d hd⟩
    · exact iteF ⟨_, rfl, l, _, rfl, .inl hl, fun d hd => k d hd⟩
theorem scCS : FnScope ["sorts", "words", "makings", "rules", "bars", "rule", "bar"] ["sorts", "words", "makings", "rules", "bars"] (defScope sCS) := ⟨rfl, rfl, rfl, by decide +kernel, rfl, by decide +kernel, by decide +kernel⟩
theorem ok_cs {f fRC fRN fRT fRM fNS fRU fNW fF MB fM RB fR BB fB : Addr} {fd dRC dRN dRT dRM dNS dRU dNW dF : FuncData} (F : Fun K "check_scheme" "check_scheme" sCS f fd) (T : TxB mg) (TS : TxS mg) (TM : TxMak K mg MB fM) (TR : TxRul K mg RB fR) (TB : TxBar K mg BB fB)
    (DC : Dn K mg "refuse_count" sRC ["what", "count", "least", "most"] fRC dRC) (DN : Dn K mg "refuse_no_name" sRN ["texts"] fRN dRN) (DT : Dn K mg "refuse_twice" sRT ["names"] fRT dRT) (DM : Dn K mg "refuse_makings_twice" sRMT ["makings"] fRM dRM) (DS : Dn K mg "refuse_no_sort" sRNS ["sorts", "makings", "patterns"] fNS dNS) (DU : Dn K mg "refuse_upward" sRU ["sorts", "makings"] fRU dRU) (DW : Dn K mg "refuse_no_word" sRNW ["words", "makings", "rules", "bars"] fNW dNW) (DF : Dn K mg "first_twice" sFT ["row"] fF dF)
    (GN : FnOk P w K mg base CX0 2 fRN dRN ["texts"] (spRNv K)) (GT : FnOk P w K mg base CX0 2 fRT dRT ["names"] (spFT K)) : FnOk P w K mg base CX0 3 f fd ["sorts", "words", "makings", "rules", "bars"] (spCS K MB RB BB) := by
  have GC : FnOk P w K mg base CX0 1 fRC dRC _ spRC := ok_rc DC.F
  have GM : FnOk P w K mg base CX0 2 fRM dRM _ (spRMT K MB) := ok_rmt DM.F T TM DF
  have GS : FnOk P w K mg base CX0 1 fNS dNS _ (spRNS K MB) := ok_rns DS.F TM
  have GU : FnOk P w K mg base CX0 1 fRU dRU _ (spRU K MB) := ok_ru DU.F TM
  have GW : FnOk P w K mg base CX0 1 fNW dNW _ (spRNW K MB RB BB) := ok_rnw DW.F TM TR TB
  refine F.ok scCS (fun vs H Q E h => ?_) (fun cdv A outer s H vs Q E hr h => ?_)
  · obtain ⟨s, w, m, r, b, ss, ws, as, bs, cs, ms, rs, ps, rfl, _⟩ := h
    rfl
  · obtain ⟨s, w, m, r, b, ss, ws, as, bs, cs, ms, rs, ps, rfl, hs, hw, hm, hms, hr', hrs, hb, hps, ok, k⟩ := h
    have hr1 : Room 1 _ := hr.mono (by decide)
    obtain ⟨t1, g1⟩ := TS.so
    obtain ⟨t2, g2⟩ := TS.wo
    obtain ⟨t3, g3⟩ := TS.ru
    obtain ⟨t4, g4⟩ := TS.ba
    have sl1 := ok.s1
    have sl4 := ok.s4
    have wl1 := ok.w1
    have wl5 := ok.w5
    have rl8 := ok.r8
    have bl4 := ok.b4
    have lr := hrs.len
    have lb := hps.len
    refine ⟨_, (pss_cons (ps_expr (pe_call GC hr1 rfl DC.g DC.F.kp DC.b .nil pass0 (pa_cons pe_str (pa_cons (pe_callB call_len_seq (by rfl) T.len (by decide +kernel) (pa_cons (pv 0) pa_nil)) (pa_cons pe_int (pa_cons (pe_glob (v := .int 4) rfl g1 ⟨t1, rfl⟩) pa_nil))))))
      (pss_cons (ps_expr (pe_call GC hr1 rfl DC.g DC.F.kp DC.b .nil pass0 (pa_cons pe_str (pa_cons (pe_callB call_len_seq (by rfl) T.len (by decide +kernel) (pa_cons (pv 1) pa_nil)) (pa_cons pe_int (pa_cons (pe_glob (v := .int 5) rfl g2 ⟨t2, rfl⟩) pa_nil))))))
      (pss_cons (ps_expr (pe_call GC hr1 rfl DC.g DC.F.kp DC.b .nil pass0 (pa_cons pe_str (pa_cons (pe_callB call_len_seq (by rfl) T.len (by decide +kernel) (pa_cons (pv 3) pa_nil)) (pa_cons pe_int (pa_cons (pe_glob (v := .int 8) rfl g3 ⟨t3, rfl⟩) pa_nil))))))
      (pss_cons (ps_expr (pe_call GC hr1 rfl DC.g DC.F.kp DC.b .nil pass0 (pa_cons pe_str (pa_cons (pe_callB call_len_seq (by rfl) T.len (by decide +kernel) (pa_cons (pv 4) pa_nil)) (pa_cons pe_int (pa_cons (pe_glob (v := .int 4) rfl g4 ⟨t4, rfl⟩) pa_nil))))))
      (pss_cons (ps_expr (pe_call GN hr rfl DN.g DN.F.kp DN.b .nil pass0 (pa_cons (pv 0) pa_nil)))
      (pss_cons (ps_expr (pe_call GN hr rfl DN.g DN.F.kp DN.b .nil pass0 (pa_cons (pv 1) pa_nil)))
      (pss_cons (ps_expr (pe_call GT hr rfl DT.g DT.F.kp DT.b .nil pass0 (pa_cons (pv 0) pa_nil)))
      (pss_cons (ps_expr (pe_call GT hr rfl DT.g DT.F.kp DT.b .nil pass0 (pa_cons (pv 1) pa_nil)))
      (pss_cons (ps_expr (pe_call GM hr rfl DM.g DM.F.kp DM.b .nil pass0 (pa_cons (pv 2) pa_nil)))
      (pss_cons (ps_expr (pe_call GT hr rfl DT.g DT.F.kp DT.b .nil pass0 (pa_cons (pe_lc (own := [("rule", 5)]) (g := gName 5) (te := tFld K (tVar 5) "name") rfl scCS.nd (pi_list (pv 3)) (blkOk_by (N := ["sorts", "words", "makings", "rules", "bars", "rule", "bar"]) (sc := defScope sCS) (by decide +kernel)) (fun _ _ _ _ _ => (pg_name (i := 5) scCS.nd rfl (Or.inl rfl))) (fun _ _ _ _ _ => pts_nil) (fun _ _ _ _ _ => (pe_fld (pv 5) rfl))) pa_nil)))
      (pss_cons (ps_expr (pe_call GT hr rfl DT.g DT.F.kp DT.b .nil pass0 (pa_cons (pe_lc (own := [("bar", 6)]) (g := gName 6) (te := tFld K (tVar 6) "name") rfl scCS.nd (pi_list (pv 4)) (blkOk_by (N := ["sorts", "words", "makings", "rules", "bars", "rule", "bar"]) (sc := defScope sCS) (by decide +kernel)) (fun _ _ _ _ _ => (pg_name (i := 6) scCS.nd rfl (Or.inl rfl))) (fun _ _ _ _ _ => pts_nil) (fun _ _ _ _ _ => (pe_fld (pv 6) rfl))) pa_nil)))
      (pss_cons (ps_expr (pe_call GS hr1 rfl DS.g DS.F.kp DS.b .nil pass0 (pa_cons (pv 0) (pa_cons (pv 2) (pa_cons (pe_lst (pa_star (pv 3) (pa_star (pv 4) pa_nil))) pa_nil)))))
      (pss_cons (ps_expr (pe_call GU hr1 rfl DU.g DU.F.kp DU.b .nil pass0 (pa_cons (pv 0) (pa_cons (pv 2) pa_nil))))
      (pss_one (ps_expr (pe_call GW hr1 rfl DW.g DW.F.kp DW.b .nil pass0 (pa_cons (pv 1) (pa_cons (pv 2) (pa_cons (pv 3) (pa_cons (pv 4) pa_nil)))))))))))))))))))), ?_⟩
    refine ⟨_, rfl, s, _, rfl, .inl hs, _, _, _, _, rfl, by rw [List.length_map]; omega, by rw [List.length_map]; omega, ?_⟩
    refine ⟨_, rfl, w, _, rfl, .inl hw, _, _, _, _, rfl, by rw [List.length_map]; omega, by rw [List.length_map]; omega, ?_⟩
    refine ⟨_, rfl, r, _, rfl, .inl hr', _, _, _, _, rfl, by rw [List.length_map]; omega, by rw [List.length_map]; omega, ?_⟩
    refine ⟨_, rfl, b, _, rfl, .inl hb, _, _, _, _, rfl, by rw [List.length_map]; omega, by rw [List.length_map]; omega, ?_⟩
    refine ⟨_, rfl, s, ss, rfl, hs, ok.sr.nm, fun H1 S1 => ?_⟩
    refine ⟨_, rfl, w, ws, rfl, S1.seq hw, ok.wr.nm, fun H2 S2 => ?_⟩
    have S12 := S1.trans S2
    refine ⟨_, rfl, s, _, rfl, .inl (S12.seq hs), flat_of ss, ok.sr.noTw, fun H3 S3 => ?_⟩
    have S13 := S12.trans S3
    refine ⟨_, rfl, w, _, rfl, .inl (S13.seq hw), flat_of ws, ok.wr.noTw, fun H4 S4 => ?_⟩
    have S14 := S13.trans S4
    refine ⟨_, rfl, m, as, ms, rfl, S14.seq hm, hms.imp fun _ _ q => q.same S14, ok.m9, ok.mt, fun x hx => ⟨ok.so _ (ok.mo x hx).1, ok.so _ (ok.mo x hx).2⟩, fun H5 S5 => ?_⟩
    have S15 := S14.trans S5
    -- names of the rules
    refine ⟨_, rfl, r, rfl, ⟨_, S15.seq hr'⟩, fun D hD => ?_⟩
    refine lc_list (K := K) (a := r) (xs := bs.map V.ref) (fun i H' => Same H5 H' ∧ H' D = some (.lst (((rs.take i).map (·.p.nm)).map V.str))) ⟨Same.upd hD, upd_same⟩ (fun i H' _ p => (S15.trans p.1).seq hr') ?_ ?_
    · rintro i x H' hi ⟨hS, hl⟩
      obtain ⟨a, y, rfl, hy, hat⟩ := hrs.get hi
      obtain ⟨d, t1, t2, t3, us, qs, ha, _⟩ := RlAt.same (S15.trans hS) hat
      have il : i < rs.length := (List.getElem?_eq_some_iff.mp hy).1
      refine ⟨rfl, ?_⟩
      refine ⟨_, rfl, a, RB, d, _, _, rfl, ha, TR.cl, TR.nn, rulF_name _ _ _ _ _, _, hl, ?_, ?_, ?_⟩
      · rw [List.length_map, List.length_map, List.length_take]
        exact Nat.lt_of_le_of_lt (show _ ≤ 100 by omega) (by decide)
      · intro b o h
        rw [upd_ne (ne_of_none h hD)]
        exact hS b o h
      · rw [upd_same, List.take_add_one, hy, List.map_append, List.map_append]
        rfl
    rintro H6 ⟨S6, hl6⟩
    rw [List.length_map, lr, List.take_length] at hl6
    refine ⟨D, _, rfl, .inl (SqL.of hl6), flat_of _, noTw_of ok.rn, fun H7 S7 => ?_⟩
    have S17 := (S15.trans S6).trans S7
    -- names of the bars
    refine ⟨_, rfl, b, rfl, ⟨_, S17.seq hb⟩, fun D2 hD2 => ?_⟩
    refine lc_list (K := K) (a := b) (xs := cs.map V.ref) (fun i H' => Same H7 H' ∧ H' D2 = some (.lst (((ps.take i).map (·.nm)).map V.str))) ⟨Same.upd hD2, upd_same⟩ (fun i H' _ p => (S17.trans p.1).seq hb) ?_ ?_
    · rintro i x H' hi ⟨hS, hl⟩
      obtain ⟨a, y, rfl, hy, hat⟩ := hps.get hi
      obtain ⟨d, t1, t2, us, qs, ha, _⟩ := BrAt.same (S17.trans hS) hat
      have il : i < ps.length := (List.getElem?_eq_some_iff.mp hy).1
      refine ⟨rfl, ?_⟩
      refine ⟨_, rfl, a, BB, d, _, _, rfl, ha, TB.cl, TB.nn, barF_name _ _ _, _, hl, ?_, ?_, ?_⟩
      · rw [List.length_map, List.length_map, List.length_take]
        exact Nat.lt_of_le_of_lt (show _ ≤ 100 by omega) (by decide)
      · intro b o h
        rw [upd_ne (ne_of_none h hD2)]
        exact hS b o h
      · rw [upd_same, List.take_add_one, hy, List.map_append, List.map_append]
        rfl
    rintro H8 ⟨S8, hl8⟩
    rw [List.length_map, lb, List.take_length] at hl8
    refine ⟨D2, _, rfl, .inl (SqL.of hl8), flat_of _, noTw_of ok.bn, fun H9 S9 => ?_⟩
    have S19 := (S17.trans S8).trans S9
    -- sorts
    refine ⟨_, rfl, _, rfl, _, rfl, r, _, rfl, .inr (S19.seq hr'), _, rfl, b, _, rfl, .inr (S19.seq hb), ?_⟩
    show (bs.map V.ref ++ (cs.map V.ref ++ [])).length ≤ sizeLine ∧ _
    rw [show (bs.map V.ref ++ (cs.map V.ref ++ [])) = (bs ++ cs).map V.ref by rw [List.append_nil, List.map_append]]
    refine ⟨Nat.le_trans (show _ ≤ 1000 by rw [List.length_map, List.length_append]; omega) (by decide), fun q hq => ?_⟩
    have Sq : Same H9 (upd H9 q (.lst ((bs ++ cs).map V.ref))) := Same.upd hq
    have eq : (upd H9 q (.lst ((bs ++ cs).map V.ref))) q = some (.lst ((bs ++ cs).map V.ref)) := upd_same
    generalize upd H9 q (.lst ((bs ++ cs).map V.ref)) = Hq at Sq eq
    have S1q := S19.trans Sq
    have pvs : AllAt (PvAt K Hq) (bs ++ cs) (rs.map (·.p.vars) ++ ps.map (·.vars)) := (AllAt.map (f := fun x : RlD => x.p.vars) (hrs.imp fun _ _ z => (z.same S1q).pv TR)).append (AllAt.map (f := fun x : PtD => x.vars) (hps.imp fun _ _ z => (z.same S1q).pv TB))
    refine ⟨s, m, q, ss, as, bs ++ cs, ms, _, rfl, S1q.seq hs, S1q.seq hm, hms.imp fun _ _ z => z.same S1q, SqL.of eq, pvs, ok.m9, ?_, ?_, ok.mo, ?_, fun HA SA => ?_⟩
    · rw [List.length_append, List.length_map, List.length_map]
      omega
    · intro v hv
      rcases List.mem_append.mp hv with z | z
      · obtain ⟨x, hx, rfl⟩ := List.mem_map.mp z
        exact (ok.rv x hx).1
      · obtain ⟨x, hx, rfl⟩ := List.mem_map.mp z
        exact (ok.bv x hx).1
    · intro v hv
      rcases List.mem_append.mp hv with z | z
      · obtain ⟨x, hx, rfl⟩ := List.mem_map.mp z
        exact (ok.rv x hx).2.2.1
      · obtain ⟨x, hx, rfl⟩ := List.mem_map.mp z
        exact (ok.bv x hx).2.2.1
    have S1A := S1q.trans SA
    refine ⟨_, rfl, _, rfl, s, m, ss, as, ms, rfl, S1A.seq hs, S1A.seq hm, hms.imp fun _ _ z => z.same S1A, ok.sr.nd, ok.mu, ?_⟩
    exact ⟨_, rfl, _, rfl, _, rfl, _, rfl, w, m, r, b, ws, as, bs, cs, ms, rs, ps, rfl, S1A.seq hw, S1A.seq hm, hms.imp fun _ _ z => z.same S1A, S1A.seq hr', hrs.imp fun _ _ z => z.same S1A, S1A.seq hb, hps.imp fun _ _ z => z.same S1A, ok.m9, by omega, by omega, ok.ml, fun x hx => (ok.rv x hx).2.1, fun x hx => (ok.bv x hx).2.1, ok.mw, fun x hx => (ok.rv x hx).2.2.2, fun x hx => (ok.bv x hx).2.2.2, fun HB SB => k _ (S1A.trans SB)⟩
end
end Wm
/-! list(zip(xs, ys)) of two lists of one length -/
namespace Wm
open PySem PySem.Spec PyProof.Rows L2
theorem zl_nolen : typeLookup (.type "zip") "__len__" = pure none := by
  rw [typeLookup_type, builtinLookup_eq_fast]
  kernel_rfl
theorem zl_nohint : typeLookup (.type "zip") "__length_hint__" = pure none := by
  rw [typeLookup_type, builtinLookup_eq_fast]
  kernel_rfl
/-- how the zip stands ahead of turn i -/
def ZSt (z TI TO i1 i2 a b : Addr) (i : Nat) (h : Heap) (H : Hp) : Prop :=
  IsPair h TI (.ref i1) (.ref i2) ∧ h.IsListIter i1 a i ∧ h.IsListIter i2 b i ∧
  (∃ x y, IsPair h TO x y) ∧ (IsZip h z TI TO .none ∨ ∃ (T : Addr) (f : Bool) (u : List V), IsZipHeld h z TI TO T f ∧ H T = some (.tup u))
/-- the pairs that stand in the list so far -/
def Prs (H0 H : Hp) (xs ys : List V) (acc : List Addr) : Prop :=
  ∀ (j : Nat) (t : Addr), acc[j]? = some t → H0 t = none ∧ ∃ x y, xs[j]? = some x ∧ ys[j]? = some y ∧ H t = some (.tup [x, y])
theorem fp_upd {X : Cx} {pins : List (Addr × Obj)} {H : Hp} {c d : Addr} {o : HO} (n : c ≠ d) (h : FpOk X pins H c) : FpOk X pins (L2.upd H d o) c := ⟨by rw [upd_ne n]; exact h.1, h.2⟩
section
variable {X : Cx} {pins : List (Addr × Obj)} {σ : L2.St} {A1 : Around} {Rs : Result → Shared → Prop} {S z TI TO i1 i2 a b : Addr} {xs ys : List V} {H0 : Hp}
theorem zl_loop (hh : A1.handled = none) (D : ZipApart z TI TO i1 i2 a b) (hlen : xs.length = ys.length) (hs : xs.length ≤ sizeLine) (nS : H0 S = none) (ha : SqL X.K H0 a xs) (hb : SqL X.K H0 b ys)
    (same : ∀ {H H' : Hp} {c : Addr} {l : List V}, (∀ q o, H q = some o → H' q = some o) → SqL X.K H c l → SqL X.K H' c l)
    (fin : ∀ (H : Hp) (acc : List Addr) (s : Shared), Inv X pins σ H s → (∀ q o, H0 q = some o → H q = some o) → H S = some (.lst (acc.map V.ref)) → acc.length = xs.length → Prs H0 H xs ys acc → Rs (.ok (.ret .none)) s) :
    ∀ (k i : Nat) (acc : List Addr) (H : Hp) (s : Shared), xs.length - i = k → i ≤ xs.length → Inv X pins σ H s → (∀ c ∈ [z, TI, TO, i1, i2], FpOk X pins H c) → ZSt z TI TO i1 i2 a b i s.heap H → (∀ q o, H0 q = some o → H q = some o) →
      H S = some (.lst (acc.map V.ref)) → acc.length = i → Prs H0 H xs ys acc → codeAny (model X.prog X.w) A1 (.builtin "list.extend.loop" ⟨[.ref S, .ref z, .none], []⟩) Rs s := by
  intro k
  induction k with
  | zero =>
    intro i acc H s hk hi I hf st S0 hS hl hp
    have e : i = xs.length := by omega
    refine codeAny_builtin PySem.F.entry_extend_loop ?_
    rw [Around.under_plainId PySem.F.plain_extend_loop _]
    show wpAny _ A1.in1 (pyNext (.ref z) >>= _) _ _ s
    obtain ⟨its, rv, p, _⟩ := I.list (same S0 ha)
    obtain ⟨its2, rv2, p2, _⟩ := I.list (same S0 hb)
    have l1 := rv.length
    have l2 := rv2.length
    have he : its.toArray[i]? = none ∨ its2.toArray[i]? = none := .inl (by simp; omega)
    have done : ∀ h' : Heap, (∀ c o, c ∉ [z, TI, TO, i1, i2] → s.heap.get? c = some o → h'.get? c = some o) → Rs (.ok (.ret .none)) { s with heap := h' } := fun h' hk => fin H acc _ (I.turnedL (t' := s.toks) (ch := [z, TI, TO, i1, i2]) hk hf) S0 hS (by omega) hp
    obtain ⟨hTI, h1, h2, ⟨x0, y0, hTO⟩, hz | ⟨T, f, u, hz, hT⟩⟩ := st
    · exact wpAny_bind (wpAny_pyNext_zip_end (A := A1.in1) hh D hz hTI hTO h1 h2 p.isList p2.isList he fun h' hk => wpAny_pure (done h' fun c o hc => hk c o (fun q => hc (by simp [q])) (fun q => hc (by simp [q])) (fun q => hc (by simp [q])) (fun q => hc (by simp [q]))))
    · obtain ⟨_, _, _, oT, hoT, _⟩ := I.hok T _ hT
      exact wpAny_bind (wpAny_pyNext_zip_end_held (A := A1.in1) hh D hz hoT hTI h1 h2 p.isList p2.isList he fun h' hk => wpAny_pure (done h' fun c o hc => hk c o (fun q => hc (by simp [q])) (fun q => hc (by simp [q])) (fun q => hc (by simp [q]))))
  | succ k ih =>
    intro i acc H s hk hi I hf st S0 hS hl hp
    have hlt : i < xs.length := by omega
    refine codeAny_builtin PySem.F.entry_extend_loop ?_
    rw [Around.under_plainId PySem.F.plain_extend_loop _]
    show wpAny _ A1.in1 (pyNext (.ref z) >>= _) _ _ s
    obtain ⟨its, rv, p, _⟩ := I.list (same S0 ha)
    obtain ⟨its2, rv2, p2, _⟩ := I.list (same S0 hb)
    have hx : xs[i]? = some xs[i] := List.getElem?_eq_getElem hlt
    have hy : ys[i]? = some (ys[i]'(by omega)) := List.getElem?_eq_getElem (by omega)
    generalize xs[i] = x at hx
    generalize (ys[i]'(by omega)) = y at hy
    obtain ⟨u, hu, ru⟩ := rv.get hx
    obtain ⟨u2, hu2, ru2⟩ := rv2.get hy
    have nT : H s.heap.objs.size = none := I.hok.fresh (Nat.le_refl _)
    have n0 : H0 s.heap.objs.size = none := by
      cases e : H0 s.heap.objs.size with
      | none => rfl
      | some o =>
        rw [S0 _ _ e] at nT
        cases nT
    have nST : S ≠ s.heap.objs.size := fun e => by
      rw [← e, hS] at nT
      cases nT
    have zn : ∀ c ∈ [z, TI, TO, i1, i2], c ≠ S := fun c hc e => by
      have q := (hf c hc).1
      rw [e, hS] at q
      cases q
    have old : ∀ c ∈ [z, TI, TO, i1, i2], (∃ o, s.heap.get? c = some o) → c ≠ s.heap.objs.size := fun c _ ⟨o, e⟩ => Nat.ne_of_lt (Heap.lt_size e)
    have more : ∀ h' : Heap, IsZipHeld h' z TI TO s.heap.objs.size false ∨ (∃ (T : Addr) (f : Bool) (w : List V), IsZipHeld h' z TI TO T f ∧ H T = some (.tup w)) → h'.IsListIter i1 a (i + 1) → h'.IsListIter i2 b (i + 1) → IsPair h' TI (.ref i1) (.ref i2) → (∃ x y, IsPair h' TO x y) → IsPair h' s.heap.objs.size u u2 →
        (∀ c ∈ [z, TI, TO, i1, i2], c ≠ s.heap.objs.size) → (∀ c o, c ∉ [z, TI, TO, i1, i2] → s.heap.get? c = some o → h'.get? c = some o) →
        wpAny (model X.prog X.w) A1.in1 (updateSeq S (·.push (.ref s.heap.objs.size)) >>= fun _ => again (.builtin "list.extend.loop" ⟨[.ref S, .ref z, .none], []⟩))
          (fun fin s' => match fin with | .done f => Rs (.ok f) s' | .again c' => c'.quiet = true ∧ codeAny (model X.prog X.w) A1 c' Rs s') (fun e s' => Rs (.error e) s') { s with heap := h' } := by
      intro h' hz' h1' h2' hTI' ⟨a1, a2, hTO'⟩ hT hn hk
      have new : ObjOk X.prog X.w (L2.upd H s.heap.objs.size (.tup [x, y])) h' s.heap.objs.size (.tup [x, y]) := ⟨by show 2 ≤ sizeLine; decide, [u, u2], .cons ru (.cons ru2 .nil), ⟨_, hT, rfl, _, rfl⟩⟩
      have I1 : Inv X pins σ (L2.upd H s.heap.objs.size (.tup [x, y])) { s with heap := h' } := I.turnedNew (t' := s.toks) (ch := [z, TI, TO, i1, i2]) hk hf (Nat.le_refl _) new
      have hS1 : (L2.upd H s.heap.objs.size (.tup [x, y])) S = some (.lst (acc.map V.ref)) := by rw [upd_ne nST]; exact hS
      obtain ⟨zz, itsS, kS, rS, hlS, eS⟩ := I1.lstM hS1
      rw [List.length_map] at hlS zz
      have I2 := I1.lset (f := fun v : Array Value => v.push (.ref s.heap.objs.size)) (its' := itsS ++ [.ref s.heap.objs.size]) (ys := (acc ++ [s.heap.objs.size]).map V.ref) (t' := s.toks) hS1 eS (by simp) (by rw [List.map_append]; exact rS.append (.cons rfl .nil)) (by rw [List.length_map, List.length_append, List.length_singleton]; omega)
      refine wpAny_bind (wpAny_updateSeq eS rfl (wpAny_pure ⟨plainId_quiet PySem.F.plain_extend_loop _, ?_⟩) (by rw [List.size_toArray]; omega) (by show (itsS.toArray.push _).size ≤ sizeLine + 1; rw [Array.size_push, List.size_toArray]; omega))
      have up : ∀ c o, c ≠ S → h'.get? c = some o → (h'.update S (Obj.mapSeq fun v : Array Value => v.push (.ref s.heap.objs.size))).get? c = some o := fun c o n e => (Heap.get?_update_other _ _ n.symm).trans e
      have grow : ∀ q o, q ≠ S → H q = some o → (L2.upd (L2.upd H s.heap.objs.size (.tup [x, y])) S (.lst ((acc ++ [s.heap.objs.size]).map V.ref))) q = some o := fun q o n e => by
        rw [upd_ne n, upd_ne fun e' => by rw [e', nT] at e; cases e]
        exact e
      have eT : (L2.upd (L2.upd H s.heap.objs.size (.tup [x, y])) S (.lst ((acc ++ [s.heap.objs.size]).map V.ref))) s.heap.objs.size = some (.tup [x, y]) := by rw [upd_ne nST.symm, upd_same]
      refine ih (i + 1) (acc ++ [s.heap.objs.size]) _ _ (by omega) hlt I2 (fun c hc => fp_upd (zn c hc) (fp_upd (hn c hc) (hf c hc))) ⟨up _ _ (zn TI (by simp)) hTI', h1'.at fun o q => up _ _ (zn i1 (by simp)) q, h2'.at fun o q => up _ _ (zn i2 (by simp)) q, ⟨a1, a2, up _ _ (zn TO (by simp)) hTO'⟩, .inr ?_⟩ (fun q o e => grow q o (fun z' => by rw [z', nS] at e; cases e) (S0 q o e)) upd_same (by rw [List.length_append, hl]; rfl) ?_
      · rcases hz' with q | ⟨T, f, w, q, hT'⟩
        · exact ⟨_, _, _, up _ _ (zn z (by simp)) q, eT⟩
        · exact ⟨T, f, w, up _ _ (zn z (by simp)) q, grow T _ (fun z' => by rw [z', hS] at hT'; cases hT') hT'⟩
      · intro j t hj
        rcases Nat.lt_trichotomy j acc.length with q | q | q
        · rw [List.getElem?_append_left q] at hj
          obtain ⟨m0, x', y', e1, e2, e3⟩ := hp j t hj
          exact ⟨m0, x', y', e1, e2, grow t _ (fun z' => by rw [z', hS] at e3; cases e3) e3⟩
        · subst q
          have e : s.heap.objs.size = t := by simpa using hj
          subst e
          exact ⟨n0, x, y, by rw [hl]; exact hx, by rw [hl]; exact hy, eT⟩
        · rw [List.getElem?_eq_none (by rw [List.length_append, List.length_singleton]; omega)] at hj
          cases hj
    have hu' : its.toArray[i]? = some u := by simpa using hu
    have hu2' : its2.toArray[i]? = some u2 := by simpa using hu2
    obtain ⟨hTI, h1, h2, ⟨x0, y0, hTO⟩, hzz⟩ := st
    obtain ⟨o1, e1, q1⟩ := id h1
    obtain ⟨o2, e2, q2⟩ := id h2
    have notin : ∀ c, c ∉ [z, TI, TO, i1, i2] → c ≠ z ∧ c ≠ TO ∧ c ≠ i1 ∧ c ≠ i2 := fun c hc => ⟨fun q => hc (by simp [q]), fun q => hc (by simp [q]), fun q => hc (by simp [q]), fun q => hc (by simp [q])⟩
    have hn : (∃ o, s.heap.get? z = some o) → ∀ c ∈ [z, TI, TO, i1, i2], c ≠ s.heap.objs.size := fun hz c hc => old c hc (by
      have e' : c = z ∨ c = TI ∨ c = TO ∨ c = i1 ∨ c = i2 := by simpa using hc
      rcases e' with q | q | q | q | q
      · rw [q]; exact hz
      · rw [q]; exact ⟨_, hTI⟩
      · rw [q]; exact ⟨_, hTO⟩
      · rw [q]; exact ⟨_, e1⟩
      · rw [q]; exact ⟨_, e2⟩)
    rcases hzz with hz | ⟨T, f, w, hz, hT⟩
    · exact wpAny_bind (wpAny_pyNext_zip_item D hz hTI hTO h1 h2 p.isList p2.isList hu' hu2' fun h' z' TO' h1' h2' hT hsz hk => more h' (.inl z') h1' h2' (hk _ _ D.TIz D.TITO D.TIi1 D.TIi2 hTI) ⟨_, _, TO'⟩ hT (hn ⟨_, hz⟩) fun c o hc => hk c o (notin c hc).1 (notin c hc).2.1 (notin c hc).2.2.1 (notin c hc).2.2.2)
    · obtain ⟨_, _, _, oT, hoT, _⟩ := I.hok T _ hT
      exact wpAny_bind (wpAny_pyNext_zip_item_held D hz hoT hTI h1 h2 p.isList p2.isList hu' hu2' fun h' z' h1' h2' hTn hsz hk => more h' (.inr ⟨T, _, w, z', hT⟩) h1' h2' (hk _ _ D.TIz D.TIi1 D.TIi2 hTI) ⟨_, _, hk _ _ D.TOz D.TOi1 D.TOi2 hTO⟩ hTn (hn ⟨_, hz⟩) fun c o hc => hk c o (notin c hc).1 (notin c hc).2.2.1 (notin c hc).2.2.2)
end
def tLZ (K : PySem.W.Frag) (ta : TA) : TE := fun σ H Q => ta σ H fun vs H1 => ∃ (a b : Addr) (xs ys : List V), vs = [.ref a, .ref b] ∧ SqL K H1 a xs ∧ SqL K H1 b ys ∧ xs.length = ys.length ∧ xs.length ≤ 100000 ∧
  ∀ (p : Addr) (ts : List Addr) (H' : Hp), H1 p = none → (∀ q o, H1 q = some o → H' q = some o) → H' p = some (.lst (ts.map V.ref)) → ts.length = xs.length → Prs H1 H' xs ys ts → Q (.ref p) H'
theorem pe_listZip {X : Cx} {e e2 : Expr} {ta : TA} {p p2 pos pos2 : Pos} (hc : X.calm = true) (hgl : Gl X "list") (hml : X.mg "list" = none) (hg : Gl X "zip") (hm : X.mg "zip" = none) (ha : PA X [e, e2] ta)
    (same : ∀ {H H' : Hp} {c : Addr} {l : List V}, (∀ q o, H q = some o → H' q = some o) → SqL X.K H c l → SqL X.K H' c l)
    (hs : starEach [e, e2] X.env = (false, eval e X.env) :: starEach [e2] X.env := by rfl) (hpl : (backTo pos2 (starEach [e2] X.env)).any (·.1) = false := by rfl)
    (hz : starEach [Expr.Call (.Name "zip" p2) [e, e2] [] pos2] X.env = (false, eval (.Call (.Name "zip" p2) [e, e2] [] pos2) X.env) :: starEach [] X.env := by rfl) :
    PE X (.Call (.Name "list" p) [.Call (.Name "zip" p2) [e, e2] [] pos2] [] pos) (tLZ X.K ta) := by
  refine ⟨fun pins s σ H Q I h => ?_⟩
  refine wpAny_Call_Name_kw (ld_blt (u := .type "list") I hgl hml (by decide +kernel) ?_)
  refine PyProof.Rows.callWith_type1 ?_ hz rfl
  rw [hz]
  show wpAny _ _ (spliced ((false, eval (.Call (.Name "zip" p2) [e, e2] [] pos2) X.env) :: backTo pos (starEach [] X.env))) _ _ s
  refine Calls.spliced_cons ?_
  refine Call_ (ld_blt I hg hm PyProof.Rows.boot_zip (PyProof.Rows.callWith_type1 (thn (ha.run pos2 pins s σ H _ I h) fun us s1 ⟨vs, H1, I1, r1, q1⟩ => ?_) hs hpl))
  obtain ⟨a, b, xs, ys, ex, hqx, hqy, hlen, hsz, q⟩ := q1
  subst ex
  cases r1 with
  | cons r rr =>
    cases rr with
    | cons r' rr =>
      cases rr
      cases r
      cases r'
      obtain ⟨its, rv, p1, _⟩ := I1.list hqx
      obtain ⟨its2, rv2, p2', _⟩ := I1.list hqy
      have la : a < s1.heap.objs.size := p1.lt
      have lb : b < s1.heap.objs.size := p2'.lt
      refine call_zip_2 p1.isList p2'.isList fun h' hz' hTI hTO h1 h2 hsz' hk => Calls.spliced_nil ?_
      have I2 : Inv X pins σ H1 { s1 with heap := h' } := I1.kept (t' := s1.toks) hk
      have D := PySem.W.ktu_apart s1.heap.objs.size a b la lb
      have hf : ∀ c ∈ [s1.heap.objs.size + 4, s1.heap.objs.size + 2, s1.heap.objs.size + 3, s1.heap.objs.size, s1.heap.objs.size + 1], FpOk X pins H1 c := fun c hcm => by
        have hle : s1.heap.objs.size ≤ c := by
          have e' : c = s1.heap.objs.size + 4 ∨ c = s1.heap.objs.size + 2 ∨ c = s1.heap.objs.size + 3 ∨ c = s1.heap.objs.size ∨ c = s1.heap.objs.size + 1 := by simpa using hcm
          rcases e' with z | z | z | z | z
          · rw [z]; exact Nat.le_add_right _ _
          · rw [z]; exact Nat.le_add_right _ _
          · rw [z]; exact Nat.le_add_right _ _
          · rw [z]; exact Nat.le_refl _
          · rw [z]; exact Nat.le_add_right _ _
        exact I1.fpOk hle (I1.hok.fresh hle)
      have hzlt : s1.heap.objs.size + 4 < h'.objs.size := by omega
      generalize hz0 : s1.heap.objs.size + 4 = z at hz' hf D hzlt
      generalize hT1 : s1.heap.objs.size + 2 = TI at hTI hz' hf D
      generalize hT2 : s1.heap.objs.size + 3 = TO at hTO hz' hf D
      generalize hT4 : s1.heap.objs.size + 1 = i2 at h2 hTI hf D
      generalize hT3 : s1.heap.objs.size = i1 at h1 hTI hf D
      refine callType_codes (Q₁ := fun obj s₁ => obj = .ref h'.objs.size ∧ s₁ = { s1 with heap := h'.push { cls := .type "list", data := .seq #[] } }) PySem.F.called_list (PySem.F.typeCall_list_1 _) PySem.F.entry_list_init
        (code_list_new _ ⟨rfl, rfl⟩) fun obj s₁ h₁ => ?_
      obtain ⟨rfl, rfl⟩ := h₁
      have hS : (h'.push { cls := .type "list", data := .seq #[] }).get? h'.objs.size = some { cls := .type "list", data := .seq #[] } := Heap.get?_push_size _ rfl
      refine ⟨⟨_, hS, rfl⟩, PySem.F.args_list_init_2 _ _, ?_⟩
      have fr : H1 h'.objs.size = none := I2.hok.fresh (Nat.le_refl _)
      have I3 : Inv X pins σ (L2.upd H1 h'.objs.size (.lst [])) { s1 with heap := h'.push { cls := .type "list", data := .seq #[] } } := I2.lnew (its := []) (t' := s1.toks) .nil (Nat.zero_le _)
      show wpAny _ _ (do let old ← Builtin.List.listItems (.ref h'.objs.size); Builtin.List.listUpdate (.ref h'.objs.size) (fun _ => #[]); letGo old.toList.reverse; Builtin.List.listExtendWith (.ref h'.objs.size) (.ref z) .none) _ _ _
      refine wpAny_bind ?_
      unfold Builtin.List.listItems
      refine wpAny_bind (wpAny_seqItems hS rfl (wpAny_pure ?_))
      show wpAny _ _ (updateSeq h'.objs.size (fun _ => #[]) >>= fun _ => letGo (#[] : Array Value).toList.reverse >>= fun _ => Builtin.List.listExtendWith (.ref h'.objs.size) (.ref z) .none) _ _ _
      refine wpAny_bind (wpAny_updateSeq hS rfl ?_)
      have I4 := I3.lset (f := fun _ => #[]) (its := []) (its' := []) (ys := []) (t' := s1.toks) upd_same hS rfl .nil (Nat.zero_le _)
      rw [upd_upd] at I4
      have hS4 := Heap.get?_update_self (Obj.mapSeq (fun _ => (#[] : Array Value))) hS rfl
      have k4 : ∀ c o, c ≠ h'.objs.size → h'.get? c = some o → ((h'.push { cls := .type "list", data := .seq #[] }).update h'.objs.size (Obj.mapSeq (fun _ => (#[] : Array Value)))).get? c = some o := fun c o n e => (Heap.get?_update_other _ _ n.symm).trans (Heap.get?_push_of_some _ e)
      refine wpAny_bind (wpAny_letGo ?_)
      have nz : ∀ c o, h'.get? c = some o → c ≠ h'.objs.size := fun c o e => Nat.ne_of_lt (Heap.lt_size e)
      have st4 : ∀ (g : Heap), (∀ c o, c ≠ h'.objs.size → h'.get? c = some o → g.get? c = some o) → ∀ H : Hp, ZSt z TI TO i1 i2 a b 0 g H := fun g kg H => ⟨kg _ _ (nz _ _ hTI) hTI, h1.at fun o e => kg _ o (nz _ o e) e, h2.at fun o e => kg _ o (nz _ o e) e, ⟨_, _, kg _ _ (nz _ _ hTO) hTO⟩, .inl (kg _ _ (nz _ _ hz') hz')⟩
      have go : ∀ (g : Heap), (∀ c o, c ≠ h'.objs.size → h'.get? c = some o → g.get? c = some o) → Inv X pins σ (L2.upd H1 h'.objs.size (.lst [])) { s1 with heap := g } →
          codeAny (model X.prog X.w) X.A.in1 (.builtin "list.extend.loop" ⟨[.ref h'.objs.size, .ref z, .none], []⟩) (wants (fun r s₂ => r = .none ∧ EP X pins σ Q (.ref h'.objs.size) s₂) X.xe) { s1 with heap := g } := fun g kg I5 => by
        refine zl_loop (H0 := H1) (S := h'.objs.size) (A1 := X.A.in1) (I1.ok.hd hc) D hlen (Nat.le_trans hsz (by decide)) fr hqx hqy same ?_ _ 0 [] _ _ rfl (Nat.zero_le _) I5 (fun c hcm => fp_upd ?_ (hf c hcm)) (st4 g kg _) ?_ upd_same rfl (fun j t e => by simp at e)
        · intro H' acc s' I' S' hl' len' pr'
          exact ⟨rfl, .ref _, H', I', rfl, q _ acc H' fr S' hl' len' pr'⟩
        · have e' : c = z ∨ c = TI ∨ c = TO ∨ c = i1 ∨ c = i2 := by simpa using hcm
          obtain ⟨o1, e1, q1⟩ := id h1
          obtain ⟨o2, e2, q2⟩ := id h2
          rcases e' with y | y | y | y | y
          · rw [y]; exact nz _ _ hz'
          · rw [y]; exact nz _ _ hTI
          · rw [y]; exact nz _ _ hTO
          · rw [y]; exact nz _ _ e1
          · rw [y]; exact nz _ _ e2
        · intro q' o e
          rw [upd_ne fun y => by rw [y, fr] at e; cases e]
          exact e
      show wpAny _ _ (Builtin.List.listExtendWith (.ref h'.objs.size) (.ref z) .none) _ _ { s1 with heap := (h'.push { cls := .type "list", data := .seq #[] }).update h'.objs.size (Obj.mapSeq (fun _ => (#[] : Array Value))) }
      unfold Builtin.List.listExtendWith
      have hz4 := k4 _ _ (nz _ _ hz') hz'
      have hty : ∀ t, Shared.TypeIs ({ s1 with heap := (h'.push { cls := .type "list", data := .seq #[] }).update h'.objs.size (Obj.mapSeq (fun _ => (#[] : Array Value))), toks := t } : Shared) (.ref z) "zip" := fun t => ⟨_, hz4, rfl⟩
      refine wpAny_bind (wpAny_typeOf (hty _) ?_)
      have c1 : Builtin.List.listSameRef (.ref h'.objs.size) (.ref z) = false := by simp [Builtin.List.listSameRef, (nz _ _ hz').symm]
      have c2 : (Value.type "zip" == Value.type "list") = false := by decide
      have c3 : (Value.type "zip" == Value.type "tuple") = false := by decide
      simp only [c1, c2, c3, Bool.or_false, Bool.false_eq_true, if_false]
      refine wpAny_bind (wpAny_pyIter_zip hz4 ?_)
      refine wpAny_bind (wpAny_holding ?_)
      unfold Builtin.List.listLengthHint
      refine wpAny_bind (wpAny_specialOf (hty _) zl_nolen ?_)
      show wpAny _ _ (specialOf (Value.ref z) (Str.ofString "__length_hint__") >>= _) _ _ _
      refine wpAny_bind (wpAny_specialOf (hty _) zl_nohint ?_)
      refine wpAny_pure ?_
      show wpAny _ _ (rule "list.extend.makes-room" >>= fun _ => Builtin.List.listTouch (.ref h'.objs.size) >>= fun _ => again (.builtin "list.extend.loop" ⟨[.ref h'.objs.size, .ref z, .none], []⟩)) _ _ _
      refine wpAny_bind (wpAny_rule ?_)
      refine wpAny_bind ?_
      show wpAny _ _ (updateSeq h'.objs.size (·.push .none) >>= fun _ => updateSeq h'.objs.size (·.pop)) _ _ _
      refine wpAny_bind (wpAny_updateSeq hS4 rfl ?_)
      have I6 := I4.lset (f := (·.push Value.none)) (its := []) (its' := [Value.none]) (ys := [.non]) (t' := s1.toks) upd_same hS4 (by simp) (.cons rfl .nil) (by decide)
      rw [upd_upd] at I6
      have hS5 := Heap.get?_update_self (Obj.mapSeq (·.push Value.none)) hS4 rfl
      refine wpAny_updateSeq hS5 rfl ?_ (by decide) (by decide)
      have I7 := I6.lset (f := (·.pop)) (its := [Value.none]) (its' := []) (ys := []) (t' := s1.toks) upd_same hS5 (by rfl) .nil (Nat.zero_le _)
      rw [upd_upd] at I7
      exact wpAny_pure ⟨plainId_quiet PySem.F.plain_extend_loop _, go _ (fun c o n e => (Heap.get?_update_other _ _ n.symm).trans ((Heap.get?_update_other _ _ n.symm).trans (k4 c o n e))) I7⟩
end Wm
namespace Wm
open L2 PySem PySem.W
/-- a def to which a caught error is handed within the suite that caught it -/
structure FnE (P : Program) (w : World) (K : Frag) (mg : Str → Option Value) (base : Heap) (k : Nat) (f : Addr) (fd : FuncData) (ps : List Str)
    (sp : Addr → Value → Option Addr → Sp) : Prop where
  len : ∀ a cls d vs H Q E, sp a cls d vs H Q E → vs.length = ps.length
  run : ∀ (A : Around) (outer : List Env) (s : Shared) (H : Hp) (args : Args) (us : List Value) (vs : List V) (Q : VK) (E : XK) (a : Addr) (oe : Obj) (cls : Value) (d : Option Addr),
    L2H.RoomH k A → A.handled = some (.ref a) → Zc cls d oe → (∃ vs, oe.data = .fields vs) → L2H.PinOk outer H s (a, oe) → Env0 P w K mg base A outer s H →
    BindsTo s fd args (ps.zip us) → Vals vs us → sp a cls d vs H Q E → codeAny (model P w) A (.call (.ref f) args) (CR CX0 outer P w H s Q E) s
theorem mark_self {A : Around} {a : Addr} (h : A.handled = some (.ref a)) : A.mark (some (.ref a)) = A := by
  cases A
  simp only at h
  subst h
  rfl
theorem fn_ofE {P : Program} {w : World} {K : Frag} {mg : Str → Option Value} {base : Heap} {k : Nat} {f : Addr} {name qual : Str} {params : Arguments} {body : List Stmt} {scope : Scope}
    {dV kV doc pm cdv ct oc : Value} {an od : Option Addr} {osl : Array (Option Value)} {N ps : List Str} {sp : Addr → Value → Option Addr → Sp}
    (lk : List.lookup f K = some { cls := oc, dict := od, data := .func (fnOf name qual params body scope dV kV doc pm an cdv ct), slots := osl })
    (hcd : codeIn K cdv qual = true) (S : FnScope N ps scope)
    (len : ∀ a cls d vs H Q E, sp a cls d vs H Q E → vs.length = ps.length)
    (hbody : ∀ (A : Around) (outer : List Env) (s : Shared) (H : Hp) (vs : List V) (Q : VK) (E : XK) (a : Addr) (oe : Obj) (cls : Value) (d : Option Addr),
      Zc cls d oe → (∃ vs, oe.data = .fields vs) → L2H.RoomH k (A.deeper (PyProof.Rows.envOfC qual scope s.heap.objs.size f cdv)) → sp a cls d vs H Q E →
      ∃ t, PSs ((cxOf CX0 P w K mg base N qual scope f cdv A outer s H E).suite a [(a, oe)]) body t ∧ t { nx := fun _ H' => Q .non H', rt := Q } (L2.start N vs) H) :
    FnE P w K mg base (k + 1) f (fnOf name qual params body scope dV kV doc pm an cdv ct) ps sp where
  len := len
  run := by
    intro A outer s H args us vs Q E a oe cls d hr hh hz hf hpin e0 hb r hsp
    have KX := Frag.In.keeps e0.mod.kin fun b o e => (e0.bs b o e).1
    have lim := Heap.NoLimit.keeps e0.mod.nolimit fun b o e => (e0.bs b o e).1
    refine codeAny_call_function hr.depth (KX f _ lk) rfl S.co S.gen rfl (codeRec_of KX hcd) (hb _ A.in1 _ _ (wpAny_newFunctionEnv_cells S.kind ?_ ?_))
    · rintro ⟨n, v⟩ hy
      rcases S.par n (List.of_mem_zip hy).1 with q | q
      · exact Or.inl q
      · exact Or.inr ⟨q, cellsFrom_some scope.names (s.heap.objs.size + 1) [] (Or.inl q)⟩
    · intro env he s1 x
      subst he
      refine ⟨Heap.NoLimit.keeps lim x.toInCall.keep, codeAny_func ?_⟩
      obtain ⟨t, ht, hq⟩ := hbody A outer s H vs Q E a oe cls d hz hf (L2H.RoomH.deeper hr _) hsp
      have I := L2H.inv_startH (CX := CX0) (E := E) S hpin e0 (len _ _ _ _ _ _ _ hsp) r x
      have hm : (A.deeper (PyProof.Rows.envOfC qual scope s.heap.objs.size f cdv)).mark (some (.ref a)) = A.deeper (PyProof.Rows.envOfC qual scope s.heap.objs.size f cdv) := mark_self hh
      have o := I.ok
      have I2 : Inv ((cxOf CX0 P w K mg base N qual scope f cdv A outer s H E).suite a [(a, oe)]) [] (L2.start N vs) H s1 :=
        ⟨⟨o.mod, o.kind, o.glob, o.blt, o.above, o.inj, o.has, o.cab, (fun h => by cases h), o.frames, o.stk, o.exf, o.bs, o.bsz, o.noex, o.exfs, o.funs, o.frf⟩,
          I.os, I.bare, I.base, I.loc, I.cell, I.free, I.freeC, I.pin, I.hok, I.len⟩
      have go := ht.run [] s1 (L2.start N vs) H { nx := fun _ H' => Q .non H', rt := Q } I2 hq
      dsimp only [Cx.suite, cxOf] at go
      rw [hm] at go
      refine wpAny_mono go (fun fl s' hs => ?_) fun e s' hs => hs.elim
      cases fl with
      | next =>
        obtain ⟨σ', H', J, q⟩ := hs
        exact ⟨.non, H', J.os, J.bare, J.base, J.hok, rfl, q⟩
      | brk =>
        obtain ⟨_, _, _, q⟩ := hs
        exact q.elim
      | cont =>
        obtain ⟨_, _, _, q⟩ := hs
        exact q.elim
      | ret u =>
        obtain ⟨v, σ', H', J, rv, q⟩ := hs
        exact ⟨v, H', J.os, J.bare, J.base, J.hok, rv, q⟩
theorem FunE_ok {P : Program} {w : World} {K : Frag} {mg : Str → Option Value} {base : Heap} {x qual : Str} {st : Stmt} {f : Addr} {fd : FuncData} {N ps : List Str} {k : Nat} {sp : Addr → Value → Option Addr → Sp}
    (F : Fun K x qual st f fd) (S : FnScope N ps (defScope st))
    (len : ∀ a cls d vs H Q E, sp a cls d vs H Q E → vs.length = ps.length)
    (hbody : ∀ (cdv : Value) (A : Around) (outer : List Env) (s : Shared) (H : Hp) (vs : List V) (Q : VK) (E : XK) (a : Addr) (oe : Obj) (cls : Value) (d : Option Addr),
      Zc cls d oe → (∃ vs, oe.data = .fields vs) → L2H.RoomH k (A.deeper (PyProof.Rows.envOfC qual (defScope st) s.heap.objs.size f cdv)) → sp a cls d vs H Q E →
      ∃ t, PSs ((cxOf CX0 P w K mg base N qual (defScope st) f cdv A outer s H E).suite a [(a, oe)]) (defBody st) t ∧ t { nx := fun _ H' => Q .non H', rt := Q } (L2.start N vs) H) :
    FnE P w K mg base (k + 1) f fd ps sp := by
  obtain ⟨oc, od, kV, doc, pm, an, cdv, ct, osl, rfl, lk, hcd⟩ := F.ex
  exact fn_ofE lk hcd S len fun A outer s H vs Q E a oe cls d hz hf hr hsp => hbody cdv A outer s H vs Q E a oe cls d hz hf hr hsp
/-- the call f(e, ..) of such a def within the suite -/
def tCallE (sp : Sp) (t : TA) : TE := fun σ H Q => t σ H fun vs H1 => sp vs H1 Q (fun _ _ _ => False)
theorem pe_callE {X : Cx} {k : Nat} {f : Addr} {fd : FuncData} {ps : List Str} {sp : Addr → Value → Option Addr → Sp} {a : Addr} {oe : Obj} {cls : Value} {d : Option Addr} {pn : List (Addr × Obj)}
    {x : Str} {q pos : Pos} {e : Expr} {es : List Expr} {t : TA}
    (F : FnE X.prog X.w X.K X.mg X.base k f fd ps sp) (hr : L2H.RoomH k X.A) (hz : Zc cls d oe) (hf : ∃ vs, oe.data = .fields vs) (hg : Gl X x) (hm : X.mg x = some (.ref f))
    (hk : keepIn X.K (.ref f) = true) (hb : L2.Binds X.K fd ps []) (ha : PA (X.suite a ((a, oe) :: pn)) (e :: es) t)
    (hdb : (x == Str.ofString "__debug__") = false := by rfl) (he : starEach (e :: es) X.env = (false, eval e X.env) :: starEach es X.env := by rfl)
    (hpl : ((backTo pos (starEach es X.env)).any fun x => x.1) = false := by rfl) :
    PE (X.suite a ((a, oe) :: pn)) (.Call (.Name x q) (e :: es) [] pos) (tCallE (sp a cls d) t) where
  run := by
    intro pins s σ H Q I h
    refine wpAny_Call_Name_kw (ld_glob I hg hm (callWith_K I.ok.mod.kin hk (thn (ha.run pos pins s σ H _ I h) ?_) he hpl) hdb)
    rintro us s1 ⟨vs, H1, I1, r, h1⟩
    refine ⟨I1.kIn, ?_⟩
    have P1 := I1.pin (a, oe) (List.mem_append_left _ (List.mem_cons_self ..))
    have hp : L2H.PinOk X.stack H1 s1 (a, oe) := ⟨P1.1, P1.2.1, fun hx => (List.mem_cons.mp (I1.stkSub a hx)).elim P1.2.2.1 P1.2.2.2.1, P1.2.2.2.2⟩
    have hl : (us ++ []).length = ps.length := by rw [List.append_nil, ← r.length]; exact F.len _ _ _ _ _ _ _ h1
    have b := hb s1 us I1.kIn hl
    rw [List.append_nil] at b
    have hr2 : L2H.RoomH k (X.suite a ((a, oe) :: pn)).A := ⟨hr.dp, hr.un⟩
    refine wpAny_call (codeAny_mono (F.run (X.suite a ((a, oe) :: pn)).A X.stack s1 H1 ⟨us, []⟩ us vs Q _ a oe cls d hr2 rfl hz hf hp I1.env0 b r h1) fun r s' hq => ?_)
    cases r with
    | error e => exact hq.elim
    | ok fl =>
      cases fl with
      | next => exact hq.elim
      | brk => exact hq.elim
      | cont => exact hq.elim
      | ret u => exact I1.after hq
end Wm
namespace Wm
open PySem L2 PySem.W
/-- an object made where what a refusal is to bring hangs on the slots -/
def tMakeS (C : Addr) (sp : Sp) (E : St → XK) (t : TA) : TE := fun σ H Q => t σ H fun vs H1 => ∀ x dx, H1 x = none → H1 dx = none → dx ≠ x → sp (.ref x :: vs) (upd (upd H1 dx (.own x)) x (.ins C dx [])) (fun v H2 => v = .non ∧ Q (.ref x) H2) (E σ)
theorem pe_makeS {X : Cx} {CX : CXT} {k : Nat} {f C : Addr} {fd : FuncData} {ps : List Str} {sp : Sp} {E : St → XK} {x : Str} {p pos : Pos} {e : Expr} {es : List Expr} {t : TA}
    (M : Mk X.K C f) (F : FnOk X.prog X.w X.K X.mg X.base CX k f fd ps sp) (hr : Room (k + 1) X.A) (hg : Gl X x) (hm : X.mg x = some (.ref C)) (hb : L2.Binds X.K fd ps [])
    (hx : ∀ σ, PassesAt CX X σ (E σ)) (ha : PA X (e :: es) t)
    (hdb : (x == Str.ofString "__debug__") = false := by rfl) (he : starEach (e :: es) X.env = (false, eval e X.env) :: starEach es X.env := by rfl)
    (hpl : ((backTo pos (starEach es X.env)).any fun x => x.1) = false := by rfl) :
    PE X (.Call (.Name x p) (e :: es) [] pos) (tMakeS C sp E t) where
  run := by
    intro pins s0 σ H0 Q I0 h0
    refine wpAny_Call_Name_kw (ld_glob I0 hg hm (callWith_K I0.ok.mod.kin M.kp (thn (ha.run pos pins s0 σ H0 _ I0 h0) ?_) he hpl) hdb)
    rintro us s ⟨vs, H, I, r, h⟩
    refine ⟨I.kIn, ?_⟩
    have hq := h (s.heap.objs.size + 1) s.heap.objs.size (HOk.fresh I.hok (Nat.le_succ _)) (HOk.fresh I.hok (Nat.le_refl _)) (Nat.ne_of_lt (Nat.lt_succ_self _))
    have I2 := Inv.made (C := C) I
    have r2 : Vals (V.ref (s.heap.objs.size + 1) :: vs) (Value.ref (s.heap.objs.size + 1) :: us) := Paired.cons rfl r
    have hl : ((Value.ref (s.heap.objs.size + 1) :: us) ++ []).length = ps.length := by
      rw [List.append_nil, ← r2.length]
      exact F.len _ _ _ _ hq
    have bd := hb ⟨(s.heap.push emptyDict).push (instObj C s.heap.objs.size), s.gens, s.drawn, s.toks, s.os⟩ _ I2.kIn hl
    rw [List.append_nil] at bd
    refine wpAny_call (make_map I.kIn M.makes M.init (beq_iff_eq.mp M.fn) (codeAny_mono (F.run _ X.stack _ _ _ _ _ _ (E σ) (Room.make hr C us []) (Env0.make I2.env0 C us []) bd r2 hq) fun r s' hq' => ?_))
    cases r with
    | error e => exact hx σ pins _ _ e s' I2 hq'
    | ok fl =>
      cases fl with
      | next => exact hq'.elim
      | brk => exact hq'.elim
      | cont => exact hq'.elim
      | ret u =>
        obtain ⟨v, H', I3, rv, rfl, q3⟩ := I2.after (Q := fun v H2 => v = .non ∧ Q (.ref (s.heap.objs.size + 1)) H2) hq'
        exact ⟨rv, .ref (s.heap.objs.size + 1), H', I3, rfl, q3⟩
end Wm
/-! lists walked to their end while an error is handled: sum, comprehensions -/
namespace Wm
open PySem PySem.Spec PyProof.Rows L2 HotX
section
variable {prog : Program} {w : World} {A : Around} {E : Value → Shared → Prop} {s : Shared}
/-- a list iterator at its end: the StopIteration gets the handled error as its context, nothing else is touched -/
theorem next_end_hot {it l x1 : Addr} {i : Nat} {items : Array Value} {Q : Option Value → Shared → Prop} (hot : HotAt A x1 s.heap) (hne : x1 ≠ it) (hit : s.heap.IsListIter it l i) (hl : s.heap.IsList l items) (hx : items[i]? = none)
    (hQ : ∀ h', Heap.ExtBut it s.heap h' → Q none { s with heap := h' }) : wpAny (model prog w) A (pyNext (.ref it)) Q E s := by
  obtain ⟨hh, o1, vs1, g1, f1, c1⟩ := hot
  obtain ⟨oi, gi, ci, di⟩ := id hit
  obtain ⟨ol, gl, _, nl, dl⟩ := hl
  have slot := slot_listiter_next
  unfold pyNext
  refine wpAny_bind (wpAny_attempt (wpAny_callSpecial?_slot (name := Str.ofString "__next__") hit.typeIs slot (wpAny_call_entry slot hit.typeIs entry_listiter_next ?_ (args_listiter_next _))))
  have rd0 : ∀ {Q' : Value → Shared → Prop} {E'} {A'}, Q' (.ref l) s → wpAny (model prog w) A' (field (.ref it) 0) Q' E' s := fun q => wpAny_field gi di (x := .ref l) rfl q
  have rd1 : ∀ {Q' : Value → Shared → Prop} {E'} {A'}, Q' (.int i 0) s → wpAny (model prog w) A' (field (.ref it) 1) Q' E' s := fun q => wpAny_field gi di (x := .int i 0) rfl q
  show wpAny _ _ (field (.ref it) 0 >>= _) _ _ s
  refine wpAny_bind (rd0 ?_)
  show wpAny _ _ (if (Value.ref l == Value.none) = true then _ else _) _ _ s
  rw [if_neg (show ¬ ((Value.ref l == Value.none) = true) from Bool.false_ne_true)]
  show wpAny _ _ (field (.ref it) 1 >>= _) _ _ s
  refine wpAny_bind (rd1 ?_)
  show wpAny _ _ (seqItems? (.ref l) >>= _) _ _ s
  refine wpAny_bind (wpAny_seqItems gl dl ?_)
  simp only [Int.toNat_natCast, hx]
  refine wpAny_bind (wpAny_rule (wpAny_bind (wpAny_setField gi di (by simp) ?_)))
  show wpAny _ _ (newExc (.type "StopIteration") [] >>= _) _ _ _
  refine wpAny_bind ?_
  simp only [newExc, newTuple]
  refine wpAny_bind (wpAny_newObj_type ?_ (by size_fits))
  refine wpAny_bind (m := firstArgMember _ _) (wpAny_of_eq (a := Value.none) (by first | rfl | (simp only [firstArgMember]; rfl)) ?_)
  refine wpAny_newObj_type ?_ (by size_fits)
  refine raiseNew_hot ⟨hh, o1, vs1, (((Heap.SameBut.update ..).extBut.push _).push _) x1 o1 hne g1, f1, c1⟩ (Nat.ne_of_lt (Heap.lt_size (((Heap.SameBut.update ..).extBut.push _) x1 o1 hne g1))) (Heap.get?_push_size _ rfl) rfl (by first | (simp; done) | (simp; omega) | (simp only [Array.size_append]; simp; omega)) ?_
  refine wpAny_bind (wpAny_isInstance (T := "StopIteration") (b := true) ⟨_, Heap.get?_update_self _ (Heap.get?_push_size _ rfl) rfl, rfl⟩ isSubtype_stop ?_)
  refine wpAny_pure (hQ _ fun b o nb e => ?_)
  rw [Heap.get?_update_other _ _ (Nat.ne_of_gt (Heap.lt_size (((Heap.SameBut.update ..).extBut.push _) b o nb e)))]
  exact (((Heap.SameBut.update ..).extBut.push _).push _) b o nb e
/-- the walk over a list, the handled error's object kept in sight -/
theorem walks_hot {x1 : Addr} {o1 : Obj} {v1 : Array Value} (hh : A.handled = some (.ref x1)) (d1 : o1.data = .fields v1) (c1 : v1[2]? = some .none) (I ax : Addr) (hne : ax ≠ I) (hx : x1 ≠ I) (items : Array Value) :
    Walks prog w A I [I, ax, x1] [I] items.size (fun i v => items[i]? = some v) (fun i h => h.IsListIter I ax i ∧ h.IsList ax items ∧ h.get? x1 = some o1) where
  sub := fun b hb => by
    rw [List.mem_singleton.mp hb]
    exact List.mem_cons_self
  frame := fun i h h' ⟨a, b, c⟩ k => ⟨a.at fun o e => k I (by simp) o e, b.at fun o e => k ax (by simp) o e, k x1 (by simp) o1 c⟩
  item := fun i s Q E hi ⟨a, b, c⟩ q => by
    refine wpAny_pyNext_list_item a b (Array.getElem?_eq_getElem hi) fun h' a' sb => ?_
    exact q _ h' s.toks (Array.getElem?_eq_getElem hi) ⟨a', b.at fun o e => (sb.2 ax hne).trans e, (sb.2 x1 hx).trans c⟩ fun y o ny e => (sb.2 y (fun z => ny (by rw [z]; exact List.mem_cons_self))).trans e
  done := fun s Q E ⟨a, b, c⟩ q => next_end_hot ⟨hh, o1, v1, c, d1, c1⟩ hx a b (Array.getElem?_eq_none (Nat.le_refl _)) fun h' eb => q h' s.toks fun y o ny e => eb y o (fun z => ny (by rw [z]; exact List.mem_cons_self)) e
  self := fun i s Q E ⟨a, _, _⟩ q => wpAny_pyIter_listiter a q
theorem sum_hot {l x1 : Addr} {o1 : Obj} {v1 : Array Value} {its : List Value} {ns : List Int} {Q : Value → Shared → Prop} (hh : A.handled = some (.ref x1)) (g1 : s.heap.get? x1 = some o1) (d1 : o1.data = .fields v1) (c1 : v1[2]? = some .none) (hl : s.heap.IsList l its.toArray) (hi : IntsAre its ns)
    (h : ∀ h' tk t', (∀ b o, s.heap.get? b = some o → h'.get? b = some o) → Q (.int ns.sum t') { s with heap := h', toks := tk }) : wpAny (model prog w) A (call (.builtin "sum") [.ref l]) Q E s := by
  obtain ⟨xs, e⟩ := hi.allInts.items
  have hn : numsOf (intItems xs).toList = ns := by rw [← e]; exact hi.numsOf
  rw [nums_intItems] at hn
  rw [e] at hl
  refine call_sum_walkG (iter_intList hl fun s2 e2 st fpl hlI => ?_)
  subst e2
  have hx : x1 ≠ s.heap.objs.size := Nat.ne_of_lt (Heap.lt_size g1)
  refine ⟨_, _, _, _, _, _, numAt xs, rfl, walks_hot (A := A.in1) hh d1 c1 _ l hlI hx (intItems xs), ⟨st.1, st.2, Heap.get?_push_of_some _ g1⟩, fun b hb => ?_, (fun _ _ => intItems_at), fun h' tk t' hk => ?_⟩
  · rcases List.mem_cons.mp hb with z | hb
    · exact fpl b (by rw [z]; simp)
    rcases List.mem_cons.mp hb with z | hb
    · exact fpl b (by rw [z]; simp)
    · rw [List.mem_singleton.mp hb]
      exact Heap.lt_size (Heap.get?_push_of_some _ g1)
  · have q := h h' tk t' (old_kept hk)
    have e3 : preSum (numAt xs) (intItems xs).size = ns.sum := by
      rw [preSum_eq, List.take_of_length_le (by simp [intItems]), hn]
    rw [e3]
    exact q
end
section
variable {X : Cx} {a : Addr} {oe : Obj} {vf : Array Value} {pn : List (Addr × Obj)}
theorem cr_sumH (hf : oe.data = .fields vf) (hn : vf[2]? = some .none) : CallR (X.suite a ((a, oe) :: pn)) (.builtin "sum") (rSum X.K) := by
  intro pins s σ H vs us Q I r h
  obtain ⟨l, ns, rfl, hs, q⟩ := h
  obtain ⟨its, rv, hl, _⟩ := I.list hs
  have P1 := I.pin (a, oe) (List.mem_append_left _ (List.mem_cons_self ..))
  rw [Vals.ref1 r]
  exact sum_hot (x1 := a) rfl P1.1 hf hn hl.isList rv.ints fun h' tk t' hk => ⟨.int _, H, I.kept hk, ⟨_, rfl⟩, q⟩
end
end Wm
/-! [elt for target in a list], no tests, while an error is handled -/
namespace Wm
open PySem PySem.Spec PyProof.Rows L2 HotX
/-- W i: what holds ahead of the turn i -/
def tLcH (K : PySem.W.Frag) (tl : TE) (g : TG) (te : TE) (vs : List Nat) : TE := fun σ H Q => tl σ H fun v H1 => ∃ (l : Addr) (xs : List V), v = .ref l ∧ SqL K H1 l xs ∧ ∀ D, H1 D = none → ∃ W : Nat → Hp → Prop, W 0 (upd H1 D (.lst [])) ∧ (∀ i H', W i H' → SqL K H' l xs) ∧
  (∀ i x H', xs[i]? = some x → W i H' → g x (wipe σ vs) H' fun σ2 H2 => wipe σ2 vs = wipe σ vs ∧ te σ2 H2 fun y H4 => ∃ acc, H4 D = some (.lst acc) ∧ acc.length < sizeLine ∧ W (i + 1) (upd H4 D (.lst (acc ++ [y])))) ∧ ∀ H', W xs.length H' → Q (.ref D) H'
section
variable {X : Cx} {a : Addr} {oe : Obj} {vf : Array Value}
theorem pe_lcH {elt tg l : Expr} {scope : Scope} {own : List (Str × Nat)} {pos : Pos} {tl : TE} {g : TG} {te : TE} (hA : X.A.handled = some (.ref a)) (hpn : (a, oe) ∈ X.pn) (hf : oe.data = .fields vf) (hn : vf[2]? = some .none) (hN : X.N.Nodup) (hl : PE X l tl) (ok : BlkOk X.N X.env.scope scope own)
    (hg : ∀ (s : Shared) (H : Hp) (C : Addr) (cl : List (Str × Addr)) (fp : List Addr), PG (X.blk s H scope (compEnvC scope cl C X.env) fp) tg g)
    (he : ∀ (s : Shared) (H : Hp) (C : Addr) (cl : List (Str × Addr)) (fp : List Addr), PE (X.blk s H scope (compEnvC scope cl C X.env) fp) elt te) (hs : ∀ x, foldedSetIterable l X.env x = pure x := by intro _; rfl) :
    PE X (.ListComp elt [⟨tg, l, [], 0⟩] scope pos) (tLcH X.K tl g te (own.map (·.2))) := by
  refine ⟨fun pins s σ H Q I h => ?_⟩
  rw [eval_ListComp]
  have cells : ∀ y ∈ scope.names, y.2 = .free → ∃ c, X.env.cells.lookup y.1 = some c := fun y hy e => (ok.free y hy e).elim (fun k => I.ok.has _ (.inl k)) (fun k => I.ok.has _ (.inr k))
  refine wpAny_comprehension_free (use := none) rfl hs (closure_ok cells) ok.kind (fun y hy e => by rw [ok.uniq y hy, e]) (thn (hl.run pins s σ H _ I h) fun v s1 ⟨x, H1, I1, r1, q1⟩ => ?_)
  obtain ⟨la, xs, rfl, hq, q⟩ := q1
  cases r1
  obtain ⟨its, rv, p, hz⟩ := I1.list hq
  refine wpAny_pyIter_list p.isList ?_
  -- the iterator, the new list, the block
  generalize hit : s1.heap.objs.size = it
  have itn : H1 it = none := I1.hok.fresh (Nat.le_of_eq hit)
  have I2 : Inv X pins σ H1 { s1 with heap := s1.heap.push { cls := .type "list_iterator", data := .fields #[.ref la, .int 0 0] } } := I1.kept (t' := s1.toks) fun b o e => Heap.get?_push_of_some _ e
  have st2 : ({ s1 with heap := s1.heap.push { cls := .type "list_iterator", data := .fields #[.ref la, .int 0 0] } } : Shared).heap.IsListIter it la 0 := by
    rw [← hit]
    exact ⟨_, Heap.get?_push_size _ rfl, rfl, rfl⟩
  have fp2 : FpOk X pins H1 it := I1.fpOk (Nat.le_of_eq hit) itn
  generalize hs2 : ({ s1 with heap := s1.heap.push { cls := .type "list_iterator", data := .fields #[.ref la, .int 0 0] } } : Shared) = s2 at I2 st2 ⊢
  refine wpAny_newObj_type (newEnv_comp ?_) (by show 0 ≤ sizeLine; decide)
  generalize hD : s2.heap.objs.size = D
  have Dn : H1 D = none := I2.hok.fresh (Nat.le_of_eq hD)
  have itD : it ≠ D := fun z => by
    obtain ⟨o, e, _⟩ := st2
    exact absurd (Heap.lt_size e) (by rw [z, ← hD]; exact Nat.lt_irrefl _)
  obtain ⟨W, w0, wq, step, fin⟩ := q D Dn
  have I3 : Inv X pins σ (upd H1 D (.lst [])) { s2 with heap := s2.heap.push { cls := .type "list", data := .seq ([] : List Value).toArray } } := by
    refine I2.laid (t' := s2.toks) (fun b o e => Heap.get?_push_of_some _ e) (Nat.le_of_eq hD) ⟨Nat.zero_le _, [], 0, .nil, ?_⟩
    rw [← hD]
    exact Heap.get?_push_size _ rfl
  have st3 : ({ s2 with heap := s2.heap.push { cls := .type "list", data := .seq ([] : List Value).toArray } } : Shared).heap.IsListIter it la 0 := st2.at fun o e => Heap.get?_push_of_some _ e
  generalize ({ s2 with heap := s2.heap.push { cls := .type "list", data := .seq ([] : List Value).toArray } } : Shared) = s3 at I3 st3 ⊢
  generalize hH3 : upd H1 D (.lst []) = H3 at I3 w0
  have it3 : H3 it = none := by rw [← hH3, upd_ne itD]; exact itn
  have fp3 : ∀ b ∈ [it], FpOk X pins H3 b ∧ b < s3.heap.objs.size := fun b hb => by
    rw [List.mem_singleton.mp hb]
    obtain ⟨o, e, _⟩ := st3
    exact ⟨⟨it3, fp2.2⟩, Heap.lt_size e⟩
  have I4 := block_start I3 ok hN fp3
  have pg := hg s3 H3 s3.heap.objs.size (cellsFrom (s3.heap.objs.size + 1) scope.names (cloFrom X.env.cells scope.names [])) [it]
  have pe := he s3 H3 s3.heap.objs.size (cellsFrom (s3.heap.objs.size + 1) scope.names (cloFrom X.env.cells scope.names [])) [it]
  have P3 := I3.pin (a, oe) (List.mem_append_left _ hpn)
  have aS : a ∉ frs X.stack := fun z => (List.mem_cons.mp (I3.stkSub a z)).elim P3.2.2.1 P3.2.2.2.1
  have aI : a ≠ it := fun z => fp2.2.2.2.2.2 (a, oe) (List.mem_append_left _ hpn) z
  show codeAny _ _ (.compStart (.ListComp elt [⟨tg, l, [], 0⟩] scope pos) 0 (.ref it) (.ref D) (compEnvC scope (cellsFrom (s3.heap.objs.size + 1) scope.names (cloFrom X.env.cells scope.names [])) s3.heap.objs.size X.env)) _ { s3 with heap := pushCells (s3.heap.push { cls := .type "dict", data := .dict #[] }) scope.names }
  generalize hce : compEnvC scope (cellsFrom (s3.heap.objs.size + 1) scope.names (cloFrom X.env.cells scope.names [])) s3.heap.objs.size X.env = ce at I4 pg pe ⊢
  have cL : ce.locals = s3.heap.objs.size := by subst hce; rfl
  have st4 : ({ s3 with heap := pushCells (s3.heap.push { cls := .type "dict", data := .dict #[] }) scope.names } : Shared).heap.IsListIter it la 0 := st3.at fun o e => pushCells_keeps _ _ _ _ (Heap.get?_push_of_some _ e)
  generalize ({ s3 with heap := pushCells (s3.heap.push { cls := .type "dict", data := .dict #[] }) scope.names } : Shared) = s4 at I4 st4 ⊢
  -- the iterator stands apart in every state of the block
  have apart : ∀ {σ' : L2.St} {H' : Hp} {s' : Shared}, Inv (X.blk s3 H3 scope ce [it]) [] σ' H' s' → H' it = none → FpOk (X.blk s3 H3 scope ce [it]) [] H' it := fun {σ' H' s'} I' z =>
    have m : it ∈ [it] := List.mem_cons_self
    ⟨z, (I'.ok.exf it m).1, I'.ok.exfs it m, .inl m, fun y c e => (I'.ok.exf it m).2 y c e, fun p hp => (List.not_mem_nil (show p ∈ ([] : List (Addr × Obj)) from hp)).elim⟩
  have loop : codeAny (model X.prog X.w) X.A (.compLoop (.ListComp elt [⟨tg, l, [], 0⟩] scope pos) 0 (.ref it) (.ref D) ce) (compPost (model X.prog X.w) X.A X.xe none (EP X pins σ Q) (.ref D) s3.heap.objs.size) s4 := by
    refine compLoop_any (fun n s' => ∃ i H', i + n = xs.length ∧ Inv (X.blk s3 H3 scope ce [it]) [] (wipe σ (own.map (·.2))) H' s' ∧ s'.heap.IsListIter it la i ∧ H' it = none ∧ W i H') ?_ xs.length ⟨0, H3, Nat.zero_add _, I4, st4, it3, w0⟩
    rintro n s5 ⟨i, H5, hi, I5, st5, n5, w5⟩
    obtain ⟨its5, rv5, p5, _⟩ := I5.list (wq i H5 w5)
    have hl5 := rv5.length
    have F5 := apart I5 n5
    obtain ⟨f0, f1, f2, f3, f4, f5⟩ := F5
    cases n with
    | zero =>
      have hot : HotAt X.A a s5.heap := ⟨hA, oe, vf, I5.base.keep a oe P3.1 P3.2.1 aS (fun z => aI (List.mem_singleton.mp z)), hf, hn⟩
      refine next_end_hot hot aI st5 p5.isList (by simp; omega) fun h' eb => ?_
      have I6 : Inv (X.blk s3 H3 scope ce [it]) [] (wipe σ (own.map (·.2))) H5 { s5 with heap := h' } := I5.turned (t' := s5.toks) (fun b o hb e => eb b o hb e) f0 f1 f3 f4 f5
      have I7 : Inv X pins σ H5 { s5 with heap := h' } := I3.call' (ch := [it]) I6.os I6.base I6.hok I6.bare fun b hb => ⟨(fp3 b hb).1.2.2.2.1, (fp3 b hb).1.2.1, (fp3 b hb).1.2.2.2.2.1, (fp3 b hb).1.2.2.2.2.2⟩
      have nC : H5 s3.heap.objs.size = none := by
        rw [← cL]
        exact I6.free
      obtain ⟨m, hm, _⟩ := I6.loc
      have hm : ({ s5 with heap := h' } : Shared).heap.Ns ce.locals m := hm
      rw [cL] at hm
      obtain ⟨k0, k1, k2, k3, k4, k5⟩ := I3.fpOk (Nat.le_refl _) nC
      refine ⟨m, hm, fun h'' sb => ⟨.ref D, H5, I7.turned (t' := s5.toks) (fun b o hb e => (sb.2 b hb).trans e) k0 k1 k3 k4 k5, rfl, fin H5 ?_⟩⟩
      have e : i = xs.length := by omega
      rw [← e]
      exact w5
    | succ n =>
      have hlt : i < xs.length := by omega
      obtain ⟨u, hu, ru⟩ := rv5.get (List.getElem?_eq_getElem hlt)
      refine wpAny_pyNext_list_item st5 p5.isList (x := u) (by simpa using hu) fun h' st6 sb => ?_
      have I6 : Inv (X.blk s3 H3 scope ce [it]) [] (wipe σ (own.map (·.2))) H5 { s5 with heap := h' } := I5.turned (t' := s5.toks) (fun b o hb e => (sb.2 b hb).trans e) f0 f1 f3 f4 f5
      obtain ⟨o6, e6, c6, d6⟩ := id st6
      refine go_of (s := { s5 with heap := h' }) e6 c6 d6 (by decide) ?_
      have I6' := I6.pinned (fp := [it]) (fun b hb => by rw [List.mem_singleton.mp hb]; exact apart I6 n5) (fun b hb => by rw [List.mem_singleton.mp hb]; exact ⟨o6, e6, fun v z => by rw [d6] at z; cases z⟩)
      refine thnF (pg.run _ _ _ H5 _ u _ I6' ru (step i _ H5 (List.getElem?_eq_getElem hlt) w5)) fun _ s8 ⟨σ8, H8, I8, hw8, q8⟩ => ?_
      refine wpAny_tests_nil ?_
      simp only [if_true]
      refine thnF (pe.run _ s8 σ8 H8 _ I8 q8) fun z s10 ⟨yv, H10, I10, r10, acc, hD10, hz10, nx⟩ => ?_
      refine app_ok (X := X.blk s3 H3 scope ce [it]) I10 hD10 hz10 r10 fun s11 I11 => ?_
      have pin := I11.pin (it, o6) (List.mem_append_right _ (List.mem_append_right _ (mem_pinsAt List.mem_cons_self e6)))
      refine ⟨n, Nat.lt_succ_self n, i + 1, _, by omega, (I11.unpinned (pins := [])).weak (by rw [← hw8, wipe_length]) (fun j v e => ?_), st6.at fun o e => ?_, pin.2.1, nx⟩
      · rw [← hw8] at e
        exact (wipe_some e).1
      · rw [e6] at e
        cases e
        exact pin.1
  exact codeAny_compStart_list loop (wpAny_pyIter_listiter st4 loop)
end
end Wm
/-! own errors whose context is known to be None, from raise to the suite that hands them on -/
namespace Wm
open PySem PySem.Spec PyProof.Rows L2
section
variable {X : Cx} {e : Expr} {es : List Expr} {ta : TA} {p pos : Pos}
/-- an own error made: its context is None -/
theorem pmkN_oex {CX : CXT} {x : Str} {C fI : Addr} {k : Nat} {fd : FuncData} {ps : List Str} {sp : Sp} (T : OexC X.K C) (iC : PySem.W.findIn X.K (.ref C) "__init__" = some (some (.ref fI))) (tI : PySem.W.typeIn X.K (.ref fI) = some (.type "function"))
    (G : FnOk X.prog X.w X.K X.mg X.base CX k fI fd ps sp) (hr : Room (k + 1) X.A) (hb : L2.Binds X.K fd ps []) (hx : Passes CX X (fun _ _ _ => False)) (hg : Gl X x) (hm : X.mg x = some (.ref C)) (ha : PA X (e :: es) ta)
    (hdb : (x == ("__debug__" : Str)) = false := by decide) (he : starEach (e :: es) X.env = (false, eval e X.env) :: starEach es X.env := by rfl) (hpl : (backTo pos (starEach es X.env)).any (·.1) = false := by rfl) :
    L2N.PMk X (.Call (.Name x p) (e :: es) [] pos) (tMkO C sp [] ta) := by
  intro pins s σ H Q I h
  obtain ⟨nm, q, N, bs, bm, sn, sub, ab, col, dd, k0, k1, k2, k3, k5, hC, hbm⟩ := T.cls
  refine wpAny_Call_Name_kw (ld_glob I hg hm (PySem.W.callWith_K (h₀ := X.base) I.ok.mod.kin T.kC (thn (ha.run pos pins s σ H _ I h) ?_) he hpl) hdb)
  rintro us ⟨hp, g, dr, tk, os⟩ ⟨vs, H1, I1, r1, hz, q1⟩
  refine ⟨I1.kIn, ?_⟩
  generalize hA : hp.objs.size + 1 = A1 at *
  have le : hp.objs.size ≤ A1 := by omega
  have fr : H1 A1 = none := I1.hok.fresh le
  have hq := q1 A1 fr
  rw [List.append_nil] at hq
  have kp : ∀ b o, hp.get? b = some o → ((hp.push (PySem.W.kdv_tup us)).push (PySem.HandSPX.excO C hp.objs.size)).get? b = some o := fun b o z => Heap.get?_push_of_some _ (Heap.get?_push_of_some _ z)
  have new : ((hp.push (PySem.W.kdv_tup us)).push (PySem.HandSPX.excO C hp.objs.size)).get? A1 = some (PySem.HandSPX.excO C hp.objs.size) := by
    rw [← hA]
    heap_get
  have I2 : Inv X pins σ (upd H1 A1 (exo A1 C none)) ⟨(hp.push (PySem.W.kdv_tup us)).push (PySem.HandSPX.excO C hp.objs.size), g, dr, tk, os⟩ := I1.laid (t' := tk) (a := A1) (o := exo A1 C none) kp le (exo_ok new)
  have r2 : Vals (V.ref A1 :: vs) (Value.ref A1 :: us) := .cons rfl r1
  have ln : (Value.ref A1 :: us ++ []).length = ps.length := by
    rw [List.append_nil, ← r2.length]
    exact G.len _ _ _ _ hq
  have b2 := hb _ (Value.ref A1 :: us) I2.kIn ln
  rw [List.append_nil] at b2
  have big : us.length ≤ sizeLine := by
    rw [← Paired.length r1, sizeLine_eq]
    omega
  subst hA
  refine wpAny_call (PySem.HandSPX.call_own F.excBase_ValueError (fun Y => PySem.HandSPX.refsVE_contains Y bm hbm) (I1.kIn _ _ hC) (PySem.W.looks_findIn I1.kIn iC) (fun self => PySem.W.bind_fn I1.kIn self tI) big
    (codeAny_mono (G.run _ X.stack _ _ _ _ _ _ (fun _ _ _ => False) (hr.make C us []) (I2.env0.make C us []) b2 r2 hq) fun r s' hq' => ?_))
  cases r with
  | error er => exact hx pins σ _ _ er s' I2 hq'
  | ok fl =>
    cases fl with
    | next => exact hq'.elim
    | brk => exact hq'.elim
    | cont => exact hq'.elim
    | ret u =>
      obtain ⟨v, H2, os2, bare2, un2, hok2, rv, rfl, d, fs, ea, ed, hd1, q2⟩ := hq'
      obtain ⟨h2, g2, d2, t2, os'⟩ := s'
      obtain ⟨t0, W, J, kW, ge, hoe, na⟩ := mk_end0 (d2 := d2) (t2 := t2) I1 le kp un2 hok2 os2 bare2 ea ed hd1
      refine ⟨rv, hp.objs.size + 1, _, _, ⟨W, g2, d2, t2, os'⟩, _, .ref C, some d, rfl, J, kW, ge, hoe, ⟨rfl, rfl, fun vs hv => ?_⟩, rfl, rfl, na, rfl, bare2, raises_own T.exC T.tyC, q2⟩
      cases hv
      rfl
end
section
variable {P : Program} {w : World} {K : PySem.W.Frag} {mg : Str → Option Value} {base : Heap}
theorem okN {x qual : Str} {st : Stmt} {f : Addr} {fd : FuncData} {N ps : List Str} {k : Nat} {sp : Sp} (F : Fun K x qual st f fd) (S : FnScope N ps (defScope st)) (len : ∀ vs H Q E, sp vs H Q E → vs.length = ps.length)
    (hbody : ∀ (cdv : Value) (A : Around) (outer : List Env) (s : Shared) (H : Hp) (vs : List V) (Q : VK) (E : XK), Room k (A.deeper (envOfC qual (defScope st) s.heap.objs.size f cdv)) → sp vs H Q E →
      ∃ t, PSs (cxOf (L2N.CX P w) P w K mg base N qual (defScope st) f cdv A outer s H E) (defBody st) t ∧ t { nx := fun _ H' => Q .non H', rt := Q } (L2.start N vs) H) : FnOk P w K mg base (L2N.CX P w) (k + 1) f fd ps sp := by
  obtain ⟨oc, od, kV, doc, pm, an, cdv, ct, osl, rfl, lk, hcd⟩ := F.ex
  exact fn_of lk hcd S len fun A outer s H vs Q E hr hsp => hbody cdv A outer s H vs Q E hr hsp
end
/-- around a body nothing is let out -/
theorem takesN0 {X : Cx} : L2N.Takes X (fun _ _ _ _ => False) := fun _ _ x => by
  obtain ⟨_, _, _, _, _, _, _, _, _, _, _, _, _, _, _, _, z⟩ := x
  exact z.elim
end Wm
namespace Wm
open L2 PySem PySem.W
/-- a def to which a caught error is handed within the suite that caught it -/
structure FnEN (P : Program) (w : World) (K : Frag) (mg : Str → Option Value) (base : Heap) (k : Nat) (f : Addr) (fd : FuncData) (ps : List Str)
    (sp : Addr → Value → Option Addr → Sp) : Prop where
  len : ∀ a cls d vs H Q E, sp a cls d vs H Q E → vs.length = ps.length
  run : ∀ (A : Around) (outer : List Env) (s : Shared) (H : Hp) (args : Args) (us : List Value) (vs : List V) (Q : VK) (E : XK) (a : Addr) (oe : Obj) (cls : Value) (d : Option Addr),
    L2H.RoomH k A → A.handled = some (.ref a) → L2N.Zn cls d oe → (∃ vs, oe.data = .fields vs) → L2H.PinOk outer H s (a, oe) → Env0 P w K mg base A outer s H →
    BindsTo s fd args (ps.zip us) → Vals vs us → sp a cls d vs H Q E → codeAny (model P w) A (.call (.ref f) args) (CR CX0 outer P w H s Q E) s
theorem fn_ofEN {P : Program} {w : World} {K : Frag} {mg : Str → Option Value} {base : Heap} {k : Nat} {f : Addr} {name qual : Str} {params : Arguments} {body : List Stmt} {scope : Scope}
    {dV kV doc pm cdv ct oc : Value} {an od : Option Addr} {osl : Array (Option Value)} {N ps : List Str} {sp : Addr → Value → Option Addr → Sp}
    (lk : List.lookup f K = some { cls := oc, dict := od, data := .func (fnOf name qual params body scope dV kV doc pm an cdv ct), slots := osl })
    (hcd : codeIn K cdv qual = true) (S : FnScope N ps scope)
    (len : ∀ a cls d vs H Q E, sp a cls d vs H Q E → vs.length = ps.length)
    (hbody : ∀ (A : Around) (outer : List Env) (s : Shared) (H : Hp) (vs : List V) (Q : VK) (E : XK) (a : Addr) (oe : Obj) (cls : Value) (d : Option Addr),
      L2N.Zn cls d oe → (∃ vs, oe.data = .fields vs) → L2H.RoomH k (A.deeper (PyProof.Rows.envOfC qual scope s.heap.objs.size f cdv)) → sp a cls d vs H Q E →
      ∃ t, PSs ((cxOf CX0 P w K mg base N qual scope f cdv A outer s H E).suite a [(a, oe)]) body t ∧ t { nx := fun _ H' => Q .non H', rt := Q } (L2.start N vs) H) :
    FnEN P w K mg base (k + 1) f (fnOf name qual params body scope dV kV doc pm an cdv ct) ps sp where
  len := len
  run := by
    intro A outer s H args us vs Q E a oe cls d hr hh hz hf hpin e0 hb r hsp
    have KX := Frag.In.keeps e0.mod.kin fun b o e => (e0.bs b o e).1
    have lim := Heap.NoLimit.keeps e0.mod.nolimit fun b o e => (e0.bs b o e).1
    refine codeAny_call_function hr.depth (KX f _ lk) rfl S.co S.gen rfl (codeRec_of KX hcd) (hb _ A.in1 _ _ (wpAny_newFunctionEnv_cells S.kind ?_ ?_))
    · rintro ⟨n, v⟩ hy
      rcases S.par n (List.of_mem_zip hy).1 with q | q
      · exact Or.inl q
      · exact Or.inr ⟨q, cellsFrom_some scope.names (s.heap.objs.size + 1) [] (Or.inl q)⟩
    · intro env he s1 x
      subst he
      refine ⟨Heap.NoLimit.keeps lim x.toInCall.keep, codeAny_func ?_⟩
      obtain ⟨t, ht, hq⟩ := hbody A outer s H vs Q E a oe cls d hz hf (L2H.RoomH.deeper hr _) hsp
      have I := L2H.inv_startH (CX := CX0) (E := E) S hpin e0 (len _ _ _ _ _ _ _ hsp) r x
      have hm : (A.deeper (PyProof.Rows.envOfC qual scope s.heap.objs.size f cdv)).mark (some (.ref a)) = A.deeper (PyProof.Rows.envOfC qual scope s.heap.objs.size f cdv) := mark_self hh
      have o := I.ok
      have I2 : Inv ((cxOf CX0 P w K mg base N qual scope f cdv A outer s H E).suite a [(a, oe)]) [] (L2.start N vs) H s1 :=
        ⟨⟨o.mod, o.kind, o.glob, o.blt, o.above, o.inj, o.has, o.cab, (fun h => by cases h), o.frames, o.stk, o.exf, o.bs, o.bsz, o.noex, o.exfs, o.funs, o.frf⟩,
          I.os, I.bare, I.base, I.loc, I.cell, I.free, I.freeC, I.pin, I.hok, I.len⟩
      have go := ht.run [] s1 (L2.start N vs) H { nx := fun _ H' => Q .non H', rt := Q } I2 hq
      dsimp only [Cx.suite, cxOf] at go
      rw [hm] at go
      refine wpAny_mono go (fun fl s' hs => ?_) fun e s' hs => hs.elim
      cases fl with
      | next =>
        obtain ⟨σ', H', J, q⟩ := hs
        exact ⟨.non, H', J.os, J.bare, J.base, J.hok, rfl, q⟩
      | brk =>
        obtain ⟨_, _, _, q⟩ := hs
        exact q.elim
      | cont =>
        obtain ⟨_, _, _, q⟩ := hs
        exact q.elim
      | ret u =>
        obtain ⟨v, σ', H', J, rv, q⟩ := hs
        exact ⟨v, H', J.os, J.bare, J.base, J.hok, rv, q⟩
theorem FunEN_ok {P : Program} {w : World} {K : Frag} {mg : Str → Option Value} {base : Heap} {x qual : Str} {st : Stmt} {f : Addr} {fd : FuncData} {N ps : List Str} {k : Nat} {sp : Addr → Value → Option Addr → Sp}
    (F : Fun K x qual st f fd) (S : FnScope N ps (defScope st))
    (len : ∀ a cls d vs H Q E, sp a cls d vs H Q E → vs.length = ps.length)
    (hbody : ∀ (cdv : Value) (A : Around) (outer : List Env) (s : Shared) (H : Hp) (vs : List V) (Q : VK) (E : XK) (a : Addr) (oe : Obj) (cls : Value) (d : Option Addr),
      L2N.Zn cls d oe → (∃ vs, oe.data = .fields vs) → L2H.RoomH k (A.deeper (PyProof.Rows.envOfC qual (defScope st) s.heap.objs.size f cdv)) → sp a cls d vs H Q E →
      ∃ t, PSs ((cxOf CX0 P w K mg base N qual (defScope st) f cdv A outer s H E).suite a [(a, oe)]) (defBody st) t ∧ t { nx := fun _ H' => Q .non H', rt := Q } (L2.start N vs) H) :
    FnEN P w K mg base (k + 1) f fd ps sp := by
  obtain ⟨oc, od, kV, doc, pm, an, cdv, ct, osl, rfl, lk, hcd⟩ := F.ex
  exact fn_ofEN lk hcd S len fun A outer s H vs Q E a oe cls d hz hf hr hsp => hbody cdv A outer s H vs Q E a oe cls d hz hf hr hsp
theorem pe_callEN {X : Cx} {k : Nat} {f : Addr} {fd : FuncData} {ps : List Str} {sp : Addr → Value → Option Addr → Sp} {a : Addr} {oe : Obj} {cls : Value} {d : Option Addr} {pn : List (Addr × Obj)}
    {x : Str} {q pos : Pos} {e : Expr} {es : List Expr} {t : TA}
    (F : FnEN X.prog X.w X.K X.mg X.base k f fd ps sp) (hr : L2H.RoomH k X.A) (hz : L2N.Zn cls d oe) (hf : ∃ vs, oe.data = .fields vs) (hg : Gl X x) (hm : X.mg x = some (.ref f))
    (hk : keepIn X.K (.ref f) = true) (hb : L2.Binds X.K fd ps []) (ha : PA (X.suite a ((a, oe) :: pn)) (e :: es) t)
    (hdb : (x == Str.ofString "__debug__") = false := by rfl) (he : starEach (e :: es) X.env = (false, eval e X.env) :: starEach es X.env := by rfl)
    (hpl : ((backTo pos (starEach es X.env)).any fun x => x.1) = false := by rfl) :
    PE (X.suite a ((a, oe) :: pn)) (.Call (.Name x q) (e :: es) [] pos) (tCallE (sp a cls d) t) where
  run := by
    intro pins s σ H Q I h
    refine wpAny_Call_Name_kw (ld_glob I hg hm (callWith_K I.ok.mod.kin hk (thn (ha.run pos pins s σ H _ I h) ?_) he hpl) hdb)
    rintro us s1 ⟨vs, H1, I1, r, h1⟩
    refine ⟨I1.kIn, ?_⟩
    have P1 := I1.pin (a, oe) (List.mem_append_left _ (List.mem_cons_self ..))
    have hp : L2H.PinOk X.stack H1 s1 (a, oe) := ⟨P1.1, P1.2.1, fun hx => (List.mem_cons.mp (I1.stkSub a hx)).elim P1.2.2.1 P1.2.2.2.1, P1.2.2.2.2⟩
    have hl : (us ++ []).length = ps.length := by rw [List.append_nil, ← r.length]; exact F.len _ _ _ _ _ _ _ h1
    have b := hb s1 us I1.kIn hl
    rw [List.append_nil] at b
    have hr2 : L2H.RoomH k (X.suite a ((a, oe) :: pn)).A := ⟨hr.dp, hr.un⟩
    refine wpAny_call (codeAny_mono (F.run (X.suite a ((a, oe) :: pn)).A X.stack s1 H1 ⟨us, []⟩ us vs Q _ a oe cls d hr2 rfl hz hf hp I1.env0 b r h1) fun r s' hq => ?_)
    cases r with
    | error e => exact hq.elim
    | ok fl =>
      cases fl with
      | next => exact hq.elim
      | brk => exact hq.elim
      | cont => exact hq.elim
      | ret u => exact I1.after hq
end Wm
/-! names for readings that the library leaves unnamed -/
namespace Wm
open PySem L2
abbrev rAddI : R2 := rI0 fun i j => .int (i + j)
abbrev rSubI : R2 := rI0 fun i j => .int (i - j)
abbrev rMulI : R2 := rI CMul fun i j => .int (i * j)
abbrev rModI : R2 := rI (fun _ j => 0 < j) fun i j => .int (i % j)
abbrev rDivI : R2 := rI CDiv fun i j => .int (i / j)
abbrev rAddS : R2 := fun x y H Q => ∃ i j, x = .str i ∧ y = .str j ∧ i.length + j.length ≤ sizeLine ∧ Q (.str (i ++ j)) H
abbrev rLtI : R2 := rI0 fun i j => .bl (decide (i < j))
abbrev rLeI : R2 := rI0 fun i j => .bl (decide (i ≤ j))
abbrev rGtI : R2 := rI0 fun i j => .bl (decide (j < i))
abbrev rGeI : R2 := rI0 fun i j => .bl (decide (j ≤ i))
abbrev rInSg : R2 := fun x y H Q => ∃ (c : Nat) (z : Str), x = .str ⟨#[c]⟩ ∧ y = .str z ∧ Q (.bl (decide (c ∈ z.cps.toList))) H
abbrev rNiSg : R2 := fun x y H Q => ∃ (c : Nat) (z : Str), x = .str ⟨#[c]⟩ ∧ y = .str z ∧ Q (.bl (!decide (c ∈ z.cps.toList))) H
abbrev rInt1 : List V → Hp → VK → Prop := fun xs H Q => (∃ i, xs = [.int i] ∧ Q (.int i) H) ∨ ∃ k, xs = [.bl k] ∧ Q (.int (if k then 1 else 0)) H
abbrev rLenS : List V → Hp → VK → Prop := fun xs H Q => ∃ z, xs = [.str z] ∧ z.length ≤ sizeLine ∧ Q (.int z.length) H
abbrev rLenL (K : PySem.W.Frag) : List V → Hp → VK → Prop := fun xs H Q => ∃ p ys, xs = [.ref p] ∧ (SqL K H p ys ∨ SqT K H p ys) ∧ Q (.int ys.length) H
abbrev rStrI : List V → Hp → VK → Prop := fun xs H Q => ∃ i, xs = [.int i] ∧ i.natAbs.log2 < 1920 ∧ Q (.str (toString i)) H
abbrev rLstOf (K : PySem.W.Frag) : List V → Hp → VK → Prop := fun xs H Q => ∃ p ys, xs = [.ref p] ∧ (SqL K H p ys ∨ SqT K H p ys) ∧ ∀ l, H l = none → Q (.ref l) (upd H l (.lst ys))
end Wm
namespace Wm
open PySem L2 StX
/-! ### what is refused -/
inductive Rf where
  | cnt (w : Str) (n : Int)
  | nm (z : Str)
  | tw (z : Str)
  | ns (z : Str)
  | up (a b : Str)
  | nw (z : Str)
def ixOf : Rf → Nat
  | .cnt _ _ => 0
  | .nm _ => 1
  | .tw _ => 2
  | .ns _ => 3
  | .up _ _ => 4
  | .nw _ => 5
def efC (w n : V) : List (Str × V) := [("count", n), ("what", w), ("kind", .str "badcount")]
def efU (a b : V) : List (Str × V) := [("made", b), ("maker", a), ("kind", .str "upward")]
def fsOf : Rf → List (Str × V)
  | .cnt w n => efC (.str w) (.int n)
  | .nm z => ef1 "name" "noname" (.str z)
  | .tw z => ef1 "name" "twice" (.str z)
  | .ns z => ef1 "name" "nosort" (.str z)
  | .up a b => efU (.str a) (.str b)
  | .nw z => ef1 "name" "noword" (.str z)
def Rfs (C : Nat → Addr) (o : Option Rf) (H : Hp) (ok : Hp → Prop) (E : XK) : Prop := match o with
  | none => ∀ H', Same H H' → ok H'
  | some r => ∀ d H', H d = none → Same H H' → H' d = some (.xd (fsOf r)) → E (.ref (C (ixOf r))) (some d) H'
theorem Rfs.same {C : Nat → Addr} {o : Option Rf} {H H1 : Hp} {ok : Hp → Prop} {E : XK} (S : Same H H1) (h : Rfs C o H ok E) : Rfs C o H1 ok E := by
  cases o with
  | none => exact fun H' s => h H' (S.trans s)
  | some r => exact fun d H' n s e => h d H' (S.free n) (S.trans s) e
theorem Rfs.map {C : Nat → Addr} {o : Option Rf} {H : Hp} {ok ok' : Hp → Prop} {E : XK} (h : Rfs C o H ok E) (k : o = none → ∀ H', Same H H' → ok H' → ok' H') : Rfs C o H ok' E := by
  cases o with
  | none => exact fun H' s => k rfl H' s (h H' s)
  | some r => exact h
theorem Rfs.step {C : Nat → Addr} {a b : Option Rf} {H : Hp} {ok : Hp → Prop} {E : XK} (h : Rfs C (a.or b) H ok E) : Rfs C a H (fun H' => Rfs C b H' ok E) E := by
  cases a with
  | none => exact fun H' s => Rfs.same s h
  | some r => exact h
/-- the first place at which something is to be said -/
def goF {α β : Type} (p : List α → α → Option β) : List α → List α → Option β
  | _, [] => none
  | pre, x :: r => match p pre x with
    | some b => some b
    | none => goF p (pre ++ [x]) r
theorem goF_take {α β : Type} {p : List α → α → Option β} {xs : List α} : ∀ (i : Nat), (∀ j x, j < i → xs[j]? = some x → p (xs.take j) x = none) → goF p [] xs = goF p (xs.take i) (xs.drop i)
  | 0, _ => by rw [List.take_zero, List.drop_zero]
  | i + 1, h => by
    rw [goF_take i fun j x hj e => h j x (by omega) e]
    cases e : xs[i]? with
    | none =>
      have l := List.getElem?_eq_none_iff.mp e
      rw [List.drop_eq_nil_of_le l, List.drop_eq_nil_of_le (by omega), List.take_of_length_le l, List.take_of_length_le (by omega)]
    | some x =>
      have l := (List.getElem?_eq_some_iff.mp e).1
      have ex := (List.getElem?_eq_some_iff.mp e).2
      rw [List.drop_eq_getElem_cons l, ex]
      have q := h i x (by omega) e
      rw [goF, q, List.take_add_one, e]
      rfl
theorem goF_hit {α β : Type} {p : List α → α → Option β} {xs : List α} {i : Nat} {x : α} {b : β} (h : ∀ j x, j < i → xs[j]? = some x → p (xs.take j) x = none) (e : xs[i]? = some x) (hb : p (xs.take i) x = some b) : goF p [] xs = some b := by
  have l := (List.getElem?_eq_some_iff.mp e).1
  have ex := (List.getElem?_eq_some_iff.mp e).2
  rw [goF_take i h, List.drop_eq_getElem_cons l, ex, goF, hb]
theorem goF_none {α β : Type} {p : List α → α → Option β} {xs : List α} (h : ∀ j x, j < xs.length → xs[j]? = some x → p (xs.take j) x = none) : goF p [] xs = none := by
  rw [goF_take xs.length h, List.drop_length, goF]
theorem goF_more {α β : Type} {p : List α → α → Option β} {xs : List α} {i : Nat} {x : α} (h : ∀ j x, j < i → xs[j]? = some x → p (xs.take j) x = none) (e : xs[i]? = some x) (hn : p (xs.take i) x = none) : ∀ j x, j < i + 1 → xs[j]? = some x → p (xs.take j) x = none := fun j y hj ey => by
  by_cases q : j = i
  · subst q
    rw [e] at ey
    cases ey
    exact hn
  · exact h j y (by omega) ey
def cntO (w : Str) (c lo hi : Int) : Option Rf := if c < lo ∨ hi < c then some (.cnt w c) else none
def nmP (_ : List Str) (z : Str) : Option Rf := if isNm z = true then none else some (.nm z)
def twP (pre : List Str) (z : Str) : Option Rf := if z ∈ pre then some (.tw z) else none
def twM (pre : List MkD) (x : MkD) : Option Rf := if (x.mr, x.md) ∈ pre.map (fun y => (y.mr, y.md)) then some (.tw x.mr) else none
def nsP (ss : List Str) (_ : List Str) (z : Str) : Option Rf := if z ∈ ss then none else some (.ns z)
def nwP (ws : List Str) (_ : List Str) (z : Str) : Option Rf := if z ∈ ws then none else some (.nw z)
/-- where a text first stands -/
def ixS : List Str → Str → Nat
  | [], _ => 0
  | a :: r, z => if a = z then 0 else ixS r z + 1
theorem ixS_at : ∀ {ss : List Str} {z : Str}, z ∈ ss → ss[ixS ss z]? = some z
  | a :: r, z, h => by
    rw [ixS]
    split
    · rename_i e
      rw [e]
      rfl
    · rename_i e
      rcases List.mem_cons.mp h with q | q
      · exact absurd q.symm e
      · exact ixS_at q
theorem ixS_first : ∀ {ss : List Str} {z y : Str} {m : Nat}, m < ixS ss z → ss[m]? = some y → y ≠ z
  | [], z, y, m, h, _ => by cases h
  | a :: r, z, y, m, h, e => by
    rw [ixS] at h
    split at h
    · cases h
    · rename_i ne
      cases m with
      | zero =>
        cases e
        exact ne
      | succ m => exact ixS_first (Nat.lt_of_succ_lt_succ h) e
def upP (ss : List Str) (_ : List MkD) (x : MkD) : Option Rf := if ixS ss x.md ≤ ixS ss x.mr then some (.up x.mr x.md) else none
def askS (ms : List MkD) (vv : List (List Var)) : List Str := ms.flatMap (fun x => [x.mr, x.md]) ++ vv.flatMap (fun v => v.filterMap (·.2))
def askW (ms : List MkD) (rs : List RlD) (ps : List PtD) : List Str := (ms.flatMap (fun x => x.dn ++ x.up) ++ rs.flatMap (fun x => (x.p.cs ++ [x.g]).map (·.2.1))) ++ ps.flatMap (fun x => x.cs.map (·.2.1))
def schDue (ss ws : List Str) (ms : List MkD) (rs : List RlD) (ps : List PtD) : Option Rf :=
  (cntO "sorts" (ss.length : Int) 1 4).or ((cntO "words" (ws.length : Int) 1 5).or ((cntO "rules" (rs.length : Int) 0 8).or ((cntO "bars" (ps.length : Int) 0 4).or ((goF nmP [] ss).or ((goF nmP [] ws).or ((goF twP [] ss).or ((goF twP [] ws).or ((goF twM [] ms).or ((goF twP [] (rs.map (·.p.nm))).or ((goF twP [] (ps.map (·.nm))).or
    ((goF (nsP ss) [] (askS ms (rs.map (·.p.vars) ++ ps.map (·.vars)))).or ((goF (upP ss) [] ms).or (goF (nwP ws) [] (askW ms rs ps))))))))))))))
/-! ### the errors' own inits -/
def spEC (C : Addr) : Sp := fun vs H Q _ => ∃ (a : Addr) (u v : V), vs = [.ref a, u, v] ∧ H a = some (exo a C none) ∧ ∀ dx H', H dx = none → dx ≠ a → (∀ b o, b ≠ a → H b = some o → H' b = some o) → H' a = some (exo a C (some dx)) → H' dx = some (exd dx (efC u v)) → Q .non H'
theorem mkC {C : Addr} {u v : V} {H : Hp} {E : XK} (k : ∀ d H', H d = none → Same H H' → H' d = some (.xd (efC u v)) → E (.ref C) (some d) H') :
    [u, v].length ≤ 1000 ∧ ∀ a, H a = none → spEC C (.ref a :: ([u, v] ++ [])) (upd H a (exo a C none)) (fun w H2 => w = .non ∧ ∃ (d : Addr) (fs : List (Str × V)), H2 a = some (exo a C (some d)) ∧ H2 d = some (exd d fs) ∧ H d = none ∧ E (.ref C) (some d) (upd (del H2 a) d (.xd fs))) (fun _ _ _ => False) := by
  refine ⟨by show 2 ≤ 1000; decide, fun a na => ⟨a, u, v, rfl, upd_same, fun dx H' n ne kp ha hd => ⟨rfl, dx, _, ha, hd, ?_, ?_⟩⟩⟩
  · rw [upd_ne ne] at n
    exact n
  · rw [upd_ne ne] at n
    refine k dx _ n (fun b o e => ?_) upd_same
    have nb : b ≠ a := ne_of_none e na
    rw [upd_ne (ne_of_none e n), del_ne nb]
    exact kp b o nb (by rw [upd_ne nb]; exact e)
def spRC2 (C : Nat → Addr) : Sp := fun vs H Q E => ∃ (z : Str) (c lo hi : Int), vs = [.str z, .int c, .int lo, .int hi] ∧ Rfs C (cntO z c lo hi) H (fun H' => Q .non H') E
def spRN2 (K : PySem.W.Frag) (C : Nat → Addr) : Sp := fun vs H Q E => ∃ (l : Addr) (zs : List Str), vs = [.ref l] ∧ SqL K H l (zs.map V.str) ∧ (∀ z ∈ zs, z.length ≤ 1000) ∧ Rfs C (goF nmP [] zs) H (fun H' => Q .non H') E
def spRT2 (K : PySem.W.Frag) (C : Nat → Addr) : Sp := fun vs H Q E => ∃ (l : Addr) (zs : List Str), vs = [.ref l] ∧ SqL K H l (zs.map V.str) ∧ zs.length ≤ 1000 ∧ Rfs C (goF twP [] zs) H (fun H' => Q .non H') E
def spEU (C : Addr) : Sp := fun vs H Q _ => ∃ (a : Addr) (u v : V), vs = [.ref a, u, v] ∧ H a = some (exo a C none) ∧ ∀ dx H', H dx = none → dx ≠ a → (∀ b o, b ≠ a → H b = some o → H' b = some o) → H' a = some (exo a C (some dx)) → H' dx = some (exd dx (efU u v)) → Q .non H'
theorem mkU {C : Addr} {u v : V} {H : Hp} {E : XK} (k : ∀ d H', H d = none → Same H H' → H' d = some (.xd (efU u v)) → E (.ref C) (some d) H') :
    [u, v].length ≤ 1000 ∧ ∀ a, H a = none → spEU C (.ref a :: ([u, v] ++ [])) (upd H a (exo a C none)) (fun w H2 => w = .non ∧ ∃ (d : Addr) (fs : List (Str × V)), H2 a = some (exo a C (some d)) ∧ H2 d = some (exd d fs) ∧ H d = none ∧ E (.ref C) (some d) (upd (del H2 a) d (.xd fs))) (fun _ _ _ => False) := by
  refine ⟨by show 2 ≤ 1000; decide, fun a na => ⟨a, u, v, rfl, upd_same, fun dx H' n ne kp ha hd => ⟨rfl, dx, _, ha, hd, ?_, ?_⟩⟩⟩
  · rw [upd_ne ne] at n
    exact n
  · rw [upd_ne ne] at n
    refine k dx _ n (fun b o e => ?_) upd_same
    have nb : b ≠ a := ne_of_none e na
    rw [upd_ne (ne_of_none e n), del_ne nb]
    exact kp b o nb (by rw [upd_ne nb]; exact e)
def spRM2 (K : PySem.W.Frag) (C : Nat → Addr) (B : Addr) : Sp := fun vs H Q E => ∃ (m : Addr) (as : List Addr) (ms : List MkD), vs = [.ref m] ∧ SqL K H m (as.map V.ref) ∧ AllAt (MkAt K B H) as ms ∧ ms.length ≤ 1000 ∧ (∀ x ∈ ms, okS x.mr ∧ okS x.md) ∧ Rfs C (goF twM [] ms) H (fun H' => Q .non H') E
def spNS2 (K : PySem.W.Frag) (C : Nat → Addr) (B : Addr) : Sp := fun vs H Q E => ∃ (s m p : Addr) (ss : List Str) (as bs : List Addr) (ms : List MkD) (vv : List (List Var)), vs = [.ref s, .ref m, .ref p] ∧ SqL K H s (ss.map V.str) ∧ SqL K H m (as.map V.ref) ∧ AllAt (MkAt K B H) as ms ∧ SqL K H p (bs.map V.ref) ∧ AllAt (PvAt K H) bs vv ∧ ms.length ≤ 1000 ∧ vv.length ≤ 1000 ∧ (∀ v ∈ vv, v.length ≤ 4) ∧ Rfs C (goF (nsP ss) [] (askS ms vv)) H (fun H' => Q .non H') E
def spRU2 (K : PySem.W.Frag) (C : Nat → Addr) (B : Addr) : Sp := fun vs H Q E => ∃ (s m : Addr) (ss : List Str) (as : List Addr) (ms : List MkD), vs = [.ref s, .ref m] ∧ SqL K H s (ss.map V.str) ∧ SqL K H m (as.map V.ref) ∧ AllAt (MkAt K B H) as ms ∧ (∀ x ∈ ms, x.mr ∈ ss ∧ x.md ∈ ss) ∧ Rfs C (goF (upP ss) [] ms) H (fun H' => Q .non H') E
def spNW2 (K : PySem.W.Frag) (C : Nat → Addr) (MB RB BB : Addr) : Sp := fun vs H Q E => ∃ (w m r b : Addr) (ws : List Str) (as bs cs : List Addr) (ms : List MkD) (rs : List RlD) (ps : List PtD), vs = [.ref w, .ref m, .ref r, .ref b] ∧ SqL K H w (ws.map V.str) ∧ SqL K H m (as.map V.ref) ∧ AllAt (MkAt K MB H) as ms ∧ SqL K H r (bs.map V.ref) ∧ AllAt (RlAt K RB H) bs rs ∧ SqL K H b (cs.map V.ref) ∧ AllAt (BrAt K BB H) cs ps ∧
  ms.length ≤ 1000 ∧ rs.length ≤ 1000 ∧ ps.length ≤ 1000 ∧ (∀ x ∈ ms, x.dn.length ≤ 100 ∧ x.up.length ≤ 100) ∧ (∀ x ∈ rs, x.p.cs.length ≤ 3) ∧ (∀ x ∈ ps, x.cs.length ≤ 3) ∧ Rfs C (goF (nwP ws) [] (askW ms rs ps)) H (fun H' => Q .non H') E
theorem fm_take {α β : Type} {f : α → List β} {xs : List α} {i : Nat} {x : α} (h : xs[i]? = some x) : (xs.take (i + 1)).flatMap f = (xs.take i).flatMap f ++ f x := by
  rw [List.take_add_one, h, List.flatMap_append]
  simp
section
variable {P : Program} {w : World} {K : PySem.W.Frag} {mg : Str → Option Value} {base : Heap} {C : Nat → Addr}
theorem scT0 : FnScope ["self", "name"] ["self", "name"] (defScope sT0) := ⟨rfl, rfl, rfl, by decide +kernel, rfl, by decide +kernel, by decide +kernel⟩
theorem ok_twice {f C f0 W : Addr} {fd fd0 : FuncData} (F : Fun K "__init__" "Twice.__init__" sT0 f fd) (T : ErrT K mg "Twice" "name" C f) (TW : WhoT K mg W f0 fd0) (G0 : FnOk P w K mg base CX0 1 f0 fd0 ["self", "kind"] (spWI K)) :
    FnOk P w K mg base CX0 2 f fd ["self", "name"] (spE1 C "name" "twice") := by
  refine F.ok scT0 (fun vs H Q E h => ?_) (fun cdv A outer s H vs Q E hr h => ?_)
  · obtain ⟨a, v, rfl, _⟩ := h
    rfl
  · obtain ⟨a, v, rfl, ha, k⟩ := h
    refine ⟨_, pss_cons (ps_expr (pe_clsFn rfl TW.g TW.r TW.m TW.k G0 hr TW.b .nil pass0 (pa_cons (pv 0) (pa_cons pe_str pa_nil)))) (pss_one (ps_ost (pv 0) (pv 1))), ?_⟩
    refine ⟨_, rfl, a, C, _, rfl, T.o, T.nk, ha, fun dx n ne => ?_⟩
    refine ⟨_, rfl, _, rfl, a, C, rfl, T.o, T.nf, .inr ⟨dx, _, upd_same, Eq.trans (upd_ne ne) upd_same, by decide, ?_⟩⟩
    refine k dx _ n ne (fun b o nb e => ?_) ?_ upd_same
    · have nd : b ≠ dx := ne_of_none e n
      rw [upd_ne nd, upd_ne nb, upd_ne nd]
      exact e
    · rw [upd_ne ne.symm, upd_same]
theorem scNS : FnScope ["self", "name"] ["self", "name"] (defScope sNS) := ⟨rfl, rfl, rfl, by decide +kernel, rfl, by decide +kernel, by decide +kernel⟩
theorem ok_nosort {f C f0 W : Addr} {fd fd0 : FuncData} (F : Fun K "__init__" "NoSort.__init__" sNS f fd) (T : ErrT K mg "NoSort" "name" C f) (TW : WhoT K mg W f0 fd0) (G0 : FnOk P w K mg base CX0 1 f0 fd0 ["self", "kind"] (spWI K)) :
    FnOk P w K mg base CX0 2 f fd ["self", "name"] (spE1 C "name" "nosort") := by
  refine F.ok scNS (fun vs H Q E h => ?_) (fun cdv A outer s H vs Q E hr h => ?_)
  · obtain ⟨a, v, rfl, _⟩ := h
    rfl
  · obtain ⟨a, v, rfl, ha, k⟩ := h
    refine ⟨_, pss_cons (ps_expr (pe_clsFn rfl TW.g TW.r TW.m TW.k G0 hr TW.b .nil pass0 (pa_cons (pv 0) (pa_cons pe_str pa_nil)))) (pss_one (ps_ost (pv 0) (pv 1))), ?_⟩
    refine ⟨_, rfl, a, C, _, rfl, T.o, T.nk, ha, fun dx n ne => ?_⟩
    refine ⟨_, rfl, _, rfl, a, C, rfl, T.o, T.nf, .inr ⟨dx, _, upd_same, Eq.trans (upd_ne ne) upd_same, by decide, ?_⟩⟩
    refine k dx _ n ne (fun b o nb e => ?_) ?_ upd_same
    · have nd : b ≠ dx := ne_of_none e n
      rw [upd_ne nd, upd_ne nb, upd_ne nd]
      exact e
    · rw [upd_ne ne.symm, upd_same]
theorem scNW : FnScope ["self", "name"] ["self", "name"] (defScope sNW) := ⟨rfl, rfl, rfl, by decide +kernel, rfl, by decide +kernel, by decide +kernel⟩
theorem ok_noword {f C f0 W : Addr} {fd fd0 : FuncData} (F : Fun K "__init__" "NoWord.__init__" sNW f fd) (T : ErrT K mg "NoWord" "name" C f) (TW : WhoT K mg W f0 fd0) (G0 : FnOk P w K mg base CX0 1 f0 fd0 ["self", "kind"] (spWI K)) :
    FnOk P w K mg base CX0 2 f fd ["self", "name"] (spE1 C "name" "noword") := by
  refine F.ok scNW (fun vs H Q E h => ?_) (fun cdv A outer s H vs Q E hr h => ?_)
  · obtain ⟨a, v, rfl, _⟩ := h
    rfl
  · obtain ⟨a, v, rfl, ha, k⟩ := h
    refine ⟨_, pss_cons (ps_expr (pe_clsFn rfl TW.g TW.r TW.m TW.k G0 hr TW.b .nil pass0 (pa_cons (pv 0) (pa_cons pe_str pa_nil)))) (pss_one (ps_ost (pv 0) (pv 1))), ?_⟩
    refine ⟨_, rfl, a, C, _, rfl, T.o, T.nk, ha, fun dx n ne => ?_⟩
    refine ⟨_, rfl, _, rfl, a, C, rfl, T.o, T.nf, .inr ⟨dx, _, upd_same, Eq.trans (upd_ne ne) upd_same, by decide, ?_⟩⟩
    refine k dx _ n ne (fun b o nb e => ?_) ?_ upd_same
    · have nd : b ≠ dx := ne_of_none e n
      rw [upd_ne nd, upd_ne nb, upd_ne nd]
      exact e
    · rw [upd_ne ne.symm, upd_same]
theorem scBC : FnScope ["self", "what", "count"] ["self", "what", "count"] (defScope sBC) := ⟨rfl, rfl, rfl, by decide +kernel, rfl, by decide +kernel, by decide +kernel⟩
theorem ok_badcount {f C f0 W : Addr} {fd fd0 : FuncData} (F : Fun K "__init__" "BadCount.__init__" sBC f fd) (T : ErrT K mg "BadCount" "what" C f) (n2 : PySem.W.findIn K (.ref C) "count" = some none) (TW : WhoT K mg W f0 fd0) (G0 : FnOk P w K mg base CX0 1 f0 fd0 ["self", "kind"] (spWI K)) :
    FnOk P w K mg base CX0 2 f fd ["self", "what", "count"] (spEC C) := by
  refine F.ok scBC (fun vs H Q E h => ?_) (fun cdv A outer s H vs Q E hr h => ?_)
  · obtain ⟨a, u, v, rfl, _⟩ := h
    rfl
  · obtain ⟨a, u, v, rfl, ha, k⟩ := h
    refine ⟨_, pss_cons (ps_expr (pe_clsFn rfl TW.g TW.r TW.m TW.k G0 hr TW.b .nil pass0 (pa_cons (pv 0) (pa_cons pe_str pa_nil)))) (pss_cons (ps_ost (pv 0) (pv 1)) (pss_one (ps_ost (pv 0) (pv 2)))), ?_⟩
    refine ⟨_, rfl, a, C, _, rfl, T.o, T.nk, ha, fun dx n ne => ?_⟩
    refine ⟨_, rfl, _, rfl, a, C, rfl, T.o, T.nf, .inr ⟨dx, _, upd_same, Eq.trans (upd_ne ne) upd_same, by decide, ?_⟩⟩
    refine ⟨_, rfl, _, rfl, a, C, rfl, T.o, n2, .inr ⟨dx, _, Eq.trans (upd_ne ne.symm) upd_same, upd_same, by show 2 ≤ 900; decide, ?_⟩⟩
    refine k dx _ n ne (fun b o nb e => ?_) ?_ upd_same
    · have nd : b ≠ dx := ne_of_none e n
      rw [upd_ne nd, upd_ne nd, upd_ne nb, upd_ne nd]
      exact e
    · rw [upd_ne ne.symm, upd_ne ne.symm, upd_same]
theorem scUp : FnScope ["self", "maker", "made"] ["self", "maker", "made"] (defScope sUp) := ⟨rfl, rfl, rfl, by decide +kernel, rfl, by decide +kernel, by decide +kernel⟩
theorem ok_upw {f C f0 W : Addr} {fd fd0 : FuncData} (F : Fun K "__init__" "Upward.__init__" sUp f fd) (T : ErrT K mg "Upward" "maker" C f) (n2 : PySem.W.findIn K (.ref C) "made" = some none) (TW : WhoT K mg W f0 fd0) (G0 : FnOk P w K mg base CX0 1 f0 fd0 ["self", "kind"] (spWI K)) :
    FnOk P w K mg base CX0 2 f fd ["self", "maker", "made"] (spEU C) := by
  refine F.ok scUp (fun vs H Q E h => ?_) (fun cdv A outer s H vs Q E hr h => ?_)
  · obtain ⟨a, u, v, rfl, _⟩ := h
    rfl
  · obtain ⟨a, u, v, rfl, ha, k⟩ := h
    refine ⟨_, pss_cons (ps_expr (pe_clsFn rfl TW.g TW.r TW.m TW.k G0 hr TW.b .nil pass0 (pa_cons (pv 0) (pa_cons pe_str pa_nil)))) (pss_cons (ps_ost (pv 0) (pv 1)) (pss_one (ps_ost (pv 0) (pv 2)))), ?_⟩
    refine ⟨_, rfl, a, C, _, rfl, T.o, T.nk, ha, fun dx n ne => ?_⟩
    refine ⟨_, rfl, _, rfl, a, C, rfl, T.o, T.nf, .inr ⟨dx, _, upd_same, Eq.trans (upd_ne ne) upd_same, by decide, ?_⟩⟩
    refine ⟨_, rfl, _, rfl, a, C, rfl, T.o, n2, .inr ⟨dx, _, Eq.trans (upd_ne ne.symm) upd_same, upd_same, by show 2 ≤ 900; decide, ?_⟩⟩
    refine k dx _ n ne (fun b o nb e => ?_) ?_ upd_same
    · have nd : b ≠ dx := ne_of_none e n
      rw [upd_ne nd, upd_ne nd, upd_ne nb, upd_ne nd]
      exact e
    · rw [upd_ne ne.symm, upd_ne ne.symm, upd_same]
theorem ok_rc2 {f fI : Addr} {fd fdI : FuncData} (F : Fun K "refuse_count" "refuse_count" sRC f fd) (TE : ErrT K mg "BadCount" "what" (C 0) fI) (bI : Binds K fdI ["self", "what", "count"] []) (GI : FnOk P w K mg base CX0 2 fI fdI ["self", "what", "count"] (spEC (C 0))) : FnOk P w K mg base (L2N.CX P w) 4 f fd ["what", "count", "least", "most"] (spRC2 C) := by
  refine okN F scRC (fun vs H Q E h => ?_) (fun cdv A outer s H vs Q E hr h => ?_)
  · obtain ⟨z, c, lo, hi, rfl, _⟩ := h
    rfl
  · obtain ⟨z, c, lo, hi, rfl, k⟩ := h
    have hr3 : Room 3 _ := hr
    refine ⟨_, (pss_one (ps_if (PW.pt (pw_or (pt_cmpR op_lt (pv 1) (pv 2) (nomark _)) (pw_or1 (pt_cmpR op_gt (pv 1) (pv 3) (nomark _))))) (pss_one (L2N.ps_raise rfl (L2N.takes_of rfl rfl rfl rfl) (pmkN_oex TE.o TE.iC TE.tI GI hr3 bI pass0 rfl TE.g (pa_cons (pv 0) (pa_cons (pv 1) pa_nil))))) pss_nil)), ?_⟩
    have bad : (c < lo ∨ hi < c) → ∀ d H', H d = none → Same H H' → H' d = some (.xd (efC (.str z) (.int c))) → E (.ref (C 0)) (some d) H' := fun b => by
      unfold cntO at k
      rw [if_pos b] at k
      exact k
    refine ⟨_, rfl, _, rfl, _, _, rfl, rfl, _, rfl, ?_⟩
    refine ite2 (fun h => ?_) (fun h => ?_)
    · exact ⟨_, rfl, _, rfl, mkC fun d H' n s e => bad (.inl (of_decide_eq_true h)) d H' n s e⟩
    refine ⟨_, rfl, _, rfl, _, _, rfl, rfl, _, rfl, ?_⟩
    refine ite2 (fun h2 => ?_) (fun h2 => ?_)
    · exact ⟨_, rfl, _, rfl, mkC fun d H' n s e => bad (.inr (of_decide_eq_true h2)) d H' n s e⟩
    · unfold cntO at k
      rw [if_neg (fun q => q.elim (fun q => h (decide_eq_true q)) (fun q => h2 (decide_eq_true q)))] at k
      exact k H (Same.refl H)
theorem ok_rn2 {f fN fI : Addr} {fd fdN fdI : FuncData} (F : Fun K "refuse_no_name" "refuse_no_name" sRN f fd) (D : Dn K mg "is_name" sName ["text"] fN fdN) (GN : FnOk P w K mg base CX0 1 fN fdN ["text"] spName) (TE : ErrT K mg "NoName" "name" (C 1) fI) (bI : Binds K fdI ["self", "name"] [])
    (GI : FnOk P w K mg base CX0 2 fI fdI ["self", "name"] (spE1 (C 1) "name" "noname")) : FnOk P w K mg base (L2N.CX P w) 4 f fd ["texts"] (spRN2 K C) := by
  refine okN F scRN (fun vs H Q E h => ?_) (fun cdv A outer s H vs Q E hr h => ?_)
  · obtain ⟨l, zs, rfl, _⟩ := h
    rfl
  · obtain ⟨l, zs, rfl, hl, hz, k⟩ := h
    have hr1 : Room 1 _ := hr.mono (by decide)
    have hr3 : Room 3 _ := hr
    refine ⟨_, (pss_one (ps_for (passes_of rfl) rfl (pi_list (pv 0)) (pg_name (i := 1) scRN.nd rfl (Or.inl rfl)) (pss_one (ps_if (pt_not (pt_val (pe_call GN hr1 rfl D.g D.F.kp D.b .nil pass0 (pa_cons (pv 1) pa_nil)))) (pss_one (L2N.ps_raise rfl (L2N.takes_of rfl rfl rfl rfl) (pmkN_oex TE.o TE.iC TE.tI GI hr3 bI pass0 rfl TE.g (pa_cons (pv 1) pa_nil)))) pss_nil)))), ?_⟩
    refine ⟨_, rfl, l, rfl, ⟨_, hl⟩, for_list (K := K) (a := l) (xs := zs.map V.str) (fun i σ H' => (∃ v, σ = [some (.ref l), v]) ∧ Same H H' ∧ ∀ j y, j < i → zs[j]? = some y → nmP (zs.take j) y = none) ⟨⟨none, rfl⟩, Same.refl H, fun j y h => absurd h (Nat.not_lt_zero j)⟩
      (fun i σ H' _ h => h.2.1.seq hl) ?_ ?_⟩
    · rintro i y σ H' hi ⟨⟨v, rfl⟩, hS, hno⟩
      obtain ⟨z, hzi, rfl⟩ := map_str_get hi
      refine ⟨_, rfl, z, rfl, hz z (List.mem_of_getElem? hzi), fun H2 hS2 => ⟨_, rfl, ?_⟩⟩
      cases e : isNm z with
      | true => exact iteF ⟨⟨_, rfl⟩, hS.trans hS2, goF_more hno hzi (by unfold nmP; rw [if_pos e])⟩
      | false =>
        refine iteT ⟨_, rfl, mk1 fun d H3 hd hS3 hx => ?_⟩
        rw [goF_hit hno hzi (by unfold nmP; rw [if_neg (by rw [e]; decide)])] at k
        exact k d H3 (hS.free (hS2.free hd)) (hS.trans (hS2.trans hS3)) hx
    · rintro σ H' ⟨_, hS, hno⟩
      rw [List.length_map] at hno
      rw [goF_none hno] at k
      exact k H' hS
def spFT3 (K : PySem.W.Frag) : Sp := fun vs H Q _ => ∃ (l : Addr) (zs : List Str), vs = [.ref l] ∧ SqL K H l (zs.map V.str) ∧ zs.length ≤ 1000 ∧ ((∀ j y, j < zs.length → zs[j]? = some y → twP (zs.take j) y = none) → ∀ H', Same H H' → Q .non H') ∧ ∀ i z, zs[i]? = some z → z ∈ zs.take i → (∀ j y, j < i → zs[j]? = some y → twP (zs.take j) y = none) → ∀ H', Same H H' → Q (.int (i : Nat)) H'
theorem ok_ft3 {f : Addr} {fd : FuncData} (F : Fun K "first_twice" "first_twice" sFT f fd) (T : TxB mg) : FnOk P w K mg base CX0 1 f fd ["row"] (spFT3 K) := by
  refine F.ok scFT (fun vs H Q E h => ?_) (fun cdv A outer s H vs Q E hr h => ?_)
  · obtain ⟨l, xs, rfl, _⟩ := h
    rfl
  · obtain ⟨l, zs, rfl, hl, hn, kn, kt⟩ := h
    have hf : (zs.map V.str).all flatV = true := flat_strs _
    refine ⟨_, (pss_cons (ps_for PassesOwn.never rfl (pi_enum rfl T.enumerate (pa_cons (pv 0) pa_nil)) (pg_tup rfl (pgs_cons (pg_name (i := 1) scFT.nd rfl (Or.inl rfl)) (pgs_cons (pg_name (i := 2) scFT.nd rfl (Or.inl rfl)) pgs_nil))) (pss_one (ps_if (pt_cmpR op_in_seq (pv 2) (pe_slice sl_list (pv 0) po_none (po_some (pv 1))) (by rfl)) (pss_one (ps_ret (pv 1))) pss_nil)))
      (pss_one (ps_ret pe_non))), ?_⟩
    refine ⟨_, rfl, l, _, rfl, hl, for_it walk_enum (fun i σ H' => (∃ u v, σ = [some (.ref l), u, v]) ∧ Same H H' ∧ ∀ j y, j < i → zs[j]? = some y → twP (zs.take j) y = none) ⟨⟨none, none, rfl⟩, Same.refl H, fun j y h => absurd h (Nat.not_lt_zero j)⟩ (fun i σ H' _ p => p.2.1.seq hl) ?_ ?_⟩
    · rintro i x σ H1 H2 hi ⟨⟨u, v, rfl⟩, hS, hno⟩ ⟨t, y, z, rfl, ht, rfl, e1, e2⟩
      cases e1
      obtain ⟨z, hz, rfl⟩ := map_str_get e2
      refine ⟨t, _, rfl, SqT.of upd_same, rfl, _, _, rfl, _, _, rfl, rfl, ?_⟩
      have S2 := hS.trans (Same.upd (o := .tup [.int (i : Nat), .str z]) ht)
      refine ⟨_, rfl, _, rfl, _, rfl, _, rfl, l, _, rfl, S2.seq hl, fun p hp => ?_⟩
      refine ⟨p, _, rfl, .inl (SqL.of upd_same), rfl, ?_, _, rfl, ?_⟩
      · show (cutV (zs.map V.str) none (some (i : Int))).all flatV = true
        rw [cut_take]
        exact all_take hf i
      · show if inV (.str z) (cutV (zs.map V.str) none (some (i : Int))) = true then _ else _
        rw [cut_take, ← List.map_take, inV_strs]
        by_cases q : z ∈ zs.take i
        · rw [decide_eq_true q]
          exact iteT ⟨_, rfl, kt i z hz q hno _ (S2.trans (Same.upd hp))⟩
        · rw [decide_eq_false q]
          exact iteF ⟨⟨_, _, rfl⟩, S2.trans (Same.upd hp), goF_more hno hz (by unfold twP; rw [if_neg q])⟩
    · rintro σ H' ⟨_, hS, hno⟩
      rw [List.length_map] at hno
      exact kn hno H' hS
theorem ok_rt2 {f fF fI : Addr} {fd fdF fdI : FuncData} (F : Fun K "refuse_twice" "refuse_twice" sRT f fd) (T : TxB mg) (D : Dn K mg "first_twice" sFT ["row"] fF fdF) (TE : ErrT K mg "Twice" "name" (C 2) fI) (bI : Binds K fdI ["self", "name"] [])
    (GI : FnOk P w K mg base CX0 2 fI fdI ["self", "name"] (spE1 (C 2) "name" "twice")) : FnOk P w K mg base (L2N.CX P w) 4 f fd ["names"] (spRT2 K C) := by
  have G : FnOk P w K mg base CX0 1 fF fdF ["row"] (spFT3 K) := ok_ft3 D.F T
  refine okN F scRT (fun vs H Q E h => ?_) (fun cdv A outer s H vs Q E hr h => ?_)
  · obtain ⟨l, xs, rfl, _⟩ := h
    rfl
  · obtain ⟨l, zs, rfl, hl, hn, k⟩ := h
    have hr1 : Room 1 _ := hr.mono (by decide)
    have hr3 : Room 3 _ := hr
    refine ⟨_, (pss_cons (ps_set (i := 1) scRT.nd rfl (Or.inl rfl) (pe_call G hr1 rfl D.g D.F.kp D.b .nil pass0 (pa_cons (pv 0) pa_nil)))
      (pss_one (ps_if (pt_cmp (pc_notN (pv 1))) (pss_one (L2N.ps_raise rfl (L2N.takes_of rfl rfl rfl rfl) (pmkN_oex TE.o TE.iC TE.tI GI hr3 bI pass0 rfl TE.g (pa_cons (pe_ix ix_list (pv 0) (pv 1) (fun _ _ => rfl)) pa_nil)))) pss_nil))), ?_⟩
    refine ⟨_, rfl, l, zs, rfl, hl, hn, fun no H' hS => ?_, fun i z hz hin hno H' hS => ?_⟩
    · rw [goF_none no] at k
      exact ⟨_, rfl, _, rfl, iteF (k H' hS)⟩
    · rw [goF_hit hno hz (by unfold twP; rw [if_pos hin])] at k
      refine ⟨_, rfl, _, rfl, iteT ⟨_, rfl, _, rfl, l, _, (i : Int), .str z, rfl, rfl, hS.seq hl, atI_nat (by rw [List.getElem?_map, hz]; rfl), ?_⟩⟩
      exact mk1 fun d H3 hd hS3 hx => k d H3 (hS.free hd) (hS.trans hS3) hx
theorem ok_ru2 {f fI B fB : Addr} {fd fdI : FuncData} (F : Fun K "refuse_upward" "refuse_upward" sRU f fd) (TM : TxMak K mg B fB) (TE : ErrT K mg "Upward" "maker" (C 4) fI) (bI : Binds K fdI ["self", "maker", "made"] []) (GI : FnOk P w K mg base CX0 2 fI fdI ["self", "maker", "made"] (spEU (C 4))) : FnOk P w K mg base (L2N.CX P w) 4 f fd ["sorts", "makings"] (spRU2 K C B) := by
  refine okN F scRU (fun vs H Q E h => ?_) (fun cdv A outer s H vs Q E hr h => ?_)
  · obtain ⟨s, m, ss, as, ms, rfl, _⟩ := h
    rfl
  · obtain ⟨s, m, ss, as, ms, rfl, hs, hm, hms, hx, k⟩ := h
    have hr3 : Room 3 _ := hr
    refine ⟨_, (pss_one (ps_for (passes_of rfl) rfl (pi_list (pv 1)) (pg_name (i := 2) scRU.nd rfl (Or.inl rfl)) (pss_one (ps_if (pt_cmpR op_le (pe_bm PySem.F.plainAttrs_list PySem.F.slot_list_index PySem.F.type_list_index mt_index (pv 0) (pa_cons (pe_fld (pv 2) rfl) pa_nil)) (pe_bm PySem.F.plainAttrs_list PySem.F.slot_list_index PySem.F.type_list_index mt_index (pv 0) (pa_cons (pe_fld (pv 2) rfl) pa_nil)) (nomark _)) (pss_one (L2N.ps_raise rfl (L2N.takes_of rfl rfl rfl rfl) (pmkN_oex TE.o TE.iC TE.tI GI hr3 bI pass0 rfl TE.g (pa_cons (pe_fld (pv 2) rfl) (pa_cons (pe_fld (pv 2) rfl) pa_nil))))) pss_nil)))), ?_⟩
    refine ⟨_, rfl, m, rfl, ⟨_, hm⟩, for_list (K := K) (a := m) (xs := as.map V.ref) (fun i σ H' => (∃ v, σ = [some (.ref s), some (.ref m), v]) ∧ H' = H ∧ ∀ j y, j < i → ms[j]? = some y → upP ss (ms.take j) y = none) ⟨⟨none, rfl⟩, rfl, fun j y h => absurd h (Nat.not_lt_zero j)⟩ (fun i σ H' _ p => by rw [p.2.1]; exact hm) ?_ ?_⟩
    · rintro i y σ H' hi ⟨⟨v, rfl⟩, rfl, hno⟩
      obtain ⟨a, x, rfl, hxi, hat⟩ := hms.get hi
      obtain ⟨d, t1, t2, ha, _, _⟩ := hat
      obtain ⟨q1, q2⟩ := hx x (List.mem_of_getElem? hxi)
      have at_ : ∀ {z : Str}, z ∈ ss → (ss.map V.str)[ixS ss z]? = some (.str z) := fun {z} h => by rw [List.getElem?_map, ixS_at h]; rfl
      have first : ∀ {z : Str} (m : Nat) (z' : V), m < ixS ss z → (ss.map V.str)[m]? = some z' → eqV z' (.str z) = false := fun {z} m z' hm hz => by
        obtain ⟨y, hy, rfl⟩ := map_str_get hz
        have ne := ixS_first hm hy
        unfold eqV
        simp [ne]
      dsimp only [gName, List.set_cons_succ, List.set_cons_zero]
      refine ⟨_, rfl, .inl ⟨rfl, _, hs⟩, _, rfl, a, B, d, _, _, rfl, ha, TM.cl, TM.nd, makF_made _ _ _ _, ?_⟩
      refine ⟨s, _, .str x.md, ixS ss x.md, .str x.md, rfl, rfl, hs, rfl, flat_of ss, at_ q2, by unfold eqV; simp, first, ?_⟩
      refine ⟨_, rfl, .inl ⟨rfl, _, hs⟩, _, rfl, a, B, d, _, _, rfl, ha, TM.cl, TM.nk, makF_maker _ _ _ _, ?_⟩
      refine ⟨s, _, .str x.mr, ixS ss x.mr, .str x.mr, rfl, rfl, hs, rfl, flat_of ss, at_ q1, by unfold eqV; simp, first, ?_⟩
      refine ⟨_, _, rfl, rfl, _, rfl, ?_⟩
      refine ite2 (fun z => ?_) (fun z => ?_)
      · have z := of_decide_eq_true z
        rw [goF_hit hno hxi (by unfold upP; rw [if_pos (by omega)])] at k
        exact ⟨_, rfl, a, B, d, _, _, rfl, ha, TM.cl, TM.nk, makF_maker _ _ _ _, _, rfl, a, B, d, _, _, rfl, ha, TM.cl, TM.nd, makF_made _ _ _ _, mkU fun d' H3 hd' hS3 hx => k d' H3 hd' hS3 hx⟩
      · exact ⟨⟨_, rfl⟩, rfl, goF_more hno hxi (by unfold upP; rw [if_neg fun q => z (decide_eq_true (by omega))])⟩
    · rintro σ H' ⟨⟨v, rfl⟩, rfl, hno⟩
      rw [List.length_map, hms.len] at hno
      rw [goF_none hno] at k
      exact k H' (Same.refl H')
end
end Wm
namespace Wm
open PySem L2 StX
def spFT4 (K : PySem.W.Frag) : Sp := fun vs H Q _ => ∃ (l : Addr) (qs : List Addr) (ps : List (Str × Str)), vs = [.ref l] ∧ SqL K H l (qs.map V.ref) ∧ RowsAt K H qs (ps.map prV) ∧ (∀ p ∈ ps, okS p.1 ∧ okS p.2) ∧ ((∀ j y, j < ps.length → ps[j]? = some y → y ∉ ps.take j) → ∀ H', Same H H' → Q .non H') ∧ ∀ i z, ps[i]? = some z → z ∈ ps.take i → (∀ j y, j < i → ps[j]? = some y → y ∉ ps.take j) → ∀ H', Same H H' → Q (.int (i : Nat)) H'
section
variable {P : Program} {w : World} {K : PySem.W.Frag} {mg : Str → Option Value} {base : Heap} {C : Nat → Addr}
theorem ok_ft4 {f : Addr} {fd : FuncData} (F : Fun K "first_twice" "first_twice" sFT f fd) (T : TxB mg) : FnOk P w K mg base CX0 1 f fd ["row"] (spFT4 K) := by
  refine F.ok scFT (fun vs H Q E h => ?_) (fun cdv A outer s H vs Q E hr h => ?_)
  · obtain ⟨l, qs, ps, rfl, _⟩ := h
    rfl
  · obtain ⟨l, qs, ps, rfl, hl, hq, hok, kn, kt⟩ := h
    refine ⟨_, (pss_cons (ps_for PassesOwn.never rfl (pi_enum rfl T.enumerate (pa_cons (pv 0) pa_nil)) (pg_tup rfl (pgs_cons (pg_name (i := 1) scFT.nd rfl (Or.inl rfl)) (pgs_cons (pg_name (i := 2) scFT.nd rfl (Or.inl rfl)) pgs_nil))) (pss_one (ps_if (pt_cmpR (op_inD (u65 hr)) (pv 2) (pe_slice sl_list (pv 0) po_none (po_some (pv 1))) (by rfl)) (pss_one (ps_ret (pv 1))) pss_nil)))
      (pss_one (ps_ret pe_non))), ?_⟩
    refine ⟨_, rfl, l, _, rfl, hl, for_it walk_enum (fun i σ H' => (∃ u v, σ = [some (.ref l), u, v]) ∧ Same H H' ∧ ∀ j y, j < i → ps[j]? = some y → y ∉ ps.take j) ⟨⟨none, none, rfl⟩, Same.refl H, fun j y h => absurd h (Nat.not_lt_zero j)⟩ (fun i σ H' _ p => p.2.1.seq hl) ?_ ?_⟩
    · rintro i x σ H1 H2 hi ⟨⟨u, v, rfl⟩, hS, hno⟩ ⟨t, y, z, rfl, ht, rfl, e1, e2⟩
      cases e1
      refine ⟨t, _, rfl, SqT.of upd_same, rfl, _, _, rfl, _, _, rfl, rfl, ?_⟩
      have S2 := hS.trans (Same.upd (o := .tup [.int (i : Nat), z]) ht)
      have e2 : (qs.map V.ref)[i]? = some z := e2
      rw [List.getElem?_map] at e2
      obtain ⟨q, hqi, rfl⟩ := Option.map_eq_some_iff.mp e2
      obtain ⟨r, hri, hqt⟩ := hq.get hqi
      rw [List.getElem?_map] at hri
      obtain ⟨p, hpi, rfl⟩ := Option.map_eq_some_iff.mp hri
      refine ⟨_, rfl, _, rfl, _, rfl, _, rfl, l, _, rfl, S2.seq hl, fun c hc => ?_⟩
      rw [show cutV (qs.map V.ref) none (some (i : Int)) = (qs.take i).map V.ref by rw [cut_take, List.map_take]]
      have S3 := S2.trans (Same.upd (o := .lst ((qs.take i).map V.ref)) hc)
      have hrow : RowsAt K (upd (upd H1 t (.tup [.int (i : Nat), .ref q])) c (.lst ((qs.take i).map V.ref))) (qs.take i) ((ps.take i).map prV) := by
        have e := (hq.same S3).take i
        rw [← List.map_take] at e
        exact e
      obtain ⟨l1, l2⟩ := prs_sh (ps := ps.take i) fun p hp => hok p (List.mem_of_mem_take hp)
      have shl : SeqAt.shaped (.list ((ps.take i).map prD)) = true := by
        generalize (ps.take i).map prD = X at l1 l2
        simp [SeqAt.shaped, PyData.canLay0, PyData.depth, l1]
        omega
      have shp : SeqAt.shaped (prD p) = true := by
        obtain ⟨a, b⟩ := hok p (List.mem_of_getElem? hpi)
        have sa := strOk_of a
        have sb := strOk_of b
        simp [prD, SeqAt.shaped, PyData.canLay0, PyData.canLayAll0, PyData.depth, PyData.depthAll, sa, sb]
      refine ⟨prD p, _, .tup (same_seqT S3 hqt) (.cons (.str _) (.cons (.str _) .nil)), .lst (SqL.of upd_same) (prs_dp hrow), shp, shl, _, rfl, ?_⟩
      have an : ((ps.take i).map prD).any (fun z => PyData.eqv z (prD p)) = decide (p ∈ ps.take i) := by
        rw [List.any_map]
        by_cases m : p ∈ ps.take i
        · rw [decide_eq_true m, List.any_eq_true]
          exact ⟨p, m, by show PyData.eqv (prD p) (prD p) = true; rw [prD_eqv]; exact decide_eq_true rfl⟩
        · rw [decide_eq_false m, List.any_eq_false]
          intro y hy
          show ¬ PyData.eqv (prD y) (prD p) = true
          rw [prD_eqv]
          intro e
          exact m ((of_decide_eq_true e) ▸ hy)
      rw [an]
      by_cases m : p ∈ ps.take i
      · rw [decide_eq_true m]
        exact iteT ⟨_, rfl, kt i p hpi m hno _ S3⟩
      · rw [decide_eq_false m]
        refine iteF ⟨⟨_, _, rfl⟩, S3, fun j y hj ey => ?_⟩
        by_cases q : j = i
        · subst q
          rw [hpi] at ey
          cases ey
          exact m
        · exact hno j y (by omega) ey
    · rintro σ H' ⟨_, hS, hno⟩
      refine kn (fun j y hj ey => hno j y ?_ ey) H' hS
      rw [List.length_map, hq.len, List.length_map]
      exact hj

theorem ok_rm2 {f fF fI B fB : Addr} {fd fdF fdI : FuncData} (F : Fun K "refuse_makings_twice" "refuse_makings_twice" sRMT f fd) (T : TxB mg) (TM : TxMak K mg B fB) (D : Dn K mg "first_twice" sFT ["row"] fF fdF) (TE : ErrT K mg "Twice" "name" (C 2) fI) (bI : Binds K fdI ["self", "name"] [])
    (GI : FnOk P w K mg base CX0 2 fI fdI ["self", "name"] (spE1 (C 2) "name" "twice")) : FnOk P w K mg base (L2N.CX P w) 4 f fd ["makings"] (spRM2 K C B) := by
  have G : FnOk P w K mg base CX0 1 fF fdF ["row"] (spFT4 K) := ok_ft4 D.F T
  refine okN F scRMT (fun vs H Q E h => ?_) (fun cdv A outer s H vs Q E hr h => ?_)
  · obtain ⟨m, as, ms, rfl, _⟩ := h
    rfl
  · obtain ⟨m, as, ms, rfl, hm, hms, hl, hok, k⟩ := h
    have hr1 : Room 1 _ := hr.mono (by decide)
    have hr3 : Room 3 _ := hr
    refine ⟨_, (pss_cons (ps_setLc (i := 1) (own := [("making", 3)]) (g := gName 3) (te := tTup (tCons (tFld K (tVar 3) "maker") (tCons (tFld K (tVar 3) "made") tNil))) rfl scRMT.nd rfl rfl (sw_true rfl rfl rfl (by decide +kernel)) (pi_list (pv 0)) (blkOk_by (N := ["makings", "pairs", "place", "making"]) (sc := defScope sRMT) (by decide +kernel)) (fun _ _ _ _ _ => (pg_name (i := 3) scRMT.nd rfl (Or.inl rfl))) (fun _ _ _ _ _ => pts_nil) (fun _ _ _ _ _ => (pe_tup (pa_cons (pe_fld (pv 3) rfl) (pa_cons (pe_fld (pv 3) rfl) pa_nil)))))
      (pss_cons (ps_set (i := 2) scRMT.nd rfl (Or.inl rfl) (pe_call G hr1 rfl D.g D.F.kp D.b .nil pass0 (pa_cons (pv 1) pa_nil)))
      (pss_one (ps_if (pt_cmp (pc_notN (pv 2))) (pss_one (L2N.ps_raise rfl (L2N.takes_of rfl rfl rfl rfl) (pmkN_oex TE.o TE.iC TE.tI GI hr3 bI pass0 rfl TE.g (pa_cons (pe_fld (pe_ix ix_list (pv 0) (pv 2) (fun _ _ => rfl)) rfl) pa_nil)))) pss_nil)))), ?_⟩
    refine ⟨_, rfl, m, rfl, ⟨_, hm⟩, fun D' hD => ?_⟩
    refine lc_list (K := K) (a := m) (xs := as.map V.ref) (fun i H' => Same H H' ∧ ∃ qs : List Addr, H' D' = some (.lst (qs.map V.ref)) ∧ qs.length = i ∧ RowsAt K H' qs (((ms.map fun x => (x.mr, x.md)).take i).map prV)) ⟨Same.upd hD, [], upd_same, rfl, True.intro⟩ (fun i H' _ p => p.1.seq hm) ?_ ?_
    · rintro i x H' hi ⟨hS, qs, hq, hql, hrow⟩
      obtain ⟨a, y, rfl, hy, hat⟩ := hms.get hi
      obtain ⟨d, t1, t2, ha, _, _⟩ := MkAt.same hS hat
      refine ⟨rfl, ?_⟩
      refine ⟨_, rfl, a, B, d, _, _, rfl, ha, TM.cl, TM.nk, makF_maker _ _ _ _, ?_⟩
      refine ⟨_, rfl, a, B, d, _, _, rfl, ha, TM.cl, TM.nd, makF_made _ _ _ _, ?_⟩
      refine ⟨by show 2 ≤ sizeLine; decide, fun t ht => ?_⟩
      have nt : t ≠ D' := (ne_of_none hq ht).symm
      have il : i < ms.length := (List.getElem?_eq_some_iff.mp hy).1
      refine ⟨_, Same.upd ht _ _ hq, ?_, ?_, qs ++ [t], ?_, ?_, ?_⟩
      · rw [List.length_map]
        exact Nat.lt_of_le_of_lt (show qs.length ≤ 1000 by omega) (by decide)
      · intro b o h
        rw [upd_ne (ne_of_none h hD)]
        exact Same.upd ht _ _ (hS b o h)
      · rw [upd_same, List.map_append]
        rfl
      · rw [List.length_append, List.length_singleton]
        omega
      · rw [List.take_add_one, List.getElem?_map, hy, List.map_append]
        have B' : But D' (upd H' t (.tup [.str y.mr, .str y.md])) (upd (upd H' t (.tup [.str y.mr, .str y.md])) D' (.lst (qs.map V.ref ++ [.ref t]))) := But.upd
        have keep : ∀ {q : Addr} {xs : List V}, SqT K (upd H' t (.tup [.str y.mr, .str y.md])) q xs → SqT K (upd (upd H' t (.tup [.str y.mr, .str y.md])) D' (.lst (qs.map V.ref ++ [.ref t]))) q xs := fun {q xs} h => by
          have hp : (upd H' t (.tup [.str y.mr, .str y.md])) D' = some (.lst (qs.map V.ref)) := Same.upd ht _ _ hq
          rcases h with (h | ⟨u, h⟩) | h
          · exact .inl (.inl (B' _ _ (ne_of h hp (by intro z; cases z)) h))
          · exact .inl (.inr ⟨u, B' _ _ (ne_of h hp (by intro z; cases z)) h⟩)
          · exact .inr h
        have r1 : RowsAt K (upd H' t (.tup [.str y.mr, .str y.md])) (qs ++ [t]) (((ms.map fun x => (x.mr, x.md)).take i).map prV ++ [prV (y.mr, y.md)]) := (hrow.same (Same.upd ht)).append ⟨SqT.of upd_same, True.intro⟩
        exact rows_imp keep r1
    · rintro H' ⟨hS, qs, hq, hql, hrow⟩
      rw [List.length_map, hms.len] at hql
      rw [List.length_map, hms.len, List.take_of_length_le (by rw [List.length_map]; exact Nat.le_refl _)] at hrow
      dsimp only [List.set_cons_succ, List.set_cons_zero]
      refine ⟨_, rfl, D', qs, _, rfl, SqL.of hq, hrow, fun p hp => ?_, fun no H2 S2 => ?_, fun i z hz hin hno H2 S2 => ?_⟩
      · obtain ⟨x, hx, rfl⟩ := List.mem_map.mp hp
        exact hok x hx
      · rw [goF_none fun j y hj ey => ?_] at k
        · exact ⟨_, rfl, _, rfl, iteF (k _ (hS.trans S2))⟩
        · unfold twM
          rw [List.map_take, if_neg (no j _ (by rw [List.length_map]; exact hj) (by rw [List.getElem?_map, ey]; rfl))]
      · rw [List.getElem?_map] at hz
        obtain ⟨x, hx, rfl⟩ := Option.map_eq_some_iff.mp hz
        have S02 := hS.trans S2
        rw [goF_hit (fun j y hj ey => ?_) hx (b := .tw x.mr) (by unfold twM; rw [List.map_take, if_pos hin])] at k
        · have il : i < as.length := by
            have q := (List.getElem?_eq_some_iff.mp hx).1
            rw [hms.len]
            exact q
          obtain ⟨a, ha0⟩ : ∃ a, as[i]? = some a := ⟨_, List.getElem?_eq_getElem il⟩
          have hav : (as.map V.ref)[i]? = some (.ref a) := by rw [List.getElem?_map, ha0]; rfl
          obtain ⟨a', x', e1, e2, hat⟩ := hms.get hav
          cases e1
          rw [hx] at e2
          cases e2
          obtain ⟨d, t1, t2, ha, _, _⟩ := MkAt.same S02 hat
          refine ⟨_, rfl, _, rfl, iteT ⟨_, rfl, _, rfl, m, _, (i : Int), .ref a, rfl, rfl, S02.seq hm, atI_nat hav, a, B, d, _, _, rfl, ha, TM.cl, TM.nk, makF_maker _ _ _ _, ?_⟩⟩
          exact mk1 fun d' H3 hd hS3 hx => k d' H3 (S02.free hd) (S02.trans hS3) hx
        · unfold twM
          rw [List.map_take, if_neg (hno j _ hj (by rw [List.getElem?_map, ey]; rfl))]

theorem ok_ns2 {f fI B fB : Addr} {fd fdI : FuncData} (F : Fun K "refuse_no_sort" "refuse_no_sort" sRNS f fd) (TM : TxMak K mg B fB) (TE : ErrT K mg "NoSort" "name" (C 3) fI) (bI : Binds K fdI ["self", "name"] []) (GI : FnOk P w K mg base CX0 2 fI fdI ["self", "name"] (spE1 (C 3) "name" "nosort")) : FnOk P w K mg base (L2N.CX P w) 4 f fd ["sorts", "makings", "patterns"] (spNS2 K C B) := by
  refine okN F scRNS (fun vs H Q E h => ?_) (fun cdv A outer s H vs Q E hr h => ?_)
  · obtain ⟨s, m, p, ss, as, bs, ms, vv, rfl, _⟩ := h
    rfl
  · obtain ⟨s, m, p, ss, as, bs, ms, vv, rfl, hs, hm, hms, hp, hvv, ml, vl, v4, k⟩ := h
    have hr3 : Room 3 _ := hr
    refine ⟨_, (pss_cons (ps_set (i := 3) scRNS.nd rfl (Or.inl rfl) (pe_lst pa_nil))
      (pss_cons (ps_for (passes_of rfl) rfl (pi_list (pv 1)) (pg_name (i := 4) scRNS.nd rfl (Or.inl rfl)) (pss_one (ps_expr (pe_bm PySem.F.plainAttrs_list PySem.F.slot_list_extend PySem.F.type_list_extend mt_extend (pv 3) (pa_cons (pe_lst (pa_cons (pe_fld (pv 4) rfl) (pa_cons (pe_fld (pv 4) rfl) pa_nil))) pa_nil)))))
      (pss_cons (ps_for (passes_of rfl) rfl (pi_list (pv 2)) (pg_name (i := 5) scRNS.nd rfl (Or.inl rfl)) (pss_one (ps_expr (pe_bm PySem.F.plainAttrs_list PySem.F.slot_list_extend PySem.F.type_list_extend mt_extend (pv 3) (pa_cons (pe_lc (own := [("variable", 7), ("sort", 8)]) (g := gTup K 2 (gCons (gName 7) (gCons (gName 8) gNil))) rfl scRNS.nd (pi_tup (pe_fld (pv 5) rfl)) (blkOk_by (N := ["sorts", "makings", "patterns", "asked", "making", "pattern", "name", "variable", "sort"]) (sc := defScope sRNS) (by decide +kernel)) (fun _ _ _ _ _ => (pg_tup rfl (pgs_cons (pg_name (i := 7) scRNS.nd rfl (Or.inl rfl)) (pgs_cons (pg_name (i := 8) scRNS.nd rfl (Or.inl rfl)) pgs_nil)))) (fun _ _ _ _ _ => (pts_one (pt_cmp (pc_notN (pv 8))))) (fun _ _ _ _ _ => (pv 8))) pa_nil)))))
      (pss_one (ps_for (passes_of rfl) rfl (pi_list (pv 3)) (pg_name (i := 6) scRNS.nd rfl (Or.inl rfl)) (pss_one (ps_if (pt_cmpR op_notIn_seq (pv 6) (pv 0) (by rfl)) (pss_one (L2N.ps_raise rfl (L2N.takes_of rfl rfl rfl rfl) (pmkN_oex TE.o TE.iC TE.tI GI hr3 bI pass0 rfl TE.g (pa_cons (pv 6) pa_nil)))) pss_nil))))))), ?_⟩
    refine ⟨Nat.zero_le _, fun d hd => ?_⟩
    dsimp only [List.set_cons_succ, List.set_cons_zero]
    have Sd : ∀ {H1 : Hp} {o : HO}, Same H H1 → Same H (upd H1 d o) := fun hs b o e => by
      rw [upd_ne (ne_of_none e hd)]
      exact hs b o e
    have S0 : Same H (upd H d (.lst [])) := Same.upd hd
    refine ⟨_, rfl, m, rfl, ⟨_, S0.seq hm⟩, for_list (K := K) (a := m) (xs := as.map V.ref) (fun i σ H' => (∃ v, σ = [some (.ref s), some (.ref m), some (.ref p), some (.ref d), v, none, none, none, none]) ∧ Same H H' ∧ ∃ zs : List Str, H' d = some (.lst (zs.map V.str)) ∧ zs.length ≤ 2 * i ∧ zs = (ms.take i).flatMap (fun x => [x.mr, x.md])) ⟨⟨none, rfl⟩, S0, [], upd_same, Nat.le_refl _, rfl⟩ (fun i σ H' _ p => p.2.1.seq hm) ?_ ?_⟩
    · rintro i y σ H' hi ⟨⟨v, rfl⟩, hS, zs, hz, zl, zo⟩
      obtain ⟨a, x, rfl, hxi, hat⟩ := hms.get hi
      obtain ⟨d', t1, t2, ha, _, _⟩ := MkAt.same hS hat
      have il : i < ms.length := (List.getElem?_eq_some_iff.mp hxi).1
      dsimp only [gName, List.set_cons_succ, List.set_cons_zero]
      refine ⟨_, rfl, .inl ⟨rfl, _, SqL.of hz⟩, _, rfl, a, B, d', _, _, rfl, ha, TM.cl, TM.nk, makF_maker _ _ _ _, _, rfl, a, B, d', _, _, rfl, ha, TM.cl, TM.nd, makF_made _ _ _ _, by show 2 ≤ sizeLine; decide, fun l2 nl2 => ?_⟩
      refine ⟨d, l2, _, _, rfl, rfl, Same.upd nl2 _ _ hz, upd_same, ?_, ⟨_, rfl⟩, Sd (hS.trans (Same.upd nl2)), zs ++ [x.mr, x.md], ?_, ?_, ?_⟩
      · rw [List.length_map]
        exact Nat.le_trans (show zs.length + 2 ≤ 10000 by omega) (by decide)
      · rw [upd_same, List.map_append]
        rfl
      · rw [List.length_append]
        show zs.length + 2 ≤ _
        omega
      · rw [zo, fm_take hxi]
    rintro σ H1 ⟨⟨v, rfl⟩, hS1, zs, hz, zl, zo⟩
    rw [List.length_map, hms.len] at zl zo
    rw [List.take_length] at zo
    refine ⟨_, rfl, p, rfl, ⟨_, hS1.seq hp⟩, for_list (K := K) (a := p) (xs := bs.map V.ref) (fun i σ H' => (∃ v u, σ = [some (.ref s), some (.ref m), some (.ref p), some (.ref d), v, u, none, none, none]) ∧ Same H H' ∧ ∃ zs : List Str, H' d = some (.lst (zs.map V.str)) ∧ zs.length ≤ 2 * ms.length + 4 * i ∧ zs = ms.flatMap (fun x => [x.mr, x.md]) ++ (vv.take i).flatMap (fun v => v.filterMap (·.2))) ⟨⟨_, none, rfl⟩, hS1, zs, hz, by omega, by rw [zo]; simp⟩ (fun i σ H' _ p => p.2.1.seq hp) ?_ ?_⟩
    · rintro i y σ H' hi ⟨⟨v, u, rfl⟩, hS, zs, hz, zl, zo⟩
      obtain ⟨a, x, rfl, hxi, hat⟩ := hvv.get hi
      obtain ⟨C, d', fs, t1, ps, ha, hc, hn, hlk, ht, hrow⟩ := PvAt.same hS hat
      have il : i < vv.length := (List.getElem?_eq_some_iff.mp hxi).1
      have xm := List.mem_of_getElem? hxi
      have x4 := v4 x xm
      dsimp only [gName, List.set_cons_succ, List.set_cons_zero]
      refine ⟨_, rfl, .inl ⟨rfl, _, SqL.of hz⟩, _, rfl, a, C, d', _, _, rfl, ha, hc, hn, hlk, t1, rfl, ⟨_, ht⟩, fun D hD => ?_⟩
      have ndD : d ≠ D := ne_of_none hz hD
      refine lc_it walk_tup (fun j G => Same H' G ∧ ∃ us : List Str, G D = some (.lst (us.map V.str)) ∧ us.length ≤ j ∧ us = (x.take j).filterMap (·.2)) ⟨Same.upd hD, [], upd_same, Nat.le_refl _, rfl⟩ (fun j G _ p => same_seqT p.1 ht) ?_ ?_
      · rintro j x' G G' hj ⟨hSG, us, hu, ul, uo⟩ ⟨rfl, hxj⟩
        obtain ⟨q, hqj, rfl⟩ := map_ref_get hxj
        obtain ⟨r, hrj, hqr⟩ := hrow.get hqj
        obtain ⟨⟨n, so⟩, hvj, rfl⟩ := var_get hrj
        have jl : j < x.length := (List.getElem?_eq_some_iff.mp hvj).1
        refine ⟨q, _, rfl, same_seqT hSG hqr, rfl, _, _, rfl, _, _, rfl, rfl, rfl, ?_⟩
        cases so with
        | none =>
          refine ⟨_, rfl, _, rfl, ?_⟩
          refine iteF ?_
          exact ⟨hSG, us, hu, by omega, by rw [uo, List.take_add_one, hvj, List.filterMap_append]; simp⟩
        | some z =>
          refine ⟨_, rfl, _, rfl, ?_⟩
          refine iteT ?_
          refine ⟨_, rfl, _, hu, ?_, ?_, us ++ [z], ?_, ?_, ?_⟩
          · rw [List.length_map]
            exact Nat.lt_of_le_of_lt (show us.length ≤ 100 by omega) (by decide)
          · intro b o h
            rw [upd_ne (ne_of_none h hD)]
            exact hSG b o h
          · rw [upd_same, List.map_append]
            rfl
          · rw [List.length_append, List.length_singleton]
            omega
          · rw [uo, List.take_add_one, hvj, List.filterMap_append]
            rfl
      · rintro G ⟨hSG, us, hu, ul, uo⟩
        have ul4 : us.length ≤ 4 := by
          rw [List.length_map, hrow.len, List.length_map] at ul
          omega
        refine ⟨d, D, _, _, rfl, rfl, hSG _ _ hz, hu, ?_, ⟨_, _, rfl⟩, Sd (hS.trans hSG), zs ++ us, ?_, ?_, ?_⟩
        · rw [List.length_map, List.length_map]
          exact Nat.le_trans (show zs.length + us.length ≤ 10000 by omega) (by decide)
        · rw [upd_same, List.map_append]
        · rw [List.length_append]
          omega
        · have xl : ((ps.map V.ref).length) = x.length := by rw [List.length_map, hrow.len, List.length_map]
          rw [xl, List.take_length] at uo
          rw [zo, uo, fm_take hxi, List.append_assoc]
    rintro σ H2 ⟨⟨v, u, rfl⟩, hS2, zs, hz, zl, zo⟩
    rw [List.length_map, hvv.len, List.take_length] at zo
    have zo : zs = askS ms vv := zo
    rw [← zo] at k
    refine ⟨_, rfl, d, rfl, ⟨_, SqL.of hz⟩, for_list (K := K) (a := d) (xs := zs.map V.str) (fun i σ H' => (∃ v u t, σ = [some (.ref s), some (.ref m), some (.ref p), some (.ref d), v, u, t, none, none]) ∧ H' = H2 ∧ ∀ j y, j < i → zs[j]? = some y → nsP ss (zs.take j) y = none) ⟨⟨_, _, none, rfl⟩, rfl, fun j y h => absurd h (Nat.not_lt_zero j)⟩ (fun i σ H' _ p => by rw [p.2.1]; exact SqL.of hz) ?_ ?_⟩
    · rintro i y σ H' hi ⟨⟨v, u, t, rfl⟩, rfl, hno⟩
      obtain ⟨z, hzi, rfl⟩ := map_str_get hi
      dsimp only [gName, List.set_cons_succ, List.set_cons_zero]
      refine ⟨_, rfl, _, rfl, s, _, rfl, .inl (hS2.seq hs), rfl, flat_of ss, _, rfl, ?_⟩
      show if (!inV (.str z) (ss.map V.str)) = true then _ else _
      rw [inV_strs]
      by_cases q : z ∈ ss
      · rw [decide_eq_true q]
        exact iteF ⟨⟨_, _, _, rfl⟩, rfl, goF_more hno hzi (by unfold nsP; rw [if_pos q])⟩
      · rw [decide_eq_false q]
        rw [goF_hit hno hzi (by unfold nsP; rw [if_neg q])] at k
        exact iteT ⟨_, rfl, mk1 fun d' H3 hd' hS3 hx => k d' H3 (hS2.free hd') (hS2.trans hS3) hx⟩
    · rintro σ H' ⟨⟨v, u, t, rfl⟩, rfl, hno⟩
      rw [List.length_map] at hno
      rw [goF_none hno] at k
      exact k _ hS2
end
end Wm
namespace Wm
open PySem L2 StX
section
variable {P : Program} {w : World} {K : PySem.W.Frag} {mg : Str → Option Value} {base : Heap} {C : Nat → Addr}
theorem ok_nw2 {f fI MB fM RB fR BB fB : Addr} {fd fdI : FuncData} (F : Fun K "refuse_no_word" "refuse_no_word" sRNW f fd) (TM : TxMak K mg MB fM) (TR : TxRul K mg RB fR) (TB : TxBar K mg BB fB) (TE : ErrT K mg "NoWord" "name" (C 5) fI) (bI : Binds K fdI ["self", "name"] []) (GI : FnOk P w K mg base CX0 2 fI fdI ["self", "name"] (spE1 (C 5) "name" "noword")) : FnOk P w K mg base (L2N.CX P w) 4 f fd ["words", "makings", "rules", "bars"] (spNW2 K C MB RB BB) := by
  refine okN F scRNW (fun vs H Q E h => ?_) (fun cdv A outer s H vs Q E hr h => ?_)
  · obtain ⟨w, m, r, b, ws, as, bs, cs, ms, rs, ps, rfl, _⟩ := h
    rfl
  · obtain ⟨w, m, r, b, ws, as, bs, cs, ms, rs, ps, rfl, hw, hm, hms, hr', hrs, hb, hps, ml, rl, pl, m1, r1, p1, k⟩ := h
    have hr3 : Room 3 _ := hr
    refine ⟨_, (pss_cons (ps_set (i := 4) scRNW.nd rfl (Or.inl rfl) (pe_lst pa_nil))
      (pss_cons (ps_for (passes_of rfl) rfl (pi_list (pv 1)) (pg_name (i := 5) scRNW.nd rfl (Or.inl rfl)) (pss_one (ps_expr (pe_bm PySem.F.plainAttrs_list PySem.F.slot_list_extend PySem.F.type_list_extend mt_extend (pv 4) (pa_cons (pe_lst (pa_star (pe_fld (pv 5) rfl) (pa_star (pe_fld (pv 5) rfl) pa_nil))) pa_nil)))))
      (pss_cons (ps_for (passes_of rfl) rfl (pi_list (pv 2)) (pg_name (i := 6) scRNW.nd rfl (Or.inl rfl)) (pss_one (ps_expr (pe_bm PySem.F.plainAttrs_list PySem.F.slot_list_extend PySem.F.type_list_extend mt_extend (pv 4) (pa_cons (pe_lc (own := [("x", 9), ("word", 10), ("y", 11)]) (g := gTup K 3 (gCons (gName 9) (gCons (gName 10) (gCons (gName 11) gNil)))) rfl scRNW.nd (pi_list (pe_lst (pa_star (pe_fld (pv 6) rfl) (pa_cons (pe_fld (pv 6) rfl) pa_nil)))) (blkOk_by (N := ["words", "makings", "rules", "bars", "asked", "making", "rule", "bar", "name", "x", "word", "y"]) (sc := defScope sRNW) (by decide +kernel)) (fun _ _ _ _ _ => (pg_tup rfl (pgs_cons (pg_name (i := 9) scRNW.nd rfl (Or.inl rfl)) (pgs_cons (pg_name (i := 10) scRNW.nd rfl (Or.inl rfl)) (pgs_cons (pg_name (i := 11) scRNW.nd rfl (Or.inl rfl)) pgs_nil))))) (fun _ _ _ _ _ => pts_nil) (fun _ _ _ _ _ => (pv 10))) pa_nil)))))
      (pss_cons (ps_for (passes_of rfl) rfl (pi_list (pv 3)) (pg_name (i := 7) scRNW.nd rfl (Or.inl rfl)) (pss_one (ps_expr (pe_bm PySem.F.plainAttrs_list PySem.F.slot_list_extend PySem.F.type_list_extend mt_extend (pv 4) (pa_cons (pe_lc (own := [("x", 9), ("word", 10), ("y", 11)]) (g := gTup K 3 (gCons (gName 9) (gCons (gName 10) (gCons (gName 11) gNil)))) rfl scRNW.nd (pi_tup (pe_fld (pv 7) rfl)) (blkOk_by (N := ["words", "makings", "rules", "bars", "asked", "making", "rule", "bar", "name", "x", "word", "y"]) (sc := defScope sRNW) (by decide +kernel)) (fun _ _ _ _ _ => (pg_tup rfl (pgs_cons (pg_name (i := 9) scRNW.nd rfl (Or.inl rfl)) (pgs_cons (pg_name (i := 10) scRNW.nd rfl (Or.inl rfl)) (pgs_cons (pg_name (i := 11) scRNW.nd rfl (Or.inl rfl)) pgs_nil))))) (fun _ _ _ _ _ => pts_nil) (fun _ _ _ _ _ => (pv 10))) pa_nil)))))
      (pss_one (ps_for (passes_of rfl) rfl (pi_list (pv 4)) (pg_name (i := 8) scRNW.nd rfl (Or.inl rfl)) (pss_one (ps_if (pt_cmpR op_notIn_seq (pv 8) (pv 0) (by rfl)) (pss_one (L2N.ps_raise rfl (L2N.takes_of rfl rfl rfl rfl) (pmkN_oex TE.o TE.iC TE.tI GI hr3 bI pass0 rfl TE.g (pa_cons (pv 8) pa_nil)))) pss_nil)))))))), ?_⟩
    refine ⟨Nat.zero_le _, fun d hd => ?_⟩
    dsimp only [List.set_cons_succ, List.set_cons_zero]
    have Sd : ∀ {H1 : Hp} {o : HO}, Same H H1 → Same H (upd H1 d o) := fun hs b o e => by
      rw [upd_ne (ne_of_none e hd)]
      exact hs b o e
    have S0 : Same H (upd H d (.lst [])) := Same.upd hd
    -- the words of the makings
    refine ⟨_, rfl, m, rfl, ⟨_, S0.seq hm⟩, for_list (K := K) (a := m) (xs := as.map V.ref) (fun i σ H' => (∃ v, σ = [some (.ref w), some (.ref m), some (.ref r), some (.ref b), some (.ref d), v, none, none, none, none, none, none]) ∧ Same H H' ∧ ∃ zs : List Str, H' d = some (.lst (zs.map V.str)) ∧ zs.length ≤ 200 * i ∧ zs = (ms.take i).flatMap (fun x => x.dn ++ x.up)) ⟨⟨none, rfl⟩, S0, [], upd_same, Nat.le_refl _, rfl⟩ (fun i σ H' _ p => p.2.1.seq hm) ?_ ?_⟩
    · rintro i y σ H' hi ⟨⟨v, rfl⟩, hS, zs, hz, zl, zo⟩
      obtain ⟨a, x, rfl, hxi, hat⟩ := hms.get hi
      obtain ⟨d', t1, t2, ha, ht1, ht2⟩ := MkAt.same hS hat
      have il : i < ms.length := (List.getElem?_eq_some_iff.mp hxi).1
      have xm := List.mem_of_getElem? hxi
      have x1 := m1 x xm
      dsimp only [gName, List.set_cons_succ, List.set_cons_zero]
      refine ⟨_, rfl, .inl ⟨rfl, _, SqL.of hz⟩, _, rfl, a, MB, d', _, _, rfl, ha, TM.cl, TM.nw, makF_down _ _ _ _, t1, _, rfl, .inl ht1, _, rfl, a, MB, d', _, _, rfl, ha, TM.cl, TM.nu, makF_up _ _ _ _, t2, _, rfl, .inl ht2, ?_⟩
      show (x.dn.map V.str ++ (x.up.map V.str ++ [])).length ≤ sizeLine ∧ _
      rw [show (x.dn.map V.str ++ (x.up.map V.str ++ [])) = (x.dn ++ x.up).map V.str by rw [List.append_nil, List.map_append]]
      refine ⟨Nat.le_trans (show _ ≤ 1000 by rw [List.length_map, List.length_append]; omega) (by decide), fun l2 nl2 => ?_⟩
      refine ⟨d, l2, _, _, rfl, rfl, Same.upd nl2 _ _ hz, upd_same, ?_, ⟨_, rfl⟩, Sd (hS.trans (Same.upd nl2)), zs ++ (x.dn ++ x.up), ?_, ?_, ?_⟩
      · rw [List.length_map, List.length_map, List.length_append]
        exact Nat.le_trans (show _ ≤ 1000000 by omega) (by decide)
      · rw [upd_same]
        simp
      · rw [List.length_append, List.length_append]
        omega
      · rw [zo, fm_take hxi]
    rintro σ H1 ⟨⟨v, rfl⟩, hS1, zs, hz, zl, zo⟩
    rw [List.length_map, hms.len] at zl zo
    rw [List.take_length] at zo
    -- those of the rules
    refine ⟨_, rfl, r, rfl, ⟨_, hS1.seq hr'⟩, for_list (K := K) (a := r) (xs := bs.map V.ref) (fun i σ H' => (∃ v u, σ = [some (.ref w), some (.ref m), some (.ref r), some (.ref b), some (.ref d), v, u, none, none, none, none, none]) ∧ Same H H' ∧ ∃ zs : List Str, H' d = some (.lst (zs.map V.str)) ∧ zs.length ≤ 200 * ms.length + 4 * i ∧ zs = ms.flatMap (fun x => x.dn ++ x.up) ++ (rs.take i).flatMap (fun x => (x.p.cs ++ [x.g]).map (·.2.1))) ⟨⟨_, none, rfl⟩, hS1, zs, hz, by omega, by rw [zo]; simp⟩ (fun i σ H' _ p => p.2.1.seq hr') ?_ ?_⟩
    · rintro i y σ H' hi ⟨⟨v, u, rfl⟩, hS, zs, hz, zl, zo⟩
      obtain ⟨a, x, rfl, hxi, hat⟩ := hrs.get hi
      obtain ⟨d', t1, t2, t3, us, qs, ha, ht1, hu, ht2, hq, ht3⟩ := RlAt.same hS hat
      have il : i < rs.length := (List.getElem?_eq_some_iff.mp hxi).1
      have xm := List.mem_of_getElem? hxi
      have x1 := r1 x xm
      have ql : qs.length = x.p.cs.length := by rw [hq.len, List.length_map]
      dsimp only [gName, List.set_cons_succ, List.set_cons_zero]
      refine ⟨_, rfl, .inl ⟨rfl, _, SqL.of hz⟩, _, rfl, a, RB, d', _, _, rfl, ha, TR.cl, TR.nc, rulF_cond _ _ _ _ _, t2, _, rfl, .inl ht2, _, rfl, a, RB, d', _, _, rfl, ha, TR.cl, TR.ng, rulF_gives _ _ _ _ _, ?_⟩
      show (qs.map V.ref ++ [V.ref t3]).length ≤ sizeLine ∧ _
      rw [show (qs.map V.ref ++ [V.ref t3]) = (qs ++ [t3]).map V.ref by rw [List.map_append]; rfl]
      refine ⟨Nat.le_trans (show _ ≤ 1000 by rw [List.length_map, List.length_append, List.length_singleton]; omega) (by decide), fun l2 nl2 => ?_⟩
      have S2 : Same H' (upd H' l2 (.lst ((qs ++ [t3]).map V.ref))) := Same.upd nl2
      have e2 : (upd H' l2 (.lst ((qs ++ [t3]).map V.ref))) l2 = some (.lst ((qs ++ [t3]).map V.ref)) := upd_same
      have rows : RowsAt K (upd H' l2 (.lst ((qs ++ [t3]).map V.ref))) (qs ++ [t3]) ((x.p.cs ++ [x.g]).map triV) := by
        have e : (x.p.cs ++ [x.g]).map triV = x.p.cs.map triV ++ [triV x.g] := by rw [List.map_append]; rfl
        rw [e]
        exact (hq.same S2).append (show RowsAt K _ [t3] [triV x.g] from ⟨same_seqT S2 ht3, True.intro⟩)
      generalize upd H' l2 (.lst ((qs ++ [t3]).map V.ref)) = G2 at S2 e2 rows
      refine ⟨l2, rfl, ⟨_, SqL.of e2⟩, fun D hD => ?_⟩
      refine lc_it walk_list (fun j G => Same G2 G ∧ G D = some (.lst ((((x.p.cs ++ [x.g]).take j).map (·.2.1)).map V.str))) ⟨Same.upd hD, upd_same⟩ (fun j G _ p => p.1.seq (SqL.of e2)) ?_ ?_
      · rintro j x' G G' hj ⟨hSG, hu'⟩ ⟨rfl, hxj⟩
        obtain ⟨q, hqj, rfl⟩ := map_ref_get hxj
        obtain ⟨rr, hrj, hqr⟩ := rows.get hqj
        obtain ⟨t, htj, rfl⟩ := tri_get hrj
        have jl : j < (x.p.cs ++ [x.g]).length := (List.getElem?_eq_some_iff.mp htj).1
        refine ⟨q, _, rfl, same_seqT hSG hqr, rfl, _, _, rfl, _, _, rfl, _, _, rfl, rfl, rfl, ?_⟩
        refine ⟨_, rfl, _, hu', ?_, ?_, ?_⟩
        · rw [List.length_map, List.length_map, List.length_take]
          rw [List.length_append, List.length_singleton] at jl ⊢
          exact Nat.lt_of_le_of_lt (show _ ≤ 100 by omega) (by decide)
        · intro b o h
          rw [upd_ne (ne_of_none h hD)]
          exact hSG b o h
        · rw [upd_same, List.take_add_one, htj, List.map_append, List.map_append]
          rfl
      · rintro G ⟨hSG, hu'⟩
        rw [List.length_map, rows.len, List.length_map, List.take_length] at hu'
        have hzG := hSG _ _ (S2 _ _ hz)
        refine ⟨d, D, _, _, rfl, rfl, hzG, hu', ?_, ⟨_, _, rfl⟩, Sd ((hS.trans S2).trans hSG), zs ++ (x.p.cs ++ [x.g]).map (·.2.1), ?_, ?_, ?_⟩
        · rw [List.length_map, List.length_map, List.length_map, List.length_append, List.length_singleton]
          exact Nat.le_trans (show _ ≤ 1000000 by omega) (by decide)
        · rw [upd_same]
          simp
        · rw [List.length_append, List.length_map, List.length_append, List.length_singleton]
          omega
        · rw [zo, fm_take hxi, List.append_assoc]
    rintro σ H2 ⟨⟨v, u, rfl⟩, hS2, zs, hz, zl, zo⟩
    rw [List.length_map, hrs.len] at zl zo
    rw [List.take_length] at zo
    -- those of the bars
    refine ⟨_, rfl, b, rfl, ⟨_, hS2.seq hb⟩, for_list (K := K) (a := b) (xs := cs.map V.ref) (fun i σ H' => (∃ v u t, σ = [some (.ref w), some (.ref m), some (.ref r), some (.ref b), some (.ref d), v, u, t, none, none, none, none]) ∧ Same H H' ∧ ∃ zs : List Str, H' d = some (.lst (zs.map V.str)) ∧ zs.length ≤ 200 * ms.length + 4 * rs.length + 4 * i ∧ zs = (ms.flatMap (fun x => x.dn ++ x.up) ++ rs.flatMap (fun x => (x.p.cs ++ [x.g]).map (·.2.1))) ++ (ps.take i).flatMap (fun x => x.cs.map (·.2.1))) ⟨⟨_, _, none, rfl⟩, hS2, zs, hz, by omega, by rw [zo]; simp⟩ (fun i σ H' _ p => p.2.1.seq hb) ?_ ?_⟩
    · rintro i y σ H' hi ⟨⟨v, u, t, rfl⟩, hS, zs, hz, zl, zo⟩
      obtain ⟨a, x, rfl, hxi, hat⟩ := hps.get hi
      obtain ⟨d', t1, t2, us, qs, ha, ht1, hu, ht2, hq⟩ := BrAt.same hS hat
      have il : i < ps.length := (List.getElem?_eq_some_iff.mp hxi).1
      have xm := List.mem_of_getElem? hxi
      have x1 := p1 x xm
      dsimp only [gName, List.set_cons_succ, List.set_cons_zero]
      refine ⟨_, rfl, .inl ⟨rfl, _, SqL.of hz⟩, _, rfl, a, BB, d', _, _, rfl, ha, TB.cl, TB.nc, barF_cond _ _ _, t2, rfl, ⟨_, ht2⟩, fun D hD => ?_⟩
      refine lc_it walk_tup (fun j G => Same H' G ∧ G D = some (.lst (((x.cs.take j).map (·.2.1)).map V.str))) ⟨Same.upd hD, upd_same⟩ (fun j G _ p => same_seqT p.1 ht2) ?_ ?_
      · rintro j x' G G' hj ⟨hSG, hu'⟩ ⟨rfl, hxj⟩
        obtain ⟨q, hqj, rfl⟩ := map_ref_get hxj
        obtain ⟨rr, hrj, hqr⟩ := hq.get hqj
        obtain ⟨t, htj, rfl⟩ := tri_get hrj
        have jl : j < x.cs.length := (List.getElem?_eq_some_iff.mp htj).1
        refine ⟨q, _, rfl, same_seqT hSG hqr, rfl, _, _, rfl, _, _, rfl, _, _, rfl, rfl, rfl, ?_⟩
        refine ⟨_, rfl, _, hu', ?_, ?_, ?_⟩
        · rw [List.length_map, List.length_map, List.length_take]
          exact Nat.lt_of_le_of_lt (show _ ≤ 100 by omega) (by decide)
        · intro b o h
          rw [upd_ne (ne_of_none h hD)]
          exact hSG b o h
        · rw [upd_same, List.take_add_one, htj, List.map_append, List.map_append]
          rfl
      · rintro G ⟨hSG, hu'⟩
        rw [List.length_map, hq.len, List.length_map, List.take_length] at hu'
        refine ⟨d, D, _, _, rfl, rfl, hSG _ _ hz, hu', ?_, ⟨_, _, _, rfl⟩, Sd (hS.trans hSG), zs ++ x.cs.map (·.2.1), ?_, ?_, ?_⟩
        · rw [List.length_map, List.length_map, List.length_map]
          exact Nat.le_trans (show _ ≤ 1000000 by omega) (by decide)
        · rw [upd_same, List.map_append]
        · rw [List.length_append, List.length_map]
          omega
        · rw [zo, fm_take hxi, List.append_assoc]
    rintro σ H3 ⟨⟨v, u, t, rfl⟩, hS3, zs, hz, zl, zo⟩
    rw [List.length_map, hps.len, List.take_length] at zo
    have zo : zs = askW ms rs ps := zo
    rw [← zo] at k
    refine ⟨_, rfl, d, rfl, ⟨_, SqL.of hz⟩, for_list (K := K) (a := d) (xs := zs.map V.str) (fun i σ H' => (∃ v u t n, σ = [some (.ref w), some (.ref m), some (.ref r), some (.ref b), some (.ref d), v, u, t, n, none, none, none]) ∧ H' = H3 ∧ ∀ j y, j < i → zs[j]? = some y → nwP ws (zs.take j) y = none) ⟨⟨_, _, _, none, rfl⟩, rfl, fun j y h => absurd h (Nat.not_lt_zero j)⟩ (fun i σ H' _ p => by rw [p.2.1]; exact SqL.of hz) ?_ ?_⟩
    · rintro i y σ H' hi ⟨⟨v, u, t, n, rfl⟩, rfl, hno⟩
      obtain ⟨z, hzi, rfl⟩ := map_str_get hi
      dsimp only [gName, List.set_cons_succ, List.set_cons_zero]
      refine ⟨_, rfl, _, rfl, w, _, rfl, .inl (hS3.seq hw), rfl, flat_of ws, _, rfl, ?_⟩
      show if (!inV (.str z) (ws.map V.str)) = true then _ else _
      rw [inV_strs]
      by_cases q : z ∈ ws
      · rw [decide_eq_true q]
        exact iteF ⟨⟨_, _, _, _, rfl⟩, rfl, goF_more hno hzi (by unfold nwP; rw [if_pos q])⟩
      · rw [decide_eq_false q]
        rw [goF_hit hno hzi (by unfold nwP; rw [if_neg q])] at k
        exact iteT ⟨_, rfl, mk1 fun d' H4 hd' hS4 hx => k d' H4 (hS3.free hd') (hS3.trans hS4) hx⟩
    · rintro σ H' ⟨⟨v, u, t, n, rfl⟩, rfl, hno⟩
      rw [List.length_map] at hno
      rw [goF_none hno] at k
      exact k _ hS3
end
end Wm
namespace Wm
open PySem L2 StX
/-- what is known of a scheme's parts before it is asked for -/
structure SchIn (ss ws : List Str) (ms : List MkD) (rs : List RlD) (ps : List PtD) : Prop where
  s9 : ss.length ≤ 20
  w9 : ws.length ≤ 20
  m9 : ms.length ≤ 100
  r9 : rs.length ≤ 20
  b9 : ps.length ≤ 20
  sl : ∀ z ∈ ss, z.length ≤ 1000
  wl : ∀ z ∈ ws, z.length ≤ 1000
  mo : ∀ x ∈ ms, okS x.mr ∧ okS x.md
  ml : ∀ x ∈ ms, x.dn.length ≤ 100 ∧ x.up.length ≤ 100
  rv : ∀ x ∈ rs, x.p.vars.length ≤ 4 ∧ x.p.cs.length ≤ 3
  bv : ∀ x ∈ ps, x.vars.length ≤ 4 ∧ x.cs.length ≤ 3
theorem goF_all {α β : Type} {p : List α → α → Option β} : ∀ {xs pre : List α}, goF p pre xs = none → ∀ x ∈ xs, ∃ q, p q x = none
  | [], _, _, x, hx => (List.not_mem_nil hx).elim
  | y :: r, pre, h, x, hx => by
    rw [goF] at h
    split at h
    · cases h
    · rename_i e
      rcases List.mem_cons.mp hx with q | q
      · rw [q]
        exact ⟨pre, e⟩
      · exact goF_all h x q
def spCS2 (K : PySem.W.Frag) (C : Nat → Addr) (MB RB BB : Addr) : Sp := fun vs H Q E => ∃ (s w m r b : Addr) (ss ws : List Str) (as bs cs : List Addr) (ms : List MkD) (rs : List RlD) (ps : List PtD), vs = [.ref s, .ref w, .ref m, .ref r, .ref b] ∧ SqL K H s (ss.map V.str) ∧ SqL K H w (ws.map V.str) ∧ SqL K H m (as.map V.ref) ∧ AllAt (MkAt K MB H) as ms ∧ SqL K H r (bs.map V.ref) ∧ AllAt (RlAt K RB H) bs rs ∧ SqL K H b (cs.map V.ref) ∧ AllAt (BrAt K BB H) cs ps ∧ SchIn ss ws ms rs ps ∧ Rfs C (schDue ss ws ms rs ps) H (fun H' => Q .non H') E
/-- what the refusals of a scheme rest on -/
structure TxK (P : Program) (w : World) (K : PySem.W.Frag) (mg : Str → Option Value) (base : Heap) (MB RB BB fRC fRN fRT fRM fNS fRU fNW : Addr) (dRC dRN dRT dRM dNS dRU dNW : FuncData) (C : Nat → Addr) : Prop where
  DC : Dn K mg "refuse_count" sRC ["what", "count", "least", "most"] fRC dRC
  DN : Dn K mg "refuse_no_name" sRN ["texts"] fRN dRN
  DT : Dn K mg "refuse_twice" sRT ["names"] fRT dRT
  DM : Dn K mg "refuse_makings_twice" sRMT ["makings"] fRM dRM
  DS : Dn K mg "refuse_no_sort" sRNS ["sorts", "makings", "patterns"] fNS dNS
  DU : Dn K mg "refuse_upward" sRU ["sorts", "makings"] fRU dRU
  DW : Dn K mg "refuse_no_word" sRNW ["words", "makings", "rules", "bars"] fNW dNW
  GC : FnOk P w K mg base (L2N.CX P w) 4 fRC dRC ["what", "count", "least", "most"] (spRC2 C)
  GN : FnOk P w K mg base (L2N.CX P w) 4 fRN dRN ["texts"] (spRN2 K C)
  GT : FnOk P w K mg base (L2N.CX P w) 4 fRT dRT ["names"] (spRT2 K C)
  GM : FnOk P w K mg base (L2N.CX P w) 4 fRM dRM ["makings"] (spRM2 K C MB)
  GS : FnOk P w K mg base (L2N.CX P w) 4 fNS dNS ["sorts", "makings", "patterns"] (spNS2 K C MB)
  GU : FnOk P w K mg base (L2N.CX P w) 4 fRU dRU ["sorts", "makings"] (spRU2 K C MB)
  GW : FnOk P w K mg base (L2N.CX P w) 4 fNW dNW ["words", "makings", "rules", "bars"] (spNW2 K C MB RB BB)
section
variable {P : Program} {w : World} {K : PySem.W.Frag} {mg : Str → Option Value} {base : Heap} {C : Nat → Addr}
theorem ok_cs2 {f MB RB BB fM fR fB fRC fRN fRT fRM fNS fRU fNW : Addr} {fd dRC dRN dRT dRM dNS dRU dNW : FuncData} (F : Fun K "check_scheme" "check_scheme" sCS f fd) (T : TxB mg) (TS : TxS mg) (TM : TxMak K mg MB fM) (TR : TxRul K mg RB fR) (TB : TxBar K mg BB fB) (X : TxK P w K mg base MB RB BB fRC fRN fRT fRM fNS fRU fNW dRC dRN dRT dRM dNS dRU dNW C) :
    FnOk P w K mg base (L2N.CX P w) 5 f fd ["sorts", "words", "makings", "rules", "bars"] (spCS2 K C MB RB BB) := by
  obtain ⟨DC, DN, DT, DM, DS, DU, DW, GC, GN, GT, GM, GS, GU, GW⟩ := X
  refine okN F scCS (fun vs H Q E h => ?_) (fun cdv A outer s H vs Q E hr h => ?_)
  · obtain ⟨s, w, m, r, b, ss, ws, as, bs, cs, ms, rs, ps, rfl, _⟩ := h
    rfl
  · obtain ⟨s, w, m, r, b, ss, ws, as, bs, cs, ms, rs, ps, rfl, hs, hw, hm, hms, hr', hrs, hb, hps, ok, k⟩ := h
    have hr4 : Room 4 _ := hr
    obtain ⟨t1, g1⟩ := TS.so
    obtain ⟨t2, g2⟩ := TS.wo
    obtain ⟨t3, g3⟩ := TS.ru
    obtain ⟨t4, g4⟩ := TS.ba
    have sl9 := ok.s9
    have wl9 := ok.w9
    have ml9 := ok.m9
    have rl8 := ok.r9
    have bl4 := ok.b9
    have lr := hrs.len
    have lb := hps.len
    refine ⟨_, (pss_cons (ps_expr (pe_call GC hr4 rfl DC.g DC.F.kp DC.b .nil (L2N.passes_call (L2N.takes_of rfl rfl rfl rfl) (fun _ _ _ _ h => h)) (pa_cons pe_str (pa_cons (pe_callB call_len_seq (by rfl) T.len (by decide +kernel) (pa_cons (pv 0) pa_nil)) (pa_cons pe_int (pa_cons (pe_glob (v := .int 4) rfl g1 ⟨t1, rfl⟩) pa_nil))))))
      (pss_cons (ps_expr (pe_call GC hr4 rfl DC.g DC.F.kp DC.b .nil (L2N.passes_call (L2N.takes_of rfl rfl rfl rfl) (fun _ _ _ _ h => h)) (pa_cons pe_str (pa_cons (pe_callB call_len_seq (by rfl) T.len (by decide +kernel) (pa_cons (pv 1) pa_nil)) (pa_cons pe_int (pa_cons (pe_glob (v := .int 5) rfl g2 ⟨t2, rfl⟩) pa_nil))))))
      (pss_cons (ps_expr (pe_call GC hr4 rfl DC.g DC.F.kp DC.b .nil (L2N.passes_call (L2N.takes_of rfl rfl rfl rfl) (fun _ _ _ _ h => h)) (pa_cons pe_str (pa_cons (pe_callB call_len_seq (by rfl) T.len (by decide +kernel) (pa_cons (pv 3) pa_nil)) (pa_cons pe_int (pa_cons (pe_glob (v := .int 8) rfl g3 ⟨t3, rfl⟩) pa_nil))))))
      (pss_cons (ps_expr (pe_call GC hr4 rfl DC.g DC.F.kp DC.b .nil (L2N.passes_call (L2N.takes_of rfl rfl rfl rfl) (fun _ _ _ _ h => h)) (pa_cons pe_str (pa_cons (pe_callB call_len_seq (by rfl) T.len (by decide +kernel) (pa_cons (pv 4) pa_nil)) (pa_cons pe_int (pa_cons (pe_glob (v := .int 4) rfl g4 ⟨t4, rfl⟩) pa_nil))))))
      (pss_cons (ps_expr (pe_call GN hr4 rfl DN.g DN.F.kp DN.b .nil (L2N.passes_call (L2N.takes_of rfl rfl rfl rfl) (fun _ _ _ _ h => h)) (pa_cons (pv 0) pa_nil)))
      (pss_cons (ps_expr (pe_call GN hr4 rfl DN.g DN.F.kp DN.b .nil (L2N.passes_call (L2N.takes_of rfl rfl rfl rfl) (fun _ _ _ _ h => h)) (pa_cons (pv 1) pa_nil)))
      (pss_cons (ps_expr (pe_call GT hr4 rfl DT.g DT.F.kp DT.b .nil (L2N.passes_call (L2N.takes_of rfl rfl rfl rfl) (fun _ _ _ _ h => h)) (pa_cons (pv 0) pa_nil)))
      (pss_cons (ps_expr (pe_call GT hr4 rfl DT.g DT.F.kp DT.b .nil (L2N.passes_call (L2N.takes_of rfl rfl rfl rfl) (fun _ _ _ _ h => h)) (pa_cons (pv 1) pa_nil)))
      (pss_cons (ps_expr (pe_call GM hr4 rfl DM.g DM.F.kp DM.b .nil (L2N.passes_call (L2N.takes_of rfl rfl rfl rfl) (fun _ _ _ _ h => h)) (pa_cons (pv 2) pa_nil)))
      (pss_cons (ps_expr (pe_call GT hr4 rfl DT.g DT.F.kp DT.b .nil (L2N.passes_call (L2N.takes_of rfl rfl rfl rfl) (fun _ _ _ _ h => h)) (pa_cons (pe_lc (own := [("rule", 5)]) (g := gName 5) (te := tFld K (tVar 5) "name") rfl scCS.nd (pi_list (pv 3)) (blkOk_by (N := ["sorts", "words", "makings", "rules", "bars", "rule", "bar"]) (sc := defScope sCS) (by decide +kernel)) (fun _ _ _ _ _ => (pg_name (i := 5) scCS.nd rfl (Or.inl rfl))) (fun _ _ _ _ _ => pts_nil) (fun _ _ _ _ _ => (pe_fld (pv 5) rfl))) pa_nil)))
      (pss_cons (ps_expr (pe_call GT hr4 rfl DT.g DT.F.kp DT.b .nil (L2N.passes_call (L2N.takes_of rfl rfl rfl rfl) (fun _ _ _ _ h => h)) (pa_cons (pe_lc (own := [("bar", 6)]) (g := gName 6) (te := tFld K (tVar 6) "name") rfl scCS.nd (pi_list (pv 4)) (blkOk_by (N := ["sorts", "words", "makings", "rules", "bars", "rule", "bar"]) (sc := defScope sCS) (by decide +kernel)) (fun _ _ _ _ _ => (pg_name (i := 6) scCS.nd rfl (Or.inl rfl))) (fun _ _ _ _ _ => pts_nil) (fun _ _ _ _ _ => (pe_fld (pv 6) rfl))) pa_nil)))
      (pss_cons (ps_expr (pe_call GS hr4 rfl DS.g DS.F.kp DS.b .nil (L2N.passes_call (L2N.takes_of rfl rfl rfl rfl) (fun _ _ _ _ h => h)) (pa_cons (pv 0) (pa_cons (pv 2) (pa_cons (pe_lst (pa_star (pv 3) (pa_star (pv 4) pa_nil))) pa_nil)))))
      (pss_cons (ps_expr (pe_call GU hr4 rfl DU.g DU.F.kp DU.b .nil (L2N.passes_call (L2N.takes_of rfl rfl rfl rfl) (fun _ _ _ _ h => h)) (pa_cons (pv 0) (pa_cons (pv 2) pa_nil))))
      (pss_one (ps_expr (pe_call GW hr4 rfl DW.g DW.F.kp DW.b .nil (L2N.passes_call (L2N.takes_of rfl rfl rfl rfl) (fun _ _ _ _ h => h)) (pa_cons (pv 1) (pa_cons (pv 2) (pa_cons (pv 3) (pa_cons (pv 4) pa_nil)))))))))))))))))))), ?_⟩
    unfold schDue at k
    refine ⟨_, rfl, s, _, rfl, .inl hs, _, _, _, _, rfl, ?_⟩
    rw [List.length_map]
    refine (Rfs.step k).map fun e1 H1 S1 k => ?_
    refine ⟨_, rfl, w, _, rfl, .inl (S1.seq hw), _, _, _, _, rfl, ?_⟩
    rw [List.length_map]
    refine (Rfs.step k).map fun e2 H2 S2 k => ?_
    have S12 := S1.trans S2
    refine ⟨_, rfl, r, _, rfl, .inl (S12.seq hr'), _, _, _, _, rfl, ?_⟩
    rw [List.length_map, lr]
    refine (Rfs.step k).map fun e3 H3 S3 k => ?_
    have S13 := S12.trans S3
    refine ⟨_, rfl, b, _, rfl, .inl (S13.seq hb), _, _, _, _, rfl, ?_⟩
    rw [List.length_map, lb]
    refine (Rfs.step k).map fun e4 H4 S4 k => ?_
    have S14 := S13.trans S4
    refine ⟨_, rfl, s, ss, rfl, S14.seq hs, ok.sl, ?_⟩
    refine (Rfs.step k).map fun e5 H5 S5 k => ?_
    have S15 := S14.trans S5
    refine ⟨_, rfl, w, ws, rfl, S15.seq hw, ok.wl, ?_⟩
    refine (Rfs.step k).map fun e6 H6 S6 k => ?_
    have S16 := S15.trans S6
    refine ⟨_, rfl, s, ss, rfl, S16.seq hs, by omega, ?_⟩
    refine (Rfs.step k).map fun e7 H7 S7 k => ?_
    have S17 := S16.trans S7
    refine ⟨_, rfl, w, ws, rfl, S17.seq hw, by omega, ?_⟩
    refine (Rfs.step k).map fun e8 H8 S8 k => ?_
    have S18 := S17.trans S8
    refine ⟨_, rfl, m, as, ms, rfl, S18.seq hm, hms.imp fun _ _ q => q.same S18, by omega, ok.mo, ?_⟩
    refine (Rfs.step k).map fun e9 H9 S9 k => ?_
    have S19 := S18.trans S9
    -- names of the rules
    refine ⟨_, rfl, r, rfl, ⟨_, S19.seq hr'⟩, fun D hD => ?_⟩
    refine lc_list (K := K) (a := r) (xs := bs.map V.ref) (fun i H' => Same H9 H' ∧ H' D = some (.lst (((rs.take i).map (·.p.nm)).map V.str))) ⟨Same.upd hD, upd_same⟩ (fun i H' _ p => (S19.trans p.1).seq hr') ?_ ?_
    · rintro i x H' hi ⟨hS, hl⟩
      obtain ⟨a, y, rfl, hy, hat⟩ := hrs.get hi
      obtain ⟨d, t1, t2, t3, us, qs, ha, _⟩ := RlAt.same (S19.trans hS) hat
      have il : i < rs.length := (List.getElem?_eq_some_iff.mp hy).1
      refine ⟨rfl, ?_⟩
      refine ⟨_, rfl, a, RB, d, _, _, rfl, ha, TR.cl, TR.nn, rulF_name _ _ _ _ _, _, hl, ?_, ?_, ?_⟩
      · rw [List.length_map, List.length_map, List.length_take]
        exact Nat.lt_of_le_of_lt (show _ ≤ 100 by omega) (by decide)
      · intro b o h
        rw [upd_ne (ne_of_none h hD)]
        exact hS b o h
      · rw [upd_same, List.take_add_one, hy, List.map_append, List.map_append]
        rfl
    rintro HA ⟨SA, hlA⟩
    rw [List.length_map, lr, List.take_length] at hlA
    have S1A := S19.trans SA
    refine ⟨D, _, rfl, SqL.of hlA, by rw [List.length_map]; omega, ?_⟩
    refine (Rfs.step (Rfs.same SA k)).map fun e10 HB SB k => ?_
    have S1B := S1A.trans SB
    -- names of the bars
    refine ⟨_, rfl, b, rfl, ⟨_, S1B.seq hb⟩, fun D2 hD2 => ?_⟩
    refine lc_list (K := K) (a := b) (xs := cs.map V.ref) (fun i H' => Same HB H' ∧ H' D2 = some (.lst (((ps.take i).map (·.nm)).map V.str))) ⟨Same.upd hD2, upd_same⟩ (fun i H' _ p => (S1B.trans p.1).seq hb) ?_ ?_
    · rintro i x H' hi ⟨hS, hl⟩
      obtain ⟨a, y, rfl, hy, hat⟩ := hps.get hi
      obtain ⟨d, t1, t2, us, qs, ha, _⟩ := BrAt.same (S1B.trans hS) hat
      have il : i < ps.length := (List.getElem?_eq_some_iff.mp hy).1
      refine ⟨rfl, ?_⟩
      refine ⟨_, rfl, a, BB, d, _, _, rfl, ha, TB.cl, TB.nn, barF_name _ _ _, _, hl, ?_, ?_, ?_⟩
      · rw [List.length_map, List.length_map, List.length_take]
        exact Nat.lt_of_le_of_lt (show _ ≤ 100 by omega) (by decide)
      · intro b o h
        rw [upd_ne (ne_of_none h hD2)]
        exact hS b o h
      · rw [upd_same, List.take_add_one, hy, List.map_append, List.map_append]
        rfl
    rintro HC ⟨SC, hlC⟩
    rw [List.length_map, lb, List.take_length] at hlC
    have S1C := S1B.trans SC
    refine ⟨D2, _, rfl, SqL.of hlC, by rw [List.length_map]; omega, ?_⟩
    refine (Rfs.step (Rfs.same SC k)).map fun e11 HD SD k => ?_
    have S1D := S1C.trans SD
    -- sorts
    refine ⟨_, rfl, _, rfl, _, rfl, r, _, rfl, .inr (S1D.seq hr'), _, rfl, b, _, rfl, .inr (S1D.seq hb), ?_⟩
    show (bs.map V.ref ++ (cs.map V.ref ++ [])).length ≤ sizeLine ∧ _
    rw [show (bs.map V.ref ++ (cs.map V.ref ++ [])) = (bs ++ cs).map V.ref by rw [List.append_nil, List.map_append]]
    refine ⟨Nat.le_trans (show _ ≤ 1000 by rw [List.length_map, List.length_append]; omega) (by decide), fun q hq => ?_⟩
    have Sq : Same HD (upd HD q (.lst ((bs ++ cs).map V.ref))) := Same.upd hq
    have eq : (upd HD q (.lst ((bs ++ cs).map V.ref))) q = some (.lst ((bs ++ cs).map V.ref)) := upd_same
    generalize upd HD q (.lst ((bs ++ cs).map V.ref)) = Hq at Sq eq
    have S1q := S1D.trans Sq
    have pvs : AllAt (PvAt K Hq) (bs ++ cs) (rs.map (·.p.vars) ++ ps.map (·.vars)) := (AllAt.map (f := fun x : RlD => x.p.vars) (hrs.imp fun _ _ z => (z.same S1q).pv TR)).append (AllAt.map (f := fun x : PtD => x.vars) (hps.imp fun _ _ z => (z.same S1q).pv TB))
    refine ⟨s, m, q, ss, as, bs ++ cs, ms, _, rfl, S1q.seq hs, S1q.seq hm, hms.imp fun _ _ z => z.same S1q, SqL.of eq, pvs, by omega, ?_, ?_, ?_⟩
    · rw [List.length_append, List.length_map, List.length_map]
      omega
    · intro v hv
      rcases List.mem_append.mp hv with z | z
      · obtain ⟨x, hx, rfl⟩ := List.mem_map.mp z
        exact (ok.rv x hx).1
      · obtain ⟨x, hx, rfl⟩ := List.mem_map.mp z
        exact (ok.bv x hx).1
    refine (Rfs.step (Rfs.same Sq k)).map fun e12 HE SE k => ?_
    have S1E := S1q.trans SE
    have inS : ∀ z ∈ askS ms (rs.map (·.p.vars) ++ ps.map (·.vars)), z ∈ ss := fun z hz => by
      obtain ⟨q, e⟩ := goF_all e12 z hz
      unfold nsP at e
      split at e
      · assumption
      · cases e
    have mo : ∀ x ∈ ms, x.mr ∈ ss ∧ x.md ∈ ss := fun x hx => ⟨inS _ (List.mem_append_left _ (List.mem_flatMap.mpr ⟨x, hx, by simp⟩)), inS _ (List.mem_append_left _ (List.mem_flatMap.mpr ⟨x, hx, by simp⟩))⟩
    refine ⟨_, rfl, _, rfl, s, m, ss, as, ms, rfl, S1E.seq hs, S1E.seq hm, hms.imp fun _ _ z => z.same S1E, mo, ?_⟩
    refine (Rfs.step k).map fun e13 HF SF k => ?_
    have S1F := S1E.trans SF
    exact ⟨_, rfl, _, rfl, _, rfl, _, rfl, w, m, r, b, ws, as, bs, cs, ms, rs, ps, rfl, S1F.seq hw, S1F.seq hm, hms.imp fun _ _ z => z.same S1F, S1F.seq hr', hrs.imp fun _ _ z => z.same S1F, S1F.seq hb, hps.imp fun _ _ z => z.same S1F, by omega, by omega, by omega, ok.ml, fun x hx => (ok.rv x hx).2, fun x hx => (ok.bv x hx).2, k⟩
end
end Wm
namespace Wm
open PySem L2 StX
def schF (l1 l2 l3 l4 l5 : Addr) : List (Str × V) := putF "own_bars" (.ref l5) (putF "own_rules" (.ref l4) (putF "own_makings" (.ref l3) (putF "own_words" (.ref l2) (putF "own_sorts" (.ref l1) []))))
theorem lookF {f : Str} {v : V} {fs : List (Str × V)} : (putF f v fs).lookup f = some v := by rw [lookup_putF, if_pos rfl]
theorem lookN {f g : Str} {v : V} {fs : List (Str × V)} (h : ¬ g = f) : (putF f v fs).lookup g = fs.lookup g := by rw [lookup_putF, if_neg h]
theorem schF_so (l1 l2 l3 l4 l5 : Addr) : (schF l1 l2 l3 l4 l5).lookup ("own_sorts" : Str) = some (.ref l1) := by
  unfold schF
  rw [lookN (by decide +kernel), lookN (by decide +kernel), lookN (by decide +kernel), lookN (by decide +kernel), lookF]
theorem schF_wo (l1 l2 l3 l4 l5 : Addr) : (schF l1 l2 l3 l4 l5).lookup ("own_words" : Str) = some (.ref l2) := by
  unfold schF
  rw [lookN (by decide +kernel), lookN (by decide +kernel), lookN (by decide +kernel), lookF]
theorem schF_mk (l1 l2 l3 l4 l5 : Addr) : (schF l1 l2 l3 l4 l5).lookup ("own_makings" : Str) = some (.ref l3) := by
  unfold schF
  rw [lookN (by decide +kernel), lookN (by decide +kernel), lookF]
theorem schF_ru (l1 l2 l3 l4 l5 : Addr) : (schF l1 l2 l3 l4 l5).lookup ("own_rules" : Str) = some (.ref l4) := by
  unfold schF
  rw [lookN (by decide +kernel), lookF]
theorem schF_ba (l1 l2 l3 l4 l5 : Addr) : (schF l1 l2 l3 l4 l5).lookup ("own_bars" : Str) = some (.ref l5) := by
  unfold schF
  rw [lookF]
/-- no other field -/
theorem schF_no {g : Str} (h1 : ¬ g = "own_bars") (h2 : ¬ g = "own_rules") (h3 : ¬ g = "own_makings") (h4 : ¬ g = "own_words") (h5 : ¬ g = "own_sorts") (l1 l2 l3 l4 l5 : Addr) : (schF l1 l2 l3 l4 l5).lookup g = none := by
  unfold schF
  rw [lookN h1, lookN h2, lookN h3, lookN h4, lookN h5]
  rfl
structure TxSch (K : PySem.W.Frag) (mg : Str → Option Value) (S fS : Addr) : Prop where
  cl : Cls K S
  n1 : NoAttr K S "own_sorts"
  n2 : NoAttr K S "own_words"
  n3 : NoAttr K S "own_makings"
  n4 : NoAttr K S "own_rules"
  n5 : NoAttr K S "own_bars"
  g : mg "Scheme" = some (.ref S)
  m : Mk K S fS
/-- a scheme at x, of these sorts, words, makings, rules, bars -/
def SchG (S : Addr) (H : Hp) (x : Addr) (ss ws : List Str) (as bs cs : List Addr) : Prop := ∃ dx l1 l2 l3 l4 l5, H x = some (.ins S dx (schF l1 l2 l3 l4 l5)) ∧ H l1 = some (.lst (ss.map V.str)) ∧ H l2 = some (.lst (ws.map V.str)) ∧ H l3 = some (.lst (as.map V.ref)) ∧ H l4 = some (.lst (bs.map V.ref)) ∧ H l5 = some (.lst (cs.map V.ref))
theorem SchG.same {S : Addr} {H H' : Hp} {x : Addr} {ss ws : List Str} {as bs cs : List Addr} (s : Same H H') (h : SchG S H x ss ws as bs cs) : SchG S H' x ss ws as bs cs := by
  obtain ⟨dx, l1, l2, l3, l4, l5, h0, h1, h2, h3, h4, h5⟩ := h
  exact ⟨dx, l1, l2, l3, l4, l5, s _ _ h0, s _ _ h1, s _ _ h2, s _ _ h3, s _ _ h4, s _ _ h5⟩
/-- its own lists are new -/
def SchF (S : Addr) (H0 H : Hp) (x : Addr) (ss ws : List Str) (as bs cs : List Addr) : Prop := ∃ dx l1 l2 l3 l4 l5, (H0 l1 = none ∧ H0 l2 = none ∧ H0 l3 = none ∧ H0 l4 = none ∧ H0 l5 = none) ∧ H x = some (.ins S dx (schF l1 l2 l3 l4 l5)) ∧ H l1 = some (.lst (ss.map V.str)) ∧ H l2 = some (.lst (ws.map V.str)) ∧ H l3 = some (.lst (as.map V.ref)) ∧ H l4 = some (.lst (bs.map V.ref)) ∧ H l5 = some (.lst (cs.map V.ref))
/-- what is handed in for a list that may be left out -/
def Own (K : PySem.W.Frag) (H : Hp) (v : V) (xs : List V) : Prop := (v = .non ∧ xs = []) ∨ ∃ l, v = .ref l ∧ SqL K H l xs
theorem Own.same {K : PySem.W.Frag} {H H' : Hp} {v : V} {xs : List V} (s : Same H H') (h : Own K H v xs) : Own K H' v xs := by
  rcases h with h | ⟨l, e, h⟩
  · exact .inl h
  · exact .inr ⟨l, e, s.seq h⟩
def spOL2 (K : PySem.W.Frag) : Sp := fun vs H Q _ => ∃ (x : V) (xs : List V), vs = [x] ∧ Own K H x xs ∧ ∀ d, H d = none → Q (.ref d) (upd H d (.lst xs))
/-- the parts of a whole scheme stand -/
structure Parts (K : PySem.W.Frag) (MB RB BB : Addr) (H : Hp) (as bs cs : List Addr) (ms : List MkD) (rs : List RlD) (ps : List PtD) : Prop where
  am : AllAt (MkAt K MB H) as ms
  ar : AllAt (RlAt K RB H) bs rs
  ab : AllAt (BrAt K BB H) cs ps
theorem Parts.same {K : PySem.W.Frag} {MB RB BB : Addr} {H H' : Hp} {as bs cs : List Addr} {ms : List MkD} {rs : List RlD} {ps : List PtD} (s : Same H H') (h : Parts K MB RB BB H as bs cs ms rs ps) : Parts K MB RB BB H' as bs cs ms rs ps :=
  ⟨h.am.imp fun _ _ q => q.same s, h.ar.imp fun _ _ q => q.same s, h.ab.imp fun _ _ q => q.same s⟩
def spSch (K : PySem.W.Frag) (C : Nat → Addr) (S MB RB BB : Addr) : Sp := fun vs H Q E => ∃ (H0 : Hp) (x dx s w : Addr) (vm vr vb : V) (ss ws : List Str) (as bs cs : List Addr) (ms : List MkD) (rs : List RlD) (ps : List PtD), vs = [.ref x, .ref s, .ref w, vm, vr, vb] ∧ Same H0 H ∧ H0 x = none ∧ H x = some (.ins S dx []) ∧ SqL K H0 s (ss.map V.str) ∧ SqL K H0 w (ws.map V.str) ∧
  Own K H0 vm (as.map V.ref) ∧ Own K H0 vr (bs.map V.ref) ∧ Own K H0 vb (cs.map V.ref) ∧ Parts K MB RB BB H0 as bs cs ms rs ps ∧ SchIn ss ws ms rs ps ∧ Rfs C (schDue ss ws ms rs ps) H0 (fun H' => SchF S H0 H' x ss ws as bs cs → Q .non H') E
/-- all but x stands -/
def Keep (x : Addr) (H H' : Hp) : Prop := ∀ a o, a ≠ x → H a = some o → H' a = some o
theorem fstep {H0 H : Hp} {x l S dx : Addr} {fs : List (Str × V)} {f : Str} {xs : List V} (S0 : Same H0 H) (x0 : H0 x = none) (hx : H x = some (.ins S dx fs)) (hl : H l = none) :
    l ≠ x ∧ (upd H l (.lst xs)) x = some (.ins S dx fs) ∧ ∃ H', H' = upd (upd H l (.lst xs)) x (.ins S dx (putF f (.ref l) fs)) ∧ Same H0 H' ∧ H' l = some (.lst xs) ∧ H' x = some (.ins S dx (putF f (.ref l) fs)) ∧ Keep x H H' := by
  have n : l ≠ x := fun z => by
    rw [z, hx] at hl
    cases hl
  refine ⟨n, (upd_ne n.symm).trans hx, _, rfl, ?_, (upd_ne n).trans upd_same, upd_same, ?_⟩
  · intro b o e
    rw [upd_ne (ne_of_none e x0), upd_ne (ne_of_none (S0 b o e) hl)]
    exact S0 b o e
  · intro a o na e
    rw [upd_ne na, upd_ne (ne_of_none e hl)]
    exact e
section
variable {P : Program} {w : World} {K : PySem.W.Frag} {mg : Str → Option Value} {base : Heap} {C : Nat → Addr}
theorem ok_ol2 {f : Addr} {fd : FuncData} (F : Fun K "own_list" "own_list" sOL f fd) (tl : mg "list" = none) : FnOk P w K mg base CX0 1 f fd ["rows"] (spOL2 K) := by
  refine F.ok scOL (fun vs H Q E h => ?_) (fun cdv A outer s H vs Q E hr h => ?_)
  · obtain ⟨x, xs, rfl, _⟩ := h
    rfl
  · obtain ⟨x, xs, rfl, h, k⟩ := h
    refine ⟨_, (pss_cons (ps_if (pt_cmp (pc_isN (pv 0))) (pss_one (ps_ret (pe_lst pa_nil))) pss_nil)
      (pss_one (ps_ret (pe_callTy call_list_of (by rfl) tl (by decide +kernel) (pa_cons (pv 0) pa_nil))))), ?_⟩
    refine ⟨_, rfl, _, rfl, ?_⟩
    rcases h with ⟨rfl, rfl⟩ | ⟨l, rfl, hl⟩
    · exact iteT ⟨Nat.zero_le _, fun d hd => k d hd⟩
    · exact iteF ⟨_, rfl, l, _, rfl, .inl hl, fun d hd => k d hd⟩
theorem scSch : FnScope ["self", "sorts", "words", "makings", "rules", "bars"] ["self", "sorts", "words", "makings", "rules", "bars"] (defScope sSch) := ⟨rfl, rfl, rfl, by decide +kernel, rfl, by decide +kernel, by decide +kernel⟩
theorem ok_sch {f fO fC S MB RB BB : Addr} {fd dO dC : FuncData} {dvs : List V} (F : FunD K "__init__" "Scheme.__init__" (defArgs sSch) (defBody sSch) (defScope sSch) dvs [] f fd) (tl : mg "list" = none) (TC : TxSch K mg S f) (DO : Dn K mg "own_list" sOL ["rows"] fO dO) (DC : Dn K mg "check_scheme" sCS ["sorts", "words", "makings", "rules", "bars"] fC dC)
    (GC : FnOk P w K mg base (L2N.CX P w) 5 fC dC ["sorts", "words", "makings", "rules", "bars"] (spCS2 K C MB RB BB)) : FnOk P w K mg base (L2N.CX P w) 6 f fd ["self", "sorts", "words", "makings", "rules", "bars"] (spSch K C S MB RB BB) := by
  have GO : FnOk P w K mg base CX0 1 fO dO _ (spOL2 K) := ok_ol2 DO.F tl
  refine F.ok scSch (fun vs H Q E h => ?_) (fun cdv A outer s H vs Q E hr h => ?_)
  · obtain ⟨H0, x, dx, s, w, vm, vr, vb, ss, ws, as, bs, cs, ms, rs, ps, rfl, _⟩ := h
    rfl
  · obtain ⟨H0, x, dx, s, w, vm, vr, vb, ss, ws, as, bs, cs, ms, rs, ps, rfl, S0, x0, hx, hs, hw, hm, hr', hb, pt, ok, k⟩ := h
    have hr1 : Room 1 _ := hr.mono (by decide)
    refine ⟨_, (pss_cons (ps_fld (pv 0) (pe_callTy call_list_of (by rfl) tl (by decide +kernel) (pa_cons (pv 1) pa_nil)) rfl)
      (pss_cons (ps_fld (pv 0) (pe_callTy call_list_of (by rfl) tl (by decide +kernel) (pa_cons (pv 2) pa_nil)) rfl)
      (pss_cons (ps_fld (pv 0) (pe_call GO hr1 rfl DO.g DO.F.kp DO.b .nil pass0 (pa_cons (pv 3) pa_nil)) rfl)
      (pss_cons (ps_fld (pv 0) (pe_call GO hr1 rfl DO.g DO.F.kp DO.b .nil pass0 (pa_cons (pv 4) pa_nil)) rfl)
      (pss_cons (ps_fld (pv 0) (pe_call GO hr1 rfl DO.g DO.F.kp DO.b .nil pass0 (pa_cons (pv 5) pa_nil)) rfl)
      (pss_one (ps_expr (pe_call GC hr rfl DC.g DC.F.kp DC.b .nil (L2N.passes_call (L2N.takes_of rfl rfl rfl rfl) (fun _ _ _ _ h => h)) (pa_cons (pe_fld (pv 0) rfl) (pa_cons (pe_fld (pv 0) rfl) (pa_cons (pe_fld (pv 0) rfl) (pa_cons (pe_fld (pv 0) rfl) (pa_cons (pe_fld (pv 0) rfl) pa_nil))))))))))))), ?_⟩
    refine ⟨_, rfl, s, _, rfl, .inl (S0.seq hs), fun l1 h1 => ?_⟩
    obtain ⟨n1, u1, H1, e1, S1, a1, x1, _⟩ := fstep (f := "own_sorts") (xs := ss.map V.str) S0 x0 hx h1
    refine ⟨_, rfl, x, S, dx, _, rfl, u1, TC.cl, TC.n1, by show 0 < 1000; decide, ?_⟩
    rw [← e1]
    have z1 : H0 l1 = none := S0.free h1
    clear e1 u1 h1
    refine ⟨_, rfl, w, _, rfl, .inl (S1.seq hw), fun l2 h2 => ?_⟩
    obtain ⟨n2, u2, H2, e2, S2, a2, x2, k2⟩ := fstep (f := "own_words") (xs := ws.map V.str) S1 x0 x1 h2
    refine ⟨_, rfl, x, S, dx, _, rfl, u2, TC.cl, TC.n2, Nat.lt_of_le_of_lt (putF_len _ _ _) (by decide), ?_⟩
    rw [← e2]
    have z2 : H0 l2 = none := S1.free h2
    clear e2 u2 h2
    have b1 := k2 _ _ n1 a1
    refine ⟨_, rfl, _, _, rfl, hm.same S2, fun l3 h3 => ?_⟩
    obtain ⟨n3, u3, H3, e3, S3, a3, x3, k3⟩ := fstep (f := "own_makings") (xs := as.map V.ref) S2 x0 x2 h3
    refine ⟨_, rfl, x, S, dx, _, rfl, u3, TC.cl, TC.n3, ?_, ?_⟩
    · have q1 := putF_len "own_sorts" (.ref l1) []
      have q2 := putF_len "own_words" (.ref l2) (putF "own_sorts" (.ref l1) [])
      simp only [List.length_nil] at *
      omega
    rw [← e3]
    have z3 : H0 l3 = none := S2.free h3
    clear e3 u3 h3
    have b1 := k3 _ _ n1 b1
    have b2 := k3 _ _ n2 a2
    refine ⟨_, rfl, _, _, rfl, hr'.same S3, fun l4 h4 => ?_⟩
    obtain ⟨n4, u4, H4, e4, S4, a4, x4, k4⟩ := fstep (f := "own_rules") (xs := bs.map V.ref) S3 x0 x3 h4
    refine ⟨_, rfl, x, S, dx, _, rfl, u4, TC.cl, TC.n4, ?_, ?_⟩
    · have q1 := putF_len "own_sorts" (.ref l1) []
      have q2 := putF_len "own_words" (.ref l2) (putF "own_sorts" (.ref l1) [])
      have q3 := putF_len "own_makings" (.ref l3) (putF "own_words" (.ref l2) (putF "own_sorts" (.ref l1) []))
      simp only [List.length_nil] at *
      omega
    rw [← e4]
    have z4 : H0 l4 = none := S3.free h4
    clear e4 u4 h4
    have b1 := k4 _ _ n1 b1
    have b2 := k4 _ _ n2 b2
    have b3 := k4 _ _ n3 a3
    refine ⟨_, rfl, _, _, rfl, hb.same S4, fun l5 h5 => ?_⟩
    obtain ⟨n5, u5, H5, e5, S5, a5, x5, k5⟩ := fstep (f := "own_bars") (xs := cs.map V.ref) S4 x0 x4 h5
    refine ⟨_, rfl, x, S, dx, _, rfl, u5, TC.cl, TC.n5, ?_, ?_⟩
    · have q1 := putF_len "own_sorts" (.ref l1) []
      have q2 := putF_len "own_words" (.ref l2) (putF "own_sorts" (.ref l1) [])
      have q3 := putF_len "own_makings" (.ref l3) (putF "own_words" (.ref l2) (putF "own_sorts" (.ref l1) []))
      have q4 := putF_len "own_rules" (.ref l4) (putF "own_makings" (.ref l3) (putF "own_words" (.ref l2) (putF "own_sorts" (.ref l1) [])))
      simp only [List.length_nil] at *
      omega
    rw [← e5]
    have z5 : H0 l5 = none := S4.free h5
    clear e5 u5 h5
    have b1 := k5 _ _ n1 b1
    have b2 := k5 _ _ n2 b2
    have b3 := k5 _ _ n3 b3
    have b4 := k5 _ _ n4 a4
    have x5 : H5 x = some (.ins S dx (schF l1 l2 l3 l4 l5)) := x5
    have pt5 := pt.same S5
    refine ⟨_, rfl, x, S, dx, _, _, rfl, x5, TC.cl, TC.n1, schF_so _ _ _ _ _, _, rfl, x, S, dx, _, _, rfl, x5, TC.cl, TC.n2, schF_wo _ _ _ _ _, _, rfl, x, S, dx, _, _, rfl, x5, TC.cl, TC.n3, schF_mk _ _ _ _ _, _, rfl, x, S, dx, _, _, rfl, x5, TC.cl, TC.n4, schF_ru _ _ _ _ _, _, rfl, x, S, dx, _, _, rfl, x5, TC.cl, TC.n5, schF_ba _ _ _ _ _, ?_⟩
    exact ⟨l1, l2, l3, l4, l5, ss, ws, as, bs, cs, ms, rs, ps, rfl, SqL.of b1, SqL.of b2, SqL.of b3, pt5.am, SqL.of b4, pt5.ar, SqL.of a5, pt5.ab, ok, (Rfs.same S5 k).map fun _ H6 S6 kk => kk ⟨dx, l1, l2, l3, l4, l5, ⟨z1, z2, z3, z4, z5⟩, S6 _ _ x5, S6 _ _ b1, S6 _ _ b2, S6 _ _ b3, S6 _ _ b4, S6 _ _ a5⟩⟩
/-! ### lists told -/
def spSMk (S : Addr) : Sp := fun vs H Q _ => ∃ (x : Addr) (ss ws : List Str) (as bs cs : List Addr), vs = [.ref x] ∧ SchG S H x ss ws as bs cs ∧ ∀ l, H l = none → Q (.ref l) (upd H l (.lst (as.map V.ref)))
def spSRu (S : Addr) : Sp := fun vs H Q _ => ∃ (x : Addr) (ss ws : List Str) (as bs cs : List Addr), vs = [.ref x] ∧ SchG S H x ss ws as bs cs ∧ ∀ l, H l = none → Q (.ref l) (upd H l (.lst (bs.map V.ref)))
def spSBa (S : Addr) : Sp := fun vs H Q _ => ∃ (x : Addr) (ss ws : List Str) (as bs cs : List Addr), vs = [.ref x] ∧ SchG S H x ss ws as bs cs ∧ ∀ l, H l = none → Q (.ref l) (upd H l (.lst (cs.map V.ref)))
theorem scSMk : FnScope ["self"] ["self"] (defScope sSMk) := ⟨rfl, rfl, rfl, by decide +kernel, rfl, by decide +kernel, by decide +kernel⟩
theorem ok_smk {f S fS : Addr} {fd : FuncData} (F : Fun K "makings" "Scheme.makings" sSMk f fd) (tl : mg "list" = none) (TC : TxSch K mg S fS) : FnOk P w K mg base CX0 1 f fd ["self"] (spSMk S) := by
  refine F.ok scSMk (fun vs H Q E h => ?_) (fun cdv A outer s H vs Q E hr h => ?_)
  · obtain ⟨x, ss, ws, as, bs, cs, rfl, _⟩ := h
    rfl
  · obtain ⟨x, ss, ws, as, bs, cs, rfl, ⟨dx, l1, l2, l3, l4, l5, h0, h1, h2, h3, h4, h5⟩, k⟩ := h
    refine ⟨_, (pss_one (ps_ret (pe_callTy call_list_of (by rfl) tl (by decide +kernel) (pa_cons (pe_fld (pv 0) rfl) pa_nil)))), ?_⟩
    exact ⟨_, rfl, x, S, dx, _, _, rfl, h0, TC.cl, TC.n3, schF_mk _ _ _ _ _, l3, _, rfl, .inl (SqL.of h3), fun l hl => k l hl⟩
theorem scSRu : FnScope ["self"] ["self"] (defScope sSRu) := ⟨rfl, rfl, rfl, by decide +kernel, rfl, by decide +kernel, by decide +kernel⟩
theorem ok_sru {f S fS : Addr} {fd : FuncData} (F : Fun K "rules" "Scheme.rules" sSRu f fd) (tl : mg "list" = none) (TC : TxSch K mg S fS) : FnOk P w K mg base CX0 1 f fd ["self"] (spSRu S) := by
  refine F.ok scSRu (fun vs H Q E h => ?_) (fun cdv A outer s H vs Q E hr h => ?_)
  · obtain ⟨x, ss, ws, as, bs, cs, rfl, _⟩ := h
    rfl
  · obtain ⟨x, ss, ws, as, bs, cs, rfl, ⟨dx, l1, l2, l3, l4, l5, h0, h1, h2, h3, h4, h5⟩, k⟩ := h
    refine ⟨_, (pss_one (ps_ret (pe_callTy call_list_of (by rfl) tl (by decide +kernel) (pa_cons (pe_fld (pv 0) rfl) pa_nil)))), ?_⟩
    exact ⟨_, rfl, x, S, dx, _, _, rfl, h0, TC.cl, TC.n4, schF_ru _ _ _ _ _, l4, _, rfl, .inl (SqL.of h4), fun l hl => k l hl⟩
theorem scSBa : FnScope ["self"] ["self"] (defScope sSBa) := ⟨rfl, rfl, rfl, by decide +kernel, rfl, by decide +kernel, by decide +kernel⟩
theorem ok_sba {f S fS : Addr} {fd : FuncData} (F : Fun K "bars" "Scheme.bars" sSBa f fd) (tl : mg "list" = none) (TC : TxSch K mg S fS) : FnOk P w K mg base CX0 1 f fd ["self"] (spSBa S) := by
  refine F.ok scSBa (fun vs H Q E h => ?_) (fun cdv A outer s H vs Q E hr h => ?_)
  · obtain ⟨x, ss, ws, as, bs, cs, rfl, _⟩ := h
    rfl
  · obtain ⟨x, ss, ws, as, bs, cs, rfl, ⟨dx, l1, l2, l3, l4, l5, h0, h1, h2, h3, h4, h5⟩, k⟩ := h
    refine ⟨_, (pss_one (ps_ret (pe_callTy call_list_of (by rfl) tl (by decide +kernel) (pa_cons (pe_fld (pv 0) rfl) pa_nil)))), ?_⟩
    exact ⟨_, rfl, x, S, dx, _, _, rfl, h0, TC.cl, TC.n5, schF_ba _ _ _ _ _, l5, _, rfl, .inl (SqL.of h5), fun l hl => k l hl⟩
theorem scSor : FnScope ["self"] ["self"] (defScope sSor) := ⟨rfl, rfl, rfl, by decide +kernel, rfl, by decide +kernel, by decide +kernel⟩
def spSor (S : Addr) : Sp := fun vs H Q _ => ∃ (x : Addr) (ss ws : List Str) (as bs cs : List Addr), vs = [.ref x] ∧ SchG S H x ss ws as bs cs ∧ ∀ l, H l = none → Q (.ref l) (upd H l (.lst (ss.map V.str)))
def spWor (S : Addr) : Sp := fun vs H Q _ => ∃ (x : Addr) (ss ws : List Str) (as bs cs : List Addr), vs = [.ref x] ∧ SchG S H x ss ws as bs cs ∧ ∀ l, H l = none → Q (.ref l) (upd H l (.lst (ws.map V.str)))
theorem ok_sor {f S fS : Addr} {fd : FuncData} (F : Fun K "sorts" "Scheme.sorts" sSor f fd) (tl : mg "list" = none) (TC : TxSch K mg S fS) : FnOk P w K mg base CX0 1 f fd ["self"] (spSor S) := by
  refine F.ok scSor (fun vs H Q E h => ?_) (fun cdv A outer s H vs Q E hr h => ?_)
  · obtain ⟨x, ss, ws, as, bs, cs, rfl, _⟩ := h
    rfl
  · obtain ⟨x, ss, ws, as, bs, cs, rfl, hx, k⟩ := h
    obtain ⟨dx, l1, l2, l3, l4, l5, hx, h1, h2, h3, h4, h5⟩ := hx
    refine ⟨_, (pss_one (ps_ret (pe_callTy call_list_of (by rfl) tl (by decide +kernel) (pa_cons (pe_fld (pv 0) rfl) pa_nil)))), ?_⟩
    exact ⟨_, rfl, x, S, dx, _, _, rfl, hx, TC.cl, TC.n1, schF_so _ _ _ _ _, l1, _, rfl, .inl (SqL.of h1), fun l hl => k l hl⟩
theorem scWor : FnScope ["self"] ["self"] (defScope sWor) := ⟨rfl, rfl, rfl, by decide +kernel, rfl, by decide +kernel, by decide +kernel⟩
theorem ok_wor {f S fS : Addr} {fd : FuncData} (F : Fun K "words" "Scheme.words" sWor f fd) (tl : mg "list" = none) (TC : TxSch K mg S fS) : FnOk P w K mg base CX0 1 f fd ["self"] (spWor S) := by
  refine F.ok scWor (fun vs H Q E h => ?_) (fun cdv A outer s H vs Q E hr h => ?_)
  · obtain ⟨x, ss, ws, as, bs, cs, rfl, _⟩ := h
    rfl
  · obtain ⟨x, ss, ws, as, bs, cs, rfl, hx, k⟩ := h
    obtain ⟨dx, l1, l2, l3, l4, l5, hx, h1, h2, h3, h4, h5⟩ := hx
    refine ⟨_, (pss_one (ps_ret (pe_callTy call_list_of (by rfl) tl (by decide +kernel) (pa_cons (pe_fld (pv 0) rfl) pa_nil)))), ?_⟩
    exact ⟨_, rfl, x, S, dx, _, _, rfl, hx, TC.cl, TC.n2, schF_wo _ _ _ _ _, l2, _, rfl, .inl (SqL.of h2), fun l hl => k l hl⟩
end
end Wm
namespace Wm
open PySem L2 StX
def rIsG (K : PySem.W.Frag) (cls : Value) (d : Option Addr) (a : Addr) : List V → Hp → VK → Prop := fun xs H Q => ∃ (D dd : Addr), cls = .ref D ∧ d = some dd ∧ ExcC K D ∧ rIsX K D a dd xs H Q
theorem call_isG {X : Cx} {a : Addr} {cls : Value} {d : Option Addr} {oe : Obj} {pn : List (Addr × Obj)} (hz : Zc cls d oe) (hf : ∃ vs, oe.data = .fields vs) : CallR (X.suite a ((a, oe) :: pn)) (.builtin "isinstance") (rIsG X.K cls d a) := by
  intro pins s σ H xs us Q I r h
  obtain ⟨D, dd, rfl, rfl, C, h⟩ := h
  exact call_isX C hz hf pins s σ H xs us Q I r h
/-- an error class, as the law's told asks for it: which of the seven it is -/
structure ErK (K : PySem.W.Frag) (C : Nat → Addr) (W Z : Addr) (i : Nat) : Prop where
  te : PySem.W.exmOne K (.ref Z) (.ref W) = some true
  xc : ExcC K Z
  k0 : PySem.W.kitOne K (.ref Z) (.ref (C 0)) = some (decide (i = 0))
  k1 : PySem.W.kitOne K (.ref Z) (.ref (C 1)) = some (decide (i = 1))
  k2 : PySem.W.kitOne K (.ref Z) (.ref (C 2)) = some (decide (i = 2))
  k3 : PySem.W.kitOne K (.ref Z) (.ref (C 3)) = some (decide (i = 3))
  k4 : PySem.W.kitOne K (.ref Z) (.ref (C 4)) = some (decide (i = 4))
  k5 : PySem.W.kitOne K (.ref Z) (.ref (C 5)) = some (decide (i = 5))
  k6 : PySem.W.kitOne K (.ref Z) (.ref (C 6)) = some (decide (i = 6))
  kv : PySem.W.kitOne K (.ref Z) (.type "ValueError") = some true
structure TxE (K : PySem.W.Frag) (mg : Str → Option Value) (C : Nat → Addr) (W : Addr) : Prop where
  g0 : mg "BadCount" = some (.ref (C 0))
  g1 : mg "NoName" = some (.ref (C 1))
  g2 : mg "Twice" = some (.ref (C 2))
  g3 : mg "NoSort" = some (.ref (C 3))
  g4 : mg "Upward" = some (.ref (C 4))
  g5 : mg "NoWord" = some (.ref (C 5))
  g6 : mg "NoVariable" = some (.ref (C 6))
  gW : mg "WhoError" = some (.ref W)
  er : ∀ i, i < 6 → ErK K C W (C i) i
  xf : ∀ i, i < 6 → XfC K (C i)
  n0_what : PySem.W.findIn K (.ref (C 0)) "what" = some none
  n0_count : PySem.W.findIn K (.ref (C 0)) "count" = some none
  n1_name : PySem.W.findIn K (.ref (C 1)) "name" = some none
  n2_name : PySem.W.findIn K (.ref (C 2)) "name" = some none
  n3_name : PySem.W.findIn K (.ref (C 3)) "name" = some none
  n4_maker : PySem.W.findIn K (.ref (C 4)) "maker" = some none
  n4_made : PySem.W.findIn K (.ref (C 4)) "made" = some none
  n5_name : PySem.W.findIn K (.ref (C 5)) "name" = some none
def tupOf : Rf → List V
  | .cnt w n => [.str "badcount", .str w, .int n]
  | .nm z => [.str "noname", .str z]
  | .tw z => [.str "twice", .str z]
  | .ns z => [.str "nosort", .str z]
  | .up a b => [.str "upward", .str a, .str b]
  | .nw z => [.str "noword", .str z]
theorem ix_lt (r : Rf) : ixOf r < 6 := by
  cases r <;> simp only [ixOf] <;> decide
def spTld (C : Nat → Addr) : Addr → Value → Option Addr → Sp := fun a cls d vs H Q _ => vs = [.ref a] ∧ ∃ (dd : Addr) (r : Rf), d = some dd ∧ cls = .ref (C (ixOf r)) ∧ H dd = some (.xd (fsOf r)) ∧ ∀ t H', Same H H' → H t = none → H' t = some (.tup (tupOf r)) → Q (.ref t) H'
def b2i (b : Bool) : Int := if b then 1 else 0
section
variable {P : Program} {w : World} {K : PySem.W.Frag} {mg : Str → Option Value} {base : Heap} {C : Nat → Addr}
theorem scLName : FnScope ["_law_text", "_law_sign"] ["_law_text"] (defScope sLName) := ⟨rfl, rfl, rfl, by decide +kernel, rfl, by decide +kernel, by decide +kernel⟩
theorem ok_lname {f : Addr} {fd : FuncData} (F : Fun K "_law_is_name" "_law_is_name" sLName f fd) (T : TxB mg) : FnOk P w K mg base CX0 1 f fd ["_law_text"] spName := by
  refine F.ok scLName (fun vs H Q E h => ?_) (fun cdv A outer s H vs Q E hr h => ?_)
  · obtain ⟨z, rfl, _⟩ := h
    rfl
  · obtain ⟨z, rfl, hz, k⟩ := h
    have hzl : z.length ≤ sizeLine := Nat.le_trans hz (by decide)
    refine ⟨_, (pss_cons (ps_if (PW.pt (pw_or (pt_cmpR op_eq (pv 0) pe_str (nomark _)) (pw_or (pt_cmpR op_gt (pe_callB call_len_str (by rfl) T.len (by decide +kernel) (pa_cons (pv 0) pa_nil)) pe_int (nomark _)) (pw_or1 (pt_cmpR op_in_sign (pe_ix ix_str (pv 0) pe_int (fun _ _ => rfl)) pe_str (by rfl)))))) (pss_one (ps_ret pe_bl)) pss_nil)
      (pss_one (ps_ret (pe_callB (cr_all rfl) (by rfl) T.all (by decide +kernel) (pa_cons (pe_lc (own := [("_law_sign", 1)]) (g := gName 1) rfl scLName.nd (pi_str (pv 0)) (blkOk_by (N := ["_law_text", "_law_sign"]) (sc := defScope sLName) (by decide +kernel)) (fun _ _ _ _ _ => (pg_name (i := 1) scLName.nd rfl (Or.inl rfl))) (fun _ _ _ _ _ => pts_nil) (fun _ _ _ _ _ => (pe_cmpR op_in_sign (pv 1) pe_str (by rfl)))) pa_nil))))), ?_⟩
    refine ⟨_, rfl, rfl, _, rfl, ?_⟩
    have q0 := k H (Same.refl H)
    refine ite2 (fun h1 => ?_) (fun h1 => ?_)
    · have h1' : V.str z = V.str (PySem.Str.ofString "") := of_decide_eq_true h1
      have e1 : z = PySem.Str.ofString "" := V.str.inj h1'
      refine iteT ?_
      have e : isNm z = false := by rw [e1]; decide +kernel
      rw [e] at q0
      exact q0
    have h1' : ¬ z.length < 1 := fun x => h1 (decide_eq_true (by
      have e : z.cps = #[] := Array.eq_empty_of_size_eq_zero (by show z.length = 0; omega)
      have e2 : z = PySem.Str.ofString "" := by
        cases z
        cases e
        decide +kernel
      rw [e2]))
    refine ⟨_, rfl, z, rfl, hzl, _, _, rfl, rfl, _, rfl, ?_⟩
    refine ite2 (fun h2 => ?_) (fun h2 => ?_)
    · have h2' : (12 : Int) < z.length := of_decide_eq_true h2
      refine iteT ?_
      rw [isNm_small (.inr (by omega))] at q0
      exact q0
    have h2' : ¬ 12 < z.length := fun x => h2 (decide_eq_true (by omega))
    refine ⟨_, rfl, ?_⟩
    dsimp only [tC]
    refine rdItem (n := z.length) rfl (by decide) (by omega) (by omega) fun c hc => ?_
    refine ⟨c, _, rfl, rfl, _, rfl, ?_⟩
    refine ite2 (fun h3 => ?_) (fun h3 => ?_)
    · have h3' : c ∈ FIG := of_decide_eq_true h3
      rw [isNm_fig hc h3'] at q0
      exact q0
    have h3' : ¬ c ∈ FIG := fun x => h3 (decide_eq_true x)
    refine ⟨_, rfl, z, rfl, fun D hD => ?_⟩
    refine lc_signs (z := z) (f := okc) hz hD (fun c H Q q => ?_) fun H' hS hl => ?_
    · refine q _ rfl fun Q2 q2 => ?_
      rw [← okc_alnum] at q2
      exact ⟨_, rfl, c, _, rfl, rfl, q2⟩
    · refine ⟨D, _, rfl, SqL.of hl, ?_⟩
      have q := k H' hS
      rw [isNm_all2 h1' h2' hc h3', ← all_map] at q
      exact q
theorem scTld : FnScope ["_law_e", "_law_some", "_law_one"] ["_law_e"] (defScope sTld) := ⟨rfl, rfl, rfl, by decide +kernel, rfl, by decide +kernel, by decide +kernel⟩
theorem ok_tld {f W : Addr} {fd : FuncData} (F : Fun K "_law_told" "_law_told" sTld f fd) (T : TxB mg) (tsum : mg "sum" = none) (TE : TxE K mg C W) : FnEN P w K mg base 1 f fd ["_law_e"] (spTld C) := by
  refine FunEN_ok F scTld (fun a cls d vs H Q E h => ?_) (fun cdv A outer s H vs Q E a oe cls d hz hf hr h => ?_)
  · obtain ⟨rfl, _⟩ := h
    rfl
  · obtain ⟨rfl, dd, r, rfl, rfl, hx, k⟩ := h
    obtain ⟨vf, hv⟩ := id hf
    have hn : vf[2]? = some .none := hz.2.2 vf hv
    refine ⟨_, (pss_cons (ps_set (i := 1) scTld.nd rfl (Or.inl rfl) (pe_lst (pa_cons (pe_callB (call_isG hz.zc hf) (by rfl) T.isinstance (by decide +kernel) (pa_cons (pv 0) (pa_cons (pe_glob (v := .ref (C 0)) (by rfl) TE.g0 rfl) pa_nil))) (pa_cons (pe_callB (call_isG hz.zc hf) (by rfl) T.isinstance (by decide +kernel) (pa_cons (pv 0) (pa_cons (pe_glob (v := .ref (C 1)) (by rfl) TE.g1 rfl) pa_nil))) (pa_cons (pe_callB (call_isG hz.zc hf) (by rfl) T.isinstance (by decide +kernel) (pa_cons (pv 0) (pa_cons (pe_glob (v := .ref (C 2)) (by rfl) TE.g2 rfl) pa_nil))) (pa_cons (pe_callB (call_isG hz.zc hf) (by rfl) T.isinstance (by decide +kernel) (pa_cons (pv 0) (pa_cons (pe_glob (v := .ref (C 3)) (by rfl) TE.g3 rfl) pa_nil))) pa_nil))))))
      (pss_cons (ps_set (i := 1) scTld.nd rfl (Or.inl rfl) (pe_op op_cat (pv 1) (pe_lst (pa_cons (pe_callB (call_isG hz.zc hf) (by rfl) T.isinstance (by decide +kernel) (pa_cons (pv 0) (pa_cons (pe_glob (v := .ref (C 4)) (by rfl) TE.g4 rfl) pa_nil))) (pa_cons (pe_callB (call_isG hz.zc hf) (by rfl) T.isinstance (by decide +kernel) (pa_cons (pv 0) (pa_cons (pe_glob (v := .ref (C 5)) (by rfl) TE.g5 rfl) pa_nil))) (pa_cons (pe_callB (call_isG hz.zc hf) (by rfl) T.isinstance (by decide +kernel) (pa_cons (pv 0) (pa_cons (pe_glob (v := .ref (C 6)) (by rfl) TE.g6 rfl) pa_nil))) pa_nil))))))
      (pss_cons (ps_if (PW.pt (pw_or (pt_cmpR op_ne (pe_callB (cr_sumH hv hn) (by rfl) tsum (by decide +kernel) (pa_cons (pe_lcH (own := [("_law_one", 2)]) (g := gName 2) rfl List.mem_cons_self hv hn scTld.nd (pv 1) (blkOk_by (N := ["_law_e", "_law_some", "_law_one"]) (sc := defScope sTld) (by decide +kernel)) (fun _ _ _ _ _ => (pg_name (i := 2) scTld.nd rfl (Or.inl rfl))) (fun _ _ _ _ _ => (pe_callTy call_int1 (by rfl) T.int (by decide +kernel) (pa_cons (pv 2) pa_nil)))) pa_nil)) pe_int (nomark _)) (pw_or1 (pt_not (pt_val (pe_callB (call_isG hz.zc hf) (by rfl) T.isinstance (by decide +kernel) (pa_cons (pv 0) (pa_cons (pe_bltn (v := .ty "ValueError") (by rfl) T.ve (by decide +kernel) rfl) pa_nil)))))))) (pss_one (ps_ret (pe_tup (pa_cons pe_str pa_nil)))) pss_nil)
      (pss_cons (ps_if (pt_val (pe_ix ix_list (pv 1) pe_int (fun _ _ => rfl))) (pss_one (ps_ret (pe_tup (pa_cons pe_str (pa_cons (pe_xf (TE.xf 0 (by decide)) TE.n0_what hz.zc hf (pv 0)) (pa_cons (pe_xf (TE.xf 0 (by decide)) TE.n0_count hz.zc hf (pv 0)) pa_nil)))))) pss_nil)
      (pss_cons (ps_if (pt_val (pe_ix ix_list (pv 1) pe_int (fun _ _ => rfl))) (pss_one (ps_ret (pe_tup (pa_cons pe_str (pa_cons (pe_xf (TE.xf 1 (by decide)) TE.n1_name hz.zc hf (pv 0)) pa_nil))))) pss_nil)
      (pss_cons (ps_if (pt_val (pe_ix ix_list (pv 1) pe_int (fun _ _ => rfl))) (pss_one (ps_ret (pe_tup (pa_cons pe_str (pa_cons (pe_xf (TE.xf 2 (by decide)) TE.n2_name hz.zc hf (pv 0)) pa_nil))))) pss_nil)
      (pss_cons (ps_if (pt_val (pe_ix ix_list (pv 1) pe_int (fun _ _ => rfl))) (pss_one (ps_ret (pe_tup (pa_cons pe_str (pa_cons (pe_xf (TE.xf 3 (by decide)) TE.n3_name hz.zc hf (pv 0)) pa_nil))))) pss_nil)
      (pss_cons (ps_if (pt_val (pe_ix ix_list (pv 1) pe_int (fun _ _ => rfl))) (pss_one (ps_ret (pe_tup (pa_cons pe_str (pa_cons (pe_xf (TE.xf 4 (by decide)) TE.n4_maker hz.zc hf (pv 0)) (pa_cons (pe_xf (TE.xf 4 (by decide)) TE.n4_made hz.zc hf (pv 0)) pa_nil)))))) pss_nil)
      (pss_one (ps_ret (pe_tup (pa_cons pe_str (pa_cons (pe_xf (TE.xf 5 (by decide)) TE.n5_name hz.zc hf (pv 0)) pa_nil))))))))))))), ?_⟩
    rw [show L2.start ["_law_e", "_law_some", "_law_one"] [V.ref a] = [some (.ref a), none, none] from rfl]
    have EZ := TE.er (ixOf r) (ix_lt r)
    have one : ∀ {i : Nat}, i < 6 → (([decide (i = 0), decide (i = 1), decide (i = 2), decide (i = 3), decide (i = 4), decide (i = 5), decide (i = 6)] : List Bool).map b2i).sum = 1 := by
      intro i hi
      rcases (by omega : i = 0 ∨ i = 1 ∨ i = 2 ∨ i = 3 ∨ i = 4 ∨ i = 5) with rfl | rfl | rfl | rfl | rfl | rfl <;> decide
    have one := one (ix_lt r)
    generalize hZ : C (ixOf r) = Z at EZ
    generalize hi : ixOf r = i at EZ one hZ
    refine ⟨_, rfl, Z, dd, rfl, rfl, EZ.xc, _, _, _, _, rfl, hx, (fun u r => r), EZ.k0, ?_⟩
    refine ⟨_, rfl, Z, dd, rfl, rfl, EZ.xc, _, _, _, _, rfl, hx, (fun u r => r), EZ.k1, ?_⟩
    refine ⟨_, rfl, Z, dd, rfl, rfl, EZ.xc, _, _, _, _, rfl, hx, (fun u r => r), EZ.k2, ?_⟩
    refine ⟨_, rfl, Z, dd, rfl, rfl, EZ.xc, _, _, _, _, rfl, hx, (fun u r => r), EZ.k3, ?_⟩
    refine ⟨by show 4 ≤ sizeLine; decide, fun l0 hl0 => ?_⟩
    dsimp only [gName, List.set_cons_succ, List.set_cons_zero]
    have S0 : Same H (upd H l0 (.lst [.bl (decide (i = 0)), .bl (decide (i = 1)), .bl (decide (i = 2)), .bl (decide (i = 3))])) := Same.upd hl0
    have e0 : (upd H l0 (.lst [.bl (decide (i = 0)), .bl (decide (i = 1)), .bl (decide (i = 2)), .bl (decide (i = 3))])) l0 = some (.lst [.bl (decide (i = 0)), .bl (decide (i = 1)), .bl (decide (i = 2)), .bl (decide (i = 3))]) := upd_same
    generalize upd H l0 (.lst [.bl (decide (i = 0)), .bl (decide (i = 1)), .bl (decide (i = 2)), .bl (decide (i = 3))]) = G0 at S0 e0
    have hx0 := S0 _ _ hx
    refine ⟨_, rfl, ?_⟩
    refine ⟨_, rfl, Z, dd, rfl, rfl, EZ.xc, _, _, _, _, rfl, hx0, (fun u r => r), EZ.k4, ?_⟩
    refine ⟨_, rfl, Z, dd, rfl, rfl, EZ.xc, _, _, _, _, rfl, hx0, (fun u r => r), EZ.k5, ?_⟩
    refine ⟨_, rfl, Z, dd, rfl, rfl, EZ.xc, _, _, _, _, rfl, hx0, (fun u r => r), EZ.k6, ?_⟩
    refine ⟨by show 3 ≤ sizeLine; decide, fun l1 hl1 => ?_⟩
    have S1 : Same G0 (upd G0 l1 (.lst [.bl (decide (i = 4)), .bl (decide (i = 5)), .bl (decide (i = 6))])) := Same.upd hl1
    have e1 : (upd G0 l1 (.lst [.bl (decide (i = 4)), .bl (decide (i = 5)), .bl (decide (i = 6))])) l1 = some (.lst [.bl (decide (i = 4)), .bl (decide (i = 5)), .bl (decide (i = 6))]) := upd_same
    have e01 := S1 _ _ e0
    have S01 := S0.trans S1
    generalize upd G0 l1 (.lst [.bl (decide (i = 4)), .bl (decide (i = 5)), .bl (decide (i = 6))]) = G1 at S1 e1 e01 S01
    refine ⟨l0, l1, _, _, rfl, rfl, e01, e1, by show 7 ≤ sizeLine; decide, fun l hl => ?_⟩
    dsimp only [gName, List.set_cons_succ, List.set_cons_zero]
    have S4 : Same G1 (upd G1 l (.lst ([.bl (decide (i = 0)), .bl (decide (i = 1)), .bl (decide (i = 2)), .bl (decide (i = 3))] ++ [.bl (decide (i = 4)), .bl (decide (i = 5)), .bl (decide (i = 6))]))) := Same.upd hl
    have el : (upd G1 l (.lst ([.bl (decide (i = 0)), .bl (decide (i = 1)), .bl (decide (i = 2)), .bl (decide (i = 3))] ++ [.bl (decide (i = 4)), .bl (decide (i = 5)), .bl (decide (i = 6))]))) l = some (.lst [.bl (decide (i = 0)), .bl (decide (i = 1)), .bl (decide (i = 2)), .bl (decide (i = 3)), .bl (decide (i = 4)), .bl (decide (i = 5)), .bl (decide (i = 6))]) := upd_same
    have S1 := S01.trans S4
    generalize upd G1 l (.lst ([.bl (decide (i = 0)), .bl (decide (i = 1)), .bl (decide (i = 2)), .bl (decide (i = 3))] ++ [.bl (decide (i = 4)), .bl (decide (i = 5)), .bl (decide (i = 6))])) = H1 at S4 el S1
    refine ⟨_, rfl, l, _, rfl, SqL.of el, fun Dl hD => ⟨fun j H' => H' Dl = some (.lst ((([decide (i = 0), decide (i = 1), decide (i = 2), decide (i = 3), decide (i = 4), decide (i = 5), decide (i = 6)].take j).map b2i).map V.int)) ∧ Same H1 H', ⟨upd_same, Same.upd hD⟩, fun j H' p => SqL.of (p.2 _ _ el), ?_, ?_⟩⟩
    · rintro j x H' hxj ⟨hj, sj⟩
      obtain ⟨b, hb, rfl⟩ : ∃ b, ([decide (i = 0), decide (i = 1), decide (i = 2), decide (i = 3), decide (i = 4), decide (i = 5), decide (i = 6)] : List Bool)[j]? = some b ∧ V.bl b = x := by
        have hxj : (([decide (i = 0), decide (i = 1), decide (i = 2), decide (i = 3), decide (i = 4), decide (i = 5), decide (i = 6)] : List Bool).map V.bl)[j]? = some x := hxj
        rw [List.getElem?_map] at hxj
        exact Option.map_eq_some_iff.mp hxj
      refine ⟨rfl, ⟨_, rfl, .inr ⟨b, rfl, _, hj, ?_, ?_, ?_⟩⟩⟩
      · rw [List.length_map, List.length_map, List.length_take]
        exact Nat.lt_of_le_of_lt (show min j 7 ≤ 7 from Nat.min_le_right _ _) (by decide)
      · rw [upd_same, List.take_add_one, hb, List.map_append, List.map_append]
        rfl
      · intro q o z
        rw [upd_ne (ne_of_none z hD)]
        exact sj q o z
    rintro H2 ⟨hj, s2⟩
    have hj : H2 Dl = some (.lst ((([decide (i = 0), decide (i = 1), decide (i = 2), decide (i = 3), decide (i = 4), decide (i = 5), decide (i = 6)] : List Bool).map b2i).map V.int)) := hj
    refine ⟨Dl, _, rfl, SqL.of hj, rfl, _, rfl, ?_⟩
    rw [one]
    refine ite2 (fun q => absurd q (by simp)) (fun _ => ?_)
    have S2 := S1.trans s2
    have hx2 := S2 _ _ hx
    refine ⟨_, rfl, Z, dd, rfl, rfl, EZ.xc, _, _, _, _, rfl, hx2, (fun u r => by cases r; rfl), EZ.kv, _, rfl, ?_⟩
    refine iteF ?_
    have el2 := s2 _ _ el
    subst hZ
    subst hi
    match r, hx2, k, el2 with
    | .cnt w n, hx2, k, el2 =>
      have el3 : H2 l = some (.lst [.bl true, .bl false, .bl false, .bl false, .bl false, .bl false, .bl false]) := el2
      refine ⟨_, rfl, ?_⟩
      dsimp only [tC]
      refine rdList el3 (j := 0) rfl rfl ⟨_, rfl, ?_⟩
      refine iteT ?_
      refine ⟨_, rfl, rfl, rfl, dd, _, _, rfl, hx2, rfl, _, rfl, rfl, rfl, dd, _, _, rfl, hx2, rfl, ?_⟩
      exact ⟨by show 3 ≤ sizeLine; decide, fun t nt => k t _ (S2.trans (Same.upd nt)) (S2.free nt) upd_same⟩
    | .nm z, hx2, k, el2 =>
      have el3 : H2 l = some (.lst [.bl false, .bl true, .bl false, .bl false, .bl false, .bl false, .bl false]) := el2
      refine ⟨_, rfl, ?_⟩
      dsimp only [tC]
      refine rdList el3 (j := 0) rfl rfl ⟨_, rfl, ?_⟩
      refine iteF ?_
      refine ⟨_, rfl, ?_⟩
      dsimp only [tC]
      refine rdList el3 (j := 1) rfl rfl ⟨_, rfl, ?_⟩
      refine iteT ?_
      refine ⟨_, rfl, rfl, rfl, dd, _, _, rfl, hx2, rfl, ?_⟩
      exact ⟨by show 2 ≤ sizeLine; decide, fun t nt => k t _ (S2.trans (Same.upd nt)) (S2.free nt) upd_same⟩
    | .tw z, hx2, k, el2 =>
      have el3 : H2 l = some (.lst [.bl false, .bl false, .bl true, .bl false, .bl false, .bl false, .bl false]) := el2
      refine ⟨_, rfl, ?_⟩
      dsimp only [tC]
      refine rdList el3 (j := 0) rfl rfl ⟨_, rfl, ?_⟩
      refine iteF ?_
      refine ⟨_, rfl, ?_⟩
      dsimp only [tC]
      refine rdList el3 (j := 1) rfl rfl ⟨_, rfl, ?_⟩
      refine iteF ?_
      refine ⟨_, rfl, ?_⟩
      dsimp only [tC]
      refine rdList el3 (j := 2) rfl rfl ⟨_, rfl, ?_⟩
      refine iteT ?_
      refine ⟨_, rfl, rfl, rfl, dd, _, _, rfl, hx2, rfl, ?_⟩
      exact ⟨by show 2 ≤ sizeLine; decide, fun t nt => k t _ (S2.trans (Same.upd nt)) (S2.free nt) upd_same⟩
    | .ns z, hx2, k, el2 =>
      have el3 : H2 l = some (.lst [.bl false, .bl false, .bl false, .bl true, .bl false, .bl false, .bl false]) := el2
      refine ⟨_, rfl, ?_⟩
      dsimp only [tC]
      refine rdList el3 (j := 0) rfl rfl ⟨_, rfl, ?_⟩
      refine iteF ?_
      refine ⟨_, rfl, ?_⟩
      dsimp only [tC]
      refine rdList el3 (j := 1) rfl rfl ⟨_, rfl, ?_⟩
      refine iteF ?_
      refine ⟨_, rfl, ?_⟩
      dsimp only [tC]
      refine rdList el3 (j := 2) rfl rfl ⟨_, rfl, ?_⟩
      refine iteF ?_
      refine ⟨_, rfl, ?_⟩
      dsimp only [tC]
      refine rdList el3 (j := 3) rfl rfl ⟨_, rfl, ?_⟩
      refine iteT ?_
      refine ⟨_, rfl, rfl, rfl, dd, _, _, rfl, hx2, rfl, ?_⟩
      exact ⟨by show 2 ≤ sizeLine; decide, fun t nt => k t _ (S2.trans (Same.upd nt)) (S2.free nt) upd_same⟩
    | .up a b, hx2, k, el2 =>
      have el3 : H2 l = some (.lst [.bl false, .bl false, .bl false, .bl false, .bl true, .bl false, .bl false]) := el2
      refine ⟨_, rfl, ?_⟩
      dsimp only [tC]
      refine rdList el3 (j := 0) rfl rfl ⟨_, rfl, ?_⟩
      refine iteF ?_
      refine ⟨_, rfl, ?_⟩
      dsimp only [tC]
      refine rdList el3 (j := 1) rfl rfl ⟨_, rfl, ?_⟩
      refine iteF ?_
      refine ⟨_, rfl, ?_⟩
      dsimp only [tC]
      refine rdList el3 (j := 2) rfl rfl ⟨_, rfl, ?_⟩
      refine iteF ?_
      refine ⟨_, rfl, ?_⟩
      dsimp only [tC]
      refine rdList el3 (j := 3) rfl rfl ⟨_, rfl, ?_⟩
      refine iteF ?_
      refine ⟨_, rfl, ?_⟩
      dsimp only [tC]
      refine rdList el3 (j := 4) rfl rfl ⟨_, rfl, ?_⟩
      refine iteT ?_
      refine ⟨_, rfl, rfl, rfl, dd, _, _, rfl, hx2, rfl, _, rfl, rfl, rfl, dd, _, _, rfl, hx2, rfl, ?_⟩
      exact ⟨by show 3 ≤ sizeLine; decide, fun t nt => k t _ (S2.trans (Same.upd nt)) (S2.free nt) upd_same⟩
    | .nw z, hx2, k, el2 =>
      have el3 : H2 l = some (.lst [.bl false, .bl false, .bl false, .bl false, .bl false, .bl true, .bl false]) := el2
      refine ⟨_, rfl, ?_⟩
      dsimp only [tC]
      refine rdList el3 (j := 0) rfl rfl ⟨_, rfl, ?_⟩
      refine iteF ?_
      refine ⟨_, rfl, ?_⟩
      dsimp only [tC]
      refine rdList el3 (j := 1) rfl rfl ⟨_, rfl, ?_⟩
      refine iteF ?_
      refine ⟨_, rfl, ?_⟩
      dsimp only [tC]
      refine rdList el3 (j := 2) rfl rfl ⟨_, rfl, ?_⟩
      refine iteF ?_
      refine ⟨_, rfl, ?_⟩
      dsimp only [tC]
      refine rdList el3 (j := 3) rfl rfl ⟨_, rfl, ?_⟩
      refine iteF ?_
      refine ⟨_, rfl, ?_⟩
      dsimp only [tC]
      refine rdList el3 (j := 4) rfl rfl ⟨_, rfl, ?_⟩
      refine iteF ?_
      refine ⟨_, rfl, rfl, rfl, dd, _, _, rfl, hx2, rfl, ?_⟩
      exact ⟨by show 2 ≤ sizeLine; decide, fun t nt => k t _ (S2.trans (Same.upd nt)) (S2.free nt) upd_same⟩
end
end Wm
namespace Wm
open PySem L2 StX
def NotSt (o : HO) : Prop := ∀ x y z : Int, o ≠ .lst [.int x, .int y, .int z]
def Kp (H H' : Hp) : Prop := ∀ a o, NotSt o → H a = some o → H' a = some o
theorem Kp.refl (H : Hp) : Kp H H := fun _ _ _ h => h
theorem Kp.trans {H H1 H2 : Hp} (a : Kp H H1) (b : Kp H1 H2) : Kp H H2 := fun c o n h => b c o n (a c o n h)
theorem Same.kp {H H' : Hp} (s : Same H H') : Kp H H' := fun a o _ h => s a o h
theorem But.kp {p : Addr} {H H' : Hp} (b : But p H H') (s : StOk H p) : Kp H H' := fun a o n h => by
  obtain ⟨x, y, z, e, _⟩ := s
  refine b a o (fun q => ?_) h
  rw [q, e] at h
  exact n x y z (Option.some.inj h).symm
theorem Kp.new {D : Addr} {H H' : Hp} {o : HO} (k : Kp H H') (h : H D = none) : Kp H (upd H' D o) := fun a u n e => by
  rw [upd_ne (ne_of_none e h)]
  exact k a u n e
theorem ns_tup {xs : List V} : NotSt (.tup xs) := fun _ _ _ z => by cases z
theorem ns_dK {xs : List (L2.Key × V)} : NotSt (.dK xs) := fun _ _ _ z => by cases z
theorem ns_ins {C d : Addr} {fs : List (Str × V)} : NotSt (.ins C d fs) := fun _ _ _ z => by cases z
theorem ns_strs {xs : List Str} : NotSt (.lst (xs.map V.str)) := fun _ _ _ z => by
  cases xs with
  | nil => cases z
  | cons a r =>
    have e := HO.lst.inj z
    rw [List.map_cons] at e
    cases (List.cons.inj e).1
theorem ns_refs {xs : List Addr} : NotSt (.lst (xs.map V.ref)) := fun _ _ _ z => by
  cases xs with
  | nil => cases z
  | cons a r =>
    have e := HO.lst.inj z
    rw [List.map_cons] at e
    cases (List.cons.inj e).1
theorem ns_nil : NotSt (.lst []) := fun _ _ _ z => by cases z
theorem ns_frz {ob : Obj} {u : HO} : NotSt (.frz ob u) := fun _ _ _ z => by cases z
theorem Kp.sqT {K : PySem.W.Frag} {H H' : Hp} {a : Addr} {xs : List V} (e : Kp H H') (h : SqT K H a xs) : SqT K H' a xs := by
  rcases h with (h | ⟨o, h⟩) | h
  · exact .inl (.inl (e _ _ ns_tup h))
  · exact .inl (.inr ⟨o, e _ _ ns_frz h⟩)
  · exact .inr h
theorem Kp.rows {K : PySem.W.Frag} {H H' : Hp} (e : Kp H H') {ps : List Addr} {rs : List (List V)} (h : RowsAt K H ps rs) : RowsAt K H' ps rs := rows_imp (fun q => e.sqT q) h
/-- a list is written: tuples stand -/
theorem sqT_put {K : PySem.W.Frag} {H : Hp} {l a : Addr} {ys : List V} {o : HO} {xs : List V} (hl : H l = some (.lst ys)) (h : SqT K H a xs) : SqT K (upd H l o) a xs := by
  rcases h with (h | ⟨ob, h⟩) | h
  · exact .inl (.inl (by rw [upd_ne (ne_of h hl (by intro z; cases z))]; exact h))
  · exact .inl (.inr ⟨ob, by rw [upd_ne (ne_of h hl (by intro z; cases z))]; exact h⟩)
  · exact .inr h
theorem rows_put {K : PySem.W.Frag} {H : Hp} {l : Addr} {ys : List V} {o : HO} (hl : H l = some (.lst ys)) {ps : List Addr} {rs : List (List V)} (h : RowsAt K H ps rs) : RowsAt K (upd H l o) ps rs := rows_imp (fun q => sqT_put hl q) h
theorem But.ne {p a : Addr} {H : Hp} {o : HO} (s : StOk H p) (h : H a = some o) (n : NotSt o) : a ≠ p := fun q => by
  obtain ⟨x, y, z, e, _⟩ := s
  rw [q, e] at h
  exact n x y z (Option.some.inj h).symm
theorem endsL_app (a b : List Tri) : endsL (a ++ b) = endsL a ++ endsL b := by
  unfold endsL
  rw [List.flatMap_append]
theorem same_make {H : Hp} {x dx C : Addr} (nx : H x = none) (ndx : H dx = none) : Same H (upd (upd H dx (.own x)) x (.ins C dx [])) := fun b o e => by
  rw [upd_ne (ne_of_none e nx), upd_ne (ne_of_none e ndx)]
  exact e
theorem cut1 {a R : TS} {D : Ends} {σ : L2.St} {H : Hp} (Good : L2.St → Hp → Prop) (fin : ∀ σ' H', Good σ' H' → R D σ' H') (h : ∀ R' : TS, (∀ σ' H', Good σ' H' → R' D σ' H') → tSeq a R' D σ H) : tSeq a R D σ H := h R fin
theorem ixN_nat {n j : Nat} (h : j < n) : L2.ixN n (j : Int) = some j := by
  unfold L2.ixN
  rw [if_pos (by omega), if_pos (by omega)]
  simp
theorem ns_two {x y : Int} : NotSt (.lst [.int x, .int y]) := fun _ _ _ z => by cases z
/-! ### what the law draws -/
def Dr (z : Str) : Prop := z.length ≤ 13 ∧ okS z
instance (z : Str) : Decidable (okS z) := inferInstanceAs (Decidable (∀ c ∈ z.cps.toList, c < 1114112))
instance (z : Str) : Decidable (Dr z) := inferInstanceAs (Decidable (_ ∧ _))
theorem dr_nm {z : Str} (h : NmP z) (l : z.length ≤ 6) : Dr z := ⟨by omega, h.ok⟩
abbrev BADS : List Str := ["", "A", "9a", "a b", "abcdefghijklm", "a_"]
theorem bads_ok : ∀ z ∈ BADS, Dr z := by decide +kernel
abbrev STRANGE : Str := PySem.Str.ofString "strange"
theorem str_ok' : Dr STRANGE := by decide +kernel
theorem list_at {zs : List Str} (ok : ∀ z ∈ zs, Dr z) {d : Int} (h0 : 0 ≤ d) (h : d < zs.length) : ∃ z, (zs.map V.str)[d.toNat]? = some (.str z) ∧ Dr z := by
  have l : d.toNat < zs.length := by omega
  exact ⟨zs[d.toNat], by rw [List.getElem?_map, List.getElem?_eq_getElem l]; rfl, ok _ (List.getElem_mem l)⟩
theorem dp_ss {K : PySem.W.Frag} {H : Hp} : ∀ (zs : List Str), DpAll K H (zs.map V.str) (zs.map PyData.str)
  | [] => .nil
  | _ :: zs => .cons (.str _) (dp_ss zs)
theorem ss_lay : ∀ {zs : List Str}, (∀ z ∈ zs, okS z) → PyData.canLayAll0 (zs.map PyData.str) = true ∧ PyData.depthAll (zs.map PyData.str) ≤ 1
  | [], _ => by simp [PyData.canLayAll0, PyData.depthAll]
  | z :: zs, h => by
    obtain ⟨a, b⟩ := ss_lay (zs := zs) fun y hy => h y (List.mem_cons_of_mem _ hy)
    have c := strOk_of (h z List.mem_cons_self)
    refine ⟨by simp only [List.map_cons, PyData.canLayAll0, PyData.canLay0, c, a, Bool.and_self], ?_⟩
    simp only [List.map_cons, PyData.depthAll, PyData.depth]
    omega
theorem ss_sh {zs : List Str} (h : ∀ z ∈ zs, okS z) : SeqAt.shaped (.list (zs.map PyData.str)) = true := by
  obtain ⟨a, b⟩ := ss_lay h
  generalize zs.map PyData.str = X at a b
  simp [SeqAt.shaped, PyData.canLay0, PyData.depth, a]
  omega
theorem ss_nil (zs : List Str) : PyData.eqv (.list (zs.map PyData.str)) (.list []) = decide (zs = []) := by
  cases zs with
  | nil => decide +kernel
  | cons v r =>
    rw [decide_eq_false (by simp)]
    simp only [List.map_cons, PyData.eqv, PyData.eqvAll]
def spBad : Sp := fun vs H Q _ => ∃ p : Addr, vs = [.ref p] ∧ StOk H p ∧ ∀ z H', Dr z → But p H H' → StOk H' p → Q (.str z) H'
def spRow : Sp := fun vs H Q _ => ∃ (p ls : Addr) (le mo tw bd : Int), vs = [.ref p, .ref ls, .int le, .int mo, .int tw, .int bd] ∧ StOk H p ∧ (∃ a b : Int, H ls = some (.lst [.int a, .int b])) ∧ 0 ≤ le ∧ le ≤ mo ∧ mo ≤ 20 ∧ ∀ ln H' (zs : List Str), H ln = none → But p H H' → StOk H' p → H' ln = some (.lst (zs.map V.str)) → (zs.length : Int) ≤ mo → le ≤ zs.length → (∀ z ∈ zs, Dr z) → Q (.ref ln) H'
def spPk (K : PySem.W.Frag) : Sp := fun vs H Q _ => ∃ (p lx : Addr) (st : Bool) (zs : List Str), vs = [.ref p, .ref lx, .bl st] ∧ StOk H p ∧ H lx = some (.lst (zs.map V.str)) ∧ zs.length ≤ 100 ∧ (∀ z ∈ zs, Dr z) ∧ ∀ z H', Dr z → But p H H' → StOk H' p → Q (.str z) H'
def spNr : Sp := fun vs H Q _ => ∃ (l : Addr) (zs : List Str), vs = [.ref l] ∧ H l = some (.lst (zs.map V.str)) ∧ zs.length ≤ 1000 ∧ (∀ z ∈ zs, z.length ≤ 1000) ∧ ∀ H', Same H H' → Q (.bl (zs.all isNm)) H'
def spTw : Sp := fun vs H Q _ => ∃ (l : Addr) (zs : List Str), vs = [.ref l] ∧ H l = some (.lst (zs.map V.str)) ∧ zs.length ≤ 1000 ∧ ((∀ j y, j < zs.length → zs[j]? = some y → twP (zs.take j) y = none) → ∀ H', Same H H' → Q .non H') ∧ ∀ i z, zs[i]? = some z → z ∈ zs.take i → (∀ j y, j < i → zs[j]? = some y → twP (zs.take j) y = none) → ∀ H', Same H H' → Q (.int (i : Nat)) H'
section
variable {P : Program} {w : World} {K : PySem.W.Frag} {mg : Str → Option Value} {base : Heap}
theorem scBad : FnScope ["_law_s"] ["_law_s"] (defScope sBad) := ⟨rfl, rfl, rfl, by decide +kernel, rfl, by decide +kernel, by decide +kernel⟩
theorem ok_bad {f fG : Addr} {fd dG : FuncData} (F : Fun K "_law_bad" "_law_bad" sBad f fd) (DG : Dn K mg "_law_digit" sDigit ["_law_state_here", "_law_base"] fG dG) : FnOk P w K mg base CX0 2 f fd ["_law_s"] spBad := by
  have GG : FnOk P w K mg base CX0 1 fG dG _ spDigit := ok_digit DG.F
  refine F.ok scBad (fun vs H Q E h => ?_) (fun cdv A outer s H vs Q E hr h => ?_)
  · obtain ⟨p, rfl, _⟩ := h
    rfl
  · obtain ⟨p, rfl, hS, k⟩ := h
    have hr1 : Room 1 _ := hr
    refine ⟨_, (pss_one (ps_ret (pe_ix ix_list (pe_lst (pa_cons pe_str (pa_cons pe_str (pa_cons pe_str (pa_cons pe_str (pa_cons pe_str (pa_cons pe_str pa_nil))))))) (pe_call GG hr1 rfl DG.g DG.F.kp DG.b .nil pass0 (pa_cons (pv 0) (pa_cons pe_int pa_nil))) (fun _ _ => rfl)))), ?_⟩
    rw [show L2.start ["_law_s"] [V.ref p] = [some (.ref p)] from rfl]
    refine ⟨by show 6 ≤ sizeLine; decide, fun l hl => ?_⟩
    have nlp := st_free hS hl
    refine ⟨_, rfl, p, 6, rfl, hS.upd nlp, by decide, by decide, fun d H2 a2 b2 B2 S2 => ?_⟩
    obtain ⟨z, hz, dz⟩ := list_at bads_ok a2 b2
    refine rdList (B2 l _ nlp upd_same) (j := d.toNat) (by omega) hz ?_
    exact k z H2 dz (fun q o n e => B2 q o n (by rw [upd_ne (ne_of_none e hl)]; exact e)) S2
theorem scRow : FnScope ["_law_s", "_law_spoils", "_law_least", "_law_most", "_law_twice_here", "_law_bad_here", "_law_many", "_law_found_here"] ["_law_s", "_law_spoils", "_law_least", "_law_most", "_law_twice_here", "_law_bad_here"] (defScope sRow) := ⟨rfl, rfl, rfl, by decide +kernel, rfl, by decide +kernel, by decide +kernel⟩
theorem ok_row {f fG fN fB : Addr} {fd dG dN dB : FuncData} (F : Fun K "_law_row" "_law_row" sRow f fd) (T : TxB mg) (DG : Dn K mg "_law_digit" sDigit ["_law_state_here", "_law_base"] fG dG) (DN : Dn K mg "_law_names" sNms ["_law_s", "_law_many"] fN dN) (GN : FnOk P w K mg base CX0 3 fN dN ["_law_s", "_law_many"] spNms)
    (DBd : Dn K mg "_law_bad" sBad ["_law_s"] fB dB) : FnOk P w K mg base CX0 4 f fd ["_law_s", "_law_spoils", "_law_least", "_law_most", "_law_twice_here", "_law_bad_here"] spRow := by
  have GG : FnOk P w K mg base CX0 1 fG dG _ spDigit := ok_digit DG.F
  have GBd : FnOk P w K mg base CX0 2 fB dB _ spBad := ok_bad DBd.F DG
  refine F.ok scRow (fun vs H Q E h => ?_) (fun cdv A outer s H vs Q E hr h => ?_)
  · obtain ⟨p, ls, le, mo, tw, bd, rfl, _⟩ := h
    rfl
  · obtain ⟨p, ls, le, mo, tw, bd, rfl, hS, ⟨ja, jb, hls⟩, le0, lm, m20, k⟩ := h
    have hr1 : Room 1 _ := hr.mono (by decide)
    have hr2 : Room 2 _ := hr.mono (by decide)
    have hr3 : Room 3 _ := hr
    have nls : ls ≠ p := But.ne hS hls ns_two
    refine ⟨_, (pss_cons (ps_set (i := 6) scRow.nd rfl (Or.inl rfl) (pe_op op_add (pv 2) (pe_call GG hr1 rfl DG.g DG.F.kp DG.b .nil pass0 (pa_cons (pv 0) (pa_cons (pe_op op_add (pe_op op_sub (pv 3) (pv 2)) pe_int) pa_nil)))))
      (pss_cons (ps_set (i := 7) scRow.nd rfl (Or.inl rfl) (pe_call GN hr3 rfl DN.g DN.F.kp DN.b .nil pass0 (pa_cons (pv 0) (pa_cons (pv 6) pa_nil))))
      (pss_cons (ps_if (PW.pt (pw_and (pt_cmpR op_in_seq (pv 4) (pv 1) (by rfl)) (pw_and1 (pt_cmpR op_gt (pv 6) pe_int (nomark _))))) (pss_one (ps_asg (pe_ix ix_list (pv 7) (pe_call GG hr1 rfl DG.g DG.F.kp DG.b .nil pass0 (pa_cons (pv 0) (pa_cons (pv 6) pa_nil))) (fun _ _ => rfl)) (pg_sub (pv 7) (pe_call GG hr1 rfl DG.g DG.F.kp DG.b .nil pass0 (pa_cons (pv 0) (pa_cons (pv 6) pa_nil))) set_list))) pss_nil)
      (pss_cons (ps_if (PW.pt (pw_and (pt_cmpR op_in_seq (pv 5) (pv 1) (by rfl)) (pw_and1 (pt_cmpR op_gt (pv 6) pe_int (nomark _))))) (pss_one (ps_asg (pe_call GBd hr2 rfl DBd.g DBd.F.kp DBd.b .nil pass0 (pa_cons (pv 0) pa_nil)) (pg_sub (pv 7) (pe_call GG hr1 rfl DG.g DG.F.kp DG.b .nil pass0 (pa_cons (pv 0) (pa_cons (pv 6) pa_nil))) set_list))) pss_nil)
      (pss_one (ps_ret (pv 7))))))), ?_⟩
    rw [show L2.start ["_law_s", "_law_spoils", "_law_least", "_law_most", "_law_twice_here", "_law_bad_here", "_law_many", "_law_found_here"] [V.ref p, V.ref ls, V.int le, V.int mo, V.int tw, V.int bd] = [some (.ref p), some (.ref ls), some (.int le), some (.int mo), some (.int tw), some (.int bd), none, none] from rfl]
    refine ⟨_, rfl, _, rfl, _, rfl, _, rfl, _, _, rfl, rfl, _, _, rfl, rfl, p, _, rfl, hS, by omega, by omega, fun d H2 a1 b1 B2 S2 => ⟨_, _, rfl, rfl, ?_⟩⟩
    dsimp only [gName, List.set_cons_succ, List.set_cons_zero]
    generalize hm : le + d = m
    refine ⟨_, rfl, _, rfl, p, m, rfl, S2, by omega, by omega, fun zs ln H3 n1 n1p B3 S3 h3 zl znd znm => ?_⟩
    dsimp only [gName, List.set_cons_succ, List.set_cons_zero]
    have B03 := B2.trans B3
    have f0 : H ln = none := B2.free n1p n1
    have zok : ∀ z ∈ zs, Dr z := fun z hz => dr_nm (znm z hz).1 (znm z hz).2
    refine cut1 (fun σ' H' => ∃ zs : List Str, σ' = [some (.ref p), some (.ref ls), some (.int le), some (.int mo), some (.int tw), some (.int bd), some (.int m), some (.ref ln)] ∧ H' ln = some (.lst (zs.map V.str)) ∧ zs.length = m.toNat ∧ (∀ z ∈ zs, Dr z) ∧ But p H H' ∧ StOk H' p) ?_ ?_
    rotate_left
    · intro R fin
      refine ⟨_, rfl, _, rfl, ls, _, rfl, .inl (SqL.of (B03 _ _ nls hls)), rfl, rfl, _, rfl, ite2 (fun _ => ⟨_, rfl, _, _, rfl, rfl, _, rfl, ite2 (fun hm => ?_) (fun _ => ?_)⟩) (fun _ => iteF ?_)⟩
      · have hm' : 1 < m := of_decide_eq_true hm
        refine ⟨_, rfl, _, rfl, _, rfl, p, m, rfl, S3, by omega, by omega, fun d4 H4 a4 b4 B4 S4 => ?_⟩
        have h4 := B4 _ _ n1p h3
        have l4 : d4.toNat < zs.length := by omega
        refine rdList h4 (j := d4.toNat) (v := .str zs[d4.toNat]) (by omega) (by rw [List.getElem?_map, List.getElem?_eq_getElem l4]; rfl) ?_
        refine ⟨_, rfl, _, rfl, _, rfl, p, m, rfl, S4, by omega, by omega, fun d5 H5 a5 b5 B5 S5 => ?_⟩
        have h5 := B5 _ _ n1p h4
        obtain ⟨j, rfl⟩ : ∃ n : Nat, d5 = (n : Int) := ⟨d5.toNat, by omega⟩
        refine ⟨ln, _, _, j, rfl, rfl, h5, ixN_nat (by rw [List.length_map]; omega), ?_⟩
        refine fin _ _ ⟨zs.set j zs[d4.toNat], rfl, by rw [upd_same, List.map_set], by rw [List.length_set]; exact zl, fun z hz => ?_, but_new (B03.trans (B4.trans B5)) n1p f0, S5.upd n1p⟩
        rcases List.mem_or_eq_of_mem_set hz with q | q
        · exact zok z q
        · rw [q]
          exact zok _ (List.getElem_mem l4)
      · exact fin _ _ ⟨zs, rfl, h3, zl, zok, B03, S3⟩
      · exact fin _ _ ⟨zs, rfl, h3, zl, zok, B03, S3⟩
    clear h3 zl zok znd znm
    rintro σ' H4 ⟨zs, rfl, h4, zl, zok, B4, S4⟩
    refine cut1 (fun σ' H' => ∃ zs : List Str, σ' = [some (.ref p), some (.ref ls), some (.int le), some (.int mo), some (.int tw), some (.int bd), some (.int m), some (.ref ln)] ∧ H' ln = some (.lst (zs.map V.str)) ∧ zs.length = m.toNat ∧ (∀ z ∈ zs, Dr z) ∧ But p H H' ∧ StOk H' p) ?_ ?_
    rotate_left
    · intro R fin
      refine ⟨_, rfl, _, rfl, ls, _, rfl, .inl (SqL.of (B4 _ _ nls hls)), rfl, rfl, _, rfl, ite2 (fun _ => ⟨_, rfl, _, _, rfl, rfl, _, rfl, ite2 (fun hm => ?_) (fun _ => ?_)⟩) (fun _ => iteF ?_)⟩
      · have hm' : 0 < m := of_decide_eq_true hm
        refine ⟨_, rfl, p, rfl, S4, fun y H5 dy B5 S5 => ?_⟩
        refine ⟨_, rfl, _, rfl, _, rfl, p, m, rfl, S5, by omega, by omega, fun d5 H6 a5 b5 B6 S6 => ?_⟩
        obtain ⟨j, rfl⟩ : ∃ n : Nat, d5 = (n : Int) := ⟨d5.toNat, by omega⟩
        refine ⟨ln, _, _, j, rfl, rfl, B6 _ _ n1p (B5 _ _ n1p h4), ixN_nat (by rw [List.length_map]; omega), ?_⟩
        refine fin _ _ ⟨zs.set j y, rfl, by rw [upd_same, List.map_set], by rw [List.length_set]; exact zl, fun z hz => ?_, but_new (B4.trans (B5.trans B6)) n1p f0, S6.upd n1p⟩
        rcases List.mem_or_eq_of_mem_set hz with q | q
        · exact zok z q
        · rw [q]
          exact dy
      · exact fin _ _ ⟨zs, rfl, h4, zl, zok, B4, S4⟩
      · exact fin _ _ ⟨zs, rfl, h4, zl, zok, B4, S4⟩
    rintro σ' H5 ⟨zs, rfl, h5, zl, zok, B5, S5⟩
    exact ⟨_, rfl, k ln H5 zs f0 B5 S5 h5 (by omega) (by omega) zok⟩
theorem scPik : FnScope ["_law_s", "_law_some", "_law_strange"] ["_law_s", "_law_some", "_law_strange"] (defScope sPik) := ⟨rfl, rfl, rfl, by decide +kernel, rfl, by decide +kernel, by decide +kernel⟩
theorem ok_pik {f fG : Addr} {fd dG : FuncData} (F : Fun K "_law_pick" "_law_pick" sPik f fd) (T : TxB mg) (DG : Dn K mg "_law_digit" sDigit ["_law_state_here", "_law_base"] fG dG) : FnOk P w K mg base CX0 2 f fd ["_law_s", "_law_some", "_law_strange"] (spPk K) := by
  have GG : FnOk P w K mg base CX0 1 fG dG _ spDigit := ok_digit DG.F
  refine F.ok scPik (fun vs H Q E h => ?_) (fun cdv A outer s H vs Q E hr h => ?_)
  · obtain ⟨p, lx, st, zs, rfl, _⟩ := h
    rfl
  · obtain ⟨p, lx, st, zs, rfl, hS, hx, l100, ok, k⟩ := h
    have hr1 : Room 1 _ := hr
    refine ⟨_, (pss_cons (ps_if (PW.pt (pw_or (pt_cmpR (op_eqD hr.units) (pv 1) (pe_lst pa_nil) (nomark _)) (pw_or1 (PW.pt (pw_and (pt_val (pv 2)) (pw_and1 (pt_cmpR op_eq (pe_call GG hr1 rfl DG.g DG.F.kp DG.b .nil pass0 (pa_cons (pv 0) (pa_cons pe_int pa_nil))) pe_int (nomark _)))))))) (pss_one (ps_ret pe_str)) pss_nil)
      (pss_one (ps_ret (pe_ix ix_list (pv 1) (pe_call GG hr1 rfl DG.g DG.F.kp DG.b .nil pass0 (pa_cons (pv 0) (pa_cons (pe_callB call_len_seq (by rfl) T.len (by decide +kernel) (pa_cons (pv 1) pa_nil)) pa_nil))) (fun _ _ => rfl))))), ?_⟩
    rw [show L2.start ["_law_s", "_law_some", "_law_strange"] [V.ref p, V.ref lx, V.bl st] = [some (.ref p), some (.ref lx), some (.bl st)] from rfl]
    have nx : lx ≠ p := But.ne hS hx ns_strs
    refine ⟨_, rfl, Nat.zero_le _, fun le hle => ?_⟩
    have T1 : Same H (upd H le (.lst [])) := Same.upd hle
    have e1 : (upd H le (.lst [])) le = some (.lst []) := upd_same
    have S1 := hS.same T1
    generalize upd H le (.lst []) = H1 at T1 e1 S1
    have hx1 := T1 _ _ hx
    refine ⟨.list (zs.map PyData.str), .list [], .lst (SqL.of hx1) (dp_ss zs), .lst (SqL.of e1) .nil, ss_sh fun z hz => (ok z hz).2, by decide +kernel, _, rfl, ?_⟩
    rw [ss_nil]
    refine ite2 (fun _ => k STRANGE H1 str_ok' (Same.but T1) S1) (fun ne => ?_)
    have ne' : zs ≠ [] := fun e => ne (decide_eq_true e)
    have l1 : 1 ≤ zs.length := List.length_pos_iff.mpr ne'
    have pick : ∀ H2, But p H1 H2 → StOk H2 p → (tRet (tOp (rIxL K) (tVar 1) (tCall spDigit [] E0 (tCons (tVar 0) (tCons (tCB (rLenL K) (tCons (tVar 1) tNil)) tNil))))) { nx := fun _ H' => Q .non H', rt := Q } [some (.ref p), some (.ref lx), some (.bl st)] H2 := fun H2 B2 S2 => by
      have hx2 := B2 _ _ nx hx1
      refine ⟨_, rfl, _, rfl, _, rfl, lx, _, rfl, .inl (SqL.of hx2), p, _, rfl, S2, by rw [List.length_map]; omega, by rw [List.length_map]; omega, fun d H3 a b B3 S3 => ?_⟩
      rw [List.length_map] at b
      obtain ⟨z, hz, dz⟩ := list_at ok a b
      exact rdList (B3 _ _ nx hx2) (j := d.toNat) (by omega) hz (k z H3 dz ((Same.but T1).trans (B2.trans B3)) S3)
    refine ⟨_, rfl, _, rfl, ite2 (fun _ => ?_) (fun _ => iteF (pick H1 (But.refl p H1) S1))⟩
    refine ⟨_, rfl, p, 2, rfl, S1, by decide, by decide, fun d H2 _ _ B2 S2 => ⟨rfl, _, rfl, ite2 (fun _ => ?_) (fun _ => pick H2 B2 S2)⟩⟩
    exact k STRANGE H2 str_ok' ((Same.but T1).trans B2) S2
theorem scNrt : FnScope ["_law_texts", "_law_text"] ["_law_texts"] (defScope sNrt) := ⟨rfl, rfl, rfl, by decide +kernel, rfl, by decide +kernel, by decide +kernel⟩
theorem ok_nrt {f fI : Addr} {fd dI : FuncData} (F : Fun K "_law_names_right" "_law_names_right" sNrt f fd) (T : TxB mg) (DIs : Dn K mg "_law_is_name" sLName ["_law_text"] fI dI) : FnOk P w K mg base CX0 2 f fd ["_law_texts"] spNr := by
  have GIs : FnOk P w K mg base CX0 1 fI dI ["_law_text"] spName := ok_lname DIs.F T
  refine F.ok scNrt (fun vs H Q E h => ?_) (fun cdv A outer s H vs Q E hr h => ?_)
  · obtain ⟨l, zs, rfl, _⟩ := h
    rfl
  · obtain ⟨l, zs, rfl, hl, len, hz, k⟩ := h
    have hr1 : Room 1 _ := hr
    refine ⟨_, (pss_one (ps_ret (pe_callB (cr_all rfl) (by rfl) T.all (by decide +kernel) (pa_cons (pe_lc (own := [("_law_text", 1)]) (g := gName 1) (tt := tYes) (te := (tCall spName [] E0 (tCons (tVar 1) tNil))) rfl scNrt.nd (pi_list (pv 0)) (blkOk_by (N := ["_law_texts", "_law_text"]) (sc := defScope sNrt) (by decide +kernel)) (fun _ _ _ _ _ => (pg_name (i := 1) scNrt.nd rfl (Or.inl rfl))) (fun _ _ _ _ _ => pts_nil) (fun _ _ _ _ _ => (pe_call GIs hr1 rfl DIs.g DIs.F.kp DIs.b .nil pass0 (pa_cons (pv 1) pa_nil)))) pa_nil)))), ?_⟩
    rw [show L2.start ["_law_texts", "_law_text"] [V.ref l] = [some (.ref l), none] from rfl]
    refine ⟨_, rfl, l, rfl, ⟨_, SqL.of hl⟩, fun D hD => ?_⟩
    refine lc_list (K := K) (a := l) (xs := zs.map V.str) (fun i H' => Same H H' ∧ H' D = some (.lst (((zs.take i).map isNm).map V.bl))) ⟨Same.upd hD, upd_same⟩ (fun i H' _ h => SqL.of (h.1 _ _ hl)) ?_ ?_
    · rintro i x H3 hx ⟨S3, hD3⟩
      obtain ⟨z, hzi, rfl⟩ := map_str_get hx
      refine ⟨rfl, _, rfl, z, rfl, hz z (List.mem_of_getElem? hzi), fun H4 S4 => ⟨_, S4 _ _ hD3, ?_, fun b o e => ?_, ?_⟩⟩
      · rw [List.length_map, List.length_map, List.length_take]
        exact Nat.lt_of_le_of_lt (show _ ≤ 1000 by omega) (by decide)
      · rw [upd_ne (ne_of_none e hD)]
        exact S4 _ _ (S3 _ _ e)
      · rw [upd_same, List.take_add_one, hzi, List.map_append, List.map_append]
        rfl
    rintro H1 ⟨S1, hD1⟩
    rw [List.length_map, List.take_length] at hD1
    refine ⟨D, _, rfl, SqL.of hD1, ?_⟩
    rw [show (zs.map isNm).all id = zs.all isNm by rw [List.all_map]; rfl]
    exact k H1 S1
theorem scTwi : FnScope ["_law_names_here", "_law_k"] ["_law_names_here"] (defScope sTwi) := ⟨rfl, rfl, rfl, by decide +kernel, rfl, by decide +kernel, by decide +kernel⟩
theorem ok_twi {f : Addr} {fd : FuncData} (F : Fun K "_law_twice" "_law_twice" sTwi f fd) (T : TxB mg) : FnOk P w K mg base CX0 1 f fd ["_law_names_here"] spTw := by
  refine F.ok scTwi (fun vs H Q E h => ?_) (fun cdv A outer s H vs Q E hr h => ?_)
  · obtain ⟨l, zs, rfl, _⟩ := h
    rfl
  · obtain ⟨l, zs, rfl, hl, len, kn, kt⟩ := h
    refine ⟨_, (pss_cons (ps_for PassesOwn.never rfl (pi_range1 rfl T.range (pa_cons (pe_callB call_len_seq (by rfl) T.len (by decide +kernel) (pa_cons (pv 0) pa_nil)) pa_nil)) (pg_name (i := 1) scTwi.nd rfl (Or.inl rfl)) (pss_one (ps_if (pt_cmpR op_in_seq (pe_ix ix_list (pv 0) (pv 1) (fun _ _ => rfl)) (pe_slice sl_list (pv 0) po_none (po_some (pv 1))) (by rfl)) (pss_one (ps_ret (pv 1))) pss_nil)))
      (pss_one (ps_ret pe_non))), ?_⟩
    rw [show L2.start ["_law_names_here", "_law_k"] [V.ref l] = [some (.ref l), none] from rfl]
    refine ⟨_, rfl, l, _, rfl, .inl (SqL.of hl), _, rfl, by rw [List.length_map]; omega, by rw [List.length_map]; omega, ?_⟩
    refine for_range (n := _) (fun i σ H' => (∃ u, σ = [some (.ref l), u]) ∧ Same H H' ∧ ∀ j y, j < i → zs[j]? = some y → twP (zs.take j) y = none) ⟨⟨_, rfl⟩, Same.refl H, fun j y h => absurd h (Nat.not_lt_zero j)⟩ ?_ ?_
    · rintro i σ H1 hi ⟨⟨u, rfl⟩, hS, hno⟩
      have hi : i < zs.length := by
        rw [List.length_map] at hi
        omega
      rw [Int.zero_add]
      dsimp only [gName, List.set_cons_succ, List.set_cons_zero]
      obtain ⟨z, hz⟩ : ∃ z, zs[i]? = some z := ⟨_, List.getElem?_eq_getElem hi⟩
      have hl1 := hS _ _ hl
      refine ⟨_, rfl, _, rfl, rdList hl1 (j := i) (v := .str z) rfl (by rw [List.getElem?_map, hz]; rfl) ⟨_, rfl, _, rfl, _, rfl, l, _, rfl, SqL.of hl1, fun c hc => ?_⟩⟩
      refine ⟨c, _, rfl, .inl (SqL.of upd_same), rfl, ?_, _, rfl, ?_⟩
      · show (cutV (zs.map V.str) none (some (i : Int))).all flatV = true
        rw [cut_take]
        exact all_take (flat_of zs) i
      · show if inV (.str z) (cutV (zs.map V.str) none (some (i : Int))) = true then _ else _
        rw [cut_take, ← List.map_take, inV_strs]
        by_cases q : z ∈ zs.take i
        · rw [decide_eq_true q]
          exact iteT ⟨_, rfl, kt i z hz q hno _ (hS.trans (Same.upd hc))⟩
        · rw [decide_eq_false q]
          exact iteF ⟨⟨_, rfl⟩, hS.trans (Same.upd hc), goF_more hno hz (by unfold twP; rw [if_neg q])⟩
    · rintro σ H1 ⟨⟨u, rfl⟩, hS, hno⟩
      refine kn (fun j y hj e => hno j y ?_ e) H1 hS
      rw [List.length_map]
      omega
end
end Wm
namespace Wm
open PySem L2 StX
theorem cut_drop (xs : List V) (i : Nat) : cutV xs (some (i : Int)) none = xs.drop i := by
  unfold cutV
  rw [HT.sIx_none, HT.sIx_nat]
  by_cases h : i ≤ xs.length
  · rw [Nat.min_eq_left h, List.take_of_length_le (by rw [List.length_drop]; omega)]
  · rw [Nat.min_eq_right (by omega), List.drop_of_length_le (Nat.le_refl _), List.drop_of_length_le (by omega)]
    simp
/-- a making as the law writes it: (maker, made, [..], [..]); its lists are none of F -/
def MtN (F : Addr) (H : Hp) (t : Addr) (x : MkD) : Prop := ∃ l1 l2, l1 ≠ F ∧ l2 ≠ F ∧ H t = some (.tup [.str x.mr, .str x.md, .ref l1, .ref l2]) ∧ H l1 = some (.lst (x.dn.map V.str)) ∧ H l2 = some (.lst (x.up.map V.str))
def MtAt (H : Hp) (t : Addr) (x : MkD) : Prop := ∃ l1 l2, H t = some (.tup [.str x.mr, .str x.md, .ref l1, .ref l2]) ∧ H l1 = some (.lst (x.dn.map V.str)) ∧ H l2 = some (.lst (x.up.map V.str))
theorem MtN.at {F : Addr} {H : Hp} {t : Addr} {x : MkD} (h : MtN F H t x) : MtAt H t x := by
  obtain ⟨l1, l2, _, _, a, b, c⟩ := h
  exact ⟨l1, l2, a, b, c⟩
theorem MtAt.kp {H H' : Hp} {t : Addr} {x : MkD} (k : Kp H H') (h : MtAt H t x) : MtAt H' t x := by
  obtain ⟨l1, l2, a, b, c⟩ := h
  exact ⟨l1, l2, k _ _ ns_tup a, k _ _ ns_strs b, k _ _ ns_strs c⟩
theorem MtN.kp {F : Addr} {H H' : Hp} {t : Addr} {x : MkD} (k : Kp H H') (h : MtN F H t x) : MtN F H' t x := by
  obtain ⟨l1, l2, n1, n2, a, b, c⟩ := h
  exact ⟨l1, l2, n1, n2, k _ _ ns_tup a, k _ _ ns_strs b, k _ _ ns_strs c⟩
theorem MtN.put {F : Addr} {H : Hp} {t : Addr} {x : MkD} {ys zs : List V} (hF : H F = some (.lst ys)) (h : MtN F H t x) : MtN F (upd H F (.lst zs)) t x := by
  obtain ⟨l1, l2, n1, n2, a, b, c⟩ := h
  exact ⟨l1, l2, n1, n2, (upd_ne (ne_of a hF (by intro z; cases z))).trans a, (upd_ne n1).trans b, (upd_ne n2).trans c⟩
structure MkOk1 (x : MkD) : Prop where
  mr : Dr x.mr
  md : Dr x.md
  dn : ∀ z ∈ x.dn, Dr z
  up : ∀ z ∈ x.up, Dr z
  d1 : x.dn.length ≤ 1
  u1 : x.up.length ≤ 1
/-- every text that it names -/
def mkTx (x : MkD) : List Str := [x.mr, x.md] ++ x.dn ++ x.up
/-- where the law draws makings and patterns -/
structure De (H : Hp) (p ls lso lwo : Addr) (ss ws : List Str) : Prop where
  s : StOk H p
  l : ∃ a b : Int, H ls = some (.lst [.int a, .int b])
  hs : H lso = some (.lst (ss.map V.str))
  hw : H lwo = some (.lst (ws.map V.str))
  s20 : ss.length ≤ 20
  w20 : ws.length ≤ 20
  so : ∀ z ∈ ss, Dr z
  wo : ∀ z ∈ ws, Dr z
theorem De.kp {H H' : Hp} {p ls lso lwo : Addr} {ss ws : List Str} (w : De H p ls lso lwo ss ws) (k : Kp H H') (s : StOk H' p) : De H' p ls lso lwo ss ws := by
  obtain ⟨x, y, e⟩ := w.l
  exact ⟨s, ⟨x, y, k _ _ ns_two e⟩, k _ _ ns_strs w.hs, k _ _ ns_strs w.hw, w.s20, w.w20, w.so, w.wo⟩
def spMkg : Sp := fun vs H Q _ => ∃ (p ls lso lwo : Addr) (ss ws : List Str), vs = [.ref p, .ref ls, .ref lso, .ref lwo] ∧ De H p ls lso lwo ss ws ∧ ∀ lm H' (ts : List Addr) (xs : List MkD), But p H H' → StOk H' p → H' lm = some (.lst (ts.map V.ref)) → AllAt (MtAt H') ts xs → xs.length ≤ 4 → (∀ x ∈ xs, MkOk1 x ∧ ∀ z ∈ mkTx x, isNm z = true) → Q (.ref lm) H'
theorem AllAt.put1 {α : Type} {R : Addr → α → Prop} {ts : List Addr} {xs : List α} {t : Addr} {x : α} (h : AllAt R ts xs) (r : R t x) : AllAt R (ts ++ [t]) (xs ++ [x]) := h.append ⟨r, True.intro⟩
theorem share {C E : Hp → Prop} {G : Prop} (h : (∀ H, C H → E H) → G) (e : ∀ H, C H → E H) : G := h e
theorem rep01 {z : Str} (dz : Dr z) {d : Int} (h0 : 0 ≤ d) (h2 : d < 2) : ∃ us : List Str, (List.replicate d.toNat [V.str z]).flatten = us.map V.str ∧ us.length ≤ 1 ∧ ∀ y ∈ us, Dr y := by
  rcases (by omega : d = 0 ∨ d = 1) with rfl | rfl
  · exact ⟨[], rfl, Nat.zero_le _, fun y hy => (List.not_mem_nil hy).elim⟩
  · exact ⟨[z], rfl, Nat.le_refl _, fun y hy => by rw [List.mem_singleton.mp hy]; exact dz⟩
section
variable {P : Program} {w : World} {K : PySem.W.Frag} {mg : Str → Option Value} {base : Heap}
theorem scMkg : FnScope ["_law_s", "_law_spoils", "_law_sorts", "_law_words", "_law_found_here", "_law_k", "_law_at", "_law_below", "_law_maker", "_law_made", "_law_one", "_law_known", "_law_down", "_law_up"] ["_law_s", "_law_spoils", "_law_sorts", "_law_words"] (defScope sMkg) := ⟨rfl, rfl, rfl, by decide +kernel, rfl, by decide +kernel, by decide +kernel⟩
theorem ok_mkg {f fG fP fN : Addr} {fd dG dP dN : FuncData} (F : Fun K "_law_makings" "_law_makings" sMkg f fd) (T : TxB mg) (hmax : mg "max" = none) (DG : Dn K mg "_law_digit" sDigit ["_law_state_here", "_law_base"] fG dG) (DPk : Dn K mg "_law_pick" sPik ["_law_s", "_law_some", "_law_strange"] fP dP)
    (DNr : Dn K mg "_law_names_right" sNrt ["_law_texts"] fN dN) (GNr : FnOk P w K mg base CX0 2 fN dN ["_law_texts"] spNr) : FnOk P w K mg base CX0 3 f fd ["_law_s", "_law_spoils", "_law_sorts", "_law_words"] spMkg := by
  have GG : FnOk P w K mg base CX0 1 fG dG _ spDigit := ok_digit DG.F
  have GPk : FnOk P w K mg base CX0 2 fP dP _ (spPk K) := ok_pik DPk.F T DG
  refine F.ok scMkg (fun vs H Q E h => ?_) (fun cdv A outer s H vs Q E hr h => ?_)
  · obtain ⟨p, ls, lso, lwo, ss, ws, rfl, _⟩ := h
    rfl
  · obtain ⟨p, ls, lso, lwo, ss, ws, rfl, W, k⟩ := h
    have hr1 : Room 1 _ := hr.mono (by decide)
    have hr2 : Room 2 _ := hr
    refine ⟨_, (pss_cons (ps_set (i := 4) scMkg.nd rfl (Or.inl rfl) (pe_lst pa_nil))
      (pss_cons (ps_for PassesOwn.never rfl (pi_range1 rfl T.range (pa_cons (pe_call GG hr1 rfl DG.g DG.F.kp DG.b .nil pass0 (pa_cons (pv 0) (pa_cons pe_int pa_nil))) pa_nil)) (pg_name (i := 5) scMkg.nd rfl (Or.inl rfl)) (pss_cons (ps_set (i := 6) scMkg.nd rfl (Or.inl rfl) (pe_call GG hr1 rfl DG.g DG.F.kp DG.b .nil pass0 (pa_cons (pv 0) (pa_cons (pe_callB (call_max2 rfl) (by rfl) hmax (by decide +kernel) (pa_cons pe_int (pa_cons (pe_callB call_len_seq (by rfl) T.len (by decide +kernel) (pa_cons (pv 2) pa_nil)) pa_nil))) pa_nil))))
      (pss_cons (ps_set (i := 7) scMkg.nd rfl (Or.inl rfl) (pe_op op_cat (pe_slice sl_list (pv 2) (po_some (pe_op op_add (pv 6) pe_int)) po_none) (pe_op op_rep (pe_lst (pa_cons pe_str pa_nil)) (pe_callTy call_int1 (by rfl) T.int (by decide +kernel) (pa_cons (pe_cmpR op_in_seq pe_int (pv 1) (by rfl)) pa_nil)))))
      (pss_cons (ps_set (i := 7) scMkg.nd rfl (Or.inl rfl) (pe_op op_cat (pv 7) (pe_op op_rep (pv 2) (pe_callTy call_int1 (by rfl) T.int (by decide +kernel) (pa_cons (pe_cmpR op_in_seq pe_int (pv 1) (by rfl)) pa_nil)))))
      (pss_one (ps_if (PW.pt (pw_and (pt_cmpR op_gt (pe_callB call_len_seq (by rfl) T.len (by decide +kernel) (pa_cons (pv 2) pa_nil)) (pv 6) (nomark _)) (pw_and1 (pt_cmpR (op_neD hr.units) (pv 7) (pe_lst pa_nil) (nomark _))))) (pss_cons (ps_set (i := 8) scMkg.nd rfl (Or.inl rfl) (pe_ix ix_list (pv 2) (pv 6) (fun _ _ => rfl)))
      (pss_cons (ps_set (i := 9) scMkg.nd rfl (Or.inl rfl) (pe_ix ix_list (pv 7) (pe_call GG hr1 rfl DG.g DG.F.kp DG.b .nil pass0 (pa_cons (pv 0) (pa_cons (pe_callB call_len_seq (by rfl) T.len (by decide +kernel) (pa_cons (pv 7) pa_nil)) pa_nil))) (fun _ _ => rfl)))
      (pss_cons (ps_setLc (i := 11) (own := [("_law_one", 10)]) (g := gName 10) (tt := tYes) (te := (tTup (tCons (tOp (rIxT K) (tVar 10) (tC (.int 0))) (tCons (tOp (rIxT K) (tVar 10) (tC (.int 1))) tNil)))) rfl scMkg.nd rfl rfl (sw_true rfl rfl rfl (by decide +kernel)) (pi_list (pv 4)) (blkOk_by (N := ["_law_s", "_law_spoils", "_law_sorts", "_law_words", "_law_found_here", "_law_k", "_law_at", "_law_below", "_law_maker", "_law_made", "_law_one", "_law_known", "_law_down", "_law_up"]) (sc := defScope sMkg) (by decide +kernel)) (fun _ _ _ _ _ => (pg_name (i := 10) scMkg.nd rfl (Or.inl rfl))) (fun _ _ _ _ _ => pts_nil) (fun _ _ _ _ _ => (pe_tup (pa_cons (pe_ix ix_tup (pv 10) pe_int (fun _ _ => rfl)) (pa_cons (pe_ix ix_tup (pv 10) pe_int (fun _ _ => rfl)) pa_nil)))))
      (pss_one (ps_if (PW.pt (pw_or (pt_cmpR op_in_seq pe_int (pv 1) (by rfl)) (pw_or1 (pt_cmpR (op_notInD (u65 hr)) (pe_tup (pa_cons (pv 8) (pa_cons (pv 9) pa_nil))) (pv 11) (by rfl))))) (pss_cons (ps_set (i := 12) scMkg.nd rfl (Or.inl rfl) (pe_lst (pa_cons (pe_call GPk hr2 rfl DPk.g DPk.F.kp DPk.b .nil pass0 (pa_cons (pv 0) (pa_cons (pv 3) (pa_cons (pe_cmpR op_in_seq pe_int (pv 1) (by rfl)) pa_nil)))) pa_nil)))
      (pss_cons (ps_set (i := 13) scMkg.nd rfl (Or.inl rfl) (pe_lst (pa_cons (pe_call GPk hr2 rfl DPk.g DPk.F.kp DPk.b .nil pass0 (pa_cons (pv 0) (pa_cons (pv 3) (pa_cons (pe_cmpR op_in_seq pe_int (pv 1) (by rfl)) pa_nil)))) pa_nil)))
      (pss_one (ps_expr (pe_bm PySem.F.plainAttrs_list PySem.F.slot_list_append PySem.F.type_list_append mt_append (pv 4) (pa_cons (pe_tup (pa_cons (pv 8) (pa_cons (pv 9) (pa_cons (pe_op op_rep (pv 12) (pe_call GG hr1 rfl DG.g DG.F.kp DG.b .nil pass0 (pa_cons (pv 0) (pa_cons pe_int pa_nil)))) (pa_cons (pe_op op_rep (pv 13) (pe_call GG hr1 rfl DG.g DG.F.kp DG.b .nil pass0 (pa_cons (pv 0) (pa_cons pe_int pa_nil)))) pa_nil))))) pa_nil)))))) pss_nil))))) pss_nil))))))
      (pss_one (ps_ret (pe_lc (own := [("_law_one", 10)]) (g := gName 10) (tt := (tTest (tCall spNr [] E0 (tCons (tOp rCat (tOp rCat (tLst (tCons (tOp (rIxT K) (tVar 10) (tC (.int 0))) (tCons (tOp (rIxT K) (tVar 10) (tC (.int 1))) tNil))) (tOp (rIxT K) (tVar 10) (tC (.int 2)))) (tOp (rIxT K) (tVar 10) (tC (.int 3)))) tNil)))) (te := (tVar 10)) rfl scMkg.nd (pi_list (pv 4)) (blkOk_by (N := ["_law_s", "_law_spoils", "_law_sorts", "_law_words", "_law_found_here", "_law_k", "_law_at", "_law_below", "_law_maker", "_law_made", "_law_one", "_law_known", "_law_down", "_law_up"]) (sc := defScope sMkg) (by decide +kernel)) (fun _ _ _ _ _ => (pg_name (i := 10) scMkg.nd rfl (Or.inl rfl))) (fun _ _ _ _ _ => (pts_one (pt_val (pe_call GNr hr2 rfl DNr.g DNr.F.kp DNr.b .nil pass0 (pa_cons (pe_op op_cat (pe_op op_cat (pe_lst (pa_cons (pe_ix ix_tup (pv 10) pe_int (fun _ _ => rfl)) (pa_cons (pe_ix ix_tup (pv 10) pe_int (fun _ _ => rfl)) pa_nil))) (pe_ix ix_tup (pv 10) pe_int (fun _ _ => rfl))) (pe_ix ix_tup (pv 10) pe_int (fun _ _ => rfl))) pa_nil))))) (fun _ _ _ _ _ => (pv 10))))))), ?_⟩
    rw [show L2.start ["_law_s", "_law_spoils", "_law_sorts", "_law_words", "_law_found_here", "_law_k", "_law_at", "_law_below", "_law_maker", "_law_made", "_law_one", "_law_known", "_law_down", "_law_up"] [V.ref p, V.ref ls, V.ref lso, V.ref lwo] = [some (.ref p), some (.ref ls), some (.ref lso), some (.ref lwo), none, none, none, none, none, none, none, none, none, none] from rfl]
    refine ⟨Nat.zero_le _, fun Fa hFa => ?_⟩
    dsimp only [gName, List.set_cons_succ, List.set_cons_zero]
    have nFp : Fa ≠ p := st_free W.s hFa
    have fF : H Fa = none := hFa
    have T0 : Same H (upd H Fa (.lst [])) := Same.upd hFa
    have e0 : (upd H Fa (.lst [])) Fa = some (.lst []) := upd_same
    have W0 := W.kp (Same.kp T0) (W.s.same T0)
    generalize upd H Fa (.lst []) = H0 at T0 e0 W0
    refine ⟨_, rfl, p, 5, rfl, W0.s, by decide, by decide, fun dn H1 n0 n5 B1 S1 => ⟨dn, rfl, by omega, by omega, ?_⟩⟩
    have W1 := W0.kp (B1.kp W0.s) S1
    have e1 := B1 _ _ nFp e0
    have B01 : But p H H1 := (Same.but T0).trans B1
    refine for_range (n := _) (fun i σ H' => (∃ u5 u6 u7 u8 u9 u11 u12 u13, σ = [some (.ref p), some (.ref ls), some (.ref lso), some (.ref lwo), some (.ref Fa), u5, u6, u7, u8, u9, none, u11, u12, u13]) ∧ But p H H' ∧ De H' p ls lso lwo ss ws ∧ ∃ (ts : List Addr) (xs : List MkD), H' Fa = some (.lst (ts.map V.ref)) ∧ AllAt (MtN Fa H') ts xs ∧ xs.length ≤ i ∧ ∀ x ∈ xs, MkOk1 x) ⟨⟨_, _, _, _, _, _, _, _, rfl⟩, B01, W1, [], [], e1, True.intro, Nat.le_refl _, fun x hx => (List.not_mem_nil hx).elim⟩ ?_ ?_
    · rintro i σ H2 hi ⟨⟨u5, u6, u7, u8, u9, u11, u12, u13, rfl⟩, B2, W2, ts, xs, hF2, am, xl, xok⟩
      dsimp only [gName, List.set_cons_succ, List.set_cons_zero]
      have nso : lso ≠ p := But.ne W2.s W2.hs ns_strs
      have sl := W2.s20
      refine ⟨_, rfl, _, rfl, lso, _, rfl, .inl (SqL.of W2.hs), _, _, rfl, p, _, rfl, W2.s, by split <;> omega, by rw [List.length_map]; split <;> omega, fun at0 H3 a0 a1 B3 S3 => ?_⟩
      dsimp only [gName, List.set_cons_succ, List.set_cons_zero]
      obtain ⟨n, rfl⟩ : ∃ n : Nat, at0 = (n : Int) := ⟨at0.toNat, by omega⟩
      have W3 := W2.kp (B3.kp W2.s) S3
      have hF3 := B3 _ _ nFp hF2
      have am3 := am.imp fun _ _ q => q.kp (B3.kp W2.s)
      obtain ⟨ja, jb, hls⟩ := W3.l
      -- below
      refine cut1 (fun σ' H' => ∃ (lb : Addr) (bs : List Str), σ' = [some (.ref p), some (.ref ls), some (.ref lso), some (.ref lwo), some (.ref Fa), some (.int (0 + (i : Int))), some (.int (n : Int)), some (.ref lb), u8, u9, none, u11, u12, u13] ∧ Same H3 H' ∧ H' lb = some (.lst (bs.map V.str)) ∧ bs.length ≤ 21 ∧ ∀ z ∈ bs, Dr z) ?_ ?_
      rotate_left
      · intro R fin
        refine ⟨_, rfl, _, rfl, _, _, rfl, rfl, _, rfl, lso, _, rfl, SqL.of W3.hs, fun c hc => ?_⟩
        have ec : cutV (ss.map V.str) (some ((n : Int) + 1)) none = (ss.drop (n + 1)).map V.str := by
          rw [show ((n : Int) + 1) = ((n + 1 : Nat) : Int) by omega, cut_drop, List.map_drop]
        rw [ec]
        have T4 : Same H3 (upd H3 c (.lst ((ss.drop (n + 1)).map V.str))) := Same.upd hc
        have e4 : (upd H3 c (.lst ((ss.drop (n + 1)).map V.str))) c = some (.lst ((ss.drop (n + 1)).map V.str)) := upd_same
        generalize upd H3 c (.lst ((ss.drop (n + 1)).map V.str)) = H4 at T4 e4
        refine ⟨by show 1 ≤ sizeLine; decide, fun l hl => ?_⟩
        have T5 : Same H4 (upd H4 l (.lst [.str STRANGE])) := Same.upd hl
        have e5 : (upd H4 l (.lst [.str STRANGE])) l = some (.lst [.str STRANGE]) := upd_same
        have e45 := T5 _ _ e4
        generalize upd H4 l (.lst [.str STRANGE]) = H5 at T5 e5 e45
        refine ⟨_, rfl, ls, _, rfl, .inl (SqL.of (T5 _ _ (T4 _ _ hls))), rfl, rfl, .inr ⟨_, rfl, ?_⟩⟩
        generalize (if false = true then !inV (V.int 8) [V.int ja, V.int jb] else inV (V.int 8) [V.int ja, V.int jb]) = b8
        obtain ⟨us, hus, u1, uok⟩ : ∃ us : List Str, (List.replicate (if b8 = true then (1 : Int) else 0).toNat [V.str STRANGE]).flatten = us.map V.str ∧ us.length ≤ 1 ∧ ∀ z ∈ us, Dr z := by
          cases b8
          · exact ⟨[], rfl, Nat.zero_le _, fun z hz => (List.not_mem_nil hz).elim⟩
          · exact ⟨[STRANGE], rfl, Nat.le_refl _, fun z hz => by rw [List.mem_singleton.mp hz]; exact str_ok'⟩
        refine ⟨l, _, _, rfl, rfl, e5, by cases b8 <;> decide, by cases b8 <;> decide, by cases b8 <;> decide, fun lr hlr => ?_⟩
        rw [hus]
        have e6 : (upd H5 lr (.lst (us.map V.str))) c = some (.lst ((ss.drop (n + 1)).map V.str)) := (Same.upd hlr) _ _ e45
        have f6 : (upd H5 lr (.lst (us.map V.str))) lr = some (.lst (us.map V.str)) := upd_same
        have T6 : Same H5 (upd H5 lr (.lst (us.map V.str))) := Same.upd hlr
        generalize upd H5 lr (.lst (us.map V.str)) = H6 at T6 e6 f6
        refine ⟨c, lr, _, _, rfl, rfl, e6, f6, ?_, fun lb hlb => ?_⟩
        · rw [List.length_map, List.length_map, List.length_drop]
          exact Nat.le_trans (show _ ≤ 1000 by omega) (by decide)
        refine fin _ _ ⟨lb, ss.drop (n + 1) ++ us, rfl, T4.trans (T5.trans (T6.trans (Same.upd hlb))), by rw [upd_same, List.map_append], by rw [List.length_append, List.length_drop]; omega, fun z hz => ?_⟩
        rcases List.mem_append.mp hz with q | q
        · exact W3.so z (List.mem_of_mem_drop q)
        · exact uok z q
      rintro σ' H4 ⟨lb0, bs0, rfl, T4, hlb0, bl0, bok0⟩
      refine cut1 (fun σ' H' => ∃ (lb : Addr) (bs : List Str), σ' = [some (.ref p), some (.ref ls), some (.ref lso), some (.ref lwo), some (.ref Fa), some (.int (0 + (i : Int))), some (.int (n : Int)), some (.ref lb), u8, u9, none, u11, u12, u13] ∧ Same H3 H' ∧ H' lb = some (.lst (bs.map V.str)) ∧ bs.length ≤ 50 ∧ ∀ z ∈ bs, Dr z) ?_ ?_
      rotate_left
      · intro R fin
        refine ⟨_, rfl, _, rfl, _, rfl, ls, _, rfl, .inl (SqL.of (T4 _ _ hls)), rfl, rfl, .inr ⟨_, rfl, ?_⟩⟩
        generalize (if false = true then !inV (V.int 9) [V.int ja, V.int jb] else inV (V.int 9) [V.int ja, V.int jb]) = b9
        obtain ⟨us, hus, u1, uok⟩ : ∃ us : List Str, (List.replicate (if b9 = true then (1 : Int) else 0).toNat (ss.map V.str)).flatten = us.map V.str ∧ us.length ≤ 20 ∧ ∀ z ∈ us, Dr z := by
          cases b9
          · exact ⟨[], rfl, Nat.zero_le _, fun z hz => (List.not_mem_nil hz).elim⟩
          · exact ⟨ss, by show (ss.map V.str) ++ [] = _; rw [List.append_nil], sl, W3.so⟩
        have sz : (ss.map V.str).length * (if b9 = true then (1 : Int) else 0).toNat ≤ sizeLine := by
          rw [List.length_map]
          refine Nat.le_trans (show _ ≤ 1000 from ?_) (by decide)
          cases b9
          · exact Nat.zero_le _
          · show ss.length * 1 ≤ 1000
            omega
        refine ⟨lso, _, _, rfl, rfl, T4 _ _ W3.hs, by cases b9 <;> decide, by cases b9 <;> decide, sz, fun lr hlr => ?_⟩
        rw [hus]
        have e6 : (upd H4 lr (.lst (us.map V.str))) lb0 = some (.lst (bs0.map V.str)) := (Same.upd hlr) _ _ hlb0
        have f6 : (upd H4 lr (.lst (us.map V.str))) lr = some (.lst (us.map V.str)) := upd_same
        have T6 : Same H4 (upd H4 lr (.lst (us.map V.str))) := Same.upd hlr
        generalize upd H4 lr (.lst (us.map V.str)) = H6 at T6 e6 f6
        refine ⟨lb0, lr, _, _, rfl, rfl, e6, f6, ?_, fun lb hlb => ?_⟩
        · rw [List.length_map, List.length_map]
          exact Nat.le_trans (show _ ≤ 1000 by omega) (by decide)
        refine fin _ _ ⟨lb, bs0 ++ us, rfl, T4.trans (T6.trans (Same.upd hlb)), by rw [upd_same, List.map_append], by rw [List.length_append]; omega, fun z hz => ?_⟩
        rcases List.mem_append.mp hz with q | q
        · exact bok0 z q
        · exact uok z q
      clear hlb0 bl0 bok0 T4
      rintro σ' H5 ⟨lb, bs, rfl, T5, hlb, bl, bok⟩
      have W5 := W3.kp (Same.kp T5) (S3.same T5)
      have hF5 := T5 _ _ hF3
      have am5 := am3.imp fun _ _ q => q.kp (Same.kp T5)
      have B5 : But p H H5 := B2.trans (B3.trans (Same.but T5))
      clear am am3 W3 hF2 hF3 T5
      refine ⟨_, rfl, lso, _, rfl, .inl (SqL.of W5.hs), _, rfl, _, _, rfl, rfl, _, rfl, ite2 (fun big => ?_) (fun _ => iteF ⟨⟨_, _, _, _, _, _, _, _, rfl⟩, B5, W5, ts, xs, hF5, am5, by omega, xok⟩)⟩
      have big : (n : Int) < ((ss.map V.str).length : Int) := of_decide_eq_true big
      rw [List.length_map] at big
      refine ⟨_, rfl, Nat.zero_le _, fun le hle => ?_⟩
      have T6 : Same H5 (upd H5 le (.lst [])) := Same.upd hle
      have e6 : (upd H5 le (.lst [])) le = some (.lst []) := upd_same
      generalize upd H5 le (.lst []) = H6 at T6 e6
      have W6 := W5.kp (Same.kp T6) (W5.s.same T6)
      have hF6 := T6 _ _ hF5
      have am6 := am5.imp fun _ _ q => q.kp (Same.kp T6)
      have B6 : But p H H6 := B5.trans (Same.but T6)
      have hlb6 := T6 _ _ hlb
      refine ⟨.list (bs.map PyData.str), .list [], .lst (SqL.of hlb6) (dp_ss bs), .lst (SqL.of e6) .nil, ss_sh fun z hz => (bok z hz).2, by decide +kernel, _, rfl, ?_⟩
      rw [ss_nil]
      refine ite2 (fun ne => ?_) (fun _ => ⟨⟨_, _, _, _, _, _, _, _, rfl⟩, B6, W6, ts, xs, hF6, am6, by omega, xok⟩)
      have ne : bs ≠ [] := fun e => by
        rw [decide_eq_true e] at ne
        cases ne
      have l1 : 1 ≤ bs.length := List.length_pos_iff.mpr ne
      have nl : n < ss.length := by omega
      obtain ⟨mr, hmr, dmr⟩ : ∃ z, (ss.map V.str)[n]? = some (.str z) ∧ Dr z := ⟨ss[n], by rw [List.getElem?_map, List.getElem?_eq_getElem nl]; rfl, W6.so _ (List.getElem_mem nl)⟩
      refine ⟨_, rfl, _, rfl, rdList W6.hs (j := n) rfl hmr ?_⟩
      dsimp only [gName, List.set_cons_succ, List.set_cons_zero]
      have nlb : lb ≠ p := But.ne W6.s hlb6 ns_strs
      refine ⟨_, rfl, _, rfl, _, rfl, lb, _, rfl, .inl (SqL.of hlb6), p, _, rfl, W6.s, by rw [List.length_map]; omega, by rw [List.length_map]; omega, fun d7 H7 a7 b7 B7 S7 => ?_⟩
      rw [List.length_map] at b7
      obtain ⟨md, hmd, dmd⟩ := list_at bok a7 b7
      refine rdList (B7 _ _ nlb hlb6) (j := d7.toNat) (by omega) hmd ?_
      dsimp only [gName, List.set_cons_succ, List.set_cons_zero]
      have W7 := W6.kp (B7.kp W6.s) S7
      have hF7 := B7 _ _ nFp hF6
      have am7 := am6.imp fun _ _ q => q.kp (B7.kp W6.s)
      have B07 : But p H H7 := B6.trans B7
      clear am5 am6 hF5 hF6 W5 W6
      -- the pairs that are known
      refine ⟨_, rfl, Fa, rfl, ⟨_, SqL.of hF7⟩, fun D hD => ?_⟩
      refine lc_list (K := K) (a := Fa) (xs := ts.map V.ref) (fun j H' => Same H7 H' ∧ ∃ qs : List Addr, H' D = some (.lst (qs.map V.ref)) ∧ RowsAt K H' qs (((xs.map fun x => (x.mr, x.md)).take j).map prV) ∧ qs.length = j) ⟨Same.upd hD, [], upd_same, True.intro, rfl⟩ (fun j H' _ h => SqL.of (h.1 _ _ hF7)) ?_ ?_
      · rintro j y H8 hy ⟨T8, qs, hD8, rows, ql⟩
        obtain ⟨a, x, rfl, hx, l1', l2', _, _, h1, _, _⟩ := am7.get hy
        have h8 := T8 _ _ h1
        have jl : j < xs.length := (List.getElem?_eq_some_iff.mp hx).1
        refine ⟨rfl, _, rfl, a, _, 0, _, rfl, rfl, SqT.of h8, atI_nat (j := 0) rfl, _, rfl, a, _, 1, _, rfl, rfl, SqT.of h8, atI_nat (j := 1) rfl, by show 2 ≤ sizeLine; decide, fun t ht => ?_⟩
        have T9 : Same H8 (upd H8 t (.tup [.str x.mr, .str x.md])) := Same.upd ht
        have e9 : (upd H8 t (.tup [.str x.mr, .str x.md])) t = some (.tup (prV (x.mr, x.md))) := upd_same
        generalize upd H8 t (.tup [.str x.mr, .str x.md]) = H9 at T9 e9
        have hD9 := T9 _ _ hD8
        refine ⟨_, hD9, ?_, fun b o e => ?_, qs ++ [t], ?_, ?_, ?_⟩
        · rw [List.length_map]
          exact Nat.lt_of_le_of_lt (show _ ≤ 1000 by omega) (by decide)
        · rw [upd_ne (ne_of_none e hD)]
          exact T9 _ _ (T8 _ _ e)
        · rw [upd_same, List.map_append]
          rfl
        · rw [List.take_add_one, List.getElem?_map, hx, List.map_append]
          exact RowsAt.append (rows_put hD9 (rows.same T9)) ⟨sqT_put hD9 (SqT.of e9), True.intro⟩
        · rw [List.length_append, ql]
          rfl
      rintro H8 ⟨T8, qs, hD8, rows, ql⟩
      rw [List.length_map] at ql
      rw [List.length_map, am7.len, List.take_of_length_le (by rw [List.length_map]; omega)] at rows
      dsimp only [gName, List.set_cons_succ, List.set_cons_zero]
      have W8 := W7.kp (Same.kp T8) (S7.same T8)
      have hF8 := T8 _ _ hF7
      have am8 := am7.imp fun _ _ q => q.kp (Same.kp T8)
      have B08 : But p H H8 := B07.trans (Same.but T8)
      clear am7 hF7 W7
      obtain ⟨ja, jb, hls8⟩ := W8.l
      have xs20 : xs.length ≤ 20 := by omega
      apply share (C := fun H9 => Same H8 H9)
      · intro els
        refine ⟨_, rfl, ls, _, rfl, .inl (SqL.of hls8), rfl, rfl, _, rfl, ite2 (fun _ => ?_) (fun _ => ?_)⟩
        · refine iteT ?_
          exact els H8 (Same.refl H8)
        refine ⟨_, rfl, _, rfl, by show 2 ≤ sizeLine; decide, fun t ht => ?_⟩
        have T9 : Same H8 (upd H8 t (.tup [.str mr, .str md])) := Same.upd ht
        have e9 : (upd H8 t (.tup [.str mr, .str md])) t = some (.tup [.str mr, .str md]) := upd_same
        have hD9 := T9 _ _ hD8
        have rows9 := rows.same T9
        generalize upd H8 t (.tup [.str mr, .str md]) = H9 at T9 e9 hD9 rows9
        obtain ⟨q1, q2⟩ := prs_sh (ps := xs.map fun x => (x.mr, x.md)) fun y hy => by
          obtain ⟨x, hx, rfl⟩ := List.mem_map.mp hy
          exact ⟨(xok x hx).mr.2, (xok x hx).md.2⟩
        have shl : SeqAt.shaped (.list ((xs.map fun x => (x.mr, x.md)).map prD)) = true := by
          generalize (xs.map fun x => (x.mr, x.md)).map prD = X at q1 q2
          simp [SeqAt.shaped, PyData.canLay0, PyData.depth, q1]
          omega
        have shp : SeqAt.shaped (prD (mr, md)) = true := by
          have sa := strOk_of dmr.2
          have sb := strOk_of dmd.2
          simp [prD, SeqAt.shaped, PyData.canLay0, PyData.canLayAll0, PyData.depth, PyData.depthAll, sa, sb]
        refine ⟨_, rfl, prD (mr, md), _, .tup (SqT.of e9) (.cons (.str _) (.cons (.str _) .nil)), .lst (SqL.of hD9) (prs_dp rows9), shp, shl, _, rfl, ite2 (fun _ => els H9 T9) (fun _ => ?_)⟩
        exact ⟨⟨_, _, _, _, _, _, _, _, rfl⟩, B08.trans (Same.but T9), W8.kp (Same.kp T9) (W8.s.same T9), ts, xs, T9 _ _ hF8, am8.imp fun _ _ q => q.kp (Same.kp T9), by omega, xok⟩
      · rintro H9 T9
        have W9 := W8.kp (Same.kp T9) (W8.s.same T9)
        have hF9 := T9 _ _ hF8
        have am9 := am8.imp fun _ _ q => q.kp (Same.kp T9)
        have B09 : But p H H9 := B08.trans (Same.but T9)
        have w20 := W9.w20
        refine ⟨_, rfl, _, rfl, _, rfl, ls, _, rfl, .inl (SqL.of (T9 _ _ hls8)), rfl, rfl, p, lwo, _, ws, rfl, W9.s, W9.hw, by omega, W9.wo, fun z1 Ha d1 Ba Sa => ⟨by show 1 ≤ sizeLine; decide, fun k1 hk1 => ?_⟩⟩
        have nk1 : k1 ≠ p := st_free Sa hk1
        have Ta : Same Ha (upd Ha k1 (.lst [.str z1])) := Same.upd hk1
        have ea : (upd Ha k1 (.lst [.str z1])) k1 = some (.lst [.str z1]) := upd_same
        have Sa' := Sa.same Ta
        generalize upd Ha k1 (.lst [.str z1]) = Hb at Ta ea Sa'
        have ka : Kp H9 Hb := (Ba.kp W9.s).trans (Same.kp Ta)
        have Wb := W9.kp ka Sa'
        obtain ⟨ja', jb', hlsb⟩ := Wb.l
        dsimp only [gName, List.set_cons_succ, List.set_cons_zero]
        refine ⟨_, rfl, _, rfl, _, rfl, ls, _, rfl, .inl (SqL.of hlsb), rfl, rfl, p, lwo, _, ws, rfl, Wb.s, Wb.hw, by omega, Wb.wo, fun z2 Hc d2 Bc Sc => ⟨by show 1 ≤ sizeLine; decide, fun k2 hk2 => ?_⟩⟩
        have nk2 : k2 ≠ p := st_free Sc hk2
        have Tc : Same Hc (upd Hc k2 (.lst [.str z2])) := Same.upd hk2
        have ec2 : (upd Hc k2 (.lst [.str z2])) k2 = some (.lst [.str z2]) := upd_same
        have Sc' := Sc.same Tc
        have ec1 := Tc _ _ (Bc _ _ nk1 ea)
        generalize upd Hc k2 (.lst [.str z2]) = Hd at Tc ec2 Sc' ec1
        have kd : Kp H9 Hd := ka.trans ((Bc.kp Wb.s).trans (Same.kp Tc))
        have Bd : But p H Hd := B09.trans (Ba.trans ((Same.but Ta).trans (Bc.trans (Same.but Tc))))
        dsimp only [gName, List.set_cons_succ, List.set_cons_zero]
        refine ⟨_, rfl, .inl ⟨rfl, _, SqL.of (kd _ _ ns_refs hF9)⟩, _, rfl, _, rfl, _, rfl, _, rfl, p, 2, rfl, Sc', by decide, by decide, fun r1 He a1 b1 Be Se => ?_⟩
        obtain ⟨us, hus, u1, uok⟩ := rep01 d1 a1 b1
        refine ⟨k1, r1, _, rfl, rfl, Be _ _ nk1 ec1, by omega, by omega, Nat.le_trans (show 1 * r1.toNat ≤ 1 by omega) (by decide), fun g1 hg1 => ?_⟩
        rw [hus]
        have ng1 : g1 ≠ p := st_free Se hg1
        have Te : Same He (upd He g1 (.lst (us.map V.str))) := Same.upd hg1
        have ee : (upd He g1 (.lst (us.map V.str))) g1 = some (.lst (us.map V.str)) := upd_same
        have Se' := Se.same Te
        have ee2 := Te _ _ (Be _ _ nk2 ec2)
        have hFe : (upd He g1 (.lst (us.map V.str))) Fa = some (.lst (ts.map V.ref)) := Te _ _ (Be _ _ nFp (kd _ _ ns_refs hF9))
        have nFg1 : g1 ≠ Fa := (ne_of_none (Be _ _ nFp (kd _ _ ns_refs hF9)) hg1).symm
        generalize upd He g1 (.lst (us.map V.str)) = Hf at Te ee Se' ee2 hFe
        refine ⟨_, rfl, _, rfl, p, 2, rfl, Se', by decide, by decide, fun r2 Hg a2 b2 Bg Sg => ?_⟩
        obtain ⟨vs, hvs, v1, vok⟩ := rep01 d2 a2 b2
        refine ⟨k2, r2, _, rfl, rfl, Bg _ _ nk2 ee2, by omega, by omega, Nat.le_trans (show 1 * r2.toNat ≤ 1 by omega) (by decide), fun g2 hg2 => ?_⟩
        rw [hvs]
        have Tg : Same Hg (upd Hg g2 (.lst (vs.map V.str))) := Same.upd hg2
        have eg : (upd Hg g2 (.lst (vs.map V.str))) g2 = some (.lst (vs.map V.str)) := upd_same
        have Sg' := Sg.same Tg
        have eg1 := Tg _ _ (Bg _ _ ng1 ee)
        have hFg := Tg _ _ (Bg _ _ nFp hFe)
        have nFg2 : g2 ≠ Fa := (ne_of_none (Bg _ _ nFp hFe) hg2).symm
        generalize upd Hg g2 (.lst (vs.map V.str)) = Hh at Tg eg Sg' eg1 hFg
        have kh : Kp H9 Hh := kd.trans ((Be.kp Sc').trans ((Same.kp Te).trans ((Bg.kp Se').trans (Same.kp Tg))))
        have Bh : But p H Hh := Bd.trans (Be.trans ((Same.but Te).trans (Bg.trans (Same.but Tg))))
        refine ⟨by show 4 ≤ sizeLine; decide, fun t ht => ?_⟩
        have nFt : Fa ≠ t := ne_of_none hFg ht
        have Ti : Same Hh (upd Hh t (.tup [.str mr, .str md, .ref g1, .ref g2])) := Same.upd ht
        have ei : (upd Hh t (.tup [.str mr, .str md, .ref g1, .ref g2])) t = some (.tup [.str mr, .str md, .ref g1, .ref g2]) := upd_same
        have Si := Sg'.same Ti
        have ei1 := Ti _ _ eg1
        have ei2 := Ti _ _ eg
        have hFi := Ti _ _ hFg
        generalize upd Hh t (.tup [.str mr, .str md, .ref g1, .ref g2]) = Hi at Ti ei Si ei1 ei2 hFi
        have ki : Kp H9 Hi := kh.trans (Same.kp Ti)
        have Bi : But p H Hi := Bh.trans (Same.but Ti)
        have Wi := W9.kp ki Si
        have tl := am9.len
        refine ⟨Fa, _, _, rfl, rfl, hFi, ?_, ⟨_, _, _, _, _, _, _, _, rfl⟩, but_new Bi nFp fF, ?_, ts ++ [t], xs ++ [⟨mr, md, us, vs⟩], ?_, ?_, ?_, fun x hx => ?_⟩
        · rw [List.length_map]
          exact Nat.lt_of_le_of_lt (show _ ≤ 1000 by omega) (by decide)
        · obtain ⟨x1, x2, e⟩ := Wi.l
          refine ⟨Si.upd nFp, ⟨x1, x2, (upd_ne ?_).trans e⟩, (upd_ne ?_).trans Wi.hs, (upd_ne ?_).trans Wi.hw, Wi.s20, Wi.w20, Wi.so, Wi.wo⟩
          · exact ne_of_none (W.l.choose_spec.choose_spec) fF
          · exact ne_of_none W.hs fF
          · exact ne_of_none W.hw fF
        · rw [upd_same, List.map_append]
          rfl
        · refine AllAt.put1 (am9.imp fun _ _ q => (q.kp ki).put hFi) ⟨g1, g2, nFg1, nFg2, (upd_ne nFt.symm).trans ei, (upd_ne nFg1).trans ei1, (upd_ne nFg2).trans ei2⟩
        · rw [List.length_append, List.length_singleton]
          omega
        · rcases List.mem_append.mp hx with q | q
          · exact xok x q
          · rw [List.mem_singleton.mp q]
            exact ⟨dmr, dmd, uok, vok, u1, v1⟩
    · rintro σ H2 ⟨⟨u5, u6, u7, u8, u9, u11, u12, u13, rfl⟩, B2, W2, ts, xs, hF2, am, xl, xok⟩
      refine ⟨_, rfl, Fa, rfl, ⟨_, SqL.of hF2⟩, fun D hD => ?_⟩
      have nDp : D ≠ p := st_free W2.s hD
      have tl := am.len
      refine lc_list (K := K) (a := Fa) (xs := ts.map V.ref) (fun j H' => Same H2 H' ∧ ∃ (ts' : List Addr) (xs' : List MkD), H' D = some (.lst (ts'.map V.ref)) ∧ AllAt (MtAt H2) ts' xs' ∧ xs'.length ≤ j ∧ ∀ x ∈ xs', MkOk1 x ∧ ∀ z ∈ mkTx x, isNm z = true) ⟨Same.upd hD, [], [], upd_same, True.intro, Nat.le_refl _, fun x hx => (List.not_mem_nil hx).elim⟩ (fun j H' _ h => SqL.of (h.1 _ _ hF2)) ?_ ?_
      · rintro j y H3 hy ⟨T3, ts', xs', hD3, am', xl', xok'⟩
        obtain ⟨a, x, rfl, hx, hmt⟩ := am.get hy
        obtain ⟨l1, l2, h1, h2, h3⟩ := MtN.at hmt
        have il : j < xs.length := (List.getElem?_eq_some_iff.mp hx).1
        have ox := xok x (List.mem_of_getElem? hx)
        have a3 := T3 _ _ h1
        have o1 := ox.d1
        have o2 := ox.u1
        refine ⟨rfl, _, rfl, a, _, 0, _, rfl, rfl, SqT.of a3, atI_nat (j := 0) rfl, _, rfl, a, _, 1, _, rfl, rfl, SqT.of a3, atI_nat (j := 1) rfl, by show 2 ≤ sizeLine; decide, fun c0 hc0 => ?_⟩
        have T4 : Same H3 (upd H3 c0 (.lst [.str x.mr, .str x.md])) := Same.upd hc0
        have e4 : (upd H3 c0 (.lst [.str x.mr, .str x.md])) c0 = some (.lst [.str x.mr, .str x.md]) := upd_same
        generalize upd H3 c0 (.lst [.str x.mr, .str x.md]) = H4 at T4 e4
        have T34 := T3.trans T4
        refine ⟨_, rfl, a, _, 2, _, rfl, rfl, SqT.of (T34 _ _ h1), atI_nat (j := 2) rfl, c0, l1, _, _, rfl, rfl, e4, T34 _ _ h2, ?_, fun c1 hc1 => ?_⟩
        · rw [List.length_map]
          exact Nat.le_trans (show 2 + _ ≤ 1000 by omega) (by decide)
        have T5 : Same H4 (upd H4 c1 (.lst ([.str x.mr, .str x.md] ++ x.dn.map V.str))) := Same.upd hc1
        have e5 : (upd H4 c1 (.lst ([.str x.mr, .str x.md] ++ x.dn.map V.str))) c1 = some (.lst (([x.mr, x.md] ++ x.dn).map V.str)) := by rw [upd_same, List.map_append]; rfl
        generalize upd H4 c1 (.lst ([.str x.mr, .str x.md] ++ x.dn.map V.str)) = H5 at T5 e5
        have T35 := T34.trans T5
        refine ⟨_, rfl, a, _, 3, _, rfl, rfl, SqT.of (T35 _ _ h1), atI_nat (j := 3) rfl, c1, l2, _, _, rfl, rfl, e5, T35 _ _ h3, ?_, fun c2 hc2 => ?_⟩
        · rw [List.length_map, List.length_map, List.length_append]
          exact Nat.le_trans (show 2 + _ + _ ≤ 1000 by omega) (by decide)
        have T6 : Same H5 (upd H5 c2 (.lst (([x.mr, x.md] ++ x.dn).map V.str ++ x.up.map V.str))) := Same.upd hc2
        have e6 : (upd H5 c2 (.lst (([x.mr, x.md] ++ x.dn).map V.str ++ x.up.map V.str))) c2 = some (.lst ((mkTx x).map V.str)) := by
          rw [upd_same]
          unfold mkTx
          rw [List.map_append (l₁ := [x.mr, x.md] ++ x.dn)]
        generalize upd H5 c2 (.lst (([x.mr, x.md] ++ x.dn).map V.str ++ x.up.map V.str)) = H6 at T6 e6
        have dtx : ∀ z ∈ mkTx x, Dr z := fun z hz => by
          unfold mkTx at hz
          rcases List.mem_append.mp hz with q | q
          · rcases List.mem_append.mp q with q | q
            · have q : z = x.mr ∨ z = x.md := by simpa using q
              rcases q with q | q <;> rw [q]
              · exact ox.mr
              · exact ox.md
            · exact ox.dn z q
          · exact ox.up z q
        refine ⟨c2, mkTx x, rfl, e6, ?_, fun z hz => Nat.le_trans (dtx z hz).1 (by decide), fun H7 S7 => ⟨_, rfl, ?_⟩⟩
        · unfold mkTx
          rw [List.length_append, List.length_append]
          show 2 + _ + _ ≤ 1000
          omega
        have T7 := T35.trans (T6.trans S7)
        have hD7 := S7 _ _ (T6 _ _ (T5 _ _ (T4 _ _ hD3)))
        have tl' := am'.len
        cases al : (mkTx x).all isNm with
        | false => exact iteF ⟨T7, ts', xs', hD7, am', by omega, xok'⟩
        | true =>
          refine iteT ⟨_, rfl, _, hD7, ?_, fun q o e => ?_, ts' ++ [a], xs' ++ [x], ?_, AllAt.put1 am' hmt.at, ?_, fun y hy => ?_⟩
          · rw [List.length_map]
            exact Nat.lt_of_le_of_lt (show _ ≤ 1000 by omega) (by decide)
          · rw [upd_ne (ne_of_none e hD)]
            exact T7 _ _ e
          · rw [upd_same, List.map_append]
            rfl
          · rw [List.length_append, List.length_singleton]
            omega
          · rcases List.mem_append.mp hy with q | q
            · exact xok' y q
            · rw [List.mem_singleton.mp q]
              exact ⟨ox, fun z hz => List.all_eq_true.mp al z hz⟩
      · rintro H3 ⟨T3, ts', xs', hD3, am', xl', xok'⟩
        rw [List.length_map] at xl'
        exact k D H3 ts' xs' (B2.trans (Same.but T3)) (W2.s.same T3) hD3 (am'.imp fun _ _ q => q.kp (Same.kp T3)) (by omega) xok'
end
end Wm
namespace Wm
open PySem L2 StX
abbrev scCmp : Scope := { kind := .function, names := [(".0", .local), ("_law_one", .local), ("_law_names_right", .globalImplicit)], isGenerator := false, isCoroutine := false }
theorem low_let : ∀ c : Fin 123, 97 ≤ c.1 → c.1 ∈ LET := by decide +kernel
theorem fig_fig : ∀ c : Fin 58, 48 ≤ c.1 → c.1 ∈ FIG := by decide +kernel
theorem nm_is {z : Str} (h : NmP z) (hl : z.length ≤ 12) : isNm z = true := by
  obtain ⟨c, cs, e, l, r⟩ := h
  have ol : ∀ d, lowC d → d ∈ LET := fun d q => low_let ⟨d, Nat.lt_succ_of_le q.2⟩ q.1
  have of' : ∀ d, figC d → d ∈ FIG := fun d q => fig_fig ⟨d, Nat.lt_succ_of_le q.2⟩ q.1
  have hlen : z.length = (c :: cs).length := by
    rw [← e]
    exact (Array.length_toList).symm
  unfold isNm
  rw [e]
  have a1 : (c :: cs).all okc = true := by
    rw [List.all_eq_true]
    intro d hd
    unfold okc
    rcases List.mem_cons.mp hd with h | h
    · rw [h, decide_eq_true (ol c l)]
      rfl
    · rcases r d h with q | q
      · rw [decide_eq_true (ol d q)]
        rfl
      · rw [decide_eq_true (of' d q), Bool.or_true]
  have a2 : first (c :: cs) = true := by
    unfold first
    exact decide_eq_true (ol c l)
  rw [a1, a2, decide_eq_true hl]
  simp [hlen]

/-- a pattern as the law writes it: (name, [kind, kind], [word, word]) -/
structure PaT where
  nm : Str
  k0 : Option Str
  k1 : Option Str
  w0 : Str
  w1 : Str
def PtN (F : Addr) (H : Hp) (t : Addr) (x : PaT) : Prop := ∃ l1 l2, l1 ≠ F ∧ l2 ≠ F ∧ H t = some (.tup [.str x.nm, .ref l1, .ref l2]) ∧ H l1 = some (.lst [sortV x.k0, sortV x.k1]) ∧ H l2 = some (.lst [.str x.w0, .str x.w1])
def PtAt (H : Hp) (t : Addr) (x : PaT) : Prop := ∃ l1 l2, H t = some (.tup [.str x.nm, .ref l1, .ref l2]) ∧ H l1 = some (.lst [sortV x.k0, sortV x.k1]) ∧ H l2 = some (.lst [.str x.w0, .str x.w1])
theorem ns_pair {a b : V} : NotSt (.lst [a, b]) := fun _ _ _ z => by cases z
theorem PtN.at {F : Addr} {H : Hp} {t : Addr} {x : PaT} (h : PtN F H t x) : PtAt H t x := by
  obtain ⟨l1, l2, _, _, a, b, c⟩ := h
  exact ⟨l1, l2, a, b, c⟩
theorem PtAt.kp {H H' : Hp} {t : Addr} {x : PaT} (k : Kp H H') (h : PtAt H t x) : PtAt H' t x := by
  obtain ⟨l1, l2, a, b, c⟩ := h
  exact ⟨l1, l2, k _ _ ns_tup a, k _ _ ns_pair b, k _ _ ns_pair c⟩
theorem PtN.kp {F : Addr} {H H' : Hp} {t : Addr} {x : PaT} (k : Kp H H') (h : PtN F H t x) : PtN F H' t x := by
  obtain ⟨l1, l2, n1, n2, a, b, c⟩ := h
  exact ⟨l1, l2, n1, n2, k _ _ ns_tup a, k _ _ ns_pair b, k _ _ ns_pair c⟩
theorem PtN.put {F : Addr} {H : Hp} {t : Addr} {x : PaT} {ys zs : List V} (hF : H F = some (.lst ys)) (h : PtN F H t x) : PtN F (upd H F (.lst zs)) t x := by
  obtain ⟨l1, l2, n1, n2, a, b, c⟩ := h
  exact ⟨l1, l2, n1, n2, (upd_ne (ne_of a hF (by intro z; cases z))).trans a, (upd_ne n1).trans b, (upd_ne n2).trans c⟩
def Nm1 (z : Str) : Prop := Dr z ∧ isNm z = true
structure PaOk0 (x : PaT) : Prop where
  nm : Nm1 x.nm
  k0 : ∀ z, x.k0 = some z → Dr z
  k1 : ∀ z, x.k1 = some z → Dr z
  w0 : Dr x.w0
  w1 : Dr x.w1
def paTx (x : PaT) : List Str := (x.k0.toList ++ x.k1.toList) ++ [x.w0, x.w1]
def spPat : Sp := fun vs H Q _ => ∃ (p ls lso lwo : Addr) (mo tw : Int) (ss ws : List Str), vs = [.ref p, .ref ls, .ref lso, .ref lwo, .int mo, .int tw] ∧ De H p ls lso lwo ss ws ∧ 0 ≤ mo ∧ mo ≤ 20 ∧ ∀ lm H' (ts : List Addr) (xs : List PaT), H lm = none → But p H H' → StOk H' p → H' lm = some (.lst (ts.map V.ref)) → AllAt (PtAt H') ts xs → (xs.length : Int) ≤ mo → (∀ x ∈ xs, PaOk0 x ∧ ∀ z ∈ paTx x, isNm z = true) → Q (.ref lm) H'
theorem De.new {H H' : Hp} {p ls lso lwo F : Addr} {ss ws : List Str} (w : De H p ls lso lwo ss ws) (nF : F ≠ p) (f : H F = none) (s : StOk H' p) (k : ∀ q o, q ≠ p → q ≠ F → H q = some o → H' q = some o) : De H' p ls lso lwo ss ws := by
  obtain ⟨x, y, e⟩ := w.l
  exact ⟨s, ⟨x, y, k _ _ (But.ne w.s e ns_two) (ne_of_none e f) e⟩, k _ _ (But.ne w.s w.hs ns_strs) (ne_of_none w.hs f) w.hs, k _ _ (But.ne w.s w.hw ns_strs) (ne_of_none w.hw f) w.hw, w.s20, w.w20, w.so, w.wo⟩
section
variable {P : Program} {w : World} {K : PySem.W.Frag} {mg : Str → Option Value} {base : Heap}
theorem scPat : FnScope ["_law_s", "_law_spoils", "_law_sorts", "_law_words", "_law_most", "_law_twice_here", "_law_found_here", "_law_many", "_law_names_here", "_law_name_here", "_law_kinds", "_law_k", "_law_told_here", "_law_one", "_law_kind"] ["_law_s", "_law_spoils", "_law_sorts", "_law_words", "_law_most", "_law_twice_here"] (defScope sPat) := ⟨rfl, rfl, rfl, by decide +kernel, rfl, by decide +kernel, by decide +kernel⟩
theorem ok_pat {f fG fP fN fM : Addr} {fd dG dP dN dM : FuncData} (F : Fun K "_law_patterns" "_law_patterns" sPat f fd) (T : TxB mg) (DG : Dn K mg "_law_digit" sDigit ["_law_state_here", "_law_base"] fG dG) (DN : Dn K mg "_law_names" sNms ["_law_s", "_law_many"] fM dM) (GN : FnOk P w K mg base CX0 3 fM dM ["_law_s", "_law_many"] spNms) (DPk : Dn K mg "_law_pick" sPik ["_law_s", "_law_some", "_law_strange"] fP dP)
    (DNr : Dn K mg "_law_names_right" sNrt ["_law_texts"] fN dN) (GNr : FnOk P w K mg base CX0 2 fN dN ["_law_texts"] spNr) : FnOk P w K mg base CX0 4 f fd ["_law_s", "_law_spoils", "_law_sorts", "_law_words", "_law_most", "_law_twice_here"] spPat := by
  have GG : FnOk P w K mg base CX0 1 fG dG _ spDigit := ok_digit DG.F
  have GPk : FnOk P w K mg base CX0 2 fP dP _ (spPk K) := ok_pik DPk.F T DG
  refine F.ok scPat (fun vs H Q E h => ?_) (fun cdv A outer s H vs Q E hr h => ?_)
  · obtain ⟨p, ls, lso, lwo, mo, tw, ss, ws, rfl, _⟩ := h
    rfl
  · obtain ⟨p, ls, lso, lwo, mo, tw, ss, ws, rfl, W, m0, m20, k⟩ := h
    have hr1 : Room 1 _ := hr.mono (by decide)
    have hr2 : Room 2 _ := hr.mono (by decide)
    have hr3 : Room 3 _ := hr
    refine ⟨_, (pss_cons (ps_set (i := 6) scPat.nd rfl (Or.inl rfl) (pe_lst pa_nil))
      (pss_cons (ps_set (i := 7) scPat.nd rfl (Or.inl rfl) (pe_call GG hr1 rfl DG.g DG.F.kp DG.b .nil pass0 (pa_cons (pv 0) (pa_cons (pe_op op_add (pv 4) pe_int) pa_nil))))
      (pss_cons (ps_set (i := 8) scPat.nd rfl (Or.inl rfl) (pe_call GN hr3 rfl DN.g DN.F.kp DN.b .nil pass0 (pa_cons (pv 0) (pa_cons (pv 7) pa_nil))))
      (pss_cons (ps_if (PW.pt (pw_and (pt_cmpR op_in_seq (pv 5) (pv 1) (by rfl)) (pw_and1 (pt_cmpR op_gt (pv 7) pe_int (nomark _))))) (pss_one (ps_asg (pe_ix ix_list (pv 8) (pe_call GG hr1 rfl DG.g DG.F.kp DG.b .nil pass0 (pa_cons (pv 0) (pa_cons (pv 7) pa_nil))) (fun _ _ => rfl)) (pg_sub (pv 8) (pe_call GG hr1 rfl DG.g DG.F.kp DG.b .nil pass0 (pa_cons (pv 0) (pa_cons (pv 7) pa_nil))) set_list))) pss_nil)
      (pss_cons (ps_for PassesOwn.never rfl (pi_list (pv 8)) (pg_name (i := 9) scPat.nd rfl (Or.inl rfl)) (pss_cons (ps_set (i := 10) scPat.nd rfl (Or.inl rfl) (pe_lst pa_nil))
      (pss_cons (ps_for PassesOwn.never rfl (pi_range1 rfl T.range (pa_cons pe_int pa_nil)) (pg_name (i := 11) scPat.nd rfl (Or.inl rfl)) (pss_cons (ps_expr (pe_bm PySem.F.plainAttrs_list PySem.F.slot_list_append PySem.F.type_list_append mt_append (pv 10) (pa_cons pe_non pa_nil)))
      (pss_one (ps_if (pt_cmpR op_eq (pe_call GG hr1 rfl DG.g DG.F.kp DG.b .nil pass0 (pa_cons (pv 0) (pa_cons pe_int pa_nil))) pe_int (nomark _)) (pss_one (ps_asg (pe_call GPk hr2 rfl DPk.g DPk.F.kp DPk.b .nil pass0 (pa_cons (pv 0) (pa_cons (pv 2) (pa_cons (pe_cmpR op_in_seq pe_int (pv 1) (by rfl)) pa_nil)))) (pg_sub (pv 10) (pv 11) set_list))) pss_nil))))
      (pss_cons (ps_set (i := 12) scPat.nd rfl (Or.inl rfl) (pe_lst (pa_cons (pe_call GPk hr2 rfl DPk.g DPk.F.kp DPk.b .nil pass0 (pa_cons (pv 0) (pa_cons (pv 3) (pa_cons (pe_cmpR op_in_seq pe_int (pv 1) (by rfl)) pa_nil)))) (pa_cons (pe_call GPk hr2 rfl DPk.g DPk.F.kp DPk.b .nil pass0 (pa_cons (pv 0) (pa_cons (pv 3) (pa_cons (pe_cmpR op_in_seq pe_int (pv 1) (by rfl)) pa_nil)))) pa_nil))))
      (pss_one (ps_expr (pe_bm PySem.F.plainAttrs_list PySem.F.slot_list_append PySem.F.type_list_append mt_append (pv 6) (pa_cons (pe_tup (pa_cons (pv 9) (pa_cons (pv 10) (pa_cons (pv 12) pa_nil)))) pa_nil))))))))
      (pss_one (ps_ret (pe_lc (own := [("_law_one", 13)]) (g := gName 13) (tt := tTest (tCall spNr [] E0 (tCons (tOp rCat (tLc (iList K (tOp (rIxT K) (tVar 13) (tC (.int 1)))) (gName 14) (tTest (tNotN (tVar 14))) (tVar 14) [14]) (tOp (rIxT K) (tVar 13) (tC (.int 2)))) tNil))) (te := tVar 13) rfl scPat.nd (pi_list (pv 6)) (blkOk_by (N := ["_law_s", "_law_spoils", "_law_sorts", "_law_words", "_law_most", "_law_twice_here", "_law_found_here", "_law_many", "_law_names_here", "_law_name_here", "_law_kinds", "_law_k", "_law_told_here", "_law_one", "_law_kind"]) (sc := defScope sPat) (by decide +kernel)) (fun _ _ _ _ _ => (pg_name (i := 13) scPat.nd rfl (Or.inl rfl))) (fun _ _ _ _ _ => (pts_one (pt_val (pe_call GNr hr2 rfl DNr.g DNr.F.kp DNr.b .nil pass0 (pa_cons (pe_op op_cat (pe_lc (own := [("_law_kind", 14)]) (g := gName 14) (wi := iList K (tOp (rIxT K) (tVar 13) (tC (.int 1)))) (tt := tTest (tNotN (tVar 14))) (te := tVar 14) rfl scPat.nd (pi_list (pe_ix ix_tup (pv 13) pe_int (fun _ _ => rfl))) (blkOk_by (N := ["_law_s", "_law_spoils", "_law_sorts", "_law_words", "_law_most", "_law_twice_here", "_law_found_here", "_law_many", "_law_names_here", "_law_name_here", "_law_kinds", "_law_k", "_law_told_here", "_law_one", "_law_kind"]) (sc := scCmp) (by decide +kernel)) (fun _ _ _ _ _ => (pg_name (i := 14) scPat.nd rfl (Or.inl rfl))) (fun _ _ _ _ _ => (pts_one (pt_cmp (pc_notN (pv 14))))) (fun _ _ _ _ _ => (pv 14))) (pe_ix ix_tup (pv 13) pe_int (fun _ _ => rfl))) pa_nil))))) (fun _ _ _ _ _ => (pv 13)))))))))), ?_⟩
    rw [show L2.start ["_law_s", "_law_spoils", "_law_sorts", "_law_words", "_law_most", "_law_twice_here", "_law_found_here", "_law_many", "_law_names_here", "_law_name_here", "_law_kinds", "_law_k", "_law_told_here", "_law_one", "_law_kind"] [V.ref p, V.ref ls, V.ref lso, V.ref lwo, V.int mo, V.int tw] = [some (.ref p), some (.ref ls), some (.ref lso), some (.ref lwo), some (.int mo), some (.int tw), none, none, none, none, none, none, none, none, none] from rfl]
    refine ⟨Nat.zero_le _, fun Fa hFa => ?_⟩
    dsimp only [gName, List.set_cons_succ, List.set_cons_zero]
    have nFp : Fa ≠ p := st_free W.s hFa
    have fF : H Fa = none := hFa
    have T0 : Same H (upd H Fa (.lst [])) := Same.upd hFa
    have e0 : (upd H Fa (.lst [])) Fa = some (.lst []) := upd_same
    have W0 := W.kp (Same.kp T0) (W.s.same T0)
    generalize upd H Fa (.lst []) = H0 at T0 e0 W0
    refine ⟨_, rfl, _, rfl, _, _, rfl, rfl, p, _, rfl, W0.s, by omega, by omega, fun m H1 n0 n5 B1 S1 => ?_⟩
    dsimp only [gName, List.set_cons_succ, List.set_cons_zero]
    have W1 := W0.kp (B1.kp W0.s) S1
    have e1 := B1 _ _ nFp e0
    refine ⟨_, rfl, _, rfl, p, m, rfl, S1, by omega, by omega, fun zs ln H2 n1 n1p B2 S2 h2 zl znd znm => ?_⟩
    dsimp only [gName, List.set_cons_succ, List.set_cons_zero]
    have W2 := W1.kp (B2.kp W1.s) S2
    have e2 := B2 _ _ nFp e1
    have nlF : ln ≠ Fa := (ne_of_none e1 n1).symm
    have B02 : But p H H2 := (Same.but T0).trans (B1.trans B2)
    have f0 : H ln = none := T0.free (B1.free n1p n1)
    have zok : ∀ z ∈ zs, Nm1 z := fun z hz => ⟨dr_nm (znm z hz).1 (znm z hz).2, nm_is (znm z hz).1 (Nat.le_trans (znm z hz).2 (by decide))⟩
    refine cut1 (fun σ' H' => ∃ zs : List Str, σ' = [some (.ref p), some (.ref ls), some (.ref lso), some (.ref lwo), some (.int mo), some (.int tw), some (.ref Fa), some (.int m), some (.ref ln), none, none, none, none, none, none] ∧ H' ln = some (.lst (zs.map V.str)) ∧ zs.length = m.toNat ∧ (∀ z ∈ zs, Nm1 z) ∧ But p H H' ∧ De H' p ls lso lwo ss ws ∧ H' Fa = some (.lst [])) ?_ ?_
    rotate_left
    · intro R fin
      obtain ⟨ja, jb, hls⟩ := W2.l
      refine ⟨_, rfl, _, rfl, ls, _, rfl, .inl (SqL.of hls), rfl, rfl, _, rfl, ite2 (fun _ => ⟨_, rfl, _, _, rfl, rfl, _, rfl, ite2 (fun hm => ?_) (fun _ => ?_)⟩) (fun _ => iteF ?_)⟩
      · have hm' : 1 < m := of_decide_eq_true hm
        refine ⟨_, rfl, _, rfl, _, rfl, p, m, rfl, S2, by omega, by omega, fun d4 H4 a4 b4 B4 S4 => ?_⟩
        have h4 := B4 _ _ n1p h2
        have l4 : d4.toNat < zs.length := by omega
        refine rdList h4 (j := d4.toNat) (v := .str zs[d4.toNat]) (by omega) (by rw [List.getElem?_map, List.getElem?_eq_getElem l4]; rfl) ?_
        refine ⟨_, rfl, _, rfl, _, rfl, p, m, rfl, S4, by omega, by omega, fun d5 H5 a5 b5 B5 S5 => ?_⟩
        have h5 := B5 _ _ n1p h4
        obtain ⟨j, rfl⟩ : ∃ n : Nat, d5 = (n : Int) := ⟨d5.toNat, by omega⟩
        refine ⟨ln, _, _, j, rfl, rfl, h5, ixN_nat (by rw [List.length_map]; omega), ?_⟩
        have B25 := B4.trans B5
        have W5 := W2.kp (B25.kp W2.s) S5
        obtain ⟨x1, x2, e⟩ := W5.l
        obtain ⟨y1, y2, e'⟩ := W.l
        refine fin _ _ ⟨zs.set j zs[d4.toNat], rfl, by rw [upd_same, List.map_set], by rw [List.length_set]; exact zl, fun z hz => ?_, but_new (B02.trans B25) n1p f0, ⟨S5.upd n1p, ⟨x1, x2, (upd_ne (ne_of_none e' f0)).trans e⟩, (upd_ne (ne_of_none W.hs f0)).trans W5.hs, (upd_ne (ne_of_none W.hw f0)).trans W5.hw, W.s20, W.w20, W.so, W.wo⟩, (upd_ne nlF.symm).trans (B25 _ _ nFp e2)⟩
        rcases List.mem_or_eq_of_mem_set hz with q | q
        · exact zok z q
        · rw [q]
          exact zok _ (List.getElem_mem l4)
      · exact fin _ _ ⟨zs, rfl, h2, zl, zok, B02, W2, e2⟩
      · exact fin _ _ ⟨zs, rfl, h2, zl, zok, B02, W2, e2⟩
    clear h2 zl zok znd znm
    rintro σ' H3 ⟨zs, rfl, h3, zl, zok, B3, W3, e3⟩
    refine ⟨_, rfl, ln, rfl, ⟨_, SqL.of h3⟩, for_list (K := K) (a := ln) (xs := zs.map V.str) (fun i σ H' => (∃ u9 u10 u11 u12, σ = [some (.ref p), some (.ref ls), some (.ref lso), some (.ref lwo), some (.int mo), some (.int tw), some (.ref Fa), some (.int m), some (.ref ln), u9, u10, u11, u12, none, none]) ∧ But p H H' ∧ H' ln = some (.lst (zs.map V.str)) ∧ De H' p ls lso lwo ss ws ∧ ∃ (ts : List Addr) (xs : List PaT), H' Fa = some (.lst (ts.map V.ref)) ∧ AllAt (PtN Fa H') ts xs ∧ xs.length ≤ i ∧ ∀ x ∈ xs, PaOk0 x) ⟨⟨_, _, _, _, rfl⟩, B3, h3, W3, [], [], e3, True.intro, Nat.le_refl _, fun x hx => (List.not_mem_nil hx).elim⟩ (fun i σ H' _ h => SqL.of h.2.2.1) ?_ ?_⟩
    · rintro i y σ H4 hi ⟨⟨u9, u10, u11, u12, rfl⟩, B4, h4, W4, ts, xs, hF4, am, xl, xok⟩
      obtain ⟨z, hz, rfl⟩ := map_str_get hi
      have il : i < zs.length := (List.getElem?_eq_some_iff.mp hz).1
      have oz := zok z (List.mem_of_getElem? hz)
      dsimp only [gName, List.set_cons_succ, List.set_cons_zero]
      refine ⟨Nat.zero_le _, fun Ka hKa => ?_⟩
      dsimp only [gName, List.set_cons_succ, List.set_cons_zero]
      have nKp : Ka ≠ p := st_free W4.s hKa
      have fK : H4 Ka = none := hKa
      have nKF : Ka ≠ Fa := (ne_of_none hF4 hKa).symm
      have S4 := W4.s
      refine ⟨2, rfl, by decide, by decide, for_range (n := _) (fun j σ H' => (∃ u11, σ = [some (.ref p), some (.ref ls), some (.ref lso), some (.ref lwo), some (.int mo), some (.int tw), some (.ref Fa), some (.int m), some (.ref ln), some (.str z), some (.ref Ka), u11, u12, none, none]) ∧ (∀ q o, q ≠ p → q ≠ Ka → H4 q = some o → H' q = some o) ∧ StOk H' p ∧ ∃ os : List (Option Str), H' Ka = some (.lst (os.map sortV)) ∧ os.length = j ∧ ∀ o ∈ os, ∀ z, o = some z → Dr z) ⟨⟨_, rfl⟩, fun q o n1 n2 e => by rw [upd_ne n2]; exact e, S4.upd nKp, [], upd_same, rfl, fun o ho => (List.not_mem_nil ho).elim⟩ ?_ ?_⟩
      · rintro j σ H5 hj ⟨⟨u11, rfl⟩, O5, S5, os, hK5, ol, ook⟩
        have W5 := W4.new nKp fK S5 O5
        obtain ⟨ja, jb, hls⟩ := W5.l
        dsimp only [gName, List.set_cons_succ, List.set_cons_zero]
        have hj2 : j < 2 := hj
        refine ⟨_, rfl, .inl ⟨rfl, _, SqL.of hK5⟩, Ka, _, _, rfl, rfl, hK5, ?_, ?_⟩
        · rw [List.length_map]
          exact Nat.lt_of_le_of_lt (show _ ≤ 1000 by omega) (by decide)
        have O6 : ∀ {o : HO} q u, q ≠ p → q ≠ Ka → H4 q = some u → (upd H5 Ka o) q = some u := fun q u n1 n2 e => by rw [upd_ne n2]; exact O5 q u n1 n2 e
        have e6 : (upd H5 Ka (.lst (os.map sortV ++ [.non]))) Ka = some (.lst ((os ++ [none]).map sortV)) := by rw [upd_same, List.map_append]; rfl
        have W6 := W4.new nKp fK (S5.upd nKp) (O6 (o := .lst (os.map sortV ++ [.non])))
        have O6 := O6 (o := .lst (os.map sortV ++ [.non]))
        generalize upd H5 Ka (.lst (os.map sortV ++ [.non])) = H6 at e6 W6 O6
        refine ⟨_, rfl, p, 2, rfl, W6.s, by decide, by decide, fun d H7 _ _ B7 S7 => ⟨rfl, _, rfl, ?_⟩⟩
        have O7 : ∀ q u, q ≠ p → q ≠ Ka → H4 q = some u → H7 q = some u := fun q u n1 n2 e => B7 q u n1 (O6 q u n1 n2 e)
        have W7 := W4.new nKp fK S7 O7
        have e7 := B7 _ _ nKp e6
        have oke : ∀ o ∈ os ++ [none], ∀ z, o = some z → Dr z := fun o ho z' ez => by
          rcases List.mem_append.mp ho with q | q
          · exact ook o q z' ez
          · rw [List.mem_singleton.mp q] at ez
            cases ez
        refine ite2 (fun _ => ?_) (fun _ => ⟨⟨_, rfl⟩, O7, S7, os ++ [none], e7, by rw [List.length_append, ol]; rfl, oke⟩)
        obtain ⟨ja', jb', hls7⟩ := W7.l
        refine ⟨_, rfl, _, rfl, _, rfl, ls, _, rfl, .inl (SqL.of hls7), rfl, rfl, p, lso, _, ss, rfl, W7.s, W7.hs, Nat.le_trans W7.s20 (by decide), W7.so, fun y H8 dy B8 S8 => ?_⟩
        have e8 := B8 _ _ nKp e7
        refine ⟨_, rfl, _, rfl, Ka, _, _, j, rfl, by rw [Int.zero_add], e8, ixN_nat (by rw [List.length_map, List.length_append, ol]; exact Nat.lt_succ_self j), ⟨_, rfl⟩, fun q u n1 n2 e => ?_, S8.upd nKp, (os ++ [none]).set j (some y), ?_, ?_, fun o ho z' ez => ?_⟩
        · rw [upd_ne n2]
          exact B8 q u n1 (O7 q u n1 n2 e)
        · rw [upd_same, List.map_set]
          rfl
        · rw [List.length_set, List.length_append, ol]
          rfl
        · rcases List.mem_or_eq_of_mem_set ho with q | q
          · exact oke o q z' ez
          · rw [q] at ez
            cases ez
            exact dy
      rintro σ H5 ⟨⟨u11, rfl⟩, O5, S5, os, hK5, ol, ook⟩
      obtain ⟨k0, k1, rfl⟩ : ∃ a b, os = [a, b] := by
        match os, ol with
        | [a, b], _ => exact ⟨a, b, rfl⟩
      have W5 := W4.new nKp fK S5 O5
      have k45 : Kp H4 H5 := fun a o n e => O5 a o (But.ne S4 e n) (ne_of_none e fK) e
      have hF5 := O5 _ _ nFp nKF.symm hF4
      have h5 := O5 _ _ n1p (ne_of_none h4 hKa) h4
      have am5 := am.imp fun _ _ q => q.kp k45
      have B5 : But p H H5 := fun q o n e => O5 q o n (ne_of_none (B4 q o n e) fK) (B4 q o n e)
      obtain ⟨ja, jb, hls⟩ := W5.l
      have w20 := W5.w20
      dsimp only
      refine ⟨_, rfl, _, rfl, _, rfl, ls, _, rfl, .inl (SqL.of hls), rfl, rfl, p, lwo, _, ws, rfl, W5.s, W5.hw, by omega, W5.wo, fun w0 H6 d0 B6 S6 => ?_⟩
      have W6 := W5.kp (B6.kp S5) S6
      obtain ⟨ja', jb', hls6⟩ := W6.l
      refine ⟨_, rfl, _, rfl, _, rfl, ls, _, rfl, .inl (SqL.of hls6), rfl, rfl, p, lwo, _, ws, rfl, W6.s, W6.hw, by omega, W6.wo, fun w1 H7 d1 B7 S7 => ⟨by show 2 ≤ sizeLine; decide, fun ka hka => ?_⟩⟩
      have B57 := B6.trans B7
      have nka : ka ≠ p := st_free S7 hka
      have hF7 := B57 _ _ nFp hF5
      have nkaF : ka ≠ Fa := (ne_of_none hF7 hka).symm
      have hK7 := B57 _ _ nKp hK5
      have h7 := B57 _ _ n1p h5
      have T8 : Same H7 (upd H7 ka (.lst [.str w0, .str w1])) := Same.upd hka
      have e8 : (upd H7 ka (.lst [.str w0, .str w1])) ka = some (.lst [.str w0, .str w1]) := upd_same
      have S8 := S7.same T8
      generalize upd H7 ka (.lst [.str w0, .str w1]) = H8 at T8 e8 S8
      have k58 : Kp H5 H8 := (B57.kp S5).trans (Same.kp T8)
      have B8 : But p H H8 := B5.trans (B57.trans (Same.but T8))
      have hF8 := T8 _ _ hF7
      dsimp only [gName, List.set_cons_succ, List.set_cons_zero]
      refine ⟨_, rfl, .inl ⟨rfl, _, SqL.of hF8⟩, _, rfl, _, rfl, _, rfl, by show 3 ≤ sizeLine; decide, fun t ht => ?_⟩
      have nFt : Fa ≠ t := ne_of_none hF8 ht
      have T9 : Same H8 (upd H8 t (.tup [.str z, .ref Ka, .ref ka])) := Same.upd ht
      have e9 : (upd H8 t (.tup [.str z, .ref Ka, .ref ka])) t = some (.tup [.str z, .ref Ka, .ref ka]) := upd_same
      have S9 := S8.same T9
      generalize upd H8 t (.tup [.str z, .ref Ka, .ref ka]) = H9 at T9 e9 S9
      have hF9 := T9 _ _ hF8
      have k59 : Kp H5 H9 := k58.trans (Same.kp T9)
      have B9 : But p H H9 := B8.trans (Same.but T9)
      have hK9 : H9 Ka = some (.lst [sortV k0, sortV k1]) := T9 _ _ (T8 _ _ hK7)
      have tl := am5.len
      refine ⟨Fa, _, _, rfl, rfl, hF9, ?_, ⟨_, _, _, _, rfl⟩, but_new B9 nFp fF, (upd_ne nlF).trans (T9 _ _ (T8 _ _ h7)), W.new nFp fF (S9.upd nFp) (fun q o n1 n2 e => by rw [upd_ne n2]; exact B9 q o n1 e), ts ++ [t], xs ++ [⟨z, k0, k1, w0, w1⟩], ?_, ?_, ?_, fun x hx => ?_⟩
      · rw [List.length_map]
        exact Nat.lt_of_le_of_lt (show _ ≤ 1000 by omega) (by decide)
      · rw [upd_same, List.map_append]
        rfl
      · exact AllAt.put1 (am5.imp fun _ _ q => (q.kp k59).put hF9) ⟨Ka, ka, nKF, nkaF, (upd_ne nFt.symm).trans e9, (upd_ne nKF).trans hK9, (upd_ne nkaF).trans (T9 _ _ e8)⟩
      · rw [List.length_append, List.length_singleton]
        omega
      · rcases List.mem_append.mp hx with q | q
        · exact xok x q
        · rw [List.mem_singleton.mp q]
          exact ⟨oz, ook k0 (by simp), ook k1 (by simp), d0, d1⟩
    · rintro σ H4 ⟨⟨u9, u10, u11, u12, rfl⟩, B4, h4, W4, ts, xs, hF4, am, xl, xok⟩
      rw [List.length_map] at xl
      refine ⟨_, rfl, Fa, rfl, ⟨_, SqL.of hF4⟩, fun D hD => ?_⟩
      have nDp : D ≠ p := st_free W4.s hD
      have tl := am.len
      refine lc_list (K := K) (a := Fa) (xs := ts.map V.ref) (fun j H' => Same H4 H' ∧ ∃ (ts' : List Addr) (xs' : List PaT), H' D = some (.lst (ts'.map V.ref)) ∧ AllAt (PtAt H4) ts' xs' ∧ xs'.length ≤ j ∧ ∀ x ∈ xs', PaOk0 x ∧ ∀ z ∈ paTx x, isNm z = true) ⟨Same.upd hD, [], [], upd_same, True.intro, Nat.le_refl _, fun x hx => (List.not_mem_nil hx).elim⟩ (fun j H' _ h => SqL.of (h.1 _ _ hF4)) ?_ ?_
      · rintro j y H5 hy ⟨T5, ts', xs', hD5, am', xl', xok'⟩
        obtain ⟨a, x, rfl, hx, hmt⟩ := am.get hy
        obtain ⟨l1, l2, h1, h2, h3⟩ := PtN.at hmt
        have jl : j < xs.length := (List.getElem?_eq_some_iff.mp hx).1
        have ox := xok x (List.mem_of_getElem? hx)
        refine ⟨rfl, _, rfl, a, _, 1, _, rfl, rfl, SqT.of (T5 _ _ h1), atI_nat (j := 1) rfl, l1, rfl, ⟨_, SqL.of (T5 _ _ h2)⟩, fun D2 hD2 => ?_⟩
        refine lc_list (K := K) (a := l1) (xs := [x.k0, x.k1].map sortV) (fun i H' => Same H5 H' ∧ H' D2 = some (.lst ((([x.k0, x.k1].take i).filterMap id).map V.str))) ⟨Same.upd hD2, upd_same⟩ (fun i H' _ h => SqL.of (h.1 _ _ (T5 _ _ h2))) ?_ ?_
        · rintro i o' H6 ho ⟨T6, hu⟩
          rw [List.getElem?_map] at ho
          obtain ⟨o, hoi, rfl⟩ := Option.map_eq_some_iff.mp ho
          cases o with
          | none =>
            refine ⟨rfl, _, rfl, _, rfl, iteF ⟨T6, ?_⟩⟩
            rw [hu, List.take_add_one, hoi, List.filterMap_append]
            simp
          | some z =>
            refine ⟨rfl, _, rfl, _, rfl, iteT ⟨_, rfl, _, hu, ?_, fun q u e => ?_, ?_⟩⟩
            · rw [List.length_map]
              have q := List.length_filterMap_le id ([x.k0, x.k1].take i)
              rw [List.length_take] at q
              exact Nat.lt_of_le_of_lt (show _ ≤ 1000 by simp at q ⊢; omega) (by decide)
            · rw [upd_ne (ne_of_none e hD2)]
              exact T6 _ _ e
            · rw [upd_same, List.take_add_one, hoi, List.filterMap_append, List.map_append]
              rfl
        rintro H6 ⟨T6, hu⟩
        have ek : (([x.k0, x.k1].take ([x.k0, x.k1].map sortV).length).filterMap id) = x.k0.toList ++ x.k1.toList := by
          cases x.k0 <;> cases x.k1 <;> rfl
        rw [ek] at hu
        have T46 := T5.trans T6
        refine ⟨_, rfl, a, _, 2, _, rfl, rfl, SqT.of (T46 _ _ h1), atI_nat (j := 2) rfl, D2, l2, _, _, rfl, rfl, hu, T46 _ _ h3, ?_, fun c hc => ?_⟩
        · rw [List.length_map, List.length_append]
          have q1 : x.k0.toList.length ≤ 1 := by cases x.k0 <;> simp
          have q2 : x.k1.toList.length ≤ 1 := by cases x.k1 <;> simp
          exact Nat.le_trans (show _ + 2 ≤ 1000 by omega) (by decide)
        have T7 : Same H6 (upd H6 c (.lst ((x.k0.toList ++ x.k1.toList).map V.str ++ [.str x.w0, .str x.w1]))) := Same.upd hc
        have e7 : (upd H6 c (.lst ((x.k0.toList ++ x.k1.toList).map V.str ++ [.str x.w0, .str x.w1]))) c = some (.lst ((paTx x).map V.str)) := by
          rw [upd_same]
          unfold paTx
          rw [List.map_append (l₁ := x.k0.toList ++ x.k1.toList)]
          rfl
        generalize upd H6 c (.lst ((x.k0.toList ++ x.k1.toList).map V.str ++ [.str x.w0, .str x.w1])) = H7 at T7 e7
        have dtx : ∀ z ∈ paTx x, Dr z := fun z hz => by
          unfold paTx at hz
          rcases List.mem_append.mp hz with q | q
          · rcases List.mem_append.mp q with q | q
            · exact ox.k0 z (by simpa using q)
            · exact ox.k1 z (by simpa using q)
          · have q : z = x.w0 ∨ z = x.w1 := by simpa using q
            rcases q with q | q <;> rw [q]
            · exact ox.w0
            · exact ox.w1
        refine ⟨c, paTx x, rfl, e7, ?_, fun z hz => Nat.le_trans (dtx z hz).1 (by decide), fun H8 S8 => ⟨_, rfl, ?_⟩⟩
        · unfold paTx
          have q1 : x.k0.toList.length ≤ 1 := by cases x.k0 <;> simp
          have q2 : x.k1.toList.length ≤ 1 := by cases x.k1 <;> simp
          rw [List.length_append, List.length_append]
          show _ + _ + 2 ≤ 1000
          omega
        have T8 := T46.trans (T7.trans S8)
        have hD8 := S8 _ _ (T7 _ _ (T6 _ _ hD5))
        have tl' := am'.len
        cases al : (paTx x).all isNm with
        | false => exact iteF ⟨T8, ts', xs', hD8, am', by omega, xok'⟩
        | true =>
          refine iteT ⟨_, rfl, _, hD8, ?_, fun q o e => ?_, ts' ++ [a], xs' ++ [x], ?_, AllAt.put1 am' hmt.at, ?_, fun y hy => ?_⟩
          · rw [List.length_map]
            exact Nat.lt_of_le_of_lt (show _ ≤ 1000 by omega) (by decide)
          · rw [upd_ne (ne_of_none e hD)]
            exact T8 _ _ e
          · rw [upd_same, List.map_append]
            rfl
          · rw [List.length_append, List.length_singleton]
            omega
          · rcases List.mem_append.mp hy with q | q
            · exact xok' y q
            · rw [List.mem_singleton.mp q]
              exact ⟨ox, fun z hz => List.all_eq_true.mp al z hz⟩
      · rintro H5 ⟨T5, ts', xs', hD5, am', xl', xok'⟩
        rw [List.length_map] at xl'
        exact k D H5 ts' xs' (B4.free (st_free W4.s hD) hD) (B4.trans (Same.but T5)) (W4.s.same T5) hD5 (am'.imp fun _ _ q => q.kp (Same.kp T5)) (by omega) xok'
end
end Wm
namespace Wm
open PySem L2 StX
theorem dget_of {H : Hp} {a : Addr} {kvs : List (L2.Key × V)} {k : L2.Key} {v : V} (e : H a = some (.dK kvs)) (h : valV kvs k = some v) : DGet H a (kV k) (some v) := by
  have q := DGet.k (k := k) e
  rw [h] at q
  exact q
def VlAt (o : Option Rf) (v : V) (H : Hp) : Prop := match o with
  | none => v = .non
  | some r => ∃ t, v = .ref t ∧ H t = some (.tup (tupOf r))
abbrev kS (s : String) : L2.Key := .inr (PySem.Str.ofString s)
def moK (l1 l2 l3 l4 l5 : Addr) : List (L2.Key × V) := [(kS "sorts", .ref l1), (kS "words", .ref l2), (kS "makings", .ref l3), (kS "rules", .ref l4), (kS "bars", .ref l5)]
/-- the law's own scheme -/
structure MoAt (H : Hp) (m l1 l2 l3 l4 l5 : Addr) (ts us vs : List Addr) (ss ws : List Str) (ms : List MkD) (rs bs : List PaT) : Prop where
  hm : H m = some (.dK (moK l1 l2 l3 l4 l5))
  h1 : H l1 = some (.lst (ss.map V.str))
  h2 : H l2 = some (.lst (ws.map V.str))
  h3 : H l3 = some (.lst (ts.map V.ref))
  a3 : AllAt (MtAt H) ts ms
  h4 : H l4 = some (.lst (us.map V.ref))
  a4 : AllAt (PtAt H) us rs
  h5 : H l5 = some (.lst (vs.map V.ref))
  a5 : AllAt (PtAt H) vs bs
theorem MoAt.same {H H' : Hp} {m l1 l2 l3 l4 l5 : Addr} {ts us vs : List Addr} {ss ws : List Str} {ms : List MkD} {rs bs : List PaT} (s : Same H H') (h : MoAt H m l1 l2 l3 l4 l5 ts us vs ss ws ms rs bs) : MoAt H' m l1 l2 l3 l4 l5 ts us vs ss ws ms rs bs :=
  ⟨s _ _ h.hm, s _ _ h.h1, s _ _ h.h2, s _ _ h.h3, h.a3.imp fun _ _ q => q.kp (Same.kp s), s _ _ h.h4, h.a4.imp fun _ _ q => q.kp (Same.kp s), s _ _ h.h5, h.a5.imp fun _ _ q => q.kp (Same.kp s)⟩
theorem kv1 {l1 l2 l3 l4 l5 : Addr} : valV (moK l1 l2 l3 l4 l5) (kS "sorts") = some (.ref l1) := by rfl
theorem kv2 {l1 l2 l3 l4 l5 : Addr} : valV (moK l1 l2 l3 l4 l5) (kS "words") = some (.ref l2) := by rfl
theorem kv3 {l1 l2 l3 l4 l5 : Addr} : valV (moK l1 l2 l3 l4 l5) (kS "makings") = some (.ref l3) := by rfl
theorem kv4 {l1 l2 l3 l4 l5 : Addr} : valV (moK l1 l2 l3 l4 l5) (kS "rules") = some (.ref l4) := by rfl
theorem kv5 {l1 l2 l3 l4 l5 : Addr} : valV (moK l1 l2 l3 l4 l5) (kS "bars") = some (.ref l5) := by rfl
def kdL (x : PaT) : List Str := [x.k0, x.k1].filterMap id
def askS1 (ms : List MkD) (ps : List PaT) : List Str := ms.flatMap (fun x => [x.mr, x.md]) ++ ps.flatMap kdL
def askW1 (ms : List MkD) (rs bs : List PaT) : List Str := (ms.flatMap (fun x => x.dn ++ x.up) ++ rs.flatMap (fun x => [x.w0, x.w1])) ++ bs.flatMap (fun x => [x.w0])
def dueP (ss ws : List Str) (ms : List MkD) (rs bs : List PaT) : Option Rf := (goF (nsP ss) [] (askS1 ms (rs ++ bs))).or ((goF (upP ss) [] ms).or (goF (nwP ws) [] (askW1 ms rs bs)))
theorem kdL_len (x : PaT) : (kdL x).length ≤ 2 := List.length_filterMap_le id [x.k0, x.k1]
theorem fm_len {α : Type} {f : α → List Str} {n : Nat} (h : ∀ x, (f x).length ≤ n) : ∀ (xs : List α), (xs.flatMap f).length ≤ n * xs.length
  | [] => Nat.le_refl _
  | x :: r => by
    have a := h x
    have b := fm_len h r
    rw [List.flatMap_cons, List.length_append, List.length_cons, Nat.mul_succ]
    omega
/-- the later place -/
theorem up_iff {ss : List Str} (nd : ss.Nodup) {a b : Str} (hb : b ∈ ss) : b ∈ ss.drop (ixS ss a + 1) ↔ ¬ ixS ss b ≤ ixS ss a := by
  constructor
  · intro h l
    obtain ⟨j, hj⟩ := List.mem_iff_getElem?.mp h
    rw [List.getElem?_drop] at hj
    have e := ixS_at hb
    have l1 := (List.getElem?_eq_some_iff.mp hj).1
    have l2 := (List.getElem?_eq_some_iff.mp e).1
    have ne := (List.pairwise_iff_getElem.mp nd) (ixS ss b) (ixS ss a + 1 + j) l2 l1 (by omega)
    exact ne ((List.getElem?_eq_some_iff.mp e).2.trans (List.getElem?_eq_some_iff.mp hj).2.symm)
  · intro h
    have e := ixS_at hb
    refine List.mem_iff_getElem?.mpr ⟨ixS ss b - (ixS ss a + 1), ?_⟩
    rw [List.getElem?_drop, show ixS ss a + 1 + (ixS ss b - (ixS ss a + 1)) = ixS ss b by omega]
    exact e
def spDup : Sp := fun vs H Q _ => ∃ (m l1 l2 l3 l4 l5 : Addr) (ts us vs' : List Addr) (ss ws : List Str) (ms : List MkD) (rs bs : List PaT), vs = [.ref m] ∧ MoAt H m l1 l2 l3 l4 l5 ts us vs' ss ws ms rs bs ∧ ss.Nodup ∧ ss.length ≤ 20 ∧ ms.length ≤ 20 ∧ rs.length ≤ 20 ∧ bs.length ≤ 20 ∧ (∀ x ∈ ms, x.dn.length ≤ 1 ∧ x.up.length ≤ 1) ∧ ∀ v H', Same H H' → VlAt (dueP ss ws ms rs bs) v H' → Q v H'
section
variable {P : Program} {w : World} {K : PySem.W.Frag} {mg : Str → Option Value} {base : Heap}
theorem scDup : FnScope ["_law_m", "_law_named", "_law_one", "_law_kind", "_law_sort", "_law_told_here", "_law_word"] ["_law_m"] (defScope sDup) := ⟨rfl, rfl, rfl, by decide +kernel, rfl, by decide +kernel, by decide +kernel⟩
theorem ok_dup {f : Addr} {fd : FuncData} (F : Fun K "_law_due_parts" "_law_due_parts" sDup f fd) (T : TxB mg) : FnOk P w K mg base CX0 1 f fd ["_law_m"] spDup := by
  refine F.ok scDup (fun vs H Q E h => ?_) (fun cdv A outer s H vs Q E hr h => ?_)
  · obtain ⟨m, l1, l2, l3, l4, l5, ts, us, vs', ss, ws, ms, rs, bs, rfl, _⟩ := h
    rfl
  · obtain ⟨m, l1, l2, l3, l4, l5, ts, us, vs', ss, ws, ms, rs, bs, rfl, M, nd, s20, m20, r20, b20, d1, k⟩ := h
    have hu := hu_of hr
    have tl := M.a3.len
    have ul := M.a4.len
    have vl := M.a5.len
    refine ⟨_, (pss_cons (ps_set (i := 1) scDup.nd rfl (Or.inl rfl) (pe_lst pa_nil))
      (pss_cons (ps_for PassesOwn.never rfl (pi_list (pe_dget hu (pv 0) pe_str (fun _ _ => rfl))) (pg_name (i := 2) scDup.nd rfl (Or.inl rfl)) (pss_one (ps_set (i := 1) scDup.nd rfl (Or.inl rfl) (pe_op op_cat (pv 1) (pe_lst (pa_cons (pe_ix ix_tup (pv 2) pe_int (fun _ _ => rfl)) (pa_cons (pe_ix ix_tup (pv 2) pe_int (fun _ _ => rfl)) pa_nil)))))))
      (pss_cons (ps_for PassesOwn.never rfl (pi_list (pe_op op_cat (pe_dget hu (pv 0) pe_str (fun _ _ => rfl)) (pe_dget hu (pv 0) pe_str (fun _ _ => rfl)))) (pg_name (i := 2) scDup.nd rfl (Or.inl rfl)) (pss_one (ps_set (i := 1) scDup.nd rfl (Or.inl rfl) (pe_op op_cat (pv 1) (pe_lc (own := [("_law_kind", 3)]) (g := gName 3) (tt := (tTest (tNotN (tVar 3)))) (te := (tVar 3)) rfl scDup.nd (pi_list (pe_ix ix_tup (pv 2) pe_int (fun _ _ => rfl))) (blkOk_by (N := ["_law_m", "_law_named", "_law_one", "_law_kind", "_law_sort", "_law_told_here", "_law_word"]) (sc := defScope sDup) (by decide +kernel)) (fun _ _ _ _ _ => (pg_name (i := 3) scDup.nd rfl (Or.inl rfl))) (fun _ _ _ _ _ => (pts_one (pt_cmp (pc_notN (pv 3))))) (fun _ _ _ _ _ => (pv 3)))))))
      (pss_cons (ps_for PassesOwn.never rfl (pi_list (pv 1)) (pg_name (i := 4) scDup.nd rfl (Or.inl rfl)) (pss_one (ps_if (pt_cmpR op_notIn_seq (pv 4) (pe_dget hu (pv 0) pe_str (fun _ _ => rfl)) (by rfl)) (pss_one (ps_ret (pe_tup (pa_cons pe_str (pa_cons (pv 4) pa_nil))))) pss_nil)))
      (pss_cons (ps_for PassesOwn.never rfl (pi_list (pe_dget hu (pv 0) pe_str (fun _ _ => rfl))) (pg_name (i := 2) scDup.nd rfl (Or.inl rfl)) (pss_one (ps_if (pt_cmpR op_notIn_seq (pe_ix ix_tup (pv 2) pe_int (fun _ _ => rfl)) (pe_slice sl_list (pe_dget hu (pv 0) pe_str (fun _ _ => rfl)) (po_some (pe_op op_add (pe_bm PySem.F.plainAttrs_list PySem.F.slot_list_index PySem.F.type_list_index mt_index (pe_dget hu (pv 0) pe_str (fun _ _ => rfl)) (pa_cons (pe_ix ix_tup (pv 2) pe_int (fun _ _ => rfl)) pa_nil)) pe_int)) po_none) (by rfl)) (pss_one (ps_ret (pe_tup (pa_cons pe_str (pa_cons (pe_ix ix_tup (pv 2) pe_int (fun _ _ => rfl)) (pa_cons (pe_ix ix_tup (pv 2) pe_int (fun _ _ => rfl)) pa_nil)))))) pss_nil)))
      (pss_cons (ps_set (i := 5) scDup.nd rfl (Or.inl rfl) (pe_lst pa_nil))
      (pss_cons (ps_for PassesOwn.never rfl (pi_list (pe_dget hu (pv 0) pe_str (fun _ _ => rfl))) (pg_name (i := 2) scDup.nd rfl (Or.inl rfl)) (pss_one (ps_set (i := 5) scDup.nd rfl (Or.inl rfl) (pe_op op_cat (pe_op op_cat (pv 5) (pe_ix ix_tup (pv 2) pe_int (fun _ _ => rfl))) (pe_ix ix_tup (pv 2) pe_int (fun _ _ => rfl))))))
      (pss_cons (ps_for PassesOwn.never rfl (pi_list (pe_dget hu (pv 0) pe_str (fun _ _ => rfl))) (pg_name (i := 2) scDup.nd rfl (Or.inl rfl)) (pss_one (ps_set (i := 5) scDup.nd rfl (Or.inl rfl) (pe_op op_cat (pv 5) (pe_ix ix_tup (pv 2) pe_int (fun _ _ => rfl))))))
      (pss_cons (ps_for PassesOwn.never rfl (pi_list (pe_dget hu (pv 0) pe_str (fun _ _ => rfl))) (pg_name (i := 2) scDup.nd rfl (Or.inl rfl)) (pss_one (ps_set (i := 5) scDup.nd rfl (Or.inl rfl) (pe_op op_cat (pv 5) (pe_slice sl_list (pe_ix ix_tup (pv 2) pe_int (fun _ _ => rfl)) po_none (po_some pe_int))))))
      (pss_cons (ps_for PassesOwn.never rfl (pi_list (pv 5)) (pg_name (i := 6) scDup.nd rfl (Or.inl rfl)) (pss_one (ps_if (pt_cmpR op_notIn_seq (pv 6) (pe_dget hu (pv 0) pe_str (fun _ _ => rfl)) (by rfl)) (pss_one (ps_ret (pe_tup (pa_cons pe_str (pa_cons (pv 6) pa_nil))))) pss_nil)))
      (pss_one (ps_ret pe_non)))))))))))), ?_⟩
    rw [show L2.start ["_law_m", "_law_named", "_law_one", "_law_kind", "_law_sort", "_law_told_here", "_law_word"] [V.ref m] = [some (.ref m), none, none, none, none, none, none] from rfl]
    unfold dueP at k
    refine ⟨Nat.zero_le _, fun n0 hn0 => ?_⟩
    dsimp only [gName, List.set_cons_succ, List.set_cons_zero]
    have T0 : Same H (upd H n0 (.lst [])) := Same.upd hn0
    have e0 : (upd H n0 (.lst [])) n0 = some (.lst []) := upd_same
    generalize upd H n0 (.lst []) = H0 at T0 e0
    -- the sorts that makings name
    refine ⟨_, rfl, m, _, rfl, dget_of (T0 _ _ M.hm) kv3, l3, rfl, ⟨_, SqL.of (T0 _ _ M.h3)⟩, for_list (K := K) (a := l3) (xs := ts.map V.ref) (fun i σ H' => (∃ nl v, σ = [some (.ref m), some (.ref nl), v, none, none, none, none] ∧ H' nl = some (.lst (((ms.take i).flatMap (fun x => [x.mr, x.md])).map V.str))) ∧ Same H H') ⟨⟨n0, none, rfl, e0⟩, T0⟩ (fun i σ H' _ p => SqL.of (p.2 _ _ M.h3)) ?_ ?_⟩
    · rintro i y σ H1 hi ⟨⟨nl, v, rfl, hnl⟩, S1⟩
      obtain ⟨a, x, rfl, hx, g1, g2, h1, _, _⟩ := M.a3.get hi
      have il : i < ms.length := (List.getElem?_eq_some_iff.mp hx).1
      have a1 := S1 _ _ h1
      dsimp only [gName, List.set_cons_succ, List.set_cons_zero]
      refine ⟨_, rfl, _, rfl, a, _, 0, _, rfl, rfl, SqT.of a1, atI_nat (j := 0) rfl, _, rfl, a, _, 1, _, rfl, rfl, SqT.of a1, atI_nat (j := 1) rfl, by show 2 ≤ sizeLine; decide, fun l hl => ⟨nl, l, _, _, rfl, rfl, (upd_ne (ne_of_none hnl hl)).trans hnl, upd_same, ?_, fun n2 hn2 => ⟨⟨n2, _, rfl, ?_⟩, S1.trans ((Same.upd hl).trans (Same.upd hn2))⟩⟩⟩
      · have q := fm_len (f := fun x : MkD => [x.mr, x.md]) (n := 2) (fun x => Nat.le_refl _) (ms.take i)
        rw [List.length_take] at q
        rw [List.length_map]
        exact Nat.le_trans (show _ + 2 ≤ 1000 by omega) (by decide)
      · rw [upd_same, fm_take hx, List.map_append]
        rfl
    rintro σ H1 ⟨⟨nl, v1, rfl, hnl⟩, S1⟩
    rw [List.length_map, tl, List.take_length] at hnl
    dsimp only
    -- and patterns
    have M1 := M.same S1
    refine ⟨_, rfl, m, _, rfl, dget_of M1.hm kv4, _, rfl, m, _, rfl, dget_of M1.hm kv5, l4, l5, _, _, rfl, rfl, M1.h4, M1.h5, ?_, fun rb hrb => ?_⟩
    · rw [List.length_map, List.length_map]
      exact Nat.le_trans (show _ ≤ 1000 by omega) (by decide)
    have T2 : Same H1 (upd H1 rb (.lst (us.map V.ref ++ vs'.map V.ref))) := Same.upd hrb
    have e2 : (upd H1 rb (.lst (us.map V.ref ++ vs'.map V.ref))) rb = some (.lst ((us ++ vs').map V.ref)) := by rw [upd_same, List.map_append]
    have hnl2 := T2 _ _ hnl
    generalize upd H1 rb (.lst (us.map V.ref ++ vs'.map V.ref)) = H2 at T2 e2 hnl2
    have S2 := S1.trans T2
    have rbs : AllAt (PtAt H) (us ++ vs') (rs ++ bs) := M.a4.append M.a5
    have nS := fm_len (f := fun x : MkD => [x.mr, x.md]) (n := 2) (fun x => Nat.le_refl _) ms
    refine ⟨rb, rfl, ⟨_, SqL.of e2⟩, for_list (K := K) (a := rb) (xs := (us ++ vs').map V.ref) (fun i σ H' => (∃ nl v, σ = [some (.ref m), some (.ref nl), v, none, none, none, none] ∧ H' nl = some (.lst ((ms.flatMap (fun x => [x.mr, x.md]) ++ ((rs ++ bs).take i).flatMap kdL).map V.str))) ∧ Same H2 H') ⟨⟨nl, _, rfl, by rw [hnl2]; simp⟩, Same.refl H2⟩ (fun i σ H' _ p => SqL.of (p.2 _ _ e2)) ?_ ?_⟩
    · rintro i y σ H3 hi ⟨⟨nl, v, rfl, hnl⟩, S3⟩
      obtain ⟨a, x, rfl, hx, g1, g2, h1, h2, h3⟩ := rbs.get hi
      have S03 := S2.trans S3
      dsimp only [gName, List.set_cons_succ, List.set_cons_zero]
      refine ⟨_, rfl, _, rfl, a, _, 1, _, rfl, rfl, SqT.of (S03 _ _ h1), atI_nat (j := 1) rfl, g1, rfl, ⟨_, SqL.of (S03 _ _ h2)⟩, fun D2 hD2 => ?_⟩
      refine lc_list (K := K) (a := g1) (xs := [x.k0, x.k1].map sortV) (fun j H' => Same H3 H' ∧ H' D2 = some (.lst ((([x.k0, x.k1].take j).filterMap id).map V.str))) ⟨Same.upd hD2, upd_same⟩ (fun j H' _ h => SqL.of (h.1 _ _ (S03 _ _ h2))) ?_ ?_
      · rintro j o' H6 ho ⟨T6, hu'⟩
        rw [List.getElem?_map] at ho
        obtain ⟨o, hoi, rfl⟩ := Option.map_eq_some_iff.mp ho
        cases o with
        | none =>
          refine ⟨rfl, _, rfl, _, rfl, iteF ⟨T6, ?_⟩⟩
          rw [hu', List.take_add_one, hoi, List.filterMap_append]
          simp
        | some z =>
          refine ⟨rfl, _, rfl, _, rfl, iteT ⟨_, rfl, _, hu', ?_, fun q u e => ?_, ?_⟩⟩
          · rw [List.length_map]
            have q := List.length_filterMap_le id ([x.k0, x.k1].take j)
            rw [List.length_take] at q
            exact Nat.lt_of_le_of_lt (show _ ≤ 1000 by simp at q ⊢; omega) (by decide)
          · rw [upd_ne (ne_of_none e hD2)]
            exact T6 _ _ e
          · rw [upd_same, List.take_add_one, hoi, List.filterMap_append, List.map_append]
            rfl
      rintro H4 ⟨T4, hu'⟩
      have ek : (([x.k0, x.k1].take ([x.k0, x.k1].map sortV).length).filterMap id) = kdL x := rfl
      rw [ek] at hu'
      refine ⟨nl, D2, _, _, rfl, rfl, T4 _ _ hnl, hu', ?_, fun n2 hn2 => ⟨⟨n2, _, rfl, ?_⟩, S3.trans (T4.trans (Same.upd hn2))⟩⟩
      · have q := fm_len kdL_len ((rs ++ bs).take i)
        have q2 := kdL_len x
        rw [List.length_take, List.length_append] at q
        rw [List.length_map, List.length_map, List.length_append]
        exact Nat.le_trans (show _ ≤ 1000 by omega) (by decide)
      · rw [upd_same, fm_take hx, ← List.map_append, List.append_assoc]
    rintro σ H3 ⟨⟨nl3, v3, rfl, hnl3⟩, S3⟩
    rw [List.length_map, List.length_append, ul, vl, ← List.length_append, List.take_length] at hnl3
    dsimp only
    have S03 := S2.trans S3
    have M3 := M.same S03
    have hnl3 : H3 nl3 = some (.lst ((askS1 ms (rs ++ bs)).map V.str)) := hnl3
    generalize hys : askS1 ms (rs ++ bs) = ys at hnl3 k
    -- each is a sort
    refine ⟨_, rfl, nl3, rfl, ⟨_, SqL.of hnl3⟩, for_list (K := K) (a := nl3) (xs := ys.map V.str) (fun i σ H' => (∃ v, σ = [some (.ref m), some (.ref nl3), v3, none, v, none, none]) ∧ H' = H3 ∧ ∀ j y, j < i → ys[j]? = some y → nsP ss (ys.take j) y = none) ⟨⟨_, rfl⟩, rfl, fun j y h => absurd h (Nat.not_lt_zero j)⟩ (fun i σ H' _ p => by rw [p.2.1]; exact SqL.of hnl3) ?_ ?_⟩
    · rintro i y σ H' hi ⟨⟨v, rfl⟩, rfl, hno⟩
      obtain ⟨z, hzi, rfl⟩ := map_str_get hi
      dsimp only [gName, List.set_cons_succ, List.set_cons_zero]
      refine ⟨_, rfl, _, rfl, m, _, rfl, dget_of M3.hm kv1, l1, _, rfl, .inl (SqL.of M3.h1), rfl, flat_strs _, _, rfl, ?_⟩
      rw [if_pos rfl, inV_strs]
      by_cases q : z ∈ ss
      · rw [decide_eq_true q]
        exact iteF ⟨⟨_, rfl⟩, rfl, goF_more hno hzi (by unfold nsP; rw [if_pos q])⟩
      · rw [decide_eq_false q]
        rw [goF_hit hno hzi (by unfold nsP; rw [if_neg q])] at k
        exact iteT ⟨_, rfl, by show 2 ≤ sizeLine; decide, fun t ht => k _ _ (S03.trans (Same.upd ht)) ⟨t, rfl, upd_same⟩⟩
    rintro σ H3 ⟨⟨v4, rfl⟩, rfl, hno⟩
    rw [List.length_map] at hno
    have gn := goF_none hno
    rw [gn, Option.none_or] at k
    have inS : ∀ z ∈ ys, z ∈ ss := fun z hz => by
      obtain ⟨q, e⟩ := goF_all gn z hz
      unfold nsP at e
      split at e
      · assumption
      · cases e
    have mo : ∀ x ∈ ms, x.mr ∈ ss ∧ x.md ∈ ss := fun x hx => by
      have q : ∀ z ∈ [x.mr, x.md], z ∈ ss := fun z hz => inS z (by rw [← hys]; exact List.mem_append_left _ (List.mem_flatMap.mpr ⟨x, hx, hz⟩))
      exact ⟨q _ (by simp), q _ (by simp)⟩
    clear hno
    dsimp only
    -- no making upward
    refine ⟨_, rfl, m, _, rfl, dget_of M3.hm kv3, l3, rfl, ⟨_, SqL.of M3.h3⟩, for_list (K := K) (a := l3) (xs := ts.map V.ref) (fun i σ H' => (∃ v, σ = [some (.ref m), some (.ref nl3), v, none, v4, none, none]) ∧ Same H3 H' ∧ ∀ j y, j < i → ms[j]? = some y → upP ss (ms.take j) y = none) ⟨⟨_, rfl⟩, Same.refl H3, fun j y h => absurd h (Nat.not_lt_zero j)⟩ (fun i σ H' _ p => SqL.of (p.2.1 _ _ M3.h3)) ?_ ?_⟩
    · rintro i y σ H4 hi ⟨⟨v, rfl⟩, S4, hno⟩
      obtain ⟨a, x, rfl, hx, g1, g2, h1, _, _⟩ := M.a3.get hi
      have S04 := S03.trans S4
      have M4 := M.same S04
      have a4 := S04 _ _ h1
      obtain ⟨q1, q2⟩ := mo x (List.mem_of_getElem? hx)
      have at_ : (ss.map V.str)[ixS ss x.mr]? = some (.str x.mr) := by rw [List.getElem?_map, ixS_at q1]; rfl
      have first : ∀ (m : Nat) (z' : V), m < ixS ss x.mr → (ss.map V.str)[m]? = some z' → eqV z' (.str x.mr) = false := fun m z' hm hz => by
        obtain ⟨y, hy, rfl⟩ := map_str_get hz
        have ne := ixS_first hm hy
        unfold eqV
        simp [ne]
      dsimp only [gName, List.set_cons_succ, List.set_cons_zero]
      refine ⟨_, rfl, a, _, 1, _, rfl, rfl, SqT.of a4, atI_nat (j := 1) rfl, _, rfl, m, _, rfl, dget_of M4.hm kv1, _, rfl, m, _, rfl, dget_of M4.hm kv1, .inl ⟨rfl, _, SqL.of M4.h1⟩, _, rfl, a, _, 0, _, rfl, rfl, SqT.of a4, atI_nat (j := 0) rfl, ?_⟩
      refine ⟨l1, _, .str x.mr, ixS ss x.mr, .str x.mr, rfl, rfl, SqL.of M4.h1, rfl, flat_of ss, at_, by unfold eqV; simp, first, ?_⟩
      refine ⟨_, _, rfl, rfl, _, rfl, l1, _, rfl, SqL.of M4.h1, fun c hc => ?_⟩
      have ec : cutV (ss.map V.str) (some (((ixS ss x.mr : Nat) : Int) + 1)) none = (ss.drop (ixS ss x.mr + 1)).map V.str := by
        rw [show (((ixS ss x.mr : Nat) : Int) + 1) = ((ixS ss x.mr + 1 : Nat) : Int) by omega, cut_drop, List.map_drop]
      rw [ec]
      refine ⟨c, _, rfl, .inl (SqL.of upd_same), rfl, flat_strs _, _, rfl, ?_⟩
      rw [if_pos rfl, inV_strs]
      have T5 : Same H4 (upd H4 c (.lst ((ss.drop (ixS ss x.mr + 1)).map V.str))) := Same.upd hc
      generalize upd H4 c (.lst ((ss.drop (ixS ss x.mr + 1)).map V.str)) = H5 at T5
      by_cases q : x.md ∈ ss.drop (ixS ss x.mr + 1)
      · rw [decide_eq_true q]
        exact iteF ⟨⟨_, rfl⟩, S4.trans T5, goF_more hno hx (by unfold upP; rw [if_neg ((up_iff nd q2).mp q)])⟩
      · rw [decide_eq_false q]
        have q' : ixS ss x.md ≤ ixS ss x.mr := Classical.byContradiction fun n => q ((up_iff nd q2).mpr n)
        rw [goF_hit hno hx (by unfold upP; rw [if_pos q'])] at k
        have a5 := T5 _ _ a4
        exact iteT ⟨_, rfl, a, _, 0, _, rfl, rfl, SqT.of a5, atI_nat (j := 0) rfl, _, rfl, a, _, 1, _, rfl, rfl, SqT.of a5, atI_nat (j := 1) rfl, by show 3 ≤ sizeLine; decide, fun t ht => k _ _ (S04.trans (T5.trans (Same.upd ht))) ⟨t, rfl, upd_same⟩⟩
    rintro σ H4 ⟨⟨v5, rfl⟩, S4, hno⟩
    rw [List.length_map, tl] at hno
    rw [goF_none hno, Option.none_or] at k
    clear hno
    dsimp only
    have S04 := S03.trans S4
    -- the words
    refine ⟨Nat.zero_le _, fun n1 hn1 => ?_⟩
    dsimp only [gName, List.set_cons_succ, List.set_cons_zero]
    have T5 : Same H4 (upd H4 n1 (.lst [])) := Same.upd hn1
    have e5 : (upd H4 n1 (.lst [])) n1 = some (.lst []) := upd_same
    generalize upd H4 n1 (.lst []) = H5 at T5 e5
    have S05 := S04.trans T5
    have nM : ∀ i, ((ms.take i).flatMap (fun x => x.dn ++ x.up)).length ≤ 40 := fun i => by
      have q : ∀ (xs : List MkD), (∀ x ∈ xs, x ∈ ms) → (xs.flatMap (fun x => x.dn ++ x.up)).length ≤ 2 * xs.length := by
        intro xs
        induction xs with
        | nil => intro _; exact Nat.le_refl _
        | cons x r ih =>
          intro hx
          have a := d1 x (hx x List.mem_cons_self)
          have b := ih fun y hy => hx y (List.mem_cons_of_mem _ hy)
          rw [List.flatMap_cons, List.length_append, List.length_append, List.length_cons, Nat.mul_succ]
          omega
      have q := q (ms.take i) fun x hx => List.mem_of_mem_take hx
      rw [List.length_take] at q
      omega
    refine ⟨_, rfl, m, _, rfl, dget_of (S05 _ _ M.hm) kv3, l3, rfl, ⟨_, SqL.of (S05 _ _ M.h3)⟩, for_list (K := K) (a := l3) (xs := ts.map V.ref) (fun i σ H' => (∃ nl v, σ = [some (.ref m), some (.ref nl3), v, none, v4, some (.ref nl), none] ∧ H' nl = some (.lst (((ms.take i).flatMap (fun x => x.dn ++ x.up)).map V.str))) ∧ Same H H') ⟨⟨n1, _, rfl, e5⟩, S05⟩ (fun i σ H' _ p => SqL.of (p.2 _ _ M.h3)) ?_ ?_⟩
    · rintro i y σ H6 hi ⟨⟨nl, v, rfl, hnl⟩, S6⟩
      obtain ⟨a, x, rfl, hx, g1, g2, h1, h2, h3⟩ := M.a3.get hi
      obtain ⟨x1, x2⟩ := d1 x (List.mem_of_getElem? hx)
      have n6 := nM i
      dsimp only [gName, List.set_cons_succ, List.set_cons_zero]
      refine ⟨_, rfl, _, rfl, a, _, 2, _, rfl, rfl, SqT.of (S6 _ _ h1), atI_nat (j := 2) rfl, nl, g1, _, _, rfl, rfl, hnl, S6 _ _ h2, ?_, fun c hc => ?_⟩
      · rw [List.length_map, List.length_map]
        exact Nat.le_trans (show _ ≤ 1000 by omega) (by decide)
      have T7 : Same H6 (upd H6 c (.lst (((ms.take i).flatMap (fun x => x.dn ++ x.up)).map V.str ++ x.dn.map V.str))) := Same.upd hc
      have e7 : (upd H6 c (.lst (((ms.take i).flatMap (fun x => x.dn ++ x.up)).map V.str ++ x.dn.map V.str))) c = some (.lst (((ms.take i).flatMap (fun x => x.dn ++ x.up) ++ x.dn).map V.str)) := by rw [upd_same, List.map_append]
      generalize upd H6 c (.lst (((ms.take i).flatMap (fun x => x.dn ++ x.up)).map V.str ++ x.dn.map V.str)) = H7 at T7 e7
      have S7 := S6.trans T7
      refine ⟨_, rfl, a, _, 3, _, rfl, rfl, SqT.of (S7 _ _ h1), atI_nat (j := 3) rfl, c, g2, _, _, rfl, rfl, e7, S7 _ _ h3, ?_, fun c2 hc2 => ⟨⟨c2, _, rfl, ?_⟩, S7.trans (Same.upd hc2)⟩⟩
      · rw [List.length_map, List.length_map, List.length_append]
        exact Nat.le_trans (show _ ≤ 1000 by omega) (by decide)
      · rw [upd_same, fm_take hx, ← List.map_append, List.append_assoc]
    rintro σ H6 ⟨⟨nl6, v6, rfl, hnl6⟩, S6⟩
    rw [List.length_map, tl, List.take_length] at hnl6
    have nM := nM ms.length
    rw [List.take_length] at nM
    dsimp only
    refine ⟨_, rfl, m, _, rfl, dget_of (S6 _ _ M.hm) kv4, l4, rfl, ⟨_, SqL.of (S6 _ _ M.h4)⟩, for_list (K := K) (a := l4) (xs := us.map V.ref) (fun i σ H' => (∃ nl v, σ = [some (.ref m), some (.ref nl3), v, none, v4, some (.ref nl), none] ∧ H' nl = some (.lst ((ms.flatMap (fun x => x.dn ++ x.up) ++ (rs.take i).flatMap (fun x => [x.w0, x.w1])).map V.str))) ∧ Same H H') ⟨⟨nl6, _, rfl, by rw [hnl6]; simp⟩, S6⟩ (fun i σ H' _ p => SqL.of (p.2 _ _ M.h4)) ?_ ?_⟩
    · rintro i y σ H7 hi ⟨⟨nl, v, rfl, hnl⟩, S7⟩
      obtain ⟨a, x, rfl, hx, g1, g2, h1, h2, h3⟩ := M.a4.get hi
      have q := fm_len (f := fun x : PaT => [x.w0, x.w1]) (n := 2) (fun x => Nat.le_refl _) (rs.take i)
      rw [List.length_take] at q
      dsimp only [gName, List.set_cons_succ, List.set_cons_zero]
      refine ⟨_, rfl, _, rfl, a, _, 2, _, rfl, rfl, SqT.of (S7 _ _ h1), atI_nat (j := 2) rfl, nl, g2, _, _, rfl, rfl, hnl, S7 _ _ h3, ?_, fun c hc => ⟨⟨c, _, rfl, ?_⟩, S7.trans (Same.upd hc)⟩⟩
      · rw [List.length_map, List.length_append]
        exact Nat.le_trans (show _ + 2 ≤ 1000 by omega) (by decide)
      · rw [upd_same, fm_take hx, ← List.append_assoc, List.map_append (l₂ := [x.w0, x.w1])]
        rfl
    rintro σ H7 ⟨⟨nl7, v7, rfl, hnl7⟩, S7⟩
    rw [List.length_map, ul, List.take_length] at hnl7
    have nR := fm_len (f := fun x : PaT => [x.w0, x.w1]) (n := 2) (fun x => Nat.le_refl _) rs
    dsimp only
    refine ⟨_, rfl, m, _, rfl, dget_of (S7 _ _ M.hm) kv5, l5, rfl, ⟨_, SqL.of (S7 _ _ M.h5)⟩, for_list (K := K) (a := l5) (xs := vs'.map V.ref) (fun i σ H' => (∃ nl v, σ = [some (.ref m), some (.ref nl3), v, none, v4, some (.ref nl), none] ∧ H' nl = some (.lst (((ms.flatMap (fun x => x.dn ++ x.up) ++ rs.flatMap (fun x => [x.w0, x.w1])) ++ (bs.take i).flatMap (fun x => [x.w0])).map V.str))) ∧ Same H H') ⟨⟨nl7, _, rfl, by rw [hnl7]; simp⟩, S7⟩ (fun i σ H' _ p => SqL.of (p.2 _ _ M.h5)) ?_ ?_⟩
    · rintro i y σ H8 hi ⟨⟨nl, v, rfl, hnl⟩, S8⟩
      obtain ⟨a, x, rfl, hx, g1, g2, h1, h2, h3⟩ := M.a5.get hi
      have q := fm_len (f := fun x : PaT => [x.w0]) (n := 1) (fun x => Nat.le_refl _) (bs.take i)
      rw [List.length_take] at q
      dsimp only [gName, List.set_cons_succ, List.set_cons_zero]
      refine ⟨_, rfl, _, rfl, a, _, 2, _, rfl, rfl, SqT.of (S8 _ _ h1), atI_nat (j := 2) rfl, _, rfl, g2, _, rfl, SqL.of (S8 _ _ h3), fun c hc => ?_⟩
      rw [show cutV [V.str x.w0, .str x.w1] none (some 1) = [.str x.w0] from rfl]
      refine ⟨nl, c, _, _, rfl, rfl, (upd_ne (ne_of_none hnl hc)).trans hnl, upd_same, ?_, fun c2 hc2 => ⟨⟨c2, _, rfl, ?_⟩, S8.trans ((Same.upd hc).trans (Same.upd hc2))⟩⟩
      · rw [List.length_map, List.length_append, List.length_append]
        exact Nat.le_trans (show _ + 1 ≤ 1000 by omega) (by decide)
      · rw [upd_same, fm_take hx, ← List.append_assoc, List.map_append (l₂ := [x.w0])]
        rfl
    rintro σ H8 ⟨⟨nl8, v8, rfl, hnl8⟩, S8⟩
    rw [List.length_map, vl, List.take_length] at hnl8
    dsimp only
    have M8 := M.same S8
    have hnl8 : H8 nl8 = some (.lst ((askW1 ms rs bs).map V.str)) := hnl8
    generalize askW1 ms rs bs = zs at hnl8 k
    refine ⟨_, rfl, nl8, rfl, ⟨_, SqL.of hnl8⟩, for_list (K := K) (a := nl8) (xs := zs.map V.str) (fun i σ H' => (∃ v, σ = [some (.ref m), some (.ref nl3), v8, none, v4, some (.ref nl8), v]) ∧ H' = H8 ∧ ∀ j y, j < i → zs[j]? = some y → nwP ws (zs.take j) y = none) ⟨⟨_, rfl⟩, rfl, fun j y h => absurd h (Nat.not_lt_zero j)⟩ (fun i σ H' _ p => by rw [p.2.1]; exact SqL.of hnl8) ?_ ?_⟩
    · rintro i y σ H' hi ⟨⟨v, rfl⟩, rfl, hno⟩
      obtain ⟨z, hzi, rfl⟩ := map_str_get hi
      dsimp only [gName, List.set_cons_succ, List.set_cons_zero]
      refine ⟨_, rfl, _, rfl, m, _, rfl, dget_of M8.hm kv2, l2, _, rfl, .inl (SqL.of M8.h2), rfl, flat_strs _, _, rfl, ?_⟩
      rw [if_pos rfl, inV_strs]
      by_cases q : z ∈ ws
      · rw [decide_eq_true q]
        exact iteF ⟨⟨_, rfl⟩, rfl, goF_more hno hzi (by unfold nwP; rw [if_pos q])⟩
      · rw [decide_eq_false q]
        rw [goF_hit hno hzi (by unfold nwP; rw [if_neg q])] at k
        exact iteT ⟨_, rfl, by show 2 ≤ sizeLine; decide, fun t ht => k _ _ (S8.trans (Same.upd ht)) ⟨t, rfl, upd_same⟩⟩
    rintro σ H8 ⟨⟨v9, rfl⟩, rfl, hno⟩
    rw [List.length_map] at hno
    rw [goF_none hno] at k
    exact k _ _ S8 rfl
end
end Wm
namespace Wm
open PySem L2
/-- x in a tuple, whatever its parts are made of -/
def rInTD (K : PySem.W.Frag) : R2 := fun x y H Q => ∃ d ds, Dp K H x d ∧ Dp K H y (.tuple ds) ∧ SeqAt.shaped d = true ∧ SeqAt.shaped (.tuple ds) = true ∧ Q (.bl (ds.any fun z => PyData.eqv z d)) H
theorem op_inTD {X : Cx} (hu : X.A.units + 65 < cLine) : OpR X (compareOp .In) (rInTD X.K) := by
  intro pins s σ H x y v u Q I rx ry h
  obtain ⟨d, ds, hd, he, sd, se, q⟩ := h
  obtain ⟨as, r1⟩ := Dp.reads I d x v hd rx
  obtain ⟨bs, r2⟩ := Dp.reads I (.tuple ds) y u he ry
  exact SeqAt.in_tuple_reads r2 r1 (SeqAt.canLay_of_shaped se) (SeqAt.canLay_of_shaped sd) (PyProof.Rows.room_in_shaped sd hu) ⟨.bl _, H, I, rfl, q⟩
theorem cut_inj {c : Nat} : ∀ {p q X Y : List Nat}, c ∉ p → c ∉ q → p ++ c :: X = q ++ c :: Y → p = q ∧ X = Y
  | [], [], _, _, _, _, h => ⟨rfl, (List.cons.inj h).2⟩
  | [], b :: q, _, _, _, hq, h => absurd (by rw [(List.cons.inj h).1]; exact List.mem_cons_self) hq
  | a :: p, [], _, _, hp, _, h => absurd (by rw [← (List.cons.inj h).1]; exact List.mem_cons_self) hp
  | a :: p, b :: q, X, Y, hp, hq, h => by
    obtain ⟨e, h⟩ := List.cons.inj h
    obtain ⟨e1, e2⟩ := cut_inj (fun z => hp (List.mem_cons_of_mem _ z)) (fun z => hq (List.mem_cons_of_mem _ z)) h
    exact ⟨by rw [e, e1], e2⟩
theorem str_ext {a b : Str} (h : a.cps.toList = b.cps.toList) : a = b := by
  cases a
  cases b
  congr
  exact Array.toList_inj.mp h
theorem join_two (c : Nat) (p q : Str) (r : List Str) : (Str.join ⟨#[c]⟩ (p :: q :: r)).cps.toList = p.cps.toList ++ c :: (Str.join ⟨#[c]⟩ (q :: r)).cps.toList := by
  show ((p.cps ++ #[c]) ++ (Str.join ⟨#[c]⟩ (q :: r)).cps).toList = _
  simp
theorem join_inj {c : Nat} : ∀ {ps qs : List Str}, ps ≠ [] → qs ≠ [] → (∀ p ∈ ps, c ∉ p.cps.toList) → (∀ p ∈ qs, c ∉ p.cps.toList) → (Str.join ⟨#[c]⟩ ps).cps.toList = (Str.join ⟨#[c]⟩ qs).cps.toList → ps = qs
  | [], _, h, _, _, _, _ => absurd rfl h
  | _ :: _, [], _, h, _, _, _ => absurd rfl h
  | [p], [q], _, _, _, _, h => by rw [str_ext (a := p) (b := q) h]
  | [p], q :: q2 :: r, _, _, hp, _, h => by
    rw [join_two] at h
    have e : p.cps.toList = q.cps.toList ++ c :: (Str.join ⟨#[c]⟩ (q2 :: r)).cps.toList := h
    exact absurd (by rw [e]; exact List.mem_append_right _ List.mem_cons_self) (hp p List.mem_cons_self)
  | p :: p2 :: r, [q], _, _, _, hq, h => by
    rw [join_two] at h
    have e : p.cps.toList ++ c :: (Str.join ⟨#[c]⟩ (p2 :: r)).cps.toList = q.cps.toList := h
    exact absurd (by rw [← e]; exact List.mem_append_right _ List.mem_cons_self) (hq q List.mem_cons_self)
  | p :: p2 :: r, q :: q2 :: t, _, _, hp, hq, h => by
    rw [join_two, join_two] at h
    obtain ⟨e1, e2⟩ := cut_inj (hp p List.mem_cons_self) (hq q List.mem_cons_self) h
    have e3 := join_inj (ps := p2 :: r) (qs := q2 :: t) (by simp) (by simp) (fun x hx => hp x (List.mem_cons_of_mem _ hx)) (fun x hx => hq x (List.mem_cons_of_mem _ hx)) e2
    rw [str_ext e1, e3]
theorem split_ne (x : Str) (c : Nat) : Txt.split x ⟨#[c]⟩ ≠ [] := fun h => by
  have e := StrLaws.join_split x ⟨#[c]⟩
  rw [h] at e
  have l : x.length = 0 := by
    rw [← e]
    rfl
  unfold Txt.split at h
  rw [if_pos (by rw [l]; simp; left; show 0 < 1; decide)] at h
  cases h
theorem split_join {c : Nat} {ps : List Str} (hne : ps ≠ []) (hf : ∀ p ∈ ps, c ∉ p.cps.toList) : Txt.split (Txt.join ⟨#[c]⟩ ps) ⟨#[c]⟩ = ps := by
  have e : Txt.join ⟨#[c]⟩ ps = Str.join ⟨#[c]⟩ ps := StrLaws.glued_eq_join ⟨#[c]⟩ ps
  rw [e]
  refine join_inj (split_ne _ _) hne (StrLaws.split_free _ _) hf ?_
  rw [StrLaws.join_split]
end Wm
namespace Wm
open PySem L2 StX
abbrev SP : Str := PySem.Str.ofString " "
theorem blank : PySem.Str.ofString " " = ⟨#[32]⟩ := by decide +kernel
theorem goF_inv {α β : Type} {p : List α → α → Option β} : ∀ {xs pre : List α}, goF p pre xs = none → ∀ (j : Nat) y, xs[j]? = some y → p (pre ++ xs.take j) y = none
  | [], _, _, j, y, e => by simp at e
  | x :: r, pre, h, 0, y, e => by
    rw [goF] at h
    cases e
    rw [List.take_zero, List.append_nil]
    split at h
    · cases h
    · assumption
  | x :: r, pre, h, j + 1, y, e => by
    rw [goF] at h
    split at h
    · cases h
    · have q := goF_inv h j y e
      rw [List.append_assoc] at q
      exact q
/-- the first word of a text -/
def fstW (z : Str) : Str := (Txt.split z SP).headD z
def twF (pre : List Str) (z : Str) : Option Rf := if z ∈ pre then some (.tw (fstW z)) else none
def rowsDue : List (List Str) → Option Rf
  | [] => none
  | r :: t => (goF twF [] r).or (rowsDue t)
theorem rows_hit : ∀ {R : List (List Str)} {i : Nat} {r : List Str} {b : Rf}, (∀ j y, j < i → R[j]? = some y → goF twF [] y = none) → R[i]? = some r → goF twF [] r = some b → rowsDue R = some b
  | [], i, r, b, _, e, _ => by simp at e
  | x :: t, 0, r, b, _, e, h => by
    cases e
    rw [rowsDue, h]
    rfl
  | x :: t, i + 1, r, b, n, e, h => by
    rw [rowsDue, n 0 x (Nat.succ_pos i) rfl, Option.none_or]
    exact rows_hit (fun j y hj ey => n (j + 1) y (Nat.succ_lt_succ hj) ey) e h
theorem rows_none : ∀ {R : List (List Str)}, (∀ j y, j < R.length → R[j]? = some y → goF twF [] y = none) → rowsDue R = none
  | [], _ => rfl
  | x :: t, n => by
    rw [rowsDue, n 0 x (Nat.succ_pos _) rfl, Option.none_or]
    exact rows_none fun j y hj ey => n (j + 1) y (Nat.succ_lt_succ hj) ey
theorem nodup_of_tw {zs : List Str} (h : goF twF [] zs = none) : zs.Nodup := by
  refine List.pairwise_iff_getElem.mpr fun i j hi hj l e => ?_
  have q := goF_inv h j zs[j] (List.getElem?_eq_getElem hj)
  unfold twF at q
  rw [List.nil_append] at q
  split at q
  · cases q
  · rename_i n
    refine n (List.mem_iff_getElem?.mpr ⟨i, ?_⟩)
    rw [List.getElem?_take_of_lt l, List.getElem?_eq_getElem hi, e]
def jnM (x : MkD) : Str := (x.mr ++ SP) ++ x.md
def dueC (ss ws : List Str) (ms : List MkD) (rs bs : List PaT) : Option Rf :=
  (cntO "sorts" (ss.length : Int) 1 4).or ((cntO "words" (ws.length : Int) 1 5).or ((cntO "rules" (rs.length : Int) 0 8).or ((cntO "bars" (bs.length : Int) 0 4).or ((goF nmP [] (ss ++ ws)).or ((rowsDue [ss, ws, ms.map jnM, rs.map (·.nm), bs.map (·.nm)]).or (dueP ss ws ms rs bs))))))
def spDuc : Sp := fun vs H Q _ => ∃ (m l1 l2 l3 l4 l5 : Addr) (ts us vs' : List Addr) (ss ws : List Str) (ms : List MkD) (rs bs : List PaT), vs = [.ref m] ∧ MoAt H m l1 l2 l3 l4 l5 ts us vs' ss ws ms rs bs ∧ ss.length ≤ 20 ∧ ws.length ≤ 20 ∧ ms.length ≤ 20 ∧ rs.length ≤ 20 ∧ bs.length ≤ 20 ∧ (∀ z ∈ ss, Dr z) ∧ (∀ z ∈ ws, Dr z) ∧ (∀ x ∈ ms, MkOk1 x) ∧ (∀ x ∈ rs, Dr x.nm) ∧ (∀ x ∈ bs, Dr x.nm) ∧ ∀ v H', Same H H' → VlAt (dueC ss ws ms rs bs) v H' → Q v H'
section
variable {P : Program} {w : World} {K : PySem.W.Frag} {mg : Str → Option Value} {base : Heap}
theorem scDuc : FnScope ["_law_m", "_law_text", "_law_rows", "_law_one", "_law_row_here", "_law_at"] ["_law_m"] (defScope sDuc) := ⟨rfl, rfl, rfl, by decide +kernel, rfl, by decide +kernel, by decide +kernel⟩
theorem ok_duc {f fI fT fP : Addr} {fd dI dT dP : FuncData} (F : Fun K "_law_due_counts" "_law_due_counts" sDuc f fd) (T : TxB mg) (DIs : Dn K mg "_law_is_name" sLName ["_law_text"] fI dI) (DTw : Dn K mg "_law_twice" sTwi ["_law_names_here"] fT dT) (DDp : Dn K mg "_law_due_parts" sDup ["_law_m"] fP dP) : FnOk P w K mg base CX0 2 f fd ["_law_m"] spDuc := by
  have GIs : FnOk P w K mg base CX0 1 fI dI ["_law_text"] spName := ok_lname DIs.F T
  have GTw : FnOk P w K mg base CX0 1 fT dT ["_law_names_here"] spTw := ok_twi DTw.F T
  have GDp : FnOk P w K mg base CX0 1 fP dP ["_law_m"] spDup := ok_dup DDp.F T
  refine F.ok scDuc (fun vs H Q E h => ?_) (fun cdv A outer s H vs Q E hr h => ?_)
  · obtain ⟨m, l1, l2, l3, l4, l5, ts, us, vs', ss, ws, ms, rs, bs, rfl, _⟩ := h
    rfl
  · obtain ⟨m, l1, l2, l3, l4, l5, ts, us, vs', ss, ws, ms, rs, bs, rfl, M, s20, w20, m20, r20, b20, sd, wd, md, rd, bd, k⟩ := h
    have hu := hu_of hr
    have hr1 : Room 1 _ := hr
    have tl := M.a3.len
    have ul := M.a4.len
    have vl := M.a5.len
    refine ⟨_, (pss_cons (ps_if (pt_not (pt_chain op_le op_le pe_int (pe_callB call_len_seq (by rfl) T.len (by decide +kernel) (pa_cons (pe_dget hu (pv 0) pe_str (fun _ _ => rfl)) pa_nil)) pe_int (by rfl))) (pss_one (ps_ret (pe_tup (pa_cons pe_str (pa_cons pe_str (pa_cons (pe_callB call_len_seq (by rfl) T.len (by decide +kernel) (pa_cons (pe_dget hu (pv 0) pe_str (fun _ _ => rfl)) pa_nil)) pa_nil)))))) pss_nil)
      (pss_cons (ps_if (pt_not (pt_chain op_le op_le pe_int (pe_callB call_len_seq (by rfl) T.len (by decide +kernel) (pa_cons (pe_dget hu (pv 0) pe_str (fun _ _ => rfl)) pa_nil)) pe_int (by rfl))) (pss_one (ps_ret (pe_tup (pa_cons pe_str (pa_cons pe_str (pa_cons (pe_callB call_len_seq (by rfl) T.len (by decide +kernel) (pa_cons (pe_dget hu (pv 0) pe_str (fun _ _ => rfl)) pa_nil)) pa_nil)))))) pss_nil)
      (pss_cons (ps_if (pt_cmpR op_gt (pe_callB call_len_seq (by rfl) T.len (by decide +kernel) (pa_cons (pe_dget hu (pv 0) pe_str (fun _ _ => rfl)) pa_nil)) pe_int (nomark _)) (pss_one (ps_ret (pe_tup (pa_cons pe_str (pa_cons pe_str (pa_cons (pe_callB call_len_seq (by rfl) T.len (by decide +kernel) (pa_cons (pe_dget hu (pv 0) pe_str (fun _ _ => rfl)) pa_nil)) pa_nil)))))) pss_nil)
      (pss_cons (ps_if (pt_cmpR op_gt (pe_callB call_len_seq (by rfl) T.len (by decide +kernel) (pa_cons (pe_dget hu (pv 0) pe_str (fun _ _ => rfl)) pa_nil)) pe_int (nomark _)) (pss_one (ps_ret (pe_tup (pa_cons pe_str (pa_cons pe_str (pa_cons (pe_callB call_len_seq (by rfl) T.len (by decide +kernel) (pa_cons (pe_dget hu (pv 0) pe_str (fun _ _ => rfl)) pa_nil)) pa_nil)))))) pss_nil)
      (pss_cons (ps_for PassesOwn.never rfl (pi_list (pe_op op_cat (pe_dget hu (pv 0) pe_str (fun _ _ => rfl)) (pe_dget hu (pv 0) pe_str (fun _ _ => rfl)))) (pg_name (i := 1) scDuc.nd rfl (Or.inl rfl)) (pss_one (ps_if (pt_not (pt_val (pe_call GIs hr1 rfl DIs.g DIs.F.kp DIs.b .nil pass0 (pa_cons (pv 1) pa_nil)))) (pss_one (ps_ret (pe_tup (pa_cons pe_str (pa_cons (pv 1) pa_nil))))) pss_nil)))
      (pss_cons (ps_set (i := 2) scDuc.nd rfl (Or.inl rfl) (pe_lst (pa_cons (pe_dget hu (pv 0) pe_str (fun _ _ => rfl)) (pa_cons (pe_dget hu (pv 0) pe_str (fun _ _ => rfl)) (pa_cons (pe_lc (own := [("_law_one", 3)]) (g := gName 3) (tt := tYes) (te := (tOp rAddS (tOp rAddS (tOp (rIxT K) (tVar 3) (tC (.int 0))) (tC (.str (PySem.Str.ofString " ")))) (tOp (rIxT K) (tVar 3) (tC (.int 1))))) rfl scDuc.nd (pi_list (pe_dget hu (pv 0) pe_str (fun _ _ => rfl))) (blkOk_by (N := ["_law_m", "_law_text", "_law_rows", "_law_one", "_law_row_here", "_law_at"]) (sc := defScope sDuc) (by decide +kernel)) (fun _ _ _ _ _ => (pg_name (i := 3) scDuc.nd rfl (Or.inl rfl))) (fun _ _ _ _ _ => pts_nil) (fun _ _ _ _ _ => (pe_op op_add_str (pe_op op_add_str (pe_ix ix_tup (pv 3) pe_int (fun _ _ => rfl)) pe_str) (pe_ix ix_tup (pv 3) pe_int (fun _ _ => rfl))))) pa_nil)))))
      (pss_cons (ps_set (i := 2) scDuc.nd rfl (Or.inl rfl) (pe_op op_cat (pv 2) (pe_lst (pa_cons (pe_lc (own := [("_law_one", 3)]) (g := gName 3) (tt := tYes) (te := (tOp (rIxT K) (tVar 3) (tC (.int 0)))) rfl scDuc.nd (pi_list (pe_dget hu (pv 0) pe_str (fun _ _ => rfl))) (blkOk_by (N := ["_law_m", "_law_text", "_law_rows", "_law_one", "_law_row_here", "_law_at"]) (sc := defScope sDuc) (by decide +kernel)) (fun _ _ _ _ _ => (pg_name (i := 3) scDuc.nd rfl (Or.inl rfl))) (fun _ _ _ _ _ => pts_nil) (fun _ _ _ _ _ => (pe_ix ix_tup (pv 3) pe_int (fun _ _ => rfl)))) (pa_cons (pe_lc (own := [("_law_one", 3)]) (g := gName 3) (tt := tYes) (te := (tOp (rIxT K) (tVar 3) (tC (.int 0)))) rfl scDuc.nd (pi_list (pe_dget hu (pv 0) pe_str (fun _ _ => rfl))) (blkOk_by (N := ["_law_m", "_law_text", "_law_rows", "_law_one", "_law_row_here", "_law_at"]) (sc := defScope sDuc) (by decide +kernel)) (fun _ _ _ _ _ => (pg_name (i := 3) scDuc.nd rfl (Or.inl rfl))) (fun _ _ _ _ _ => pts_nil) (fun _ _ _ _ _ => (pe_ix ix_tup (pv 3) pe_int (fun _ _ => rfl)))) pa_nil)))))
      (pss_cons (ps_for PassesOwn.never rfl (pi_list (pv 2)) (pg_name (i := 4) scDuc.nd rfl (Or.inl rfl)) (pss_cons (ps_set (i := 5) scDuc.nd rfl (Or.inl rfl) (pe_call GTw hr1 rfl DTw.g DTw.F.kp DTw.b .nil pass0 (pa_cons (pv 4) pa_nil)))
      (pss_one (ps_if (pt_cmp (pc_notN (pv 5))) (pss_one (ps_ret (pe_tup (pa_cons pe_str (pa_cons (pe_ix ix_list (pe_split (pe_ix ix_list (pv 4) (pv 5) (fun _ _ => rfl)) pe_str) pe_int (fun _ _ => rfl)) pa_nil))))) pss_nil))))
      (pss_one (ps_ret (pe_call GDp hr1 rfl DDp.g DDp.F.kp DDp.b .nil pass0 (pa_cons (pv 0) pa_nil)))))))))))), ?_⟩
    rw [show L2.start ["_law_m", "_law_text", "_law_rows", "_law_one", "_law_row_here", "_law_at"] [V.ref m] = [some (.ref m), none, none, none, none, none] from rfl]
    unfold dueC at k
    by_cases bkv1 : (ss.length : Int) < 1 ∨ 4 < (ss.length : Int)
    · rw [show cntO "sorts" (ss.length : Int) 1 4 = some (.cnt "sorts" (ss.length : Int)) from if_pos bkv1] at k
      refine ⟨_, rfl, m, _, rfl, dget_of M.hm kv1, l1, _, rfl, .inl (SqL.of M.h1), _, _, rfl, rfl, _, rfl, ?_⟩
      rw [List.length_map]
      refine ite2 (fun q1 => ⟨_, _, rfl, rfl, _, rfl, ?_⟩) (fun q1 => ⟨_, rfl, iteT ?_⟩)
      · have q1 := of_decide_eq_true q1
        rw [decide_eq_false (by omega)]
        refine iteT ⟨_, rfl, m, _, rfl, dget_of M.hm kv1, l1, _, rfl, .inl (SqL.of M.h1), by show 3 ≤ sizeLine; decide, fun t ht => k _ _ (Same.upd ht) ⟨t, rfl, ?_⟩⟩
        rw [upd_same, List.length_map]
        rfl
      · refine ⟨_, rfl, m, _, rfl, dget_of M.hm kv1, l1, _, rfl, .inl (SqL.of M.h1), by show 3 ≤ sizeLine; decide, fun t ht => k _ _ (Same.upd ht) ⟨t, rfl, ?_⟩⟩
        rw [upd_same, List.length_map]
        rfl
    rw [show cntO "sorts" (ss.length : Int) 1 4 = none from if_neg bkv1, Option.none_or] at k
    refine ⟨_, rfl, m, _, rfl, dget_of M.hm kv1, l1, _, rfl, .inl (SqL.of M.h1), _, _, rfl, rfl, _, rfl, ?_⟩
    rw [List.length_map, decide_eq_true (by omega : (1 : Int) ≤ ss.length)]
    refine iteT ⟨_, _, rfl, rfl, _, rfl, ?_⟩
    rw [decide_eq_true (by omega : (ss.length : Int) ≤ 4)]
    refine iteF ?_
    by_cases bkv2 : (ws.length : Int) < 1 ∨ 5 < (ws.length : Int)
    · rw [show cntO "words" (ws.length : Int) 1 5 = some (.cnt "words" (ws.length : Int)) from if_pos bkv2] at k
      refine ⟨_, rfl, m, _, rfl, dget_of M.hm kv2, l2, _, rfl, .inl (SqL.of M.h2), _, _, rfl, rfl, _, rfl, ?_⟩
      rw [List.length_map]
      refine ite2 (fun q1 => ⟨_, _, rfl, rfl, _, rfl, ?_⟩) (fun q1 => ⟨_, rfl, iteT ?_⟩)
      · have q1 := of_decide_eq_true q1
        rw [decide_eq_false (by omega)]
        refine iteT ⟨_, rfl, m, _, rfl, dget_of M.hm kv2, l2, _, rfl, .inl (SqL.of M.h2), by show 3 ≤ sizeLine; decide, fun t ht => k _ _ (Same.upd ht) ⟨t, rfl, ?_⟩⟩
        rw [upd_same, List.length_map]
        rfl
      · refine ⟨_, rfl, m, _, rfl, dget_of M.hm kv2, l2, _, rfl, .inl (SqL.of M.h2), by show 3 ≤ sizeLine; decide, fun t ht => k _ _ (Same.upd ht) ⟨t, rfl, ?_⟩⟩
        rw [upd_same, List.length_map]
        rfl
    rw [show cntO "words" (ws.length : Int) 1 5 = none from if_neg bkv2, Option.none_or] at k
    refine ⟨_, rfl, m, _, rfl, dget_of M.hm kv2, l2, _, rfl, .inl (SqL.of M.h2), _, _, rfl, rfl, _, rfl, ?_⟩
    rw [List.length_map, decide_eq_true (by omega : (1 : Int) ≤ ws.length)]
    refine iteT ⟨_, _, rfl, rfl, _, rfl, ?_⟩
    rw [decide_eq_true (by omega : (ws.length : Int) ≤ 5)]
    refine iteF ?_
    by_cases bkv4 : (rs.length : Int) < 0 ∨ 8 < (rs.length : Int)
    · rw [show cntO "rules" (rs.length : Int) 0 8 = some (.cnt "rules" (rs.length : Int)) from if_pos bkv4] at k
      refine ⟨_, rfl, m, _, rfl, dget_of M.hm kv4, l4, _, rfl, .inl (SqL.of M.h4), _, _, rfl, rfl, _, rfl, ?_⟩
      rw [List.length_map, ul, decide_eq_true (by omega : (8 : Int) < rs.length)]
      refine iteT ⟨_, rfl, m, _, rfl, dget_of M.hm kv4, l4, _, rfl, .inl (SqL.of M.h4), by show 3 ≤ sizeLine; decide, fun t ht => k _ _ (Same.upd ht) ⟨t, rfl, ?_⟩⟩
      rw [upd_same, List.length_map, ul]
      rfl
    rw [show cntO "rules" (rs.length : Int) 0 8 = none from if_neg bkv4, Option.none_or] at k
    refine ⟨_, rfl, m, _, rfl, dget_of M.hm kv4, l4, _, rfl, .inl (SqL.of M.h4), _, _, rfl, rfl, _, rfl, ?_⟩
    rw [List.length_map, ul, decide_eq_false (by omega : ¬ (8 : Int) < rs.length)]
    refine iteF ?_
    by_cases bkv5 : (bs.length : Int) < 0 ∨ 4 < (bs.length : Int)
    · rw [show cntO "bars" (bs.length : Int) 0 4 = some (.cnt "bars" (bs.length : Int)) from if_pos bkv5] at k
      refine ⟨_, rfl, m, _, rfl, dget_of M.hm kv5, l5, _, rfl, .inl (SqL.of M.h5), _, _, rfl, rfl, _, rfl, ?_⟩
      rw [List.length_map, vl, decide_eq_true (by omega : (4 : Int) < bs.length)]
      refine iteT ⟨_, rfl, m, _, rfl, dget_of M.hm kv5, l5, _, rfl, .inl (SqL.of M.h5), by show 3 ≤ sizeLine; decide, fun t ht => k _ _ (Same.upd ht) ⟨t, rfl, ?_⟩⟩
      rw [upd_same, List.length_map, vl]
      rfl
    rw [show cntO "bars" (bs.length : Int) 0 4 = none from if_neg bkv5, Option.none_or] at k
    refine ⟨_, rfl, m, _, rfl, dget_of M.hm kv5, l5, _, rfl, .inl (SqL.of M.h5), _, _, rfl, rfl, _, rfl, ?_⟩
    rw [List.length_map, vl, decide_eq_false (by omega : ¬ (4 : Int) < bs.length)]
    refine iteF ?_
    -- the names
    refine ⟨_, rfl, m, _, rfl, dget_of M.hm kv1, _, rfl, m, _, rfl, dget_of M.hm kv2, l1, l2, _, _, rfl, rfl, M.h1, M.h2, ?_, fun ta hta => ?_⟩
    · rw [List.length_map, List.length_map]
      exact Nat.le_trans (show _ ≤ 1000 by omega) (by decide)
    have T1 : Same H (upd H ta (.lst (ss.map V.str ++ ws.map V.str))) := Same.upd hta
    have e1 : (upd H ta (.lst (ss.map V.str ++ ws.map V.str))) ta = some (.lst ((ss ++ ws).map V.str)) := by rw [upd_same, List.map_append]
    generalize upd H ta (.lst (ss.map V.str ++ ws.map V.str)) = H1 at T1 e1
    have dsw : ∀ z ∈ ss ++ ws, Dr z := fun z hz => (List.mem_append.mp hz).elim (sd z) (wd z)
    generalize ss ++ ws = zs at e1 k dsw
    refine ⟨ta, rfl, ⟨_, SqL.of e1⟩, for_list (K := K) (a := ta) (xs := zs.map V.str) (fun i σ H' => (∃ v, σ = [some (.ref m), v, none, none, none, none]) ∧ Same H1 H' ∧ ∀ j y, j < i → zs[j]? = some y → nmP (zs.take j) y = none) ⟨⟨none, rfl⟩, Same.refl H1, fun j y h => absurd h (Nat.not_lt_zero j)⟩ (fun i σ H' _ p => SqL.of (p.2.1 _ _ e1)) ?_ ?_⟩
    · rintro i y σ H2 hi ⟨⟨v, rfl⟩, S2, hno⟩
      obtain ⟨z, hzi, rfl⟩ := map_str_get hi
      dsimp only [gName, List.set_cons_succ, List.set_cons_zero]
      refine ⟨_, rfl, z, rfl, Nat.le_trans (dsw z (List.mem_of_getElem? hzi)).1 (by decide), fun H3 S3 => ⟨_, rfl, ?_⟩⟩
      cases q : isNm z with
      | true => exact iteF ⟨⟨_, rfl⟩, S2.trans S3, goF_more hno hzi (by unfold nmP; rw [if_pos q])⟩
      | false =>
        rw [goF_hit hno hzi (by unfold nmP; rw [if_neg (by rw [q]; decide)])] at k
        exact iteT ⟨_, rfl, by show 2 ≤ sizeLine; decide, fun t ht => k _ _ (T1.trans (S2.trans (S3.trans (Same.upd ht)))) ⟨t, rfl, upd_same⟩⟩
    rintro σ H2 ⟨⟨v2, rfl⟩, S2, hno⟩
    rw [List.length_map] at hno
    rw [goF_none hno, Option.none_or] at k
    clear hno
    dsimp only
    have S02 := T1.trans S2
    have M2 := M.same S02
    have lA : ∀ x ∈ ms, x.mr.length + SP.length ≤ sizeLine := fun x hx => by
      have q := (md x hx).mr.1
      exact Nat.le_trans (show _ + 1 ≤ 1000 by omega) (by decide)
    have lB : ∀ x ∈ ms, (x.mr ++ SP).length + x.md.length ≤ sizeLine := fun x hx => by
      have q := (md x hx).mr.1
      have q2 := (md x hx).md.1
      have q3 : (x.mr ++ SP).length = x.mr.length + 1 := len_app _ _
      rw [q3]
      exact Nat.le_trans (show _ ≤ 1000 by omega) (by decide)
    -- the rows
    have MH2 := M2
    refine ⟨_, rfl, m, _, rfl, dget_of M2.hm kv1, _, rfl, m, _, rfl, dget_of M2.hm kv2, _, rfl, m, _, rfl, dget_of M2.hm kv3, l3, rfl, ⟨_, SqL.of M2.h3⟩, fun D3 hD3 => ?_⟩
    refine lc_list (K := K) (a := l3) (xs := ts.map V.ref) (fun i H' => Same H2 H' ∧ H' D3 = some (.lst (((ms.take i).map jnM).map V.str))) ⟨Same.upd hD3, upd_same⟩ (fun i H' _ p => SqL.of (p.1 _ _ (MH2.h3))) ?_ ?_
    · rintro i y G hy ⟨TG, hD'⟩
      obtain ⟨a, x, rfl, hx, g1, g2, h1, _, _⟩ := MH2.a3.get hy
      have il : i < ms.length := (List.getElem?_eq_some_iff.mp hx).1
      have a1 := TG _ _ h1
      refine ⟨rfl, _, rfl, a, _, 0, _, rfl, rfl, SqT.of a1, atI_nat (j := 0) rfl, _, _, rfl, rfl, lA x (List.mem_of_getElem? hx), _, rfl, a, _, 1, _, rfl, rfl, SqT.of a1, atI_nat (j := 1) rfl, _, _, rfl, rfl, lB x (List.mem_of_getElem? hx), _, hD', ?_, fun b o e => ?_, ?_⟩
      · rw [List.length_map, List.length_map, List.length_take]
        exact Nat.lt_of_le_of_lt (show _ ≤ 1000 by omega) (by decide)
      · rw [upd_ne (ne_of_none e hD3)]
        exact TG _ _ e
      · rw [upd_same, List.take_add_one, hx, List.map_append, List.map_append]
        rfl
    rintro H3 ⟨T3, e3⟩
    rw [List.length_map, tl, List.take_length] at e3
    refine ⟨by show 3 ≤ sizeLine; decide, fun r0 hr0 => ?_⟩
    dsimp only [gName, List.set_cons_succ, List.set_cons_zero]
    have T4 : Same H3 (upd H3 r0 (.lst [.ref l1, .ref l2, .ref D3])) := Same.upd hr0
    have e4 : (upd H3 r0 (.lst [.ref l1, .ref l2, .ref D3])) r0 = some (.lst [.ref l1, .ref l2, .ref D3]) := upd_same
    have e34 := T4 _ _ e3
    generalize upd H3 r0 (.lst [.ref l1, .ref l2, .ref D3]) = H4 at T4 e4 e34
    have S04 := S02.trans (Same.trans T3 T4)
    have MH4 := M.same S04
    refine ⟨_, rfl, _, rfl, m, _, rfl, dget_of MH4.hm kv4, l4, rfl, ⟨_, SqL.of MH4.h4⟩, fun D4 hD4 => ?_⟩
    refine lc_list (K := K) (a := l4) (xs := us.map V.ref) (fun i H' => Same H4 H' ∧ H' D4 = some (.lst (((rs.take i).map (·.nm)).map V.str))) ⟨Same.upd hD4, upd_same⟩ (fun i H' _ p => SqL.of (p.1 _ _ (MH4.h4))) ?_ ?_
    · rintro i y G hy ⟨TG, hD'⟩
      obtain ⟨a, x, rfl, hx, g1, g2, h1, _, _⟩ := MH4.a4.get hy
      have il : i < rs.length := (List.getElem?_eq_some_iff.mp hx).1
      have a1 := TG _ _ h1
      refine ⟨rfl, _, rfl, a, _, 0, _, rfl, rfl, SqT.of a1, atI_nat (j := 0) rfl, _, hD', ?_, fun b o e => ?_, ?_⟩
      · rw [List.length_map, List.length_map, List.length_take]
        exact Nat.lt_of_le_of_lt (show _ ≤ 1000 by omega) (by decide)
      · rw [upd_ne (ne_of_none e hD4)]
        exact TG _ _ e
      · rw [upd_same, List.take_add_one, hx, List.map_append, List.map_append]
        rfl
    rintro H5 ⟨T5, e5⟩
    rw [List.length_map, ul, List.take_length] at e5
    have S05 := S04.trans T5
    have MH5 := M.same S05
    refine ⟨_, rfl, m, _, rfl, dget_of MH5.hm kv5, l5, rfl, ⟨_, SqL.of MH5.h5⟩, fun D5 hD5 => ?_⟩
    refine lc_list (K := K) (a := l5) (xs := vs'.map V.ref) (fun i H' => Same H5 H' ∧ H' D5 = some (.lst (((bs.take i).map (·.nm)).map V.str))) ⟨Same.upd hD5, upd_same⟩ (fun i H' _ p => SqL.of (p.1 _ _ (MH5.h5))) ?_ ?_
    · rintro i y G hy ⟨TG, hD'⟩
      obtain ⟨a, x, rfl, hx, g1, g2, h1, _, _⟩ := MH5.a5.get hy
      have il : i < bs.length := (List.getElem?_eq_some_iff.mp hx).1
      have a1 := TG _ _ h1
      refine ⟨rfl, _, rfl, a, _, 0, _, rfl, rfl, SqT.of a1, atI_nat (j := 0) rfl, _, hD', ?_, fun b o e => ?_, ?_⟩
      · rw [List.length_map, List.length_map, List.length_take]
        exact Nat.lt_of_le_of_lt (show _ ≤ 1000 by omega) (by decide)
      · rw [upd_ne (ne_of_none e hD5)]
        exact TG _ _ e
      · rw [upd_same, List.take_add_one, hx, List.map_append, List.map_append]
        rfl
    rintro H6 ⟨T6, e6⟩
    rw [List.length_map, vl, List.take_length] at e6
    refine ⟨by show 2 ≤ sizeLine; decide, fun r1 hr1' => ?_⟩
    have T7 : Same H6 (upd H6 r1 (.lst [.ref D4, .ref D5])) := Same.upd hr1'
    have e7 : (upd H6 r1 (.lst [.ref D4, .ref D5])) r1 = some (.lst [.ref D4, .ref D5]) := upd_same
    generalize upd H6 r1 (.lst [.ref D4, .ref D5]) = H7 at T7 e7
    refine ⟨r0, r1, _, _, rfl, rfl, T7 _ _ (T6 _ _ (T5 _ _ e4)), e7, by show 5 ≤ sizeLine; decide, fun r2 hr2 => ?_⟩
    dsimp only [gName, List.set_cons_succ, List.set_cons_zero]
    have T8 : Same H7 (upd H7 r2 (.lst ([.ref l1, .ref l2, .ref D3] ++ [.ref D4, .ref D5]))) := Same.upd hr2
    have e8 : (upd H7 r2 (.lst ([.ref l1, .ref l2, .ref D3] ++ [.ref D4, .ref D5]))) r2 = some (.lst (([l1, l2, D3, D4, D5] : List Addr).map V.ref)) := upd_same
    generalize upd H7 r2 (.lst ([.ref l1, .ref l2, .ref D3] ++ [.ref D4, .ref D5])) = H8 at T8 e8
    have S08 := S05.trans (Same.trans T6 (T7.trans T8))
    have MH8 := M.same S08
    have ra : AllAt (fun a (y : List Str) => H8 a = some (.lst (y.map V.str))) [l1, l2, D3, D4, D5] [ss, ws, ms.map jnM, rs.map (·.nm), bs.map (·.nm)] := ⟨MH8.h1, MH8.h2, T8 _ _ (T7 _ _ (T6 _ _ (T5 _ _ e34))), T8 _ _ (T7 _ _ (T6 _ _ e5)), T8 _ _ (T7 _ _ e6), True.intro⟩
    have rl : ∀ y ∈ [ss, ws, ms.map jnM, rs.map (·.nm), bs.map (·.nm)], y.length ≤ 1000 ∧ ∀ z ∈ y, z.length ≤ 1000 := fun y hy => by
      have hy : y = ss ∨ y = ws ∨ y = ms.map jnM ∨ y = rs.map (·.nm) ∨ y = bs.map (·.nm) := by simpa using hy
      rcases hy with rfl | rfl | rfl | rfl | rfl
      · exact ⟨by omega, fun z hz => Nat.le_trans (sd z hz).1 (by decide)⟩
      · exact ⟨by omega, fun z hz => Nat.le_trans (wd z hz).1 (by decide)⟩
      · refine ⟨by rw [List.length_map]; omega, fun z hz => ?_⟩
        obtain ⟨x, hx, rfl⟩ := List.mem_map.mp hz
        have q := (md x hx).mr.1
        have q2 := (md x hx).md.1
        have q3 : (jnM x).length = x.mr.length + 1 + x.md.length := by
          unfold jnM
          rw [len_app, len_app]
          rfl
        omega
      · refine ⟨by rw [List.length_map]; omega, fun z hz => ?_⟩
        obtain ⟨x, hx, rfl⟩ := List.mem_map.mp hz
        exact Nat.le_trans (rd x hx).1 (by decide)
      · refine ⟨by rw [List.length_map]; omega, fun z hz => ?_⟩
        obtain ⟨x, hx, rfl⟩ := List.mem_map.mp hz
        exact Nat.le_trans (bd x hx).1 (by decide)
    have nd0 : rowsDue [ss, ws, ms.map jnM, rs.map (·.nm), bs.map (·.nm)] = none → ss.Nodup := fun e => by
      rw [rowsDue] at e
      exact nodup_of_tw (Option.or_eq_none_iff.mp e).1
    generalize [ss, ws, ms.map jnM, rs.map (·.nm), bs.map (·.nm)] = R at ra rl nd0 k
    refine ⟨_, rfl, r2, rfl, ⟨_, SqL.of e8⟩, for_list (K := K) (a := r2) (xs := ([l1, l2, D3, D4, D5] : List Addr).map V.ref) (fun i σ H' => (∃ u v, σ = [some (.ref m), v2, some (.ref r2), none, u, v]) ∧ Same H8 H' ∧ ∀ j y, j < i → R[j]? = some y → goF twF [] y = none) ⟨⟨_, _, rfl⟩, Same.refl H8, fun j y h => absurd h (Nat.not_lt_zero j)⟩ (fun i σ H' _ p => SqL.of (p.2.1 _ _ e8)) ?_ ?_⟩
    · rintro i y σ H9 hi ⟨⟨u, v, rfl⟩, S9, hno⟩
      obtain ⟨a, zs, rfl, hzs, ha⟩ := ra.get hi
      obtain ⟨zl, zz⟩ := rl zs (List.mem_of_getElem? hzs)
      dsimp only [gName, List.set_cons_succ, List.set_cons_zero]
      refine ⟨_, rfl, a, zs, rfl, S9 _ _ ha, zl, fun no H10 S10 => ?_, fun j z hz hin no H10 S10 => ?_⟩
      · refine ⟨_, rfl, _, rfl, iteF ⟨⟨_, _, rfl⟩, S9.trans S10, ?_⟩⟩
        have q : goF twF [] zs = none := goF_none fun j y hj e => by
          have q := no j y hj e
          unfold twP at q
          unfold twF
          split at q
          · cases q
          · rename_i n
            rw [if_neg n]
        intro j y hj ey
        by_cases e : j = i
        · subst e
          rw [hzs] at ey
          cases ey
          exact q
        · exact hno j y (by omega) ey
      · have q : goF twF [] zs = some (.tw (fstW z)) := goF_hit (fun j y hj e => by
          have q := no j y hj e
          unfold twP at q
          unfold twF
          split at q
          · cases q
          · rename_i n
            rw [if_neg n]) hz (by unfold twF; rw [if_pos hin])
        rw [rows_hit hno hzs q] at k
        have S10' := S9.trans S10
        refine ⟨_, rfl, _, rfl, iteT ⟨_, rfl, _, rfl, rdList (S10' _ _ ha) (j := j) rfl (by rw [List.getElem?_map, hz]; rfl) ⟨⟨z, rfl⟩, z, SP, rfl, rfl, by decide +kernel, Nat.le_trans (show z.length + 2 ≤ 2000 by have := zz z (List.mem_of_getElem? hz); omega) (by decide), fun l hl => ?_⟩⟩⟩
        obtain ⟨h0, t0, et⟩ : ∃ h0 t0, Txt.split z SP = h0 :: t0 := by
          cases e : Txt.split z SP with
          | nil =>
            rw [show SP = ⟨#[32]⟩ from blank] at e
            exact absurd e (split_ne z 32)
          | cons a b => exact ⟨a, b, rfl⟩
        have ef : fstW z = h0 := by unfold fstW; rw [et]; rfl
        rw [et]
        dsimp only [tC]
        refine rdList upd_same (j := 0) (v := .str h0) rfl rfl ⟨by show 2 ≤ sizeLine; decide, fun t ht => k _ _ (S08.trans (S10'.trans ((Same.upd hl).trans (Same.upd ht)))) ⟨t, rfl, ?_⟩⟩
        rw [upd_same, ef]
        rfl
    · rintro σ H9 ⟨⟨u, v, rfl⟩, S9, hno⟩
      have rlen : R.length = 5 := ra.len.symm
      have rn : rowsDue R = none := rows_none fun j y hj e => hno j y (by rw [List.length_map]; show j < 5; omega) e
      rw [rn, Option.none_or] at k
      have S09 := S08.trans S9
      exact ⟨_, rfl, m, l1, l2, l3, l4, l5, ts, us, vs', ss, ws, ms, rs, bs, rfl, M.same S09, nd0 rn, s20, m20, r20, b20, fun x hx => ⟨(md x hx).d1, (md x hx).u1⟩, fun v H10 S10 vl => k v H10 (S09.trans S10) vl⟩
end
end Wm
namespace Wm
open PySem L2 StX
/-! ### what the law asks of its own scheme is what the program's scheme is refused for -/
abbrev vA : Str := PySem.Str.ofString "a"
abbrev vB : Str := PySem.Str.ofString "b"
def ruD (x : PaT) : RlD := ⟨⟨x.nm, [(vA, x.k0), (vB, x.k1)], [(vA, x.w0, vB)]⟩, (vB, x.w1, vA), vA⟩
def baD (x : PaT) : PtD := ⟨x.nm, [(vA, x.k0), (vB, x.k1)], [(vA, x.w0, vB)]⟩
theorem or_same {α : Type} {a x y : Option α} (h : a = none → x = y) : a.or x = a.or y := by
  cases a with
  | none => exact h rfl
  | some v => rfl
theorem or_both {α : Type} {a b x y : Option α} (e : a = b) (h : a = none → x = y) : a.or x = b.or y := by
  rw [← e]
  exact or_same h
theorem goF_pre {α β : Type} {p : List α → α → Option β} (h : ∀ a b x, p a x = p b x) : ∀ (xs a b : List α), goF p a xs = goF p b xs
  | [], _, _ => rfl
  | x :: r, a, b => by
    rw [goF, goF, h a b x, goF_pre h r (a ++ [x]) (b ++ [x])]
theorem goF_app {α β : Type} {p : List α → α → Option β} (h : ∀ a b x, p a x = p b x) : ∀ (xs ys a : List α), goF p a (xs ++ ys) = (goF p [] xs).or (goF p [] ys)
  | [], ys, a => by
    rw [List.nil_append, goF, Option.none_or]
    exact goF_pre h ys a []
  | x :: r, ys, a => by
    rw [List.cons_append, goF, goF, h a [] x]
    cases e : p [] x with
    | some b => rfl
    | none =>
      show goF p (a ++ [x]) (r ++ ys) = (goF p ([] ++ [x]) r).or _
      rw [goF_app h r ys (a ++ [x]), goF_pre h r ([] ++ [x]) []]
theorem goF_cong {α γ β : Type} {S : α → Prop} {f : α → γ} {p : List γ → γ → Option β} {q : List α → α → Option β} (h : ∀ pre x, (∀ y ∈ pre, S y) → S x → p (pre.map f) (f x) = q pre x) : ∀ (xs pre : List α), (∀ y ∈ pre, S y) → (∀ y ∈ xs, S y) → goF p (pre.map f) (xs.map f) = goF q pre xs
  | [], _, _, _ => rfl
  | x :: r, pre, hp, hx => by
    have e := h pre x hp (hx x List.mem_cons_self)
    have ih := goF_cong h r (pre ++ [x]) (fun y hy => by
      rcases List.mem_append.mp hy with q | q
      · exact hp y q
      · rw [List.mem_singleton.mp q]
        exact hx x List.mem_cons_self) fun y hy => hx y (List.mem_cons_of_mem _ hy)
    rw [List.map_append] at ih
    rw [List.map_cons, goF, goF, e]
    cases q pre x with
    | some b => rfl
    | none => exact ih
theorem nm_nosp {z : Str} (h : isNm z = true) : 32 ∉ z.cps.toList := fun m => by
  unfold isNm at h
  simp only [Bool.and_eq_true] at h
  have q := List.all_eq_true.mp h.2.2.2 32 m
  revert q
  decide +kernel
theorem split_one {z : Str} (h : 32 ∉ z.cps.toList) : Txt.split z SP = [z] := by
  have q := split_join (c := 32) (ps := [z]) (by simp) fun p hp => by rw [List.mem_singleton.mp hp]; exact h
  rw [show SP = ⟨#[32]⟩ from blank]
  have e : Txt.join ⟨#[32]⟩ [z] = z := StrLaws.glued_eq_join ⟨#[32]⟩ [z]
  rw [e] at q
  exact q
theorem split_two {a b : Str} (ha : 32 ∉ a.cps.toList) (hb : 32 ∉ b.cps.toList) : Txt.split ((a ++ SP) ++ b) SP = [a, b] := by
  have q := split_join (c := 32) (ps := [a, b]) (by simp) fun p hp => by
    rcases List.mem_cons.mp hp with e | e
    · rw [e]
      exact ha
    · rw [List.mem_singleton.mp e]
      exact hb
  rw [show SP = ⟨#[32]⟩ from blank]
  have e : Txt.join ⟨#[32]⟩ [a, b] = (a ++ ⟨#[32]⟩) ++ b := StrLaws.glued_eq_join ⟨#[32]⟩ [a, b]
  rw [e] at q
  exact q
theorem tw_names {zs : List Str} (h : ∀ z ∈ zs, isNm z = true) : goF twF [] zs = goF twP [] zs := by
  have q := goF_cong (S := fun z => isNm z = true) (f := fun z : Str => z) (p := twF) (q := twP) (fun pre x hp hx => by
    rw [show pre.map (fun z : Str => z) = pre from List.map_id' pre]
    unfold twF twP
    have e : fstW x = x := by
      unfold fstW
      rw [split_one (nm_nosp hx)]
      rfl
    rw [e]) zs [] (fun y hy => (List.not_mem_nil hy).elim) h
  rw [show zs.map (fun z : Str => z) = zs from List.map_id' zs] at q
  exact q
theorem tw_pairs {ms : List MkD} (h : ∀ x ∈ ms, isNm x.mr = true ∧ isNm x.md = true) : goF twF [] (ms.map jnM) = goF twM [] ms := by
  refine goF_cong (S := fun x : MkD => isNm x.mr = true ∧ isNm x.md = true) (f := jnM) (p := twF) (q := twM) (fun pre x hp hx => ?_) ms [] (fun y hy => (List.not_mem_nil hy).elim) h
  have sp : ∀ {y : MkD}, isNm y.mr = true ∧ isNm y.md = true → Txt.split (jnM y) SP = [y.mr, y.md] := fun {y} q => split_two (nm_nosp q.1) (nm_nosp q.2)
  have e : fstW (jnM x) = x.mr := by
    unfold fstW
    rw [sp hx]
    rfl
  have m : jnM x ∈ pre.map jnM ↔ (x.mr, x.md) ∈ pre.map (fun y => (y.mr, y.md)) := by
    constructor
    · intro m
      obtain ⟨y, hy, ey⟩ := List.mem_map.mp m
      have q := sp (hp y hy)
      rw [ey, sp hx] at q
      injection q with q1 q2
      injection q2 with q2 _
      exact List.mem_map.mpr ⟨y, hy, by rw [q1, q2]⟩
    · intro m
      obtain ⟨y, hy, ey⟩ := List.mem_map.mp m
      injection ey with q1 q2
      refine List.mem_map.mpr ⟨y, hy, ?_⟩
      unfold jnM
      rw [q1, q2]
  unfold twF twM
  rw [e]
  by_cases c : jnM x ∈ pre.map jnM
  · rw [if_pos c, if_pos (m.mp c)]
  · rw [if_neg c, if_neg fun q => c (m.mpr q)]
theorem nm_all {zs : List Str} (h : goF nmP [] zs = none) : ∀ z ∈ zs, isNm z = true := fun z hz => by
  obtain ⟨q, e⟩ := goF_all h z hz
  unfold nmP at e
  split at e
  · assumption
  · cases e
theorem due_same {ss ws : List Str} {ms : List MkD} {rs bs : List PaT} (hm : ∀ x ∈ ms, isNm x.mr = true ∧ isNm x.md = true) (hr : ∀ x ∈ rs, isNm x.nm = true) (hb : ∀ x ∈ bs, isNm x.nm = true) : dueC ss ws ms rs bs = schDue ss ws ms (rs.map ruD) (bs.map baD) := by
  unfold dueC schDue
  rw [List.length_map, List.length_map, goF_app (fun _ _ _ => rfl) ss ws []]
  refine or_same fun _ => or_same fun _ => or_same fun _ => or_same fun _ => ?_
  rw [Option.or_assoc]
  refine or_same fun n1 => or_same fun n2 => ?_
  rw [rowsDue, rowsDue, rowsDue, rowsDue, rowsDue, rowsDue, Option.or_none]
  rw [tw_names (nm_all n1), tw_names (nm_all n2), tw_pairs hm, tw_names fun z hz => by obtain ⟨x, hx, rfl⟩ := List.mem_map.mp hz; exact hr x hx, tw_names fun z hz => by obtain ⟨x, hx, rfl⟩ := List.mem_map.mp hz; exact hb x hx]
  rw [Option.or_assoc, Option.or_assoc, Option.or_assoc, Option.or_assoc]
  rw [show (rs.map ruD).map (·.p.nm) = rs.map (·.nm) by rw [List.map_map]; rfl, show (bs.map baD).map (·.nm) = bs.map (·.nm) by rw [List.map_map]; rfl]
  refine or_same fun _ => or_same fun _ => or_same fun _ => or_same fun _ => or_same fun _ => ?_
  unfold dueP
  have kd : ∀ x : PaT, ([(vA, x.k0), (vB, x.k1)] : List Var).filterMap (·.2) = kdL x := fun x => by
    unfold kdL
    cases x.k0 <;> cases x.k1 <;> rfl
  have e1 : askS ms ((rs.map ruD).map (·.p.vars) ++ (bs.map baD).map (·.vars)) = askS1 ms (rs ++ bs) := by
    unfold askS askS1
    rw [List.flatMap_append, List.flatMap_append, List.map_map, List.map_map, List.flatMap_map, List.flatMap_map]
    have f1 : (fun x : PaT => (((fun y : RlD => y.p.vars) ∘ ruD) x).filterMap (·.2)) = kdL := funext fun x => kd x
    have f2 : (fun x : PaT => (((fun y : PtD => y.vars) ∘ baD) x).filterMap (·.2)) = kdL := funext fun x => kd x
    rw [f1, f2]
  have e2 : askW ms (rs.map ruD) (bs.map baD) = askW1 ms rs bs := by
    unfold askW askW1
    rw [List.flatMap_map, List.flatMap_map]
    rfl
  rw [e1, e2]
end Wm
/-! methods called within a try, by place and by name -/
namespace Wm
open PySem PySem.Spec PyProof.Rows L2
def tMethZ (C : Addr) (m : Str) (sp : Sp) (E : L2.St → XK) (ta : TE) (t : TA) : TE := fun σ H Q => ta σ H fun x H1 => ∃ a dx fs, x = .ref a ∧ H1 a = some (.ins C dx fs) ∧ fs.lookup m = none ∧ t σ H1 fun vs H2 => sp (x :: vs) H2 Q (E σ)
section
variable {X : Cx} {CX : CXT} {k : Nat} {f C : Addr} {fd : FuncData} {ps : List Str} {sp : Sp} {E : L2.St → XK} {m : Str} {pos apos kpos : Pos} {e o : Expr} {es : List Expr} {ta te : TE} {t : TA}
theorem pe_methZ {pl : Sem Bool} (he : PE X o ta) (c : Cls X.K C) (hm : Meth X.K C m f) (F : FnOk X.prog X.w X.K X.mg X.base CX k f fd ps sp) (hr : Room k X.A) (hb : Binds X.K fd ps []) (hx : ∀ σ, PassesAt CX X σ (E σ)) (ha : PA X (e :: es) t)
    (hst : starEach (e :: es) X.env = (false, eval e X.env) :: starEach es X.env := by rfl) (hpl : (backTo pos (starEach es X.env)).any (·.1) = false := by rfl)
    (ht : eval (.Call (.Attribute o m apos) (e :: es) [] pos) X.env = (do
      let ov ← eval o X.env
      standAt apos.atName
      let (f, first) ← holding [ov] (getMethod ov m pl)
      callWith pos f first (backTo pos (starEach (e :: es) X.env)) (backToKw pos (keywordEach [] X.env))) := by rfl) :
    PE X (.Call (.Attribute o m apos) (e :: es) [] pos) (tMethZ C m sp E ta t) := by
  refine ⟨fun pins s σ H Q I h => ?_⟩
  refine PySem.W.methodCall_KW (pl := pl) (thn (he.run pins s σ H _ I h) fun u s1 hh => ?_) ht
  obtain ⟨x, H1, I1, rx, a, dx, fs, ex, ea, l, q⟩ := hh
  subst ex
  obtain rfl : u = Value.ref a := rx
  refine getmeth_ok I1 ea c hm l ?_
  refine PySem.W.callWith_K (first := [.ref a]) (h₀ := X.base) I.ok.mod.kin hm.kp (thn (ha.run pos pins s1 σ H1 _ I1 q) fun us s2 hh => ?_) hst hpl
  obtain ⟨vs, H2, I2, r, q2⟩ := hh
  exact ⟨I2.kIn, run_fnS (us := .ref a :: us) (vs := .ref a :: vs) F hr hb (hx σ) I2 (.cons rfl r) q2⟩
/-- how one keyword is bound behind the object itself -/
def KwOne (K : PySem.W.Frag) (fd : FuncData) (ps : List Str) (x : Str) : Prop := ∀ (s : Shared) (u v : Value), K.In s.heap → BindsTo s fd ⟨[u], [(x, v)]⟩ (ps.zip [u, v])
/-- o.m(x=e) -/
theorem pe_methKZ {pl : Sem Bool} {x : Str} (ho : PE X o ta) (c : Cls X.K C) (hm : Meth X.K C m f) (F : FnOk X.prog X.w X.K X.mg X.base CX k f fd ps sp) (hr : Room k X.A) (hb : KwOne X.K fd ps x) (hx : ∀ σ, PassesAt CX X σ (E σ)) (he : PE X e te)
    (ht : eval (.Call (.Attribute o m apos) [] [⟨some x, e, kpos⟩] pos) X.env = (do
      let ov ← eval o X.env
      standAt apos.atName
      let (f, first) ← holding [ov] (getMethod ov m pl)
      callWith pos f first (backTo pos (starEach [] X.env)) (backToKw pos (keywordEach [⟨some x, e, kpos⟩] X.env))) := by rfl)
    (hall : (backToKw pos (keywordEach [⟨some x, e, kpos⟩] X.env)).all (·.1.isSome) = true := by rfl) (hks : (backToKw pos (keywordEach [⟨some x, e, kpos⟩] X.env)).filterMap (·.1) = [x] := by rfl) (hpl : ((backTo pos (starEach [] X.env)).any (·.1) || (backToKw pos (keywordEach [⟨some x, e, kpos⟩] X.env)).any (·.1.isNone)) = false := by rfl) (hps : ps.length = 2 := by rfl) :
    PE X (.Call (.Attribute o m apos) [] [⟨some x, e, kpos⟩] pos) (tMethZ C m sp E ta (tCons te tNil)) := by
  refine ⟨fun pins s σ H Q I h => ?_⟩
  refine PySem.W.methodCall_KW (pl := pl) (thn (ho.run pins s σ H _ I h) fun u s1 hh => ?_) ht
  obtain ⟨y, H1, I1, rx, a, dx, fs, ex, ea, l, q⟩ := hh
  subst ex
  obtain rfl : u = Value.ref a := rx
  refine getmeth_ok I1 ea c hm l ?_
  have hkw : PK X [⟨some x, e, kpos⟩] (tCons te tNil) := pk_cons he pk_nil
  refine PySem.W.callWith_KW0 (first := [.ref a]) (h₀ := X.base) I.ok.mod.kin hm.kp hall (thn (hkw.run pos pins s1 σ H1 _ I1 q) fun ws s2 hh => ?_) hpl
  obtain ⟨zs, H2, I2, rz, q2⟩ := hh
  refine ⟨I2.kIn, ?_⟩
  rw [hks]
  have hl := F.len _ _ _ _ q2
  cases rz with
  | nil =>
    rw [hps] at hl
    simp at hl
  | @cons v0 u0 vr ur r1 r2 =>
    cases r2 with
    | cons _ _ =>
      rw [hps] at hl
      simp at hl
    | nil =>
      have rv : Vals [V.ref a, v0] [Value.ref a, u0] := .cons rfl (.cons r1 .nil)
      refine wpAny_call (codeAny_mono (F.run X.A X.stack s2 H2 ⟨[Value.ref a], [(x, u0)]⟩ [Value.ref a, u0] [V.ref a, v0] Q (E σ) hr I2.env0 (hb s2 _ u0 I2.kIn) rv q2) fun r s' hq => ?_)
      cases r with
      | error er => exact hx σ pins H2 s2 er s' I2 hq
      | ok fl =>
        cases fl with
        | ret u => exact I2.after hq
        | next => exact False.elim hq
        | brk => exact False.elim hq
        | cont => exact False.elim hq
end
end Wm
/-! methods called by several names; != of two lists that hold the very same objects; what keywords bind -/
namespace Wm
open PySem PySem.Spec PyProof.Rows L2
def tMethK (C : Addr) (m : Str) (n : Nat) (sp : Sp) (gV : List V → List V → List V) (E : L2.St → XK) (ta : TE) (tk : TA) : TE := fun σ H Q => ta σ H fun x H1 => ∃ a dx fs, x = .ref a ∧ H1 a = some (.ins C dx fs) ∧ fs.lookup m = none ∧ tk σ H1 fun zs H2 => zs.length = n ∧ sp (gV [x] zs) H2 Q (E σ)
section
variable {X : Cx} {CX : CXT} {k : Nat} {f C : Addr} {fd : FuncData} {ps ks : List Str} {sp : Sp} {E : L2.St → XK} {m : Str} {pos apos : Pos} {o : Expr} {kws : List Keyword} {ta : TE} {tk : TA} {g : List Value → List Value → List Value} {gV : List V → List V → List V}
/-- o.m(k = v, ..) -/
theorem pe_methKN {pl : Sem Bool} (ho : PE X o ta) (c : Cls X.K C) (hm : Meth X.K C m f) (F : FnOk X.prog X.w X.K X.mg X.base CX k f fd ps sp) (hr : Room k X.A) (hb : KBn X.K fd ps 1 ks g gV) (hx : ∀ σ, PassesAt CX X σ (E σ)) (hkw : PK X kws tk)
    (ht : eval (.Call (.Attribute o m apos) [] kws pos) X.env = (do
      let ov ← eval o X.env
      standAt apos.atName
      let (f, first) ← holding [ov] (getMethod ov m pl)
      callWith pos f first (backTo pos (starEach [] X.env)) (backToKw pos (keywordEach kws X.env))) := by rfl)
    (hall : (backToKw pos (keywordEach kws X.env)).all (·.1.isSome) = true := by rfl) (hks : (backToKw pos (keywordEach kws X.env)).filterMap (·.1) = ks := by rfl) (hpl : ((backTo pos (starEach [] X.env)).any (·.1) || (backToKw pos (keywordEach kws X.env)).any (·.1.isNone)) = false := by rfl) :
    PE X (.Call (.Attribute o m apos) [] kws pos) (tMethK C m ks.length sp gV E ta tk) := by
  refine ⟨fun pins s σ H Q I h => ?_⟩
  refine PySem.W.methodCall_KW (pl := pl) (thn (ho.run pins s σ H _ I h) fun u s1 hh => ?_) ht
  obtain ⟨y, H1, I1, rx, a, dx, fs, ex, ea, l, q⟩ := hh
  subst ex
  obtain rfl : u = Value.ref a := rx
  refine getmeth_ok I1 ea c hm l ?_
  refine PySem.W.callWith_KW0 (first := [.ref a]) (h₀ := X.base) I.ok.mod.kin hm.kp hall (thn (hkw.run pos pins s1 σ H1 _ I1 q) fun ws s2 hh => ?_) hpl
  obtain ⟨zs, H2, I2, rz, l2, q2⟩ := hh
  refine ⟨I2.kIn, ?_⟩
  rw [hks]
  have rv : Vals (gV [V.ref a] zs) (g [Value.ref a] ws) := hb.rel (.cons rfl .nil) rz
  refine wpAny_call (codeAny_mono (F.run X.A X.stack s2 H2 ⟨[Value.ref a], ks.zip ws⟩ (g [Value.ref a] ws) (gV [V.ref a] zs) Q (E σ) hr I2.env0 (hb.to s2 [Value.ref a] ws I2.kIn rfl (rz.length.symm.trans l2)) rv q2) fun r s' hq => ?_)
  cases r with
  | error er => exact hx σ pins H2 s2 er s' I2 hq
  | ok fl =>
    cases fl with
    | ret u => exact I2.after hq
    | next => exact False.elim hq
    | brk => exact False.elim hq
    | cont => exact False.elim hq
end
theorem pass0At {X : Cx} {E : L2.St → XK} : ∀ σ, PassesAt CX0 X σ (E σ) := fun _ _ _ _ _ _ _ h => h.elim
theorem vals_refs : ∀ {as : List Addr} {us : List Value}, Vals (as.map V.ref) us → us = as.map Value.ref
  | [], _, .nil => rfl
  | a :: as, _, .cons h r => by
    have e := vals_refs (as := as) r
    cases h
    rw [e]
    rfl
/-- a != b, two lists that hold the very same objects -/
def rNeS : R2 := fun x y H Q => ∃ (a b : Addr) (as : List Addr), x = .ref a ∧ y = .ref b ∧ H a = some (.lst (as.map V.ref)) ∧ H b = some (.lst (as.map V.ref)) ∧ Q (.bl false) H
theorem op_neS {X : Cx} (hu : X.A.units < cLine) : OpR X (compareOp .NotEq) rNeS := by
  intro pins s σ H x y v u Q I rx ry h
  obtain ⟨a, b, as, rfl, rfl, ha, hb, q⟩ := h
  cases rx
  cases ry
  obtain ⟨z, its, k, r, e⟩ := I.hok a _ ha
  obtain ⟨z2, its2, k2, r2, e2⟩ := I.hok b _ hb
  have h1 := vals_refs r
  have h2 := vals_refs r2
  subst h1
  subst h2
  have hr := SeqAt.RcNeAt.lists (A := X.A) (s := s) (l := a) (b := b) (items := (as.map Value.ref).toArray) (items2 := (as.map Value.ref).toArray) (e := fun _ => true) ⟨_, e, rfl, _, rfl⟩ ⟨_, e2, rfl, _, rfl⟩ rfl hu (fun j h1 h2 => SeqAt.EqAt.same _)
  have e3 : (!(List.range (as.map Value.ref).toArray.size).all fun _ => true) = false := by simp
  rw [e3] at hr
  show wpAny _ _ (richCompare .NotEq (.ref a) (.ref b)) _ _ _
  exact hr X.prog X.w X.xe _ ⟨.bl false, H, I, rfl, q⟩
theorem FunD.kb0 {K : PySem.W.Frag} {x qual : Str} {params : Arguments} {body : List Stmt} {scope : Scope} {f : Addr} {fd : FuncData} {ps : List Str} (F : FunD K x qual params body scope [] [] f fd) (n : Nat) (ks : List Str) (g : {α : Type} → List α → List α → List α)
    (hrel : ∀ {vs zs : List V} {us ws : List Value}, Vals vs us → Vals zs ws → Vals (g vs zs) (g us ws))
    (h : ∀ (kV doc pm : Value) (an : Option Addr) (cdv ct : Value) (us ws : List Value), us.length = n → ws.length = ks.length → bindArgs (PySem.W.fnOf x qual params body scope .none kV doc pm an cdv ct) ⟨us, ks.zip ws⟩ = pure (ps.zip (g us ws))) : KBn K fd ps n ks (fun us ws => g us ws) (fun vs zs => g vs zs) := by
  obtain ⟨oc, od, dV, kV, doc, pm, an, cdv, ct, osl, rfl, lk, hcd, hD, hK⟩ := F.ex
  rcases hD with ⟨_, rfl⟩ | ⟨e, _⟩
  · exact ⟨fun s us ws X l1 l2 => .of_eq (h kV doc pm an cdv ct us ws l1 l2), fun r1 r2 => hrel r1 r2⟩
  · exact absurd rfl e
/-! ### orders of what is handed in by name -/
def g1 {α : Type} : List α → List α → List α
  | [x], [a] => [x, a]
  | _, _ => []
def g2 {α : Type} : List α → List α → List α
  | [x], [a, b] => [x, b, a]
  | _, _ => []
def g3 {α : Type} : List α → List α → List α
  | [x], [c, n, v] => [x, n, v, c]
  | _, _ => []
def g4 {α : Type} : List α → List α → List α
  | [x], [u, d, md, mk] => [x, mk, md, d, u]
  | _, _ => []
def g5 {α : Type} : List α → List α → List α
  | [x], [b, g, c, v, n] => [x, n, v, c, g, b]
  | _, _ => []
def g5s {α : Type} : List α → List α → List α
  | [x], [b, r, w, m, s] => [x, s, w, m, r, b]
  | _, _ => []
def g3s {α : Type} : List α → List α → List α → List α
  | [x], [m0, _, b0], [r, s, w] => [x, s, w, m0, r, b0]
  | _, _, _ => []
theorem g1_rel {vs zs : List V} {us ws : List Value} (h1 : Vals vs us) (h2 : Vals zs ws) : Vals (g1 vs zs) (g1 us ws) := by
  rcases h1 with _ | ⟨a, _ | ⟨_, _⟩⟩
  · exact .nil
  · rcases h2 with _ | ⟨b, _ | ⟨_, _⟩⟩
    · exact .nil
    · exact .cons a (.cons b .nil)
    · exact .nil
  · exact .nil
theorem g2_rel {vs zs : List V} {us ws : List Value} (h1 : Vals vs us) (h2 : Vals zs ws) : Vals (g2 vs zs) (g2 us ws) := by
  rcases h1 with _ | ⟨a, _ | ⟨_, _⟩⟩
  · exact .nil
  · rcases h2 with _ | ⟨b, _ | ⟨c, _ | ⟨_, _⟩⟩⟩
    · exact .nil
    · exact .nil
    · exact .cons a (.cons c (.cons b .nil))
    · exact .nil
  · exact .nil
theorem g3_rel {vs zs : List V} {us ws : List Value} (h1 : Vals vs us) (h2 : Vals zs ws) : Vals (g3 vs zs) (g3 us ws) := by
  rcases h1 with _ | ⟨a, _ | ⟨_, _⟩⟩
  · exact .nil
  · rcases h2 with _ | ⟨b, _ | ⟨c, _ | ⟨d, _ | ⟨_, _⟩⟩⟩⟩
    · exact .nil
    · exact .nil
    · exact .nil
    · exact .cons a (.cons c (.cons d (.cons b .nil)))
    · exact .nil
  · exact .nil
theorem g4_rel {vs zs : List V} {us ws : List Value} (h1 : Vals vs us) (h2 : Vals zs ws) : Vals (g4 vs zs) (g4 us ws) := by
  rcases h1 with _ | ⟨a, _ | ⟨_, _⟩⟩
  · exact .nil
  · rcases h2 with _ | ⟨b, _ | ⟨c, _ | ⟨d, _ | ⟨e, _ | ⟨_, _⟩⟩⟩⟩⟩
    · exact .nil
    · exact .nil
    · exact .nil
    · exact .nil
    · exact .cons a (.cons e (.cons d (.cons c (.cons b .nil))))
    · exact .nil
  · exact .nil
theorem g5_rel {vs zs : List V} {us ws : List Value} (h1 : Vals vs us) (h2 : Vals zs ws) : Vals (g5 vs zs) (g5 us ws) := by
  rcases h1 with _ | ⟨a, _ | ⟨_, _⟩⟩
  · exact .nil
  · rcases h2 with _ | ⟨b, _ | ⟨c, _ | ⟨d, _ | ⟨e, _ | ⟨f, _ | ⟨_, _⟩⟩⟩⟩⟩⟩
    · exact .nil
    · exact .nil
    · exact .nil
    · exact .nil
    · exact .nil
    · exact .cons a (.cons f (.cons e (.cons d (.cons c (.cons b .nil)))))
    · exact .nil
  · exact .nil
theorem g5s_rel {vs zs : List V} {us ws : List Value} (h1 : Vals vs us) (h2 : Vals zs ws) : Vals (g5s vs zs) (g5s us ws) := by
  rcases h1 with _ | ⟨a, _ | ⟨_, _⟩⟩
  · exact .nil
  · rcases h2 with _ | ⟨b, _ | ⟨c, _ | ⟨d, _ | ⟨e, _ | ⟨f, _ | ⟨_, _⟩⟩⟩⟩⟩⟩
    · exact .nil
    · exact .nil
    · exact .nil
    · exact .nil
    · exact .nil
    · exact .cons a (.cons f (.cons d (.cons e (.cons c (.cons b .nil)))))
    · exact .nil
  · exact .nil
theorem g3s_rel {vs ds zs : List V} {us its ws : List Value} (h1 : Vals vs us) (h0 : Vals ds its) (h2 : Vals zs ws) : Vals (g3s vs ds zs) (g3s us its ws) := by
  rcases h1 with _ | ⟨a, _ | ⟨_, _⟩⟩
  · exact .nil
  · rcases h0 with _ | ⟨p, _ | ⟨q, _ | ⟨r, _ | ⟨_, _⟩⟩⟩⟩
    · exact .nil
    · exact .nil
    · exact .nil
    · rcases h2 with _ | ⟨b, _ | ⟨c, _ | ⟨d, _ | ⟨_, _⟩⟩⟩⟩
      · exact .nil
      · exact .nil
      · exact .nil
      · exact .cons a (.cons c (.cons d (.cons p (.cons b (.cons r .nil)))))
      · exact .nil
    · exact .nil
  · exact .nil
end Wm
namespace Wm
open PySem L2
/-- a == b, two lists that hold the very same objects -/
def rEqS : R2 := fun x y H Q => ∃ (a b : Addr) (as : List Addr), x = .ref a ∧ y = .ref b ∧ H a = some (.lst (as.map V.ref)) ∧ H b = some (.lst (as.map V.ref)) ∧ Q (.bl true) H
theorem op_eqS {X : Cx} (hu : X.A.units < cLine) : OpR X (compareOp .Eq) rEqS := by
  intro pins s σ H x y v u Q I rx ry ⟨a, b, as, ex, ey, ha, hb, q⟩
  subst ex ey
  cases rx
  cases ry
  obtain ⟨_, ia, ka, ra, ea⟩ := I.hok a _ ha
  obtain ⟨_, ib, kb, rb, eb⟩ := I.hok b _ hb
  have la := vals_refs ra
  have lb := vals_refs rb
  subst la lb
  have run := SeqAt.RcAt.lists (A := X.A) (s := s) (l := a) (b := b) (items := (as.map Value.ref).toArray) (items2 := (as.map Value.ref).toArray) (e := fun _ => true) ⟨_, ea, rfl, _, rfl⟩ ⟨_, eb, rfl, _, rfl⟩ rfl hu (fun j _ _ => SeqAt.EqAt.same _)
  have yes : ((List.range (as.map Value.ref).toArray.size).all fun _ => true) = true := by simp
  rw [yes] at run
  show wpAny _ _ (richCompare .Eq (.ref a) (.ref b)) _ _ _
  exact run X.prog X.w X.xe _ ⟨.bl true, H, I, rfl, q⟩
end Wm
namespace Wm
open PySem L2 StX
theorem dueM_all {C : Addr} {zs : List Str} {H0 : Hp} {ok : Hp → Prop} {E : XK} (h : ∀ z ∈ zs, isNm z = true) (k : ∀ H', Same H0 H' → ok H') : DueM C zs H0 ok E := by
  unfold DueM
  have e : zs.find? (fun z => !isNm z) = none := by
    rw [List.find?_eq_none]
    intro z hz
    rw [h z hz]
    decide
  rw [e]
  exact k
theorem rul_new {K : PySem.W.Frag} {C RB : Addr} {H : Hp} {l1 l2 g : Addr} {nm b : Str} {ps qs : List Addr} {vars : List Var} {cs : List Tri} {gt : Tri} {R : Addr → Hp → Prop} {E : XK} (h1 : SqL K H l1 (ps.map V.ref)) (r1 : RowsAt K H ps (vars.map varV)) (h2 : SqL K H l2 (qs.map V.ref)) (r2 : RowsAt K H qs (cs.map triV)) (hg : H g = some (.tup (triV gt)))
    (ok : PatOk vars cs [gt] [b]) (hn : ∀ z ∈ textsL nm vars (cs ++ [gt]), isNm z = true ∧ z.length ≤ 12) (k : ∀ x H', H x = none → Same H H' → RlAt K RB H' x ⟨⟨nm, vars, cs⟩, gt, b⟩ → R x H') :
    ∀ x dx, H x = none → H dx = none → dx ≠ x → spRul K C RB [.ref x, .str nm, .ref l1, .ref l2, .ref g, .str b] (upd (upd H dx (.own x)) x (.ins RB dx [])) (fun v H3 => v = .non ∧ R x H3) E := fun x dx hx hd ne => by
  refine ⟨H, x, dx, l1, l2, g, nm, b, ps, qs, vars, cs, gt, rfl, same_make hx hd, hx, upd_same, h1, r1, h2, r2, hg, ok, fun z hz => Nat.le_trans (hn z hz).2 (by decide), dueM_all (fun z hz => (hn z hz).1) fun H' S' t1 t2 a1 a2 a3 => ⟨rfl, ?_⟩⟩
  exact k x H' hx S' ⟨dx, t1, t2, g, ps, qs, a1, SqT.of a2, r1.same S', SqT.of a3, r2.same S', SqT.of (S' _ _ hg)⟩
theorem mak_new {K : PySem.W.Frag} {C MB : Addr} {H : Hp} {l1 l2 : Addr} {mk md : Str} {ds us : List Str} {R : Addr → Hp → Prop} {E : XK} (h1 : SqL K H l1 (ds.map V.str)) (h2 : SqL K H l2 (us.map V.str)) (n1 : ds.length ≤ 100) (n2 : us.length ≤ 100) (w1 : NoTw (ds.map V.str)) (w2 : NoTw (us.map V.str))
    (hn : ∀ z ∈ mk :: md :: (ds ++ us), isNm z = true ∧ z.length ≤ 12) (k : ∀ x H', H x = none → Same H H' → MkAt K MB H' x ⟨mk, md, ds, us⟩ → R x H') :
    ∀ x dx, H x = none → H dx = none → dx ≠ x → spMak K C MB [.ref x, .str mk, .str md, .ref l1, .ref l2] (upd (upd H dx (.own x)) x (.ins MB dx [])) (fun v H3 => v = .non ∧ R x H3) E := fun x dx hx hd ne => by
  refine ⟨H, x, dx, l1, l2, mk, md, ds, us, rfl, same_make hx hd, hx, upd_same, h1, h2, n1, n2, w1, w2, fun z hz => Nat.le_trans (hn z hz).2 (by decide), dueM_all (fun z hz => (hn z hz).1) fun H' S' t1 t2 a1 a2 a3 => ⟨rfl, ?_⟩⟩
  exact k x H' hx S' ⟨dx, t1, t2, a1, SqT.of a2, SqT.of a3⟩
theorem MkAt.put {K : PySem.W.Frag} {B D : Addr} {H : Hp} {a : Addr} {m : MkD} {xs : List V} {o : HO} (hD : H D = some (.lst xs)) (h : MkAt K B H a m) : MkAt K B (upd H D o) a m := by
  obtain ⟨d, t1, t2, h0, h1, h2⟩ := h
  exact ⟨d, t1, t2, (upd_ne (ne_of h0 hD (by intro z; cases z))).trans h0, sqT_put hD h1, sqT_put hD h2⟩
theorem RlAt.put {K : PySem.W.Frag} {B D : Addr} {H : Hp} {a : Addr} {r : RlD} {xs : List V} {o : HO} (hD : H D = some (.lst xs)) (h : RlAt K B H a r) : RlAt K B (upd H D o) a r := by
  obtain ⟨d, t1, t2, t3, ps, qs, h0, h1, h2, h3, h4, h5⟩ := h
  exact ⟨d, t1, t2, t3, ps, qs, (upd_ne (ne_of h0 hD (by intro z; cases z))).trans h0, sqT_put hD h1, rows_put hD h2, sqT_put hD h3, rows_put hD h4, sqT_put hD h5⟩
theorem bar_new {K : PySem.W.Frag} {C BB : Addr} {H : Hp} {l1 l2 : Addr} {nm : Str} {ps qs : List Addr} {vars : List Var} {cs : List Tri} {R : Addr → Hp → Prop} {E : XK} (h1 : SqL K H l1 (ps.map V.ref)) (r1 : RowsAt K H ps (vars.map varV)) (h2 : SqL K H l2 (qs.map V.ref)) (r2 : RowsAt K H qs (cs.map triV))
    (ok : PatOk vars cs [] []) (hn : ∀ z ∈ textsL nm vars cs, isNm z = true ∧ z.length ≤ 12) (k : ∀ x H', H x = none → Same H H' → BrAt K BB H' x ⟨nm, vars, cs⟩ → R x H') :
    ∀ x dx, H x = none → H dx = none → dx ≠ x → spBar K C BB [.ref x, .str nm, .ref l1, .ref l2] (upd (upd H dx (.own x)) x (.ins BB dx [])) (fun v H3 => v = .non ∧ R x H3) E := fun x dx hx hd ne => by
  refine ⟨H, x, dx, l1, l2, nm, ps, qs, vars, cs, rfl, same_make hx hd, hx, upd_same, h1, r1, h2, r2, ok, fun z hz => Nat.le_trans (hn z hz).2 (by decide), dueM_all (fun z hz => (hn z hz).1) fun H' S' t1 t2 a1 a2 a3 => ⟨rfl, ?_⟩⟩
  exact k x H' hx S' ⟨dx, t1, t2, ps, qs, a1, SqT.of a2, r1.same S', SqT.of a3, r2.same S'⟩
theorem BrAt.put {K : PySem.W.Frag} {B D : Addr} {H : Hp} {a : Addr} {r : PtD} {xs : List V} {o : HO} (hD : H D = some (.lst xs)) (h : BrAt K B H a r) : BrAt K B (upd H D o) a r := by
  obtain ⟨d, t1, t2, ps, qs, h0, h1, h2, h3, h4⟩ := h
  exact ⟨d, t1, t2, ps, qs, (upd_ne (ne_of h0 hD (by intro z; cases z))).trans h0, sqT_put hD h1, rows_put hD h2, sqT_put hD h3, rows_put hD h4⟩
/-! ### that the parts which the law writes are refused by nothing -/
theorem nm_len {z : Str} (h : isNm z = true) : z.length ≤ 12 := by
  unfold isNm at h
  simp only [Bool.and_eq_true] at h
  exact of_decide_eq_true h.2.1
theorem noTw1 {zs : List Str} (h : zs.length ≤ 1) : NoTw (zs.map V.str) := noTw_of (by
  match zs, h with
  | [], _ => exact List.nodup_nil
  | [z], _ => simp)
theorem isA : isNm vA = true := by decide +kernel
theorem isB : isNm vB = true := by decide +kernel
theorem ab_ne : vA ≠ vB := by decide +kernel
theorem ru_pat (x : PaT) : PatOk (ruD x).p.vars (ruD x).p.cs [(ruD x).g] [(ruD x).bh] := by
  refine ⟨by show 1 ≤ 2; decide, by show 2 ≤ 4; decide, by show 1 ≤ 1; decide, by show 1 ≤ 3; decide, by show 1 ≤ 1; decide, by show 1 ≤ 1; decide, ?_, fun z hz => ?_, fun z hz => ?_, fun i t hi ht => ?_⟩
  · show NoTw (([vA, vB] : List Str).map V.str)
    exact noTw_of (by simp [ab_ne])
  · show z ∈ [vA, vB]
    have hz : z ∈ ([vA, vB] ++ [vB, vA]) ++ [vA] := hz
    simp only [List.mem_append, List.mem_cons, List.not_mem_nil, or_false] at hz ⊢
    rcases hz with (h | h) | h
    · exact h
    · exact h.symm
    · exact .inl h
  · exact hz
  · have l : i < 1 := (List.getElem?_eq_some_iff.mp ht).1
    omega
theorem ba_pat (x : PaT) : PatOk (baD x).vars (baD x).cs [] [] := by
  refine ⟨by show 1 ≤ 2; decide, by show 2 ≤ 4; decide, by show 1 ≤ 1; decide, by show 1 ≤ 3; decide, by show 0 ≤ 1; decide, by show 0 ≤ 1; decide, ?_, fun z hz => ?_, fun z hz => ?_, fun i t hi ht => ?_⟩
  · show NoTw (([vA, vB] : List Str).map V.str)
    exact noTw_of (by simp [ab_ne])
  · show z ∈ [vA, vB]
    have hz : z ∈ [vA, vB] ++ ([] : List Str) := hz
    rw [List.append_nil] at hz
    exact hz
  · exact hz
  · have l : i < 1 := (List.getElem?_eq_some_iff.mp ht).1
    omega
/-- all that a pattern names is a name -/
structure PaRt (x : PaT) : Prop where
  nm : isNm x.nm = true
  tx : ∀ z ∈ paTx x, isNm z = true
theorem PaRt.kd {x : PaT} (h : PaRt x) {z : Str} (e : x.k0 = some z ∨ x.k1 = some z) : isNm z = true := h.tx z (by
  unfold paTx
  refine List.mem_append_left _ ?_
  rcases e with e | e
  · exact List.mem_append_left _ (by rw [e]; simp)
  · exact List.mem_append_right _ (by rw [e]; simp))
theorem PaRt.w {x : PaT} (h : PaRt x) : isNm x.w0 = true ∧ isNm x.w1 = true := ⟨h.tx _ (by unfold paTx; simp), h.tx _ (by unfold paTx; simp)⟩
theorem var_tx {k : Option Str} {a z : Str} (ha : isNm a = true) (hk : ∀ y, k = some y → isNm y = true) (h : z ∈ varT (a, k)) : isNm z = true := by
  unfold varT at h
  rcases List.mem_cons.mp h with q | q
  · rw [q]
    exact ha
  · exact hk z (by simpa using q)
theorem ba_tx {x : PaT} (h : PaRt x) : ∀ z ∈ textsL (baD x).nm (baD x).vars (baD x).cs, isNm z = true ∧ z.length ≤ 12 := fun z hz => by
  have q : isNm z = true := by
    unfold textsL at hz
    rcases List.mem_append.mp hz with q | q
    · rcases List.mem_cons.mp q with q | q
      · rw [q]
        exact h.nm
      · have q : z ∈ varT (vA, x.k0) ++ (varT (vB, x.k1) ++ []) := q
        rw [List.append_nil] at q
        rcases List.mem_append.mp q with q | q
        · exact var_tx isA (fun y e => h.kd (.inl e)) q
        · exact var_tx isB (fun y e => h.kd (.inr e)) q
    · have q : z = x.w0 := by simpa [baD] using q
      rw [q]
      exact h.w.1
  exact ⟨q, nm_len q⟩
theorem ru_tx {x : PaT} (h : PaRt x) : ∀ z ∈ textsL (ruD x).p.nm (ruD x).p.vars ((ruD x).p.cs ++ [(ruD x).g]), isNm z = true ∧ z.length ≤ 12 := fun z hz => by
  have hz : z ∈ (x.nm :: ([(vA, x.k0), (vB, x.k1)] : List Var).flatMap varT) ++ [x.w0, x.w1] := hz
  rcases List.mem_append.mp hz with q | q
  · exact ba_tx h z (by unfold textsL; exact List.mem_append_left _ q)
  · have q : z = x.w0 ∨ z = x.w1 := by simpa using q
    rcases q with q | q <;> rw [q]
    · exact ⟨h.w.1, nm_len h.w.1⟩
    · exact ⟨h.w.2, nm_len h.w.2⟩
theorem mk_tx {x : MkD} (h : ∀ z ∈ mkTx x, isNm z = true) : ∀ z ∈ x.mr :: x.md :: (x.dn ++ x.up), isNm z = true ∧ z.length ≤ 12 := fun z hz => by
  have q := h z (by
    unfold mkTx
    rw [List.append_assoc]
    exact hz)
  exact ⟨q, nm_len q⟩
end Wm
namespace Wm
open PySem L2 StX
def AnAt (o : Option Rf) (v : V) (H : Hp) : Prop := match o with
  | none => ∃ t, v = .ref t ∧ H t = some (.tup [.str (PySem.Str.ofString "made"), .bl true])
  | some r => ∃ t, v = .ref t ∧ H t = some (.tup (tupOf r))
/-- what the law's own scheme keeps -/
structure MoOk (ss ws : List Str) (ms : List MkD) (rs bs : List PaT) : Prop where
  s20 : ss.length ≤ 20
  w20 : ws.length ≤ 20
  m20 : ms.length ≤ 20
  r20 : rs.length ≤ 20
  b20 : bs.length ≤ 20
  sd : ∀ z ∈ ss, Dr z
  wd : ∀ z ∈ ws, Dr z
  md : ∀ x ∈ ms, MkOk1 x ∧ ∀ z ∈ mkTx x, isNm z = true
  rd : ∀ x ∈ rs, PaRt x
  bd : ∀ x ∈ bs, PaRt x
def spFou : Sp := fun vs H Q _ => ∃ (m l1 l2 l3 l4 l5 : Addr) (ts us vs' : List Addr) (ss ws : List Str) (ms : List MkD) (rs bs : List PaT), vs = [.ref m] ∧ MoAt H m l1 l2 l3 l4 l5 ts us vs' ss ws ms rs bs ∧ MoOk ss ws ms rs bs ∧ ∀ v H', Same H H' → AnAt (schDue ss ws ms (rs.map ruD) (bs.map baD)) v H' → Q v H'
theorem eqv_self {d : PyData} (h : SeqAt.shaped d = true) : PyData.eqv d d = true := SeqAt.eqv_refl d (SeqAt.canLay_of_shaped h)
abbrev dg (s : String) : TE := tDGet (tVar 0) (tC (.str (PySem.Str.ofString s)))
abbrev mS (S : Addr) (n : String) (sp : Sp) : TE := tMeth S (PySem.Str.ofString n) sp [] E0 (tVar 1) tNil
def tFB (K : PySem.W.Frag) (C : Nat → Addr) (S MB RB BB : Addr) (W : WX) : TS :=
  tSeq (tAsg (tMakeS S (spSch K C S MB RB BB) (WE W) (tCons (tCB (rLstOf K) (tCons (dg "sorts") tNil)) (tCons (tCB (rLstOf K) (tCons (dg "words") tNil)) (tCons (tVar 2) (tCons (tVar 3) (tCons (tVar 8) tNil)))))) (gName 1))
  (tSeq (tAsg (tAndV (tOp (rEqD K) (mS S "sorts" (spSor S)) (dg "sorts")) (tAndV (tOp (rEqD K) (mS S "words" (spWor S)) (dg "words")) (tOp rEqS (mS S "makings" (spSMk S)) (tVar 2)))) (gName 10))
  (tAsg (tTup (tCons (tC (.str (PySem.Str.ofString "made"))) (tCons (tAndV (tVar 10) (tAndV (tOp rEqS (mS S "rules" (spSRu S)) (tVar 3)) (tOp rEqS (mS S "bars" (spSBa S)) (tVar 8)))) tNil))) (gName 9)))
def tFS (C : Nat → Addr) : Addr → Value → Option Addr → TS := fun a cls d => tAsg (tCallE (spTld C a cls d) (tCons (tVar 11) tNil)) (gName 9)
section
variable {P : Program} {w : World} {K : PySem.W.Frag} {mg : Str → Option Value} {base : Heap} {C : Nat → Addr}
theorem cut2 {a b R : TS} {D : Ends} {σ : L2.St} {H : Hp} (Good : L2.St → Hp → Prop) (fin : ∀ σ' H', Good σ' H' → R D σ' H') (h : ∀ R' : TS, (∀ σ' H', Good σ' H' → R' D σ' H') → tSeq a (tSeq b R') D σ H) : tSeq a (tSeq b R) D σ H := h R fin
theorem scFou : FnScope ["_law_m", "_law_one", "_law_makings_here", "_law_rules", "_law_name_here", "_law_kinds", "_law_told_here", "_law_variables", "_law_bars", "_law_found_here", "_law_right", "_law_e"] ["_law_m"] (defScope sFou) := ⟨rfl, rfl, rfl, by decide +kernel, rfl, by decide +kernel, by decide +kernel⟩
/-- the first three: makings, rules, bars -/
theorem ok_fou {f fT fM fR fB fS S MB RB BB W fSo fWo fMk fRu fBa : Addr} {fd dT dM dR dB dS dSo dWo dMk dRu dBa : FuncData} (F : Fun K "_law_found" "_law_found" sFou f fd) (T : TxB mg) (tl : mg "list" = none) (TE : TxE K mg C W) (DTl : Dn K mg "_law_told" sTld ["_law_e"] fT dT) (GTl : FnEN P w K mg base 1 fT dT ["_law_e"] (spTld C))
    (TM : TxMak K mg MB fM) (bM : Binds K dM ["self", "maker", "made", "down", "up"] []) (GM : FnOk P w K mg base (L2.CX P w) 5 fM dM ["self", "maker", "made", "down", "up"] (spMak K (C 1) MB)) (TR : TxRul K mg RB fR) (bR : Binds K dR ["self", "name", "variables", "conditions", "gives", "by"] []) (GR : FnOk P w K mg base (L2.CX P w) 6 fR dR ["self", "name", "variables", "conditions", "gives", "by"] (spRul K (C 1) RB))
    (TB : TxBar K mg BB fB) (bB : Binds K dB ["self", "name", "variables", "conditions"] []) (GB : FnOk P w K mg base (L2.CX P w) 6 fB dB ["self", "name", "variables", "conditions"] (spBar K (C 1) BB))
    (TC : TxSch K mg S fS) (bS : Binds K dS ["self", "sorts", "words", "makings", "rules", "bars"] []) (GS : FnOk P w K mg base (L2N.CX P w) 6 fS dS ["self", "sorts", "words", "makings", "rules", "bars"] (spSch K C S MB RB BB))
    (mSo : Meth K S "sorts" fSo) (bSo : Binds K dSo ["self"] []) (GSo : FnOk P w K mg base CX0 1 fSo dSo ["self"] (spSor S)) (mWo : Meth K S "words" fWo) (bWo : Binds K dWo ["self"] []) (GWo : FnOk P w K mg base CX0 1 fWo dWo ["self"] (spWor S))
    (mMk : Meth K S "makings" fMk) (bMk : Binds K dMk ["self"] []) (GMk : FnOk P w K mg base CX0 1 fMk dMk ["self"] (spSMk S)) (mRu : Meth K S "rules" fRu) (bRu : Binds K dRu ["self"] []) (GRu : FnOk P w K mg base CX0 1 fRu dRu ["self"] (spSRu S)) (mBa : Meth K S "bars" fBa) (bBa : Binds K dBa ["self"] []) (GBa : FnOk P w K mg base CX0 1 fBa dBa ["self"] (spSBa S)) :
    FnOk P w K mg base CX0 8 f fd ["_law_m"] spFou := by
  refine F.ok scFou (fun vs H Q E h => ?_) (fun cdv A outer s H vs Q E hr h => ?_)
  · obtain ⟨m, l1, l2, l3, l4, l5, ts, us, vs', ss, ws, ms, rs, bs, rfl, _⟩ := h
    rfl
  · obtain ⟨m, l1, l2, l3, l4, l5, ts, us, vs', ss, ws, ms, rs, bs, rfl, M, ok, k⟩ := h
    have hu := hu_of hr
    have hr1 : Room 1 _ := hr.mono (by decide)
    have hr6 : Room 6 _ := hr.mono (by decide)
    have hr7 : Room 7 _ := hr
    have tl' := M.a3.len
    have ul := M.a4.len
    have vl := M.a5.len
    have m20 := ok.m20
    have r20 := ok.r20
    have b20 := ok.b20
    refine ⟨_, (pss_cons (ps_setLc (i := 2) (own := [("_law_one", 1)]) (g := gName 1) (tt := tYes) (te := tMake MB (spMak K (C 1) MB) [] E0 (tCons (tOp (rIxT K) (tVar 1) (tC (.int 0))) (tCons (tOp (rIxT K) (tVar 1) (tC (.int 1))) (tCons (tOp (rIxT K) (tVar 1) (tC (.int 2))) (tCons (tOp (rIxT K) (tVar 1) (tC (.int 3))) tNil))))) rfl scFou.nd rfl rfl (sw_true rfl rfl rfl (by decide +kernel)) (pi_list (pe_dget hu (pv 0) pe_str (fun _ _ => rfl))) (blkOk_by (N := ["_law_m", "_law_one", "_law_makings_here", "_law_rules", "_law_name_here", "_law_kinds", "_law_told_here", "_law_variables", "_law_bars", "_law_found_here", "_law_right", "_law_e"]) (sc := defScope sFou) (by decide +kernel)) (fun _ _ _ _ _ => (pg_name (i := 1) scFou.nd rfl (Or.inl rfl))) (fun _ _ _ _ _ => pts_nil) (fun _ _ _ _ _ => (pe_make TM.m GM hr6 rfl TM.g bM .nil passL (pa_cons (pe_ix ix_tup (pv 1) pe_int (fun _ _ => rfl)) (pa_cons (pe_ix ix_tup (pv 1) pe_int (fun _ _ => rfl)) (pa_cons (pe_ix ix_tup (pv 1) pe_int (fun _ _ => rfl)) (pa_cons (pe_ix ix_tup (pv 1) pe_int (fun _ _ => rfl)) pa_nil)))))))
      (pss_cons (ps_set (i := 3) scFou.nd rfl (Or.inl rfl) (pe_lst pa_nil))
      (pss_cons (ps_for PassesOwn.never rfl (pi_list (pe_dget hu (pv 0) pe_str (fun _ _ => rfl))) (pg_tup rfl (pgs_cons (pg_name (i := 4) scFou.nd rfl (Or.inl rfl)) (pgs_cons (pg_name (i := 5) scFou.nd rfl (Or.inl rfl)) (pgs_cons (pg_name (i := 6) scFou.nd rfl (Or.inl rfl)) pgs_nil)))) (pss_cons (ps_set (i := 7) scFou.nd rfl (Or.inl rfl) (pe_lst (pa_cons (pe_tup (pa_cons pe_str (pa_cons (pe_ix ix_list (pv 5) pe_int (fun _ _ => rfl)) pa_nil))) (pa_cons (pe_tup (pa_cons pe_str (pa_cons (pe_ix ix_list (pv 5) pe_int (fun _ _ => rfl)) pa_nil))) pa_nil))))
      (pss_one (ps_expr (pe_bm PySem.F.plainAttrs_list PySem.F.slot_list_append PySem.F.type_list_append mt_append (pv 3) (pa_cons (pe_make TR.m GR hr7 rfl TR.g bR .nil passL (pa_cons (pv 4) (pa_cons (pv 7) (pa_cons (pe_lst (pa_cons (pe_tup (pa_cons pe_str (pa_cons (pe_ix ix_list (pv 6) pe_int (fun _ _ => rfl)) (pa_cons pe_str pa_nil)))) pa_nil)) (pa_cons (pe_tup (pa_cons pe_str (pa_cons (pe_ix ix_list (pv 6) pe_int (fun _ _ => rfl)) (pa_cons pe_str pa_nil)))) (pa_cons pe_str pa_nil)))))) pa_nil))))))
      (pss_cons (ps_set (i := 8) scFou.nd rfl (Or.inl rfl) (pe_lst pa_nil))
      (pss_cons (ps_for PassesOwn.never rfl (pi_list (pe_dget hu (pv 0) pe_str (fun _ _ => rfl))) (pg_tup rfl (pgs_cons (pg_name (i := 4) scFou.nd rfl (Or.inl rfl)) (pgs_cons (pg_name (i := 5) scFou.nd rfl (Or.inl rfl)) (pgs_cons (pg_name (i := 6) scFou.nd rfl (Or.inl rfl)) pgs_nil)))) (pss_one (ps_expr (pe_bm PySem.F.plainAttrs_list PySem.F.slot_list_append PySem.F.type_list_append mt_append (pv 8) (pa_cons (pe_make TB.m GB hr7 rfl TB.g bB .nil passL (pa_cons (pv 4) (pa_cons (pe_lst (pa_cons (pe_tup (pa_cons pe_str (pa_cons (pe_ix ix_list (pv 5) pe_int (fun _ _ => rfl)) pa_nil))) (pa_cons (pe_tup (pa_cons pe_str (pa_cons (pe_ix ix_list (pv 5) pe_int (fun _ _ => rfl)) pa_nil))) pa_nil))) (pa_cons (pe_lst (pa_cons (pe_tup (pa_cons pe_str (pa_cons (pe_ix ix_list (pv 6) pe_int (fun _ _ => rfl)) (pa_cons pe_str pa_nil)))) pa_nil)) pa_nil)))) pa_nil)))))
      (pss_cons (ps_set (i := 9) scFou.nd rfl (Or.inl rfl) pe_non)
      (pss_cons (L2N.ps_try_as (i := 11) (tb := tFB K C S MB RB BB) (ts := tFS C) (Wout := fun _ _ _ _ => False) rfl rfl scFou.nd rfl rfl ⟨rfl, by decide, Or.inl TE.gW⟩ takesN0 (fun W_ pn xe tk _ => (pss_cons (ps_set (i := 1) scFou.nd rfl (Or.inl rfl) (by exact (pe_makeS TC.m GS hr7 rfl TC.g bS (fun σ => L2N.passAt tk σ) (by exact (pa_cons (pe_callTy call_list_of (by rfl) tl (by decide +kernel) (pa_cons (pe_dget hu (pv 0) pe_str (fun _ _ => rfl)) pa_nil)) (pa_cons (pe_callTy call_list_of (by rfl) tl (by decide +kernel) (pa_cons (pe_dget hu (pv 0) pe_str (fun _ _ => rfl)) pa_nil)) (pa_cons (pv 2) (pa_cons (pv 3) (pa_cons (pv 8) pa_nil)))))))))
      (pss_cons (ps_set (i := 10) scFou.nd rfl (Or.inl rfl) (pe_and (pe_cmpR (op_eqD hr.units) (pe_meth0 (pv 1) TC.cl mSo GSo hr1 bSo .nil pass0) (pe_dget hu (pv 0) pe_str (fun _ _ => rfl)) (nomark _)) (pe_and (pe_cmpR (op_eqD hr.units) (pe_meth0 (pv 1) TC.cl mWo GWo hr1 bWo .nil pass0) (pe_dget hu (pv 0) pe_str (fun _ _ => rfl)) (nomark _)) (pe_one (pe_cmpR (op_eqS hr.units0) (pe_meth0 (pv 1) TC.cl mMk GMk hr1 bMk .nil pass0) (pv 2) (nomark _))))))
      (pss_one (ps_set (i := 9) scFou.nd rfl (Or.inl rfl) (pe_tup (pa_cons pe_str (pa_cons (pe_and (pv 10) (pe_and (pe_cmpR (op_eqS hr.units0) (pe_meth0 (pv 1) TC.cl mRu GRu hr1 bRu .nil pass0) (pv 3) (nomark _)) (pe_one (pe_cmpR (op_eqS hr.units0) (pe_meth0 (pv 1) TC.cl mBa GBa hr1 bBa .nil pass0) (pv 8) (nomark _))))) pa_nil)))))))) (fun a oe cls d pn hz hf => (pss_one (ps_set (i := 9) scFou.nd rfl (Or.inl rfl) (by exact (pe_callEN GTl (L2H.roomH_of hr1) hz hf rfl DTl.g DTl.F.kp DTl.b (pa_cons (pv 11) pa_nil)))))))
      (pss_one (ps_ret (pv 9)))))))))), ?_⟩
    rw [show L2.start ["_law_m", "_law_one", "_law_makings_here", "_law_rules", "_law_name_here", "_law_kinds", "_law_told_here", "_law_variables", "_law_bars", "_law_found_here", "_law_right", "_law_e"] [V.ref m] = [some (.ref m), none, none, none, none, none, none, none, none, none, none, none] from rfl]
    refine cut1 (fun σ' H' => ∃ D as, σ' = [some (.ref m), none, some (.ref D), none, none, none, none, none, none, none, none, none] ∧ Same H H' ∧ H' D = some (.lst (as.map V.ref)) ∧ AllAt (MkAt K MB H') as ms) ?_ (fun R fin => ?_)
    rotate_left
    · skip
      refine ⟨_, rfl, m, _, rfl, dget_of M.hm kv3, l3, rfl, ⟨_, SqL.of M.h3⟩, fun D hD => ?_⟩
      refine lc_list (K := K) (a := l3) (xs := ts.map V.ref) (fun i H' => Same H H' ∧ ∃ as : List Addr, H' D = some (.lst (as.map V.ref)) ∧ AllAt (MkAt K MB H') as (ms.take i)) ⟨Same.upd hD, [], upd_same, True.intro⟩ (fun i H' _ p => SqL.of (p.1 _ _ M.h3)) ?_ ?_
      · rintro i y H1 hy ⟨S1, as, hD1, am⟩
        obtain ⟨a, x, rfl, hx, g1, g2, h1, h2, h3⟩ := M.a3.get hy
        have il : i < ms.length := (List.getElem?_eq_some_iff.mp hx).1
        obtain ⟨ox, nx⟩ := ok.md x (List.mem_of_getElem? hx)
        have a1 := S1 _ _ h1
        have al := am.len
        rw [List.length_take] at al
        refine ⟨rfl, _, rfl, a, _, 0, _, rfl, rfl, SqT.of a1, atI_nat (j := 0) rfl, _, rfl, a, _, 1, _, rfl, rfl, SqT.of a1, atI_nat (j := 1) rfl, _, rfl, a, _, 2, _, rfl, rfl, SqT.of a1, atI_nat (j := 2) rfl, _, rfl, a, _, 3, _, rfl, rfl, SqT.of a1, atI_nat (j := 3) rfl, ?_⟩
        refine mak_new (SqL.of (S1 _ _ h2)) (SqL.of (S1 _ _ h3)) (Nat.le_trans ox.d1 (by decide)) (Nat.le_trans ox.u1 (by decide)) (noTw1 ox.d1) (noTw1 ox.u1) (mk_tx nx) fun o H2 no S2 at2 => ?_
        have hD2 := S2 _ _ hD1
        refine ⟨_, hD2, ?_, fun b u e => ?_, as ++ [o], ?_, ?_⟩
        · rw [List.length_map]
          exact Nat.lt_of_le_of_lt (show _ ≤ 1000 by omega) (by decide)
        · rw [upd_ne (ne_of_none e hD)]
          exact S2 _ _ (S1 _ _ e)
        · rw [upd_same, List.map_append]
          rfl
        · rw [List.take_add_one, hx]
          exact AllAt.put1 (am.imp fun _ _ q => (q.same S2).put hD2) (MkAt.put hD2 at2)
      · rintro H1 ⟨S1, as, hD1, am⟩
        rw [List.length_map, tl', List.take_length] at am
        exact fin _ _ ⟨D, as, rfl, S1, hD1, am⟩
    rintro σ' H1 ⟨D, as, rfl, S1, hD, am⟩
    refine cut2 (fun σ' H' => ∃ Fr bs' u4 u5 u6 u7, σ' = [some (.ref m), none, some (.ref D), some (.ref Fr), u4, u5, u6, u7, none, none, none, none] ∧ Same H1 H' ∧ H' Fr = some (.lst (bs'.map V.ref)) ∧ AllAt (RlAt K RB H') bs' (rs.map ruD)) ?_ (fun R fin => ?_)
    rotate_left
    · skip
      refine ⟨Nat.zero_le _, fun Fr hFr => ?_⟩
      dsimp only [gName, List.set_cons_succ, List.set_cons_zero]
      have T2 : Same H1 (upd H1 Fr (.lst [])) := Same.upd hFr
      have S2 := S1.trans T2
      refine ⟨_, rfl, m, _, rfl, dget_of (S2 _ _ M.hm) kv4, l4, rfl, ⟨_, SqL.of (S2 _ _ M.h4)⟩, for_list (K := K) (a := l4) (xs := us.map V.ref) (fun i σ H' => (∃ u4 u5 u6 u7, σ = [some (.ref m), none, some (.ref D), some (.ref Fr), u4, u5, u6, u7, none, none, none, none]) ∧ Same H1 H' ∧ ∃ as : List Addr, H' Fr = some (.lst (as.map V.ref)) ∧ AllAt (RlAt K RB H') as ((rs.take i).map ruD)) ⟨⟨_, _, _, _, rfl⟩, T2, [], upd_same, True.intro⟩ (fun i σ H' _ p => SqL.of (p.2.1 _ _ (S1 _ _ M.h4))) ?_ ?_⟩
      · rintro i y σ H3 hi ⟨⟨u4, u5, u6, u7, rfl⟩, S3, as, hF3, am⟩
        obtain ⟨a, x, rfl, hx, g1, g2, h1, h2, h3⟩ := M.a4.get hi
        have il : i < rs.length := (List.getElem?_eq_some_iff.mp hx).1
        have px := ok.rd x (List.mem_of_getElem? hx)
        have S03 := S1.trans S3
        have al := am.len
        rw [List.length_map, List.length_take] at al
        refine ⟨a, _, rfl, SqT.of (S03 _ _ h1), rfl, _, _, rfl, _, _, rfl, _, _, rfl, rfl, ?_⟩
        dsimp only [gName, List.set_cons_succ, List.set_cons_zero]
        -- the variables
        refine ⟨_, rfl, ?_⟩
        dsimp only [tC]
        refine rdList (S03 _ _ h2) (j := 0) rfl rfl ⟨by show 2 ≤ sizeLine; decide, fun t1 ht1 => ⟨_, rfl, ?_⟩⟩
        dsimp only [tC]
        refine rdList ((Same.upd ht1) _ _ (S03 _ _ h2)) (j := 1) rfl rfl ⟨by show 2 ≤ sizeLine; decide, fun t2 ht2 => ⟨by show 2 ≤ sizeLine; decide, fun lv hlv => ?_⟩⟩
        have n12 : t1 ≠ t2 := ne_of_none upd_same ht2
        have T4 : Same H3 (upd (upd (upd H3 t1 (.tup [.str vA, sortV x.k0])) t2 (.tup [.str vB, sortV x.k1])) lv (.lst [.ref t1, .ref t2])) := (Same.upd ht1).trans ((Same.upd ht2).trans (Same.upd hlv))
        have et1 : (upd (upd (upd H3 t1 (.tup [.str vA, sortV x.k0])) t2 (.tup [.str vB, sortV x.k1])) lv (.lst [.ref t1, .ref t2])) t1 = some (.tup (varV (vA, x.k0))) := (Same.upd hlv) _ _ ((Same.upd ht2) _ _ upd_same)
        have et2 : (upd (upd (upd H3 t1 (.tup [.str vA, sortV x.k0])) t2 (.tup [.str vB, sortV x.k1])) lv (.lst [.ref t1, .ref t2])) t2 = some (.tup (varV (vB, x.k1))) := (Same.upd hlv) _ _ upd_same
        have elv : (upd (upd (upd H3 t1 (.tup [.str vA, sortV x.k0])) t2 (.tup [.str vB, sortV x.k1])) lv (.lst [.ref t1, .ref t2])) lv = some (.lst (([t1, t2] : List Addr).map V.ref)) := upd_same
        generalize upd (upd (upd H3 t1 (.tup [.str vA, sortV x.k0])) t2 (.tup [.str vB, sortV x.k1])) lv (.lst [.ref t1, .ref t2]) = H4 at T4 et1 et2 elv
        have S04 := S03.trans T4
        have hF4 := T4 _ _ hF3
        dsimp only [gName, List.set_cons_succ, List.set_cons_zero]
        -- the rule
        refine ⟨_, rfl, .inl ⟨rfl, _, SqL.of hF4⟩, _, rfl, _, rfl, _, rfl, ?_⟩
        dsimp only [tC]
        refine rdList (S04 _ _ h3) (j := 0) rfl rfl ⟨by show 3 ≤ sizeLine; decide, fun t3 ht3 => ⟨by show 1 ≤ sizeLine; decide, fun lc hlc => ⟨_, rfl, ?_⟩⟩⟩
        have T5 : Same H4 (upd (upd H4 t3 (.tup [.str vA, .str x.w0, .str vB])) lc (.lst [.ref t3])) := (Same.upd ht3).trans (Same.upd hlc)
        have et3 : (upd (upd H4 t3 (.tup [.str vA, .str x.w0, .str vB])) lc (.lst [.ref t3])) t3 = some (.tup (triV (vA, x.w0, vB))) := (Same.upd hlc) _ _ upd_same
        have elc : (upd (upd H4 t3 (.tup [.str vA, .str x.w0, .str vB])) lc (.lst [.ref t3])) lc = some (.lst (([t3] : List Addr).map V.ref)) := upd_same
        dsimp only [tC]
        generalize upd (upd H4 t3 (.tup [.str vA, .str x.w0, .str vB])) lc (.lst [.ref t3]) = H5 at T5 et3 elc
        have S05 := S04.trans T5
        refine rdList (S05 _ _ h3) (j := 1) rfl rfl ⟨by show 3 ≤ sizeLine; decide, fun g hg => ?_⟩
        have T6 : Same H5 (upd H5 g (.tup [.str vB, .str x.w1, .str vA])) := Same.upd hg
        have eg : (upd H5 g (.tup [.str vB, .str x.w1, .str vA])) g = some (.tup (triV (ruD x).g)) := upd_same
        generalize upd H5 g (.tup [.str vB, .str x.w1, .str vA]) = H6 at T6 eg
        have T46 := T5.trans T6
        have T36 := T4.trans T46
        refine rul_new (vars := (ruD x).p.vars) (cs := (ruD x).p.cs) (gt := (ruD x).g) (SqL.of (T46 _ _ elv)) ⟨SqT.of (T46 _ _ et1), SqT.of (T46 _ _ et2), True.intro⟩ (SqL.of (T6 _ _ elc)) ⟨SqT.of (T6 _ _ et3), True.intro⟩ eg (ru_pat x) (ru_tx px) fun o H7 no S7 at7 => ?_
        have hF7 := S7 _ _ (T46 _ _ hF4)
        have S37 := T36.trans S7
        have fF : H1 Fr = none := hFr
        refine ⟨Fr, _, _, rfl, rfl, hF7, ?_, ⟨_, _, _, _, rfl⟩, fun q u e => ?_, as ++ [o], ?_, ?_⟩
        · rw [List.length_map]
          exact Nat.lt_of_le_of_lt (show _ ≤ 1000 by omega) (by decide)
        · rw [upd_ne (ne_of_none e fF)]
          exact S37 _ _ (S3 _ _ e)
        · rw [upd_same, List.map_append]
          rfl
        · rw [List.take_add_one, hx, List.map_append]
          exact AllAt.put1 (am.imp fun _ _ q => (q.same S37).put hF7) (RlAt.put hF7 at7)
      · rintro σ H3 ⟨⟨u4, u5, u6, u7, rfl⟩, S3, as, hF3, am⟩
        rw [List.length_map, ul, List.take_length] at am
        exact fin _ _ ⟨Fr, as, _, _, _, _, rfl, S3, hF3, am⟩
    rintro σ' H2 ⟨Fr, bs', v4, v5, v6, v7, rfl, S12, hF, ar⟩
    have S1' := S1
    refine cut2 (fun σ' H' => ∃ Br cs u4 u5 u6 u7, σ' = [some (.ref m), none, some (.ref D), some (.ref Fr), u4, u5, u6, u7, some (.ref Br), none, none, none] ∧ Same H2 H' ∧ H' Br = some (.lst (cs.map V.ref)) ∧ AllAt (BrAt K BB H') cs (bs.map baD)) ?_ (fun R fin => ?_)
    rotate_left
    · have S1 := S1'.trans S12
      refine ⟨Nat.zero_le _, fun Br hBr => ?_⟩
      dsimp only [gName, List.set_cons_succ, List.set_cons_zero]
      have T2 : Same H2 (upd H2 Br (.lst [])) := Same.upd hBr
      have S2 := S1.trans T2
      refine ⟨_, rfl, m, _, rfl, dget_of (S2 _ _ M.hm) kv5, l5, rfl, ⟨_, SqL.of (S2 _ _ M.h5)⟩, for_list (K := K) (a := l5) (xs := vs'.map V.ref) (fun i σ H' => (∃ u4 u5 u6, σ = [some (.ref m), none, some (.ref D), some (.ref Fr), u4, u5, u6, v7, some (.ref Br), none, none, none]) ∧ Same H2 H' ∧ ∃ as : List Addr, H' Br = some (.lst (as.map V.ref)) ∧ AllAt (BrAt K BB H') as ((bs.take i).map baD)) ⟨⟨_, _, _, rfl⟩, T2, [], upd_same, True.intro⟩ (fun i σ H' _ p => SqL.of (p.2.1 _ _ (S1 _ _ M.h5))) ?_ ?_⟩
      · rintro i y σ H3 hi ⟨⟨u4, u5, u6, rfl⟩, S3, as, hF3, am⟩
        obtain ⟨a, x, rfl, hx, g1, g2, h1, h2, h3⟩ := M.a5.get hi
        have il : i < bs.length := (List.getElem?_eq_some_iff.mp hx).1
        have px := ok.bd x (List.mem_of_getElem? hx)
        have S03 := S1.trans S3
        have al := am.len
        rw [List.length_map, List.length_take] at al
        refine ⟨a, _, rfl, SqT.of (S03 _ _ h1), rfl, _, _, rfl, _, _, rfl, _, _, rfl, rfl, ?_⟩
        dsimp only [gName, List.set_cons_succ, List.set_cons_zero]
        refine ⟨_, rfl, .inl ⟨rfl, _, SqL.of hF3⟩, _, rfl, _, rfl, ?_⟩
        dsimp only [tC]
        refine rdList (S03 _ _ h2) (j := 0) rfl rfl ⟨by show 2 ≤ sizeLine; decide, fun t1 ht1 => ⟨_, rfl, ?_⟩⟩
        dsimp only [tC]
        refine rdList ((Same.upd ht1) _ _ (S03 _ _ h2)) (j := 1) rfl rfl ⟨by show 2 ≤ sizeLine; decide, fun t2 ht2 => ⟨by show 2 ≤ sizeLine; decide, fun lv hlv => ?_⟩⟩
        have T4 : Same H3 (upd (upd (upd H3 t1 (.tup [.str vA, sortV x.k0])) t2 (.tup [.str vB, sortV x.k1])) lv (.lst [.ref t1, .ref t2])) := (Same.upd ht1).trans ((Same.upd ht2).trans (Same.upd hlv))
        have et1 : (upd (upd (upd H3 t1 (.tup [.str vA, sortV x.k0])) t2 (.tup [.str vB, sortV x.k1])) lv (.lst [.ref t1, .ref t2])) t1 = some (.tup (varV (vA, x.k0))) := (Same.upd hlv) _ _ ((Same.upd ht2) _ _ upd_same)
        have et2 : (upd (upd (upd H3 t1 (.tup [.str vA, sortV x.k0])) t2 (.tup [.str vB, sortV x.k1])) lv (.lst [.ref t1, .ref t2])) t2 = some (.tup (varV (vB, x.k1))) := (Same.upd hlv) _ _ upd_same
        have elv : (upd (upd (upd H3 t1 (.tup [.str vA, sortV x.k0])) t2 (.tup [.str vB, sortV x.k1])) lv (.lst [.ref t1, .ref t2])) lv = some (.lst (([t1, t2] : List Addr).map V.ref)) := upd_same
        generalize upd (upd (upd H3 t1 (.tup [.str vA, sortV x.k0])) t2 (.tup [.str vB, sortV x.k1])) lv (.lst [.ref t1, .ref t2]) = H4 at T4 et1 et2 elv
        have S04 := S03.trans T4
        have hF4 := T4 _ _ hF3
        refine ⟨_, rfl, ?_⟩
        dsimp only [tC]
        refine rdList (S04 _ _ h3) (j := 0) rfl rfl ⟨by show 3 ≤ sizeLine; decide, fun t3 ht3 => ⟨by show 1 ≤ sizeLine; decide, fun lc hlc => ?_⟩⟩
        have T5 : Same H4 (upd (upd H4 t3 (.tup [.str vA, .str x.w0, .str vB])) lc (.lst [.ref t3])) := (Same.upd ht3).trans (Same.upd hlc)
        have et3 : (upd (upd H4 t3 (.tup [.str vA, .str x.w0, .str vB])) lc (.lst [.ref t3])) t3 = some (.tup (triV (vA, x.w0, vB))) := (Same.upd hlc) _ _ upd_same
        have elc : (upd (upd H4 t3 (.tup [.str vA, .str x.w0, .str vB])) lc (.lst [.ref t3])) lc = some (.lst (([t3] : List Addr).map V.ref)) := upd_same
        generalize upd (upd H4 t3 (.tup [.str vA, .str x.w0, .str vB])) lc (.lst [.ref t3]) = H5 at T5 et3 elc
        have T35 := T4.trans T5
        refine bar_new (vars := (baD x).vars) (cs := (baD x).cs) (SqL.of (T5 _ _ elv)) ⟨SqT.of (T5 _ _ et1), SqT.of (T5 _ _ et2), True.intro⟩ (SqL.of elc) ⟨SqT.of et3, True.intro⟩ (ba_pat x) (ba_tx px) fun o H7 no S7 at7 => ?_
        have hF7 := S7 _ _ (T5 _ _ hF4)
        have S37 := T35.trans S7
        have fF : H2 Br = none := hBr
        refine ⟨Br, _, _, rfl, rfl, hF7, ?_, ⟨_, _, _, rfl⟩, fun q u e => ?_, as ++ [o], ?_, ?_⟩
        · rw [List.length_map]
          exact Nat.lt_of_le_of_lt (show _ ≤ 1000 by omega) (by decide)
        · rw [upd_ne (ne_of_none e fF)]
          exact S37 _ _ (S3 _ _ e)
        · rw [upd_same, List.map_append]
          rfl
        · rw [List.take_add_one, hx, List.map_append]
          exact AllAt.put1 (am.imp fun _ _ q => (q.same S37).put hF7) (BrAt.put hF7 at7)
      · rintro σ H3 ⟨⟨u4, u5, u6, rfl⟩, S3, as, hF3, am⟩
        rw [List.length_map, vl, List.take_length] at am
        exact fin _ _ ⟨Br, as, _, _, _, _, rfl, S3, hF3, am⟩
    rintro σ' H3 ⟨Br, cs, u4, u5, u6, u7, rfl, S23, hB, ab⟩
    have S13 := S12.trans S23
    replace am := am.imp fun _ _ q => q.same S13
    replace ar := ar.imp fun _ _ q => q.same S23
    replace hD := S13 _ _ hD
    replace hF := S23 _ _ hF
    replace S1 := S1.trans S13
    refine ⟨_, rfl, m, _, rfl, dget_of (S1 _ _ M.hm) kv1, l1, _, rfl, .inl (SqL.of (S1 _ _ M.h1)), fun s1 hs1 => ?_⟩
    have T1 : Same H3 (upd H3 s1 (.lst (ss.map V.str))) := Same.upd hs1
    have e1 : (upd H3 s1 (.lst (ss.map V.str))) s1 = some (.lst (ss.map V.str)) := upd_same
    generalize upd H3 s1 (.lst (ss.map V.str)) = Ha at T1 e1
    have Sa := S1.trans T1
    refine ⟨_, rfl, m, _, rfl, dget_of (Sa _ _ M.hm) kv2, l2, _, rfl, .inl (SqL.of (Sa _ _ M.h2)), fun s2 hs2 => ⟨_, rfl, _, rfl, _, rfl, ?_⟩⟩
    have T2 : Same Ha (upd Ha s2 (.lst (ws.map V.str))) := Same.upd hs2
    have e2 : (upd Ha s2 (.lst (ws.map V.str))) s2 = some (.lst (ws.map V.str)) := upd_same
    have e12 := T2 _ _ e1
    generalize upd Ha s2 (.lst (ws.map V.str)) = H2 at T2 e2 e12
    have T12 := T1.trans T2
    have S2 := S1.trans T12
    have sin : SchIn ss ws ms (rs.map ruD) (bs.map baD) := ⟨ok.s20, ok.w20, Nat.le_trans ok.m20 (by decide), by rw [List.length_map]; exact ok.r20, by rw [List.length_map]; exact ok.b20, fun z hz => Nat.le_trans (ok.sd z hz).1 (by decide), fun z hz => Nat.le_trans (ok.wd z hz).1 (by decide), fun x hx => ⟨(ok.md x hx).1.mr.2, (ok.md x hx).1.md.2⟩, fun x hx => ⟨Nat.le_trans (ok.md x hx).1.d1 (by decide), Nat.le_trans (ok.md x hx).1.u1 (by decide)⟩, fun x hx => by
      obtain ⟨y, _, rfl⟩ := List.mem_map.mp hx
      exact ⟨by show 2 ≤ 4; decide, by show 1 ≤ 3; decide⟩, fun x hx => by
      obtain ⟨y, _, rfl⟩ := List.mem_map.mp hx
      exact ⟨by show 2 ≤ 4; decide, by show 1 ≤ 3; decide⟩⟩
    intro x dx nx ndx nex
    refine ⟨H2, x, dx, s1, s2, .ref D, .ref Fr, .ref Br, ss, ws, as, bs', cs, ms, rs.map ruD, bs.map baD, rfl, same_make nx ndx, nx, upd_same, SqL.of e12, SqL.of e2, .inr ⟨D, rfl, SqL.of (T12 _ _ hD)⟩, .inr ⟨Fr, rfl, SqL.of (T12 _ _ hF)⟩, .inr ⟨Br, rfl, SqL.of (T12 _ _ hB)⟩, ⟨am.imp fun _ _ q => q.same T12, ar.imp fun _ _ q => q.same T12, ab.imp fun _ _ q => q.same T12⟩, sin, ?_⟩
    cases hdu : schDue ss ws ms (rs.map ruD) (bs.map baD) with
    | some r =>
      intro dZ H15 n15 S15 hx15
      refine ⟨true, (TE.er _ (ix_lt r)).te, fun _ a0 _ => ?_, fun q => Bool.noConfusion q⟩
      refine ⟨_, rfl, rfl, dZ, r, rfl, rfl, hx15, fun t9 H16 S16 t90 e16 => ?_⟩
      refine ⟨_, rfl, k _ H16 (S2.trans (S15.trans S16)) ?_⟩
      rw [hdu]
      exact ⟨t9, rfl, e16⟩
    | none =>
      intro H15 S15 sf
      obtain ⟨dx', q1, q2, q3, q4, q5, _, h0, g1, g2, g3, g4, g5⟩ := sf
      have sg : SchG S H15 x ss ws as bs' cs := ⟨dx', q1, q2, q3, q4, q5, h0, g1, g2, g3, g4, g5⟩
      have S015 := S2.trans S15
      have T115 := T12.trans S15
      refine ⟨rfl, ?_⟩
      dsimp only [gName, List.set_cons_succ, List.set_cons_zero]
      have Z0 := Same.refl H15
      refine ⟨_, rfl, x, dx', _, rfl, Z0 _ _ h0, schF_no (by decide +kernel) (by decide +kernel) (by decide +kernel) (by decide +kernel) (by decide +kernel) _ _ _ _ _, x, ss, ws, as, bs', cs, rfl, sg.same Z0, fun t3 ht3 => ?_⟩
      have T3 : Same H15 (upd H15 t3 (.lst (ss.map V.str))) := Same.upd ht3
      have e3 : (upd H15 t3 (.lst (ss.map V.str))) t3 = some (.lst (ss.map V.str)) := upd_same
      generalize upd H15 t3 (.lst (ss.map V.str)) = H16 at T3 e3
      have Z1 := Z0.trans T3
      have shs : SeqAt.shaped (.list (ss.map PyData.str)) = true := ss_sh fun z hz => (ok.sd z hz).2
      have shw : SeqAt.shaped (.list (ws.map PyData.str)) = true := ss_sh fun z hz => (ok.wd z hz).2
      refine ⟨_, rfl, m, _, rfl, dget_of ((S015.trans Z1) _ _ M.hm) kv1, .list (ss.map PyData.str), .list (ss.map PyData.str), .lst (SqL.of e3) (dp_ss ss), .lst (SqL.of ((S015.trans Z1) _ _ M.h1)) (dp_ss ss), shs, shs, _, rfl, ?_⟩
      rw [eqv_self shs]
      refine iteT ?_
      refine ⟨_, rfl, x, dx', _, rfl, Z1 _ _ h0, schF_no (by decide +kernel) (by decide +kernel) (by decide +kernel) (by decide +kernel) (by decide +kernel) _ _ _ _ _, x, ss, ws, as, bs', cs, rfl, sg.same Z1, fun t4 ht4 => ?_⟩
      have T4 : Same H16 (upd H16 t4 (.lst (ws.map V.str))) := Same.upd ht4
      have e4 : (upd H16 t4 (.lst (ws.map V.str))) t4 = some (.lst (ws.map V.str)) := upd_same
      generalize upd H16 t4 (.lst (ws.map V.str)) = H17 at T4 e4
      have Z2 := Z1.trans T4
      refine ⟨_, rfl, m, _, rfl, dget_of ((S015.trans Z2) _ _ M.hm) kv2, .list (ws.map PyData.str), .list (ws.map PyData.str), .lst (SqL.of e4) (dp_ss ws), .lst (SqL.of ((S015.trans Z2) _ _ M.h2)) (dp_ss ws), shw, shw, _, rfl, ?_⟩
      rw [eqv_self shw]
      refine iteT ?_
      refine ⟨_, rfl, x, dx', _, rfl, Z2 _ _ h0, schF_no (by decide +kernel) (by decide +kernel) (by decide +kernel) (by decide +kernel) (by decide +kernel) _ _ _ _ _, x, ss, ws, as, bs', cs, rfl, sg.same Z2, fun t5 ht5 => ?_⟩
      have T5 : Same H17 (upd H17 t5 (.lst (as.map V.ref))) := Same.upd ht5
      have e5 : (upd H17 t5 (.lst (as.map V.ref))) t5 = some (.lst (as.map V.ref)) := upd_same
      generalize upd H17 t5 (.lst (as.map V.ref)) = H18 at T5 e5
      have Z3 := Z2.trans T5
      refine ⟨_, rfl, t5, D, as, rfl, rfl, e5, (T115.trans Z3) _ _ hD, ?_⟩
      dsimp only [gName, List.set_cons_succ, List.set_cons_zero]
      refine ⟨_, rfl, _, rfl, iteT ?_⟩
      refine ⟨_, rfl, x, dx', _, rfl, Z3 _ _ h0, schF_no (by decide +kernel) (by decide +kernel) (by decide +kernel) (by decide +kernel) (by decide +kernel) _ _ _ _ _, x, ss, ws, as, bs', cs, rfl, sg.same Z3, fun t6 ht6 => ?_⟩
      have T6 : Same H18 (upd H18 t6 (.lst (bs'.map V.ref))) := Same.upd ht6
      have e6 : (upd H18 t6 (.lst (bs'.map V.ref))) t6 = some (.lst (bs'.map V.ref)) := upd_same
      generalize upd H18 t6 (.lst (bs'.map V.ref)) = H19 at T6 e6
      have Z4 := Z3.trans T6
      refine ⟨_, rfl, t6, Fr, bs', rfl, rfl, e6, (T115.trans Z4) _ _ hF, _, rfl, iteT ?_⟩
      refine ⟨_, rfl, x, dx', _, rfl, Z4 _ _ h0, schF_no (by decide +kernel) (by decide +kernel) (by decide +kernel) (by decide +kernel) (by decide +kernel) _ _ _ _ _, x, ss, ws, as, bs', cs, rfl, sg.same Z4, fun t7 ht7 => ?_⟩
      have T7 : Same H19 (upd H19 t7 (.lst (cs.map V.ref))) := Same.upd ht7
      have e7 : (upd H19 t7 (.lst (cs.map V.ref))) t7 = some (.lst (cs.map V.ref)) := upd_same
      generalize upd H19 t7 (.lst (cs.map V.ref)) = H20 at T7 e7
      have Z5 := Z4.trans T7
      refine ⟨_, rfl, t7, Br, cs, rfl, rfl, e7, (T115.trans Z5) _ _ hB, by show 2 ≤ sizeLine; decide, fun tf htf => ?_⟩
      refine ⟨_, rfl, k _ _ (S015.trans (Z5.trans (Same.upd htf))) ?_⟩
      rw [hdu]
      exact ⟨tf, rfl, upd_same⟩
end
end Wm
namespace Wm
open PySem L2 StX
/-! ### what is due, as data -/
def tupD : Rf → List PyData
  | .cnt w n => [.str "badcount", .str w, .int n]
  | .nm z => [.str "noname", .str z]
  | .tw z => [.str "twice", .str z]
  | .ns z => [.str "nosort", .str z]
  | .up a b => [.str "upward", .str a, .str b]
  | .nw z => [.str "noword", .str z]
def RfOk : Rf → Prop
  | .cnt w _ => okS w
  | .nm z => okS z
  | .tw z => okS z
  | .ns z => okS z
  | .up a b => okS a ∧ okS b
  | .nw z => okS z
theorem dp_tup {K : PySem.W.Frag} {H : Hp} (r : Rf) : DpAll K H (tupOf r) (tupD r) := by
  cases r with
  | cnt w n => exact .cons (.str _) (.cons (.str _) (.cons (.int _) .nil))
  | nm z => exact .cons (.str _) (.cons (.str _) .nil)
  | tw z => exact .cons (.str _) (.cons (.str _) .nil)
  | ns z => exact .cons (.str _) (.cons (.str _) .nil)
  | up a b => exact .cons (.str _) (.cons (.str _) (.cons (.str _) .nil))
  | nw z => exact .cons (.str _) (.cons (.str _) .nil)
theorem kd_ok : ∀ z ∈ (["badcount", "noname", "twice", "nosort", "upward", "noword", "made"] : List Str), Dr z := by decide +kernel
theorem tup_sh {r : Rf} (h : RfOk r) : SeqAt.shaped (.tuple (tupD r)) = true := by
  have k : ∀ z ∈ (["badcount", "noname", "twice", "nosort", "upward", "noword", "made"] : List Str), PyData.strOk z = true := fun z hz => strOk_of (kd_ok z hz).2
  have k1 := k "badcount" (by simp)
  have k2 := k "noname" (by simp)
  have k3 := k "twice" (by simp)
  have k4 := k "nosort" (by simp)
  have k5 := k "upward" (by simp)
  have k6 := k "noword" (by simp)
  cases r with
  | cnt w n => have a := strOk_of (show okS w from h); simp [tupD, SeqAt.shaped, PyData.canLay0, PyData.canLayAll0, PyData.depth, PyData.depthAll, a, k1]
  | nm z => have a := strOk_of (show okS z from h); simp [tupD, SeqAt.shaped, PyData.canLay0, PyData.canLayAll0, PyData.depth, PyData.depthAll, a, k2]
  | tw z => have a := strOk_of (show okS z from h); simp [tupD, SeqAt.shaped, PyData.canLay0, PyData.canLayAll0, PyData.depth, PyData.depthAll, a, k3]
  | ns z => have a := strOk_of (show okS z from h); simp [tupD, SeqAt.shaped, PyData.canLay0, PyData.canLayAll0, PyData.depth, PyData.depthAll, a, k4]
  | up a b => have q := strOk_of (show okS a from h.1); have q2 := strOk_of (show okS b from h.2); simp [tupD, SeqAt.shaped, PyData.canLay0, PyData.canLayAll0, PyData.depth, PyData.depthAll, q, q2, k5]
  | nw z => have a := strOk_of (show okS z from h); simp [tupD, SeqAt.shaped, PyData.canLay0, PyData.canLayAll0, PyData.depth, PyData.depthAll, a, k6]
theorem goF_some {α β : Type} {p : List α → α → Option β} {b : β} : ∀ {xs pre : List α}, goF p pre xs = some b → ∃ q x, x ∈ xs ∧ p q x = some b
  | [], _, h => by cases h
  | x :: r, pre, h => by
    rw [goF] at h
    split at h
    · rename_i y e
      cases h
      exact ⟨pre, x, List.mem_cons_self, e⟩
    · obtain ⟨q, y, hy, e⟩ := goF_some h
      exact ⟨q, y, List.mem_cons_of_mem _ hy, e⟩
structure PaO (x : PaT) : Prop where
  nm : okS x.nm
  tx : ∀ z ∈ paTx x, okS z
theorem PaO.of {x : PaT} (h : PaOk0 x) : PaO x := by
  refine ⟨h.nm.1.2, fun z hz => ?_⟩
  unfold paTx at hz
  rcases List.mem_append.mp hz with q | q
  · rcases List.mem_append.mp q with q | q
    · exact (h.k0 z (Option.mem_toList.mp q)).2
    · exact (h.k1 z (Option.mem_toList.mp q)).2
  · rcases List.mem_cons.mp q with q | q
    · rw [q]; exact h.w0.2
    · rw [List.mem_singleton.mp q]; exact h.w1.2
theorem kd_tx {x : PaT} {z : Str} (h : z ∈ (baD x).vars.filterMap (·.2)) : z ∈ paTx x := by
  obtain ⟨v, hv, e⟩ := List.mem_filterMap.mp h
  unfold paTx
  refine List.mem_append_left _ ?_
  have hv : v ∈ [(vA, x.k0), (vB, x.k1)] := hv
  rcases List.mem_cons.mp hv with q | q
  · rw [q] at e
    exact List.mem_append_left _ (Option.mem_toList.mpr e)
  · rw [List.mem_singleton.mp q] at e
    exact List.mem_append_right _ (Option.mem_toList.mpr e)
theorem cnt_ok {w : Str} {c lo hi : Int} {r : Rf} (hw : okS w) (h : cntO w c lo hi = some r) : RfOk r := by
  unfold cntO at h
  split at h
  · cases h
    exact hw
  · cases h
theorem tw_ok {zs : List Str} {r : Rf} (hz : ∀ z ∈ zs, okS z) (h : goF twP [] zs = some r) : RfOk r := by
  obtain ⟨q, x, hx, e⟩ := goF_some h
  unfold twP at e
  split at e
  · cases e
    exact hz x hx
  · cases e
theorem nm_ok {zs : List Str} {r : Rf} (hz : ∀ z ∈ zs, okS z) (h : goF nmP [] zs = some r) : RfOk r := by
  obtain ⟨q, x, hx, e⟩ := goF_some h
  unfold nmP at e
  split at e
  · cases e
  · cases e
    exact hz x hx
theorem due_ok {ss ws : List Str} {ms : List MkD} {rs bs : List PaT} {r : Rf} (hs : ∀ z ∈ ss, okS z) (hw : ∀ z ∈ ws, okS z) (hm : ∀ x ∈ ms, ∀ z ∈ mkTx x, okS z) (hr : ∀ x ∈ rs, PaO x) (hb : ∀ x ∈ bs, PaO x)
    (h : schDue ss ws ms (rs.map ruD) (bs.map baD) = some r) : RfOk r := by
  have mr : ∀ x ∈ ms, okS x.mr := fun x hx => hm x hx _ (by unfold mkTx; simp)
  have md : ∀ x ∈ ms, okS x.md := fun x hx => hm x hx _ (by unfold mkTx; simp)
  unfold schDue at h
  simp only [Option.or_eq_some_iff] at h
  rcases h with h | ⟨_, h | ⟨_, h | ⟨_, h | ⟨_, h | ⟨_, h | ⟨_, h | ⟨_, h | ⟨_, h | ⟨_, h | ⟨_, h | ⟨_, h | ⟨_, h | ⟨_, h⟩⟩⟩⟩⟩⟩⟩⟩⟩⟩⟩⟩⟩
  · exact cnt_ok (by unfold okS; decide +kernel) h
  · exact cnt_ok (by unfold okS; decide +kernel) h
  · exact cnt_ok (by unfold okS; decide +kernel) h
  · exact cnt_ok (by unfold okS; decide +kernel) h
  · exact nm_ok hs h
  · exact nm_ok hw h
  · exact tw_ok hs h
  · exact tw_ok hw h
  · obtain ⟨q, x, hx, e⟩ := goF_some h
    unfold twM at e
    split at e
    · cases e
      exact mr x hx
    · cases e
  · refine tw_ok (fun z hz => ?_) h
    obtain ⟨y, hy, rfl⟩ := List.mem_map.mp hz
    obtain ⟨x, hx, rfl⟩ := List.mem_map.mp hy
    exact (hr x hx).nm
  · refine tw_ok (fun z hz => ?_) h
    obtain ⟨y, hy, rfl⟩ := List.mem_map.mp hz
    obtain ⟨x, hx, rfl⟩ := List.mem_map.mp hy
    exact (hb x hx).nm
  · obtain ⟨q, z, hz, e⟩ := goF_some h
    unfold nsP at e
    split at e
    · cases e
    · cases e
      unfold askS at hz
      rcases List.mem_append.mp hz with hz | hz
      · obtain ⟨x, hx, hz⟩ := List.mem_flatMap.mp hz
        rcases List.mem_cons.mp hz with q | q
        · rw [q]; exact mr x hx
        · rw [List.mem_singleton.mp q]; exact md x hx
      · obtain ⟨v, hv, hz⟩ := List.mem_flatMap.mp hz
        rcases List.mem_append.mp hv with hv | hv
        · obtain ⟨y, hy, rfl⟩ := List.mem_map.mp hv
          obtain ⟨x, hx, rfl⟩ := List.mem_map.mp hy
          exact (hr x hx).tx z (kd_tx hz)
        · obtain ⟨y, hy, rfl⟩ := List.mem_map.mp hv
          obtain ⟨x, hx, rfl⟩ := List.mem_map.mp hy
          exact (hb x hx).tx z (kd_tx hz)
  · obtain ⟨q, x, hx, e⟩ := goF_some h
    unfold upP at e
    split at e
    · cases e
      exact ⟨mr x hx, md x hx⟩
    · cases e
  · obtain ⟨q, z, hz, e⟩ := goF_some h
    unfold nwP at e
    split at e
    · cases e
    · cases e
      unfold askW at hz
      rcases List.mem_append.mp hz with hz | hz
      · rcases List.mem_append.mp hz with hz | hz
        · obtain ⟨x, hx, hz⟩ := List.mem_flatMap.mp hz
          refine hm x hx z ?_
          unfold mkTx
          rcases List.mem_append.mp hz with q | q
          · exact List.mem_append_left _ (List.mem_append_right _ q)
          · exact List.mem_append_right _ q
        · obtain ⟨y, hy, hz⟩ := List.mem_flatMap.mp hz
          obtain ⟨x, hx, rfl⟩ := List.mem_map.mp hy
          have hz : z ∈ [x.w0, x.w1] := hz
          refine (hr x hx).tx z ?_
          unfold paTx
          exact List.mem_append_right _ hz
      · obtain ⟨y, hy, hz⟩ := List.mem_flatMap.mp hz
        obtain ⟨x, hx, rfl⟩ := List.mem_map.mp hy
        have hz : z ∈ [x.w0] := hz
        refine (hb x hx).tx z ?_
        unfold paTx
        exact List.mem_append_right _ (by rw [List.mem_singleton.mp hz]; simp)
/-- the answer, as data -/
def ansD : Option Rf → PyData
  | none => .tuple [.str "made", .bool true]
  | some r => .tuple (tupD r)
theorem ans_sh {o : Option Rf} (h : ∀ r, o = some r → RfOk r) : SeqAt.shaped (ansD o) = true := by
  cases o with
  | none =>
    have k1 := strOk_of (kd_ok "made" (by simp)).2
    simp [ansD, SeqAt.shaped, PyData.canLay0, PyData.canLayAll0, PyData.depth, PyData.depthAll, k1]
  | some r => exact tup_sh (h r rfl)
theorem an_dp {K : PySem.W.Frag} {H : Hp} {o : Option Rf} {v : V} (h : AnAt o v H) : Dp K H v (ansD o) := by
  cases o with
  | none =>
    obtain ⟨t, rfl, ht⟩ := h
    exact .tup (SqT.of ht) (.cons (.str _) (.cons (.bl _) .nil))
  | some r =>
    obtain ⟨t, rfl, ht⟩ := h
    exact .tup (SqT.of ht) (dp_tup r)
end Wm
/-! a list held against the empty list; a list of lists held against another of the same contents -/
namespace Wm
open PySem PySem.Spec PyProof.Rows L2
def rNeE : R2 := fun x y H Q => ∃ (a b : Addr) (xs : List V), x = .ref a ∧ y = .ref b ∧ H a = some (.lst xs) ∧ H b = some (.lst []) ∧ Q (.bl (!xs.isEmpty)) H
def rEqE : R2 := fun x y H Q => ∃ (a b : Addr) (xs : List V), x = .ref a ∧ y = .ref b ∧ H a = some (.lst xs) ∧ H b = some (.lst []) ∧ Q (.bl xs.isEmpty) H
theorem vals_len {xs : List V} {us : List Value} (h : Vals xs us) : us.length = xs.length := h.length.symm
theorem op_neE {X : Cx} (hu1 : X.A.units + 1 < cLine) : OpR X (compareOp .NotEq) rNeE := by
  have hu : X.A.units < cLine := by omega
  intro pins s σ H x y v u Q I rx ry h
  obtain ⟨a, b, xs, rfl, rfl, ha, hb, q⟩ := h
  cases rx
  cases ry
  obtain ⟨z, its, k, r, e⟩ := I.hok a _ ha
  obtain ⟨z2, its2, k2, r2, e2⟩ := I.hok b _ hb
  cases r2
  show wpAny _ _ (richCompare .NotEq (.ref a) (.ref b)) _ _ _
  cases xs with
  | nil =>
    cases r
    have hr := SeqAt.RcNeAt.lists (A := X.A) (s := s) (l := a) (b := b) (items := #[]) (items2 := #[]) (e := fun _ => true) ⟨_, e, rfl, _, rfl⟩ ⟨_, e2, rfl, _, rfl⟩ rfl hu (fun j h1 h2 => absurd h1 (by simp))
    exact hr X.prog X.w X.xe _ ⟨.bl false, H, I, rfl, q⟩
  | cons w ws =>
    have hr := SeqAt.RcNeAt.lists_lengths (A := X.A) (s := s) (l := a) (b := b) (items := its.toArray) (items2 := #[]) ⟨_, e, rfl, _, rfl⟩ ⟨_, e2, rfl, _, rfl⟩ (by
      have l := vals_len r
      simp at l
      simp [l]) hu
    exact hr X.prog X.w X.xe _ ⟨.bl true, H, I, rfl, q⟩
theorem op_eqE {X : Cx} (hu1 : X.A.units + 1 < cLine) : OpR X (compareOp .Eq) rEqE := by
  have hu : X.A.units < cLine := by omega
  intro pins s σ H x y v u Q I rx ry h
  obtain ⟨a, b, xs, rfl, rfl, ha, hb, q⟩ := h
  cases rx
  cases ry
  obtain ⟨z, its, k, r, e⟩ := I.hok a _ ha
  obtain ⟨z2, its2, k2, r2, e2⟩ := I.hok b _ hb
  cases r2
  show wpAny _ _ (richCompare .Eq (.ref a) (.ref b)) _ _ _
  cases xs with
  | nil =>
    cases r
    have hr := SeqAt.RcAt.lists (A := X.A) (s := s) (l := a) (b := b) (items := #[]) (items2 := #[]) (e := fun _ => true) ⟨_, e, rfl, _, rfl⟩ ⟨_, e2, rfl, _, rfl⟩ rfl hu (fun j h1 h2 => absurd h1 (by simp))
    exact hr X.prog X.w X.xe _ ⟨.bl true, H, I, rfl, q⟩
  | cons w ws =>
    have hr := SeqAt.RcAt.lists_lengths (A := X.A) (s := s) (l := a) (b := b) (items := its.toArray) (items2 := #[]) ⟨_, e, rfl, _, rfl⟩ ⟨_, e2, rfl, _, rfl⟩ (by
      have l := vals_len r
      simp at l
      simp [l]) hu
    exact hr X.prog X.w X.xe _ ⟨.bl false, H, I, rfl, q⟩
/-! ### lists of lists -/
def fltV (v : V) : Prop := (∃ z, v = .str z) ∨ ∃ a, v = .ref a
theorem eq_flat {A : Around} {s : Shared} {v : V} {u w : Value} (f : fltV v) (r1 : RelV v u) (r2 : RelV v w) : SeqAt.EqAt A s u w true := by
  rcases f with ⟨z, rfl⟩ | ⟨a, rfl⟩
  · obtain ⟨t, rfl⟩ := r1
    obtain ⟨t', rfl⟩ := r2
    have h := SeqAt.EqAt.str_str (A := A) (s := s) z t z t'
    rw [beq_self_eq_true] at h
    exact h
  · cases r1
    cases r2
    exact SeqAt.EqAt.same _
theorem vals_at : ∀ {xs : List V} {us : List Value}, Vals xs us → ∀ (j : Nat) (h1 : j < xs.length) (h2 : j < us.length), RelV xs[j] us[j]
  | _, _, .nil, j, h1, _ => absurd h1 (by simp)
  | _, _, .cons r t, 0, _, _ => r
  | _, _, .cons r t, j + 1, h1, h2 => vals_at t j (by simpa using h1) (by simpa using h2)
theorem eq_lsts {X : Cx} {pins : List (Addr × Obj)} {σ : L2.St} {H : Hp} {s : Shared} {A : Around} (I : Inv X pins σ H s) (hu : A.units < cLine) {p q : Addr} {xs : List V} (hp : H p = some (.lst xs)) (hq : H q = some (.lst xs)) (fl : ∀ v ∈ xs, fltV v) : SeqAt.EqAt A s (.ref p) (.ref q) true := by
  by_cases ne : p = q
  · rw [ne]
    exact SeqAt.EqAt.same _
  · obtain ⟨z, its, k, r, e⟩ := I.hok p _ hp
    obtain ⟨z2, its2, k2, r2, e2⟩ := I.hok q _ hq
    have l1 := vals_len r
    have l2 := vals_len r2
    have hr := SeqAt.RcAt.lists (A := A) (s := s) (l := p) (b := q) (items := its.toArray) (items2 := its2.toArray) (e := fun _ => true) ⟨_, e, rfl, _, rfl⟩ ⟨_, e2, rfl, _, rfl⟩ (by simp [l1, l2]) hu (fun j h1 h2 => by
      have h1' : j < its.length := by simpa using h1
      have h2' : j < its2.length := by simpa using h2
      have hx : j < xs.length := by omega
      have q := eq_flat (A := A.in1) (s := s) (fl _ (List.getElem_mem hx)) (vals_at r j hx h1') (vals_at r2 j hx h2')
      simpa using q)
    have e3 : ((List.range its.toArray.size).all fun _ => true) = true := by simp
    rw [e3] at hr
    exact SeqAt.EqAt.of_refs ne hr
def rNeLL : R2 := fun x y H Q => ∃ (a b : Addr) (as bs : List Addr), x = .ref a ∧ y = .ref b ∧ H a = some (.lst (as.map V.ref)) ∧ H b = some (.lst (bs.map V.ref)) ∧ as.length = bs.length ∧ (∀ (i : Nat) (p q : Addr), as[i]? = some p → bs[i]? = some q → ∃ xs, H p = some (.lst xs) ∧ H q = some (.lst xs) ∧ ∀ v ∈ xs, fltV v) ∧ Q (.bl false) H
theorem op_neLL {X : Cx} (hu : X.A.units + 1 < cLine) : OpR X (compareOp .NotEq) rNeLL := by
  intro pins s σ H x y v u Q I rx ry h
  obtain ⟨a, b, as, bs, rfl, rfl, ha, hb, hl, hi, q⟩ := h
  cases rx
  cases ry
  obtain ⟨z, its, k, r, e⟩ := I.hok a _ ha
  obtain ⟨z2, its2, k2, r2, e2⟩ := I.hok b _ hb
  have h1 := vals_refs r
  have h2 := vals_refs r2
  subst h1
  subst h2
  have hr := SeqAt.RcNeAt.lists (A := X.A) (s := s) (l := a) (b := b) (items := (as.map Value.ref).toArray) (items2 := (bs.map Value.ref).toArray) (e := fun _ => true) ⟨_, e, rfl, _, rfl⟩ ⟨_, e2, rfl, _, rfl⟩ (by simp [hl]) (by omega) (fun j h1 h2 => by
    have h1' : j < as.length := by simpa using h1
    have h2' : j < bs.length := by simpa using h2
    obtain ⟨xs, hp, hq, fl⟩ := hi j as[j] bs[j] (List.getElem?_eq_getElem h1') (List.getElem?_eq_getElem h2')
    have q := eq_lsts (A := X.A.in1) I (by show X.A.units + 1 < cLine; exact hu) hp hq fl
    simpa using q)
  have e3 : (!(List.range (as.map Value.ref).toArray.size).all fun _ => true) = false := by simp
  rw [e3] at hr
  show wpAny _ _ (richCompare .NotEq (.ref a) (.ref b)) _ _ _
  exact hr X.prog X.w X.xe _ ⟨.bl false, H, I, rfl, q⟩
end Wm
namespace Wm
open PySem L2 StX
def spLaw (K : PySem.W.Frag) : Sp := fun vs H Q _ => ∃ (a : Addr) (ns : List Int), vs = [.ref a] ∧ SqL K H a (ns.map V.int) ∧ ns.length ≤ 63 ∧ ∀ H', Q (.bl true) H'
theorem rd_two {K : PySem.W.Frag} {x y : Int} {b : Bool} {H : Hp} {l : Addr} {Q : VK} (h : H l = some (.lst [.int x, .int y])) (q : Q (.int (if b then y else x)) H) : rIxL K (.ref l) (.int (if b = true then 1 else 0)) H Q := by
  cases b
  · exact rdList h (j := 0) rfl rfl q
  · exact rdList h (j := 1) rfl rfl q
theorem rdL0 {K : PySem.W.Frag} {H : Hp} {p : Addr} {xs : List V} {v : V} {Q : VK} (hp : H p = some (.lst xs)) (hv : xs[0]? = some v) (h : Q v H) : rIxL K (.ref p) (.int 0) H Q := rdList hp (j := 0) rfl hv h
def mo1 (l1 : Addr) : List (L2.Key × V) := [(kS "sorts", .ref l1)]
def mo2 (l1 l2 : Addr) : List (L2.Key × V) := [(kS "sorts", .ref l1), (kS "words", .ref l2)]
def mo3 (l1 l2 l3 : Addr) : List (L2.Key × V) := [(kS "sorts", .ref l1), (kS "words", .ref l2), (kS "makings", .ref l3)]
def mo4 (l1 l2 l3 l4 : Addr) : List (L2.Key × V) := [(kS "sorts", .ref l1), (kS "words", .ref l2), (kS "makings", .ref l3), (kS "rules", .ref l4)]
theorem pu2 {l1 l2 : Addr} : putK (mo1 l1) (kS "words") (.ref l2) = mo2 l1 l2 := by rfl
theorem pu3 {l1 l2 l3 : Addr} : putK (mo2 l1 l2) (kS "makings") (.ref l3) = mo3 l1 l2 l3 := by rfl
theorem pu4 {l1 l2 l3 l4 : Addr} : putK (mo3 l1 l2 l3) (kS "rules") (.ref l4) = mo4 l1 l2 l3 l4 := by rfl
theorem pu5 {l1 l2 l3 l4 l5 : Addr} : putK (mo4 l1 l2 l3 l4) (kS "bars") (.ref l5) = moK l1 l2 l3 l4 l5 := by rfl
theorem k21 {l1 l2 : Addr} : valV (mo2 l1 l2) (kS "sorts") = some (.ref l1) := by rfl
theorem k22 {l1 l2 : Addr} : valV (mo2 l1 l2) (kS "words") = some (.ref l2) := by rfl
theorem k31 {l1 l2 l3 : Addr} : valV (mo3 l1 l2 l3) (kS "sorts") = some (.ref l1) := by rfl
theorem k32 {l1 l2 l3 : Addr} : valV (mo3 l1 l2 l3) (kS "words") = some (.ref l2) := by rfl
theorem k41 {l1 l2 l3 l4 : Addr} : valV (mo4 l1 l2 l3 l4) (kS "sorts") = some (.ref l1) := by rfl
theorem k42 {l1 l2 l3 l4 : Addr} : valV (mo4 l1 l2 l3 l4) (kS "words") = some (.ref l2) := by rfl
theorem keepD {H : Hp} {dm a : Addr} {k k' : List (L2.Key × V)} {o : HO} (e : H dm = some (.dK k)) (h : H a = some o) (n : o ≠ .dK k) : upd H dm (.dK k') a = some o := (upd_ne (ne_of h e n)).trans h
theorem MtAt.putD {H : Hp} {dm t : Addr} {k k' : List (L2.Key × V)} {x : MkD} (e : H dm = some (.dK k)) (h : MtAt H t x) : MtAt (upd H dm (.dK k')) t x := by
  obtain ⟨l1, l2, a, b, c⟩ := h
  exact ⟨l1, l2, keepD e a (by intro z; cases z), keepD e b (by intro z; cases z), keepD e c (by intro z; cases z)⟩
theorem PtAt.putD {H : Hp} {dm t : Addr} {k k' : List (L2.Key × V)} {x : PaT} (e : H dm = some (.dK k)) (h : PtAt H t x) : PtAt (upd H dm (.dK k')) t x := by
  obtain ⟨l1, l2, a, b, c⟩ := h
  exact ⟨l1, l2, keepD e a (by intro z; cases z), keepD e b (by intro z; cases z), keepD e c (by intro z; cases z)⟩
/-- while the scheme is written -/
structure Wr (H3 H : Hp) (p ls dm : Addr) (ja jb : Int) (k : List (L2.Key × V)) : Prop where
  s : StOk H p
  l : H ls = some (.lst [.int ja, .int jb])
  d : H dm = some (.dK k)
  n : H3 dm = none
  g : Same H3 H
  p3 : H3 p = none
theorem Wr.but {H3 H H' : Hp} {p ls dm : Addr} {ja jb : Int} {k : List (L2.Key × V)} (w : Wr H3 H p ls dm ja jb k) (B : But p H H') (S : StOk H' p) : Wr H3 H' p ls dm ja jb k :=
  ⟨S, B _ _ (But.ne w.s w.l ns_two) w.l, B _ _ (But.ne w.s w.d (fun _ _ _ z => by cases z)) w.d, w.n, But.same w.p3 w.g B, w.p3⟩
theorem Wr.put {H3 H : Hp} {p ls dm : Addr} {ja jb : Int} {k k' : List (L2.Key × V)} (w : Wr H3 H p ls dm ja jb k) : Wr H3 (upd H dm (.dK k')) p ls dm ja jb k' := by
  have nd : dm ≠ p := But.ne w.s w.d (fun _ _ _ z => by cases z)
  exact ⟨w.s.upd nd, keepD w.d w.l (by intro z; cases z), upd_same, w.n, fun q o e => (upd_ne (ne_of_none e w.n)).trans (w.g q o e), w.p3⟩
theorem AnAt.same {o : Option Rf} {v : V} {H H' : Hp} (h : AnAt o v H) (S : Same H H') : AnAt o v H' := by
  cases o with
  | none =>
    obtain ⟨t, e, ht⟩ := h
    exact ⟨t, e, S _ _ ht⟩
  | some r =>
    obtain ⟨t, e, ht⟩ := h
    exact ⟨t, e, S _ _ ht⟩
theorem isE {α β : Type} {f : α → β} {xs : List α} : (!(xs.map f).isEmpty) = true → ∃ x, xs[0]? = some x := by
  cases xs with
  | nil => intro h; cases h
  | cons x r => intro _; exact ⟨x, rfl⟩
section
variable {P : Program} {w : World} {K : PySem.W.Frag} {mg : Str → Option Value} {base : Heap}
theorem scLaw : FnScope ["_law_script", "_law_cell", "_law_s", "_law_spoils", "_law_least", "_law_m", "_law_few", "_law_due"] ["_law_script"] (defScope sLaw) := ⟨rfl, rfl, rfl, by decide +kernel, rfl, by decide +kernel, by decide +kernel⟩
theorem ok_law {f fSt fG fRw fMk fPa fDc fFo : Addr} {fd dSt dG dRw dMk dPa dDc dFo : FuncData} (F : Fun K "law" "law" sLaw f fd) (T : TxB mg) (DSt : Dn K mg "_law_state" sState ["_law_cell"] fSt dSt) (DG : Dn K mg "_law_digit" sDigit ["_law_state_here", "_law_base"] fG dG)
    (DRw : Dn K mg "_law_row" sRow ["_law_s", "_law_spoils", "_law_least", "_law_most", "_law_twice_here", "_law_bad_here"] fRw dRw) (GRw : FnOk P w K mg base CX0 4 fRw dRw ["_law_s", "_law_spoils", "_law_least", "_law_most", "_law_twice_here", "_law_bad_here"] spRow)
    (DMk : Dn K mg "_law_makings" sMkg ["_law_s", "_law_spoils", "_law_sorts", "_law_words"] fMk dMk) (GMk : FnOk P w K mg base CX0 3 fMk dMk ["_law_s", "_law_spoils", "_law_sorts", "_law_words"] spMkg)
    (DPa : Dn K mg "_law_patterns" sPat ["_law_s", "_law_spoils", "_law_sorts", "_law_words", "_law_most", "_law_twice_here"] fPa dPa) (GPa : FnOk P w K mg base CX0 4 fPa dPa ["_law_s", "_law_spoils", "_law_sorts", "_law_words", "_law_most", "_law_twice_here"] spPat)
    (DDc : Dn K mg "_law_due_counts" sDuc ["_law_m"] fDc dDc) (GDc : FnOk P w K mg base CX0 2 fDc dDc ["_law_m"] spDuc) (DFo : Dn K mg "_law_found" sFou ["_law_m"] fFo dFo) (GFo : FnOk P w K mg base CX0 8 fFo dFo ["_law_m"] spFou) :
    FnOk P w K mg base CX0 9 f fd ["_law_script"] (spLaw K) := by
  have GSt : FnOk P w K mg base CX0 1 fSt dSt _ spState := ok_state DSt.F T
  have GG : FnOk P w K mg base CX0 1 fG dG _ spDigit := ok_digit DG.F
  refine F.ok scLaw (fun vs H Q E h => ?_) (fun cdv A outer s H vs Q E hr h => ?_)
  · obtain ⟨a, ns, rfl, _⟩ := h
    rfl
  · obtain ⟨a, ns, rfl, hA, hlen, kk⟩ := h
    have hu := hu_of hr
    have hr1 : Room 1 _ := hr.mono (by decide)
    have hr2 : Room 2 _ := hr.mono (by decide)
    have hr3 : Room 3 _ := hr.mono (by decide)
    have hr4 : Room 4 _ := hr.mono (by decide)
    have hr8 : Room 8 _ := hr
    refine ⟨_, (pss_cons (ps_for PassesOwn.never rfl (pi_list (pe_slice sl_list (pe_op op_catR (pv 0) (pe_lst (pa_cons pe_int pa_nil))) po_none (po_some pe_int))) (pg_name (i := 1) scLaw.nd rfl (Or.inl rfl)) (pss_cons (ps_set (i := 2) scLaw.nd rfl (Or.inl rfl) (pe_call GSt hr1 rfl DSt.g DSt.F.kp DSt.b .nil pass0 (pa_cons (pv 1) pa_nil)))
      (pss_cons (ps_set (i := 3) scLaw.nd rfl (Or.inl rfl) (pe_lst (pa_cons (pe_call GG hr1 rfl DG.g DG.F.kp DG.b .nil pass0 (pa_cons (pv 2) (pa_cons pe_int pa_nil))) (pa_cons (pe_op op_mul (pe_call GG hr1 rfl DG.g DG.F.kp DG.b .nil pass0 (pa_cons (pv 2) (pa_cons pe_int pa_nil))) (pe_call GG hr1 rfl DG.g DG.F.kp DG.b .nil pass0 (pa_cons (pv 2) (pa_cons pe_int pa_nil)))) pa_nil))))
      (pss_cons (ps_set (i := 4) scLaw.nd rfl (Or.inl rfl) (pe_ix ix_list (pe_lst (pa_cons pe_int (pa_cons pe_int pa_nil))) (pe_callTy call_int1 (by rfl) T.int (by decide +kernel) (pa_cons (pe_cmpR op_in_seq pe_int (pv 3) (by rfl)) pa_nil)) (fun _ _ => rfl)))
      (pss_cons (ps_set (i := 5) scLaw.nd rfl (Or.inl rfl) (pe_disp (pps_cons pe_str (pe_call GRw hr4 rfl DRw.g DRw.F.kp DRw.b .nil pass0 (pa_cons (pv 2) (pa_cons (pv 3) (pa_cons (pv 4) (pa_cons (pe_op op_add (pe_ix ix_list (pe_lst (pa_cons pe_int (pa_cons pe_int pa_nil))) (pe_callTy call_int1 (by rfl) T.int (by decide +kernel) (pa_cons (pe_cmpR op_in_seq pe_int (pv 3) (by rfl)) pa_nil)) (fun _ _ => rfl)) (pe_op op_mul pe_int (pe_callTy call_int1 (by rfl) T.int (by decide +kernel) (pa_cons (pe_cmpR op_in_seq pe_int (pv 3) (by rfl)) pa_nil)))) (pa_cons pe_int (pa_cons pe_int pa_nil))))))) pps_nil) (by rfl) (by rfl) (fun z => by cases z) (by decide)))
      (pss_cons (ps_set (i := 6) scLaw.nd rfl (Or.inl rfl) (pe_callTy call_int1 (by rfl) T.int (by decide +kernel) (pa_cons (pe_cmpR op_in_seq pe_int (pv 3) (by rfl)) pa_nil)))
      (pss_cons (ps_dput hu (pv 5) pe_str (pe_call GRw hr4 rfl DRw.g DRw.F.kp DRw.b .nil pass0 (pa_cons (pv 2) (pa_cons (pv 3) (pa_cons (pe_op op_sub pe_int (pv 6)) (pa_cons (pe_op op_add (pe_op op_sub pe_int (pe_op op_mul pe_int (pv 6))) (pe_op op_mul pe_int (pe_callTy call_int1 (by rfl) T.int (by decide +kernel) (pa_cons (pe_cmpR op_in_seq pe_int (pv 3) (by rfl)) pa_nil)))) (pa_cons pe_int (pa_cons pe_int pa_nil))))))) rfl)
      (pss_cons (ps_dput hu (pv 5) pe_str (pe_call GMk hr3 rfl DMk.g DMk.F.kp DMk.b .nil pass0 (pa_cons (pv 2) (pa_cons (pv 3) (pa_cons (pe_dget hu (pv 5) pe_str (fun _ _ => rfl)) (pa_cons (pe_dget hu (pv 5) pe_str (fun _ _ => rfl)) pa_nil))))) rfl)
      (pss_cons (ps_dput hu (pv 5) pe_str (pe_call GPa hr4 rfl DPa.g DPa.F.kp DPa.b .nil pass0 (pa_cons (pv 2) (pa_cons (pv 3) (pa_cons (pe_dget hu (pv 5) pe_str (fun _ _ => rfl)) (pa_cons (pe_dget hu (pv 5) pe_str (fun _ _ => rfl)) (pa_cons (pe_op op_add pe_int (pe_callTy call_int1 (by rfl) T.int (by decide +kernel) (pa_cons (pe_cmpR op_in_seq pe_int (pv 3) (by rfl)) pa_nil))) (pa_cons pe_int pa_nil))))))) rfl)
      (pss_cons (ps_dput hu (pv 5) pe_str (pe_call GPa hr4 rfl DPa.g DPa.F.kp DPa.b .nil pass0 (pa_cons (pv 2) (pa_cons (pv 3) (pa_cons (pe_dget hu (pv 5) pe_str (fun _ _ => rfl)) (pa_cons (pe_dget hu (pv 5) pe_str (fun _ _ => rfl)) (pa_cons (pe_op op_add pe_int (pe_callTy call_int1 (by rfl) T.int (by decide +kernel) (pa_cons (pe_cmpR op_in_seq pe_int (pv 3) (by rfl)) pa_nil))) (pa_cons pe_int pa_nil))))))) rfl)
      (pss_cons (ps_if (PW.pt (pw_and (pt_cmpR op_eq (pe_call GG hr1 rfl DG.g DG.F.kp DG.b .nil pass0 (pa_cons (pv 2) (pa_cons pe_int pa_nil))) pe_int (nomark _)) (pw_and (pt_cmpR (op_neE hu) (pe_dget hu (pv 5) pe_str (fun _ _ => rfl)) (pe_lst pa_nil) (nomark _)) (pw_and1 (pt_cmpR (op_neE hu) (pe_dget hu (pv 5) pe_str (fun _ _ => rfl)) (pe_lst pa_nil) (nomark _)))))) (pss_one (ps_asg (pe_tup (pa_cons (pe_ix ix_tup (pe_ix ix_list (pe_dget hu (pv 5) pe_str (fun _ _ => rfl)) pe_int (fun _ _ => rfl)) pe_int (fun _ _ => rfl)) (pa_cons (pe_ix ix_tup (pe_ix ix_list (pe_dget hu (pv 5) pe_str (fun _ _ => rfl)) pe_int (fun _ _ => rfl)) pe_int (fun _ _ => rfl)) (pa_cons (pe_ix ix_tup (pe_ix ix_list (pe_dget hu (pv 5) pe_str (fun _ _ => rfl)) pe_int (fun _ _ => rfl)) pe_int (fun _ _ => rfl)) pa_nil)))) (pg_sub (pe_dget hu (pv 5) pe_str (fun _ _ => rfl)) pe_int set_list))) pss_nil)
      (pss_cons (ps_set (i := 7) scLaw.nd rfl (Or.inl rfl) (pe_call GDc hr2 rfl DDc.g DDc.F.kp DDc.b .nil pass0 (pa_cons (pv 5) pa_nil)))
      (pss_cons (ps_if (pt_cmp (pc_isN (pv 7))) (pss_one (ps_set (i := 7) scLaw.nd rfl (Or.inl rfl) (pe_tup (pa_cons pe_str (pa_cons pe_bl pa_nil))))) pss_nil)
      (pss_one (ps_if (pt_cmpR (op_neD hr.units) (pe_call GFo hr8 rfl DFo.g DFo.F.kp DFo.b .nil pass0 (pa_cons (pv 5) pa_nil)) (pv 7) (nomark _)) (pss_one (ps_ret pe_bl)) pss_nil)))))))))))))))
      (pss_one (ps_ret pe_bl))), ?_⟩
    rw [show L2.start ["_law_script", "_law_cell", "_law_s", "_law_spoils", "_law_least", "_law_m", "_law_few", "_law_due"] [V.ref a] = [some (.ref a), none, none, none, none, none, none, none] from rfl]
    refine ⟨_, rfl, by show 1 ≤ sizeLine; decide, fun l0 n0 => ?_⟩
    have R0 := Same.upd (o := .lst [.int 0]) n0
    refine ⟨a, l0, _, _, rfl, rfl, R0.seq hA, SqL.of upd_same, ?_, fun l1 n1 => ?_⟩
    · rw [List.length_map]
      exact Nat.le_trans (show ns.length + 1 ≤ 1000 by omega) (by decide)
    refine ⟨_, rfl, l1, _, rfl, SqL.of upd_same, fun l2 n2 => ?_⟩
    generalize hH3 : upd (upd (upd H l0 (.lst [.int 0])) l1 (.lst (ns.map V.int ++ [V.int 0]))) l2 (.lst (cutV (ns.map V.int ++ [V.int 0]) none (some 14))) = H3
    have hl2 : H3 l2 = some (.lst ((ns.map V.int ++ [V.int 0]).take 14)) := by
      rw [← hH3, upd_same]
      have e := cut_take (ns.map V.int ++ [V.int 0]) 14
      exact congrArg (fun l => some (HO.lst l)) e
    refine ⟨l2, rfl, ⟨_, SqL.of hl2⟩, for_list (K := K) (a := l2) (xs := (ns.map V.int ++ [V.int 0]).take 14) (fun i σ H' => (∃ u1 u2 u3 u4 u5 u6 u7, σ = [some (.ref a), u1, u2, u3, u4, u5, u6, u7]) ∧ Same H3 H')
      ⟨⟨none, none, none, none, none, none, none, rfl⟩, Same.refl _⟩ (fun i σ H' _ q => SqL.of (q.2 _ _ hl2)) ?_ (fun σ H' _ => kk H')⟩
    rintro i y σ Ha hi ⟨⟨u1, u2, u3, u4, u5, u6, u7, rfl⟩, hS⟩
    obtain ⟨c0, rfl⟩ : ∃ c, y = V.int c := by
      have hm := List.mem_of_mem_take (List.mem_of_getElem? hi)
      rcases List.mem_append.mp hm with h | h
      · obtain ⟨c, _, rfl⟩ := List.mem_map.mp h
        exact ⟨c, rfl⟩
      · exact ⟨0, List.mem_singleton.mp h⟩
    dsimp only [gName, List.set_cons_succ, List.set_cons_zero]
    refine ⟨_, rfl, c0, rfl, fun p Hb np Sb stb => ?_⟩
    dsimp only [gName, List.set_cons_succ, List.set_cons_zero]
    have p3 : H3 p = none := hS.free np
    have Sb3 := hS.trans Sb
    -- what is spoilt
    refine ⟨_, rfl, p, 24, rfl, stb, by decide, by decide, fun d1 H1 a1 b1 B1 S1 => ⟨_, rfl, p, 18, rfl, S1, by decide, by decide, fun d2 H2 a2 b2 B2 S2 => ⟨_, rfl, p, 2, rfl, S2, by decide, by decide, fun d3 H4 a3 b3 B3 S4 => ⟨_, _, rfl, rfl, .inl ⟨by omega, by omega⟩, by show 2 ≤ sizeLine; decide, fun ls hls => ?_⟩⟩⟩⟩
    dsimp only [gName, List.set_cons_succ, List.set_cons_zero]
    generalize d2 * d3 = jb
    have SS4 : Same H3 H4 := But.same p3 Sb3 (B1.trans (B2.trans B3))
    have T5 : Same H4 (upd H4 ls (.lst [.int d1, .int jb])) := Same.upd hls
    have e5 : (upd H4 ls (.lst [.int d1, .int jb])) ls = some (.lst [.int d1, .int jb]) := upd_same
    have S5 := S4.same T5
    generalize upd H4 ls (.lst [.int d1, .int jb]) = H5 at T5 e5 S5
    have SS5 := SS4.trans T5
    have nls : ls ≠ p := But.ne S5 e5 ns_two
    obtain ⟨c1, hc1⟩ : ∃ c, inV (V.int 1) [V.int d1, V.int jb] = c := ⟨_, rfl⟩
    -- the least
    refine ⟨by show 2 ≤ sizeLine; decide, fun le hle => ⟨_, rfl, ls, _, rfl, .inl (SqL.of ((Same.upd hle) _ _ e5)), rfl, rfl, .inr ⟨_, rfl, ?_⟩⟩⟩
    rw [show (if false = true then !inV (V.int 1) [V.int d1, V.int jb] else inV (V.int 1) [V.int d1, V.int jb]) = c1 from hc1]
    have T6 : Same H5 (upd H5 le (.lst [.int 1, .int 0])) := Same.upd hle
    refine rd_two upd_same ?_
    generalize upd H5 le (.lst [.int 1, .int 0]) = H6 at T6
    dsimp only [gName, List.set_cons_succ, List.set_cons_zero]
    have e6 := T6 _ _ e5
    have S6 := S5.same T6
    have SS6 := SS5.trans T6
    -- the scheme, its sorts
    intro dm hdm
    have ndp : dm ≠ p := st_free S6 hdm
    have W0 : Wr H3 (upd H6 dm (.dK [])) p ls dm d1 jb [] := ⟨S6.upd ndp, (Same.upd hdm) _ _ e6, upd_same, SS6.free hdm, SS6.trans (Same.upd hdm), p3⟩
    generalize upd H6 dm (.dK []) = H7 at W0
    refine ⟨_, rfl, _, rfl, _, rfl, by show 2 ≤ sizeLine; decide, fun l4 hl4 => ⟨_, rfl, ls, _, rfl, .inl (SqL.of ((Same.upd hl4) _ _ W0.l)), rfl, rfl, .inr ⟨_, rfl, ?_⟩⟩⟩
    rw [show (if false = true then !inV (V.int 1) [V.int d1, V.int jb] else inV (V.int 1) [V.int d1, V.int jb]) = c1 from hc1]
    have T8 : Same H7 (upd H7 l4 (.lst [.int 4, .int 0])) := Same.upd hl4
    refine rd_two upd_same ?_
    have W1 := W0.but (Same.but T8) (W0.s.same T8)
    generalize upd H7 l4 (.lst [.int 4, .int 0]) = H8 at T8 W1
    refine ⟨_, rfl, ls, _, rfl, .inl (SqL.of W1.l), rfl, rfl, .inr ⟨_, rfl, ?_⟩⟩
    generalize (if false = true then !inV (V.int 2) [V.int d1, V.int jb] else inV (V.int 2) [V.int d1, V.int jb]) = c2
    refine ⟨_, _, rfl, rfl, .inl ⟨by decide, by decide⟩, _, _, rfl, rfl, p, ls, _, _, 5, 6, rfl, W1.s, ⟨_, _, W1.l⟩, by cases c1 <;> decide, by cases c1 <;> cases c2 <;> decide, by cases c1 <;> cases c2 <;> decide, fun m1 H9 ss n1 B9 S9 h1 sl _ sd => ?_⟩
    have W2 := W1.but B9 S9
    have s20 : ss.length ≤ 20 := Int.ofNat_le.mp (Int.le_trans sl (by cases c1 <;> cases c2 <;> decide))
    refine ⟨W2.d, [(kS "sorts", .ref m1)], rfl, by show 1 ≤ 15; decide, ?_⟩
    rw [show mergeK [] [(kS "sorts", V.ref m1)] = mo1 m1 from rfl]
    have W3 := W2.put (k' := mo1 m1)
    have h1 := keepD (k' := mo1 m1) W2.d h1 (by intro z; cases z)
    generalize upd H9 dm (.dK (mo1 m1)) = H10 at W3 h1
    dsimp only [gName, List.set_cons_succ, List.set_cons_zero]
    -- few
    refine ⟨_, rfl, ls, _, rfl, .inl (SqL.of W3.l), rfl, rfl, .inr ⟨_, rfl, ?_⟩⟩
    dsimp only [gName, List.set_cons_succ, List.set_cons_zero]
    generalize (if false = true then !inV (V.int 3) [V.int d1, V.int jb] else inV (V.int 3) [V.int d1, V.int jb]) = c3
    -- the words
    refine ⟨_, rfl, _, rfl, _, rfl, _, _, rfl, rfl, _, rfl, _, _, rfl, rfl, .inl ⟨by decide, by decide⟩, _, _, rfl, rfl, _, rfl, ls, _, rfl, .inl (SqL.of W3.l), rfl, rfl, .inr ⟨_, rfl, ?_⟩⟩
    generalize (if false = true then !inV (V.int 4) [V.int d1, V.int jb] else inV (V.int 4) [V.int d1, V.int jb]) = c4
    refine ⟨_, _, rfl, rfl, .inl ⟨by decide, by decide⟩, _, _, rfl, rfl, p, ls, _, _, 5, 7, rfl, W3.s, ⟨_, _, W3.l⟩, by cases c3 <;> decide, by cases c3 <;> cases c4 <;> decide, by cases c3 <;> cases c4 <;> decide, fun m2 H11 ws n2 B11 S11 h2 wl _ wd => ?_⟩
    have W4 := W3.but B11 S11
    have w20 : ws.length ≤ 20 := Int.ofNat_le.mp (Int.le_trans wl (by cases c3 <;> cases c4 <;> decide))
    have h1 := B11 _ _ (But.ne W3.s h1 ns_strs) h1
    refine ⟨_, rfl, dm, _, rfl, DPut.k (k := kS "words") W4.d (by show 1 < sizeLine; decide), ?_⟩
    rw [pu2]
    have W5 := W4.put (k' := mo2 m1 m2)
    have h1 := keepD (k' := mo2 m1 m2) W4.d h1 (by intro z; cases z)
    have h2 := keepD (k' := mo2 m1 m2) W4.d h2 (by intro z; cases z)
    generalize upd H11 dm (.dK (mo2 m1 m2)) = H12 at W5 h1 h2
    -- the makings
    refine ⟨_, rfl, _, rfl, _, rfl, dm, _, rfl, dget_of W5.d k21, _, rfl, dm, _, rfl, dget_of W5.d k22, p, ls, m1, m2, ss, ws, rfl, ⟨W5.s, ⟨_, _, W5.l⟩, h1, h2, s20, w20, sd, wd⟩, fun m3 H13 ts ms B13 S13 h3 a3 ml mok => ?_⟩
    have W6 := W5.but B13 S13
    have h1 := B13 _ _ (But.ne W5.s h1 ns_strs) h1
    have h2 := B13 _ _ (But.ne W5.s h2 ns_strs) h2
    refine ⟨_, rfl, dm, _, rfl, DPut.k (k := kS "makings") W6.d (by show 2 < sizeLine; decide), ?_⟩
    rw [pu3]
    have W7 := W6.put (k' := mo3 m1 m2 m3)
    have h1 := keepD (k' := mo3 m1 m2 m3) W6.d h1 (by intro z; cases z)
    have h2 := keepD (k' := mo3 m1 m2 m3) W6.d h2 (by intro z; cases z)
    have h3 := keepD (k' := mo3 m1 m2 m3) W6.d h3 (by intro z; cases z)
    have a3 := a3.imp fun _ _ q => q.putD (k' := mo3 m1 m2 m3) W6.d
    generalize upd H13 dm (.dK (mo3 m1 m2 m3)) = H14 at W7 h1 h2 h3 a3
    -- the rules
    refine ⟨_, rfl, _, rfl, _, rfl, dm, _, rfl, dget_of W7.d k31, _, rfl, dm, _, rfl, dget_of W7.d k32, _, rfl, ls, _, rfl, .inl (SqL.of W7.l), rfl, rfl, .inr ⟨_, rfl, ?_⟩⟩
    generalize (if false = true then !inV (V.int 14) [V.int d1, V.int jb] else inV (V.int 14) [V.int d1, V.int jb]) = c5
    refine ⟨_, _, rfl, rfl, p, ls, m1, m2, _, 15, ss, ws, rfl, ⟨W7.s, ⟨_, _, W7.l⟩, h1, h2, s20, w20, sd, wd⟩, by cases c5 <;> decide, by cases c5 <;> decide, fun m4 H15 us rs f4 B15 S15 h4 a4 rl rok => ?_⟩
    have r20 : rs.length ≤ 20 := Int.ofNat_le.mp (Int.le_trans rl (by cases c5 <;> decide))
    have W8 := W7.but B15 S15
    have k15 := B15.kp W7.s
    have h1 := k15 _ _ ns_strs h1
    have h2 := k15 _ _ ns_strs h2
    have h3 := k15 _ _ ns_refs h3
    have a3 := a3.imp fun _ _ q => q.kp k15
    refine ⟨_, rfl, dm, _, rfl, DPut.k (k := kS "rules") W8.d (by show 3 < sizeLine; decide), ?_⟩
    rw [pu4]
    have W9 := W8.put (k' := mo4 m1 m2 m3 m4)
    have h1 := keepD (k' := mo4 m1 m2 m3 m4) W8.d h1 (by intro z; cases z)
    have h2 := keepD (k' := mo4 m1 m2 m3 m4) W8.d h2 (by intro z; cases z)
    have h3 := keepD (k' := mo4 m1 m2 m3 m4) W8.d h3 (by intro z; cases z)
    have h4 := keepD (k' := mo4 m1 m2 m3 m4) W8.d h4 (by intro z; cases z)
    have a3 := a3.imp fun _ _ q => q.putD (k' := mo4 m1 m2 m3 m4) W8.d
    have a4 := a4.imp fun _ _ q => q.putD (k' := mo4 m1 m2 m3 m4) W8.d
    generalize upd H15 dm (.dK (mo4 m1 m2 m3 m4)) = H16 at W9 h1 h2 h3 a3 h4 a4
    -- the bars
    refine ⟨_, rfl, _, rfl, _, rfl, dm, _, rfl, dget_of W9.d k41, _, rfl, dm, _, rfl, dget_of W9.d k42, _, rfl, ls, _, rfl, .inl (SqL.of W9.l), rfl, rfl, .inr ⟨_, rfl, ?_⟩⟩
    generalize (if false = true then !inV (V.int 16) [V.int d1, V.int jb] else inV (V.int 16) [V.int d1, V.int jb]) = c6
    refine ⟨_, _, rfl, rfl, p, ls, m1, m2, _, 17, ss, ws, rfl, ⟨W9.s, ⟨_, _, W9.l⟩, h1, h2, s20, w20, sd, wd⟩, by cases c6 <;> decide, by cases c6 <;> decide, fun m5 H17 vs bs f5 B17 S17 h5 a5 bl bok => ?_⟩
    have n35 : m3 ≠ m5 := ne_of_none h3 f5
    have n45 : m4 ≠ m5 := ne_of_none h4 f5
    have b20 : bs.length ≤ 20 := Int.ofNat_le.mp (Int.le_trans bl (by cases c6 <;> decide))
    have W10 := W9.but B17 S17
    have k17 := B17.kp W9.s
    have h1 := k17 _ _ ns_strs h1
    have h2 := k17 _ _ ns_strs h2
    have h3 := k17 _ _ ns_refs h3
    have a3 := a3.imp fun _ _ q => q.kp k17
    have h4 := k17 _ _ ns_refs h4
    have a4 := a4.imp fun _ _ q => q.kp k17
    refine ⟨_, rfl, dm, _, rfl, DPut.k (k := kS "bars") W10.d (by show 4 < sizeLine; decide), ?_⟩
    rw [pu5]
    have W11 := W10.put (k' := moK m1 m2 m3 m4 m5)
    have M : MoAt (upd H17 dm (.dK (moK m1 m2 m3 m4 m5))) dm m1 m2 m3 m4 m5 ts us vs ss ws ms rs bs := ⟨upd_same, keepD W10.d h1 (by intro z; cases z), keepD W10.d h2 (by intro z; cases z), keepD W10.d h3 (by intro z; cases z), a3.imp fun _ _ q => q.putD W10.d, keepD W10.d h4 (by intro z; cases z), a4.imp fun _ _ q => q.putD W10.d, keepD W10.d h5 (by intro z; cases z), a5.imp fun _ _ q => q.putD W10.d⟩
    generalize upd H17 dm (.dK (moK m1 m2 m3 m4 m5)) = H18 at W11 M
    have SS16 := W9.g
    clear h1 h2 h3 a3 h4 a4 h5 a5 W0 W1 W2 W3 W4 W5 W6 W7 W8 W9 W10
    -- one bar by a rule's name
    dsimp only [tNext]
    refine cut1 (fun σ' H' => ∃ (vs : List Addr) (bs : List PaT), σ' = [some (.ref a), some (.int c0), some (.ref p), some (.ref ls), some (.int (if c1 = true then 0 else 1)), some (.ref dm), some (.int (if c3 = true then 1 else 0)), u7] ∧ Same H3 H' ∧ MoAt H' dm m1 m2 m3 m4 m5 ts us vs ss ws ms rs bs ∧ bs.length ≤ 20 ∧ ∀ x ∈ bs, PaOk0 x ∧ ∀ z ∈ paTx x, isNm z = true) ?_ ?_
    rotate_left
    · intro R fin
      refine ⟨_, rfl, p, 3, rfl, W11.s, by decide, by decide, fun d7 H19 a7 b7 B19 S19 => ?_⟩
      have W12 := W11.but B19 S19
      have M1 : MoAt H19 dm m1 m2 m3 m4 m5 ts us vs ss ws ms rs bs := by
        have k := B19.kp W11.s
        exact ⟨W12.d, k _ _ ns_strs M.h1, k _ _ ns_strs M.h2, k _ _ ns_refs M.h3, M.a3.imp fun _ _ q => q.kp k, k _ _ ns_refs M.h4, M.a4.imp fun _ _ q => q.kp k, k _ _ ns_refs M.h5, M.a5.imp fun _ _ q => q.kp k⟩
      have no : ∀ {H' : Hp}, Same H19 H' → R _ [some (.ref a), some (.int c0), some (.ref p), some (.ref ls), some (.int (if c1 = true then 0 else 1)), some (.ref dm), some (.int (if c3 = true then 1 else 0)), u7] H' := fun {H'} S => fin _ _ ⟨vs, bs, rfl, W12.g.trans S, M1.same S, b20, bok⟩
      refine ⟨rfl, _, rfl, ite2 (fun _ => ?_) (fun _ => no (Same.refl _))⟩
      refine ⟨_, rfl, dm, _, rfl, dget_of M1.hm kv4, Nat.zero_le _, fun ea hea => ⟨m4, ea, _, rfl, rfl, (Same.upd hea) _ _ M1.h4, upd_same, _, rfl, ?_⟩⟩
      have T20 : Same H19 (upd H19 ea (.lst [])) := Same.upd hea
      generalize upd H19 ea (.lst []) = H20 at T20
      refine ite2 (fun q4 => ?_) (fun _ => no T20)
      refine ⟨_, rfl, dm, _, rfl, dget_of (T20 _ _ M1.hm) kv5, Nat.zero_le _, fun eb heb => ⟨m5, eb, _, rfl, rfl, (Same.upd heb) _ _ (T20 _ _ M1.h5), upd_same, _, rfl, ?_⟩⟩
      have T21 : Same H20 (upd H20 eb (.lst [])) := Same.upd heb
      generalize upd H20 eb (.lst []) = H21 at T21
      have T1 := T20.trans T21
      refine ite2 (fun q5 => ?_) (fun _ => no T1)
      have M2 := M1.same T1
      obtain ⟨r0, hr0⟩ := isE q4
      obtain ⟨v0, hv0⟩ := isE q5
      obtain ⟨_, x0, er0, hx0, g1, g2, f1, f2, f3⟩ := M2.a4.get (show (us.map V.ref)[0]? = some (.ref r0) by rw [List.getElem?_map, hr0]; rfl)
      cases er0
      obtain ⟨_, y0, ev0, hy0, j1, j2, o1, o2, o3⟩ := M2.a5.get (show (vs.map V.ref)[0]? = some (.ref v0) by rw [List.getElem?_map, hv0]; rfl)
      cases ev0
      refine ⟨_, rfl, dm, _, rfl, dget_of M2.hm kv4, ?_⟩
      dsimp only [tC]
      refine rdL0 M2.h4 (by rw [List.getElem?_map, hr0]; rfl) ?_
      refine ⟨r0, _, 0, _, rfl, rfl, SqT.of f1, atI_nat (j := 0) rfl, _, rfl, dm, _, rfl, dget_of M2.hm kv5, ?_⟩
      dsimp only [tC]
      refine rdL0 M2.h5 (by rw [List.getElem?_map, hv0]; rfl) ?_
      refine ⟨v0, _, 1, _, rfl, rfl, SqT.of o1, atI_nat (j := 1) rfl, _, rfl, dm, _, rfl, dget_of M2.hm kv5, ?_⟩
      dsimp only [tC]
      refine rdL0 M2.h5 (by rw [List.getElem?_map, hv0]; rfl) ?_
      refine ⟨v0, _, 2, _, rfl, rfl, SqT.of o1, atI_nat (j := 2) rfl, by show 3 ≤ sizeLine; decide, fun nt hnt => ?_⟩
      have T22 : Same H21 (upd H21 nt (.tup [.str x0.nm, .ref j1, .ref j2])) := Same.upd hnt
      have e22 : (upd H21 nt (.tup [.str x0.nm, .ref j1, .ref j2])) nt = some (.tup [.str x0.nm, .ref j1, .ref j2]) := upd_same
      generalize upd H21 nt (.tup [.str x0.nm, .ref j1, .ref j2]) = H22 at T22 e22
      have M3 := M2.same T22
      have ST := W12.g.trans (T1.trans T22)
      refine ⟨_, rfl, dm, _, rfl, dget_of M3.hm kv5, m5, _, _, 0, rfl, rfl, M3.h5, ixN_nat (j := 0) (by rw [List.length_map]; exact (List.getElem?_eq_some_iff.mp hv0).1), ?_⟩
      have f5' : H3 m5 = none := SS16.free f5
      obtain ⟨v, vr, rfl⟩ : ∃ v vr, vs = v :: vr := by
        cases vs with
        | nil => cases hv0
        | cons v vr => exact ⟨v, vr, rfl⟩
      obtain ⟨y, br, rfl⟩ : ∃ y br, bs = y :: br := by
        cases bs with
        | nil => cases hy0
        | cons y br => exact ⟨y, br, rfl⟩
      cases hv0
      cases hy0
      have rr : ∀ {l : List V}, (∀ z ∈ l, ∃ t, z = V.str t ∨ z = V.non) → HO.lst l ≠ HO.lst ((v0 :: vr).map V.ref) := fun {l} h e => by
        injection e with e
        cases l with
        | nil => cases e
        | cons z r =>
          injection e with e1 e2
          obtain ⟨t, h | h⟩ := h z List.mem_cons_self
          · rw [h] at e1; cases e1
          · rw [h] at e1; cases e1
      have sS : ∀ (zs : List Str), ∀ z ∈ zs.map V.str, ∃ t, z = V.str t ∨ z = V.non := fun zs z hz => by
        obtain ⟨t, _, rfl⟩ := List.mem_map.mp hz
        exact ⟨t, .inl rfl⟩
      have sK : ∀ (k : Option Str), ∃ t, sortV k = V.str t ∨ sortV k = V.non := fun k => by
        cases k with
        | none => exact ⟨PySem.Str.ofString "", .inr rfl⟩
        | some z => exact ⟨z, .inl rfl⟩
      have nM : ∀ {t : Addr} {x : MkD}, MtAt H22 t x → MtN m5 H22 t x := fun {t x} ⟨l1, l2, e0, e1, e2⟩ => ⟨l1, l2, ne_of e1 M3.h5 (rr (sS _)), ne_of e2 M3.h5 (rr (sS _)), e0, e1, e2⟩
      have nP : ∀ {t : Addr} {x : PaT}, PtAt H22 t x → PtN m5 H22 t x := fun {t x} ⟨l1, l2, e0, e1, e2⟩ => ⟨l1, l2, ne_of e1 M3.h5 (rr fun z hz => by
          rcases List.mem_cons.mp hz with q | q
          · rw [q]; exact sK _
          · rw [List.mem_singleton.mp q]; exact sK _), ne_of e2 M3.h5 (rr fun z hz => by
          rcases List.mem_cons.mp hz with q | q
          · exact ⟨_, .inl q⟩
          · exact ⟨_, .inl (List.mem_singleton.mp q)⟩), e0, e1, e2⟩
      have a5' := M3.a5
      have x0ok := rok x0 (List.mem_of_getElem? hx0)
      have y0ok := bok y0 List.mem_cons_self
      refine fin _ _ ⟨nt :: vr, ⟨x0.nm, y0.k0, y0.k1, y0.w0, y0.w1⟩ :: br, rfl, fun q o e => (upd_ne (ne_of_none e f5')).trans (ST _ _ e), ⟨?_, ?_, ?_, ?_, ?_, ?_, ?_, ?_, ?_⟩, b20, fun x hx => ?_⟩
      · exact (upd_ne (ne_of M3.hm M3.h5 (by intro z; cases z))).trans M3.hm
      · exact (upd_ne (ne_of M3.h1 M3.h5 (rr (sS _)))).trans M3.h1
      · exact (upd_ne (ne_of M3.h2 M3.h5 (rr (sS _)))).trans M3.h2
      · exact (upd_ne n35).trans M3.h3
      · exact M3.a3.imp fun _ _ q => ((nM q).put M3.h5).at
      · exact (upd_ne n45).trans M3.h4
      · exact M3.a4.imp fun _ _ q => ((nP q).put M3.h5).at
      · exact upd_same
      · refine ⟨?_, a5'.2.imp fun _ _ q => ((nP q).put M3.h5).at⟩
        exact ((nP (x := ⟨x0.nm, y0.k0, y0.k1, y0.w0, y0.w1⟩) ⟨j1, j2, e22, T22 _ _ o2, T22 _ _ o3⟩).put M3.h5).at
      · rcases List.mem_cons.mp hx with q | q
        · rw [q]
          exact ⟨⟨x0ok.1.nm, y0ok.1.k0, y0ok.1.k1, y0ok.1.w0, y0ok.1.w1⟩, y0ok.2⟩
        · exact bok x (List.mem_cons_of_mem _ q)
    clear bok b20 bl M W11 n45 n35 f5
    rintro σ' H22 ⟨vs, bs, rfl, SS22, M, b20, bok⟩
    have mok1 : ∀ x ∈ ms, MkOk1 x := fun x hx => (mok x hx).1
    refine ⟨_, rfl, dm, m1, m2, m3, m4, m5, ts, us, vs, ss, ws, ms, rs, bs, rfl, M, s20, w20, Nat.le_trans ml (by decide), r20, b20, sd, wd, mok1, fun x hx => (rok x hx).1.nm.1, fun x hx => (bok x hx).1.nm.1, fun v H23 S23 vl => ?_⟩
    rw [due_same (fun x hx => ⟨(mok x hx).2 _ (by unfold mkTx; simp), (mok x hx).2 _ (by unfold mkTx; simp)⟩) (fun x hx => (rok x hx).1.nm.2) (fun x hx => (bok x hx).1.nm.2)] at vl
    have rfo : ∀ r, schDue ss ws ms (rs.map ruD) (bs.map baD) = some r → RfOk r := fun r e => due_ok (fun z hz => (sd z hz).2) (fun z hz => (wd z hz).2) (fun x hx z hz => by
      have q := mok1 x hx
      unfold mkTx at hz
      rcases List.mem_append.mp hz with hz | hz
      · rcases List.mem_append.mp hz with hz | hz
        · rcases List.mem_cons.mp hz with e | e
          · rw [e]; exact q.mr.2
          · rw [List.mem_singleton.mp e]; exact q.md.2
        · exact (q.dn z hz).2
      · exact (q.up z hz).2) (fun x hx => .of (rok x hx).1) (fun x hx => .of (bok x hx).1) e
    generalize ho : schDue ss ws ms (rs.map ruD) (bs.map baD) = o at vl rfo
    dsimp only [gName, List.set_cons_succ, List.set_cons_zero]
    refine cut1 (fun σ' H' => ∃ v : V, σ' = [some (.ref a), some (.int c0), some (.ref p), some (.ref ls), some (.int (if c1 = true then 0 else 1)), some (.ref dm), some (.int (if c3 = true then 1 else 0)), some v] ∧ AnAt o v H' ∧ Same H23 H') ?_ ?_
    rotate_left
    · intro R fin
      cases o with
      | some r =>
        obtain ⟨t, rfl, ht⟩ := vl
        refine ⟨_, rfl, _, rfl, iteF ?_⟩
        exact fin _ _ ⟨_, rfl, ⟨t, rfl, ht⟩, Same.refl _⟩
      | none =>
        cases vl
        refine ⟨_, rfl, _, rfl, iteT ?_⟩
        refine ⟨by show 2 ≤ sizeLine; decide, fun t ht => ?_⟩
        exact fin _ _ ⟨_, rfl, ⟨t, rfl, upd_same⟩, Same.upd ht⟩
    rintro σ' H24 ⟨v, rfl, an, S24⟩
    have SM := S23.trans S24
    refine ⟨_, rfl, dm, m1, m2, m3, m4, m5, ts, us, vs, ss, ws, ms, rs, bs, rfl, M.same SM, ⟨s20, w20, Nat.le_trans ml (by decide), r20, b20, sd, wd, mok, fun x hx => ⟨(rok x hx).1.nm.2, (rok x hx).2⟩, fun x hx => ⟨(bok x hx).1.nm.2, (bok x hx).2⟩⟩, fun fv H25 S25 fn => ?_⟩
    rw [ho] at fn
    have sh := ans_sh rfo
    refine ⟨_, rfl, _, _, an_dp fn, an_dp (an.same S25), sh, sh, _, rfl, ?_⟩
    rw [eqv_self sh]
    exact iteF ⟨⟨_, _, _, _, _, _, _, rfl⟩, SS22.trans (SM.trans S25)⟩
end
end Wm
namespace Wm
open PySem L2 He ClX StX
theorem errB_ok {K : PySem.W.Frag} {mg : Str → Option Value} {x f : Str} {C fI : Addr} (h : errB K C fI f = true) (g : mg x = some (.ref C)) : ErrT K mg x f C fI ∧ XfC K C ∧ ExcC K C ∧ PySem.W.exmOne K (.ref C) (.ref C) = some true := by
  unfold errB at h
  obtain ⟨h1, h⟩ := ba h
  obtain ⟨h2, h⟩ := ba h
  obtain ⟨h3, h⟩ := ba h
  obtain ⟨h4, h⟩ := ba h
  obtain ⟨h5, h⟩ := ba h
  obtain ⟨h6, h⟩ := ba h
  obtain ⟨h7, h⟩ := ba h
  obtain ⟨h8, h⟩ := ba h
  obtain ⟨h9, h⟩ := ba h
  obtain ⟨h10, h⟩ := ba h
  obtain ⟨h11, h⟩ := ba h
  obtain ⟨h12, h⟩ := ba h
  obtain ⟨h13, h⟩ := ba h
  obtain ⟨h14, h⟩ := ba h
  obtain ⟨h15, h⟩ := ba h
  obtain ⟨h16, h17⟩ := ba h
  exact ⟨⟨⟨excB_ok h14, eqO_ok h1, of_decide_eq_true h2, of_decide_eq_true h3, h4⟩, g, eqO_ok h13, of_decide_eq_true h5, eqO_ok h6, eqO_ok h7⟩, ⟨eqO_ok h8, eqO_ok h9, of_decide_eq_true h2, h10⟩,
    ⟨eqO_ok h8, eqO_ok h9, of_decide_eq_true h2, h10, eqO_ok h11, eqO_ok h16, of_decide_eq_true h17, of_decide_eq_true h12⟩, of_decide_eq_true h15⟩
abbrev clsC (K : PySem.W.Frag) : Nat → Addr
  | 0 => ga K "BadCount"
  | 1 => ga K "NoName"
  | 2 => ga K "Twice"
  | 3 => ga K "NoSort"
  | 4 => ga K "Upward"
  | 5 => ga K "NoWord"
  | 6 => ga K "NoVariable"
  | _ => 0
theorem kitB_ok {K : PySem.W.Frag} {C : Nat → Addr} {Z W : Addr} {i : Nat} (h : kitB K Z (C 0) (C 1) (C 2) (C 3) (C 4) (C 5) (C 6) W i = true) (xc : ExcC K Z) : ErK K C W Z i := by
  unfold kitB at h
  obtain ⟨h0, h⟩ := ba h
  obtain ⟨h1, h⟩ := ba h
  obtain ⟨h2, h⟩ := ba h
  obtain ⟨h3, h⟩ := ba h
  obtain ⟨h4, h⟩ := ba h
  obtain ⟨h5, h⟩ := ba h
  obtain ⟨h6, h⟩ := ba h
  obtain ⟨h7, h⟩ := ba h
  exact ⟨of_decide_eq_true h0, xc, of_decide_eq_true h1, of_decide_eq_true h2, of_decide_eq_true h3, of_decide_eq_true h4, of_decide_eq_true h5, of_decide_eq_true h6, of_decide_eq_true h7, of_decide_eq_true h⟩
theorem facts {P : Program} {w : World} {K : PySem.W.Frag} {h : Heap} {mg : Str → Option Value} {fa : Addr} (X : K.In h) (G : h.Ns mainGlobals mg) (hfa : mg "law" = some (.ref fa)) (c : SaysM ck fnL K) :
    ∃ fd : FuncData, (∀ (s : Shared) (v : Value), BindsTo s fd ⟨[v], []⟩ [("_law_script", v)]) ∧ ∀ base : Heap, K.In base → base.Ns mainGlobals mg → FnOk P w K mg base CX0 9 fa fd ["_law_script"] (spLaw K) := by
  have q := c.says
  unfold ck at q
  obtain ⟨qf, q⟩ := ba q
  obtain ⟨qw, q⟩ := ba q
  obtain ⟨qe0, q⟩ := ba q
  obtain ⟨qe1, q⟩ := ba q
  obtain ⟨qe2, q⟩ := ba q
  obtain ⟨qe3, q⟩ := ba q
  obtain ⟨qe4, q⟩ := ba q
  obtain ⟨qe5, q⟩ := ba q
  obtain ⟨qk0, q⟩ := ba q
  obtain ⟨qk1, q⟩ := ba q
  obtain ⟨qk2, q⟩ := ba q
  obtain ⟨qk3, q⟩ := ba q
  obtain ⟨qk4, q⟩ := ba q
  obtain ⟨qk5, q⟩ := ba q
  obtain ⟨qn, qm⟩ := ba q
  have ft : ∀ (i : Nat) {f : Fa}, factL[i]? = some f → f.ok K = true := fun i {f} e => List.all_eq_true.mp qf f (List.mem_of_getElem? e)
  have g_WhoError := glo_ok X G (ft 0 (f := .glo "WhoError") rfl)
  have g_BadCount := glo_ok X G (ft 1 (f := .glo "BadCount") rfl)
  have g_NoName := glo_ok X G (ft 2 (f := .glo "NoName") rfl)
  have g_Twice := glo_ok X G (ft 3 (f := .glo "Twice") rfl)
  have g_NoSort := glo_ok X G (ft 4 (f := .glo "NoSort") rfl)
  have g_Upward := glo_ok X G (ft 5 (f := .glo "Upward") rfl)
  have g_NoWord := glo_ok X G (ft 6 (f := .glo "NoWord") rfl)
  have g_NoVariable := glo_ok X G (ft 7 (f := .glo "NoVariable") rfl)
  have g_is_name := glo_ok X G (ft 8 (f := .glo "is_name") rfl)
  obtain ⟨fd_is_name, Fk_is_name⟩ := c.def_ 0 (d := d_is_name) rfl
  have Fk_is_name : FunD K "is_name" "is_name" (defArgs sName) (defBody sName) (defScope sName) [] [] (ga K "is_name") fd_is_name := Fk_is_name
  have F_is_name : Fun K "is_name" "is_name" sName (ga K "is_name") fd_is_name := fun_of Fk_is_name
  have D_is_name : Dn K mg "is_name" sName ["text"] (ga K "is_name") fd_is_name := ⟨F_is_name, g_is_name, F_is_name.binds (ps := ["text"]) fun _ _ _ _ _ _ us hl => match us, hl with | [_], _ => rfl⟩
  have g_refuse_no_name := glo_ok X G (ft 9 (f := .glo "refuse_no_name") rfl)
  obtain ⟨fd_refuse_no_name, Fk_refuse_no_name⟩ := c.def_ 1 (d := d_refuse_no_name) rfl
  have Fk_refuse_no_name : FunD K "refuse_no_name" "refuse_no_name" (defArgs sRN) (defBody sRN) (defScope sRN) [] [] (ga K "refuse_no_name") fd_refuse_no_name := Fk_refuse_no_name
  have F_refuse_no_name : Fun K "refuse_no_name" "refuse_no_name" sRN (ga K "refuse_no_name") fd_refuse_no_name := fun_of Fk_refuse_no_name
  have D_refuse_no_name : Dn K mg "refuse_no_name" sRN ["texts"] (ga K "refuse_no_name") fd_refuse_no_name := ⟨F_refuse_no_name, g_refuse_no_name, F_refuse_no_name.binds (ps := ["texts"]) fun _ _ _ _ _ _ us hl => match us, hl with | [_], _ => rfl⟩
  have g_first_twice := glo_ok X G (ft 10 (f := .glo "first_twice") rfl)
  obtain ⟨fd_first_twice, Fk_first_twice⟩ := c.def_ 2 (d := d_first_twice) rfl
  have Fk_first_twice : FunD K "first_twice" "first_twice" (defArgs sFT) (defBody sFT) (defScope sFT) [] [] (ga K "first_twice") fd_first_twice := Fk_first_twice
  have F_first_twice : Fun K "first_twice" "first_twice" sFT (ga K "first_twice") fd_first_twice := fun_of Fk_first_twice
  have D_first_twice : Dn K mg "first_twice" sFT ["row"] (ga K "first_twice") fd_first_twice := ⟨F_first_twice, g_first_twice, F_first_twice.binds (ps := ["row"]) fun _ _ _ _ _ _ us hl => match us, hl with | [_], _ => rfl⟩
  have g_refuse_twice := glo_ok X G (ft 11 (f := .glo "refuse_twice") rfl)
  obtain ⟨fd_refuse_twice, Fk_refuse_twice⟩ := c.def_ 3 (d := d_refuse_twice) rfl
  have Fk_refuse_twice : FunD K "refuse_twice" "refuse_twice" (defArgs sRT) (defBody sRT) (defScope sRT) [] [] (ga K "refuse_twice") fd_refuse_twice := Fk_refuse_twice
  have F_refuse_twice : Fun K "refuse_twice" "refuse_twice" sRT (ga K "refuse_twice") fd_refuse_twice := fun_of Fk_refuse_twice
  have D_refuse_twice : Dn K mg "refuse_twice" sRT ["names"] (ga K "refuse_twice") fd_refuse_twice := ⟨F_refuse_twice, g_refuse_twice, F_refuse_twice.binds (ps := ["names"]) fun _ _ _ _ _ _ us hl => match us, hl with | [_], _ => rfl⟩
  have g_refuse_count := glo_ok X G (ft 12 (f := .glo "refuse_count") rfl)
  obtain ⟨fd_refuse_count, Fk_refuse_count⟩ := c.def_ 4 (d := d_refuse_count) rfl
  have Fk_refuse_count : FunD K "refuse_count" "refuse_count" (defArgs sRC) (defBody sRC) (defScope sRC) [] [] (ga K "refuse_count") fd_refuse_count := Fk_refuse_count
  have F_refuse_count : Fun K "refuse_count" "refuse_count" sRC (ga K "refuse_count") fd_refuse_count := fun_of Fk_refuse_count
  have D_refuse_count : Dn K mg "refuse_count" sRC ["what", "count", "least", "most"] (ga K "refuse_count") fd_refuse_count := ⟨F_refuse_count, g_refuse_count, F_refuse_count.binds (ps := ["what", "count", "least", "most"]) fun _ _ _ _ _ _ us hl => match us, hl with | [_, _, _, _], _ => rfl⟩
  have g_own_list := glo_ok X G (ft 13 (f := .glo "own_list") rfl)
  obtain ⟨fd_own_list, Fk_own_list⟩ := c.def_ 5 (d := d_own_list) rfl
  have Fk_own_list : FunD K "own_list" "own_list" (defArgs sOL) (defBody sOL) (defScope sOL) [] [] (ga K "own_list") fd_own_list := Fk_own_list
  have F_own_list : Fun K "own_list" "own_list" sOL (ga K "own_list") fd_own_list := fun_of Fk_own_list
  have D_own_list : Dn K mg "own_list" sOL ["rows"] (ga K "own_list") fd_own_list := ⟨F_own_list, g_own_list, F_own_list.binds (ps := ["rows"]) fun _ _ _ _ _ _ us hl => match us, hl with | [_], _ => rfl⟩
  have g_refuse_makings_twice := glo_ok X G (ft 14 (f := .glo "refuse_makings_twice") rfl)
  obtain ⟨fd_refuse_makings_twice, Fk_refuse_makings_twice⟩ := c.def_ 6 (d := d_refuse_makings_twice) rfl
  have Fk_refuse_makings_twice : FunD K "refuse_makings_twice" "refuse_makings_twice" (defArgs sRMT) (defBody sRMT) (defScope sRMT) [] [] (ga K "refuse_makings_twice") fd_refuse_makings_twice := Fk_refuse_makings_twice
  have F_refuse_makings_twice : Fun K "refuse_makings_twice" "refuse_makings_twice" sRMT (ga K "refuse_makings_twice") fd_refuse_makings_twice := fun_of Fk_refuse_makings_twice
  have D_refuse_makings_twice : Dn K mg "refuse_makings_twice" sRMT ["makings"] (ga K "refuse_makings_twice") fd_refuse_makings_twice := ⟨F_refuse_makings_twice, g_refuse_makings_twice, F_refuse_makings_twice.binds (ps := ["makings"]) fun _ _ _ _ _ _ us hl => match us, hl with | [_], _ => rfl⟩
  have g_refuse_no_sort := glo_ok X G (ft 15 (f := .glo "refuse_no_sort") rfl)
  obtain ⟨fd_refuse_no_sort, Fk_refuse_no_sort⟩ := c.def_ 7 (d := d_refuse_no_sort) rfl
  have Fk_refuse_no_sort : FunD K "refuse_no_sort" "refuse_no_sort" (defArgs sRNS) (defBody sRNS) (defScope sRNS) [] [] (ga K "refuse_no_sort") fd_refuse_no_sort := Fk_refuse_no_sort
  have F_refuse_no_sort : Fun K "refuse_no_sort" "refuse_no_sort" sRNS (ga K "refuse_no_sort") fd_refuse_no_sort := fun_of Fk_refuse_no_sort
  have D_refuse_no_sort : Dn K mg "refuse_no_sort" sRNS ["sorts", "makings", "patterns"] (ga K "refuse_no_sort") fd_refuse_no_sort := ⟨F_refuse_no_sort, g_refuse_no_sort, F_refuse_no_sort.binds (ps := ["sorts", "makings", "patterns"]) fun _ _ _ _ _ _ us hl => match us, hl with | [_, _, _], _ => rfl⟩
  have g_refuse_upward := glo_ok X G (ft 16 (f := .glo "refuse_upward") rfl)
  obtain ⟨fd_refuse_upward, Fk_refuse_upward⟩ := c.def_ 8 (d := d_refuse_upward) rfl
  have Fk_refuse_upward : FunD K "refuse_upward" "refuse_upward" (defArgs sRU) (defBody sRU) (defScope sRU) [] [] (ga K "refuse_upward") fd_refuse_upward := Fk_refuse_upward
  have F_refuse_upward : Fun K "refuse_upward" "refuse_upward" sRU (ga K "refuse_upward") fd_refuse_upward := fun_of Fk_refuse_upward
  have D_refuse_upward : Dn K mg "refuse_upward" sRU ["sorts", "makings"] (ga K "refuse_upward") fd_refuse_upward := ⟨F_refuse_upward, g_refuse_upward, F_refuse_upward.binds (ps := ["sorts", "makings"]) fun _ _ _ _ _ _ us hl => match us, hl with | [_, _], _ => rfl⟩
  have g_refuse_no_word := glo_ok X G (ft 17 (f := .glo "refuse_no_word") rfl)
  obtain ⟨fd_refuse_no_word, Fk_refuse_no_word⟩ := c.def_ 9 (d := d_refuse_no_word) rfl
  have Fk_refuse_no_word : FunD K "refuse_no_word" "refuse_no_word" (defArgs sRNW) (defBody sRNW) (defScope sRNW) [] [] (ga K "refuse_no_word") fd_refuse_no_word := Fk_refuse_no_word
  have F_refuse_no_word : Fun K "refuse_no_word" "refuse_no_word" sRNW (ga K "refuse_no_word") fd_refuse_no_word := fun_of Fk_refuse_no_word
  have D_refuse_no_word : Dn K mg "refuse_no_word" sRNW ["words", "makings", "rules", "bars"] (ga K "refuse_no_word") fd_refuse_no_word := ⟨F_refuse_no_word, g_refuse_no_word, F_refuse_no_word.binds (ps := ["words", "makings", "rules", "bars"]) fun _ _ _ _ _ _ us hl => match us, hl with | [_, _, _, _], _ => rfl⟩
  have g_check_scheme := glo_ok X G (ft 18 (f := .glo "check_scheme") rfl)
  obtain ⟨fd_check_scheme, Fk_check_scheme⟩ := c.def_ 10 (d := d_check_scheme) rfl
  have Fk_check_scheme : FunD K "check_scheme" "check_scheme" (defArgs sCS) (defBody sCS) (defScope sCS) [] [] (ga K "check_scheme") fd_check_scheme := Fk_check_scheme
  have F_check_scheme : Fun K "check_scheme" "check_scheme" sCS (ga K "check_scheme") fd_check_scheme := fun_of Fk_check_scheme
  have D_check_scheme : Dn K mg "check_scheme" sCS ["sorts", "words", "makings", "rules", "bars"] (ga K "check_scheme") fd_check_scheme := ⟨F_check_scheme, g_check_scheme, F_check_scheme.binds (ps := ["sorts", "words", "makings", "rules", "bars"]) fun _ _ _ _ _ _ us hl => match us, hl with | [_, _, _, _, _], _ => rfl⟩
  have g_tuple_of_tuples := glo_ok X G (ft 19 (f := .glo "tuple_of_tuples") rfl)
  obtain ⟨fd_tuple_of_tuples, Fk_tuple_of_tuples⟩ := c.def_ 11 (d := d_tuple_of_tuples) rfl
  have Fk_tuple_of_tuples : FunD K "tuple_of_tuples" "tuple_of_tuples" (defArgs sTT) (defBody sTT) (defScope sTT) [] [] (ga K "tuple_of_tuples") fd_tuple_of_tuples := Fk_tuple_of_tuples
  have F_tuple_of_tuples : Fun K "tuple_of_tuples" "tuple_of_tuples" sTT (ga K "tuple_of_tuples") fd_tuple_of_tuples := fun_of Fk_tuple_of_tuples
  have D_tuple_of_tuples : Dn K mg "tuple_of_tuples" sTT ["rows"] (ga K "tuple_of_tuples") fd_tuple_of_tuples := ⟨F_tuple_of_tuples, g_tuple_of_tuples, F_tuple_of_tuples.binds (ps := ["rows"]) fun _ _ _ _ _ _ us hl => match us, hl with | [_], _ => rfl⟩
  have g_ends_of := glo_ok X G (ft 20 (f := .glo "ends_of") rfl)
  obtain ⟨fd_ends_of, Fk_ends_of⟩ := c.def_ 12 (d := d_ends_of) rfl
  have Fk_ends_of : FunD K "ends_of" "ends_of" (defArgs sEO) (defBody sEO) (defScope sEO) [] [] (ga K "ends_of") fd_ends_of := Fk_ends_of
  have F_ends_of : Fun K "ends_of" "ends_of" sEO (ga K "ends_of") fd_ends_of := fun_of Fk_ends_of
  have D_ends_of : Dn K mg "ends_of" sEO ["triples"] (ga K "ends_of") fd_ends_of := ⟨F_ends_of, g_ends_of, F_ends_of.binds (ps := ["triples"]) fun _ _ _ _ _ _ us hl => match us, hl with | [_], _ => rfl⟩
  have g_texts_of_pattern := glo_ok X G (ft 21 (f := .glo "texts_of_pattern") rfl)
  obtain ⟨fd_texts_of_pattern, Fk_texts_of_pattern⟩ := c.def_ 13 (d := d_texts_of_pattern) rfl
  have Fk_texts_of_pattern : FunD K "texts_of_pattern" "texts_of_pattern" (defArgs sTP) (defBody sTP) (defScope sTP) [] [] (ga K "texts_of_pattern") fd_texts_of_pattern := Fk_texts_of_pattern
  have F_texts_of_pattern : Fun K "texts_of_pattern" "texts_of_pattern" sTP (ga K "texts_of_pattern") fd_texts_of_pattern := fun_of Fk_texts_of_pattern
  have D_texts_of_pattern : Dn K mg "texts_of_pattern" sTP ["name", "variables", "triples"] (ga K "texts_of_pattern") fd_texts_of_pattern := ⟨F_texts_of_pattern, g_texts_of_pattern, F_texts_of_pattern.binds (ps := ["name", "variables", "triples"]) fun _ _ _ _ _ _ us hl => match us, hl with | [_, _, _], _ => rfl⟩
  have g_refuse_no_variable := glo_ok X G (ft 22 (f := .glo "refuse_no_variable") rfl)
  obtain ⟨fd_refuse_no_variable, Fk_refuse_no_variable⟩ := c.def_ 14 (d := d_refuse_no_variable) rfl
  have Fk_refuse_no_variable : FunD K "refuse_no_variable" "refuse_no_variable" (defArgs sRV) (defBody sRV) (defScope sRV) [] [] (ga K "refuse_no_variable") fd_refuse_no_variable := Fk_refuse_no_variable
  have F_refuse_no_variable : Fun K "refuse_no_variable" "refuse_no_variable" sRV (ga K "refuse_no_variable") fd_refuse_no_variable := fun_of Fk_refuse_no_variable
  have D_refuse_no_variable : Dn K mg "refuse_no_variable" sRV ["names", "texts"] (ga K "refuse_no_variable") fd_refuse_no_variable := ⟨F_refuse_no_variable, g_refuse_no_variable, F_refuse_no_variable.binds (ps := ["names", "texts"]) fun _ _ _ _ _ _ us hl => match us, hl with | [_, _], _ => rfl⟩
  have g_refuse_loose := glo_ok X G (ft 23 (f := .glo "refuse_loose") rfl)
  obtain ⟨fd_refuse_loose, Fk_refuse_loose⟩ := c.def_ 15 (d := d_refuse_loose) rfl
  have Fk_refuse_loose : FunD K "refuse_loose" "refuse_loose" (defArgs sRL) (defBody sRL) (defScope sRL) [] [] (ga K "refuse_loose") fd_refuse_loose := Fk_refuse_loose
  have F_refuse_loose : Fun K "refuse_loose" "refuse_loose" sRL (ga K "refuse_loose") fd_refuse_loose := fun_of Fk_refuse_loose
  have D_refuse_loose : Dn K mg "refuse_loose" sRL ["names", "conditions"] (ga K "refuse_loose") fd_refuse_loose := ⟨F_refuse_loose, g_refuse_loose, F_refuse_loose.binds (ps := ["names", "conditions"]) fun _ _ _ _ _ _ us hl => match us, hl with | [_, _], _ => rfl⟩
  have g_refuse_apart := glo_ok X G (ft 24 (f := .glo "refuse_apart") rfl)
  obtain ⟨fd_refuse_apart, Fk_refuse_apart⟩ := c.def_ 16 (d := d_refuse_apart) rfl
  have Fk_refuse_apart : FunD K "refuse_apart" "refuse_apart" (defArgs sRA) (defBody sRA) (defScope sRA) [] [] (ga K "refuse_apart") fd_refuse_apart := Fk_refuse_apart
  have F_refuse_apart : Fun K "refuse_apart" "refuse_apart" sRA (ga K "refuse_apart") fd_refuse_apart := fun_of Fk_refuse_apart
  have D_refuse_apart : Dn K mg "refuse_apart" sRA ["conditions"] (ga K "refuse_apart") fd_refuse_apart := ⟨F_refuse_apart, g_refuse_apart, F_refuse_apart.binds (ps := ["conditions"]) fun _ _ _ _ _ _ us hl => match us, hl with | [_], _ => rfl⟩
  have g_check_pattern := glo_ok X G (ft 25 (f := .glo "check_pattern") rfl)
  obtain ⟨fd_check_pattern, Fk_check_pattern⟩ := c.def_ 17 (d := d_check_pattern) rfl
  have Fk_check_pattern : FunD K "check_pattern" "check_pattern" (defArgs sCP) (defBody sCP) (defScope sCP) [] [] (ga K "check_pattern") fd_check_pattern := Fk_check_pattern
  have F_check_pattern : Fun K "check_pattern" "check_pattern" sCP (ga K "check_pattern") fd_check_pattern := fun_of Fk_check_pattern
  have D_check_pattern : Dn K mg "check_pattern" sCP ["name", "variables", "conditions", "given", "hands"] (ga K "check_pattern") fd_check_pattern := ⟨F_check_pattern, g_check_pattern, F_check_pattern.binds (ps := ["name", "variables", "conditions", "given", "hands"]) fun _ _ _ _ _ _ us hl => match us, hl with | [_, _, _, _, _], _ => rfl⟩
  have g__law_state := glo_ok X G (ft 26 (f := .glo "_law_state") rfl)
  obtain ⟨fd__law_state, Fk__law_state⟩ := c.def_ 18 (d := d__law_state) rfl
  have Fk__law_state : FunD K "_law_state" "_law_state" (defArgs sState) (defBody sState) (defScope sState) [] [] (ga K "_law_state") fd__law_state := Fk__law_state
  have F__law_state : Fun K "_law_state" "_law_state" sState (ga K "_law_state") fd__law_state := fun_of Fk__law_state
  have D__law_state : Dn K mg "_law_state" sState ["_law_cell"] (ga K "_law_state") fd__law_state := ⟨F__law_state, g__law_state, F__law_state.binds (ps := ["_law_cell"]) fun _ _ _ _ _ _ us hl => match us, hl with | [_], _ => rfl⟩
  have g__law_digit := glo_ok X G (ft 27 (f := .glo "_law_digit") rfl)
  obtain ⟨fd__law_digit, Fk__law_digit⟩ := c.def_ 19 (d := d__law_digit) rfl
  have Fk__law_digit : FunD K "_law_digit" "_law_digit" (defArgs sDigit) (defBody sDigit) (defScope sDigit) [] [] (ga K "_law_digit") fd__law_digit := Fk__law_digit
  have F__law_digit : Fun K "_law_digit" "_law_digit" sDigit (ga K "_law_digit") fd__law_digit := fun_of Fk__law_digit
  have D__law_digit : Dn K mg "_law_digit" sDigit ["_law_state_here", "_law_base"] (ga K "_law_digit") fd__law_digit := ⟨F__law_digit, g__law_digit, F__law_digit.binds (ps := ["_law_state_here", "_law_base"]) fun _ _ _ _ _ _ us hl => match us, hl with | [_, _], _ => rfl⟩
  have g__law_name := glo_ok X G (ft 28 (f := .glo "_law_name") rfl)
  obtain ⟨fd__law_name, Fk__law_name⟩ := c.def_ 20 (d := d__law_name) rfl
  have Fk__law_name : FunD K "_law_name" "_law_name" (defArgs sNam) (defBody sNam) (defScope sNam) [] [] (ga K "_law_name") fd__law_name := Fk__law_name
  have F__law_name : Fun K "_law_name" "_law_name" sNam (ga K "_law_name") fd__law_name := fun_of Fk__law_name
  have D__law_name : Dn K mg "_law_name" sNam ["_law_s", "_law_taken"] (ga K "_law_name") fd__law_name := ⟨F__law_name, g__law_name, F__law_name.binds (ps := ["_law_s", "_law_taken"]) fun _ _ _ _ _ _ us hl => match us, hl with | [_, _], _ => rfl⟩
  have g__law_names := glo_ok X G (ft 29 (f := .glo "_law_names") rfl)
  obtain ⟨fd__law_names, Fk__law_names⟩ := c.def_ 21 (d := d__law_names) rfl
  have Fk__law_names : FunD K "_law_names" "_law_names" (defArgs sNms) (defBody sNms) (defScope sNms) [] [] (ga K "_law_names") fd__law_names := Fk__law_names
  have F__law_names : Fun K "_law_names" "_law_names" sNms (ga K "_law_names") fd__law_names := fun_of Fk__law_names
  have D__law_names : Dn K mg "_law_names" sNms ["_law_s", "_law_many"] (ga K "_law_names") fd__law_names := ⟨F__law_names, g__law_names, F__law_names.binds (ps := ["_law_s", "_law_many"]) fun _ _ _ _ _ _ us hl => match us, hl with | [_, _], _ => rfl⟩
  have g__law_bad := glo_ok X G (ft 30 (f := .glo "_law_bad") rfl)
  obtain ⟨fd__law_bad, Fk__law_bad⟩ := c.def_ 22 (d := d__law_bad) rfl
  have Fk__law_bad : FunD K "_law_bad" "_law_bad" (defArgs sBad) (defBody sBad) (defScope sBad) [] [] (ga K "_law_bad") fd__law_bad := Fk__law_bad
  have F__law_bad : Fun K "_law_bad" "_law_bad" sBad (ga K "_law_bad") fd__law_bad := fun_of Fk__law_bad
  have D__law_bad : Dn K mg "_law_bad" sBad ["_law_s"] (ga K "_law_bad") fd__law_bad := ⟨F__law_bad, g__law_bad, F__law_bad.binds (ps := ["_law_s"]) fun _ _ _ _ _ _ us hl => match us, hl with | [_], _ => rfl⟩
  have g__law_row := glo_ok X G (ft 31 (f := .glo "_law_row") rfl)
  obtain ⟨fd__law_row, Fk__law_row⟩ := c.def_ 23 (d := d__law_row) rfl
  have Fk__law_row : FunD K "_law_row" "_law_row" (defArgs sRow) (defBody sRow) (defScope sRow) [] [] (ga K "_law_row") fd__law_row := Fk__law_row
  have F__law_row : Fun K "_law_row" "_law_row" sRow (ga K "_law_row") fd__law_row := fun_of Fk__law_row
  have D__law_row : Dn K mg "_law_row" sRow ["_law_s", "_law_spoils", "_law_least", "_law_most", "_law_twice_here", "_law_bad_here"] (ga K "_law_row") fd__law_row := ⟨F__law_row, g__law_row, F__law_row.binds (ps := ["_law_s", "_law_spoils", "_law_least", "_law_most", "_law_twice_here", "_law_bad_here"]) fun _ _ _ _ _ _ us hl => match us, hl with | [_, _, _, _, _, _], _ => rfl⟩
  have g__law_pick := glo_ok X G (ft 32 (f := .glo "_law_pick") rfl)
  obtain ⟨fd__law_pick, Fk__law_pick⟩ := c.def_ 24 (d := d__law_pick) rfl
  have Fk__law_pick : FunD K "_law_pick" "_law_pick" (defArgs sPik) (defBody sPik) (defScope sPik) [] [] (ga K "_law_pick") fd__law_pick := Fk__law_pick
  have F__law_pick : Fun K "_law_pick" "_law_pick" sPik (ga K "_law_pick") fd__law_pick := fun_of Fk__law_pick
  have D__law_pick : Dn K mg "_law_pick" sPik ["_law_s", "_law_some", "_law_strange"] (ga K "_law_pick") fd__law_pick := ⟨F__law_pick, g__law_pick, F__law_pick.binds (ps := ["_law_s", "_law_some", "_law_strange"]) fun _ _ _ _ _ _ us hl => match us, hl with | [_, _, _], _ => rfl⟩
  have g__law_makings := glo_ok X G (ft 33 (f := .glo "_law_makings") rfl)
  obtain ⟨fd__law_makings, Fk__law_makings⟩ := c.def_ 25 (d := d__law_makings) rfl
  have Fk__law_makings : FunD K "_law_makings" "_law_makings" (defArgs sMkg) (defBody sMkg) (defScope sMkg) [] [] (ga K "_law_makings") fd__law_makings := Fk__law_makings
  have F__law_makings : Fun K "_law_makings" "_law_makings" sMkg (ga K "_law_makings") fd__law_makings := fun_of Fk__law_makings
  have D__law_makings : Dn K mg "_law_makings" sMkg ["_law_s", "_law_spoils", "_law_sorts", "_law_words"] (ga K "_law_makings") fd__law_makings := ⟨F__law_makings, g__law_makings, F__law_makings.binds (ps := ["_law_s", "_law_spoils", "_law_sorts", "_law_words"]) fun _ _ _ _ _ _ us hl => match us, hl with | [_, _, _, _], _ => rfl⟩
  have g__law_patterns := glo_ok X G (ft 34 (f := .glo "_law_patterns") rfl)
  obtain ⟨fd__law_patterns, Fk__law_patterns⟩ := c.def_ 26 (d := d__law_patterns) rfl
  have Fk__law_patterns : FunD K "_law_patterns" "_law_patterns" (defArgs sPat) (defBody sPat) (defScope sPat) [] [] (ga K "_law_patterns") fd__law_patterns := Fk__law_patterns
  have F__law_patterns : Fun K "_law_patterns" "_law_patterns" sPat (ga K "_law_patterns") fd__law_patterns := fun_of Fk__law_patterns
  have D__law_patterns : Dn K mg "_law_patterns" sPat ["_law_s", "_law_spoils", "_law_sorts", "_law_words", "_law_most", "_law_twice_here"] (ga K "_law_patterns") fd__law_patterns := ⟨F__law_patterns, g__law_patterns, F__law_patterns.binds (ps := ["_law_s", "_law_spoils", "_law_sorts", "_law_words", "_law_most", "_law_twice_here"]) fun _ _ _ _ _ _ us hl => match us, hl with | [_, _, _, _, _, _], _ => rfl⟩
  have g__law_names_right := glo_ok X G (ft 35 (f := .glo "_law_names_right") rfl)
  obtain ⟨fd__law_names_right, Fk__law_names_right⟩ := c.def_ 27 (d := d__law_names_right) rfl
  have Fk__law_names_right : FunD K "_law_names_right" "_law_names_right" (defArgs sNrt) (defBody sNrt) (defScope sNrt) [] [] (ga K "_law_names_right") fd__law_names_right := Fk__law_names_right
  have F__law_names_right : Fun K "_law_names_right" "_law_names_right" sNrt (ga K "_law_names_right") fd__law_names_right := fun_of Fk__law_names_right
  have D__law_names_right : Dn K mg "_law_names_right" sNrt ["_law_texts"] (ga K "_law_names_right") fd__law_names_right := ⟨F__law_names_right, g__law_names_right, F__law_names_right.binds (ps := ["_law_texts"]) fun _ _ _ _ _ _ us hl => match us, hl with | [_], _ => rfl⟩
  have g__law_is_name := glo_ok X G (ft 36 (f := .glo "_law_is_name") rfl)
  obtain ⟨fd__law_is_name, Fk__law_is_name⟩ := c.def_ 28 (d := d__law_is_name) rfl
  have Fk__law_is_name : FunD K "_law_is_name" "_law_is_name" (defArgs sLName) (defBody sLName) (defScope sLName) [] [] (ga K "_law_is_name") fd__law_is_name := Fk__law_is_name
  have F__law_is_name : Fun K "_law_is_name" "_law_is_name" sLName (ga K "_law_is_name") fd__law_is_name := fun_of Fk__law_is_name
  have D__law_is_name : Dn K mg "_law_is_name" sLName ["_law_text"] (ga K "_law_is_name") fd__law_is_name := ⟨F__law_is_name, g__law_is_name, F__law_is_name.binds (ps := ["_law_text"]) fun _ _ _ _ _ _ us hl => match us, hl with | [_], _ => rfl⟩
  have g__law_twice := glo_ok X G (ft 37 (f := .glo "_law_twice") rfl)
  obtain ⟨fd__law_twice, Fk__law_twice⟩ := c.def_ 29 (d := d__law_twice) rfl
  have Fk__law_twice : FunD K "_law_twice" "_law_twice" (defArgs sTwi) (defBody sTwi) (defScope sTwi) [] [] (ga K "_law_twice") fd__law_twice := Fk__law_twice
  have F__law_twice : Fun K "_law_twice" "_law_twice" sTwi (ga K "_law_twice") fd__law_twice := fun_of Fk__law_twice
  have D__law_twice : Dn K mg "_law_twice" sTwi ["_law_names_here"] (ga K "_law_twice") fd__law_twice := ⟨F__law_twice, g__law_twice, F__law_twice.binds (ps := ["_law_names_here"]) fun _ _ _ _ _ _ us hl => match us, hl with | [_], _ => rfl⟩
  have g__law_due_counts := glo_ok X G (ft 38 (f := .glo "_law_due_counts") rfl)
  obtain ⟨fd__law_due_counts, Fk__law_due_counts⟩ := c.def_ 30 (d := d__law_due_counts) rfl
  have Fk__law_due_counts : FunD K "_law_due_counts" "_law_due_counts" (defArgs sDuc) (defBody sDuc) (defScope sDuc) [] [] (ga K "_law_due_counts") fd__law_due_counts := Fk__law_due_counts
  have F__law_due_counts : Fun K "_law_due_counts" "_law_due_counts" sDuc (ga K "_law_due_counts") fd__law_due_counts := fun_of Fk__law_due_counts
  have D__law_due_counts : Dn K mg "_law_due_counts" sDuc ["_law_m"] (ga K "_law_due_counts") fd__law_due_counts := ⟨F__law_due_counts, g__law_due_counts, F__law_due_counts.binds (ps := ["_law_m"]) fun _ _ _ _ _ _ us hl => match us, hl with | [_], _ => rfl⟩
  have g__law_due_parts := glo_ok X G (ft 39 (f := .glo "_law_due_parts") rfl)
  obtain ⟨fd__law_due_parts, Fk__law_due_parts⟩ := c.def_ 31 (d := d__law_due_parts) rfl
  have Fk__law_due_parts : FunD K "_law_due_parts" "_law_due_parts" (defArgs sDup) (defBody sDup) (defScope sDup) [] [] (ga K "_law_due_parts") fd__law_due_parts := Fk__law_due_parts
  have F__law_due_parts : Fun K "_law_due_parts" "_law_due_parts" sDup (ga K "_law_due_parts") fd__law_due_parts := fun_of Fk__law_due_parts
  have D__law_due_parts : Dn K mg "_law_due_parts" sDup ["_law_m"] (ga K "_law_due_parts") fd__law_due_parts := ⟨F__law_due_parts, g__law_due_parts, F__law_due_parts.binds (ps := ["_law_m"]) fun _ _ _ _ _ _ us hl => match us, hl with | [_], _ => rfl⟩
  have g__law_told := glo_ok X G (ft 40 (f := .glo "_law_told") rfl)
  obtain ⟨fd__law_told, Fk__law_told⟩ := c.def_ 32 (d := d__law_told) rfl
  have Fk__law_told : FunD K "_law_told" "_law_told" (defArgs sTld) (defBody sTld) (defScope sTld) [] [] (ga K "_law_told") fd__law_told := Fk__law_told
  have F__law_told : Fun K "_law_told" "_law_told" sTld (ga K "_law_told") fd__law_told := fun_of Fk__law_told
  have D__law_told : Dn K mg "_law_told" sTld ["_law_e"] (ga K "_law_told") fd__law_told := ⟨F__law_told, g__law_told, F__law_told.binds (ps := ["_law_e"]) fun _ _ _ _ _ _ us hl => match us, hl with | [_], _ => rfl⟩
  have g__law_found := glo_ok X G (ft 41 (f := .glo "_law_found") rfl)
  obtain ⟨fd__law_found, Fk__law_found⟩ := c.def_ 33 (d := d__law_found) rfl
  have Fk__law_found : FunD K "_law_found" "_law_found" (defArgs sFou) (defBody sFou) (defScope sFou) [] [] (ga K "_law_found") fd__law_found := Fk__law_found
  have F__law_found : Fun K "_law_found" "_law_found" sFou (ga K "_law_found") fd__law_found := fun_of Fk__law_found
  have D__law_found : Dn K mg "_law_found" sFou ["_law_m"] (ga K "_law_found") fd__law_found := ⟨F__law_found, g__law_found, F__law_found.binds (ps := ["_law_m"]) fun _ _ _ _ _ _ us hl => match us, hl with | [_], _ => rfl⟩
  have g_law := glo_ok X G (ft 42 (f := .glo "law") rfl)
  obtain ⟨fd_law, Fk_law⟩ := c.def_ 34 (d := d_law) rfl
  have Fk_law : FunD K "law" "law" (defArgs sLaw) (defBody sLaw) (defScope sLaw) [] [] (ga K "law") fd_law := Fk_law
  have F_law : Fun K "law" "law" sLaw (ga K "law") fd_law := fun_of Fk_law
  have FLb := FunD.bindsA (ps := ["_law_script"]) Fk_law fun _ _ _ _ _ _ us hl => match us, hl with | [_], _ => rfl
  have g_Scheme := glo_ok X G (ft 43 (f := .glo "Scheme") rfl)
  have cls_Scheme := cls_ok (ft 44 (f := .cls "Scheme") rfl)
  have na_Scheme_own_sorts := noat_ok (ft 45 (f := .noat "Scheme" "own_sorts") rfl)
  have na_Scheme_own_words := noat_ok (ft 46 (f := .noat "Scheme" "own_words") rfl)
  have na_Scheme_own_makings := noat_ok (ft 47 (f := .noat "Scheme" "own_makings") rfl)
  have na_Scheme_own_rules := noat_ok (ft 48 (f := .noat "Scheme" "own_rules") rfl)
  have na_Scheme_own_bars := noat_ok (ft 49 (f := .noat "Scheme" "own_bars") rfl)
  have mk_Scheme := mkr_ok (ft 50 (f := .mkr "Scheme") rfl)
  have g_Bar := glo_ok X G (ft 51 (f := .glo "Bar") rfl)
  have cls_Bar := cls_ok (ft 52 (f := .cls "Bar") rfl)
  have na_Bar_name := noat_ok (ft 53 (f := .noat "Bar" "name") rfl)
  have na_Bar_variables := noat_ok (ft 54 (f := .noat "Bar" "variables") rfl)
  have na_Bar_conditions := noat_ok (ft 55 (f := .noat "Bar" "conditions") rfl)
  have mk_Bar := mkr_ok (ft 56 (f := .mkr "Bar") rfl)
  have g_Rule := glo_ok X G (ft 57 (f := .glo "Rule") rfl)
  have cls_Rule := cls_ok (ft 58 (f := .cls "Rule") rfl)
  have na_Rule_name := noat_ok (ft 59 (f := .noat "Rule" "name") rfl)
  have na_Rule_variables := noat_ok (ft 60 (f := .noat "Rule" "variables") rfl)
  have na_Rule_conditions := noat_ok (ft 61 (f := .noat "Rule" "conditions") rfl)
  have na_Rule_gives := noat_ok (ft 62 (f := .noat "Rule" "gives") rfl)
  have na_Rule_by := noat_ok (ft 63 (f := .noat "Rule" "by") rfl)
  have mk_Rule := mkr_ok (ft 64 (f := .mkr "Rule") rfl)
  have g_Making := glo_ok X G (ft 65 (f := .glo "Making") rfl)
  have cls_Making := cls_ok (ft 66 (f := .cls "Making") rfl)
  have na_Making_maker := noat_ok (ft 67 (f := .noat "Making" "maker") rfl)
  have na_Making_made := noat_ok (ft 68 (f := .noat "Making" "made") rfl)
  have na_Making_down := noat_ok (ft 69 (f := .noat "Making" "down") rfl)
  have na_Making_up := noat_ok (ft 70 (f := .noat "Making" "up") rfl)
  have mk_Making := mkr_ok (ft 71 (f := .mkr "Making") rfl)
  obtain ⟨fd_BadCount___init__, Fk_BadCount___init__⟩ := c.def_ 35 (d := d_BadCount___init__) rfl
  have Fk_BadCount___init__ : FunD K "__init__" "BadCount.__init__" (defArgs sBC) (defBody sBC) (defScope sBC) [] [] (ma K (ga K "BadCount") "__init__") fd_BadCount___init__ := Fk_BadCount___init__
  have F_BadCount___init__ : Fun K "__init__" "BadCount.__init__" sBC (ma K (ga K "BadCount") "__init__") fd_BadCount___init__ := fun_of Fk_BadCount___init__
  have b_BadCount___init__ := F_BadCount___init__.binds (ps := ["self", "what", "count"]) fun _ _ _ _ _ _ us hl => match us, hl with | [_, _, _], _ => rfl
  obtain ⟨fd_NoName___init__, Fk_NoName___init__⟩ := c.def_ 36 (d := d_NoName___init__) rfl
  have Fk_NoName___init__ : FunD K "__init__" "NoName.__init__" (defArgs sN0) (defBody sN0) (defScope sN0) [] [] (ma K (ga K "NoName") "__init__") fd_NoName___init__ := Fk_NoName___init__
  have F_NoName___init__ : Fun K "__init__" "NoName.__init__" sN0 (ma K (ga K "NoName") "__init__") fd_NoName___init__ := fun_of Fk_NoName___init__
  have b_NoName___init__ := F_NoName___init__.binds (ps := ["self", "name"]) fun _ _ _ _ _ _ us hl => match us, hl with | [_, _], _ => rfl
  obtain ⟨fd_Twice___init__, Fk_Twice___init__⟩ := c.def_ 37 (d := d_Twice___init__) rfl
  have Fk_Twice___init__ : FunD K "__init__" "Twice.__init__" (defArgs sT0) (defBody sT0) (defScope sT0) [] [] (ma K (ga K "Twice") "__init__") fd_Twice___init__ := Fk_Twice___init__
  have F_Twice___init__ : Fun K "__init__" "Twice.__init__" sT0 (ma K (ga K "Twice") "__init__") fd_Twice___init__ := fun_of Fk_Twice___init__
  have b_Twice___init__ := F_Twice___init__.binds (ps := ["self", "name"]) fun _ _ _ _ _ _ us hl => match us, hl with | [_, _], _ => rfl
  obtain ⟨fd_NoSort___init__, Fk_NoSort___init__⟩ := c.def_ 38 (d := d_NoSort___init__) rfl
  have Fk_NoSort___init__ : FunD K "__init__" "NoSort.__init__" (defArgs sNS) (defBody sNS) (defScope sNS) [] [] (ma K (ga K "NoSort") "__init__") fd_NoSort___init__ := Fk_NoSort___init__
  have F_NoSort___init__ : Fun K "__init__" "NoSort.__init__" sNS (ma K (ga K "NoSort") "__init__") fd_NoSort___init__ := fun_of Fk_NoSort___init__
  have b_NoSort___init__ := F_NoSort___init__.binds (ps := ["self", "name"]) fun _ _ _ _ _ _ us hl => match us, hl with | [_, _], _ => rfl
  obtain ⟨fd_Upward___init__, Fk_Upward___init__⟩ := c.def_ 39 (d := d_Upward___init__) rfl
  have Fk_Upward___init__ : FunD K "__init__" "Upward.__init__" (defArgs sUp) (defBody sUp) (defScope sUp) [] [] (ma K (ga K "Upward") "__init__") fd_Upward___init__ := Fk_Upward___init__
  have F_Upward___init__ : Fun K "__init__" "Upward.__init__" sUp (ma K (ga K "Upward") "__init__") fd_Upward___init__ := fun_of Fk_Upward___init__
  have b_Upward___init__ := F_Upward___init__.binds (ps := ["self", "maker", "made"]) fun _ _ _ _ _ _ us hl => match us, hl with | [_, _, _], _ => rfl
  obtain ⟨fd_NoWord___init__, Fk_NoWord___init__⟩ := c.def_ 40 (d := d_NoWord___init__) rfl
  have Fk_NoWord___init__ : FunD K "__init__" "NoWord.__init__" (defArgs sNW) (defBody sNW) (defScope sNW) [] [] (ma K (ga K "NoWord") "__init__") fd_NoWord___init__ := Fk_NoWord___init__
  have F_NoWord___init__ : Fun K "__init__" "NoWord.__init__" sNW (ma K (ga K "NoWord") "__init__") fd_NoWord___init__ := fun_of Fk_NoWord___init__
  have b_NoWord___init__ := F_NoWord___init__.binds (ps := ["self", "name"]) fun _ _ _ _ _ _ us hl => match us, hl with | [_, _], _ => rfl
  obtain ⟨fd_Bar___init__, Fk_Bar___init__⟩ := c.def_ 41 (d := d_Bar___init__) rfl
  have Fk_Bar___init__ : FunD K "__init__" "Bar.__init__" (defArgs sBar) (defBody sBar) (defScope sBar) [] [] (ma K (ga K "Bar") "__init__") fd_Bar___init__ := Fk_Bar___init__
  have F_Bar___init__ : Fun K "__init__" "Bar.__init__" sBar (ma K (ga K "Bar") "__init__") fd_Bar___init__ := fun_of Fk_Bar___init__
  have b_Bar___init__ := F_Bar___init__.binds (ps := ["self", "name", "variables", "conditions"]) fun _ _ _ _ _ _ us hl => match us, hl with | [_, _, _, _], _ => rfl
  obtain ⟨fd_Rule___init__, Fk_Rule___init__⟩ := c.def_ 42 (d := d_Rule___init__) rfl
  have Fk_Rule___init__ : FunD K "__init__" "Rule.__init__" (defArgs sRul) (defBody sRul) (defScope sRul) [] [] (ma K (ga K "Rule") "__init__") fd_Rule___init__ := Fk_Rule___init__
  have F_Rule___init__ : Fun K "__init__" "Rule.__init__" sRul (ma K (ga K "Rule") "__init__") fd_Rule___init__ := fun_of Fk_Rule___init__
  have b_Rule___init__ := F_Rule___init__.binds (ps := ["self", "name", "variables", "conditions", "gives", "by"]) fun _ _ _ _ _ _ us hl => match us, hl with | [_, _, _, _, _, _], _ => rfl
  obtain ⟨fd_Making___init__, Fk_Making___init__⟩ := c.def_ 43 (d := d_Making___init__) rfl
  have Fk_Making___init__ : FunD K "__init__" "Making.__init__" (defArgs sMak) (defBody sMak) (defScope sMak) [] [] (ma K (ga K "Making") "__init__") fd_Making___init__ := Fk_Making___init__
  have F_Making___init__ : Fun K "__init__" "Making.__init__" sMak (ma K (ga K "Making") "__init__") fd_Making___init__ := fun_of Fk_Making___init__
  have b_Making___init__ := F_Making___init__.binds (ps := ["self", "maker", "made", "down", "up"]) fun _ _ _ _ _ _ us hl => match us, hl with | [_, _, _, _, _], _ => rfl
  have m_Scheme_sorts := meth_ok (ft 72 (f := .meth "Scheme" "sorts") rfl)
  obtain ⟨fd_Scheme_sorts, Fk_Scheme_sorts⟩ := c.def_ 44 (d := d_Scheme_sorts) rfl
  have Fk_Scheme_sorts : FunD K "sorts" "Scheme.sorts" (defArgs sSor) (defBody sSor) (defScope sSor) [] [] (ma K (ga K "Scheme") "sorts") fd_Scheme_sorts := Fk_Scheme_sorts
  have F_Scheme_sorts : Fun K "sorts" "Scheme.sorts" sSor (ma K (ga K "Scheme") "sorts") fd_Scheme_sorts := fun_of Fk_Scheme_sorts
  have b_Scheme_sorts := F_Scheme_sorts.binds (ps := ["self"]) fun _ _ _ _ _ _ us hl => match us, hl with | [_], _ => rfl
  have m_Scheme_words := meth_ok (ft 73 (f := .meth "Scheme" "words") rfl)
  obtain ⟨fd_Scheme_words, Fk_Scheme_words⟩ := c.def_ 45 (d := d_Scheme_words) rfl
  have Fk_Scheme_words : FunD K "words" "Scheme.words" (defArgs sWor) (defBody sWor) (defScope sWor) [] [] (ma K (ga K "Scheme") "words") fd_Scheme_words := Fk_Scheme_words
  have F_Scheme_words : Fun K "words" "Scheme.words" sWor (ma K (ga K "Scheme") "words") fd_Scheme_words := fun_of Fk_Scheme_words
  have b_Scheme_words := F_Scheme_words.binds (ps := ["self"]) fun _ _ _ _ _ _ us hl => match us, hl with | [_], _ => rfl
  have m_Scheme_makings := meth_ok (ft 74 (f := .meth "Scheme" "makings") rfl)
  obtain ⟨fd_Scheme_makings, Fk_Scheme_makings⟩ := c.def_ 46 (d := d_Scheme_makings) rfl
  have Fk_Scheme_makings : FunD K "makings" "Scheme.makings" (defArgs sSMk) (defBody sSMk) (defScope sSMk) [] [] (ma K (ga K "Scheme") "makings") fd_Scheme_makings := Fk_Scheme_makings
  have F_Scheme_makings : Fun K "makings" "Scheme.makings" sSMk (ma K (ga K "Scheme") "makings") fd_Scheme_makings := fun_of Fk_Scheme_makings
  have b_Scheme_makings := F_Scheme_makings.binds (ps := ["self"]) fun _ _ _ _ _ _ us hl => match us, hl with | [_], _ => rfl
  have m_Scheme_rules := meth_ok (ft 75 (f := .meth "Scheme" "rules") rfl)
  obtain ⟨fd_Scheme_rules, Fk_Scheme_rules⟩ := c.def_ 47 (d := d_Scheme_rules) rfl
  have Fk_Scheme_rules : FunD K "rules" "Scheme.rules" (defArgs sSRu) (defBody sSRu) (defScope sSRu) [] [] (ma K (ga K "Scheme") "rules") fd_Scheme_rules := Fk_Scheme_rules
  have F_Scheme_rules : Fun K "rules" "Scheme.rules" sSRu (ma K (ga K "Scheme") "rules") fd_Scheme_rules := fun_of Fk_Scheme_rules
  have b_Scheme_rules := F_Scheme_rules.binds (ps := ["self"]) fun _ _ _ _ _ _ us hl => match us, hl with | [_], _ => rfl
  have m_Scheme_bars := meth_ok (ft 76 (f := .meth "Scheme" "bars") rfl)
  obtain ⟨fd_Scheme_bars, Fk_Scheme_bars⟩ := c.def_ 48 (d := d_Scheme_bars) rfl
  have Fk_Scheme_bars : FunD K "bars" "Scheme.bars" (defArgs sSBa) (defBody sSBa) (defScope sSBa) [] [] (ma K (ga K "Scheme") "bars") fd_Scheme_bars := Fk_Scheme_bars
  have F_Scheme_bars : Fun K "bars" "Scheme.bars" sSBa (ma K (ga K "Scheme") "bars") fd_Scheme_bars := fun_of Fk_Scheme_bars
  have b_Scheme_bars := F_Scheme_bars.binds (ps := ["self"]) fun _ _ _ _ _ _ us hl => match us, hl with | [_], _ => rfl
  have t_abs := free_ok X G (ft 77 (f := .free "abs") rfl)
  have t_int := free_ok X G (ft 78 (f := .free "int") rfl)
  have t_len := free_ok X G (ft 79 (f := .free "len") rfl)
  have t_range := free_ok X G (ft 80 (f := .free "range") rfl)
  have t_all := free_ok X G (ft 81 (f := .free "all") rfl)
  have t_tuple := free_ok X G (ft 82 (f := .free "tuple") rfl)
  have t_enumerate := free_ok X G (ft 83 (f := .free "enumerate") rfl)
  have t_isinstance := free_ok X G (ft 84 (f := .free "isinstance") rfl)
  have t_ValueError := free_ok X G (ft 85 (f := .free "ValueError") rfl)
  have t_list := free_ok X G (ft 86 (f := .free "list") rfl)
  have t_str := free_ok X G (ft 87 (f := .free "str") rfl)
  have t_max := free_ok X G (ft 88 (f := .free "max") rfl)
  have t_sum := free_ok X G (ft 89 (f := .free "sum") rfl)
  have e := hfa.symm.trans g_law
  cases e
  have T : TxB mg := ⟨t_abs, t_int, t_len, t_range, t_all, t_tuple, t_enumerate, t_isinstance, t_ValueError⟩
  have TN : TxN mg := ⟨str_ok X G (ft 90 rfl), str_ok X G (ft 91 rfl), int_ok X G (ft 92 rfl)⟩
  have TS : TxS mg := ⟨int_ok X G (ft 93 rfl), int_ok X G (ft 94 rfl), int_ok X G (ft 95 rfl), int_ok X G (ft 96 rfl)⟩
  have TP : TxP mg := ⟨int_ok X G (ft 97 rfl), int_ok X G (ft 98 rfl)⟩
  obtain ⟨dW0, FW⟩ := c.def_ 49 (d := dWho) rfl
  have FW : FunD K "__init__" "WhoError.__init__" (defArgs sW0) (defBody sW0) (defScope sW0) [.str (PySem.Str.ofString "whoerror")] [] (ma K (ga K "WhoError") "__init__") dW0 := FW
  obtain ⟨ds, hds, bW⟩ := FW.binds1 (ps := ["self", "kind"]) 2 1 (by simp) (by rfl) (fun T kV doc pm an cdv ct us its hu hi => match us, hu, its, hi with | [_, _], _, [_], _ => ⟨_, rfl, rfl⟩)
  cases hds
  have ww := whoB_ok qw
  have TW : WhoT K mg (ga K "WhoError") (ma K (ga K "WhoError") "__init__") dW0 := ⟨g_WhoError, ww.1, ww.2, FW.kp, bW⟩
  have E0 := errB_ok (x := "BadCount") qe0 g_BadCount
  have E1 := errB_ok (x := "NoName") qe1 g_NoName
  have E2 := errB_ok (x := "Twice") qe2 g_Twice
  have E3 := errB_ok (x := "NoSort") qe3 g_NoSort
  have E4 := errB_ok (x := "Upward") qe4 g_Upward
  have E5 := errB_ok (x := "NoWord") qe5 g_NoWord
  have TE : TxE K mg (clsC K) (ga K "WhoError") := ⟨g_BadCount, g_NoName, g_Twice, g_NoSort, g_Upward, g_NoWord, g_NoVariable, g_WhoError, fun i hi => match i, hi with
    | 0, _ => kitB_ok (C := clsC K) qk0 E0.2.2.1
    | 1, _ => kitB_ok (C := clsC K) qk1 E1.2.2.1
    | 2, _ => kitB_ok (C := clsC K) qk2 E2.2.2.1
    | 3, _ => kitB_ok (C := clsC K) qk3 E3.2.2.1
    | 4, _ => kitB_ok (C := clsC K) qk4 E4.2.2.1
    | 5, _ => kitB_ok (C := clsC K) qk5 E5.2.2.1
    | n + 6, hi => absurd hi (by omega), fun i hi => match i, hi with
    | 0, _ => E0.2.1
    | 1, _ => E1.2.1
    | 2, _ => E2.2.1
    | 3, _ => E3.2.1
    | 4, _ => E4.2.1
    | 5, _ => E5.2.1
    | n + 6, hi => absurd hi (by omega), E0.1.nf, eqO_ok qn, E1.1.nf, E2.1.nf, E3.1.nf, E4.1.nf, eqO_ok qm, E5.1.nf⟩
  have TC : TxSch K mg (ga K "Scheme") (ma K (ga K "Scheme") "__init__") := ⟨cls_Scheme, na_Scheme_own_sorts, na_Scheme_own_words, na_Scheme_own_makings, na_Scheme_own_rules, na_Scheme_own_bars, g_Scheme, mk_Scheme⟩
  have TB : TxBar K mg (ga K "Bar") (ma K (ga K "Bar") "__init__") := ⟨cls_Bar, na_Bar_name, na_Bar_variables, na_Bar_conditions, g_Bar, mk_Bar⟩
  have TR : TxRul K mg (ga K "Rule") (ma K (ga K "Rule") "__init__") := ⟨cls_Rule, na_Rule_name, na_Rule_variables, na_Rule_conditions, na_Rule_gives, na_Rule_by, g_Rule, mk_Rule⟩
  have TM : TxMak K mg (ga K "Making") (ma K (ga K "Making") "__init__") := ⟨cls_Making, na_Making_maker, na_Making_made, na_Making_down, na_Making_up, g_Making, mk_Making⟩
  obtain ⟨dSi, FSi⟩ := c.def_ 50 (d := dSch) rfl
  have FSi : FunD K "__init__" "Scheme.__init__" (defArgs sSch) (defBody sSch) (defScope sSch) [.non, .non, .non] [] (ma K (ga K "Scheme") "__init__") dSi := FSi
  obtain ⟨dss, hdss, bSi⟩ := FSi.binds1 (ps := ["self", "sorts", "words", "makings", "rules", "bars"]) 6 3 (by simp) (by rfl) (fun T kV doc pm an cdv ct us its hu hi => match us, hu, its, hi with | [_, _, _, _, _, _], _, [_, _, _], _ => ⟨_, rfl, rfl⟩)
  cases hdss
  refine ⟨_, fun s v => FLb s [v] rfl, fun base _ _ => ?_⟩
  have GW : FnOk P w K mg base CX0 1 _ dW0 ["self", "kind"] (spWI K) := ok_who FW
  have GI0 : FnOk P w K mg base CX0 2 _ _ ["self", "what", "count"] (spEC (ga K "BadCount")) := ok_badcount F_BadCount___init__ E0.1 (eqO_ok qn) TW GW
  have GI1 : FnOk P w K mg base CX0 2 _ _ ["self", "name"] (spE1 (ga K "NoName") "name" "noname") := ok_noname F_NoName___init__ E1.1 TW GW
  have GI2 : FnOk P w K mg base CX0 2 _ _ ["self", "name"] (spE1 (ga K "Twice") "name" "twice") := ok_twice F_Twice___init__ E2.1 TW GW
  have GI3 : FnOk P w K mg base CX0 2 _ _ ["self", "name"] (spE1 (ga K "NoSort") "name" "nosort") := ok_nosort F_NoSort___init__ E3.1 TW GW
  have GI4 : FnOk P w K mg base CX0 2 _ _ ["self", "maker", "made"] (spEU (ga K "Upward")) := ok_upw F_Upward___init__ E4.1 (eqO_ok qm) TW GW
  have GI5 : FnOk P w K mg base CX0 2 _ _ ["self", "name"] (spE1 (ga K "NoWord") "name" "noword") := ok_noword F_NoWord___init__ E5.1 TW GW
  have GIs : FnOk P w K mg base CX0 1 _ _ ["text"] spName := ok_name F_is_name T TN
  have GRN0 : FnOk P w K mg base (L2.CX P w) 4 _ _ ["texts"] (spRN K (clsC K 1)) := ok_rn F_refuse_no_name D_is_name GIs E1.1 b_NoName___init__ GI1
  have GRT0 : FnOk P w K mg base CX0 2 _ _ ["names"] (spFT K) := ok_rt F_refuse_twice T D_first_twice
  have GCP : FnOk P w K mg base (L2.CX P w) 5 _ _ ["name", "variables", "conditions", "given", "hands"] (spCP K (clsC K 1)) := ok_cp F_check_pattern T TP D_refuse_count D_refuse_no_name D_texts_of_pattern D_refuse_twice D_refuse_no_variable D_ends_of D_refuse_loose D_refuse_apart GRN0 GRT0
  have GB : FnOk P w K mg base (L2.CX P w) 6 _ _ ["self", "name", "variables", "conditions"] (spBar K (clsC K 1) (ga K "Bar")) := ok_bar F_Bar___init__ T TB D_tuple_of_tuples D_check_pattern GCP
  have GR : FnOk P w K mg base (L2.CX P w) 6 _ _ ["self", "name", "variables", "conditions", "gives", "by"] (spRul K (clsC K 1) (ga K "Rule")) := ok_rul F_Rule___init__ T TR D_tuple_of_tuples D_check_pattern GCP
  have GM : FnOk P w K mg base (L2.CX P w) 5 _ _ ["self", "maker", "made", "down", "up"] (spMak K (clsC K 1) (ga K "Making")) := ok_mak F_Making___init__ T TM D_refuse_no_name D_refuse_twice GRN0 GRT0
  have GRC : FnOk P w K mg base (L2N.CX P w) 4 _ _ ["what", "count", "least", "most"] (spRC2 (clsC K)) := ok_rc2 F_refuse_count E0.1 b_BadCount___init__ GI0
  have GRN : FnOk P w K mg base (L2N.CX P w) 4 _ _ ["texts"] (spRN2 K (clsC K)) := ok_rn2 F_refuse_no_name D_is_name GIs E1.1 b_NoName___init__ GI1
  have GRT : FnOk P w K mg base (L2N.CX P w) 4 _ _ ["names"] (spRT2 K (clsC K)) := ok_rt2 F_refuse_twice T D_first_twice E2.1 b_Twice___init__ GI2
  have GRM : FnOk P w K mg base (L2N.CX P w) 4 _ _ ["makings"] (spRM2 K (clsC K) (ga K "Making")) := ok_rm2 F_refuse_makings_twice T TM D_first_twice E2.1 b_Twice___init__ GI2
  have GNS : FnOk P w K mg base (L2N.CX P w) 4 _ _ ["sorts", "makings", "patterns"] (spNS2 K (clsC K) (ga K "Making")) := ok_ns2 F_refuse_no_sort TM E3.1 b_NoSort___init__ GI3
  have GRU : FnOk P w K mg base (L2N.CX P w) 4 _ _ ["sorts", "makings"] (spRU2 K (clsC K) (ga K "Making")) := ok_ru2 F_refuse_upward TM E4.1 b_Upward___init__ GI4
  have GNW : FnOk P w K mg base (L2N.CX P w) 4 _ _ ["words", "makings", "rules", "bars"] (spNW2 K (clsC K) (ga K "Making") (ga K "Rule") (ga K "Bar")) := ok_nw2 F_refuse_no_word TM TR TB E5.1 b_NoWord___init__ GI5
  have GCS : FnOk P w K mg base (L2N.CX P w) 5 _ _ ["sorts", "words", "makings", "rules", "bars"] (spCS2 K (clsC K) (ga K "Making") (ga K "Rule") (ga K "Bar")) := ok_cs2 F_check_scheme T TS TM TR TB ⟨D_refuse_count, D_refuse_no_name, D_refuse_twice, D_refuse_makings_twice, D_refuse_no_sort, D_refuse_upward, D_refuse_no_word, GRC, GRN, GRT, GRM, GNS, GRU, GNW⟩
  have GS : FnOk P w K mg base (L2N.CX P w) 6 _ dSi ["self", "sorts", "words", "makings", "rules", "bars"] (spSch K (clsC K) (ga K "Scheme") (ga K "Making") (ga K "Rule") (ga K "Bar")) := ok_sch FSi t_list TC D_own_list D_check_scheme GCS
  have GNm : FnOk P w K mg base CX0 2 _ _ ["_law_s", "_law_taken"] spNam := ok_nam F__law_name T t_str D__law_digit
  have GN : FnOk P w K mg base CX0 3 _ _ ["_law_s", "_law_many"] spNms := ok_nms F__law_names T D__law_name GNm
  have GRw : FnOk P w K mg base CX0 4 _ _ ["_law_s", "_law_spoils", "_law_least", "_law_most", "_law_twice_here", "_law_bad_here"] spRow := ok_row F__law_row T D__law_digit D__law_names GN D__law_bad
  have GNr : FnOk P w K mg base CX0 2 _ _ ["_law_texts"] spNr := ok_nrt F__law_names_right T D__law_is_name
  have GMk : FnOk P w K mg base CX0 3 _ _ ["_law_s", "_law_spoils", "_law_sorts", "_law_words"] spMkg := ok_mkg F__law_makings T t_max D__law_digit D__law_pick D__law_names_right GNr
  have GPa : FnOk P w K mg base CX0 4 _ _ ["_law_s", "_law_spoils", "_law_sorts", "_law_words", "_law_most", "_law_twice_here"] spPat := ok_pat F__law_patterns T D__law_digit D__law_names GN D__law_pick D__law_names_right GNr
  have GDc : FnOk P w K mg base CX0 2 _ _ ["_law_m"] spDuc := ok_duc F__law_due_counts T D__law_is_name D__law_twice D__law_due_parts
  have GTl : FnEN P w K mg base 1 _ _ ["_law_e"] (spTld (clsC K)) := ok_tld F__law_told T t_sum TE
  have GFo : FnOk P w K mg base CX0 8 _ _ ["_law_m"] spFou := ok_fou F__law_found T t_list TE D__law_told GTl TM b_Making___init__ GM TR b_Rule___init__ GR TB b_Bar___init__ GB TC bSi GS m_Scheme_sorts b_Scheme_sorts (ok_sor F_Scheme_sorts t_list TC) m_Scheme_words b_Scheme_words (ok_wor F_Scheme_words t_list TC) m_Scheme_makings b_Scheme_makings (ok_smk F_Scheme_makings t_list TC) m_Scheme_rules b_Scheme_rules (ok_sru F_Scheme_rules t_list TC) m_Scheme_bars b_Scheme_bars (ok_sba F_Scheme_bars t_list TC)
  exact ok_law F_law T D__law_state D__law_digit D__law_row GRw D__law_makings GMk D__law_patterns GPa D__law_due_counts GDc D__law_found GFo
end Wm

open PySem PySem.W PySem.Calls PyProof.Rows
set_option maxRecDepth 100000 in
set_option maxHeartbeats 0 in
theorem PySem.Challenge.cw_whomay_k05_schemes_refused_holds : PySem.Challenge.rw_whomay_k05_schemes_refused.Holds := by
  w_on; o_law
  refine HandSHeadRun.head_any (r := OpenLaw.row PySem.Challenge.rw_whomay_k05_schemes_refused) (q := view (OpenLaw.row PySem.Challenge.rw_whomay_k05_schemes_refused).prog [70]) (H := Wm.hkW) (ob := Wm.obW) (M := 20000) (loose := Wm.loW) (d := HandSHeadRun.topDef (OpenLaw.row PySem.Challenge.rw_whomay_k05_schemes_refused).prog 70) (kwd := []) Wm.obW_eq
    (by kernel_rfl) (fun s => by kernel_rfl) Wm.runW (by kernel_rfl) (by kernel_rfl) (by kernel_rfl) (by rfl) (by first | assumption | decide +kernel) (by decide +kernel) ⟨rfl, rfl, rfl, rfl, rfl, by decide +kernel⟩ ?hw ?hc
  case hw => w_witness2
  case hc =>
    refine L2.walk_ofE (l := PySem.Challenge.rw_whomay_k05_schemes_refused) (n := 63) (k := 9) (x := "_law_script") (CX := L2.CX0) rfl (by decide) (by kernel_rfl) ⟨rfl, by decide, by decide⟩ ?F (fun _ _ _ _ z => z)
    intro w mg fa h Y G hmg0
    obtain ⟨K, KX, c⟩ := Y
    have hmg : mg ("law" : PySem.Str) = some (.ref fa) := by
      have e : (HandSHeadRun.topDef (OpenLaw.row PySem.Challenge.rw_whomay_k05_schemes_refused).prog 70).name = ("law" : PySem.Str) := by kernel_rfl
      rw [← e]
      exact hmg0
    obtain ⟨fd, hb, hF⟩ := Wm.facts (P := (PySem.Challenge.rw_whomay_k05_schemes_refused).prog) (w := w) KX G hmg c
    exact ⟨K, fd, Wm.spLaw K, KX, hb, fun H a ns hl _ hS => ⟨a, ns, rfl, hS, hl, fun _ => rfl⟩, hF⟩
