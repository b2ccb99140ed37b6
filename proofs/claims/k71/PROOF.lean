import PyProof.Rows.All
import Wide.All
import OpenK.AllK
import Wide.FinOn
import HandS.ForMost
import HandS.ForExc
import HandS.Walk
import HandS.Star
import HandS.Style
import HandS.TupAny
import HandS.ExcInit
import HandS.ExcIs
import HandS.ExcField
import HandS.Defaults
import HandS.Wide
import HandS.ClsMeth
import KE.KExcIs
import KE.GoesEnum
import HandS.FStr
import KE.KCallOwn
import HandS.OwnEq
import HandS.IsInst
import HandS.SetFor
import PyProof.EqKinds
import HandS.ExcOwn
import HandS.TryOnly
import HandS.MakeKwOnly
import HandS.MakeKw
import PyProof.NeKinds
import PyProof.EqAt
import HandS.Words
import HandS.WordsExc
import KE.KStateDown
import HandS.Head0
import HandS.Head1
import HandS.Head2
import HandS.HeadEnd
import HandS.HeadHook1
import HandS.HeadHook2
import PySem.Challenge.RW_whomay_k71_rows_of_sorts
set_option Elab.async false
set_option linter.all false
set_option maxRecDepth 100000
set_option maxHeartbeats 4000000
namespace Wm
open PySem L2
def top (i : Nat) : Stmt := PySem.Challenge.pw_whomay_k71_rows_of_sorts.main.body.getD i (.Pass ⟨0, 0, 0, 0⟩)
abbrev sWel : Stmt := top 54
abbrev sDrw : Stmt := top 55
abbrev sW0 : Stmt := inClass (top 2) 0
abbrev sN0 : Stmt := inClass (top 3) 0
abbrev sName : Stmt := top 18
abbrev sRN : Stmt := top 19
abbrev sFT : Stmt := top 20
abbrev sRT : Stmt := top 21
abbrev sRC : Stmt := top 22
abbrev sTT : Stmt := top 41
abbrev sEO : Stmt := top 42
abbrev sTP : Stmt := top 43
abbrev sRV : Stmt := top 44
abbrev sRL : Stmt := top 45
abbrev sRA : Stmt := top 46
abbrev sCP : Stmt := top 47
abbrev sRul : Stmt := inClass (top 51) 0
abbrev sRE : Stmt := inClass (top 51) 1
abbrev sBE : Stmt := inClass (top 9999) 1
abbrev sPck : Stmt := top 56
abbrev sNam : Stmt := top 57
abbrev sNms : Stmt := top 58
abbrev sAny : Stmt := top 59
abbrev sOL : Stmt := top 28
abbrev sRMT : Stmt := top 29
abbrev sRNS : Stmt := top 30
abbrev sRU : Stmt := top 31
abbrev sRNW : Stmt := top 32
abbrev sCS : Stmt := top 33
abbrev sSch : Stmt := inClass (top 34) 0
abbrev sSor : Stmt := inClass (top 34) 1
abbrev sWor : Stmt := inClass (top 34) 2
abbrev sNS : Stmt := inClass (top 9) 0
abbrev sNW : Stmt := inClass (top 11) 0
abbrev sRSR : Stmt := top 36
abbrev sSrw : Stmt := top 37
abbrev sMdR : Stmt := top 60
abbrev sDue : Stmt := top 61
abbrev sSai : Stmt := top 62
abbrev sCel : Stmt := top 53
abbrev sLaw : Stmt := top 63
end Wm
/-! a head by one run: what is asked of the written part is one Bool of one's own -/
namespace Wm
open PySem PySem.Spec PyProof.Rows L2 He ClX
def obsM (ck : PySem.W.Frag → Bool) (fn : List DefD) (K : PySem.W.Frag) : AlD := (ck K && fn.all fun d => d.ok K, fn.map fun d => fnW K d.at_)
def SaysM (ck : PySem.W.Frag → Bool) (fn : List DefD) (K : PySem.W.Frag) : Prop := obsM ck fn K = valD fn
/-- what the module's names, and what the C code keeps, reach in n steps -/
def asM (g : Addr → Option Obj) : Nat → List Addr
  | 0 => [mainGlobals, cStatics]
  | n + 1 => growD g (asM g n)
def obsMG (n : Nat) (ck : PySem.W.Frag → Bool) (fn : List DefD) (g : Addr → Option Obj) : AlD := obsM ck fn (frG g (asM g n))
def hookM (n : Nat) (ck : PySem.W.Frag → Bool) (fn : List DefD) : PySem.W.Hook where
  α := AlD
  obs := fun s => obsMG n ck fn s.heap.get?
  val := fun _ => valD fn
  says := fun _ h => ∃ K : PySem.W.Frag, K.In h ∧ SaysM ck fn K
  of := fun _ _ e => ⟨_, frG_in, e⟩
  keeps := fun _ _ _ ⟨K, hK, c⟩ k => ⟨K, PySem.W.Frag.In.keeps hK k, c⟩
theorem obsMG_eq {n : Nat} {ck : PySem.W.Frag → Bool} {fn : List DefD} {g : Addr → Option Obj} {s : Shared} (h : ∀ a, g a = s.heap.get? a) : obsMG n ck fn g = (hookM n ck fn).obs s := by
  have e : g = s.heap.get? := funext h
  rw [e] <;> rfl
section
variable {ck : PySem.W.Frag → Bool} {fn : List DefD} {K : PySem.W.Frag}
theorem SaysM.says (c : SaysM ck fn K) : ck K = true := (ba (show (ck K && fn.all fun d => d.ok K) = true from congrArg (fun z : AlD => z.1) c)).1
theorem SaysM.def_ (c : SaysM ck fn K) (i : Nat) {d : DefD} (h : fn[i]? = some d := by rfl) : ∃ fd, FunD K d.name d.qual d.params d.body d.scope (d.dvs K) (d.kws K) (fAd K d.at_) fd := by
  have c2 := (ba (show (ck K && fn.all fun d => d.ok K) = true from congrArg (fun z : AlD => z.1) c)).2
  have e : fn.map (fun d => fnW K d.at_) = fn.map DefD.val := congrArg (fun z : AlD => z.2) c
  have e2 : (fn.map fun d => fnW K d.at_)[i]? = (fn.map DefD.val)[i]? := by rw [e]
  rw [List.getElem?_map, List.getElem?_map, h] at e2
  exact DefD.funD (Option.some.inj e2) (List.all_eq_true.mp c2 d (List.mem_of_getElem? h))
end
/-- a def without defaults -/
theorem fun_of {K : PySem.W.Frag} {x q : Str} {st : Stmt} {f : Addr} {fd : FuncData} (F : FunD K x q (defArgs st) (defBody st) (defScope st) [] [] f fd) : Fun K x q st f fd := by
  obtain ⟨oc, od, dV, kV, doc, pm, an, cdv, ct, osl, rfl, l, c, d, _⟩ := F.ex
  have e : dV = .none := by
    rcases d with ⟨_, e⟩ | ⟨n, _⟩
    · exact e
    · exact absurd rfl n
  subst e
  exact ⟨⟨oc, od, kV, doc, pm, an, cdv, ct, osl, rfl, l, c⟩, F.kp⟩
/-- an error class whose objects are made by an __init__ of its own -/
def excB (K : PySem.W.Frag) (C : Addr) : Bool := match K.lookup C with
  | some ⟨.type "type", _, .cls cd, sl⟩ => (match cd.mro, sl.toList with
    | .ref C' :: bm, [_, _, _, _, some (.builtin n), _] => C' == C && (n == "ValueError.__new__" && (!cd.hasDel && (cd.hasDict && PySem.HandSPX.refsVE bm)))
    | _, _ => false)
  | _ => false
theorem excB_ok {K : PySem.W.Frag} {C : Addr} (q : excB K C = true) : ∃ nm q N bs bm sn sub ab col dd k0 k1 k2 k3 k5, K.lookup C = some (excClassObj nm q C N bs bm true sn sub ab col dd k0 k1 k2 k3 k5 "ValueError.__new__") ∧ PySem.HandSPX.refsVE bm = true := by
  unfold excB at q
  split at q
  · rename_i dd cd sl ho
    split at q
    · rename_i C' bm k0 k1 k2 k3 n k5 hm hs
      simp only [Bool.and_eq_true, beq_iff_eq, Bool.not_eq_true'] at q
      obtain ⟨rfl, rfl, hdel, hdi, ht⟩ := q
      obtain ⟨nm, bs, mro, ns, qn, hd, sn, sub, ab, col, del⟩ := cd
      dsimp only at hm hdel hdi
      subst hm hdel hdi
      have hsl : sl = #[k0, k1, k2, k3, some (.builtin "ValueError.__new__"), k5] := by
        obtain ⟨l⟩ := sl
        simp only at hs
        rw [hs]
      subst hsl
      exact ⟨nm, qn, ns, bs, bm, sn, sub, ab, col, dd, k0, k1, k2, k3, k5, ho, ht⟩
    · cases q
  · cases q
/-- WhoError, whose __init__ the others call -/
def whoB (K : PySem.W.Frag) (W : Addr) : Bool := PySem.W.readsIn K W (.type "type") && (eqO (PySem.W.specialIn K (.ref W) "__getattribute__") (some (some (.builtin "type.__getattribute__"))) && (match PySem.W.findCls K (.ref W) (.type "type") "__init__" with
  | some (.val (.ref a)) => decide (a = ma K W "__init__")
  | _ => false))
theorem whoB_ok {K : PySem.W.Frag} {W : Addr} (h : whoB K W = true) : CRead K W (.type "type") ∧ PySem.W.findCls K (.ref W) (.type "type") "__init__" = some (.val (.ref (ma K W "__init__"))) := by
  unfold whoB at h
  obtain ⟨h1, h⟩ := ba h
  obtain ⟨h2, h3⟩ := ba h
  refine ⟨⟨h1, eqO_ok h2⟩, ?_⟩
  split at h3
  · rename_i a e
    rw [e, of_decide_eq_true h3]
  · cases h3
end Wm
/-! the reached fragment, gone through once: what was seen is kept as bits of a number -/
namespace Wm
open PySem PySem.Spec PyProof.Rows L2 He ClX
noncomputable def pushB (as : List Addr) : Nat → List Addr → Nat × List Addr := List.rec (motive := fun _ => Nat → List Addr → Nat × List Addr) (fun v acc => (v, acc)) (fun a _ ih v acc => Bool.rec (motive := fun _ => Nat × List Addr) (ih (Nat.lor v (Nat.shiftLeft 1 a)) (a :: acc)) (ih v acc) (Nat.beq (Nat.mod (Nat.shiftRight v a) 2) 1)) as
noncomputable def lvB (g : Addr → Option Obj) (n : Nat) : List Addr → Nat → List Addr := Nat.rec (motive := fun _ => List Addr → Nat → List Addr) (fun fr _ => fr) (fun _ ih fr v => fr ++ (match pushB (fr.flatMap fun a => match g a with
  | some o => refsD o
  | none => []) v [] with
  | (v', nf) => ih nf v')) n
noncomputable def asB (g : Addr → Option Obj) (n : Nat) : List Addr := lvB g n [mainGlobals, cStatics] (Nat.lor (Nat.shiftLeft 1 mainGlobals) (Nat.shiftLeft 1 cStatics))
noncomputable def obsBG (n : Nat) (ck : PySem.W.Frag → Bool) (fn : List DefD) (g : Addr → Option Obj) : AlD := obsM ck fn (frG g (asB g n))
noncomputable def hookB (n : Nat) (ck : PySem.W.Frag → Bool) (fn : List DefD) : PySem.W.Hook where
  α := AlD
  obs := fun s => obsBG n ck fn s.heap.get?
  val := fun _ => valD fn
  says := fun _ h => ∃ K : PySem.W.Frag, K.In h ∧ SaysM ck fn K
  of := fun _ _ e => ⟨_, frG_in, e⟩
  keeps := fun _ _ _ ⟨K, hK, c⟩ k => ⟨K, PySem.W.Frag.In.keeps hK k, c⟩
theorem obsBG_eq {n : Nat} {ck : PySem.W.Frag → Bool} {fn : List DefD} {g : Addr → Option Obj} {s : Shared} (h : ∀ a, g a = s.heap.get? a) : obsBG n ck fn g = (hookB n ck fn).obs s := by
  have e : g = s.heap.get? := funext h
  rw [e] <;> rfl
end Wm
/-! the run's equation in two: what is looked at behind the top, and the facts, each by a run of its own -/
namespace Wm
open PySem PySem.W PySem.Calls PyProof.Rows HandSHeadRun
noncomputable def RunA (r : OpenRow) (q : Program) (M : Nat) (loose : List PySem.Str) (w : World) : Prop :=
  ∀ os : OsState, (endF (stepQ (denQ tabQ) r.prog w) M r.prog w os).map (fun s => (looksF r.prog (boot_heap w.params) s.abs, seenQ q loose (importedModules r.prog.main.body) (fun s => xlAt q [] s && recOk r.toRowW.records s) s.abs)) = some (true, openGood q loose)
noncomputable def RunB (r : OpenRow) (H : Hook) (ob : SharedT → H.α) (M : Nat) (w : World) : Prop :=
  ∀ os : OsState, (endF (stepQ (denQ tabQ) r.prog w) M r.prog w os).map ob = some (H.val w)
theorem runEq_of {r : OpenRow} {q : Program} {H : Hook} {ob : SharedT → H.α} {M : Nat} {loose : List PySem.Str} {w : World} (a : RunA r q M loose w) (b : RunB r H ob M w) : RunEq r q H ob M loose w := fun os => by
  have a := a os
  have b := b os
  revert a b
  generalize endF (stepQ (denQ tabQ) r.prog w) M r.prog w os = z
  cases z with
  | none =>
    intro a
    cases a
  | some s =>
    intro a b
    have e1 := Option.some.inj a
    have e2 : ob s = H.val w := Option.some.inj b
    obtain ⟨e3, e4⟩ := Prod.mk.inj e1
    show some (_, _, _) = _
    rw [e2]
    exact congrArg some (Prod.ext e3 (Prod.ext e4 rfl))
end Wm
namespace Wm
open PySem L2 He ClX StX
/-- what is asked of an error class of one field -/
def errB (K : PySem.W.Frag) (C fI : Addr) (f : Str) : Bool :=
  eqO (PySem.W.findIn K (.ref C) "__setattr__") (some (some (.builtin "object.__setattr__"))) && (decide (PySem.W.subIn K (.ref C) (.type "BaseException") = some true) && (decide (PySem.W.typeIn K (.ref C) = some (.type "type")) && (PySem.W.keepIn K (.ref C) &&
  (decide (PySem.W.typeIn K (.ref fI) = some (.type "function")) && (eqO (PySem.W.findIn K (.ref C) "kind") (some none) && (eqO (PySem.W.findIn K (.ref C) f) (some none) && (eqO (PySem.W.findIn K (.ref C) "__getattribute__") (some (some (.builtin "BaseException.__getattribute__"))) &&
  (eqO (PySem.W.findIn K (.ref C) "__getattr__") (some none) && (PySem.W.hasDictIn K C && (eqO (PySem.W.findIn K (.ref C) "__class__") (some (some (.builtin "object.__class__"))) && (decide (PySem.W.mroIn K C (.type "object") = some true) &&
  (eqO (PySem.W.findIn K (.ref C) "__init__") (some (some (.ref fI))) && (excB K C && (decide (PySem.W.exmOne K (.ref C) (.ref C) = some true) && (eqO (PySem.W.specialIn K (.builtin "object.__class__") "__get__") (some (some (.builtin "getset_descriptor.__get__"))) && decide (PySem.W.takesIn K (.builtin "object.__class__") = some true))))))))))))))))
def factL : List Fa := [.glo "WhoError", .glo "NoName", .glo "NoSort", .glo "NoWord", .glo "is_name", .glo "refuse_no_name", .glo "first_twice", .glo "refuse_twice", .glo "refuse_count", .glo "own_list", .glo "refuse_makings_twice", .glo "refuse_no_sort", .glo "refuse_upward", .glo "refuse_no_word", .glo "check_scheme", .glo "tuple_of_tuples", .glo "ends_of", .glo "texts_of_pattern", .glo "refuse_no_variable", .glo "refuse_loose", .glo "refuse_apart", .glo "check_pattern", .glo "refuse_strange_rule", .glo "sort_rows", .glo "_law_cell_at", .glo "_law_well", .glo "_law_draw", .glo "_law_pick", .glo "_law_name", .glo "_law_names", .glo "_law_any_rule", .glo "_law_made_rule", .glo "_law_due", .glo "_law_said", .glo "law", .glo "Scheme", .cls "Scheme", .noat "Scheme" "own_sorts", .noat "Scheme" "own_words", .noat "Scheme" "own_makings", .noat "Scheme" "own_rules", .noat "Scheme" "own_bars", .mkr "Scheme", .glo "Rule", .cls "Rule", .noat "Rule" "name", .noat "Rule" "variables", .noat "Rule" "conditions", .noat "Rule" "gives", .noat "Rule" "by", .mkr "Rule", .meth "Scheme" "sorts", .meth "Scheme" "words", .free "abs", .free "int", .free "len", .free "range", .free "all", .free "tuple", .free "enumerate", .free "isinstance", .free "ValueError", .free "list", .free "str", .str "LETTERS" "abcdefghijklmnopqrstuvwxyz", .str "FIGURES" "0123456789", .int "LONGEST_NAME" 12, .int "MOST_SORTS" 4, .int "MOST_WORDS" 5, .int "MOST_RULES" 8, .int "MOST_BARS" 4, .int "MOST_VARIABLES" 4, .int "MOST_CONDITIONS" 3]
def ck (K : PySem.W.Frag) : Bool := factL.all (fun f => f.ok K) && (whoB K (ga K "WhoError") && (errB K (ga K "NoName") (ma K (ga K "NoName") "__init__") "name" && (errB K (ga K "NoSort") (ma K (ga K "NoSort") "__init__") "name" && (errB K (ga K "NoWord") (ma K (ga K "NoWord") "__init__") "name" && (decide (PySem.W.exmOne K (.ref (ga K "NoSort")) (.ref (ga K "WhoError")) = some true) && (decide (PySem.W.exmOne K (.ref (ga K "NoWord")) (.ref (ga K "WhoError")) = some true) && (decide (PySem.W.kitOne K (.ref (ga K "NoSort")) (.ref (ga K "NoSort")) = some true) && (decide (PySem.W.kitOne K (.ref (ga K "NoSort")) (.ref (ga K "NoWord")) = some false) && (decide (PySem.W.kitOne K (.ref (ga K "NoWord")) (.ref (ga K "NoSort")) = some false) && (decide (PySem.W.kitOne K (.ref (ga K "NoWord")) (.ref (ga K "NoWord")) = some true)))))))))))
def d_is_name : DefD := ⟨("is_name", none), "is_name", "is_name", defArgs sName, defBody sName, defScope sName, [], []⟩
def d_refuse_no_name : DefD := ⟨("refuse_no_name", none), "refuse_no_name", "refuse_no_name", defArgs sRN, defBody sRN, defScope sRN, [], []⟩
def d_first_twice : DefD := ⟨("first_twice", none), "first_twice", "first_twice", defArgs sFT, defBody sFT, defScope sFT, [], []⟩
def d_refuse_twice : DefD := ⟨("refuse_twice", none), "refuse_twice", "refuse_twice", defArgs sRT, defBody sRT, defScope sRT, [], []⟩
def d_refuse_count : DefD := ⟨("refuse_count", none), "refuse_count", "refuse_count", defArgs sRC, defBody sRC, defScope sRC, [], []⟩
def d_own_list : DefD := ⟨("own_list", none), "own_list", "own_list", defArgs sOL, defBody sOL, defScope sOL, [], []⟩
def d_refuse_makings_twice : DefD := ⟨("refuse_makings_twice", none), "refuse_makings_twice", "refuse_makings_twice", defArgs sRMT, defBody sRMT, defScope sRMT, [], []⟩
def d_refuse_no_sort : DefD := ⟨("refuse_no_sort", none), "refuse_no_sort", "refuse_no_sort", defArgs sRNS, defBody sRNS, defScope sRNS, [], []⟩
def d_refuse_upward : DefD := ⟨("refuse_upward", none), "refuse_upward", "refuse_upward", defArgs sRU, defBody sRU, defScope sRU, [], []⟩
def d_refuse_no_word : DefD := ⟨("refuse_no_word", none), "refuse_no_word", "refuse_no_word", defArgs sRNW, defBody sRNW, defScope sRNW, [], []⟩
def d_check_scheme : DefD := ⟨("check_scheme", none), "check_scheme", "check_scheme", defArgs sCS, defBody sCS, defScope sCS, [], []⟩
def d_tuple_of_tuples : DefD := ⟨("tuple_of_tuples", none), "tuple_of_tuples", "tuple_of_tuples", defArgs sTT, defBody sTT, defScope sTT, [], []⟩
def d_ends_of : DefD := ⟨("ends_of", none), "ends_of", "ends_of", defArgs sEO, defBody sEO, defScope sEO, [], []⟩
def d_texts_of_pattern : DefD := ⟨("texts_of_pattern", none), "texts_of_pattern", "texts_of_pattern", defArgs sTP, defBody sTP, defScope sTP, [], []⟩
def d_refuse_no_variable : DefD := ⟨("refuse_no_variable", none), "refuse_no_variable", "refuse_no_variable", defArgs sRV, defBody sRV, defScope sRV, [], []⟩
def d_refuse_loose : DefD := ⟨("refuse_loose", none), "refuse_loose", "refuse_loose", defArgs sRL, defBody sRL, defScope sRL, [], []⟩
def d_refuse_apart : DefD := ⟨("refuse_apart", none), "refuse_apart", "refuse_apart", defArgs sRA, defBody sRA, defScope sRA, [], []⟩
def d_check_pattern : DefD := ⟨("check_pattern", none), "check_pattern", "check_pattern", defArgs sCP, defBody sCP, defScope sCP, [], []⟩
def d_refuse_strange_rule : DefD := ⟨("refuse_strange_rule", none), "refuse_strange_rule", "refuse_strange_rule", defArgs sRSR, defBody sRSR, defScope sRSR, [], []⟩
def d_sort_rows : DefD := ⟨("sort_rows", none), "sort_rows", "sort_rows", defArgs sSrw, defBody sSrw, defScope sSrw, [], []⟩
def d__law_cell_at : DefD := ⟨("_law_cell_at", none), "_law_cell_at", "_law_cell_at", defArgs sCel, defBody sCel, defScope sCel, [], []⟩
def d__law_well : DefD := ⟨("_law_well", none), "_law_well", "_law_well", defArgs sWel, defBody sWel, defScope sWel, [], []⟩
def d__law_draw : DefD := ⟨("_law_draw", none), "_law_draw", "_law_draw", defArgs sDrw, defBody sDrw, defScope sDrw, [], []⟩
def d__law_pick : DefD := ⟨("_law_pick", none), "_law_pick", "_law_pick", defArgs sPck, defBody sPck, defScope sPck, [], []⟩
def d__law_name : DefD := ⟨("_law_name", none), "_law_name", "_law_name", defArgs sNam, defBody sNam, defScope sNam, [], []⟩
def d__law_names : DefD := ⟨("_law_names", none), "_law_names", "_law_names", defArgs sNms, defBody sNms, defScope sNms, [], []⟩
def d__law_any_rule : DefD := ⟨("_law_any_rule", none), "_law_any_rule", "_law_any_rule", defArgs sAny, defBody sAny, defScope sAny, [], []⟩
def d__law_made_rule : DefD := ⟨("_law_made_rule", none), "_law_made_rule", "_law_made_rule", defArgs sMdR, defBody sMdR, defScope sMdR, [], []⟩
def d__law_due : DefD := ⟨("_law_due", none), "_law_due", "_law_due", defArgs sDue, defBody sDue, defScope sDue, [], []⟩
def d__law_said : DefD := ⟨("_law_said", none), "_law_said", "_law_said", defArgs sSai, defBody sSai, defScope sSai, [], []⟩
def d_law : DefD := ⟨("law", none), "law", "law", defArgs sLaw, defBody sLaw, defScope sLaw, [], []⟩
def d_NoName___init__ : DefD := ⟨("NoName", some "__init__"), "__init__", "NoName.__init__", defArgs sN0, defBody sN0, defScope sN0, [], []⟩
def d_NoSort___init__ : DefD := ⟨("NoSort", some "__init__"), "__init__", "NoSort.__init__", defArgs sNS, defBody sNS, defScope sNS, [], []⟩
def d_NoWord___init__ : DefD := ⟨("NoWord", some "__init__"), "__init__", "NoWord.__init__", defArgs sNW, defBody sNW, defScope sNW, [], []⟩
def d_Rule___init__ : DefD := ⟨("Rule", some "__init__"), "__init__", "Rule.__init__", defArgs sRul, defBody sRul, defScope sRul, [], []⟩
def d_Scheme_sorts : DefD := ⟨("Scheme", some "sorts"), "sorts", "Scheme.sorts", defArgs sSor, defBody sSor, defScope sSor, [], []⟩
def d_Scheme_words : DefD := ⟨("Scheme", some "words"), "words", "Scheme.words", defArgs sWor, defBody sWor, defScope sWor, [], []⟩
def dWho : DefD := ⟨("WhoError", some "__init__"), "__init__", "WhoError.__init__", defArgs sW0, defBody sW0, defScope sW0, [.str "whoerror"], []⟩
def dSch : DefD := ⟨("Scheme", some "__init__"), "__init__", "Scheme.__init__", defArgs sSch, defBody sSch, defScope sSch, [.non, .non, .non], []⟩
def fnL : List DefD := [d_is_name, d_refuse_no_name, d_first_twice, d_refuse_twice, d_refuse_count, d_own_list, d_refuse_makings_twice, d_refuse_no_sort, d_refuse_upward, d_refuse_no_word, d_check_scheme, d_tuple_of_tuples, d_ends_of, d_texts_of_pattern, d_refuse_no_variable, d_refuse_loose, d_refuse_apart, d_check_pattern, d_refuse_strange_rule, d_sort_rows, d__law_cell_at, d__law_well, d__law_draw, d__law_pick, d__law_name, d__law_names, d__law_any_rule, d__law_made_rule, d__law_due, d__law_said, d_law, d_NoName___init__, d_NoSort___init__, d_NoWord___init__, d_Rule___init__, d_Scheme_sorts, d_Scheme_words, dWho, dSch]
end Wm
set_option maxHeartbeats 0
namespace Wm
open PySem PySem.W PySem.Calls PyProof.Rows
abbrev RW : OpenRow := OpenLaw.row PySem.Challenge.rw_whomay_k71_rows_of_sorts
noncomputable abbrev hkW : Hook := hookB 4 ck fnL
noncomputable def obW (s : SharedT) : He.AlD := obsBG 4 ck fnL (HandSHeadRun.getT s)
theorem obW_eq (s : SharedT) : obW s = hkW.obs s.abs := obsBG_eq (HandSHeadRun.getT_eq s)
def lo0 : List PySem.Str := ["_wall", "WhoError", "NoName", "BadCount", "Twice", "NoVariable", "Loose", "Apart", "NoSort", "Upward", "NoWord", "NoRule", "NoBar", "LETTERS", "FIGURES", "LONGEST_NAME", "is_name", "refuse_no_name", "first_twice", "refuse_twice", "refuse_count", "MOST_SORTS", "MOST_WORDS", "MOST_RULES", "MOST_BARS", "own_list", "refuse_makings_twice", "refuse_no_sort", "refuse_upward", "refuse_no_word"]
def lo1 : List PySem.Str := ["check_scheme", "Scheme", "refuse_strange_rule", "sort_rows", "MOST_VARIABLES", "MOST_CONDITIONS", "tuple_of_tuples", "ends_of", "texts_of_pattern", "refuse_no_variable", "refuse_loose", "refuse_apart", "check_pattern", "variable_part", "pattern_parts", "rule_parts", "Rule", "_law_cell_at", "_law_well", "_law_draw", "_law_pick", "_law_name", "_law_names", "_law_any_rule", "_law_made_rule", "_law_due", "_law_said"]
def loW : List PySem.Str := lo0 ++ lo1
theorem runWA (w : World) : RunA RW (view RW.prog [63]) 20000 loW w := by
  intro os
  kernel_rfl
theorem runWB (w : World) : RunB RW hkW obW 20000 w := by
  intro os
  kernel_rfl
theorem runW (w : World) : HandSHeadRun.RunEq RW (view RW.prog [63]) hkW obW 20000 loW w := runEq_of (runWA w) (runWB w)
end Wm
namespace Wm
open PySem L2
/-- all that was tracked is as it was, but at p -/
def But (p : Addr) (H H' : Hp) : Prop := ∀ q o, q ≠ p → H q = some o → H' q = some o
theorem But.refl (p : Addr) (H : Hp) : But p H H := fun _ _ _ h => h
theorem But.trans {p : Addr} {H H1 H2 : Hp} (a : But p H H1) (b : But p H1 H2) : But p H H2 := fun q o n h => b q o n (a q o n h)
theorem But.upd {p : Addr} {H : Hp} {o : HO} : But p H (upd H p o) := fun q o n h => by rw [upd_ne n]; exact h
theorem Same.but {p : Addr} {H H1 : Hp} (a : Same H H1) : But p H H1 := fun q o _ h => a q o h
theorem Same.upd {p : Addr} {H : Hp} {o : HO} (n : H p = none) : Same H (upd H p o) := fun q o h => by rw [upd_ne (ne_of_none h n)]; exact h
theorem But.same {p : Addr} {H0 H H1 : Hp} (n : H0 p = none) (a : Same H0 H) (b : But p H H1) : Same H0 H1 := fun q o h => b q o (ne_of_none h n) (a q o h)
/-- a well at p, drawn from at most n times -/
def StN (n : Nat) (H : Hp) (p : Addr) : Prop := ∃ a b c : Int, H p = some (.lst [.int a, .int b, .int c]) ∧ 0 ≤ b ∧ b < 2147483648 ∧ 0 ≤ c ∧ c ≤ n
def StOk (H : Hp) (p : Addr) : Prop := ∃ a b c : Int, H p = some (.lst [.int a, .int b, .int c]) ∧ 0 ≤ b
theorem StN.ok {n : Nat} {H : Hp} {p : Addr} (h : StN n H p) : StOk H p := by
  obtain ⟨a, b, c, e, q, _⟩ := h
  exact ⟨a, b, c, e, q⟩
theorem StN.mono {n m : Nat} {H : Hp} {p : Addr} (h : StN n H p) (l : n ≤ m) : StN m H p := by
  obtain ⟨a, b, c, e, b0, b1, c0, c1⟩ := h
  exact ⟨a, b, c, e, b0, b1, c0, by omega⟩
def spWel : Sp := fun vs H Q _ => ∃ i : Int, vs = [.int i] ∧ ∀ p H', H p = none → Same H H' → StN 0 H' p → Q (.ref p) H'
def spDrw : Sp := fun vs H Q _ => ∃ (p : Addr) (n : Int) (k : Nat), vs = [.ref p, .int n] ∧ StN k H p ∧ k ≤ 1000000 ∧ 0 < n ∧ n < 1073741824 ∧ ∀ (d : Int) H', 0 ≤ d → d < n → But p H H' → StN (k + 1) H' p → Q (.int d) H'
structure TxB (mg : Str → Option Value) : Prop where
  abs : mg "abs" = none
  int : mg "int" = none
  len : mg "len" = none
  range : mg "range" = none
  all : mg "all" = none
  tuple : mg "tuple" = none
  enumerate : mg "enumerate" = none
  isinstance : mg "isinstance" = none
  ve : mg "ValueError" = none
section
variable {P : Program} {w : World} {K : PySem.W.Frag} {mg : Str → Option Value} {base : Heap}
theorem scWel : FnScope ["_law_cell"] ["_law_cell"] (defScope sWel) := ⟨rfl, rfl, rfl, by decide +kernel, rfl, by decide +kernel, by decide +kernel⟩
theorem ok_wel {f : Addr} {fd : FuncData} (F : Fun K "_law_well" "_law_well" sWel f fd) (T : TxB mg) : FnOk P w K mg base CX0 1 f fd ["_law_cell"] spWel := by
  refine F.ok scWel (fun vs H Q E h => ?_) (fun cdv A outer s H vs Q E hr h => ?_)
  · obtain ⟨i, rfl, _⟩ := h
    rfl
  · obtain ⟨i, rfl, k⟩ := h
    refine ⟨_, (pss_one (ps_ret (pe_lst (pa_cons (pe_op op_mul (pv 0) (pe_callTy call_int1 (by rfl) T.int (by decide +kernel) (pa_cons (pe_cmpR op_ge (pv 0) (pe_op op_pow pe_int pe_int) (nomark _)) pa_nil))) (pa_cons (pe_op op_mod (pv 0) pe_int) (pa_cons pe_int pa_nil)))))), ?_⟩
    refine ⟨_, rfl, _, rfl, _, _, rfl, rfl, ⟨by decide, by decide, by decide⟩, _, _, rfl, rfl, .inr ⟨_, rfl, ?_⟩⟩
    refine ⟨_, _, rfl, rfl, .inr ⟨by split <;> decide, by split <;> decide⟩, _, rfl, _, _, rfl, rfl, (by show (0 : Int) < 2147483647; decide), (by show 3 ≤ sizeLine; decide), fun p hp => ?_⟩
    refine k p _ hp (Same.upd hp) ⟨_, _, _, upd_same, ?_, ?_, by decide, by decide⟩
    · exact Int.emod_nonneg i (by decide)
    · have := Int.emod_lt_of_pos i (show (0 : Int) < 2147483647 by decide)
      omega
theorem scDrw : FnScope ["_law_well_here", "_law_many", "_law_found", "_law_number"] ["_law_well_here", "_law_many"] (defScope sDrw) := ⟨rfl, rfl, rfl, by decide +kernel, rfl, by decide +kernel, by decide +kernel⟩
theorem ok_drw {f : Addr} {fd : FuncData} (F : Fun K "_law_draw" "_law_draw" sDrw f fd) : FnOk P w K mg base CX0 1 f fd ["_law_well_here", "_law_many"] spDrw := by
  refine F.ok scDrw (fun vs H Q E h => ?_) (fun cdv A outer s H vs Q E hr h => ?_)
  · obtain ⟨p, n, k, rfl, _⟩ := h
    rfl
  · obtain ⟨p, n, k, rfl, ⟨a, b, c, hp, b0, b1, c0, c1⟩, hk, hn, hn2, kk⟩ := h
    refine ⟨_, (pss_cons (ps_if (pt_cmpR op_gt (pe_ix ix_list (pv 0) pe_int (fun _ _ => rfl)) pe_int (nomark _)) (pss_cons (ps_set (i := 2) scDrw.nd rfl (Or.inl rfl) (pe_op op_mod (pe_ix ix_list (pv 0) pe_int (fun _ _ => rfl)) (pv 1)))
      (pss_cons (ps_asg (pe_op op_fdiv (pe_ix ix_list (pv 0) pe_int (fun _ _ => rfl)) (pv 1)) (pg_sub (pv 0) pe_int set_list))
      (pss_one (ps_ret (pv 2))))) pss_nil)
      (pss_cons (ps_asg (pe_op op_add (pe_ix ix_list (pv 0) pe_int (fun _ _ => rfl)) pe_int) (pg_sub (pv 0) pe_int set_list))
      (pss_cons (ps_set (i := 3) scDrw.nd rfl (Or.inl rfl) (pe_op op_mod (pe_op op_pow (pe_op op_add (pe_op op_add (pe_ix ix_list (pv 0) pe_int (fun _ _ => rfl)) (pe_op op_mul pe_int (pe_ix ix_list (pv 0) pe_int (fun _ _ => rfl)))) pe_int) pe_int) pe_int))
      (pss_cons (ps_set (i := 3) scDrw.nd rfl (Or.inl rfl) (pe_op op_mod (pe_op op_mul (pv 3) (pe_op op_add (pe_op op_fdiv (pv 3) pe_int) pe_int)) pe_int))
      (pss_one (ps_ret (pe_op op_mod (pe_op op_mod (pe_op op_mul (pv 3) (pe_op op_add (pe_op op_fdiv (pv 3) pe_int) pe_int)) pe_int) (pv 1)))))))), ?_⟩
    refine ⟨_, rfl, p, _, _, _, rfl, rfl, SqL.of hp, atI_nat (j := 0) rfl, _, _, rfl, rfl, _, rfl, ?_⟩
    refine ite2 (fun h0 => ?_) (fun h0 => ?_)
    · refine ⟨_, rfl, p, _, _, _, rfl, rfl, SqL.of hp, atI_nat (j := 0) rfl, _, rfl, _, _, rfl, rfl, hn, ?_⟩
      refine ⟨_, rfl, p, _, _, _, rfl, rfl, SqL.of hp, atI_nat (j := 0) rfl, _, rfl, _, _, rfl, rfl, ⟨hn, hn2⟩, _, rfl, p, _, _, 0, rfl, rfl, hp, rfl, _, rfl, ?_⟩
      exact kk _ _ (Int.emod_nonneg a (by omega)) (Int.emod_lt_of_pos a hn) But.upd ⟨_, _, _, upd_same, b0, b1, c0, by omega⟩
    · refine ⟨_, rfl, p, _, _, _, rfl, rfl, SqL.of hp, atI_nat (j := 2) rfl, _, _, rfl, rfl, _, rfl, p, _, _, 2, rfl, rfl, hp, rfl, ?_⟩
      have e1 : (L2.upd H p (.lst ([V.int a, .int b, .int c].set 2 (.int (c + 1))))) p = some (.lst [.int a, .int b, .int (c + 1)]) := upd_same
      have B1 : But p H (L2.upd H p (.lst ([V.int a, .int b, .int c].set 2 (.int (c + 1))))) := But.upd
      generalize L2.upd H p (.lst ([V.int a, .int b, .int c].set 2 (.int (c + 1)))) = H1 at e1 B1
      refine ⟨_, rfl, p, _, _, _, rfl, rfl, SqL.of e1, atI_nat (j := 1) rfl, _, rfl, p, _, _, _, rfl, rfl, SqL.of e1, atI_nat (j := 2) rfl, _, _, rfl, rfl, .inl ⟨by decide, by decide⟩, _, _, rfl, rfl, _, _, rfl, rfl, _, _, rfl, rfl, ?_, _, _, rfl, rfl, (by show (0 : Int) < 2147483647; decide), ?_⟩
      · refine ⟨by decide, by decide, ?_⟩
        show (b + 7919 * (c + 1) + 1).natAbs < 18446744073709551616
        omega
      generalize hx : (b + 7919 * (c + 1) + 1) ^ (3 : Int).toNat % 2147483647 = x
      have x0 : 0 ≤ x := by rw [← hx]; exact Int.emod_nonneg _ (by decide)
      have x1 : x < 2147483647 := by rw [← hx]; exact Int.emod_lt_of_pos _ (by decide)
      refine ⟨_, rfl, _, rfl, _, _, rfl, rfl, ⟨by decide, by decide⟩, _, _, rfl, rfl, _, _, rfl, rfl, .inl ⟨by omega, by omega⟩, _, _, rfl, rfl, (by show (0 : Int) < 2147483629; decide), ?_⟩
      generalize hy : x * (x / 1009 + 69621) % 2147483629 = y
      have y0 : 0 ≤ y := by rw [← hy]; exact Int.emod_nonneg _ (by decide)
      have y1 : y < 2147483629 := by rw [← hy]; exact Int.emod_lt_of_pos _ (by decide)
      refine ⟨_, rfl, _, rfl, _, _, rfl, rfl, ⟨by decide, by decide⟩, _, _, rfl, rfl, _, _, rfl, rfl, .inl ⟨by omega, by omega⟩, _, _, rfl, rfl, (by show (0 : Int) < 2147483587; decide), _, rfl, _, _, rfl, rfl, hn, ?_⟩
      exact kk _ _ (Int.emod_nonneg _ (by omega)) (Int.emod_lt_of_pos _ hn) B1 ⟨a, b, c + 1, e1, b0, b1, by omega, by omega⟩
end
end Wm
namespace Wm
open PySem L2
/-- a def of the module's top -/
structure Dn (K : PySem.W.Frag) (mg : Str → Option Value) (x : Str) (st : Stmt) (ps : List Str) (f : Addr) (fd : FuncData) : Prop where
  F : Fun K x x st f fd
  g : mg x = some (.ref f)
  b : Binds K fd ps []
theorem str_at (z : Str) {i : Int} (h0 : 0 ≤ i) (h1 : i < z.length) : ∃ c, z.cps[i.toNat]? = some c := by
  have h : i.toNat < z.cps.size := by
    have e : z.length = z.cps.size := rfl
    omega
  exact ⟨z.cps[i.toNat], Array.getElem?_eq_getElem h⟩
/-- every sign is one of unicode's -/
def okS (z : Str) : Prop := ∀ c ∈ z.cps.toList, c < 1114112
theorem okS_one {c : Nat} (h : c < 1114112) : okS ⟨#[c]⟩ := fun d hd => by
  have e : d = c := by simpa using hd
  rw [e]
  exact h
theorem okS_app {a b : Str} (ha : okS a) (hb : okS b) : okS (a ++ b) := fun c hc => by
  have e : (a ++ b).cps.toList = a.cps.toList ++ b.cps.toList := by
    show (a.cps ++ b.cps).toList = _
    simp
  rw [e] at hc
  rcases List.mem_append.mp hc with h | h
  · exact ha c h
  · exact hb c h
theorem rdItem {z : Str} {i : Int} {n : Nat} {H : Hp} {Q : VK} (hz : z.length = n) (h0 : 0 ≤ i) (h1 : i < n) (hn : n < 1000000) (h : ∀ c, z.cps.toList[i.toNat]? = some c → Q (.str ⟨#[c]⟩) H) : rIxS (.str z) (.int i) H Q := by
  have h2 : i < z.length := by rw [hz]; exact h1
  obtain ⟨c, hc⟩ := str_at z h0 h2
  have hl : z.cps.toList[i.toNat]? = some c := by simpa using hc
  have e : i = ((i.toNat : Nat) : Int) := by omega
  refine ⟨z, i, c, rfl, rfl, by rw [hz]; exact Nat.le_trans (Nat.le_of_lt hn) (by decide), ?_, h c hl⟩
  rw [e]
  exact atI_nat hl
theorem abcOk : ∀ c ∈ (PySem.Str.ofString "abcdefghijklmnopqrstuvwxyz0123456789").cps.toList, c < 1114112 := by decide +kernel
theorem abc36 : (PySem.Str.ofString "abcdefghijklmnopqrstuvwxyz0123456789").length = 36 := by decide +kernel
theorem len_app (a b : Str) : (a ++ b).length = a.length + b.length := by
  show (a.cps ++ b.cps).size = a.cps.size + b.cps.size
  exact Array.size_append
theorem len_one (c : Nat) : (⟨#[c]⟩ : Str).length = 1 := rfl
section
variable {P : Program} {w : World} {K : PySem.W.Frag} {mg : Str → Option Value} {base : Heap}
end
end Wm
namespace Wm
open PySem L2
theorem strs_at {zs : List Str} {n : Nat} (h : ∀ z ∈ zs, z.length ≤ n) (ho : ∀ z ∈ zs, ∀ c ∈ z.cps.toList, c < 1114112) {j : Nat} (hj : j < zs.length) : ∃ z, (zs.map V.str)[j]? = some (.str z) ∧ z.length ≤ n ∧ okS z :=
  ⟨zs[j], by simp [hj], h _ (List.getElem_mem hj), ho _ (List.getElem_mem hj)⟩
theorem okS_cut {z : Str} (h : okS z) (lo hi : Option Int) : okS (cutS z lo hi) := fun c hc => by
  have hc' : c ∈ (z.cps.toList.drop (HT.sIx z.length 0 lo)).take (HT.sIx z.length z.length hi - HT.sIx z.length 0 lo) := hc
  exact h c (List.mem_of_mem_drop (List.mem_of_mem_take hc'))
theorem okS_join {a : Str} {ys : List Str} (ha : okS a) (h : ∀ y ∈ ys, okS y) : okS (Txt.join a ys) := by
  have e : Txt.join a ys = Str.join a ys := StrLaws.glued_eq_join a ys
  rw [e]
  clear e
  induction ys with
  | nil => exact fun c hc => (List.not_mem_nil (show c ∈ ([] : List Nat) from hc)).elim
  | cons y r ih =>
    cases r with
    | nil => exact h y List.mem_cons_self
    | cons z r =>
      show okS (y ++ a ++ Str.join a (z :: r))
      exact okS_app (okS_app (h y List.mem_cons_self) ha) (ih fun x hx => h x (List.mem_cons_of_mem _ hx))
theorem rdList {K : PySem.W.Frag} {p : Addr} {xs : List V} {i : Int} {j : Nat} {v : V} {H : Hp} {Q : VK} (hp : H p = some (.lst xs)) (e : i = (j : Int)) (hv : xs[j]? = some v) (h : Q v H) : rIxL K (.ref p) (.int i) H Q :=
  ⟨p, xs, i, v, rfl, rfl, SqL.of hp, at_of e hv, h⟩
theorem But.free {p D : Addr} {H H' : Hp} (b : But p H H') (n : D ≠ p) (h : H' D = none) : H D = none := by
  cases e : H D with
  | none => rfl
  | some o =>
    rw [b D o n e] at h
    cases h
theorem sum_ones : ∀ {ys : List Str}, (∀ y ∈ ys, y.length = 1) → (ys.map (·.length)).sum = ys.length
  | [], _ => rfl
  | y :: ys, h => by
    rw [List.map_cons, List.sum_cons, List.length_cons, h y List.mem_cons_self, sum_ones fun z hz => h z (List.mem_cons_of_mem _ hz)]
    omega
theorem join_len (a : Str) (ys : List Str) : (Txt.join a ys).length ≤ (ys.map (·.length)).sum + ys.length * a.length := by
  show (Builtin.Str.glued a ys).length ≤ _
  rw [StrLaws.glued_eq_join]
  exact StrLaws.join_length_le a ys
section
variable {P : Program} {w : World} {K : PySem.W.Frag} {mg : Str → Option Value} {base : Heap}
end
end Wm
namespace Wm
open PySem PySem.Spec PyProof.Rows L2 ClX
section
variable {X : Cx} {CX : CXT} {k : Nat} {C f : Addr} {fd : FuncData} {ps : List Str} {sp : Sp} {E : XK} {e : Expr} {es : List Expr} {t : TA} {x m : Str} {p1 p2 pos : Pos} {ds : List Value} {dvs : List V}
/-- C.f(e, ..), f a def of the class C -/
theorem pe_clsFn {pl : Sem Bool} {mc : Value} (hg : Gl X x) (hm : X.mg x = some (.ref C)) (r : CRead X.K C mc) (ht : PySem.W.findCls X.K (.ref C) mc m = some (.val (.ref f))) (hk : PySem.W.keepIn X.K (.ref f) = true) (F : FnOk X.prog X.w X.K X.mg X.base CX k f fd ps sp)
    (hr : Room k X.A) (hb : Binds X.K fd ps ds) (hd : Vals dvs ds) (hx : Passes CX X E) (ha : PA X (e :: es) t)
    (hc : eval (.Call (.Attribute (.Name x p1) m p2) (e :: es) [] pos) X.env = (do
      let ov ← eval (.Name x p1) X.env
      standAt p2.atName
      let (f, first) ← holding [ov] (getMethod ov m pl)
      callWith pos f first (backTo pos (starEach (e :: es) X.env)) (backToKw pos (keywordEach [] X.env))) := by rfl)
    (hdb : (x == ("__debug__" : Str)) = false := by decide) (he : starEach (e :: es) X.env = (false, eval e X.env) :: starEach es X.env := by rfl) (hpl : (backTo pos (starEach es X.env)).any (·.1) = false := by rfl) :
    PE X (.Call (.Attribute (.Name x p1) m p2) (e :: es) [] pos) (tCall sp dvs E t) := by
  refine ⟨fun pins s σ H Q I h => ?_⟩
  refine PySem.W.methodCall_KW (ld_glob I hg hm ?_ hdb) hc
  refine PySem.W.method_cls I.kIn r.ga (PySem.W.cls_value I.kIn r.rd ht rfl ?_)
  show wpAny _ _ (callWith pos (Value.ref f) [] (backTo pos (starEach (e :: es) X.env)) []) _ _ _
  refine PySem.W.callWith_K (h₀ := X.base) I.ok.mod.kin hk (thn (ha.run pos pins _ σ H _ (I.tok _) h) fun us s1 ⟨vs, H1, I1, r1, q⟩ => ⟨I1.kIn, ?_⟩) he hpl
  exact run_fn F hr hb hd hx I1 r1 q
/-- xs + ys, both to be read -/
def rCatR (K : PySem.W.Frag) : R2 := fun x y H Q => ∃ l b xs zs, x = .ref l ∧ y = .ref b ∧ SqL K H l xs ∧ SqL K H b zs ∧ xs.length + zs.length ≤ sizeLine ∧ ∀ p, H p = none → Q (.ref p) (upd H p (.lst (xs ++ zs)))
theorem op_catR : OpR X (binaryOp .Add) (rCatR X.K) := by
  intro pins s σ H x y v u Q I rx ry h
  obtain ⟨l, b, xs, zs, rfl, rfl, hH, hB, hz, q⟩ := h
  cases rx
  cases ry
  obtain ⟨its, r, e, hl⟩ := I.list hH
  obtain ⟨its2, r2, e2, hl2⟩ := I.list hB
  have l1 := r.length
  have l2 := r2.length
  obtain ⟨⟨cls, dd, data, sl⟩, ho, hc, n, hd⟩ := e.isList
  obtain ⟨⟨cls2, dd2, data2, sl2⟩, ho2, hc2, n2, hd2⟩ := e2.isList
  simp only at hc hd hc2 hd2
  subst hc hd hc2 hd2
  refine concat_meets ⟨_, ho, rfl⟩ ⟨_, ho2, rfl⟩ noFill_list_add seq_list_add PySem.F.slot_list_add PySem.F.entry_list_add (PySem.F.args_list_add_2 _ _) (list_addW l b its.toArray its2.toArray n n2 dd dd2 sl sl2 (by rw [List.size_toArray, List.size_toArray]; omega)) ⟨ho, ho2, ?_⟩
  have ea : its.toArray ++ its2.toArray = (its ++ its2).toArray := by simp
  rw [ea]
  exact ⟨.ref _, _, I.lnew (t' := s.toks) (r.append r2) (by rw [List.length_append]; omega), rfl, q _ I.fresh⟩
end
end Wm
namespace Wm
open PySem PySem.Spec PyProof.Rows L2 ClX
/-- isinstance(e, c) in an except suite, e the exception that it holds (its class D, its dict at dd) -/
def rIsX (K : PySem.W.Frag) (D a dd : Addr) : List V → Hp → VK → Prop := fun xs H Q => ∃ (c : V) (cv : Value) (b : Bool) (fs : List (Str × V)), xs = [.ref a, c] ∧ H dd = some (.xd fs) ∧ (∀ u, RelV c u → u = cv) ∧ PySem.W.kitOne K (.ref D) cv = some b ∧ Q (.bl b) H
theorem call_isX {X : Cx} {a D dd : Addr} {oe : Obj} {pn : List (Addr × Obj)} (C : ExcC X.K D) (hz : Zc (.ref D) (some dd) oe) (hf : ∃ vs, oe.data = .fields vs) : CallR (X.suite a ((a, oe) :: pn)) (.builtin "isinstance") (rIsX X.K D a dd) := by
  intro pins s σ H xs us Q I r h
  obtain ⟨c, cv, b, fs, rfl, hdd, hcv, e, q⟩ := h
  cases r with
  | cons rx rr =>
    cases rr with
    | cons rt rr =>
      cases rr
      cases rx
      have ec := hcv _ rt
      subst ec
      obtain ⟨hget, _⟩ := I.pin (a, oe) (List.mem_append.mpr (.inl List.mem_cons_self))
      obtain ⟨vs, hv⟩ := hf
      have hx : ObjOk X.prog X.w H s.heap dd (.xd fs) := I.hok dd _ hdd
      obtain ⟨mA, hns, hr⟩ := hx
      obtain ⟨od, ho, hl⟩ := lookIn_ns hns
      have J : PySem.W.InstAt s.heap a oe D (some od) := ⟨hget, hz.1, by unfold PySem.W.notCls; rw [hv] <;> rfl, by rw [hz.2]; exact ho⟩
      have hcl : (PySem.W.clsIn X.K D).isSome = true := by
        obtain ⟨cd, hc, _⟩ := PySem.W.any_some C.hd
        rw [hc]
        rfl
      exact PySem.W.kia_one (PySem.W.kitx_exc hcl C.hg C.hk C.hs C.ha C.hn C.ht C.hm) I.kIn J e (fun z => nomatch z) fun tk => ⟨.bl b, H, I.kept (t' := tk) fun _ _ z => z, rfl, q⟩
/-! ### errors of one field -/
def spWI (K : PySem.W.Frag) : Sp := fun vs H Q _ => ∃ (a C : Addr) (v : V), vs = [.ref a, v] ∧ OexC K C ∧ PySem.W.findIn K (.ref C) "kind" = some none ∧ H a = some (exo a C none) ∧ ∀ dx, H dx = none → dx ≠ a → Q .non (upd (upd H dx (exd dx [("kind", v)])) a (exo a C (some dx)))
/-- the dict of an error of one field -/
def ef1 (f kd : Str) (v : V) : List (Str × V) := [(f, v), ("kind", .str kd)]
def spE1 (C : Addr) (f kd : Str) : Sp := fun vs H Q _ => ∃ (a : Addr) (v : V), vs = [.ref a, v] ∧ H a = some (exo a C none) ∧ ∀ dx H', H dx = none → dx ≠ a → (∀ b o, b ≠ a → H b = some o → H' b = some o) → H' a = some (exo a C (some dx)) → H' dx = some (exd dx (ef1 f kd v)) → Q .non H'
/-- what is known of WhoError -/
structure WhoT (K : PySem.W.Frag) (mg : Str → Option Value) (W f0 : Addr) (fd0 : FuncData) : Prop where
  g : mg "WhoError" = some (.ref W)
  r : CRead K W (.type "type")
  m : PySem.W.findCls K (.ref W) (.type "type") "__init__" = some (.val (.ref f0))
  k : PySem.W.keepIn K (.ref f0) = true
  b : Binds K fd0 ["self", "kind"] []
/-- what is known of an error class of one field -/
structure ErrT (K : PySem.W.Frag) (mg : Str → Option Value) (x f : Str) (C fI : Addr) : Prop where
  o : OexC K C
  g : mg x = some (.ref C)
  iC : PySem.W.findIn K (.ref C) "__init__" = some (some (.ref fI))
  tI : PySem.W.typeIn K (.ref fI) = some (.type "function")
  nk : PySem.W.findIn K (.ref C) "kind" = some none
  nf : PySem.W.findIn K (.ref C) f = some none
end Wm
namespace Wm
open PySem L2
section
variable {P : Program} {w : World} {K : PySem.W.Frag} {mg : Str → Option Value} {base : Heap}
theorem scW0 : FnScope ["self", "kind"] ["self", "kind"] (defScope sW0) := ⟨rfl, rfl, rfl, by decide +kernel, rfl, by decide +kernel, by decide +kernel⟩
theorem ok_who {f : Addr} {fd : FuncData} {dvs : List V} (F : FunD K "__init__" "WhoError.__init__" (defArgs sW0) (defBody sW0) (defScope sW0) dvs [] f fd) : FnOk P w K mg base CX0 1 f fd ["self", "kind"] (spWI K) := by
  refine F.ok scW0 (fun vs H Q E h => ?_) (fun cdv A outer s H vs Q E hr h => ?_)
  · obtain ⟨a, C, v, rfl, _⟩ := h
    rfl
  · obtain ⟨a, C, v, rfl, o, nk, ha, k⟩ := h
    refine ⟨_, pss_one (ps_ost (pv 0) (pv 1)), ?_⟩
    exact ⟨_, rfl, _, rfl, a, C, rfl, o, nk, .inl ⟨ha, fun dx n ne => k dx n ne⟩⟩
theorem scN0 : FnScope ["self", "name"] ["self", "name"] (defScope sN0) := ⟨rfl, rfl, rfl, by decide +kernel, rfl, by decide +kernel, by decide +kernel⟩
theorem ok_noname {f C f0 W : Addr} {fd fd0 : FuncData} (F : Fun K "__init__" "NoName.__init__" sN0 f fd) (T : ErrT K mg "NoName" "name" C f) (TW : WhoT K mg W f0 fd0) (G0 : FnOk P w K mg base CX0 1 f0 fd0 ["self", "kind"] (spWI K)) :
    FnOk P w K mg base CX0 2 f fd ["self", "name"] (spE1 C "name" "noname") := by
  refine F.ok scN0 (fun vs H Q E h => ?_) (fun cdv A outer s H vs Q E hr h => ?_)
  · obtain ⟨a, v, rfl, _⟩ := h
    rfl
  · obtain ⟨a, v, rfl, ha, k⟩ := h
    refine ⟨_, pss_cons (ps_expr (pe_clsFn rfl TW.g TW.r TW.m TW.k G0 hr TW.b .nil pass0 (pa_cons (pv 0) (pa_cons pe_str pa_nil)))) (pss_one (ps_ost (pv 0) (pv 1))), ?_⟩
    refine ⟨_, rfl, a, C, _, rfl, T.o, T.nk, ha, fun dx n ne => ?_⟩
    refine ⟨_, rfl, _, rfl, a, C, rfl, T.o, T.nf, .inr ⟨dx, _, upd_same, Eq.trans (upd_ne ne) upd_same, by decide, ?_⟩⟩
    refine k dx _ n ne (fun b o nb e => ?_) ?_ upd_same
    · have nd : b ≠ dx := ne_of_none e n
      rw [upd_ne nd, upd_ne nb, upd_ne nd]
      exact e
    · rw [upd_ne ne.symm, upd_same]
end
end Wm
namespace Wm
open PySem L2
/-! ### names -/
def LET : List Nat := (PySem.Str.ofString "abcdefghijklmnopqrstuvwxyz").cps.toList
def FIG : List Nat := (PySem.Str.ofString "0123456789").cps.toList
def okc (c : Nat) : Bool := decide (c ∈ LET) || decide (c ∈ FIG)
def first (l : List Nat) : Bool := match l with
  | [] => false
  | c :: _ => decide (c ∈ LET)
def isNm (z : Str) : Bool := decide (1 ≤ z.length) && (decide (z.length ≤ 12) && (first z.cps.toList && z.cps.toList.all okc))
theorem alnum : (PySem.Str.ofString "abcdefghijklmnopqrstuvwxyz0123456789").cps.toList = LET ++ FIG := by decide +kernel
theorem let_fig : ∀ c ∈ LET, ¬ c ∈ FIG := by decide +kernel
theorem okc_alnum (c : Nat) : decide (c ∈ (PySem.Str.ofString "abcdefghijklmnopqrstuvwxyz0123456789").cps.toList) = okc c := by
  rw [alnum]
  unfold okc
  by_cases h : c ∈ LET <;> by_cases h2 : c ∈ FIG <;> simp [h, h2]
theorem len_eq (z : Str) : z.length = z.cps.toList.length := by
  show z.cps.size = _
  simp
theorem isNm_small {z : Str} (h : z.length < 1 ∨ 12 < z.length) : isNm z = false := by
  unfold isNm
  rcases h with h | h
  · rw [decide_eq_false (by omega)]
    rfl
  · rw [decide_eq_false (p := z.length ≤ 12) (by omega)]
    simp
theorem isNm_first {z : Str} {c : Nat} (h1 : z.cps.toList[0]? = some c) (hc : ¬ c ∈ LET) : isNm z = false := by
  unfold isNm
  have e : first z.cps.toList = false := by
    cases q : z.cps.toList with
    | nil => rfl
    | cons d r =>
      rw [q] at h1
      have e : d = c := Option.some.inj h1
      rw [e]
      exact decide_eq_false hc
  rw [e]
  simp
theorem isNm_all {z : Str} {c : Nat} (h0 : ¬ z.length < 1) (h12 : ¬ 12 < z.length) (h1 : z.cps.toList[0]? = some c) (hc : c ∈ LET) : isNm z = z.cps.toList.all okc := by
  unfold isNm
  have e : first z.cps.toList = true := by
    cases q : z.cps.toList with
    | nil =>
      rw [q] at h1
      cases h1
    | cons d r =>
      rw [q] at h1
      have e : d = c := Option.some.inj h1
      rw [e]
      exact decide_eq_true hc
  rw [e, decide_eq_true (by omega), decide_eq_true (by omega)]
  rfl
theorem isNm_fig {z : Str} {c : Nat} (h1 : z.cps.toList[0]? = some c) (hc : c ∈ FIG) : isNm z = false := isNm_first h1 fun h => let_fig c h hc
theorem isNm_all2 {z : Str} {c : Nat} (h0 : ¬ z.length < 1) (h12 : ¬ 12 < z.length) (h1 : z.cps.toList[0]? = some c) (hc : ¬ c ∈ FIG) : isNm z = z.cps.toList.all okc := by
  by_cases h : c ∈ LET
  · exact isNm_all h0 h12 h1 h
  · rw [isNm_first h1 h]
    have hm : c ∈ z.cps.toList := List.mem_of_getElem? h1
    have e : okc c = false := by
      unfold okc
      rw [decide_eq_false h, decide_eq_false hc]
      rfl
    symm
    rw [List.all_eq_false]
    exact ⟨c, hm, by rw [e]; decide⟩
theorem all_map {l : List Nat} {f : Nat → Bool} : (l.map f).all id = l.all f := by
  induction l with
  | nil => rfl
  | cons a r ih => rw [List.map_cons, List.all_cons, List.all_cons, ih]; rfl
def spName : Sp := fun vs H Q _ => ∃ z : Str, vs = [.str z] ∧ z.length ≤ 1000 ∧ ∀ H', Same H H' → Q (.bl (isNm z)) H'
/-- the constants of names.py -/
structure TxN (mg : Str → Option Value) : Prop where
  lets : ∃ t, mg "LETTERS" = some (.str (PySem.Str.ofString "abcdefghijklmnopqrstuvwxyz") t)
  figs : ∃ t, mg "FIGURES" = some (.str (PySem.Str.ofString "0123456789") t)
  long : ∃ t, mg "LONGEST_NAME" = some (.int 12 t)
/-- the reading of [f(sign) for sign in text] -/
theorem lc_signs {z : Str} {f : Nat → Bool} {g : TG} {te : TE} {vs : List Nat} {σ : St} {H1 : Hp} {D : Addr} {Qd : Hp → Prop} (hz : z.length ≤ 1000) (hD : H1 D = none)
    (he : ∀ (c : Nat) (H : Hp) (Q : St → Hp → Prop), (∀ σ2, wipe σ2 vs = wipe σ vs → (∀ Q2 : VK, Q2 (.bl (f c)) H → te σ2 H Q2) → Q σ2 H) → g (.str ⟨#[c]⟩) (wipe σ vs) H Q)
    (hd : ∀ H, Same H1 H → H D = some (.lst ((z.cps.toList.map f).map V.bl)) → Qd H) :
    ∃ W : Nat → Nat → Hp → Prop, (∃ m, W 0 m (upd H1 D (.lst []))) ∧ ∀ i m H, W i m H →
      ((Its z).stop i H ∧ Qd H) ∨ ((Its z).go i H ∧ ∃ Nx : Hp → Prop, (∀ H', Nx H' → ∃ m', m' < m ∧ W (i + 1) m' H') ∧ ∀ x H', (Its z).yld i H x H' → g x (wipe σ vs) H' fun σ2 H2 => wipe σ2 vs = wipe σ vs ∧ tYes σ2 H2 fun b H3 =>
        if b = true then te σ2 H3 fun y H4 => ∃ acc, H4 D = some (.lst acc) ∧ acc.length < sizeLine ∧ Nx (upd H4 D (.lst (acc ++ [y]))) else Nx H3) := by
  refine lc_it (walk_str (z := z)) (fun i H' => Same H1 H' ∧ H' D = some (.lst (((z.cps.toList.take i).map f).map V.bl))) ⟨Same.upd hD, upd_same⟩ (fun _ _ _ _ => True.intro) ?_ ?_
  · rintro i x H H' hi ⟨hS, hl⟩ ⟨rfl, c, hc, rfl⟩
    refine he c H' _ fun σ2 hw hq => ⟨hw, hq _ ?_⟩
    refine ⟨_, hl, ?_, ?_, ?_⟩
    · rw [List.length_map, List.length_map, List.length_take]
      have e := len_eq z
      exact Nat.lt_of_le_of_lt (show _ ≤ 1000 by omega) (by decide)
    · intro b o h
      have nb : b ≠ D := ne_of_none h hD
      rw [upd_ne nb]
      exact hS b o h
    · rw [upd_same]
      have e : z.cps.toList[i]? = some c := by simpa using hc
      have hlt : i < z.cps.toList.length := (List.getElem?_eq_some_iff.mp e).1
      rw [List.take_add_one, e, List.map_append, List.map_append]
      rfl
  · rintro H ⟨hS, hl⟩
    refine hd H hS ?_
    rw [hl, List.take_of_length_le (by simp)]
section
variable {P : Program} {w : World} {K : PySem.W.Frag} {mg : Str → Option Value} {base : Heap}
theorem scName : FnScope ["text", "sign"] ["text"] (defScope sName) := ⟨rfl, rfl, rfl, by decide +kernel, rfl, by decide +kernel, by decide +kernel⟩
theorem ok_name {f : Addr} {fd : FuncData} (F : Fun K "is_name" "is_name" sName f fd) (T : TxB mg) (TN : TxN mg) : FnOk P w K mg base CX0 1 f fd ["text"] spName := by
  obtain ⟨t1, hlet⟩ := TN.lets
  obtain ⟨t2, hfig⟩ := TN.figs
  obtain ⟨t3, hlong⟩ := TN.long
  refine F.ok scName (fun vs H Q E h => ?_) (fun cdv A outer s H vs Q E hr h => ?_)
  · obtain ⟨z, rfl, _⟩ := h
    rfl
  · obtain ⟨z, rfl, hz, k⟩ := h
    have hzl : z.length ≤ sizeLine := Nat.le_trans hz (by decide)
    refine ⟨_, (pss_cons (ps_if (PW.pt (pw_or (pt_cmpR op_lt (pe_callB call_len_str (by rfl) T.len (by decide +kernel) (pa_cons (pv 0) pa_nil)) pe_int (nomark _)) (pw_or1 (pt_cmpR op_gt (pe_callB call_len_str (by rfl) T.len (by decide +kernel) (pa_cons (pv 0) pa_nil)) (pe_glob (v := .int 12) (by rfl) hlong ⟨_, rfl⟩) (nomark _))))) (pss_one (ps_ret pe_bl)) pss_nil)
      (pss_cons (ps_if (pt_cmpR op_notIn_sign (pe_ix ix_str (pv 0) pe_int (fun _ _ => rfl)) (pe_glob (v := .str (PySem.Str.ofString "abcdefghijklmnopqrstuvwxyz")) (by rfl) hlet ⟨_, rfl⟩) (by rfl)) (pss_one (ps_ret pe_bl)) pss_nil)
      (pss_one (ps_ret (pe_callB (cr_all rfl) (by rfl) T.all (by decide +kernel) (pa_cons (pe_lc (own := [("sign", 1)]) (g := gName 1) rfl scName.nd (pi_str (pv 0)) (blkOk_by (N := ["text", "sign"]) (sc := defScope sName) (by decide +kernel)) (fun _ _ _ _ _ => (pg_name (i := 1) scName.nd rfl (Or.inl rfl))) (fun _ _ _ _ _ => pts_nil) (fun _ _ _ _ _ => (pe_or (pe_cmpR op_in_sign (pv 1) (pe_glob (v := .str (PySem.Str.ofString "abcdefghijklmnopqrstuvwxyz")) (by rfl) hlet ⟨_, rfl⟩) (by rfl)) (pe_one (pe_cmpR op_in_sign (pv 1) (pe_glob (v := .str (PySem.Str.ofString "0123456789")) (by rfl) hfig ⟨_, rfl⟩) (by rfl)))))) pa_nil)))))), ?_⟩
    refine ⟨_, rfl, z, rfl, hzl, _, _, rfl, rfl, _, rfl, ?_⟩
    refine ite2 (fun h1 => ?_) (fun h1 => ?_)
    · have h1' : (z.length : Int) < 1 := of_decide_eq_true h1
      refine iteT ?_
      have e : isNm z = false := isNm_small (.inl (by omega))
      have q := k H (Same.refl H)
      rw [e] at q
      exact q
    refine ⟨_, rfl, z, rfl, hzl, _, _, rfl, rfl, _, rfl, ?_⟩
    refine ite2 (fun h2 => ?_) (fun h2 => ?_)
    · have h2' : (12 : Int) < z.length := of_decide_eq_true h2
      have e : isNm z = false := isNm_small (.inr (by omega))
      have q := k H (Same.refl H)
      rw [e] at q
      exact q
    have h1' : ¬ z.length < 1 := fun x => h1 (decide_eq_true (by omega))
    have h2' : ¬ 12 < z.length := fun x => h2 (decide_eq_true (by omega))
    refine ⟨_, rfl, ?_⟩
    dsimp only [tC]
    refine rdItem (n := z.length) rfl (by decide) (by omega) (by omega) fun c hc => ?_
    refine ⟨c, _, rfl, rfl, _, rfl, ?_⟩
    refine ite2 (fun h3 => ?_) (fun h3 => ?_)
    · have h3' : ¬ c ∈ LET := fun x => by
        rw [show decide (c ∈ (PySem.Str.ofString "abcdefghijklmnopqrstuvwxyz").cps.toList) = true from decide_eq_true x] at h3
        cases h3
      have q := k H (Same.refl H)
      rw [isNm_first hc h3'] at q
      exact q
    have h3' : c ∈ LET := by
      by_cases x : c ∈ LET
      · exact x
      · rw [show decide (c ∈ (PySem.Str.ofString "abcdefghijklmnopqrstuvwxyz").cps.toList) = false from decide_eq_false x] at h3
        exact absurd rfl h3
    refine ⟨_, rfl, z, rfl, fun D hD => ?_⟩
    refine lc_signs (z := z) (f := okc) hz hD (fun c H Q q => ?_) fun H' hS hl => ?_
    · refine q _ rfl fun Q2 q2 => ?_
      refine ⟨_, rfl, c, _, rfl, rfl, _, rfl, ?_⟩
      unfold okc at q2
      refine ite2 (fun h => ?_) (fun h => ?_)
      · have h' : decide (c ∈ LET) = true := h
        rw [h'] at q2
        exact q2
      · have h' : decide (c ∈ LET) = false := Bool.eq_false_iff.mpr h
        rw [h'] at q2
        exact ⟨_, rfl, c, _, rfl, rfl, q2⟩
    · refine ⟨D, _, rfl, SqL.of hl, ?_⟩
      have q := k H' hS
      rw [isNm_all h1' h2' hc h3', ← all_map] at q
      exact q
end
end Wm
namespace Wm
open PySem L2
theorem mk1 {C : Addr} {f kd : Str} {v : V} {H : Hp} {Q : XK} (k : ∀ d H', H d = none → Same H H' → H' d = some (.xd (ef1 f kd v)) → Q (.ref C) (some d) H') :
    [v].length ≤ 1000 ∧ ∀ a, H a = none → spE1 C f kd (.ref a :: ([v] ++ [])) (upd H a (exo a C none)) (fun u H2 => u = .non ∧ ∃ (d : Addr) (fs : List (Str × V)), H2 a = some (exo a C (some d)) ∧ H2 d = some (exd d fs) ∧ H d = none ∧ Q (.ref C) (some d) (upd (del H2 a) d (.xd fs))) (fun _ _ _ => False) := by
  refine ⟨by show 1 ≤ 1000; decide, fun a na => ⟨a, v, rfl, upd_same, fun dx H' n ne kp ha hd => ⟨rfl, dx, _, ha, hd, ?_, ?_⟩⟩⟩
  · rw [upd_ne ne] at n
    exact n
  · rw [upd_ne ne] at n
    refine k dx _ n (fun b o e => ?_) upd_same
    have nb : b ≠ a := ne_of_none e na
    rw [upd_ne (ne_of_none e n), del_ne nb]
    exact kp b o nb (by rw [upd_ne nb]; exact e)
/-- what is due of the first text that is no name -/
def DueN (C : Addr) (zs : List Str) (H : Hp) (Q : VK) (E : XK) : Prop := match zs.find? (fun z => !isNm z) with
  | none => ∀ H', Same H H' → Q .non H'
  | some z => ∀ d H', H d = none → Same H H' → H' d = some (.xd (ef1 "name" "noname" (.str z))) → E (.ref C) (some d) H'
def spRN (K : PySem.W.Frag) (C : Addr) : Sp := fun vs H Q E => ∃ (l : Addr) (zs : List Str), vs = [.ref l] ∧ SqL K H l (zs.map V.str) ∧ zs.length ≤ 1000 ∧ (∀ z ∈ zs, z.length ≤ 1000) ∧ DueN C zs H Q E
theorem find_none_take {zs : List Str} {i : Nat} {z : Str} {p : Str → Bool} (h : ∀ y ∈ zs.take i, p y = false) (e : zs[i]? = some z) (hz : p z = true) : zs.find? p = some z := by
  have hlt : i < zs.length := (List.getElem?_eq_some_iff.mp e).1
  have e2 : zs = zs.take i ++ z :: zs.drop (i + 1) := by
    have q := List.take_append_drop i zs
    have q2 := List.drop_eq_getElem_cons hlt
    have q3 : zs[i] = z := (List.getElem?_eq_some_iff.mp e).2
    rw [q2, q3] at q
    exact q.symm
  rw [e2, List.find?_append]
  have n : (zs.take i).find? p = none := by
    rw [List.find?_eq_none]
    intro y hy
    rw [h y hy]
    decide
  rw [n]
  simp [hz]
section
variable {P : Program} {w : World} {K : PySem.W.Frag} {mg : Str → Option Value} {base : Heap}
theorem scRN : FnScope ["texts", "text"] ["texts"] (defScope sRN) := ⟨rfl, rfl, rfl, by decide +kernel, rfl, by decide +kernel, by decide +kernel⟩
theorem ok_rn {f fN C fI : Addr} {fd fdN fdI : FuncData} (F : Fun K "refuse_no_name" "refuse_no_name" sRN f fd) (D : Dn K mg "is_name" sName ["text"] fN fdN) (GN : FnOk P w K mg base CX0 1 fN fdN ["text"] spName) (TE : ErrT K mg "NoName" "name" C fI) (bI : Binds K fdI ["self", "name"] [])
    (GI : FnOk P w K mg base CX0 2 fI fdI ["self", "name"] (spE1 C "name" "noname")) : FnOk P w K mg base (L2.CX P w) 4 f fd ["texts"] (spRN K C) := by
  refine F.okX scRN (fun vs H Q E h => ?_) (fun cdv A outer s H vs Q E hr h => ?_)
  · obtain ⟨l, zs, rfl, _⟩ := h
    rfl
  · obtain ⟨l, zs, rfl, hl, hn, hz, k⟩ := h
    have hr1 : Room 1 _ := hr.mono (by decide)
    refine ⟨_, (pss_one (ps_for (passes_of rfl) rfl (pi_list (pv 0)) (pg_name (i := 1) scRN.nd rfl (Or.inl rfl)) (pss_one (ps_if (pt_not (pt_val (pe_call GN hr1 rfl D.g D.F.kp D.b .nil pass0 (pa_cons (pv 1) pa_nil)))) (pss_one (ps_raise rfl (takes_of rfl rfl rfl rfl) (pmk_oex TE.o TE.iC TE.tI GI hr bI .nil pass0 rfl TE.g (pa_cons (pv 1) pa_nil)))) pss_nil)))), ?_⟩
    refine ⟨_, rfl, l, rfl, ⟨_, hl⟩, for_list (K := K) (a := l) (xs := zs.map V.str) (fun i σ H' => ∃ v, σ = [some (.ref l), v] ∧ Same H H' ∧ ∀ y ∈ zs.take i, (!isNm y) = false) ⟨none, rfl, Same.refl H, fun y hy => (List.not_mem_nil hy).elim⟩
      (fun i σ H' _ ⟨_, _, hS, _⟩ => hS.seq hl) ?_ ?_⟩
    · rintro i y σ H' hi ⟨v, rfl, hS, hno⟩
      obtain ⟨z, hzi, rfl⟩ : ∃ z, zs[i]? = some z ∧ y = V.str z := by
        rw [List.getElem?_map] at hi
        cases e : zs[i]? with
        | none =>
          rw [e] at hi
          cases hi
        | some z =>
          rw [e] at hi
          exact ⟨z, rfl, (Option.some.inj hi).symm⟩
      refine ⟨_, rfl, z, rfl, hz z (List.mem_of_getElem? hzi), fun H2 hS2 => ⟨_, rfl, ?_⟩⟩
      refine ite2 (fun h => ?_) (fun h => ?_)
      · refine ⟨_, rfl, ?_⟩
        have e := find_none_take hno hzi h
        unfold DueN at k
        rw [e] at k
        refine mk1 fun d H3 hd hS3 hx => k d H3 (hS.free (hS2.free hd)) (hS.trans (hS2.trans hS3)) hx
      · refine ⟨_, rfl, hS.trans hS2, fun y hy => ?_⟩
        rw [List.take_add_one, hzi] at hy
        rcases List.mem_append.mp hy with hy | hy
        · exact hno y hy
        · have e : y = z := by simpa using hy
          rw [e]
          exact Bool.eq_false_iff.mpr h
    · rintro σ H' ⟨v, rfl, hS, hno⟩
      have e : zs.find? (fun z => !isNm z) = none := by
        rw [List.find?_eq_none]
        intro y hy
        rw [List.length_map, List.take_length] at hno
        rw [hno y hy]
        decide
      unfold DueN at k
      rw [e] at k
      exact k H' hS
end
end Wm
namespace Wm
open PySem PySem.Spec PyProof.Rows L2
/-- enumerate(v): its two new cells -/
theorem meets_enum1 {v : Value} {o : Obj} {H : Heap → Prop} (B : Begins v o H) :
    Meets (Builtin.«enumerate.__new__» ⟨[.type "enumerate", v], []⟩) (fun _ R s => H s.heap ∧
      R (.ok (.ret (.ref (s.heap.push o).objs.size))) { s with heap := (s.heap.push o).push { cls := .type "enumerate", data := .fields #[.none, .bool false, .ref s.heap.objs.size, rawInt 0, .none, .none] } }) :=
  .of_wp fun prog w A R s hh => by
    obtain ⟨hp, g, d, tk, os⟩ := s
    obtain ⟨h1, h⟩ := hh
    have hsub := sub_enumerate
    have q1 : ∀ {A' : Around} {E : Value → Shared → Prop} {Q : Value → Shared → Prop}, Q (.ref hp.objs.size) ⟨hp.push o, g, d, tk, os⟩ → wpAny (model prog w) A' (pyIter v) Q E ⟨hp, g, d, tk, os⟩ := fun q => B.iter prog w _ _ ⟨hp, g, d, tk, os⟩ _ h1 q
    wp_walk using q1
    refine wpAny_stack_any fun stk => wpAny_pure ?_
    split
    · rename_i c _ _ _ _ _
      cases (c == Value.type "enumerate") <;> (wp_walk using q1; exact ⟨_, rfl, h⟩)
    · wp_walk using q1
      exact ⟨_, rfl, h⟩
theorem call_enum_tup {prog : Program} {w : World} {A : Around} {E : Value → Shared → Prop} {s : Shared} {t : Addr} {items : Array Value} {Q : Value → Shared → Prop} (hL : s.heap.IsTuple t items)
    (h : ∀ h', IsEnum h' (s.heap.objs.size + 1) s.heap.objs.size 0 .none → h'.IsTupleIter s.heap.objs.size t 0 → (∀ b o, s.heap.get? b = some o → h'.get? b = some o) → Q (.ref (s.heap.objs.size + 1)) { s with heap := h' }) :
    wpAny (model prog w) A (call (.type "enumerate") [.ref t]) Q E s := by
  refine callType_new F.called_enumerate (by decide) (F.typeCall_enumerate_1 _) (F.newCall_enumerate_1 _) (fun obj => F.args_object_init_2 obj _) F.entry_enumerate_new (meets_enum1 (begins_tuple t items)) ⟨hL, ?_⟩
  generalize ho : ({ cls := .type "tuple_iterator", data := .fields #[.ref t, .int 0 0] } : Obj) = o
  have hz : (s.heap.push o).objs.size = s.heap.objs.size + 1 := Heap.size_push ..
  show _ ∧ _
  rw [hz]
  generalize he : ({ cls := .type "enumerate", data := .fields #[.none, .bool false, .ref s.heap.objs.size, rawInt 0, .none, .none] } : Obj) = eo
  have h2 : ((s.heap.push o).push eo).get? (s.heap.objs.size + 1) = some eo := by
    have q := Heap.get?_push_size (s.heap.push o) (o := eo) (by rw [← he]; rfl)
    rw [hz] at q
    exact q
  have h3 : ((s.heap.push o).push eo).get? s.heap.objs.size = some o := Heap.get?_push_of_some _ (Heap.get?_push_size _ (by rw [← ho]; rfl))
  refine ⟨⟨_, h2, by rw [← he]⟩, h _ ?_ ⟨o, h3, by rw [← ho], by rw [← ho]; rfl⟩ fun b o x => Heap.get?_push_of_some _ (Heap.get?_push_of_some _ x)⟩
  show ((s.heap.push o).push eo).get? (s.heap.objs.size + 1) = some _
  rw [h2, ← he]
/-- the tuple at a, each item in a new pair -/
def IteT (K : PySem.W.Frag) (a : Addr) (xs : List V) : It :=
  ⟨fun i H => SqT K H a xs ∧ i < xs.length, fun i H v H' => ∃ T x, v = .ref T ∧ H T = none ∧ H' = upd H T (.tup [.int (i : Nat), x]) ∧ xs[i]? = some x, fun i H => SqT K H a xs ∧ i = xs.length⟩
theorem turn_enumT {P : Program} {w : World} {K : PySem.W.Frag} {elts : List Expr} {kk : Nat} {tpos : Pos} {xs : List V} (a e it : Addr) (his : List Value) :
    Turn P w K (.Tuple elts kk tpos) (IteT K a xs) [e, it] e (fun i h => (∃ old, IsEnum h e it ((i : Nat) : Int) old) ∧ h.IsTupleIter it a i ∧ e ≠ it ∧ a ≠ it ∧ a ≠ e) where
  mem := by simp
  obj := fun i h st b hb => by
    obtain ⟨⟨old, he⟩, ⟨o, ho, hc, hd⟩, _⟩ := st
    rcases (show b = e ∨ b = it by simpa using hb) with z | z
    · rw [z]
      exact ⟨_, he, fun v q => nomatch q⟩
    · rw [z]
      exact ⟨o, ho, fun v q => by rw [hd] at q; cases q⟩
  keep := fun i h h' st k => let ⟨⟨old, he⟩, hi, hne⟩ := st; ⟨⟨old, k e (by simp) _ he⟩, hi.at fun o q => k it (by simp) o q, hne⟩
  item := by
    intro X hP hw hK hc i pins s σ H E I hf st hg
    subst hP hw hK
    obtain ⟨⟨old, he⟩, hit, hne, nai, nae⟩ := st
    obtain ⟨hq, hlt⟩ := hg
    obtain ⟨its, rv, p, hz⟩ := I.tuple hq
    have hlen := rv.length
    have hel : e < s.heap.objs.size := Heap.lt_size he
    have hil : it < s.heap.objs.size := by obtain ⟨_, q, _⟩ := hit; exact Heap.lt_size q
    have D : Draws X.prog X.w X.A.in1 it [it, a] its.toArray.size (fun i v => its.toArray[i]? = some v) (fun i h => h.IsTupleIter it a i ∧ h.IsTuple a its.toArray) := Draws.tuple (A := X.A.in1) (show X.A.in1.handled = none from I.ok.hd hc) it a nai its.toArray
    refine wpAny_pyNext_enum_itemC D he ⟨hit, p⟩ (by rw [List.size_toArray]; omega) hne (by simp [hne, Ne.symm nae]) fun u h' tk hu ho hst' hT hsz hk => ?_
    have hu' : its[i]? = some u := by simpa using hu
    obtain ⟨x, hx, ru⟩ : ∃ x, xs[i]? = some x ∧ RelV x u := by
      obtain ⟨u2, h2, r2⟩ := rv.get (List.getElem?_eq_getElem hlt)
      rw [hu'] at h2
      cases h2
      exact ⟨_, List.getElem?_eq_getElem hlt, r2⟩
    refine ⟨_, rfl, wpAny_letOwnedTupleGo_enum (s := { s with heap := h', toks := tk + 1 }) ho fun h'' he' sb => ?_⟩
    have hT2 : h''.get? s.heap.objs.size = some { cls := .type "tuple", data := .seq #[.int i tk, u] } := (sb.2 _ (Nat.ne_of_gt hel)).trans hT
    have new : ObjOk X.prog X.w (upd H s.heap.objs.size (.tup [.int (i : Nat), x])) h'' s.heap.objs.size (.tup [.int (i : Nat), x]) := ⟨by show 2 ≤ sizeLine; decide, [.int i tk, u], .cons ⟨_, rfl⟩ (.cons ru .nil), ⟨_, hT2, rfl, _, rfl⟩⟩
    have I1 : Inv X pins σ (upd H s.heap.objs.size (.tup [.int (i : Nat), x])) { s with heap := h'', toks := tk + 1 } :=
      I.turnedNew (ch := [e, it]) (fun b ob hb q => (sb.2 b (fun z => hb (by simp [z]))).trans (hk b ob (fun z => hb (by simp [z])) (fun z => hb (by simp [z])) q)) hf (Nat.le_refl _) new
    refine ⟨.ref s.heap.objs.size, _, I1, rfl, ⟨_, x, rfl, I.hok.fresh (Nat.le_refl _), rfl, hx⟩, ⟨⟨u, ?_⟩, hst'.1.at fun o q => (sb.2 it (Ne.symm hne)).trans q, hne, nai, nae⟩, fun b hb => ?_⟩
    · have e1 : ((i + 1 : Nat) : Int) = (i : Int) + 1 := by omega
      rw [e1]
      exact he'
    · have hb' : b < s.heap.objs.size := by
        rcases (show b = e ∨ b = it by simpa using hb) with z | z
        · rw [z]; exact hel
        · rw [z]; exact hil
      rw [upd_ne (Nat.ne_of_lt hb')]
      exact (hf b hb).1
  done := by
    intro X hP hw hK hc i pins s σ H E I hf st hg
    subst hP hw hK
    obtain ⟨⟨old, he⟩, hit, hne, nai, nae⟩ := st
    obtain ⟨hq, hi⟩ := hg
    obtain ⟨its, rv, p, hz⟩ := I.tuple hq
    have hlen := rv.length
    obtain ⟨f0, f1, f2, f3, f4, f5⟩ := hf it (by simp)
    have D : Draws X.prog X.w X.A.in1 it [it, a] its.toArray.size (fun i v => its.toArray[i]? = some v) (fun i h => h.IsTupleIter it a i ∧ h.IsTuple a its.toArray) := Draws.tuple (A := X.A.in1) (show X.A.in1.handled = none from I.ok.hd hc) it a nai its.toArray
    have en : i = its.toArray.size := by rw [List.size_toArray]; omega
    rw [en] at he hit
    exact wpAny_pyNext_enum_endD D he ⟨hit, p⟩ fun h' eb => ⟨rfl, I.turned (t' := s.toks) (fun b o hb q => eb b o hb q) f0 f1 f3 f4 f5⟩
  self := fun A i s Q E st h => let ⟨⟨_, he⟩, _⟩ := st; wpAny_pyIter_enum he h
def iEnumT (K : PySem.W.Frag) (ta : TA) : TI := fun σ H R => ta σ H fun vs H1 => ∃ a xs, vs = [.ref a] ∧ SqT K H1 a xs ∧ R (IteT K a xs) H1
theorem pi_enumT {X : Cx} {e : Expr} {ta : TA} {p pos tpos : Pos} {elts : List Expr} {kk : Nat} (hg : Gl X "enumerate") (hm : X.mg "enumerate" = none) (ha : PA X [e] ta) (hs : starEach [e] X.env = [(false, eval e X.env)] := by rfl) :
    PI X (.Tuple elts kk tpos) (.Call (.Name "enumerate" p) [e] [] pos) (iEnumT X.K ta) := by
  refine ⟨fun pins s σ H R I h => ?_⟩
  refine Call_ (ld_blt I hg hm boot_enumerate (PyProof.Rows.callWith_type1 (thn (ha.run pos pins s σ H _ I h) fun us s1 ⟨vs, H1, I1, r1, a, xs, ex, hq, q⟩ => ?_) hs rfl))
  subst ex
  cases r1 with
  | cons r rr =>
    cases rr
    cases r
    obtain ⟨its, rv, p', hz⟩ := I1.tuple hq
    have hal : a < s1.heap.objs.size := by obtain ⟨_, z, _⟩ := p'; exact Heap.lt_size z
    refine call_enum_tup (items := its.toArray) p' fun h' he hit hk => wpAny_pyIter_enum he ?_
    have I2 : Inv X pins σ H1 { s1 with heap := h' } := I1.kept (t' := s1.toks) hk
    refine ⟨s1.heap.objs.size + 1, [s1.heap.objs.size + 1, s1.heap.objs.size], _, _, H1, rfl, I2, turn_enumT a (s1.heap.objs.size + 1) s1.heap.objs.size its, ⟨⟨.none, he⟩, hit, Nat.succ_ne_self _, Nat.ne_of_lt hal, Nat.ne_of_lt (Nat.lt_succ_of_lt hal)⟩, fun b hb => ?_, q⟩
    have hle : s1.heap.objs.size ≤ b := by
      rcases (show b = s1.heap.objs.size + 1 ∨ b = s1.heap.objs.size by simpa using hb) with z | z
      · rw [z]; exact Nat.le_add_right _ _
      · rw [z]; exact Nat.le_refl _
    exact I1.fpOk hle (I1.hok.fresh hle)
theorem walk_enumT {K : PySem.W.Frag} {a : Addr} {xs : List V} : Walk (IteT K a xs) xs.length (fun H => SqT K H a xs) (YPair (fun i => some (.int (i : Nat))) (fun i => xs[i]?)) := by
  refine ⟨fun i _ hi q => ⟨q, hi⟩, fun _ q => ⟨q, rfl⟩, fun i H v H' _ q y => ?_⟩
  obtain ⟨T, x, h1, h2, h3, h4⟩ := y
  exact ⟨T, .int (i : Nat), x, h1, h2, h3, rfl, h4⟩
end Wm
namespace Wm
open PySem L2
/-- the outer walk of a comprehension of two clauses -/
theorem lc2_it {J : It} {n : Nat} {G : Hp → Prop} {Y : Nat → Hp → V → Hp → Prop} (w : Walk J n G Y) {g : TG} {vs : List Nat} {σ : St} {H1 : Hp} {D : Addr} {Qd : Hp → Prop} {inner : St → Hp → (Hp → Prop) → Prop} (Pv : Nat → Hp → Prop) (h0 : Pv 0 (upd H1 D (.lst []))) (hG : ∀ i H, i ≤ n → Pv i H → G H)
    (hs : ∀ i x H H', i < n → Pv i H → Y i H x H' → g x (wipe σ vs) H' fun σ2 H2 => wipe σ2 vs = wipe σ vs ∧ inner σ2 H2 (Pv (i + 1))) (hd : ∀ H, Pv n H → Qd H) :
    ∃ W : Nat → Nat → Hp → Prop, (∃ m, W 0 m (upd H1 D (.lst []))) ∧ ∀ i m H, W i m H →
      (J.stop i H ∧ Qd H) ∨ (J.go i H ∧ ∃ Nx : Hp → Prop, (∀ H', Nx H' → ∃ m', m' < m ∧ W (i + 1) m' H') ∧ ∀ x H', J.yld i H x H' → g x (wipe σ vs) H' fun σ2 H2 => wipe σ2 vs = wipe σ vs ∧ inner σ2 H2 Nx) := by
  refine ⟨fun i m H => m = n - i ∧ i ≤ n ∧ Pv i H, ⟨n, by simp, Nat.zero_le _, h0⟩, ?_⟩
  rintro i m H ⟨rfl, hi, p⟩
  have q := hG i H hi p
  by_cases hlt : i < n
  · exact .inr ⟨w.goes i H hlt q, Pv (i + 1), fun H' p' => ⟨n - (i + 1), by omega, rfl, hlt, p'⟩, fun x H' y => hs i x H H' hlt p (w.yields i H x H' hlt q y)⟩
  · have e : i = n := by omega
    subst e
    exact .inl ⟨w.stops H q, hd H p⟩
/-- the inner one -/
theorem lc1_it {J : It} {n : Nat} {G : Hp → Prop} {Y : Nat → Hp → V → Hp → Prop} (w : Walk J n G Y) {g : TG} {te : TE} {vs : List Nat} {σ : St} {H4 : Hp} {D : Addr} {Nx : Hp → Prop} (Pv : Nat → Hp → Prop) (h0 : Pv 0 H4) (hG : ∀ i H, i ≤ n → Pv i H → G H)
    (hs : ∀ i x H H', i < n → Pv i H → Y i H x H' → g x (wipe σ vs) H' fun σ3 H5 => wipe σ3 vs = wipe σ vs ∧ te σ3 H5 fun y H7 => ∃ acc, H7 D = some (.lst acc) ∧ acc.length < sizeLine ∧ Pv (i + 1) (upd H7 D (.lst (acc ++ [y])))) (hd : ∀ H, Pv n H → Nx H) :
    ∃ W1 : Nat → Nat → Hp → Prop, (∃ m, W1 0 m H4) ∧ ∀ j k H, W1 j k H →
      (J.stop j H ∧ Nx H) ∨ (J.go j H ∧ ∃ Nx1 : Hp → Prop, (∀ H', Nx1 H' → ∃ k', k' < k ∧ W1 (j + 1) k' H') ∧ ∀ x H', J.yld j H x H' → g x (wipe σ vs) H' fun σ3 H5 => wipe σ3 vs = wipe σ vs ∧ tYes σ3 H5 fun b H6 =>
        if b = true then te σ3 H6 fun y H7 => ∃ acc, H7 D = some (.lst acc) ∧ acc.length < sizeLine ∧ Nx1 (upd H7 D (.lst (acc ++ [y]))) else Nx1 H6) := by
  refine ⟨fun i m H => m = n - i ∧ i ≤ n ∧ Pv i H, ⟨n, by simp, Nat.zero_le _, h0⟩, ?_⟩
  rintro i m H ⟨rfl, hi, p⟩
  have q := hG i H hi p
  by_cases hlt : i < n
  · exact .inr ⟨w.goes i H hlt q, Pv (i + 1), fun H' p' => ⟨n - (i + 1), by omega, rfl, hlt, p'⟩, fun x H' y => hs i x H H' hlt p (w.yields i H x H' hlt q y)⟩
  · have e : i = n := by omega
    subst e
    exact .inl ⟨w.stops H q, hd H p⟩
/-- tuple(x) of a list or a tuple -/
def rTupOf (K : PySem.W.Frag) : List V → Hp → VK → Prop := fun xs H Q => ∃ p ys, xs = [.ref p] ∧ ((SqL K H p ys ∧ ∀ l, H l = none → Q (.ref l) (upd H l (.tup ys))) ∨ (SqT K H p ys ∧ Q (.ref p) H))
theorem call_tupN {X : Cx} : CallR X (.type "tuple") (rTupOf X.K) := call_tuple_of
theorem same_seqT {K : PySem.W.Frag} {H H' : Hp} {a : Addr} {xs : List V} (e : Same H H') (h : SqT K H a xs) : SqT K H' a xs := by
  rcases h with (h | ⟨o, h⟩) | h
  · exact .inl (.inl (e _ _ h))
  · exact .inl (.inr ⟨o, e _ _ h⟩)
  · exact .inr h
/-- to be read as a list or a tuple -/
def Sq (K : PySem.W.Frag) (H : Hp) (a : Addr) (xs : List V) : Prop := SqL K H a xs ∨ SqT K H a xs
theorem same_sq {K : PySem.W.Frag} {H H' : Hp} {a : Addr} {xs : List V} (e : Same H H') (h : Sq K H a xs) : Sq K H' a xs := h.imp (fun h => e.seq h) (fun h => same_seqT e h)
theorem cut_take (xs : List V) (i : Nat) : cutV xs none (some (i : Int)) = xs.take i := by
  unfold cutV
  rw [HT.sIx_none, HT.sIx_nat, List.drop_zero, Nat.sub_zero]
  by_cases h : i ≤ xs.length
  · rw [Nat.min_eq_left h]
  · rw [Nat.min_eq_right (by omega), List.take_length, List.take_of_length_le (by omega)]
theorem all_take {xs : List V} (h : xs.all flatV = true) (i : Nat) : (xs.take i).all flatV = true := by
  rw [List.all_eq_true] at h ⊢
  exact fun x hx => h x (List.mem_of_mem_take hx)
end Wm
namespace Wm
open PySem L2
/-- no item stands ahead of itself -/
def NoTw (xs : List V) : Prop := ∀ (i : Nat) (x : V), xs[i]? = some x → inV x (xs.take i) = false
def spFT (K : PySem.W.Frag) : Sp := fun vs H Q _ => ∃ (l : Addr) (xs : List V), vs = [.ref l] ∧ Sq K H l xs ∧ xs.all flatV = true ∧ NoTw xs ∧ ∀ H', Same H H' → Q .non H'
def spRC : Sp := fun vs H Q _ => ∃ (z : V) (c lo hi : Int), vs = [z, .int c, .int lo, .int hi] ∧ lo ≤ c ∧ c ≤ hi ∧ Q .non H
section
variable {P : Program} {w : World} {K : PySem.W.Frag} {mg : Str → Option Value} {base : Heap}
theorem scRC : FnScope ["what", "count", "least", "most"] ["what", "count", "least", "most"] (defScope sRC) := ⟨rfl, rfl, rfl, by decide +kernel, rfl, by decide +kernel, by decide +kernel⟩
theorem ok_rc {f : Addr} {fd : FuncData} (F : Fun K "refuse_count" "refuse_count" sRC f fd) : FnOk P w K mg base CX0 1 f fd ["what", "count", "least", "most"] spRC := by
  refine F.ok scRC (fun vs H Q E h => ?_) (fun cdv A outer s H vs Q E hr h => ?_)
  · obtain ⟨z, c, lo, hi, rfl, _⟩ := h
    rfl
  · obtain ⟨z, c, lo, hi, rfl, h1, h2, k⟩ := h
    refine ⟨_, (pss_one (ps_if (PW.pt (pw_or (pt_cmpR op_lt (pv 1) (pv 2) (nomark _)) (pw_or1 (pt_cmpR op_gt (pv 1) (pv 3) (nomark _))))) (pss_one ps_never) pss_nil)), ?_⟩
    refine ⟨_, rfl, _, rfl, _, _, rfl, rfl, _, rfl, ?_⟩
    refine ite2 (fun h => absurd (of_decide_eq_true h) (by omega)) (fun _ => ?_)
    refine ⟨_, rfl, _, rfl, _, _, rfl, rfl, _, rfl, ?_⟩
    exact ite2 (fun h => absurd (of_decide_eq_true h) (by omega)) (fun _ => k)
theorem scFT : FnScope ["row", "place", "part"] ["row"] (defScope sFT) := ⟨rfl, rfl, rfl, by decide +kernel, rfl, by decide +kernel, by decide +kernel⟩
theorem ok_ft {f : Addr} {fd : FuncData} (F : Fun K "first_twice" "first_twice" sFT f fd) (T : TxB mg) : FnOk P w K mg base CX0 1 f fd ["row"] (spFT K) := by
  refine F.ok scFT (fun vs H Q E h => ?_) (fun cdv A outer s H vs Q E hr h => ?_)
  · obtain ⟨l, xs, rfl, _⟩ := h
    rfl
  · obtain ⟨l, xs, rfl, hl, hf, hno, k⟩ := h
    rcases hl with hl | hl
    · refine ⟨_, (pss_cons (ps_for PassesOwn.never rfl (pi_enum rfl T.enumerate (pa_cons (pv 0) pa_nil)) (pg_tup rfl (pgs_cons (pg_name (i := 1) scFT.nd rfl (Or.inl rfl)) (pgs_cons (pg_name (i := 2) scFT.nd rfl (Or.inl rfl)) pgs_nil))) (pss_one (ps_if (pt_cmpR op_in_seq (pv 2) (pe_slice sl_list (pv 0) po_none (po_some (pv 1))) (by rfl)) (pss_one (ps_ret (pv 1))) pss_nil)))
      (pss_one (ps_ret pe_non))), ?_⟩
      refine ⟨_, rfl, l, xs, rfl, hl, for_it walk_enum (fun i σ H' => (∃ u v, σ = [some (.ref l), u, v]) ∧ Same H H') ⟨⟨none, none, rfl⟩, Same.refl H⟩ (fun i σ H' _ p => p.2.seq hl) ?_ ?_⟩
      · rintro i x σ H1 H2 hi ⟨⟨u, v, rfl⟩, hS⟩ ⟨t, y, z, rfl, ht, rfl, e1, e2⟩
        cases e1
        refine ⟨t, _, rfl, SqT.of upd_same, rfl, _, _, rfl, _, _, rfl, rfl, ?_⟩
        have S2 := hS.trans (Same.upd (o := .tup [.int (i : Nat), z]) ht)
        refine ⟨_, rfl, _, rfl, _, rfl, _, rfl, l, xs, rfl, S2.seq hl, fun p hp => ?_⟩
        refine ⟨p, _, rfl, .inl (SqL.of upd_same), ?_, ?_, _, rfl, ?_⟩
        · exact List.all_eq_true.mp hf _ (List.mem_of_getElem? e2)
        · show (cutV xs none (some (i : Int))).all flatV = true
          rw [cut_take]
          exact all_take hf i
        · have e : inV z (cutV xs none (some (i : Int))) = false := by
            rw [cut_take]
            exact hno i z e2
          show if inV z (cutV xs none (some (i : Int))) = true then _ else _
          rw [e]
          exact iteF ⟨⟨_, _, rfl⟩, S2.trans (Same.upd hp)⟩
      · rintro σ H' ⟨_, hS⟩
        exact k H' hS
    · refine ⟨_, (pss_cons (ps_for PassesOwn.never rfl (pi_enumT rfl T.enumerate (pa_cons (pv 0) pa_nil)) (pg_tup rfl (pgs_cons (pg_name (i := 1) scFT.nd rfl (Or.inl rfl)) (pgs_cons (pg_name (i := 2) scFT.nd rfl (Or.inl rfl)) pgs_nil))) (pss_one (ps_if (pt_cmpR op_in_seq (pv 2) (pe_slice sl_tupA (pv 0) po_none (po_some (pv 1))) (by rfl)) (pss_one (ps_ret (pv 1))) pss_nil)))
      (pss_one (ps_ret pe_non))), ?_⟩
      refine ⟨_, rfl, l, xs, rfl, hl, for_it walk_enumT (fun i σ H' => (∃ u v, σ = [some (.ref l), u, v]) ∧ Same H H') ⟨⟨none, none, rfl⟩, Same.refl H⟩ (fun i σ H' _ p => same_seqT p.2 hl) ?_ ?_⟩
      · rintro i x σ H1 H2 hi ⟨⟨u, v, rfl⟩, hS⟩ ⟨t, y, z, rfl, ht, rfl, e1, e2⟩
        cases e1
        refine ⟨t, _, rfl, SqT.of upd_same, rfl, _, _, rfl, _, _, rfl, rfl, ?_⟩
        have S2 := hS.trans (Same.upd (o := .tup [.int (i : Nat), z]) ht)
        refine ⟨_, rfl, _, rfl, _, rfl, _, rfl, l, xs, rfl, same_seqT S2 hl, fun h => ?_, fun h p hp => ?_⟩
        · have en : xs.take i = xs := by
            rw [HT.sIx_nat] at h
            exact List.take_of_length_le (by omega)
          have e : inV z xs = false := by
            have q := hno i z e2
            rw [en] at q
            exact q
          refine ⟨l, xs, rfl, .inr (same_seqT S2 hl), List.all_eq_true.mp hf _ (List.mem_of_getElem? e2), hf, _, rfl, ?_⟩
          show if inV z xs = true then _ else _
          rw [e]
          exact iteF ⟨⟨_, _, rfl⟩, S2⟩
        · refine ⟨p, _, rfl, .inr (SqT.of upd_same), List.all_eq_true.mp hf _ (List.mem_of_getElem? e2), ?_, _, rfl, ?_⟩
          · show (cutV xs none (some (i : Int))).all flatV = true
            rw [cut_take]
            exact all_take hf i
          · have e : inV z (cutV xs none (some (i : Int))) = false := by
              rw [cut_take]
              exact hno i z e2
            show if inV z (cutV xs none (some (i : Int))) = true then _ else _
            rw [e]
            exact iteF ⟨⟨_, _, rfl⟩, S2.trans (Same.upd hp)⟩
      · rintro σ H' ⟨_, hS⟩
        exact k H' hS
theorem scRT : FnScope ["names", "place"] ["names"] (defScope sRT) := ⟨rfl, rfl, rfl, by decide +kernel, rfl, by decide +kernel, by decide +kernel⟩
theorem ok_rt {f fF : Addr} {fd fdF : FuncData} (F : Fun K "refuse_twice" "refuse_twice" sRT f fd) (T : TxB mg) (D : Dn K mg "first_twice" sFT ["row"] fF fdF) : FnOk P w K mg base CX0 2 f fd ["names"] (spFT K) := by
  have G : FnOk P w K mg base CX0 1 fF fdF ["row"] (spFT K) := ok_ft D.F T
  refine F.ok scRT (fun vs H Q E h => ?_) (fun cdv A outer s H vs Q E hr h => ?_)
  · obtain ⟨l, xs, rfl, _⟩ := h
    rfl
  · obtain ⟨l, xs, rfl, hl, hf, hno, k⟩ := h
    refine ⟨_, (pss_cons (ps_set (i := 1) scRT.nd rfl (Or.inl rfl) (pe_call G hr rfl D.g D.F.kp D.b .nil pass0 (pa_cons (pv 0) pa_nil)))
      (pss_one (ps_if (pt_cmp (pc_notN (pv 1))) (pss_one ps_never) pss_nil))), ?_⟩
    refine ⟨_, rfl, l, xs, rfl, hl, hf, hno, fun H' hS => ?_⟩
    refine ⟨_, rfl, _, rfl, ?_⟩
    exact iteF (k H' hS)
end
end Wm
namespace Wm
open PySem L2
/-- the tuples at the addresses -/
def RowsAt (K : PySem.W.Frag) (H : Hp) : List Addr → List (List V) → Prop
  | [], [] => True
  | p :: ps, r :: rs => SqT K H p r ∧ RowsAt K H ps rs
  | _, _ => False
theorem RowsAt.same {K : PySem.W.Frag} {H H' : Hp} (e : Same H H') : ∀ {ps : List Addr} {rs : List (List V)}, RowsAt K H ps rs → RowsAt K H' ps rs
  | [], [], _ => True.intro
  | _ :: _, _ :: _, h => ⟨same_seqT e h.1, RowsAt.same e h.2⟩
  | [], _ :: _, h => h.elim
  | _ :: _, [], h => h.elim
theorem RowsAt.len {K : PySem.W.Frag} {H : Hp} : ∀ {ps : List Addr} {rs : List (List V)}, RowsAt K H ps rs → ps.length = rs.length
  | [], [], _ => rfl
  | _ :: _, _ :: _, h => congrArg Nat.succ (RowsAt.len h.2)
  | [], _ :: _, h => h.elim
  | _ :: _, [], h => h.elim
theorem RowsAt.get {K : PySem.W.Frag} {H : Hp} : ∀ {ps : List Addr} {rs : List (List V)} {i : Nat} {p : Addr}, RowsAt K H ps rs → ps[i]? = some p → ∃ r, rs[i]? = some r ∧ SqT K H p r
  | [], [], i, p, _, e => by simp at e
  | _ :: _, r :: _, 0, p, h, e => by
    have e' := Option.some.inj e
    subst e'
    exact ⟨r, rfl, h.1⟩
  | _ :: ps, _ :: rs, i + 1, p, h, e => by
    obtain ⟨r, h1, h2⟩ := RowsAt.get (i := i) h.2 (by simpa using e)
    exact ⟨r, by simpa using h1, h2⟩
  | [], _ :: _, _, _, h, _ => h.elim
  | _ :: _, [], _, _, h, _ => h.elim
theorem RowsAt.append {K : PySem.W.Frag} {H : Hp} : ∀ {ps qs : List Addr} {rs us : List (List V)}, RowsAt K H ps rs → RowsAt K H qs us → RowsAt K H (ps ++ qs) (rs ++ us)
  | [], _, [], _, _, h => h
  | _ :: _, _, _ :: _, _, h, g => ⟨h.1, RowsAt.append h.2 g⟩
  | [], _, _ :: _, _, h, _ => h.elim
  | _ :: _, _, [], _, h, _ => h.elim
theorem RowsAt.take {K : PySem.W.Frag} {H : Hp} : ∀ {ps : List Addr} {rs : List (List V)} (n : Nat), RowsAt K H ps rs → RowsAt K H (ps.take n) (rs.take n)
  | _, _, 0, _ => True.intro
  | [], [], _ + 1, _ => True.intro
  | _ :: _, _ :: _, n + 1, h => ⟨h.1, RowsAt.take n h.2⟩
  | [], _ :: _, _ + 1, h => h.elim
  | _ :: _, [], _ + 1, h => h.elim
theorem map_ref_get {ps : List Addr} {i : Nat} {x : V} (h : (ps.map V.ref)[i]? = some x) : ∃ p, ps[i]? = some p ∧ x = .ref p := by
  rw [List.getElem?_map] at h
  cases e : ps[i]? with
  | none =>
    rw [e] at h
    cases h
  | some p =>
    rw [e] at h
    exact ⟨p, rfl, (Option.some.inj h).symm⟩
theorem map_str_get {ps : List Str} {i : Nat} {x : V} (h : (ps.map V.str)[i]? = some x) : ∃ p, ps[i]? = some p ∧ x = .str p := by
  rw [List.getElem?_map] at h
  cases e : ps[i]? with
  | none =>
    rw [e] at h
    cases h
  | some p =>
    rw [e] at h
    exact ⟨p, rfl, (Option.some.inj h).symm⟩
abbrev Tri := Str × Str × Str
def triV (t : Tri) : List V := [.str t.1, .str t.2.1, .str t.2.2]
def endsL (ts : List Tri) : List Str := ts.flatMap fun t => [t.1, t.2.2]
theorem endsL_take {ts : List Tri} {i : Nat} {t : Tri} (h : ts[i]? = some t) : endsL (ts.take (i + 1)) = endsL (ts.take i) ++ [t.1, t.2.2] := by
  unfold endsL
  rw [List.take_add_one, h, List.flatMap_append]
  rfl
theorem endsL_len (ts : List Tri) : (endsL ts).length = 2 * ts.length := by
  induction ts with
  | nil => rfl
  | cons t r ih =>
    have e : (endsL (t :: r)).length = 2 + (endsL r).length := by
      show ([t.1, t.2.2] ++ endsL r).length = _
      rw [List.length_append]
      rfl
    have e2 : (t :: r).length = r.length + 1 := rfl
    omega
theorem tri_get {ts : List Tri} {i : Nat} {r : List V} (h : (ts.map triV)[i]? = some r) : ∃ t, ts[i]? = some t ∧ r = triV t := by
  rw [List.getElem?_map] at h
  cases e : ts[i]? with
  | none =>
    rw [e] at h
    cases h
  | some p =>
    rw [e] at h
    exact ⟨p, rfl, (Option.some.inj h).symm⟩
def spTT (K : PySem.W.Frag) : Sp := fun vs H Q _ => ∃ (l : Addr) (ps : List Addr) (rs : List (List V)), vs = [.ref l] ∧ SqL K H l (ps.map V.ref) ∧ RowsAt K H ps rs ∧ ps.length ≤ 1000 ∧ ∀ t H', H t = none → Same H H' → H' t = some (.tup (ps.map V.ref)) → Q (.ref t) H'
def spEO (K : PySem.W.Frag) : Sp := fun vs H Q _ => ∃ (l : Addr) (ps : List Addr) (ts : List Tri), vs = [.ref l] ∧ Sq K H l (ps.map V.ref) ∧ RowsAt K H ps (ts.map triV) ∧ ps.length ≤ 1000 ∧ ∀ d H', H d = none → Same H H' → H' d = some (.lst ((endsL ts).map V.str)) → Q (.ref d) H'
section
variable {P : Program} {w : World} {K : PySem.W.Frag} {mg : Str → Option Value} {base : Heap}
theorem scTT : FnScope ["rows", "row"] ["rows"] (defScope sTT) := ⟨rfl, rfl, rfl, by decide +kernel, rfl, by decide +kernel, by decide +kernel⟩
theorem ok_tt {f : Addr} {fd : FuncData} (F : Fun K "tuple_of_tuples" "tuple_of_tuples" sTT f fd) (T : TxB mg) : FnOk P w K mg base CX0 1 f fd ["rows"] (spTT K) := by
  refine F.ok scTT (fun vs H Q E h => ?_) (fun cdv A outer s H vs Q E hr h => ?_)
  · obtain ⟨l, ps, rs, rfl, _⟩ := h
    rfl
  · obtain ⟨l, ps, rs, rfl, hl, hrs, hn, k⟩ := h
    refine ⟨_, (pss_one (ps_ret (pe_callTy call_tupN (by rfl) T.tuple (by decide +kernel) (pa_cons (pe_lc (own := [("row", 1)]) (g := gName 1) (te := tCB (rTupOf K) (tCons (tVar 1) tNil)) rfl scTT.nd (pi_list (pv 0)) (blkOk_by (N := ["rows", "row"]) (sc := defScope sTT) (by decide +kernel)) (fun _ _ _ _ _ => (pg_name (i := 1) scTT.nd rfl (Or.inl rfl))) (fun _ _ _ _ _ => pts_nil) (fun _ _ _ _ _ => (pe_callTy call_tupN (by rfl) T.tuple (by decide +kernel) (pa_cons (pv 1) pa_nil)))) pa_nil)))), ?_⟩
    refine ⟨_, rfl, l, rfl, ⟨_, hl⟩, fun D hD => ?_⟩
    refine lc_it walk_list (fun i H' => Same H H' ∧ H' D = some (.lst ((ps.take i).map V.ref))) ⟨Same.upd hD, upd_same⟩ (fun i H' _ p => p.1.seq hl) ?_ ?_
    · rintro i x H1 H2 hi ⟨hS, hd⟩ ⟨rfl, hx⟩
      obtain ⟨p, hp, rfl⟩ := map_ref_get hx
      obtain ⟨r, _, hr'⟩ := hrs.get hp
      refine ⟨rfl, ?_⟩
      refine ⟨_, rfl, p, r, rfl, .inr ⟨same_seqT hS hr', _, hd, ?_, ?_, ?_⟩⟩
      · rw [List.length_map, List.length_take]
        exact Nat.lt_of_le_of_lt (show _ ≤ 1000 by omega) (by decide)
      · intro b o h
        rw [upd_ne (ne_of_none h hD)]
        exact hS b o h
      · rw [upd_same, List.take_add_one, hp, List.map_append]
        rfl
    · rintro H' ⟨hS, hd⟩
      rw [List.length_map, List.take_length] at hd
      exact ⟨D, _, rfl, .inl ⟨SqL.of hd, fun t ht => k t _ (hS.free ht) (hS.trans (Same.upd ht)) upd_same⟩⟩
theorem scEO : FnScope ["triples", "x", "word", "y", "end"] ["triples"] (defScope sEO) := ⟨rfl, rfl, rfl, by decide +kernel, rfl, by decide +kernel, by decide +kernel⟩
theorem ok_eo {f : Addr} {fd : FuncData} (F : Fun K "ends_of" "ends_of" sEO f fd) : FnOk P w K mg base CX0 1 f fd ["triples"] (spEO K) := by
  refine F.ok scEO (fun vs H Q E h => ?_) (fun cdv A outer s H vs Q E hr h => ?_)
  · obtain ⟨l, ps, ts, rfl, _⟩ := h
    rfl
  · obtain ⟨l, ps, ts, rfl, hl, hrs, hn, k⟩ := h
    have hlen := hrs.len
    rw [List.length_map] at hlen
    rcases hl with hl | hl
    · refine ⟨_, (pss_one (ps_ret (pe_lc2 (own := [("x", 1), ("word", 2), ("y", 3), ("end", 4)]) (vs1 := [4]) (g := gTup K 3 (gCons (gName 1) (gCons (gName 2) (gCons (gName 3) gNil)))) (g1 := gName 4) (wi1 := iTup K (tTup (tCons (tVar 1) (tCons (tVar 3) tNil)))) rfl scEO.nd (pi_list (pv 0)) (blkOk_by (N := ["triples", "x", "word", "y", "end"]) (sc := defScope sEO) (by decide +kernel)) (by decide) (fun _ _ _ _ _ => (pg_tup rfl (pgs_cons (pg_name (i := 1) scEO.nd rfl (Or.inl rfl)) (pgs_cons (pg_name (i := 2) scEO.nd rfl (Or.inl rfl)) (pgs_cons (pg_name (i := 3) scEO.nd rfl (Or.inl rfl)) pgs_nil))))) (fun _ _ _ _ _ => pts_nil) (fun _ _ _ _ _ => (pi_tup (pe_tup (pa_cons (pv 1) (pa_cons (pv 3) pa_nil))))) (fun _ _ _ _ _ => (pg_name (i := 4) scEO.nd rfl (Or.inl rfl))) (fun _ _ _ _ _ => pts_nil) (fun _ _ _ _ _ => (pv 4))))), ?_⟩
      refine ⟨_, rfl, l, rfl, ⟨_, hl⟩, fun D hD => ?_⟩
      refine lc2_it walk_list (fun i H' => Same H H' ∧ H' D = some (.lst ((endsL (ts.take i)).map V.str))) ⟨Same.upd hD, upd_same⟩ (fun i H' _ p => p.1.seq hl) ?_ ?_
      · rintro i x H1 H2 hi ⟨hS, hd⟩ ⟨rfl, hx⟩
        obtain ⟨p, hp, rfl⟩ := map_ref_get hx
        obtain ⟨r, hr1, hr'⟩ := hrs.get hp
        obtain ⟨t, ht, rfl⟩ := tri_get hr1
        refine ⟨p, _, rfl, same_seqT hS hr', rfl, _, _, rfl, _, _, rfl, _, _, rfl, rfl, rfl, ?_⟩
        refine ⟨_, rfl, _, rfl, by show 2 ≤ sizeLine; decide, fun q hq => ⟨q, rfl, ⟨_, SqT.of upd_same⟩, ?_⟩⟩
        have nDq : D ≠ q := ne_of_none hd hq
        refine lc1_it walk_tup (fun j H' => Same H H' ∧ SqT K H' q [.str t.1, .str t.2.2] ∧ H' D = some (.lst ((endsL (ts.take i) ++ [t.1, t.2.2].take j).map V.str))) ⟨hS.trans (Same.upd hq), SqT.of upd_same, ?_⟩ (fun _ _ _ p => p.2.1) ?_ ?_
        · rw [upd_ne nDq, hd, List.take_zero, List.append_nil]
        · rintro j y H3 H4 hj ⟨hS3, hq3, hd3⟩ ⟨rfl, hy⟩
          refine ⟨rfl, _, rfl, _, hd3, ?_, ?_, ?_, ?_⟩
          · rw [List.length_map, List.length_append, endsL_len, List.length_take, List.length_take]
            have l2 : [t.1, t.2.2].length = 2 := rfl
            exact Nat.lt_of_le_of_lt (show _ ≤ 4000 by omega) (by decide)
          · intro b o h
            rw [upd_ne (ne_of_none h hD)]
            exact hS3 b o h
          · rcases hq3 with (h | ⟨o, h⟩) | h
            · exact .inl (.inl (by rw [upd_ne (ne_of h hd3 (by intro z; cases z))]; exact h))
            · exact .inl (.inr ⟨o, by rw [upd_ne (ne_of h hd3 (by intro z; cases z))]; exact h⟩)
            · exact .inr h
          · have hy' : ([t.1, t.2.2].map V.str)[j]? = some y := hy
            obtain ⟨z, hz, rfl⟩ := map_str_get hy'
            have e : ∀ l : List Str, (l ++ (some z).toList).map V.str = l.map V.str ++ [V.str z] := fun l => by
              rw [List.map_append]
              rfl
            rw [upd_same, List.take_add_one, hz, ← List.append_assoc, e]
        · rintro H3 ⟨hS3, hq3, hd3⟩
          refine ⟨hS3, ?_⟩
          rw [hd3, endsL_take ht]
          rfl
      · rintro H' ⟨hS, hd⟩
        refine k D H' hD hS ?_
        rw [hd, List.length_map, List.take_of_length_le (by omega)]
    · refine ⟨_, (pss_one (ps_ret (pe_lc2 (own := [("x", 1), ("word", 2), ("y", 3), ("end", 4)]) (vs1 := [4]) (g := gTup K 3 (gCons (gName 1) (gCons (gName 2) (gCons (gName 3) gNil)))) (g1 := gName 4) (wi1 := iTup K (tTup (tCons (tVar 1) (tCons (tVar 3) tNil)))) rfl scEO.nd (pi_tup (pv 0)) (blkOk_by (N := ["triples", "x", "word", "y", "end"]) (sc := defScope sEO) (by decide +kernel)) (by decide) (fun _ _ _ _ _ => (pg_tup rfl (pgs_cons (pg_name (i := 1) scEO.nd rfl (Or.inl rfl)) (pgs_cons (pg_name (i := 2) scEO.nd rfl (Or.inl rfl)) (pgs_cons (pg_name (i := 3) scEO.nd rfl (Or.inl rfl)) pgs_nil))))) (fun _ _ _ _ _ => pts_nil) (fun _ _ _ _ _ => (pi_tup (pe_tup (pa_cons (pv 1) (pa_cons (pv 3) pa_nil))))) (fun _ _ _ _ _ => (pg_name (i := 4) scEO.nd rfl (Or.inl rfl))) (fun _ _ _ _ _ => pts_nil) (fun _ _ _ _ _ => (pv 4))))), ?_⟩
      refine ⟨_, rfl, l, rfl, ⟨_, hl⟩, fun D hD => ?_⟩
      refine lc2_it walk_tup (fun i H' => Same H H' ∧ H' D = some (.lst ((endsL (ts.take i)).map V.str))) ⟨Same.upd hD, upd_same⟩ (fun i H' _ p => same_seqT p.1 hl) ?_ ?_
      · rintro i x H1 H2 hi ⟨hS, hd⟩ ⟨rfl, hx⟩
        obtain ⟨p, hp, rfl⟩ := map_ref_get hx
        obtain ⟨r, hr1, hr'⟩ := hrs.get hp
        obtain ⟨t, ht, rfl⟩ := tri_get hr1
        refine ⟨p, _, rfl, same_seqT hS hr', rfl, _, _, rfl, _, _, rfl, _, _, rfl, rfl, rfl, ?_⟩
        refine ⟨_, rfl, _, rfl, by show 2 ≤ sizeLine; decide, fun q hq => ⟨q, rfl, ⟨_, SqT.of upd_same⟩, ?_⟩⟩
        have nDq : D ≠ q := ne_of_none hd hq
        refine lc1_it walk_tup (fun j H' => Same H H' ∧ SqT K H' q [.str t.1, .str t.2.2] ∧ H' D = some (.lst ((endsL (ts.take i) ++ [t.1, t.2.2].take j).map V.str))) ⟨hS.trans (Same.upd hq), SqT.of upd_same, ?_⟩ (fun _ _ _ p => p.2.1) ?_ ?_
        · rw [upd_ne nDq, hd, List.take_zero, List.append_nil]
        · rintro j y H3 H4 hj ⟨hS3, hq3, hd3⟩ ⟨rfl, hy⟩
          refine ⟨rfl, _, rfl, _, hd3, ?_, ?_, ?_, ?_⟩
          · rw [List.length_map, List.length_append, endsL_len, List.length_take, List.length_take]
            have l2 : [t.1, t.2.2].length = 2 := rfl
            exact Nat.lt_of_le_of_lt (show _ ≤ 4000 by omega) (by decide)
          · intro b o h
            rw [upd_ne (ne_of_none h hD)]
            exact hS3 b o h
          · rcases hq3 with (h | ⟨o, h⟩) | h
            · exact .inl (.inl (by rw [upd_ne (ne_of h hd3 (by intro z; cases z))]; exact h))
            · exact .inl (.inr ⟨o, by rw [upd_ne (ne_of h hd3 (by intro z; cases z))]; exact h⟩)
            · exact .inr h
          · have hy' : ([t.1, t.2.2].map V.str)[j]? = some y := hy
            obtain ⟨z, hz, rfl⟩ := map_str_get hy'
            have e : ∀ l : List Str, (l ++ (some z).toList).map V.str = l.map V.str ++ [V.str z] := fun l => by
              rw [List.map_append]
              rfl
            rw [upd_same, List.take_add_one, hz, ← List.append_assoc, e]
        · rintro H3 ⟨hS3, hq3, hd3⟩
          refine ⟨hS3, ?_⟩
          rw [hd3, endsL_take ht]
          rfl
      · rintro H' ⟨hS, hd⟩
        refine k D H' hD hS ?_
        rw [hd, List.length_map, List.take_of_length_le (by omega)]
end
end Wm
namespace Wm
open PySem L2
abbrev Var := Str × Option Str
def sortV : Option Str → V
  | none => .non
  | some s => .str s
def varV (v : Var) : List V := [.str v.1, sortV v.2]
def varT (v : Var) : List Str := v.1 :: v.2.toList
def textsL (nm : Str) (vars : List Var) (ts : List Tri) : List Str := (nm :: vars.flatMap varT) ++ ts.map (·.2.1)
theorem flat_take {vars : List Var} {i : Nat} {v : Var} (h : vars[i]? = some v) : (vars.take (i + 1)).flatMap varT = (vars.take i).flatMap varT ++ varT v := by
  rw [List.take_add_one, h, List.flatMap_append]
  simp
theorem var_get {vars : List Var} {i : Nat} {r : List V} (h : (vars.map varV)[i]? = some r) : ∃ t, vars[i]? = some t ∧ r = varV t := by
  rw [List.getElem?_map] at h
  cases e : vars[i]? with
  | none =>
    rw [e] at h
    cases h
  | some p =>
    rw [e] at h
    exact ⟨p, rfl, (Option.some.inj h).symm⟩
theorem inV_str {z : Str} {ns : List Str} : inV (.str z) (ns.map V.str) = decide (z ∈ ns) := by
  unfold inV
  induction ns with
  | nil => rfl
  | cons a r ih =>
    rw [List.map_cons, List.any_cons, ih]
    show (a == z || _) = _
    by_cases h : a = z
    · subst h
      simp
    · have h2 : ¬ z = a := fun q => h q.symm
      by_cases h3 : z ∈ r <;> simp [h, h2, h3]
theorem flat_strs (ns : List Str) : (ns.map V.str).all flatV = true := by
  rw [List.all_eq_true]
  intro x hx
  obtain ⟨z, _, rfl⟩ := List.mem_map.mp hx
  rfl
def spTP (K : PySem.W.Frag) : Sp := fun vs H Q _ => ∃ (nm : Str) (a b : Addr) (ps qs : List Addr) (vars : List Var) (ts : List Tri), vs = [.str nm, .ref a, .ref b] ∧ SqT K H a (ps.map V.ref) ∧ RowsAt K H ps (vars.map varV) ∧ SqL K H b (qs.map V.ref) ∧ RowsAt K H qs (ts.map triV) ∧
  ps.length ≤ 1000 ∧ qs.length ≤ 1000 ∧ ∀ d H', H d = none → Same H H' → H' d = some (.lst ((textsL nm vars ts).map V.str)) → Q (.ref d) H'
def spRV (K : PySem.W.Frag) : Sp := fun vs H Q _ => ∃ (a b : Addr) (ns zs : List Str), vs = [.ref a, .ref b] ∧ SqL K H a (ns.map V.str) ∧ SqL K H b (zs.map V.str) ∧ (∀ z ∈ zs, z ∈ ns) ∧ ∀ H', Same H H' → Q .non H'
def spRL (K : PySem.W.Frag) : Sp := fun vs H Q _ => ∃ (a b : Addr) (ns : List Str) (ps : List Addr) (ts : List Tri), vs = [.ref a, .ref b] ∧ SqL K H a (ns.map V.str) ∧ SqT K H b (ps.map V.ref) ∧ RowsAt K H ps (ts.map triV) ∧ ps.length ≤ 1000 ∧ (∀ z ∈ ns, z ∈ endsL ts) ∧ ∀ H', Same H H' → Q .non H'
def Hangs (ts : List Tri) : Prop := ∀ (i : Nat) (t : Tri), 0 < i → ts[i]? = some t → t.1 ∈ endsL (ts.take i) ∨ t.2.2 ∈ endsL (ts.take i)
def spRA (K : PySem.W.Frag) : Sp := fun vs H Q _ => ∃ (b : Addr) (ps : List Addr) (ts : List Tri), vs = [.ref b] ∧ SqT K H b (ps.map V.ref) ∧ RowsAt K H ps (ts.map triV) ∧ ps.length ≤ 1000 ∧ Hangs ts ∧ ∀ H', Same H H' → Q .non H'
section
variable {P : Program} {w : World} {K : PySem.W.Frag} {mg : Str → Option Value} {base : Heap}
theorem scTP : FnScope ["name", "variables", "triples", "texts", "variable", "sort", "x", "word", "y"] ["name", "variables", "triples"] (defScope sTP) := ⟨rfl, rfl, rfl, by decide +kernel, rfl, by decide +kernel, by decide +kernel⟩
theorem ok_tp {f : Addr} {fd : FuncData} (F : Fun K "texts_of_pattern" "texts_of_pattern" sTP f fd) : FnOk P w K mg base CX0 1 f fd ["name", "variables", "triples"] (spTP K) := by
  refine F.ok scTP (fun vs H Q E h => ?_) (fun cdv A outer s H vs Q E hr h => ?_)
  · obtain ⟨nm, a, b, ps, qs, vars, ts, rfl, _⟩ := h
    rfl
  · obtain ⟨nm, a, b, ps, qs, vars, ts, rfl, ha, hva, hb, htr, hn, hn2, k⟩ := h
    have hlen := hva.len
    rw [List.length_map] at hlen
    have hlen2 := htr.len
    rw [List.length_map] at hlen2
    have fl : ∀ i, ((vars.take i).flatMap varT).length ≤ 2 * vars.length := fun i => by
      have e : ∀ l : List Var, (l.flatMap varT).length ≤ 2 * l.length := fun l => by
        induction l with
        | nil => exact Nat.le_refl _
        | cons v r ih =>
          have e : ((v :: r).flatMap varT).length = (varT v).length + (r.flatMap varT).length := by
            rw [List.flatMap_cons, List.length_append]
          have e2 : (varT v).length ≤ 2 := by
            unfold varT
            cases v.2 <;> simp
          have e3 : (v :: r).length = r.length + 1 := rfl
          omega
      have q := e (vars.take i)
      rw [List.length_take] at q
      omega
    refine ⟨_, (pss_cons (ps_set (i := 3) scTP.nd rfl (Or.inl rfl) (pe_lst (pa_cons (pv 0) pa_nil)))
      (pss_cons (ps_for PassesOwn.never rfl (pi_tup (pv 1)) (pg_tup rfl (pgs_cons (pg_name (i := 4) scTP.nd rfl (Or.inl rfl)) (pgs_cons (pg_name (i := 5) scTP.nd rfl (Or.inl rfl)) pgs_nil))) (pss_cons (ps_expr (pe_bm PySem.F.plainAttrs_list PySem.F.slot_list_append PySem.F.type_list_append mt_append (pv 3) (pa_cons (pv 4) pa_nil)))
      (pss_one (ps_if (pt_cmp (pc_notN (pv 5))) (pss_one (ps_expr (pe_bm PySem.F.plainAttrs_list PySem.F.slot_list_append PySem.F.type_list_append mt_append (pv 3) (pa_cons (pv 5) pa_nil)))) pss_nil))))
      (pss_cons (ps_expr (pe_bm PySem.F.plainAttrs_list PySem.F.slot_list_extend PySem.F.type_list_extend mt_extend (pv 3) (pa_cons (pe_lc (own := [("x", 6), ("word", 7), ("y", 8)]) (g := gTup K 3 (gCons (gName 6) (gCons (gName 7) (gCons (gName 8) gNil)))) rfl scTP.nd (pi_list (pv 2)) (blkOk_by (N := ["name", "variables", "triples", "texts", "variable", "sort", "x", "word", "y"]) (sc := defScope sTP) (by decide +kernel)) (fun _ _ _ _ _ => (pg_tup rfl (pgs_cons (pg_name (i := 6) scTP.nd rfl (Or.inl rfl)) (pgs_cons (pg_name (i := 7) scTP.nd rfl (Or.inl rfl)) (pgs_cons (pg_name (i := 8) scTP.nd rfl (Or.inl rfl)) pgs_nil))))) (fun _ _ _ _ _ => pts_nil) (fun _ _ _ _ _ => (pv 7))) pa_nil)))
      (pss_one (ps_ret (pv 3)))))), ?_⟩
    refine ⟨_, rfl, by show 1 ≤ sizeLine; decide, fun d hd => ?_⟩
    have S0 : Same H (upd H d (.lst [.str nm])) := Same.upd hd
    refine ⟨_, rfl, a, rfl, ⟨_, same_seqT S0 ha⟩, for_it walk_tup (fun i σ H' => (∃ u v, σ = [some (.str nm), some (.ref a), some (.ref b), some (.ref d), u, v, none, none, none]) ∧ Same H H' ∧ H' d = some (.lst ((nm :: (vars.take i).flatMap varT).map V.str)))
      ⟨⟨none, none, rfl⟩, S0, upd_same⟩ (fun i σ H' _ p => same_seqT p.2.1 ha) ?_ ?_⟩
    · rintro i x σ H1 H2 hi ⟨⟨u, v, rfl⟩, hS, hl⟩ ⟨rfl, hx⟩
      obtain ⟨p, hp, rfl⟩ := map_ref_get hx
      obtain ⟨r, hr1, hr'⟩ := hva.get hp
      obtain ⟨⟨n, so⟩, ht, rfl⟩ := var_get hr1
      have fi := fl i
      refine ⟨p, _, rfl, same_seqT hS hr', rfl, _, _, rfl, _, _, rfl, rfl, ?_⟩
      refine ⟨_, rfl, .inl ⟨rfl, _, SqL.of hl⟩, _, rfl, d, _, _, rfl, rfl, hl, ?_, ?_⟩
      · rw [List.length_map, List.length_cons]
        exact Nat.lt_of_le_of_lt (show _ ≤ 4000 by omega) (by decide)
      have S1 : Same H (upd H2 d (.lst ((nm :: (vars.take i).flatMap varT).map V.str ++ [.str n]))) := fun b' o h => by
        rw [upd_ne (ne_of_none h hd)]
        exact hS b' o h
      refine ⟨_, rfl, _, rfl, ?_⟩
      cases so with
      | none =>
        refine iteF ⟨⟨_, _, rfl⟩, S1, ?_⟩
        rw [upd_same, flat_take ht]
        have e : (nm :: ((vars.take i).flatMap varT ++ varT (n, none))) = (nm :: (vars.take i).flatMap varT) ++ [n] := rfl
        rw [e, List.map_append]
        rfl
      | some so =>
        refine iteT ?_
        refine ⟨_, rfl, .inl ⟨rfl, _, SqL.of upd_same⟩, _, rfl, d, _, _, rfl, rfl, upd_same, ?_, ?_⟩
        · rw [List.length_append, List.length_map, List.length_cons, List.length_singleton]
          exact Nat.lt_of_le_of_lt (show _ ≤ 4000 by omega) (by decide)
        · refine ⟨⟨_, _, rfl⟩, fun b' o h => ?_, ?_⟩
          · rw [upd_ne (ne_of_none h hd)]
            exact S1 b' o h
          · rw [upd_same, flat_take ht]
            have e : (nm :: ((vars.take i).flatMap varT ++ varT (n, some so))) = (nm :: (vars.take i).flatMap varT) ++ [n, so] := rfl
            rw [e, List.map_append, List.append_assoc]
            rfl
    · rintro σ H1 ⟨⟨u, v, rfl⟩, hS, hl⟩
      rw [List.length_map, List.take_of_length_le (by omega)] at hl
      have fi := fl vars.length
      rw [List.take_length] at fi
      refine ⟨_, rfl, .inl ⟨rfl, _, SqL.of hl⟩, _, rfl, b, rfl, ⟨_, hS.seq hb⟩, fun D hD => ?_⟩
      have nDd : D ≠ d := (ne_of_none hl hD).symm
      refine lc_it walk_list (fun i H' => Same H H' ∧ H' d = some (.lst ((nm :: vars.flatMap varT).map V.str)) ∧ H' D = some (.lst (((ts.take i).map (·.2.1)).map V.str))) ⟨hS.trans (Same.upd hD), by rw [upd_ne nDd.symm]; exact hl, upd_same⟩ (fun i H' _ p => p.1.seq hb) ?_ ?_
      · rintro i x H2 H3 hi ⟨hS2, hl2, hD2⟩ ⟨rfl, hx⟩
        obtain ⟨p, hp, rfl⟩ := map_ref_get hx
        obtain ⟨r, hr1, hr'⟩ := htr.get hp
        obtain ⟨t, ht, rfl⟩ := tri_get hr1
        refine ⟨p, _, rfl, same_seqT hS2 hr', rfl, _, _, rfl, _, _, rfl, _, _, rfl, rfl, rfl, ?_⟩
        refine ⟨_, rfl, _, hD2, ?_, ?_, ?_, ?_⟩
        · rw [List.length_map, List.length_map, List.length_take]
          exact Nat.lt_of_le_of_lt (show _ ≤ 1000 by omega) (by decide)
        · intro b' o h
          rw [upd_ne (ne_of_none h (hS.free hD))]
          exact hS2 b' o h
        · rw [upd_ne nDd.symm]
          exact hl2
        · rw [upd_same, List.take_add_one, ht, List.map_append, List.map_append]
          rfl
      · rintro H2 ⟨hS2, hl2, hD2⟩
        rw [List.length_map, List.take_of_length_le (by omega)] at hD2
        refine ⟨d, D, _, _, rfl, rfl, hl2, hD2, ?_, ?_⟩
        · rw [List.length_map, List.length_map, List.length_map, List.length_cons]
          exact Nat.le_trans (show _ ≤ 4000 by omega) (by decide)
        · refine ⟨_, rfl, ?_⟩
          refine k d _ hd (fun b' o h => ?_) ?_
          · rw [upd_ne (ne_of_none h hd)]
            exact hS2 b' o h
          · rw [upd_same]
            unfold textsL
            rw [List.map_append]
theorem scRV : FnScope ["names", "texts", "text"] ["names", "texts"] (defScope sRV) := ⟨rfl, rfl, rfl, by decide +kernel, rfl, by decide +kernel, by decide +kernel⟩
theorem ok_rv {f : Addr} {fd : FuncData} (F : Fun K "refuse_no_variable" "refuse_no_variable" sRV f fd) : FnOk P w K mg base CX0 1 f fd ["names", "texts"] (spRV K) := by
  refine F.ok scRV (fun vs H Q E h => ?_) (fun cdv A outer s H vs Q E hr h => ?_)
  · obtain ⟨a, b, ns, zs, rfl, _⟩ := h
    rfl
  · obtain ⟨a, b, ns, zs, rfl, ha, hb, hin, k⟩ := h
    refine ⟨_, (pss_one (ps_for PassesOwn.never rfl (pi_list (pv 1)) (pg_name (i := 2) scRV.nd rfl (Or.inl rfl)) (pss_one (ps_if (pt_cmpR op_notIn_seq (pv 2) (pv 0) (by rfl)) (pss_one ps_never) pss_nil)))), ?_⟩
    refine ⟨_, rfl, b, rfl, ⟨_, hb⟩, for_list (K := K) (a := b) (xs := zs.map V.str) (fun i σ H' => (∃ v, σ = [some (.ref a), some (.ref b), v]) ∧ H' = H) ⟨⟨none, rfl⟩, rfl⟩ (fun i σ H' _ p => by rw [p.2]; exact hb) ?_ ?_⟩
    · rintro i y σ H' hi ⟨⟨v, rfl⟩, rfl⟩
      obtain ⟨z, hz, rfl⟩ := map_str_get hi
      refine ⟨_, rfl, _, rfl, a, _, rfl, .inl ha, rfl, flat_strs ns, _, rfl, ?_⟩
      show if (!inV (.str z) (ns.map V.str)) = true then _ else _
      rw [inV_str, decide_eq_true (hin z (List.mem_of_getElem? hz))]
      exact iteF ⟨⟨_, rfl⟩, rfl⟩
    · rintro σ H' ⟨_, rfl⟩
      exact k H' (Same.refl H')
theorem scRL : FnScope ["names", "conditions", "tied", "name"] ["names", "conditions"] (defScope sRL) := ⟨rfl, rfl, rfl, by decide +kernel, rfl, by decide +kernel, by decide +kernel⟩
theorem ok_rl {f fE : Addr} {fd fdE : FuncData} (F : Fun K "refuse_loose" "refuse_loose" sRL f fd) (D : Dn K mg "ends_of" sEO ["triples"] fE fdE) : FnOk P w K mg base CX0 2 f fd ["names", "conditions"] (spRL K) := by
  have G : FnOk P w K mg base CX0 1 fE fdE ["triples"] (spEO K) := ok_eo D.F
  refine F.ok scRL (fun vs H Q E h => ?_) (fun cdv A outer s H vs Q E hr h => ?_)
  · obtain ⟨a, b, ns, ps, ts, rfl, _⟩ := h
    rfl
  · obtain ⟨a, b, ns, ps, ts, rfl, ha, hb, htr, hn, hin, k⟩ := h
    refine ⟨_, (pss_cons (ps_set (i := 2) scRL.nd rfl (Or.inl rfl) (pe_call G hr rfl D.g D.F.kp D.b .nil pass0 (pa_cons (pv 1) pa_nil)))
      (pss_one (ps_for PassesOwn.never rfl (pi_list (pv 0)) (pg_name (i := 3) scRL.nd rfl (Or.inl rfl)) (pss_one (ps_if (pt_cmpR op_notIn_seq (pv 3) (pv 2) (by rfl)) (pss_one ps_never) pss_nil))))), ?_⟩
    refine ⟨_, rfl, b, ps, ts, rfl, .inr hb, htr, hn, fun d H1 hd hS hl => ?_⟩
    refine ⟨_, rfl, a, rfl, ⟨_, hS.seq ha⟩, for_list (K := K) (a := a) (xs := ns.map V.str) (fun i σ H' => (∃ v, σ = [some (.ref a), some (.ref b), some (.ref d), v]) ∧ H' = H1) ⟨⟨none, rfl⟩, rfl⟩ (fun i σ H' _ p => by rw [p.2]; exact hS.seq ha) ?_ ?_⟩
    · rintro i y σ H' hi ⟨⟨v, rfl⟩, rfl⟩
      obtain ⟨z, hz, rfl⟩ := map_str_get hi
      refine ⟨_, rfl, _, rfl, d, _, rfl, .inl (SqL.of hl), rfl, flat_strs _, _, rfl, ?_⟩
      show if (!inV (.str z) ((endsL ts).map V.str)) = true then _ else _
      rw [inV_str, decide_eq_true (hin z (List.mem_of_getElem? hz))]
      exact iteF ⟨⟨_, rfl⟩, rfl⟩
    · rintro σ H' ⟨_, rfl⟩
      exact k H' hS
theorem scRA : FnScope ["conditions", "place", "x", "word", "y", "ahead"] ["conditions"] (defScope sRA) := ⟨rfl, rfl, rfl, by decide +kernel, rfl, by decide +kernel, by decide +kernel⟩
theorem ok_ra {f fE : Addr} {fd fdE : FuncData} (F : Fun K "refuse_apart" "refuse_apart" sRA f fd) (T : TxB mg) (D : Dn K mg "ends_of" sEO ["triples"] fE fdE) : FnOk P w K mg base CX0 2 f fd ["conditions"] (spRA K) := by
  have G : FnOk P w K mg base CX0 1 fE fdE ["triples"] (spEO K) := ok_eo D.F
  refine F.ok scRA (fun vs H Q E h => ?_) (fun cdv A outer s H vs Q E hr h => ?_)
  · obtain ⟨b, ps, ts, rfl, _⟩ := h
    rfl
  · obtain ⟨b, ps, ts, rfl, hb, htr, hn, hh, k⟩ := h
    have hlen := htr.len
    rw [List.length_map] at hlen
    refine ⟨_, (pss_one (ps_for PassesOwn.never rfl (pi_enumT rfl T.enumerate (pa_cons (pv 0) pa_nil)) (pg_tup rfl (pgs_cons (pg_name (i := 1) scRA.nd rfl (Or.inl rfl)) (pgs_cons (pg_tup rfl (pgs_cons (pg_name (i := 2) scRA.nd rfl (Or.inl rfl)) (pgs_cons (pg_name (i := 3) scRA.nd rfl (Or.inl rfl)) (pgs_cons (pg_name (i := 4) scRA.nd rfl (Or.inl rfl)) pgs_nil)))) pgs_nil))) (pss_cons (ps_set (i := 5) scRA.nd rfl (Or.inl rfl) (pe_call G hr rfl D.g D.F.kp D.b .nil pass0 (pa_cons (pe_slice sl_tupA (pv 0) po_none (po_some (pv 1))) pa_nil)))
      (pss_one (ps_if (PW.pt (pw_and (pt_cmpR op_gt (pv 1) pe_int (nomark _)) (pw_and (pt_cmpR op_notIn_seq (pv 2) (pv 5) (by rfl)) (pw_and1 (pt_cmpR op_notIn_seq (pv 4) (pv 5) (by rfl)))))) (pss_one ps_never) pss_nil))))), ?_⟩
    refine ⟨_, rfl, b, _, rfl, hb, for_it walk_enumT (fun i σ H' => (∃ u v x y z, σ = [some (.ref b), u, v, x, y, z]) ∧ Same H H') ⟨⟨none, none, none, none, none, rfl⟩, Same.refl H⟩ (fun i σ H' _ p => same_seqT p.2 hb) ?_ ?_⟩
    · rintro i x σ H1 H2 hi ⟨⟨u, v, x1, x2, x3, rfl⟩, hS⟩ ⟨q, y, z, rfl, hq, rfl, e1, e2⟩
      cases e1
      obtain ⟨p, hp, rfl⟩ := map_ref_get e2
      obtain ⟨r, hr1, hr'⟩ := htr.get hp
      obtain ⟨t, ht, rfl⟩ := tri_get hr1
      have S2 := hS.trans (Same.upd (o := .tup [.int (i : Nat), .ref p]) hq)
      have hi' : i < ps.length := by rw [List.length_map] at hi; exact hi
      refine ⟨q, _, rfl, SqT.of upd_same, rfl, _, _, rfl, _, _, rfl, ⟨p, _, rfl, same_seqT S2 hr', rfl, _, _, rfl, _, _, rfl, _, _, rfl, rfl, rfl, ?_⟩⟩
      refine ⟨_, rfl, _, rfl, _, rfl, b, _, rfl, same_seqT S2 hb, fun h => ?_, fun _ c hc => ?_⟩
      · exfalso
        rw [HT.sIx_nat, List.length_map] at h
        omega
      have S3 := S2.trans (Same.upd (o := .tup (cutV (ps.map V.ref) none (some (i : Int)))) hc)
      have hcut : cutV (ps.map V.ref) none (some (i : Int)) = (ps.take i).map V.ref := by rw [cut_take, List.map_take]
      refine ⟨c, ps.take i, ts.take i, rfl, .inr (SqT.of (by rw [upd_same, hcut])), ?_, by rw [List.length_take]; omega, fun d H3 hd hS3 hl => ?_⟩
      · rw [List.map_take]
        exact (htr.take i).same S3
      refine ⟨_, rfl, _, _, rfl, rfl, _, rfl, ?_⟩
      refine ite2 (fun h0 => ?_) (fun _ => ?_)
      · have h0' : (0 : Int) < (i : Int) := of_decide_eq_true h0
        refine ⟨_, rfl, _, rfl, d, _, rfl, .inl (SqL.of hl), rfl, flat_strs _, _, rfl, ?_⟩
        show if (!inV (.str t.1) ((endsL (ts.take i)).map V.str)) = true then _ else _
        rw [inV_str]
        by_cases m1 : t.1 ∈ endsL (ts.take i)
        · rw [decide_eq_true m1]
          exact iteF (iteF ⟨⟨_, _, _, _, _, rfl⟩, S3.trans hS3⟩)
        · rw [decide_eq_false m1]
          refine iteT ?_
          refine ⟨_, rfl, _, rfl, d, _, rfl, .inl (SqL.of hl), rfl, flat_strs _, _, rfl, ?_⟩
          show if (!inV (.str t.2.2) ((endsL (ts.take i)).map V.str)) = true then _ else _
          have m2 : t.2.2 ∈ endsL (ts.take i) := (hh i t (by omega) ht).resolve_left m1
          rw [inV_str, decide_eq_true m2]
          exact iteF ⟨⟨_, _, _, _, _, rfl⟩, S3.trans hS3⟩
      · exact iteF ⟨⟨_, _, _, _, _, rfl⟩, S3.trans hS3⟩
    · rintro σ H' ⟨_, hS⟩
      exact k H' hS
end
end Wm
namespace Wm
open PySem L2 StX
structure TxP (mg : Str → Option Value) : Prop where
  mv : ∃ t, mg "MOST_VARIABLES" = some (.int 4 t)
  mc : ∃ t, mg "MOST_CONDITIONS" = some (.int 3 t)
theorem DueN.mono {C : Addr} {zs : List Str} {H H1 : Hp} {Q : VK} {E : XK} (hS : Same H H1) (h : DueN C zs H Q E) : DueN C zs H1 Q E := by
  unfold DueN at h ⊢
  split
  · rename_i e
    rw [e] at h
    exact fun H' h1 => h H' (hS.trans h1)
  · rename_i z e
    rw [e] at h
    exact fun d H' h0 h1 h2 => h d H' (hS.free h0) (hS.trans h1) h2
theorem DueN.next {C : Addr} {zs : List Str} {H H1 : Hp} {Q Q' : VK} {E : XK} (h : DueN C zs H Q E) (hS : Same H H1) (r : zs.find? (fun z => !isNm z) = none → ∀ H', Same H1 H' → Q' .non H') : DueN C zs H1 Q' E := by
  have h' := DueN.mono hS h
  unfold DueN at h' ⊢
  cases e : zs.find? (fun z => !isNm z) with
  | none => exact r e
  | some z =>
    rw [e] at h'
    exact h'
theorem flat_len (l : List Var) : (l.flatMap varT).length ≤ 2 * l.length := by
  induction l with
  | nil => exact Nat.le_refl _
  | cons v r ih =>
    have e : ((v :: r).flatMap varT).length = (varT v).length + (r.flatMap varT).length := by
      rw [List.flatMap_cons, List.length_append]
    have e2 : (varT v).length ≤ 2 := by
      unfold varT
      cases v.2 <;> simp
    have e3 : (v :: r).length = r.length + 1 := rfl
    omega
/-- a pattern of which nothing but a text that is no name is to be refused -/
structure PatOk (vars : List Var) (cs gs : List Tri) (hs : List Str) : Prop where
  v1 : 1 ≤ vars.length
  v4 : vars.length ≤ 4
  c1 : 1 ≤ cs.length
  c3 : cs.length ≤ 3
  g3 : gs.length ≤ 1
  h3 : hs.length ≤ 1
  tw : NoTw ((vars.map (·.1)).map V.str)
  en : ∀ z ∈ endsL (cs ++ gs) ++ hs, z ∈ vars.map (·.1)
  lo : ∀ z ∈ vars.map (·.1), z ∈ endsL cs
  ap : Hangs cs
def spCP (K : PySem.W.Frag) (C : Addr) : Sp := fun vs H Q E => ∃ (nm : Str) (a b g h : Addr) (ps qs us : List Addr) (vars : List Var) (cs gs : List Tri) (hs : List Str), vs = [.str nm, .ref a, .ref b, .ref g, .ref h] ∧ SqT K H a (ps.map V.ref) ∧ RowsAt K H ps (vars.map varV) ∧
  SqT K H b (qs.map V.ref) ∧ RowsAt K H qs (cs.map triV) ∧ SqL K H g (us.map V.ref) ∧ RowsAt K H us (gs.map triV) ∧ SqL K H h (hs.map V.str) ∧ PatOk vars cs gs hs ∧ (∀ z ∈ textsL nm vars (cs ++ gs), z.length ≤ 1000) ∧ DueN C (textsL nm vars (cs ++ gs)) H Q E
section
variable {P : Program} {w : World} {K : PySem.W.Frag} {mg : Str → Option Value} {base : Heap}
theorem scCP : FnScope ["name", "variables", "conditions", "given", "hands", "triples", "names", "variable", "sort"] ["name", "variables", "conditions", "given", "hands"] (defScope sCP) := ⟨rfl, rfl, rfl, by decide +kernel, rfl, by decide +kernel, by decide +kernel⟩
theorem ok_cp {f fRC fRN fTP fRT fRV fEO fRL fRA C : Addr} {fd dRC dRN dTP dRT dRV dEO dRL dRA : FuncData} (F : Fun K "check_pattern" "check_pattern" sCP f fd) (T : TxB mg) (TP : TxP mg)
    (RC : Dn K mg "refuse_count" sRC ["what", "count", "least", "most"] fRC dRC) (RN : Dn K mg "refuse_no_name" sRN ["texts"] fRN dRN) (TX : Dn K mg "texts_of_pattern" sTP ["name", "variables", "triples"] fTP dTP) (RT : Dn K mg "refuse_twice" sRT ["names"] fRT dRT)
    (RV : Dn K mg "refuse_no_variable" sRV ["names", "texts"] fRV dRV) (EO : Dn K mg "ends_of" sEO ["triples"] fEO dEO) (RL : Dn K mg "refuse_loose" sRL ["names", "conditions"] fRL dRL) (RA : Dn K mg "refuse_apart" sRA ["conditions"] fRA dRA)
    (GRN : FnOk P w K mg base (L2.CX P w) 4 fRN dRN ["texts"] (spRN K C)) (GRT : FnOk P w K mg base CX0 2 fRT dRT ["names"] (spFT K)) :
    FnOk P w K mg base (L2.CX P w) 5 f fd ["name", "variables", "conditions", "given", "hands"] (spCP K C) := by
  have GRC : FnOk P w K mg base CX0 1 fRC dRC _ spRC := ok_rc RC.F
  have GTX : FnOk P w K mg base CX0 1 fTP dTP _ (spTP K) := ok_tp TX.F
  have GRV : FnOk P w K mg base CX0 1 fRV dRV _ (spRV K) := ok_rv RV.F
  have GEO : FnOk P w K mg base CX0 1 fEO dEO _ (spEO K) := ok_eo EO.F
  have GRL : FnOk P w K mg base CX0 2 fRL dRL _ (spRL K) := ok_rl RL.F EO
  have GRA : FnOk P w K mg base CX0 2 fRA dRA _ (spRA K) := ok_ra RA.F T EO
  obtain ⟨t1, hmv⟩ := TP.mv
  obtain ⟨t2, hmc⟩ := TP.mc
  refine F.okX scCP (fun vs H Q E h => ?_) (fun cdv A outer s H vs Q E hr h => ?_)
  · obtain ⟨nm, a, b, g, h, ps, qs, us, vars, cs, gs, hs, rfl, _⟩ := h
    rfl
  · obtain ⟨nm, a, b, g, h, ps, qs, us, vars, cs, gs, hs, rfl, ha, hva, hb, hcs, hg, hgs, hh, ok, hz, k⟩ := h
    have hr1 : Room 1 _ := hr.mono (by decide)
    have hr2 : Room 2 _ := hr.mono (by decide)
    have l1 := hva.len
    have l2 := hcs.len
    have l3 := hgs.len
    rw [List.length_map] at l1 l2 l3
    have o1 := ok.v4
    have o2 := ok.c3
    have o3 := ok.g3
    have o4 := ok.v1
    have o5 := ok.c1
    have o6 := ok.h3
    refine ⟨_, (pss_cons (ps_expr (pe_call GRC hr1 rfl RC.g RC.F.kp RC.b .nil pass0 (pa_cons pe_str (pa_cons (pe_callB call_len_seq (by rfl) T.len (by decide +kernel) (pa_cons (pv 1) pa_nil)) (pa_cons pe_int (pa_cons (pe_glob (v := .int 4) (by rfl) hmv ⟨_, rfl⟩) pa_nil))))))
      (pss_cons (ps_expr (pe_call GRC hr1 rfl RC.g RC.F.kp RC.b .nil pass0 (pa_cons pe_str (pa_cons (pe_callB call_len_seq (by rfl) T.len (by decide +kernel) (pa_cons (pv 2) pa_nil)) (pa_cons pe_int (pa_cons (pe_glob (v := .int 3) (by rfl) hmc ⟨_, rfl⟩) pa_nil))))))
      (pss_cons (ps_set (i := 5) scCP.nd rfl (Or.inl rfl) (pe_lst (pa_star (pv 2) (pa_star (pv 3) pa_nil))))
      (pss_cons (ps_expr (pe_call GRN hr rfl RN.g RN.F.kp RN.b .nil (passes_call (takes_of rfl rfl rfl rfl) (fun _ _ _ _ h => h)) (pa_cons (pe_call GTX hr1 rfl TX.g TX.F.kp TX.b .nil pass0 (pa_cons (pv 0) (pa_cons (pv 1) (pa_cons (pv 5) pa_nil)))) pa_nil)))
      (pss_cons (ps_setLc (i := 6) (own := [("variable", 7), ("sort", 8)]) (g := gTup K 2 (gCons (gName 7) (gCons (gName 8) gNil))) rfl scCP.nd rfl rfl (sw_true rfl rfl rfl (by decide +kernel)) (pi_tup (pv 1)) (blkOk_by (N := ["name", "variables", "conditions", "given", "hands", "triples", "names", "variable", "sort"]) (sc := defScope sCP) (by decide +kernel)) (fun _ _ _ _ _ => (pg_tup rfl (pgs_cons (pg_name (i := 7) scCP.nd rfl (Or.inl rfl)) (pgs_cons (pg_name (i := 8) scCP.nd rfl (Or.inl rfl)) pgs_nil)))) (fun _ _ _ _ _ => pts_nil) (fun _ _ _ _ _ => (pv 7)))
      (pss_cons (ps_expr (pe_call GRT hr2 rfl RT.g RT.F.kp RT.b .nil pass0 (pa_cons (pv 6) pa_nil)))
      (pss_cons (ps_expr (pe_call GRV hr1 rfl RV.g RV.F.kp RV.b .nil pass0 (pa_cons (pv 6) (pa_cons (pe_lst (pa_star (pe_call GEO hr1 rfl EO.g EO.F.kp EO.b .nil pass0 (pa_cons (pv 5) pa_nil)) (pa_star (pv 4) pa_nil))) pa_nil))))
      (pss_cons (ps_expr (pe_call GRL hr2 rfl RL.g RL.F.kp RL.b .nil pass0 (pa_cons (pv 6) (pa_cons (pv 2) pa_nil))))
      (pss_one (ps_expr (pe_call GRA hr2 rfl RA.g RA.F.kp RA.b .nil pass0 (pa_cons (pv 2) pa_nil)))))))))))), ?_⟩
    refine ⟨_, rfl, a, _, rfl, .inr ha, _, _, _, _, rfl, ?_, ?_, ?_⟩
    · rw [List.length_map]; omega
    · rw [List.length_map]; omega
    refine ⟨_, rfl, b, _, rfl, .inr hb, _, _, _, _, rfl, ?_, ?_, ?_⟩
    · rw [List.length_map]; omega
    · rw [List.length_map]; omega
    -- triples = [*conditions, *given]
    refine ⟨_, rfl, b, _, rfl, .inl hb, _, rfl, g, _, rfl, .inr hg, ?_, fun tr htr => ?_⟩
    · show (qs.map V.ref ++ (us.map V.ref ++ [])).length ≤ sizeLine
      rw [List.append_nil, List.length_append, List.length_map, List.length_map]
      exact Nat.le_trans (show _ ≤ 1000 by omega) (by decide)
    have etr : qs.map V.ref ++ (us.map V.ref ++ []) = (qs ++ us).map V.ref := by rw [List.append_nil, List.map_append]
    have S1 : Same H (upd H tr (.lst (qs.map V.ref ++ (us.map V.ref ++ [])))) := Same.upd htr
    refine ⟨_, rfl, _, rfl, _, rfl, nm, a, tr, ps, qs ++ us, vars, cs ++ gs, rfl, same_seqT S1 ha, hva.same S1, SqL.of (by rw [upd_same, etr]), ?_, by omega, by rw [List.length_append]; omega, fun d H2 hd hS2 hl => ?_⟩
    · rw [List.map_append]
      exact (hcs.append hgs).same S1
    have S2 := S1.trans hS2
    refine ⟨d, _, rfl, SqL.of hl, ?_, hz, ?_⟩
    · unfold textsL
      have e : ∀ l : List Var, (l.flatMap varT).length ≤ 2 * l.length := flat_len
      have e2 := e vars
      rw [List.length_append, List.length_cons, List.length_map, List.length_append]
      omega
    refine DueN.next k S2 fun hn H3 hS3 => ?_
    have S3 := S2.trans hS3
    -- names = [variable for variable, sort in variables]
    refine ⟨_, rfl, a, rfl, ⟨_, same_seqT S3 ha⟩, fun D hD => ?_⟩
    refine lc_it walk_tup (fun i H' => Same H3 H' ∧ H' D = some (.lst (((vars.take i).map (·.1)).map V.str))) ⟨Same.upd hD, upd_same⟩ (fun i H' _ p => same_seqT (S3.trans p.1) ha) ?_ ?_
    · rintro i x H4 H5 hi ⟨hS4, hD4⟩ ⟨rfl, hx⟩
      obtain ⟨p, hp, rfl⟩ := map_ref_get hx
      obtain ⟨r, hr1', hr'⟩ := hva.get hp
      obtain ⟨⟨n, so⟩, ht, rfl⟩ := var_get hr1'
      refine ⟨p, _, rfl, same_seqT (S3.trans hS4) hr', rfl, _, _, rfl, _, _, rfl, rfl, rfl, ?_⟩
      refine ⟨_, rfl, _, hD4, ?_, ?_, ?_⟩
      · rw [List.length_map, List.length_map, List.length_take]
        exact Nat.lt_of_le_of_lt (show _ ≤ 1000 by omega) (by decide)
      · intro b' o h
        rw [upd_ne (ne_of_none h hD)]
        exact hS4 b' o h
      · rw [upd_same, List.take_add_one, ht, List.map_append, List.map_append]
        rfl
    rintro H4 ⟨hS4, hD4⟩
    rw [List.length_map, List.take_of_length_le (by omega)] at hD4
    have S4 := S3.trans hS4
    have tr4 : H4 tr = some (.lst ((qs ++ us).map V.ref)) := by
      have q : (upd H tr (.lst (qs.map V.ref ++ (us.map V.ref ++ [])))) tr = some (.lst ((qs ++ us).map V.ref)) := by rw [upd_same, etr]
      exact hS4 _ _ (hS3 _ _ (hS2 _ _ q))
    -- refuse_twice(names)
    refine ⟨_, rfl, D, _, rfl, .inl (SqL.of hD4), flat_strs _, ok.tw, fun H5 hS5 => ?_⟩
    have S5 := S4.trans hS5
    -- refuse_no_variable(names, [*ends_of(triples), *hands])
    refine ⟨_, rfl, _, rfl, tr, qs ++ us, cs ++ gs, rfl, .inl (SqL.of (hS5 _ _ tr4)), ?_, by rw [List.length_append]; omega, fun e H6 he hS6 hl6 => ?_⟩
    · rw [List.map_append]
      exact (hcs.append hgs).same S5
    have S6 := S5.trans hS6
    refine ⟨e, _, rfl, .inr (SqL.of hl6), _, rfl, h, _, rfl, .inr (S6.seq hh), ?_, fun l hl => ?_⟩
    · rw [List.length_append, List.length_map, endsL_len, List.length_append, List.append_nil, List.length_map]
      exact Nat.le_trans (show _ ≤ 1000 by omega) (by decide)
    refine ⟨D, l, _, endsL (cs ++ gs) ++ hs, rfl, SqL.of (Same.upd hl _ _ (hS6 _ _ (hS5 _ _ hD4))), SqL.of ?_, ok.en, fun H7 hS7 => ?_⟩
    · rw [upd_same, List.append_nil, List.map_append]
    have S7 := S6.trans ((Same.upd hl).trans hS7)
    have D7 := hS7 _ _ (Same.upd hl _ _ (hS6 _ _ (hS5 _ _ hD4)))
    -- refuse_loose(names, conditions)
    refine ⟨_, rfl, _, rfl, D, b, _, qs, cs, rfl, SqL.of D7, same_seqT S7 hb, hcs.same S7, by omega, ok.lo, fun H8 hS8 => ?_⟩
    have S8 := S7.trans hS8
    -- refuse_apart(conditions)
    refine ⟨_, rfl, b, qs, cs, rfl, same_seqT S8 hb, hcs.same S8, by omega, ok.ap, fun H9 hS9 => ?_⟩
    unfold DueN at k
    rw [hn] at k
    exact k H9 (S8.trans hS9)
end
end Wm
namespace Wm
open PySem L2 StX
def barF (nm : Str) (t1 t2 : Addr) : List (Str × V) := putF "conditions" (.ref t2) (putF "variables" (.ref t1) (putF "name" (.str nm) []))
theorem ne1 : ¬ (("variables" : Str) = "conditions") := by decide +kernel
theorem ne2 : ¬ (("name" : Str) = "conditions") := by decide +kernel
theorem ne3 : ¬ (("name" : Str) = "variables") := by decide +kernel
theorem barF_name (nm : Str) (t1 t2 : Addr) : (barF nm t1 t2).lookup ("name" : Str) = some (.str nm) := by
  unfold barF
  rw [lookup_putF, if_neg ne2, lookup_putF, if_neg ne3, lookup_putF, if_pos rfl]
theorem barF_vars (nm : Str) (t1 t2 : Addr) : (barF nm t1 t2).lookup ("variables" : Str) = some (.ref t1) := by
  unfold barF
  rw [lookup_putF, if_neg ne1, lookup_putF, if_pos rfl]
theorem barF_cond (nm : Str) (t1 t2 : Addr) : (barF nm t1 t2).lookup ("conditions" : Str) = some (.ref t2) := by
  unfold barF
  rw [lookup_putF, if_pos rfl]
theorem putF_len (f : Str) (v : V) : ∀ fs : List (Str × V), (putF f v fs).length ≤ fs.length + 1
  | [] => Nat.le_refl _
  | (g, x) :: r => by
    unfold putF
    split
    · exact Nat.le_succ _
    · have := putF_len f v r
      simp only [List.length_cons]
      omega
/-- what the making of an object that may be refused by a text is to bring; H0: what stood ahead of it -/
def DueM (C : Addr) (zs : List Str) (H0 : Hp) (ok : Hp → Prop) (E : XK) : Prop := match zs.find? (fun z => !isNm z) with
  | none => ∀ H', Same H0 H' → ok H'
  | some z => ∀ d H', H0 d = none → Same H0 H' → H' d = some (.xd (ef1 "name" "noname" (.str z))) → E (.ref C) (some d) H'
theorem DueM.toN {C : Addr} {zs : List Str} {H0 H1 : Hp} {ok : Hp → Prop} {Q : VK} {E : XK} (h : DueM C zs H0 ok E) (hS : Same H0 H1) (r : zs.find? (fun z => !isNm z) = none → ∀ H', Same H1 H' → Q .non H') : DueN C zs H1 Q E := by
  unfold DueM at h
  unfold DueN
  cases e : zs.find? (fun z => !isNm z) with
  | none => exact r e
  | some z =>
    rw [e] at h
    exact fun d H' h0 h1 h2 => h d H' (hS.free h0) (hS.trans h1) h2
structure TxBar (K : PySem.W.Frag) (mg : Str → Option Value) (B fB : Addr) : Prop where
  cl : Cls K B
  nn : NoAttr K B "name"
  nv : NoAttr K B "variables"
  nc : NoAttr K B "conditions"
section
variable {P : Program} {w : World} {K : PySem.W.Frag} {mg : Str → Option Value} {base : Heap}
end
end Wm
namespace Wm
open PySem L2
/-- str(o), o an instance of the class at C, whose __str__ is the def at f -/
def rStrO (C : Addr) (sp : Sp) : List V → Hp → VK → Prop := fun xs H Q => ∃ (a dx : Addr) (fs : List (Str × V)), xs = [.ref a] ∧ H a = some (.ins C dx fs) ∧ sp [.ref a] H (fun v H' => ∃ z : Str, v = .str z ∧ Q (.str z) H') E0
theorem call_strO {X : Cx} {C f : Addr} {fd : FuncData} {k : Nat} {sp : Sp} (hs : PySem.W.findIn X.K (.ref C) "__str__" = some (some (.ref f))) (hf : PySem.W.isFn X.K (.ref f) = true) (F : FnOk X.prog X.w X.K X.mg X.base CX0 k f fd ["self"] sp) (hr : Room (k + 2) X.A) (hb : Binds X.K fd ["self"] []) :
    CallR X (.type "str") (rStrO C sp) := by
  intro pins s σ H xs us Q I r h
  obtain ⟨a, dx, fs, rfl, ha, h⟩ := h
  cases r with
  | cons rx rr =>
    cases rr
    cases rx
    obtain ⟨mA, ob, _⟩ := ins_get I.hok ha
    obtain ⟨od, J, _⟩ := ob.look
    have hr1 : Room (k + 1) X.A.in1 := hr.in1
    have hr2 : Room k X.A.in1.in1 := hr1.in1
    refine PySem.W.kso_call hr2.units0 I.kIn J hs hf ?_
    have hl : ([Value.ref a] ++ []).length = (["self"] : List Str).length := rfl
    have rv : Vals [V.ref a] [Value.ref a] := .cons rfl .nil
    refine wpAny_call (codeAny_mono (F.run X.A.in1.in1 X.stack s H ⟨[Value.ref a], []⟩ [Value.ref a] [V.ref a] _ E0 hr2 I.env0.in1.in1 (hb s [Value.ref a] I.kIn hl) rv h) fun r s' hq => ?_)
    cases r with
    | error e => exact hq.elim
    | ok fl =>
      cases fl with
      | ret u =>
        obtain ⟨v, H', J', ru, z, rfl, q⟩ := I.after (Q := fun v H' => ∃ z : Str, v = .str z ∧ Q (.str z) H') hq
        obtain ⟨t, rfl⟩ := ru
        exact ⟨.str z, H', J', ⟨t, rfl⟩, q⟩
      | next => exact False.elim hq
      | brk => exact False.elim hq
      | cont => exact False.elim hq
end Wm
namespace Wm
open PySem L2 PySem.W
/-- a == b, a an instance of the class at C, whose __eq__ is the def at f -/
def rEqO (K : Frag) (C : Addr) (sp : Sp) : V → V → Hp → VK → Prop := fun x y H Q => ∃ (a b D dx dy : Addr) (fs gs : List (Str × V)), x = .ref a ∧ y = .ref b ∧ H a = some (.ins C dx fs) ∧ H b = some (.ins D dy gs) ∧ notFirst K C (.ref D) = true ∧
  sp [.ref a, .ref b] H (fun v H' => ∃ t : Bool, v = .bl t ∧ Q (.bl t) H') E0
theorem op_eqO {X : Cx} {C f : Addr} {fd : FuncData} {k : Nat} {sp : Sp} {ps : List Str} (hs : findIn X.K (.ref C) "__eq__" = some (some (.ref f))) (hf : isFn X.K (.ref f) = true) (F : FnOk X.prog X.w X.K X.mg X.base CX0 k f fd ps sp) (hr : Room k X.A) (hb : L2.Binds X.K fd ps []) :
    OpR X (compareOp .Eq) (rEqO X.K C sp) := by
  intro pins s σ H x y v u Q I rx ry h
  obtain ⟨a, b, D, dx, dy, fs, gs, rfl, rfl, ha, hb', nf, h⟩ := h
  cases rx
  cases ry
  obtain ⟨mA, oa, _⟩ := ins_get I.hok ha
  obtain ⟨mB, ob, _⟩ := ins_get I.hok hb'
  obtain ⟨od, J, _⟩ := oa.look
  obtain ⟨od', J', _⟩ := ob.look
  obtain ⟨m, hF⟩ := I.fr
  show wpAny _ _ (richCompare .Eq (.ref a) (.ref b)) _ _ _
  refine cmp_K hr.units0 hF I.ok.mod.kin J (InstAt.type J') nf hs hf ?_
  have rv : Vals [V.ref a, V.ref b] [Value.ref a, Value.ref b] := .cons rfl (.cons rfl .nil)
  have hl : ([Value.ref a, Value.ref b] ++ []).length = ps.length := F.len _ _ _ _ h
  have bd := hb s [Value.ref a, Value.ref b] I.kIn hl
  rw [List.append_nil] at bd
  refine wpAny_call (codeAny_mono (F.run X.A X.stack s H ⟨[Value.ref a, Value.ref b], []⟩ [Value.ref a, Value.ref b] [V.ref a, V.ref b] _ E0 hr I.env0 bd rv h) fun r s' hq => ?_)
  cases r with
  | error e => exact hq.elim
  | ok fl =>
    cases fl with
    | next => exact hq.elim
    | brk => exact hq.elim
    | cont => exact hq.elim
    | ret u =>
      obtain ⟨v, H', I2, rv, t, rfl, q⟩ := I.after hq
      cases rv
      exact ⟨.bl t, H', I2, rfl, q⟩
/-- the class at C has its own __eq__, at f, and no __ne__ -/
structure EqNe (K : Frag) (C f : Addr) : Prop where
  ex : ∃ nm q N bs hdct sn sub ab col dd k0 k1 k2 k3 k5 newId oc od es ep osl of, K.lookup C = some (excClassObj nm q C N bs [.type "object"] hdct sn sub ab col dd k0 k1 k2 k3 k5 newId) ∧
    K.lookup N = some ⟨oc, od, .dict es ep, osl⟩ ∧ StrKeys es ∧ nsFind es "__eq__" = some (.ref f) ∧ nsFind es "__ne__" = none ∧ K.lookup f = some of ∧ of.cls = .type "function"
theorem EqNe.at {K : Frag} {C f x dx : Addr} (e : EqNe K C f) {h : Heap} (X : K.In h) (hx : h.get? x = some (instObj C dx)) : h.OwnEqNoNe x C f "object" [.type "object"] := by
  obtain ⟨nm, q, N, bs, hdct, sn, sub, ab, col, dd, k0, k1, k2, k3, k5, newId, oc, od, es, ep, osl, of, h1, h2, h3, h4, h5, h6, h7⟩ := e.ex
  exact ⟨_, of, nm, q, N, bs, hdct, sn, sub, ab, col, dd, k0, k1, k2, k3, k5, newId, nsFind es, _, hx, rfl, X C _ h1, ⟨_, es, ep, X N _ h2, rfl, h3, fun _ => rfl⟩, h4, X f _ h6, h7, PySem.F.cmp_object.mro, PySem.F.cmp_object.eq.lookup, h5⟩
def rNeO (C : Addr) (sp : Sp) : V → V → Hp → VK → Prop := fun x y H Q => ∃ (a b dx dy : Addr) (fs gs : List (Str × V)), x = .ref a ∧ y = .ref b ∧ H a = some (.ins C dx fs) ∧ H b = some (.ins C dy gs) ∧
  sp [.ref a, .ref b] H (fun v H' => ∃ t : Bool, v = .bl t ∧ Q (.bl !t) H') E0
theorem op_neO {X : Cx} {C f : Addr} {fd : FuncData} {k : Nat} {sp : Sp} {ps : List Str} (hs : EqNe X.K C f) (F : FnOk X.prog X.w X.K X.mg X.base CX0 k f fd ps sp) (hr : Room (k + 1) X.A) (hb : L2.Binds X.K fd ps []) :
    OpR X (compareOp .NotEq) (rNeO C sp) := by
  intro pins s σ H x y v u Q I rx ry h
  obtain ⟨a, b, dx, dy, fs, gs, rfl, rfl, ha, hb', h⟩ := h
  cases rx
  cases ry
  have oa := (I.hok a _ ha).2.2.2.1
  have ob := (I.hok b _ hb').2.2.2.1
  have hr1 : Room k X.A.in1 := hr.in1
  refine compareOp_ne_ownEq PySem.F.cmp_object (hs.at I.kIn oa) ob rfl ?_ ?_
  · exact hr1.units0
  have rv : Vals [V.ref a, V.ref b] [Value.ref a, Value.ref b] := .cons rfl (.cons rfl .nil)
  have hl : ([Value.ref a, Value.ref b] ++ []).length = ps.length := F.len _ _ _ _ h
  have bd := hb s [Value.ref a, Value.ref b] I.kIn hl
  rw [List.append_nil] at bd
  refine wpAny_call (codeAny_mono (F.run X.A.in1 X.stack s H ⟨[Value.ref a, Value.ref b], []⟩ [Value.ref a, Value.ref b] [V.ref a, V.ref b] _ E0 hr1 I.env0.in1 bd rv h) fun r s' hq => ?_)
  cases r with
  | error e => exact hq.elim
  | ok fl =>
    cases fl with
    | next => exact hq.elim
    | brk => exact hq.elim
    | cont => exact hq.elim
    | ret u =>
      obtain ⟨v, H', I2, rv, t, rfl, q⟩ := I.after (Q := fun v H' => ∃ t : Bool, v = .bl t ∧ Q (.bl !t) H') hq
      cases rv
      exact ⟨t, rfl, .bl !t, H', I2, rfl, q⟩
end Wm
namespace Wm
open PySem L2 StX
def rulF (nm : Str) (t1 t2 t3 : Addr) (by_ : Str) : List (Str × V) := putF "by" (.str by_) (putF "gives" (.ref t3) (barF nm t1 t2))
theorem nr1 : ¬ (("gives" : Str) = "by") := by decide +kernel
theorem nr2 : ¬ (("name" : Str) = "by") := by decide +kernel
theorem nr3 : ¬ (("name" : Str) = "gives") := by decide +kernel
theorem nr4 : ¬ (("variables" : Str) = "by") := by decide +kernel
theorem nr5 : ¬ (("variables" : Str) = "gives") := by decide +kernel
theorem nr6 : ¬ (("conditions" : Str) = "by") := by decide +kernel
theorem nr7 : ¬ (("conditions" : Str) = "gives") := by decide +kernel
theorem rulF_name (nm : Str) (t1 t2 t3 : Addr) (b : Str) : (rulF nm t1 t2 t3 b).lookup ("name" : Str) = some (.str nm) := by
  unfold rulF
  rw [lookup_putF, if_neg nr2, lookup_putF, if_neg nr3]
  exact barF_name _ _ _
theorem rulF_vars (nm : Str) (t1 t2 t3 : Addr) (b : Str) : (rulF nm t1 t2 t3 b).lookup ("variables" : Str) = some (.ref t1) := by
  unfold rulF
  rw [lookup_putF, if_neg nr4, lookup_putF, if_neg nr5]
  exact barF_vars _ _ _
theorem rulF_cond (nm : Str) (t1 t2 t3 : Addr) (b : Str) : (rulF nm t1 t2 t3 b).lookup ("conditions" : Str) = some (.ref t2) := by
  unfold rulF
  rw [lookup_putF, if_neg nr6, lookup_putF, if_neg nr7]
  exact barF_cond _ _ _
theorem rulF_gives (nm : Str) (t1 t2 t3 : Addr) (b : Str) : (rulF nm t1 t2 t3 b).lookup ("gives" : Str) = some (.ref t3) := by
  unfold rulF
  rw [lookup_putF, if_neg nr1, lookup_putF, if_pos rfl]
theorem rulF_by (nm : Str) (t1 t2 t3 : Addr) (b : Str) : (rulF nm t1 t2 t3 b).lookup ("by" : Str) = some (.str b) := by
  unfold rulF
  rw [lookup_putF, if_pos rfl]
theorem barF_len (nm : Str) (t1 t2 : Addr) : (barF nm t1 t2).length ≤ 3 := Nat.le_trans (putF_len _ _ _) (Nat.succ_le_succ (Nat.le_trans (putF_len _ _ _) (Nat.succ_le_succ (putF_len _ _ _))))
structure TxRul (K : PySem.W.Frag) (mg : Str → Option Value) (B fB : Addr) : Prop where
  cl : Cls K B
  nn : NoAttr K B "name"
  nv : NoAttr K B "variables"
  nc : NoAttr K B "conditions"
  ng : NoAttr K B "gives"
  nb : NoAttr K B "by"
  g : mg "Rule" = some (.ref B)
  m : Mk K B fB
def spRul (K : PySem.W.Frag) (C B : Addr) : Sp := fun vs H Q E => ∃ (H0 : Hp) (x dx l1 l2 g : Addr) (nm b : Str) (ps qs : List Addr) (vars : List Var) (cs : List Tri) (gt : Tri), vs = [.ref x, .str nm, .ref l1, .ref l2, .ref g, .str b] ∧ Same H0 H ∧ H0 x = none ∧ H x = some (.ins B dx []) ∧
  SqL K H0 l1 (ps.map V.ref) ∧ RowsAt K H0 ps (vars.map varV) ∧ SqL K H0 l2 (qs.map V.ref) ∧ RowsAt K H0 qs (cs.map triV) ∧ H0 g = some (.tup (triV gt)) ∧ PatOk vars cs [gt] [b] ∧ (∀ z ∈ textsL nm vars (cs ++ [gt]), z.length ≤ 1000) ∧
  DueM C (textsL nm vars (cs ++ [gt])) H0 (fun H' => ∀ t1 t2, H' x = some (.ins B dx (rulF nm t1 t2 g b)) → H' t1 = some (.tup (ps.map V.ref)) → H' t2 = some (.tup (qs.map V.ref)) → Q .non H') E
section
variable {P : Program} {w : World} {K : PySem.W.Frag} {mg : Str → Option Value} {base : Heap}
theorem scRul : FnScope ["self", "name", "variables", "conditions", "gives", "by"] ["self", "name", "variables", "conditions", "gives", "by"] (defScope sRul) := ⟨rfl, rfl, rfl, by decide +kernel, rfl, by decide +kernel, by decide +kernel⟩
theorem ok_rul {f fTT fCP C B : Addr} {fd dTT dCP : FuncData} (F : Fun K "__init__" "Rule.__init__" sRul f fd) (T : TxB mg) (TB : TxRul K mg B f) (TT : Dn K mg "tuple_of_tuples" sTT ["rows"] fTT dTT)
    (CP : Dn K mg "check_pattern" sCP ["name", "variables", "conditions", "given", "hands"] fCP dCP) (GCP : FnOk P w K mg base (L2.CX P w) 5 fCP dCP ["name", "variables", "conditions", "given", "hands"] (spCP K C)) :
    FnOk P w K mg base (L2.CX P w) 6 f fd ["self", "name", "variables", "conditions", "gives", "by"] (spRul K C B) := by
  have GTT : FnOk P w K mg base CX0 1 fTT dTT _ (spTT K) := ok_tt TT.F T
  refine F.okX scRul (fun vs H Q E h => ?_) (fun cdv A outer s H vs Q E hr h => ?_)
  · obtain ⟨H0, x, dx, l1, l2, g, nm, b, ps, qs, vars, cs, gt, rfl, _⟩ := h
    rfl
  · obtain ⟨H0, x, dx, l1, l2, g, nm, b, ps, qs, vars, cs, gt, rfl, S0, x0, hx, h1, hv, h2, hc, hg, ok, hz, k⟩ := h
    have hr1 : Room 1 _ := hr.mono (by decide)
    have b1 := hv.len
    have b2 := hc.len
    rw [List.length_map] at b1 b2
    have o1 := ok.v4
    have o2 := ok.c3
    have ngx : g ≠ x := ne_of_none hg x0
    refine ⟨_, (pss_cons (ps_fld (pv 0) (pv 1) rfl)
      (pss_cons (ps_fld (pv 0) (pe_call GTT hr1 rfl TT.g TT.F.kp TT.b .nil pass0 (pa_cons (pv 2) pa_nil)) rfl)
      (pss_cons (ps_fld (pv 0) (pe_call GTT hr1 rfl TT.g TT.F.kp TT.b .nil pass0 (pa_cons (pv 3) pa_nil)) rfl)
      (pss_cons (ps_fld (pv 0) (pe_callTy call_tupN (by rfl) T.tuple (by decide +kernel) (pa_cons (pv 4) pa_nil)) rfl)
      (pss_cons (ps_fld (pv 0) (pv 5) rfl)
      (pss_one (ps_expr (pe_call GCP hr rfl CP.g CP.F.kp CP.b .nil (passes_call (takes_of rfl rfl rfl rfl) (fun _ _ _ _ h => h)) (pa_cons (pv 1) (pa_cons (pe_fld (pv 0) rfl) (pa_cons (pe_fld (pv 0) rfl) (pa_cons (pe_lst (pa_cons (pe_fld (pv 0) rfl) pa_nil)) (pa_cons (pe_lst (pa_cons (pv 5) pa_nil)) pa_nil))))))))))))), ?_⟩
    have Sx : ∀ {H1 : Hp} {o : HO}, Same H0 H1 → Same H0 (upd H1 x o) := fun hs b o e => by
      rw [upd_ne (ne_of_none e x0)]
      exact hs b o e
    refine ⟨_, rfl, _, rfl, x, B, dx, [], rfl, hx, TB.cl, TB.nn, (by show 0 < 1000; decide), ?_⟩
    have S1 := Sx (o := .ins B dx (putF "name" (.str nm) [])) S0
    refine ⟨_, rfl, l1, ps, _, rfl, S1.seq h1, hv.same S1, by omega, fun t1 H2 ht1 hS2 hl1 => ?_⟩
    have S2 := S1.trans hS2
    have hx2 := hS2 _ _ (upd_same (H := H) (a := x) (o := .ins B dx (putF "name" (.str nm) [])))
    have n1x : t1 ≠ x := fun z => by
      rw [z, upd_same] at ht1
      cases ht1
    refine ⟨_, rfl, x, B, dx, _, rfl, hx2, TB.cl, TB.nv, Nat.lt_of_le_of_lt (putF_len _ _ _) (by decide), ?_⟩
    have S3 := Sx (o := .ins B dx (putF "variables" (.ref t1) (putF "name" (.str nm) []))) S2
    refine ⟨_, rfl, l2, qs, _, rfl, S3.seq h2, hc.same S3, by omega, fun t2 H4 ht2 hS4 hl2 => ?_⟩
    have S4 := S3.trans hS4
    have hx4 := hS4 _ _ (upd_same (H := H2) (a := x) (o := .ins B dx (putF "variables" (.ref t1) (putF "name" (.str nm) []))))
    have hl1' := hS4 t1 _ (by rw [upd_ne n1x]; exact hl1)
    have n2x : t2 ≠ x := fun z => by
      rw [z, upd_same] at ht2
      cases ht2
    refine ⟨_, rfl, x, B, dx, _, rfl, hx4, TB.cl, TB.nc, Nat.lt_of_le_of_lt (putF_len _ _ _) (Nat.lt_of_le_of_lt (Nat.succ_le_succ (putF_len _ _ _)) (by decide)), ?_⟩
    have S5 := Sx (o := .ins B dx (barF nm t1 t2)) S4
    -- self.gives = tuple(gives); self.by = by
    refine ⟨_, rfl, g, _, rfl, .inr ⟨SqT.of (S5 _ _ hg), ?_⟩⟩
    refine ⟨_, rfl, x, B, dx, _, rfl, upd_same, TB.cl, TB.ng, Nat.lt_of_le_of_lt (barF_len nm t1 t2) (by decide), ?_⟩
    refine ⟨_, rfl, _, rfl, x, B, dx, _, rfl, upd_same, TB.cl, TB.nb, Nat.lt_of_le_of_lt (Nat.le_trans (putF_len _ _ _) (Nat.succ_le_succ (barF_len nm t1 t2))) (by decide), ?_⟩
    rw [upd_upd, upd_upd]
    show _
    generalize hH6 : upd H4 x (.ins B dx (putF "by" (.str b) (putF "gives" (.ref g) (putF "conditions" (.ref t2) (putF "variables" (.ref t1) (putF "name" (.str nm) [])))))) = H6
    have S6 : Same H0 H6 := by
      rw [← hH6]
      exact Sx S4
    have hx6 : H6 x = some (.ins B dx (rulF nm t1 t2 g b)) := by rw [← hH6, upd_same]; rfl
    have h16 : H6 t1 = some (.tup (ps.map V.ref)) := by rw [← hH6, upd_ne n1x]; exact hl1'
    have h26 : H6 t2 = some (.tup (qs.map V.ref)) := by rw [← hH6, upd_ne n2x]; exact hl2
    -- check_pattern(name, self.variables, self.conditions, [self.gives], [by])
    refine ⟨_, rfl, _, rfl, x, B, dx, _, _, rfl, hx6, TB.cl, TB.nv, rulF_vars _ _ _ _ _, _, rfl, x, B, dx, _, _, rfl, hx6, TB.cl, TB.nc, rulF_cond _ _ _ _ _, _, rfl, x, B, dx, _, _, rfl, hx6, TB.cl, TB.ng, rulF_gives _ _ _ _ _, by show 1 ≤ sizeLine; decide, fun gl hgl => ⟨_, rfl, by show 1 ≤ sizeLine; decide, fun h hh => ?_⟩⟩
    have S7 : Same H6 (upd (upd H6 gl (.lst [.ref g])) h (.lst [.str b])) := (Same.upd hgl).trans (Same.upd hh)
    have S67 := S6.trans S7
    refine ⟨nm, t1, t2, gl, h, ps, qs, [g], vars, cs, [gt], [b], rfl, SqT.of (S7 _ _ h16), hv.same S67, SqT.of (S7 _ _ h26), hc.same S67, SqL.of (Same.upd hh _ _ upd_same), ⟨SqT.of (S67 _ _ hg), True.intro⟩, SqL.of upd_same, ok, hz, ?_⟩
    refine k.toN S67 fun hn H8 hS8 => ?_
    unfold DueM at k
    rw [hn] at k
    exact k H8 (S67.trans hS8) t1 t2 (hS8 _ _ (S7 _ _ hx6)) (hS8 _ _ (S7 _ _ h16)) (hS8 _ _ (S7 _ _ h26))
end
end Wm
/-! names as the laws draw them: texts of at most six signs -/
namespace Wm
open PySem L2
def lowC (c : Nat) : Prop := 97 ≤ c ∧ c ≤ 122
def figC (c : Nat) : Prop := 48 ≤ c ∧ c ≤ 57
/-- a text of small letters and figures, the first a letter -/
def NmP (z : Str) : Prop := ∃ c cs, z.cps.toList = c :: cs ∧ lowC c ∧ ∀ d ∈ cs, lowC d ∨ figC d
theorem toList_app (a b : Str) : (a ++ b).cps.toList = a.cps.toList ++ b.cps.toList := by
  show (a.cps ++ b.cps).toList = _
  simp
theorem NmP.app {a b : Str} (h : NmP a) (hb : ∀ d ∈ b.cps.toList, lowC d ∨ figC d) : NmP (a ++ b) := by
  obtain ⟨c, cs, e, l, r⟩ := h
  refine ⟨c, cs ++ b.cps.toList, by rw [toList_app, e]; rfl, l, fun d hd => ?_⟩
  rcases List.mem_append.mp hd with h | h
  · exact r d h
  · exact hb d h
theorem NmP.one {c : Nat} (h : lowC c) : NmP ⟨#[c]⟩ := ⟨c, [], rfl, h, fun _ z => nomatch z⟩
theorem NmP.ok {z : Str} (h : NmP z) : ∀ c ∈ z.cps.toList, c < 1114112 := by
  obtain ⟨c, cs, e, l, r⟩ := h
  intro d hd
  rw [e] at hd
  rcases List.mem_cons.mp hd with h | h
  · rw [h]
    exact Nat.lt_of_le_of_lt l.2 (by decide)
  · rcases r d h with q | q
    · exact Nat.lt_of_le_of_lt q.2 (by decide)
    · exact Nat.lt_of_le_of_lt q.2 (by decide)
def ABC36 : Str := PySem.Str.ofString "abcdefghijklmnopqrstuvwxyz0123456789"
theorem abc36_len : ABC36.length = 36 := by decide +kernel
theorem abc_low {i : Nat} {c : Nat} (hi : i < 26) (h : ABC36.cps.toList[i]? = some c) : lowC c := by
  have q : ∀ j : Fin 26, ∀ d ∈ ABC36.cps.toList[j.1]?, 97 ≤ d ∧ d ≤ 122 := by decide +kernel
  exact q ⟨i, hi⟩ c (by rw [h]; exact rfl)
theorem abc_any {i : Nat} {c : Nat} (h : ABC36.cps.toList[i]? = some c) : lowC c ∨ figC c := by
  have q : ∀ d ∈ ABC36.cps.toList, (97 ≤ d ∧ d ≤ 122) ∨ (48 ≤ d ∧ d ≤ 57) := by decide +kernel
  exact q c (List.mem_of_getElem? h)
/-- the text of a number -/
def numS (n : Nat) : Str := PySem.Str.ofString (toString (n : Int))
def numB (n : Nat) : Bool := (numS n).cps.toList.all (fun d => decide (48 ≤ d ∧ d ≤ 57)) && (decide ((numS n).length ≤ 2) && decide (1 ≤ (numS n).length))
theorem num_all : ∀ n : Fin 70, numB n.1 = true := by decide +kernel
theorem num_inj0 : ∀ n m : Fin 70, (numS n.1).cps.toList = (numS m.1).cps.toList → n = m := by decide +kernel
theorem num_sign {n : Nat} (h : n < 70) : (∀ d ∈ (numS n).cps.toList, lowC d ∨ figC d) ∧ (numS n).length ≤ 2 ∧ 1 ≤ (numS n).length := by
  obtain ⟨a, b⟩ := Bool.and_eq_true_iff.mp (num_all ⟨n, h⟩)
  obtain ⟨b, c⟩ := Bool.and_eq_true_iff.mp b
  refine ⟨fun d hd => .inr ?_, of_decide_eq_true b, of_decide_eq_true c⟩
  have q := List.all_eq_true.mp a d hd
  exact of_decide_eq_true (p := 48 ≤ d ∧ d ≤ 57) q
theorem num_inj {n m : Nat} (hn : n < 70) (hm : m < 70) (h : numS n = numS m) : n = m := congrArg Fin.val (num_inj0 ⟨n, hn⟩ ⟨m, hm⟩ (by rw [h]))
/-- the tries for a name: the word, then the word with 1, 2 .. -/
def tryS (z : Str) : Nat → Str
  | 0 => z
  | n + 1 => z ++ numS (n + 1)
theorem app_inj {a b c : Str} (h : a ++ b = a ++ c) : b = c := by
  have e := congrArg (fun z : Str => z.cps.toList) h
  simp only [toList_app] at e
  have q := List.append_cancel_left e
  cases b; cases c
  simp only at q
  congr
  exact Array.toList_inj.mp q
theorem try_inj {z : Str} {n m : Nat} (hn : n < 70) (hm : m < 70) (h : tryS z n = tryS z m) : n = m := by
  have key : ∀ k, k + 1 < 70 → z ≠ z ++ numS (k + 1) := fun k hk e => by
    have l := congrArg (fun z : Str => z.cps.toList.length) e
    simp only [toList_app, List.length_append] at l
    have q := (num_sign hk).2.2
    have q' : 1 ≤ (numS (k + 1)).cps.toList.length := by simpa [PySem.Str.length] using q
    omega
  cases n with
  | zero =>
    cases m with
    | zero => rfl
    | succ m => exact (key m hm h).elim
  | succ n =>
    cases m with
    | zero => exact (key n hn h.symm).elim
    | succ m => exact num_inj hn hm (app_inj h)
theorem holes {α : Type} [BEq α] [LawfulBEq α] {f : Nat → α} : ∀ {n : Nat} {l : List α}, (∀ i j, i < n → j < n → f i = f j → i = j) → (∀ i, i < n → f i ∈ l) → n ≤ l.length
  | 0, _, _, _ => Nat.zero_le _
  | n + 1, l, inj, h => by
    have hm := h n (Nat.lt_succ_self n)
    have q := holes (n := n) (l := l.erase (f n)) (fun i j hi hj => inj i j (by omega) (by omega)) (fun i hi => by
      refine (List.mem_erase_of_ne fun e => ?_).mpr (h i (by omega))
      have := inj i n (by omega) (by omega) e
      omega)
    rw [List.length_erase_of_mem hm] at q
    have := List.length_pos_of_mem hm
    omega
theorem try_end {z : Str} {taken : List Str} {n : Nat} (ht : taken.length ≤ 60) (h : ∀ i, i < n → tryS z i ∈ taken) (hn : n ≤ 61) : n ≤ taken.length :=
  holes (f := tryS z) (fun i j hi hj e => try_inj (by omega) (by omega) e) h
theorem inV_strs {z : Str} {ns : List Str} : inV (.str z) (ns.map V.str) = decide (z ∈ ns) := by
  unfold inV
  rw [List.any_map]
  induction ns with
  | nil => simp
  | cons a r ih =>
    rw [List.any_cons, ih]
    have e : eqV (.str a) (.str z) = decide (a = z) := by
      unfold eqV
      by_cases h : a = z
      · simp [h]
      · simp [h]
    show (eqV (.str a) (.str z) || _) = _
    rw [e]
    by_cases h : a = z
    · simp [h]
    · have h' : ¬ z = a := fun x => h x.symm
      simp [h, h']
end Wm
namespace Wm
open PySem L2
theorem StOk.upd {p d : Addr} {H : Hp} {o : HO} (n : d ≠ p) (h : StOk H p) : StOk (L2.upd H d o) p := by
  obtain ⟨a, b, c, e, r⟩ := h
  exact ⟨a, b, c, by rw [upd_ne n.symm]; exact e, r⟩
theorem StOk.same {p : Addr} {H H' : Hp} (e : Same H H') (h : StOk H p) : StOk H' p := by
  obtain ⟨a, b, c, q, r⟩ := h
  exact ⟨a, b, c, e _ _ q, r⟩
theorem st_free {p d : Addr} {H : Hp} (h : StOk H p) (n : H d = none) : d ≠ p := by
  obtain ⟨a, b, c, e, _⟩ := h
  exact fun z => by
    rw [z, e] at n
    cases n
theorem but_new {p d : Addr} {H H1 : Hp} {o : HO} (b : But p H H1) (n : d ≠ p) (h0 : H d = none) : But p H (L2.upd H1 d o) := fun q u nq e => by
  rw [upd_ne (ne_of_none e h0)]
  exact b q u nq e
theorem flats (ns : List Str) : (ns.map V.str).all flatV = true := by
  induction ns with
  | nil => rfl
  | cons a r ih => rw [List.map_cons, List.all_cons, ih]; rfl
theorem cut1 {a R : TS} {D : Ends} {σ : L2.St} {H : Hp} (Good : L2.St → Hp → Prop) (fin : ∀ σ' H', Good σ' H' → R D σ' H') (h : ∀ R' : TS, (∀ σ' H', Good σ' H' → R' D σ' H') → tSeq a R' D σ H) : tSeq a R D σ H := h R fin
theorem str_get {ws : List Str} {d : Int} (h0 : 0 ≤ d) (h1 : d < ((ws.map V.str).length : Int)) : ∃ w, w ∈ ws ∧ (ws.map V.str)[d.toNat]? = some (.str w) := by
  rw [List.length_map] at h1
  have hlt : d.toNat < ws.length := by omega
  refine ⟨ws[d.toNat], List.getElem_mem hlt, ?_⟩
  rw [List.getElem?_map, List.getElem?_eq_getElem hlt]
  rfl
theorem StN.upd {n : Nat} {p d : Addr} {H : Hp} {o : HO} (q : d ≠ p) (h : StN n H p) : StN n (L2.upd H d o) p := by
  obtain ⟨a, b, c, e, r⟩ := h
  exact ⟨a, b, c, by rw [upd_ne q.symm]; exact e, r⟩
theorem StN.same {n : Nat} {p : Addr} {H H' : Hp} (e : Same H H') (h : StN n H p) : StN n H' p := by
  obtain ⟨a, b, c, q, r⟩ := h
  exact ⟨a, b, c, e _ _ q, r⟩
def spPkS : Sp := fun vs H Q _ => ∃ (p : Addr) (z : Str) (k : Nat), vs = [.ref p, .str z] ∧ StN k H p ∧ k ≤ 1000000 ∧ 1 ≤ z.length ∧ z.length ≤ 1000 ∧ ∀ (j c : Nat) H', z.cps.toList[j]? = some c → But p H H' → StN (k + 1) H' p → Q (.str ⟨#[c]⟩) H'
def spPkL : Sp := fun vs H Q _ => ∃ (p l : Addr) (xs : List V) (k : Nat), vs = [.ref p, .ref l] ∧ StN k H p ∧ k ≤ 1000000 ∧ H l = some (.lst xs) ∧ l ≠ p ∧ 1 ≤ xs.length ∧ xs.length ≤ 1000 ∧ ∀ (j : Nat) (v : V) H', xs[j]? = some v → But p H H' → StN (k + 1) H' p → Q v H'
abbrev L26 : Str := PySem.Str.ofString "abcdefghijklmnopqrstuvwxyz"
theorem l26_len : L26.length = 26 := by decide +kernel
theorem l26_low0 : L26.cps.toList.all (fun c => decide (97 ≤ c ∧ c ≤ 122)) = true := by decide +kernel
theorem l26_low {j c : Nat} (h : L26.cps.toList[j]? = some c) : lowC c := by
  have q : 97 ≤ c ∧ c ≤ 122 := of_decide_eq_true (List.all_eq_true.mp l26_low0 c (List.mem_of_getElem? h))
  exact q
theorem l36_eq : L26 ++ PySem.Str.ofString "0123456789" = ABC36 := by decide +kernel
def nS (k : Nat) : Str := PySem.Str.ofString "n" ++ numS k
def mS (k : Nat) : Str := PySem.Str.ofString "m" ++ numS k
theorem n_low : NmP (PySem.Str.ofString "n") := ⟨110, [], by decide +kernel, ⟨by decide, by decide⟩, fun _ h => nomatch h⟩
theorem m_low : NmP (PySem.Str.ofString "m") := ⟨109, [], by decide +kernel, ⟨by decide, by decide⟩, fun _ h => nomatch h⟩
theorem nS_nm {k : Nat} (h : k < 70) : NmP (nS k) ∧ (nS k).length ≤ 12 := by
  have q := num_sign h
  refine ⟨n_low.app q.1, ?_⟩
  show (PySem.Str.ofString "n" ++ numS k).length ≤ 12
  rw [len_app, show (PySem.Str.ofString "n").length = 1 by decide +kernel]
  omega
theorem mS_nm {k : Nat} (h : k < 70) : NmP (mS k) ∧ (mS k).length ≤ 12 := by
  have q := num_sign h
  refine ⟨m_low.app q.1, ?_⟩
  show (PySem.Str.ofString "m" ++ numS k).length ≤ 12
  rw [len_app, show (PySem.Str.ofString "m").length = 1 by decide +kernel]
  omega
theorem log_small {n : Nat} (h : n ≤ 100) : ((n : Int)).natAbs.log2 < 1920 := by
  have e : ((n : Int)).natAbs = n := by omega
  rw [e]
  have q : n.log2 ≤ n := Nat.log2_le_self _
  omega
def spNam (K : PySem.W.Frag) : Sp := fun vs H Q _ => ∃ (p ln : Addr) (taken : List Str) (k : Nat), vs = [.ref p, .ref ln] ∧ StN k H p ∧ k ≤ 900000 ∧ ln ≠ p ∧ H ln = some (.lst (taken.map V.str)) ∧ taken.length ≤ 60 ∧
  ∀ (z : Str) H', NmP z → z.length ≤ 12 → z ∉ taken → But p H H' → StN (k + 20) H' p → Q (.str z) H'
def spNms (K : PySem.W.Frag) : Sp := fun vs H Q _ => ∃ (p : Addr) (n : Int) (k : Nat), vs = [.ref p, .int n] ∧ StN k H p ∧ k ≤ 800000 ∧ 0 ≤ n ∧ n ≤ 60 ∧
  ∀ (zs : List Str) d H', H d = none → d ≠ p → But p H H' → StN (k + 20 * n.toNat) H' p → H' d = some (.lst (zs.map V.str)) → zs.length = n.toNat → zs.Nodup → (∀ z ∈ zs, NmP z ∧ z.length ≤ 12) → Q (.ref d) H'
section
variable {P : Program} {w : World} {K : PySem.W.Frag} {mg : Str → Option Value} {base : Heap}
theorem scPck : FnScope ["_law_well_here", "_law_some"] ["_law_well_here", "_law_some"] (defScope sPck) := ⟨rfl, rfl, rfl, by decide +kernel, rfl, by decide +kernel, by decide +kernel⟩
theorem ok_pks {f fG : Addr} {fd dG : FuncData} (F : Fun K "_law_pick" "_law_pick" sPck f fd) (T : TxB mg) (DG : Dn K mg "_law_draw" sDrw ["_law_well_here", "_law_many"] fG dG) : FnOk P w K mg base CX0 2 f fd ["_law_well_here", "_law_some"] spPkS := by
  have GG : FnOk P w K mg base CX0 1 fG dG _ spDrw := ok_drw DG.F
  refine F.ok scPck (fun vs H Q E h => ?_) (fun cdv A outer s H vs Q E hr h => ?_)
  · obtain ⟨p, z, k, rfl, _⟩ := h
    rfl
  · obtain ⟨p, z, k, rfl, hS, hk, z1, z2, kk⟩ := h
    have hr1 : Room 1 _ := hr
    refine ⟨_, (pss_one (ps_ret (pe_ix ix_str (pv 1) (pe_call GG hr1 rfl DG.g DG.F.kp DG.b .nil pass0 (pa_cons (pv 0) (pa_cons (pe_callB call_len_str (by rfl) T.len (by decide +kernel) (pa_cons (pv 1) pa_nil)) pa_nil))) (fun _ _ => rfl)))), ?_⟩
    refine ⟨_, rfl, _, rfl, _, rfl, z, rfl, Nat.le_trans z2 (by decide), p, _, k, rfl, hS, hk, by omega, by omega, fun d H1 d0 d1 B1 S1 => ?_⟩
    exact rdItem rfl d0 (by omega) (by omega) fun c hc => kk _ c H1 hc B1 S1
theorem ok_pkl {f fG : Addr} {fd dG : FuncData} (F : Fun K "_law_pick" "_law_pick" sPck f fd) (T : TxB mg) (DG : Dn K mg "_law_draw" sDrw ["_law_well_here", "_law_many"] fG dG) : FnOk P w K mg base CX0 2 f fd ["_law_well_here", "_law_some"] spPkL := by
  have GG : FnOk P w K mg base CX0 1 fG dG _ spDrw := ok_drw DG.F
  refine F.ok scPck (fun vs H Q E h => ?_) (fun cdv A outer s H vs Q E hr h => ?_)
  · obtain ⟨p, l, xs, k, rfl, _⟩ := h
    rfl
  · obtain ⟨p, l, xs, k, rfl, hS, hk, hl, nl, z1, z2, kk⟩ := h
    have hr1 : Room 1 _ := hr
    refine ⟨_, (pss_one (ps_ret (pe_ix ix_list (pv 1) (pe_call GG hr1 rfl DG.g DG.F.kp DG.b .nil pass0 (pa_cons (pv 0) (pa_cons (pe_callB call_len_seq (by rfl) T.len (by decide +kernel) (pa_cons (pv 1) pa_nil)) pa_nil))) (fun _ _ => rfl)))), ?_⟩
    refine ⟨_, rfl, _, rfl, _, rfl, l, _, rfl, .inl (SqL.of hl), p, _, k, rfl, hS, hk, by omega, by omega, fun d H1 d0 d1 B1 S1 => ?_⟩
    have hd : d.toNat < xs.length := by omega
    have e : xs[d.toNat]? = some xs[d.toNat] := List.getElem?_eq_getElem hd
    exact rdList (B1 _ _ nl hl) (j := d.toNat) (by omega) e (kk _ _ H1 e B1 S1)
theorem scNam : FnScope ["_law_well_here", "_law_taken", "_law_letters", "_law_way", "_law_name_here", "_law_k", "_law_some", "_law_one"] ["_law_well_here", "_law_taken"] (defScope sNam) := ⟨rfl, rfl, rfl, by decide +kernel, rfl, by decide +kernel, by decide +kernel⟩
theorem ok_nam {f fG fP : Addr} {fd dG dP : FuncData} (F : Fun K "_law_name" "_law_name" sNam f fd) (T : TxB mg) (tstr : mg "str" = none) (DG : Dn K mg "_law_draw" sDrw ["_law_well_here", "_law_many"] fG dG) (DP : Dn K mg "_law_pick" sPck ["_law_well_here", "_law_some"] fP dP) : FnOk P w K mg base CX0 3 f fd ["_law_well_here", "_law_taken"] (spNam K) := by
  have GG : FnOk P w K mg base CX0 1 fG dG _ spDrw := ok_drw DG.F
  have GP : FnOk P w K mg base CX0 2 fP dP _ spPkS := ok_pks DP.F T DG
  refine F.ok scNam (fun vs H Q E h => ?_) (fun cdv A outer s H vs Q E hr h => ?_)
  · obtain ⟨p, ln, tk, k, rfl, _⟩ := h
    rfl
  · obtain ⟨p, ln, tk, k, rfl, hS, hk, nlp, hT, hl, kk⟩ := h
    have hr1 : Room 1 _ := hr.mono (by decide)
    have hr2 : Room 2 _ := hr
    refine ⟨_, (pss_cons (ps_set (i := 2) scNam.nd rfl (Or.inl rfl) pe_str)
      (pss_cons (ps_set (i := 3) scNam.nd rfl (Or.inl rfl) (pe_call GG hr1 rfl DG.g DG.F.kp DG.b .nil pass0 (pa_cons (pv 0) (pa_cons pe_int pa_nil))))
      (pss_cons (ps_set (i := 4) scNam.nd rfl (Or.inl rfl) (pe_call GP hr2 rfl DP.g DP.F.kp DP.b .nil pass0 (pa_cons (pv 0) (pa_cons (pv 2) pa_nil))))
      (pss_cons (ps_if (pt_cmpR op_eq (pv 3) pe_int (nomark _)) (pss_one (ps_set (i := 4) scNam.nd rfl (Or.inl rfl) (pe_op op_add_str pe_str (pe_callTy call_str_int (by rfl) tstr (by decide +kernel) (pa_cons (pe_op op_add pe_int (pe_call GG hr1 rfl DG.g DG.F.kp DG.b .nil pass0 (pa_cons (pv 0) (pa_cons pe_int pa_nil)))) pa_nil))))) (pss_one (ps_if (pt_cmpR op_lt (pv 3) pe_int (nomark _)) (pss_one (ps_for PassesOwn.never rfl (pi_range1 rfl T.range (pa_cons (pe_ix ix_list (pe_lst (pa_cons pe_int (pa_cons pe_int (pa_cons pe_int (pa_cons pe_int pa_nil))))) (pe_call GG hr1 rfl DG.g DG.F.kp DG.b .nil pass0 (pa_cons (pv 0) (pa_cons pe_int pa_nil))) (fun _ _ => rfl)) pa_nil)) (pg_name (i := 5) scNam.nd rfl (Or.inl rfl)) (pss_one (ps_set (i := 4) scNam.nd rfl (Or.inl rfl) (pe_op op_add_str (pv 4) (pe_call GP hr2 rfl DP.g DP.F.kp DP.b .nil pass0 (pa_cons (pv 0) (pa_cons (pe_op op_add_str (pv 2) pe_str) pa_nil)))))))) pss_nil)))
      (pss_cons (ps_set (i := 6) scNam.nd rfl (Or.inl rfl) (pe_op op_cat (pe_lst (pa_cons (pv 4) pa_nil)) (pe_lc (own := [("_law_k", 5)]) (g := gName 5) rfl scNam.nd (pi_range1 rfl T.range (pa_cons (pe_op op_add (pe_callB call_len_seq (by rfl) T.len (by decide +kernel) (pa_cons (pv 1) pa_nil)) pe_int) pa_nil)) (blkOk_by (N := ["_law_well_here", "_law_taken", "_law_letters", "_law_way", "_law_name_here", "_law_k", "_law_some", "_law_one"]) (sc := defScope sNam) (by decide +kernel)) (fun _ _ _ _ _ => (pg_name (i := 5) scNam.nd rfl (Or.inl rfl))) (fun _ _ _ _ _ => pts_nil) (fun _ _ _ _ _ => (pe_op op_add_str pe_str (pe_callTy call_str_int (by rfl) tstr (by decide +kernel) (pa_cons (pv 5) pa_nil)))))))
      (pss_one (ps_ret (pe_ix ix_list (pe_lc (own := [("_law_one", 7)]) (g := gName 7) (tt := tTest (tOp (rIn K true) (tVar 7) (tVar 1))) (te := tVar 7) rfl scNam.nd (pi_list (pv 6)) (blkOk_by (N := ["_law_well_here", "_law_taken", "_law_letters", "_law_way", "_law_name_here", "_law_k", "_law_some", "_law_one"]) (sc := defScope sNam) (by decide +kernel)) (fun _ _ _ _ _ => (pg_name (i := 7) scNam.nd rfl (Or.inl rfl))) (fun _ _ _ _ _ => (pts_one (pt_cmpR op_notIn_seq (pv 7) (pv 1) (by rfl)))) (fun _ _ _ _ _ => (pv 7))) pe_int (fun _ _ => rfl))))))))), ?_⟩
    refine ⟨_, rfl, p, 5, k, rfl, hS, by omega, by decide, by decide, fun wy H1 w0 w1 B1 S1 => ?_⟩
    refine ⟨_, rfl, _, rfl, p, L26, k + 1, rfl, S1, by omega, by rw [l26_len]; decide, by rw [l26_len]; decide, fun j c H2 hc B2 S2 => ?_⟩
    have hc' := l26_low hc
    have B12 := B1.trans B2
    -- the name that is drawn
    dsimp only [gName]
    show tSeq _ _ _ [some (.ref p), some (.ref ln), some (.str L26), some (.int wy), some (.str ⟨#[c]⟩), none, none, none] _
    refine cut1 (fun σ' H' => ∃ (z : Str) (u5 : Option V), σ' = [some (.ref p), some (.ref ln), some (.str L26), some (.int wy), some (.str z), u5, none, none] ∧ NmP z ∧ z.length ≤ 12 ∧ But p H H' ∧ StN (k + 20) H' p) ?_ (fun R' fin => ?_)
    · rintro σ' H3 ⟨z, u5, rfl, hz, hzl, B3, S3⟩
      have hT3 := B3 _ _ nlp hT
      refine ⟨_, rfl, by show 1 ≤ sizeLine; decide, fun l1 hl1 => ?_⟩
      have T1 : Same H3 (L2.upd H3 l1 (.lst [.str z])) := Same.upd hl1
      have e1 : (L2.upd H3 l1 (.lst [.str z])) l1 = some (.lst [.str z]) := upd_same
      generalize L2.upd H3 l1 (.lst [.str z]) = H4 at T1 e1
      refine ⟨_, rfl, ln, _, rfl, .inl (SqL.of (T1 _ _ hT3)), _, _, rfl, rfl, _, rfl, by omega, by rw [List.length_map]; omega, fun D hD => ?_⟩
      refine lc_range (lo := 0) (n := _) (fun i H' => Same H4 H' ∧ H' D = some (.lst (((List.range i).map nS).map V.str))) ⟨Same.upd hD, upd_same⟩ ?_ ?_
      · rintro i H5 hi ⟨S5, h5⟩
        rw [List.length_map] at hi
        have hi' : i ≤ 60 := by omega
        have ei : (0 + (i : Int)) = ((i : Nat) : Int) := by omega
        refine ⟨rfl, _, rfl, _, rfl, by rw [ei]; exact log_small (by omega), _, _, rfl, rfl, ?_, _, h5, ?_, fun b o e => ?_, ?_⟩
        · have q := num_sign (n := i) (by omega)
          rw [ei]
          exact Nat.le_trans (show 1 + (numS i).length ≤ 100 by omega) (by decide)
        · rw [List.length_map, List.length_map, List.length_range]
          exact Nat.lt_of_le_of_lt (show _ ≤ 1000 by omega) (by decide)
        · rw [upd_ne (ne_of_none e hD)]
          exact S5 _ _ e
        · rw [upd_same, List.range_succ, List.map_append, List.map_append, ei]
          rfl
      rintro H5 ⟨S5, h5⟩
      rw [List.length_map, show (((tk.length : Nat) : Int) + 1).toNat = tk.length + 1 by omega] at h5
      refine ⟨l1, D, _, _, rfl, rfl, S5 _ _ e1, h5, ?_, fun sm hsm => ?_⟩
      · rw [List.length_map, List.length_map, List.length_range]
        exact Nat.le_trans (show _ ≤ 1000 by show 1 + (tk.length + 1) ≤ 1000; omega) (by decide)
      have T6 : Same H5 (L2.upd H5 sm (.lst ([.str z] ++ ((List.range (tk.length + 1)).map nS).map V.str))) := Same.upd hsm
      have e6 : (L2.upd H5 sm (.lst ([.str z] ++ ((List.range (tk.length + 1)).map nS).map V.str))) sm = some (.lst ((z :: (List.range (tk.length + 1)).map nS).map V.str)) := upd_same
      generalize L2.upd H5 sm (.lst ([.str z] ++ ((List.range (tk.length + 1)).map nS).map V.str)) = H6 at T6 e6
      have S36 := (T1.trans S5).trans T6
      have hT6 := S36 _ _ hT3
      have all12 : ∀ y ∈ z :: (List.range (tk.length + 1)).map nS, NmP y ∧ y.length ≤ 12 := fun y hy => by
        rcases List.mem_cons.mp hy with rfl | hy
        · exact ⟨hz, hzl⟩
        · obtain ⟨i, hi, rfl⟩ := List.mem_map.mp hy
          exact nS_nm (by have := List.mem_range.mp hi; omega)
      have some1 : ∃ y ∈ z :: (List.range (tk.length + 1)).map nS, y ∉ tk := by
        apply Classical.byContradiction
        intro q
        have q2 : ∀ i, i < tk.length + 1 → nS i ∈ tk := fun i hi => Classical.byContradiction fun z' => q ⟨nS i, List.mem_cons_of_mem _ (List.mem_map.mpr ⟨i, List.mem_range.mpr hi, rfl⟩), z'⟩
        have q3 := holes (f := nS) (n := tk.length + 1) (l := tk) (fun i j hi hj e => num_inj (by omega) (by omega) (app_inj e)) q2
        omega
      generalize hal : z :: (List.range (tk.length + 1)).map nS = al at e6 all12 some1
      have al9 : al.length ≤ 100 := by
        rw [← hal, List.length_cons, List.length_map, List.length_range]
        omega
      refine ⟨_, rfl, sm, rfl, ⟨_, SqL.of e6⟩, fun M hM => ?_⟩
      refine lc_list (K := K) (a := sm) (xs := al.map V.str) (fun i H' => Same H6 H' ∧ H' M = some (.lst (((al.take i).filter fun y => !decide (y ∈ tk)).map V.str))) ⟨Same.upd hM, upd_same⟩ (fun i H' _ h => SqL.of (h.1 _ _ e6)) ?_ ?_
      · rintro i v H7 hv ⟨S7, h7⟩
        obtain ⟨y, hy, rfl⟩ := map_str_get hv
        refine ⟨rfl, _, rfl, _, rfl, ln, _, rfl, .inl (SqL.of (S7 _ _ hT6)), rfl, flats tk, _, rfl, ?_⟩
        rw [if_pos rfl, inV_strs]
        by_cases hin : y ∈ tk
        · rw [decide_eq_true hin]
          refine iteF ⟨S7, ?_⟩
          rw [h7, List.take_add_one, hy, List.filter_append]
          simp [hin]
        · rw [decide_eq_false hin]
          refine iteT ⟨_, rfl, _, h7, ?_, fun b o e => ?_, ?_⟩
          · rw [List.length_map]
            exact Nat.lt_of_le_of_lt (Nat.le_trans (List.length_filter_le _ _) (show _ ≤ 1000 by rw [List.length_take]; omega)) (by decide)
          · rw [upd_ne (ne_of_none e hM)]
            exact S7 _ _ e
          · rw [upd_same, List.take_add_one, hy, List.filter_append]
            simp [hin]
      rintro H7 ⟨S7, h7⟩
      rw [List.length_map, List.take_length] at h7
      have ne : (al.filter fun y => !decide (y ∈ tk)) ≠ [] := fun q => by
        obtain ⟨y, hy, hn⟩ := some1
        have hq : y ∈ al.filter fun y => !decide (y ∈ tk) := List.mem_filter.mpr ⟨hy, by simpa using hn⟩
        rw [q] at hq
        cases hq
      obtain ⟨y, r, hyr⟩ := List.exists_cons_of_ne_nil ne
      have hym := List.mem_filter.mp (show y ∈ al.filter fun y => !decide (y ∈ tk) by rw [hyr]; exact List.mem_cons_self ..)
      rw [hyr] at h7
      refine ⟨M, _, 0, .str y, rfl, rfl, SqL.of h7, atI_nat (j := 0) rfl, ?_⟩
      exact kk y H7 (all12 y hym.1).1 (all12 y hym.1).2 (by simpa using hym.2) (fun q o n e => S7 _ _ (S36 _ _ (B3 q o n e))) (S3.same (S36.trans S7))
    · refine ⟨_, rfl, rfl, _, rfl, ite2 (fun _ => ?_) (fun _ => ?_)⟩
      · refine ⟨_, rfl, p, 4, k + 2, rfl, S2, by omega, by decide, by decide, fun d H3 d0 d1 B3 S3 => ?_⟩
        have ed : (1 + d) = ((1 + d.toNat : Nat) : Int) := by omega
        refine ⟨_, _, rfl, rfl, _, rfl, by rw [ed]; exact log_small (by omega), _, _, rfl, rfl, ?_, ?_⟩
        · have q := num_sign (n := 1 + d.toNat) (by omega)
          rw [ed]
          exact Nat.le_trans (show 1 + (numS (1 + d.toNat)).length ≤ 100 by omega) (by decide)
        · have q := mS_nm (k := 1 + d.toNat) (by omega)
          rw [ed]
          exact fin _ _ ⟨_, _, rfl, q.1, q.2, B12.trans B3, S3.mono (by omega)⟩
      · refine ⟨_, rfl, _, _, rfl, rfl, _, rfl, ite2 (fun _ => ?_) (fun _ => ?_)⟩
        · refine ⟨by show 4 ≤ sizeLine; decide, fun l hl => ?_⟩
          have nlq := st_free S2.ok hl
          refine ⟨_, rfl, p, 4, k + 2, rfl, S2.upd nlq, by omega, by decide, by decide, fun d H3 d0 d1 B3 S3 => ?_⟩
          have hl3 := B3 l _ nlq upd_same
          obtain ⟨m, hm, m11⟩ : ∃ m : Nat, [V.int 0, .int 1, .int 2, .int 11][d.toNat]? = some (.int (m : Int)) ∧ m ≤ 11 := by
            rcases (by omega : d = 0 ∨ d = 1 ∨ d = 2 ∨ d = 3) with rfl | rfl | rfl | rfl
            · exact ⟨0, rfl, by decide⟩
            · exact ⟨1, rfl, by decide⟩
            · exact ⟨2, rfl, by decide⟩
            · exact ⟨11, rfl, by decide⟩
          refine rdList hl3 (j := d.toNat) (by omega) hm ⟨_, rfl, by omega, by omega, ?_⟩
          have B13 : But p H H3 := (but_new B12 nlq (B12.free nlq hl)).trans B3
          refine for_range (n := ((m : Nat) : Int).toNat) (fun i σ H' => ∃ (z : Str) (v : Option V), σ = [some (.ref p), some (.ref ln), some (.str L26), some (.int wy), some (.str z), v, none, none] ∧ z.length ≤ i + 1 ∧ NmP z ∧ But p H H' ∧ StN (k + 3 + i) H' p) ⟨⟨#[c]⟩, none, rfl, Nat.le_refl _, NmP.one hc', B13, S3⟩ ?_ ?_
          · rintro i σ H4 hi ⟨z, v, rfl, hz, hp, B4, S4⟩
            rw [Int.toNat_natCast] at hi
            refine ⟨_, rfl, _, rfl, _, rfl, _, _, rfl, rfl, ?_, ?_⟩
            · show L26.length + (PySem.Str.ofString "0123456789").length ≤ _
              rw [l26_len, show (PySem.Str.ofString "0123456789").length = 10 by decide +kernel]
              decide
            rw [l36_eq]
            refine ⟨p, ABC36, k + 3 + i, rfl, S4, by omega, by rw [abc36_len]; decide, by rw [abc36_len]; decide, fun j c H5 hc B5 S5 => ?_⟩
            refine ⟨_, _, rfl, rfl, ?_, _, _, rfl, ?_, hp.app (fun d hd => ?_), B4.trans B5, S5⟩
            · rw [len_one]
              exact Nat.le_trans (show z.length + 1 ≤ 100 by omega) (by decide)
            · rw [len_app, len_one]
              omega
            · have e : d = c := by simpa using hd
              rw [e]
              exact abc_any hc
          · rintro σ H4 ⟨z, v, rfl, hz, hp, B4, S4⟩
            rw [Int.toNat_natCast] at hz S4
            exact fin _ _ ⟨z, v, rfl, hp, by omega, B4, S4.mono (by omega)⟩
        · exact fin _ _ ⟨⟨#[c]⟩, none, rfl, NmP.one hc', by show 1 ≤ 12; decide, B12, S2.mono (by omega)⟩
theorem scNms : FnScope ["_law_well_here", "_law_many", "_law_found", "_law_k"] ["_law_well_here", "_law_many"] (defScope sNms) := ⟨rfl, rfl, rfl, by decide +kernel, rfl, by decide +kernel, by decide +kernel⟩
theorem ok_nms {f fL : Addr} {fd dL : FuncData} (F : Fun K "_law_names" "_law_names" sNms f fd) (T : TxB mg) (D : Dn K mg "_law_name" sNam ["_law_well_here", "_law_taken"] fL dL) (G : FnOk P w K mg base CX0 3 fL dL ["_law_well_here", "_law_taken"] (spNam K)) : FnOk P w K mg base CX0 4 f fd ["_law_well_here", "_law_many"] (spNms K) := by
  refine F.ok scNms (fun vs H Q E h => ?_) (fun cdv A outer s H vs Q E hr h => ?_)
  · obtain ⟨p, n, k, rfl, _⟩ := h
    rfl
  · obtain ⟨p, n, q, rfl, hS, hq, n0, n6, k⟩ := h
    have hr3 : Room 3 _ := hr
    refine ⟨_, (pss_cons (ps_set (i := 2) scNms.nd rfl (Or.inl rfl) (pe_lst pa_nil))
      (pss_cons (ps_for PassesOwn.never rfl (pi_range1 rfl T.range (pa_cons (pv 1) pa_nil)) (pg_name (i := 3) scNms.nd rfl (Or.inl rfl)) (pss_one (ps_expr (pe_bm PySem.F.plainAttrs_list PySem.F.slot_list_append PySem.F.type_list_append mt_append (pv 2) (pa_cons (pe_call G hr3 rfl D.g D.F.kp D.b .nil pass0 (pa_cons (pv 0) (pa_cons (pv 2) pa_nil))) pa_nil)))))
      (pss_one (ps_ret (pv 2))))), ?_⟩
    refine ⟨Nat.zero_le _, fun d hd => ?_⟩
    have ndp := st_free hS.ok hd
    refine ⟨_, rfl, n, rfl, by omega, by omega, ?_⟩
    refine for_range (n := n.toNat) (fun i σ H' => (∃ u, σ = [some (.ref p), some (.int n), some (.ref d), u]) ∧ ∃ zs : List Str, H' d = some (.lst (zs.map V.str)) ∧ zs.Nodup ∧ (∀ z ∈ zs, NmP z ∧ z.length ≤ 12) ∧ zs.length = i ∧ But p H H' ∧ StN (q + 20 * i) H' p)
      ⟨⟨none, rfl⟩, [], upd_same, List.nodup_nil, fun z hz => (List.not_mem_nil hz).elim, rfl, but_new (But.refl p H) ndp hd, hS.upd ndp⟩ ?_ ?_
    · rintro i σ H1 hi ⟨⟨u, rfl⟩, zs, hl, nd, nm, len, B, S⟩
      refine ⟨_, rfl, .inl ⟨rfl, _, SqL.of hl⟩, _, rfl, _, rfl, p, d, zs, q + 20 * i, rfl, S, by omega, ndp, hl, by omega, fun z H2 hz hz6 hm B2 S2 => ?_⟩
      have hl2 := B2 d _ ndp hl
      refine ⟨d, _, _, rfl, rfl, hl2, ?_, ?_⟩
      · rw [List.length_map]
        exact Nat.lt_of_le_of_lt (show _ ≤ 1000 by omega) (by decide)
      · refine ⟨⟨_, rfl⟩, zs ++ [z], ?_, ?_, ?_, ?_, but_new (B.trans B2) ndp hd, (S2.upd ndp).mono (by omega)⟩
        · rw [upd_same, List.map_append]
          rfl
        · rw [List.nodup_append]
          exact ⟨nd, (by simp : [z].Nodup), fun a ha b hb e => by
            have eb : b = z := by simpa using hb
            rw [e, eb] at ha
            exact hm ha⟩
        · intro y hy
          rcases List.mem_append.mp hy with hy | hy
          · exact nm y hy
          · rw [List.mem_singleton.mp hy]
            exact ⟨hz, hz6⟩
        · rw [List.length_append, List.length_singleton]
          omega
    · rintro σ H1 ⟨⟨u, rfl⟩, zs, hl, nd, nm, len, B, S⟩
      exact ⟨_, rfl, k zs d H1 hd ndp B S hl len nd nm⟩
end
end Wm
namespace Wm
open PySem L2 StX
theorem noTw_of {zs : List Str} (h : zs.Nodup) : NoTw (zs.map V.str) := fun i x e => by
  rw [List.getElem?_map] at e
  obtain ⟨z, ez, rfl⟩ := Option.map_eq_some_iff.mp e
  rw [← List.map_take, inV_strs]
  refine decide_eq_false fun hm => ?_
  obtain ⟨j, hj⟩ := List.mem_iff_getElem?.mp hm
  have hlt : j < i := by
    have q := (List.getElem?_eq_some_iff.mp hj).1
    rw [List.length_take] at q
    omega
  rw [List.getElem?_take_of_lt hlt] at hj
  have hil := (List.getElem?_eq_some_iff.mp ez).1
  have hjl := (List.getElem?_eq_some_iff.mp hj).1
  exact (List.pairwise_iff_getElem.mp h) j i hjl hil hlt ((List.getElem?_eq_some_iff.mp hj).2.trans (List.getElem?_eq_some_iff.mp ez).2.symm)
theorem low_let : ∀ c : Fin 123, 97 ≤ c.1 → c.1 ∈ LET := by decide +kernel
theorem fig_fig : ∀ c : Fin 58, 48 ≤ c.1 → c.1 ∈ FIG := by decide +kernel
theorem nm_is {z : Str} (h : NmP z) (hl : z.length ≤ 12) : isNm z = true := by
  obtain ⟨c, cs, e, l, r⟩ := h
  have ol : ∀ d, lowC d → d ∈ LET := fun d q => low_let ⟨d, Nat.lt_succ_of_le q.2⟩ q.1
  have of' : ∀ d, figC d → d ∈ FIG := fun d q => fig_fig ⟨d, Nat.lt_succ_of_le q.2⟩ q.1
  have hlen : z.length = (c :: cs).length := by
    rw [← e]
    exact (Array.length_toList).symm
  unfold isNm
  rw [e]
  have a1 : (c :: cs).all okc = true := by
    rw [List.all_eq_true]
    intro d hd
    unfold okc
    rcases List.mem_cons.mp hd with h | h
    · rw [h, decide_eq_true (ol c l)]
      rfl
    · rcases r d h with q | q
      · rw [decide_eq_true (ol d q)]
        rfl
      · rw [decide_eq_true (of' d q), Bool.or_true]
  have a2 : first (c :: cs) = true := by
    unfold first
    exact decide_eq_true (ol c l)
  rw [a1, a2, decide_eq_true hl]
  simp [hlen]

def NotSt (o : HO) : Prop := ∀ x y z : Int, o ≠ .lst [.int x, .int y, .int z]
def Kp (H H' : Hp) : Prop := ∀ a o, NotSt o → H a = some o → H' a = some o
theorem Kp.refl (H : Hp) : Kp H H := fun _ _ _ h => h
theorem Kp.trans {H H1 H2 : Hp} (a : Kp H H1) (b : Kp H1 H2) : Kp H H2 := fun c o n h => b c o n (a c o n h)
theorem Same.kp {H H' : Hp} (s : Same H H') : Kp H H' := fun a o _ h => s a o h
theorem But.kp {p : Addr} {H H' : Hp} (b : But p H H') (s : StOk H p) : Kp H H' := fun a o n h => by
  obtain ⟨x, y, z, e, _⟩ := s
  refine b a o (fun q => ?_) h
  rw [q, e] at h
  exact n x y z (Option.some.inj h).symm
theorem Kp.new {D : Addr} {H H' : Hp} {o : HO} (k : Kp H H') (h : H D = none) : Kp H (upd H' D o) := fun a u n e => by
  rw [upd_ne (ne_of_none e h)]
  exact k a u n e
theorem ns_tup {xs : List V} : NotSt (.tup xs) := fun _ _ _ z => by cases z
theorem ns_dK {xs : List (L2.Key × V)} : NotSt (.dK xs) := fun _ _ _ z => by cases z
theorem ns_ins {C d : Addr} {fs : List (Str × V)} : NotSt (.ins C d fs) := fun _ _ _ z => by cases z
theorem ns_strs {xs : List Str} : NotSt (.lst (xs.map V.str)) := fun _ _ _ z => by
  cases xs with
  | nil => cases z
  | cons a r =>
    have e := HO.lst.inj z
    rw [List.map_cons] at e
    cases (List.cons.inj e).1
theorem ns_refs {xs : List Addr} : NotSt (.lst (xs.map V.ref)) := fun _ _ _ z => by
  cases xs with
  | nil => cases z
  | cons a r =>
    have e := HO.lst.inj z
    rw [List.map_cons] at e
    cases (List.cons.inj e).1
theorem ns_nil : NotSt (.lst []) := fun _ _ _ z => by cases z
theorem ns_frz {ob : Obj} {u : HO} : NotSt (.frz ob u) := fun _ _ _ z => by cases z
theorem Kp.sqT {K : PySem.W.Frag} {H H' : Hp} {a : Addr} {xs : List V} (e : Kp H H') (h : SqT K H a xs) : SqT K H' a xs := by
  rcases h with (h | ⟨o, h⟩) | h
  · exact .inl (.inl (e _ _ ns_tup h))
  · exact .inl (.inr ⟨o, e _ _ ns_frz h⟩)
  · exact .inr h
theorem rows_imp {K : PySem.W.Frag} {H H' : Hp} (s : ∀ {q : Addr} {xs : List V}, SqT K H q xs → SqT K H' q xs) : ∀ {ps : List Addr} {rs : List (List V)}, RowsAt K H ps rs → RowsAt K H' ps rs
  | [], [], _ => True.intro
  | _ :: _, _ :: _, h => ⟨s h.1, rows_imp s h.2⟩
  | [], _ :: _, h => h.elim
  | _ :: _, [], h => h.elim
theorem Kp.rows {K : PySem.W.Frag} {H H' : Hp} (e : Kp H H') {ps : List Addr} {rs : List (List V)} (h : RowsAt K H ps rs) : RowsAt K H' ps rs := rows_imp (fun q => e.sqT q) h
/-- a list is written: tuples stand -/
theorem sqT_put {K : PySem.W.Frag} {H : Hp} {l a : Addr} {ys : List V} {o : HO} {xs : List V} (hl : H l = some (.lst ys)) (h : SqT K H a xs) : SqT K (upd H l o) a xs := by
  rcases h with (h | ⟨ob, h⟩) | h
  · exact .inl (.inl (by rw [upd_ne (ne_of h hl (by intro z; cases z))]; exact h))
  · exact .inl (.inr ⟨ob, by rw [upd_ne (ne_of h hl (by intro z; cases z))]; exact h⟩)
  · exact .inr h
theorem rows_put {K : PySem.W.Frag} {H : Hp} {l : Addr} {ys : List V} {o : HO} (hl : H l = some (.lst ys)) {ps : List Addr} {rs : List (List V)} (h : RowsAt K H ps rs) : RowsAt K (upd H l o) ps rs := rows_imp (fun q => sqT_put hl q) h
theorem But.ne {p a : Addr} {H : Hp} {o : HO} (s : StOk H p) (h : H a = some o) (n : NotSt o) : a ≠ p := fun q => by
  obtain ⟨x, y, z, e, _⟩ := s
  rw [q, e] at h
  exact n x y z (Option.some.inj h).symm
def AllAt {α : Type} (R : Addr → α → Prop) : List Addr → List α → Prop
  | [], [] => True
  | a :: as, x :: xs => R a x ∧ AllAt R as xs
  | _, _ => False
theorem AllAt.imp {α : Type} {R R' : Addr → α → Prop} (h : ∀ a x, R a x → R' a x) : ∀ {as : List Addr} {xs : List α}, AllAt R as xs → AllAt R' as xs
  | [], [], _ => True.intro
  | _ :: _, _ :: _, q => ⟨h _ _ q.1, AllAt.imp h q.2⟩
  | [], _ :: _, q => q.elim
  | _ :: _, [], q => q.elim
theorem AllAt.len {α : Type} {R : Addr → α → Prop} : ∀ {as : List Addr} {xs : List α}, AllAt R as xs → as.length = xs.length
  | [], [], _ => rfl
  | _ :: _, _ :: _, q => congrArg (· + 1) (AllAt.len q.2)
  | [], _ :: _, q => q.elim
  | _ :: _, [], q => q.elim
theorem AllAt.get {α : Type} {R : Addr → α → Prop} : ∀ {as : List Addr} {xs : List α} {j : Nat} {y : V}, AllAt R as xs → (as.map V.ref)[j]? = some y → ∃ a x, y = .ref a ∧ xs[j]? = some x ∧ R a x
  | a :: as, x :: xs, 0, y, h, e => ⟨a, x, (Option.some.inj e).symm, rfl, h.1⟩
  | a :: as, x :: xs, j + 1, y, h, e => by
    obtain ⟨a', x', p, q, r⟩ := AllAt.get (j := j) h.2 (by simpa using e)
    exact ⟨a', x', p, by simpa using q, r⟩
  | [], _, _, _, _, e => by simp at e
  | _ :: _, [], _, _, h, _ => h.elim
theorem AllAt.append {α : Type} {R : Addr → α → Prop} : ∀ {as bs : List Addr} {xs ys : List α}, AllAt R as xs → AllAt R bs ys → AllAt R (as ++ bs) (xs ++ ys)
  | [], _, [], _, _, q => q
  | _ :: _, _, _ :: _, _, h, q => ⟨h.1, AllAt.append h.2 q⟩
  | [], _, _ :: _, _, h, _ => h.elim
  | _ :: _, _, [], _, h, _ => h.elim
structure PtD where
  nm : Str
  vars : List Var
  cs : List Tri
structure RlD where
  p : PtD
  g : Tri
  bh : Str
def RlAt (K : PySem.W.Frag) (B : Addr) (H : Hp) (a : Addr) (r : RlD) : Prop := ∃ d t1 t2 t3 ps qs, H a = some (.ins B d (rulF r.p.nm t1 t2 t3 r.bh)) ∧ SqT K H t1 (ps.map V.ref) ∧ RowsAt K H ps (r.p.vars.map varV) ∧ SqT K H t2 (qs.map V.ref) ∧ RowsAt K H qs (r.p.cs.map triV) ∧ SqT K H t3 (triV r.g)
theorem RlAt.same {K : PySem.W.Frag} {B : Addr} {H H' : Hp} {a : Addr} {r : RlD} (s : Same H H') (h : RlAt K B H a r) : RlAt K B H' a r := by
  obtain ⟨d, t1, t2, t3, ps, qs, x, y, z, u, v, w⟩ := h
  exact ⟨d, t1, t2, t3, ps, qs, s _ _ x, same_seqT s y, z.same s, same_seqT s u, v.same s, same_seqT s w⟩
theorem endsL_app (a b : List Tri) : endsL (a ++ b) = endsL a ++ endsL b := by
  unfold endsL
  rw [List.flatMap_append]
structure RuleOk (ss ws : List Str) (r : RlD) : Prop where
  pt : PatOk r.p.vars r.p.cs [r.g] [r.bh]
  vn : ∀ v ∈ r.p.vars, isNm v.1 = true ∧ v.1.length ≤ 12 ∧ okS v.1
  vs : ∀ v ∈ r.p.vars, ∀ z, v.2 = some z → z ∈ ss
  cw : ∀ t ∈ r.p.cs, t.2.1 ∈ ws
  gw : r.g.2.1 ∈ ws
def MRul (K : PySem.W.Frag) (H : Hp) (a : Addr) (r : RlD) : Prop := ∃ lv lc g ps qs, H a = some (.tup [.str r.p.nm, .ref lv, .ref lc, .ref g, .str r.bh]) ∧ H lv = some (.lst (ps.map V.ref)) ∧ RowsAt K H ps (r.p.vars.map varV) ∧ H lc = some (.lst (qs.map V.ref)) ∧ RowsAt K H qs (r.p.cs.map triV) ∧ H g = some (.tup (triV r.g))
theorem MRul.kp {K : PySem.W.Frag} {H H' : Hp} {a : Addr} {r : RlD} (k : Kp H H') (h : MRul K H a r) : MRul K H' a r := by
  obtain ⟨lv, lc, g, ps, qs, h1, h2, h3, h4, h5, h6⟩ := h
  exact ⟨lv, lc, g, ps, qs, k _ _ ns_tup h1, k _ _ ns_refs h2, k.rows h3, k _ _ ns_refs h4, k.rows h5, k _ _ ns_tup h6⟩
theorem cut_drop (xs : List V) (i : Nat) : cutV xs (some (i : Int)) none = xs.drop i := by
  unfold cutV
  rw [HT.sIx_none, HT.sIx_nat]
  by_cases h : i ≤ xs.length
  · rw [Nat.min_eq_left h, List.take_of_length_le (by rw [List.length_drop]; omega)]
  · rw [Nat.min_eq_right (by omega), List.drop_of_length_le (Nat.le_refl _), List.drop_of_length_le (by omega)]
    simp
/-! ### the conditions as they are drawn, over the names known so far -/
structure KInv (nm ws : List Str) (m : Nat) (cs : List Tri) : Prop where
  m1 : 1 ≤ m
  ml : m ≤ nm.length
  wd : ∀ t ∈ cs, t.2.1 ∈ ws
  en : ∀ z ∈ endsL cs, z ∈ nm.take m
  al : cs ≠ [] → ∀ z ∈ nm.take m, z ∈ endsL cs
  e0 : cs = [] → m = 1
  ha : Hangs cs
theorem KInv.nil {nm ws : List Str} (h : 1 ≤ nm.length) : KInv nm ws 1 [] := ⟨Nat.le_refl _, h, fun _ h => (List.not_mem_nil h).elim, fun _ h => (List.not_mem_nil h).elim, fun h => (h rfl).elim, fun _ => rfl, fun i u _ h => by simp at h⟩
theorem KInv.step {nm ws : List Str} {m m' : Nat} {x y w : Str} {cs : List Tri} {t : Tri} (h : KInv nm ws m cs) (hx : x ∈ nm.take m) (hy : (m' = m ∧ y ∈ nm.take m) ∨ (m' = m + 1 ∧ nm[m]? = some y)) (hw : w ∈ ws) (ht : t = (x, w, y) ∨ t = (y, w, x)) : KInv nm ws m' (cs ++ [t]) := by
  have e : endsL (cs ++ [t]) = endsL cs ++ [t.1, t.2.2] := by
    rw [endsL_app]
    rfl
  have hxm : x ∈ [t.1, t.2.2] := by rcases ht with rfl | rfl <;> simp
  have hym : y ∈ [t.1, t.2.2] := by rcases ht with rfl | rfl <;> simp
  have hmm : ∀ z ∈ [t.1, t.2.2], z = x ∨ z = y := fun z hz => by
    rcases ht with rfl | rfl
    · simp at hz
      exact hz
    · simp at hz
      exact hz.symm
  have m1 := h.m1
  have ml := h.ml
  have sub : ∀ z ∈ nm.take m, z ∈ nm.take m' := fun z hz => by
    rcases hy with ⟨rfl, _⟩ | ⟨rfl, _⟩
    · exact hz
    · rw [List.take_add_one]
      exact List.mem_append_left _ hz
  have hy' : y ∈ nm.take m' := by
    rcases hy with ⟨rfl, q⟩ | ⟨rfl, q⟩
    · exact q
    · rw [List.take_add_one, q]
      exact List.mem_append_right _ (by simp)
  have inv : ∀ z ∈ nm.take m', z ∈ nm.take m ∨ z = y := fun z hz => by
    rcases hy with ⟨rfl, q⟩ | ⟨rfl, q⟩
    · exact .inl hz
    · rw [List.take_add_one, q] at hz
      rcases List.mem_append.mp hz with r | r
      · exact .inl r
      · exact .inr (by simpa using r)
  refine ⟨?_, ?_, fun u hu => ?_, fun z hz => ?_, fun _ z hz => ?_, fun z => ?_, fun i u hi hu => ?_⟩
  · rcases hy with ⟨rfl, _⟩ | ⟨rfl, _⟩ <;> omega
  · rcases hy with ⟨rfl, _⟩ | ⟨rfl, q⟩
    · exact ml
    · have := (List.getElem?_eq_some_iff.mp q).1
      omega
  · rcases List.mem_append.mp hu with q | q
    · exact h.wd u q
    · rw [List.mem_singleton.mp q]
      rcases ht with rfl | rfl <;> exact hw
  · rw [e] at hz
    rcases List.mem_append.mp hz with q | q
    · exact sub z (h.en z q)
    · rcases hmm z q with rfl | rfl
      · exact sub _ hx
      · exact hy'
  · rw [e]
    by_cases hc : cs = []
    · have m0 := h.e0 hc
      rcases inv z hz with q | q
      · have zx : z = x := by
          rw [m0] at q hx
          cases nm with
          | nil => simp at q
          | cons a r =>
            simp at q hx
            rw [q, hx]
        rw [zx]
        exact List.mem_append_right _ hxm
      · rw [q]
        exact List.mem_append_right _ hym
    · rcases inv z hz with q | q
      · exact List.mem_append_left _ (h.al hc z q)
      · rw [q]
        exact List.mem_append_right _ hym
  · simp at z
  · by_cases hlt : i < cs.length
    · rw [List.getElem?_append_left hlt] at hu
      rw [List.take_append_of_le_length (Nat.le_of_lt hlt)]
      exact h.ha i u hi hu
    · have hl := (List.getElem?_eq_some_iff.mp hu).1
      rw [List.length_append, List.length_singleton] at hl
      have ei : i = cs.length := by omega
      rw [ei, List.getElem?_append_right (Nat.le_refl _)] at hu
      simp at hu
      rw [ei, List.take_append_of_le_length (Nat.le_refl _), List.take_length]
      have hc : cs ≠ [] := fun z => by rw [z] at ei; simp at ei; omega
      have q := h.al hc x hx
      rw [← hu]
      rcases ht with rfl | rfl
      · exact .inl q
      · exact .inr q
def spAny (K : PySem.W.Frag) : Sp := fun vs H Q _ => ∃ (p ls lw : Addr) (nm : Str) (ss ws : List Str) (mo : Int) (k : Nat), vs = [.ref p, .str nm, .ref ls, .ref lw, .int mo] ∧ StN k H p ∧ k ≤ 700000 ∧ H ls = some (.lst (ss.map V.str)) ∧ H lw = some (.lst (ws.map V.str)) ∧ 1 ≤ ws.length ∧ ss.length ≤ 60 ∧ ws.length ≤ 60 ∧ 1 ≤ mo ∧ mo ≤ 3 ∧
  ∀ t (r : RlD) H', r.p.nm = nm → RuleOk ss ws r → H t = none → But p H H' → StN (k + 200) H' p → MRul K H' t r → Q (.ref t) H'
theorem ns_sorts (ss : List Str) : NotSt (.lst (ss.map V.str ++ [V.non])) := fun x y z e => by
  have e := HO.lst.inj e
  cases ss with
  | nil => cases e
  | cons a r => cases e
theorem sort_of {ss : List Str} {j : Nat} {v : V} (h : (ss.map V.str ++ [V.non])[j]? = some v) : ∃ o : Option Str, v = sortV o ∧ ∀ z, o = some z → z ∈ ss := by
  rcases List.mem_append.mp (List.mem_of_getElem? h) with q | q
  · obtain ⟨z, hz, rfl⟩ := List.mem_map.mp q
    exact ⟨some z, rfl, fun y e => by cases e; exact hz⟩
  · rw [List.mem_singleton.mp q]
    exact ⟨none, rfl, fun y e => by cases e⟩
theorem cut_mid (xs : List V) (i : Nat) : cutV xs (some (i : Int)) (some ((i : Int) + 1)) = (xs.drop i).take 1 := by
  have e : ((i : Int) + 1) = ((i + 1 : Nat) : Int) := by omega
  rw [e]
  unfold cutV
  rw [HT.sIx_nat, HT.sIx_nat]
  by_cases h : i < xs.length
  · rw [Nat.min_eq_left (by omega), Nat.min_eq_left (by omega)]
    congr 1
    omega
  · rw [List.drop_of_length_le (show xs.length ≤ i by omega), List.drop_of_length_le (by omega)]
    simp
theorem st_strs {n : Nat} {H : Hp} {p l : Addr} {zs : List Str} (s : StN n H p) (h : H l = some (.lst (zs.map V.str))) : l ≠ p := But.ne s.ok h ns_strs
section
variable {P : Program} {w : World} {K : PySem.W.Frag} {mg : Str → Option Value} {base : Heap}
theorem scAny : FnScope ["_law_well_here", "_law_name_here", "_law_sorts", "_law_words", "_law_most", "_law_names_here", "_law_known", "_law_conditions", "_law_k", "_law_one", "_law_other", "_law_turn", "_law_variables", "_law_gives"] ["_law_well_here", "_law_name_here", "_law_sorts", "_law_words", "_law_most"] (defScope sAny) := ⟨rfl, rfl, rfl, by decide +kernel, rfl, by decide +kernel, by decide +kernel⟩
theorem ok_any {f fG fP fN : Addr} {fd dG dP dN : FuncData} (F : Fun K "_law_any_rule" "_law_any_rule" sAny f fd) (T : TxB mg) (DG : Dn K mg "_law_draw" sDrw ["_law_well_here", "_law_many"] fG dG) (DP : Dn K mg "_law_pick" sPck ["_law_well_here", "_law_some"] fP dP) (DN : Dn K mg "_law_names" sNms ["_law_well_here", "_law_many"] fN dN) (GN : FnOk P w K mg base CX0 4 fN dN ["_law_well_here", "_law_many"] (spNms K)) :
    FnOk P w K mg base CX0 5 f fd ["_law_well_here", "_law_name_here", "_law_sorts", "_law_words", "_law_most"] (spAny K) := by
  have GG : FnOk P w K mg base CX0 1 fG dG _ spDrw := ok_drw DG.F
  have GP : FnOk P w K mg base CX0 2 fP dP _ spPkL := ok_pkl DP.F T DG
  refine F.ok scAny (fun vs H Q E h => ?_) (fun cdv A outer s H vs Q E hr h => ?_)
  · obtain ⟨p, ls, lw, nm, ss, ws, mo, k, rfl, _⟩ := h
    rfl
  · obtain ⟨p, ls, lw, nm, ss, ws, mo, k, rfl, hS, hk, hls, hlw, w1, s6, w6, mo1, mo3, kk⟩ := h
    have hr1 : Room 1 _ := hr.mono (by decide)
    have hr2 : Room 2 _ := hr.mono (by decide)
    have hr4 : Room 4 _ := hr
    have hu := hu_of hr
    refine ⟨_, (pss_cons (ps_set (i := 5) scAny.nd rfl (Or.inl rfl) (pe_call GN hr4 rfl DN.g DN.F.kp DN.b .nil pass0 (pa_cons (pv 0) (pa_cons pe_int pa_nil))))
      (pss_cons (ps_set (i := 6) scAny.nd rfl (Or.inl rfl) (pe_slice sl_list (pv 5) po_none (po_some pe_int)))
      (pss_cons (ps_set (i := 7) scAny.nd rfl (Or.inl rfl) (pe_lst pa_nil))
      (pss_cons (ps_for PassesOwn.never rfl (pi_range1 rfl T.range (pa_cons (pe_op op_add pe_int (pe_call GG hr1 rfl DG.g DG.F.kp DG.b .nil pass0 (pa_cons (pv 0) (pa_cons (pv 4) pa_nil)))) pa_nil)) (pg_name (i := 8) scAny.nd rfl (Or.inl rfl)) (pss_cons (ps_set (i := 9) scAny.nd rfl (Or.inl rfl) (pe_call GP hr2 rfl DP.g DP.F.kp DP.b .nil pass0 (pa_cons (pv 0) (pa_cons (pv 6) pa_nil))))
      (pss_cons (ps_set (i := 10) scAny.nd rfl (Or.inl rfl) (pe_call GP hr2 rfl DP.g DP.F.kp DP.b .nil pass0 (pa_cons (pv 0) (pa_cons (pe_op op_cat (pv 6) (pe_op op_rep (pe_slice sl_list (pv 5) (po_some (pe_callB call_len_seq (by rfl) T.len (by decide +kernel) (pa_cons (pv 6) pa_nil))) (po_some (pe_op op_add (pe_callB call_len_seq (by rfl) T.len (by decide +kernel) (pa_cons (pv 6) pa_nil)) pe_int))) pe_int)) pa_nil))))
      (pss_cons (ps_if (pt_cmpR op_notIn_seq (pv 10) (pv 6) (by rfl)) (pss_one (ps_set (i := 6) scAny.nd rfl (Or.inl rfl) (pe_op op_cat (pv 6) (pe_lst (pa_cons (pv 10) pa_nil))))) pss_nil)
      (pss_cons (ps_asg (pe_ix ix_list (pe_lst (pa_cons (pe_tup (pa_cons (pv 9) (pa_cons (pv 10) pa_nil))) (pa_cons (pe_tup (pa_cons (pv 10) (pa_cons (pv 9) pa_nil))) pa_nil))) (pe_call GG hr1 rfl DG.g DG.F.kp DG.b .nil pass0 (pa_cons (pv 0) (pa_cons pe_int pa_nil))) (fun _ _ => rfl)) (pg_tup rfl (pgs_cons (pg_name (i := 9) scAny.nd rfl (Or.inl rfl)) (pgs_cons (pg_name (i := 10) scAny.nd rfl (Or.inl rfl)) pgs_nil))))
      (pss_one (ps_expr (pe_bm PySem.F.plainAttrs_list PySem.F.slot_list_append PySem.F.type_list_append mt_append (pv 7) (pa_cons (pe_tup (pa_cons (pv 9) (pa_cons (pe_call GP hr2 rfl DP.g DP.F.kp DP.b .nil pass0 (pa_cons (pv 0) (pa_cons (pv 3) pa_nil))) (pa_cons (pv 10) pa_nil)))) pa_nil)))))))))
      (pss_cons (ps_set (i := 11) scAny.nd rfl (Or.inl rfl) (pe_call GG hr1 rfl DG.g DG.F.kp DG.b .nil pass0 (pa_cons (pv 0) (pa_cons (pe_callB call_len_seq (by rfl) T.len (by decide +kernel) (pa_cons (pv 6) pa_nil)) pa_nil))))
      (pss_cons (ps_setLc (i := 12) (own := [("_law_one", 9)]) (g := gName 9) rfl scAny.nd rfl rfl (sw_true rfl rfl rfl (by decide +kernel)) (pi_list (pe_op op_cat (pe_slice sl_list (pv 6) (po_some (pv 11)) po_none) (pe_slice sl_list (pv 6) po_none (po_some (pv 11))))) (blkOk_by (N := ["_law_well_here", "_law_name_here", "_law_sorts", "_law_words", "_law_most", "_law_names_here", "_law_known", "_law_conditions", "_law_k", "_law_one", "_law_other", "_law_turn", "_law_variables", "_law_gives"]) (sc := defScope sAny) (by decide +kernel)) (fun _ _ _ _ _ => (pg_name (i := 9) scAny.nd rfl (Or.inl rfl))) (fun _ _ _ _ _ => pts_nil) (fun _ _ _ _ _ => (pe_tup (pa_cons (pv 9) (pa_cons (pe_call GP hr2 rfl DP.g DP.F.kp DP.b .nil pass0 (pa_cons (pv 0) (pa_cons (pe_op op_cat (pv 2) (pe_lst (pa_cons pe_non pa_nil))) pa_nil))) pa_nil)))))
      (pss_cons (ps_set (i := 13) scAny.nd rfl (Or.inl rfl) (pe_tup (pa_cons (pe_call GP hr2 rfl DP.g DP.F.kp DP.b .nil pass0 (pa_cons (pv 0) (pa_cons (pv 6) pa_nil))) (pa_cons (pe_call GP hr2 rfl DP.g DP.F.kp DP.b .nil pass0 (pa_cons (pv 0) (pa_cons (pv 3) pa_nil))) (pa_cons (pe_call GP hr2 rfl DP.g DP.F.kp DP.b .nil pass0 (pa_cons (pv 0) (pa_cons (pv 6) pa_nil))) pa_nil)))))
      (pss_one (ps_ret (pe_tup (pa_cons (pv 1) (pa_cons (pv 12) (pa_cons (pv 7) (pa_cons (pv 13) (pa_cons (pe_call GP hr2 rfl DP.g DP.F.kp DP.b .nil pass0 (pa_cons (pv 0) (pa_cons (pv 6) pa_nil))) pa_nil))))))))))))))), ?_⟩
    refine ⟨_, rfl, p, 4, k, rfl, hS, by omega, by decide, by decide, fun ns nl H1 nl0 nlp B1 S1 hnl nlen nnd nnm => ?_⟩
    have S1 : StN (k + 80) H1 p := S1
    have nlen : ns.length = 4 := nlen
    dsimp only [List.set_cons_succ, List.set_cons_zero]
    refine ⟨_, rfl, _, rfl, nl, _, rfl, SqL.of hnl, fun kl hkl => ?_⟩
    rw [show cutV (ns.map V.str) none (some 1) = (ns.take 1).map V.str by rw [show (1 : Int) = ((1 : Nat) : Int) from rfl, cut_take, List.map_take]]
    dsimp only [List.set_cons_succ, List.set_cons_zero]
    have nkp := st_free S1.ok hkl
    have T1 : Same H1 (upd H1 kl (.lst ((ns.take 1).map V.str))) := Same.upd hkl
    have e1 : (upd H1 kl (.lst ((ns.take 1).map V.str))) kl = some (.lst ((ns.take 1).map V.str)) := upd_same
    have kl0 : H kl = none := B1.free nkp hkl
    generalize upd H1 kl (.lst ((ns.take 1).map V.str)) = H2 at T1 e1
    refine ⟨Nat.zero_le _, fun lc hlc => ?_⟩
    dsimp only [List.set_cons_succ, List.set_cons_zero]
    have S2 := S1.same T1
    have ncp := st_free S2.ok hlc
    have B2 : But p H H2 := fun q o n e => T1 _ _ (B1 q o n e)
    have lc0 : H lc = none := B2.free ncp hlc
    have T2 : Same H2 (upd H2 lc (.lst [])) := Same.upd hlc
    have e2 : (upd H2 lc (.lst [])) lc = some (.lst []) := upd_same
    generalize upd H2 lc (.lst []) = H3 at T2 e2
    have S3 := S2.same T2
    have B3 : But p H H3 := fun q o n e => T2 _ _ (B2 q o n e)
    have nsp := st_strs hS hls
    have nwp := st_strs hS hlw
    refine ⟨_, rfl, _, rfl, p, mo, k + 80, rfl, S3, by omega, by omega, by omega, fun d H4 d0 d1 B4 S4 => ⟨_, _, rfl, rfl, _, rfl, by omega, by omega, ?_⟩⟩
    have k34 := B4.kp S3.ok
    have hnl4 := k34 _ _ ns_strs (T2 _ _ (T1 _ _ hnl))
    have e14 := k34 _ _ ns_strs (T2 _ _ e1)
    have e24 := B4 _ _ ncp e2
    have nnl : nl ≠ lc := ne_of_none (T1 _ _ hnl) hlc
    have nclL : ∀ {l : Addr} {zs : List Str}, H2 l = some (.lst (zs.map V.str)) → l ≠ lc := fun h => ne_of_none h hlc
    have B34 := B3.trans B4
    refine for_range (n := (1 + d).toNat) (fun i σ H' => ∃ (m : Nat) (cs : List Tri) (qs : List Addr) (kl : Addr) (u8 u9 u10 : Option V), σ = [some (.ref p), some (.str nm), some (.ref ls), some (.ref lw), some (.int mo), some (.ref nl), some (.ref kl), some (.ref lc), u8, u9, u10, none, none, none] ∧ But p H H' ∧ StN (k + 81 + 4 * i) H' p ∧ H' nl = some (.lst (ns.map V.str)) ∧ H' kl = some (.lst ((ns.take m).map V.str)) ∧ kl ≠ lc ∧ H' lc = some (.lst (qs.map V.ref)) ∧ RowsAt K H' qs (cs.map triV) ∧ KInv ns ws m cs ∧ cs.length = i) ⟨1, [], [], kl, none, none, none, rfl, B34, S4, hnl4, e14, nclL e1, e24, True.intro, KInv.nil (by omega), rfl⟩ ?_ ?_
    · rintro i σ H5 hi ⟨m, cs, qs, kl, u8, u9, u10, rfl, B5, S5, hnl5, hkl5, nkl, hlc5, hrow, ki, len⟩
      have m1 := ki.m1
      have ml := ki.ml
      have i3 : i < 3 := by omega
      have tlen : ((ns.take m).map V.str).length = m := by
        rw [List.length_map, List.length_take]
        omega
      dsimp only [gName, List.set_cons_succ, List.set_cons_zero]
      refine ⟨_, rfl, _, rfl, p, kl, _, k + 81 + 4 * i, rfl, S5, by omega, hkl5, st_strs S5 hkl5, by omega, by omega, fun j v H6 hv B6 S6 => ?_⟩
      obtain ⟨x, hx, rfl⟩ := map_str_get hv
      have hxm : x ∈ ns.take m := List.mem_of_getElem? hx
      dsimp only [gName, List.set_cons_succ, List.set_cons_zero]
      have k6 := B6.kp S5.ok
      have hnl6 := k6 _ _ ns_strs hnl5
      have hkl6 := k6 _ _ ns_strs hkl5
      have hlc6 := k6 _ _ ns_refs hlc5
      have hrow6 := k6.rows hrow
      have B56 := B5.trans B6
      refine ⟨_, rfl, _, rfl, _, rfl, _, rfl, kl, _, rfl, .inl (SqL.of hkl6), _, rfl, _, rfl, kl, _, rfl, .inl (SqL.of hkl6), _, _, rfl, rfl, _, rfl, nl, _, rfl, SqL.of hnl6, fun l1 hl1 => ?_⟩
      rw [tlen, cut_mid, List.map_drop.symm, List.map_take.symm]
      have T1 : Same H6 (upd H6 l1 (.lst (((ns.drop m).take 1).map V.str))) := Same.upd hl1
      have f1 : (upd H6 l1 (.lst (((ns.drop m).take 1).map V.str))) l1 = some (.lst (((ns.drop m).take 1).map V.str)) := upd_same
      have nl1p := st_free S6.ok hl1
      generalize upd H6 l1 (.lst (((ns.drop m).take 1).map V.str)) = H7 at T1 f1
      have dl : (((ns.drop m).take 1).map V.str).length ≤ 1 := by
        rw [List.length_map, List.length_take]
        omega
      refine ⟨l1, _, _, rfl, rfl, f1, by decide, by decide, Nat.le_trans (show _ ≤ 1000 by show _ * 2 ≤ 1000; omega) (by decide), fun l2 hl2 => ?_⟩
      rw [show (List.replicate (2 : Int).toNat (((ns.drop m).take 1).map V.str)).flatten = ((ns.drop m).take 1 ++ (ns.drop m).take 1).map V.str by rw [List.map_append]; show _ ++ (_ ++ []) = _; rw [List.append_nil]]
      have T2 : Same H7 (upd H7 l2 (.lst (((ns.drop m).take 1 ++ (ns.drop m).take 1).map V.str))) := Same.upd hl2
      have f2 : (upd H7 l2 (.lst (((ns.drop m).take 1 ++ (ns.drop m).take 1).map V.str))) l2 = some (.lst (((ns.drop m).take 1 ++ (ns.drop m).take 1).map V.str)) := upd_same
      generalize upd H7 l2 (.lst (((ns.drop m).take 1 ++ (ns.drop m).take 1).map V.str)) = H8 at T2 f2
      have dl2 : (((ns.drop m).take 1 ++ (ns.drop m).take 1).map V.str).length ≤ 2 := by
        rw [List.length_map, List.length_append, List.length_take]
        omega
      refine ⟨kl, l2, _, _, rfl, rfl, T2 _ _ (T1 _ _ hkl6), f2, Nat.le_trans (show _ ≤ 1000 by omega) (by decide), fun l3 hl3 => ?_⟩
      rw [← List.map_append]
      have T3 : Same H8 (upd H8 l3 (.lst ((ns.take m ++ ((ns.drop m).take 1 ++ (ns.drop m).take 1)).map V.str))) := Same.upd hl3
      have f3 : (upd H8 l3 (.lst ((ns.take m ++ ((ns.drop m).take 1 ++ (ns.drop m).take 1)).map V.str))) l3 = some (.lst ((ns.take m ++ ((ns.drop m).take 1 ++ (ns.drop m).take 1)).map V.str)) := upd_same
      generalize upd H8 l3 (.lst ((ns.take m ++ ((ns.drop m).take 1 ++ (ns.drop m).take 1)).map V.str)) = H9 at T3 f3
      have T13 := (T1.trans T2).trans T3
      have S9 := S6.same T13
      have ll : ((ns.take m ++ ((ns.drop m).take 1 ++ (ns.drop m).take 1)).map V.str).length = m + (((ns.drop m).take 1 ++ (ns.drop m).take 1).map V.str).length := by
        rw [List.map_append, List.length_append, tlen]
      refine ⟨p, l3, _, k + 81 + 4 * i + 1, rfl, S9, by omega, f3, st_strs S9 f3, by omega, by omega, fun j v H10 hv B10 S10 => ?_⟩
      obtain ⟨y, hy, rfl⟩ := map_str_get hv
      have hyy : y ∈ ns.take m ∨ ns[m]? = some y := by
        rcases List.mem_append.mp (List.mem_of_getElem? hy) with q | q
        · exact .inl q
        · have q : y ∈ (ns.drop m).take 1 := by
            rcases List.mem_append.mp q with q | q <;> exact q
          right
          cases hd : ns.drop m with
          | nil =>
            rw [hd] at q
            simp at q
          | cons a r =>
            rw [hd] at q
            have e : y = a := by simpa using q
            have := List.getElem?_drop (xs := ns) (i := m) (j := 0)
            rw [hd] at this
            simp at this
            rw [e, ← this]
      dsimp only [gName, List.set_cons_succ, List.set_cons_zero]
      have k10 := ((Same.kp T13).trans (B10.kp S9.ok))
      have hnl10 := k10 _ _ ns_strs hnl6
      have hkl10 := k10 _ _ ns_strs hkl6
      have hlc10 := k10 _ _ ns_refs hlc6
      have hrow10 := k10.rows hrow6
      have B10' : But p H H10 := (fun q o n e => B10 q o n (T13 _ _ (B56 q o n e)))
      clear T1 T2 T3 T13 f1 f2 f3 hl1 hl2 hl3 k6 hnl6 hkl6 hlc6 hrow6 S9 B10 S6 B6 hy hv hx
      -- is it new
      refine cut1 (fun σ' H' => ∃ (m' : Nat) (kl' : Addr), σ' = [some (.ref p), some (.str nm), some (.ref ls), some (.ref lw), some (.int mo), some (.ref nl), some (.ref kl'), some (.ref lc), some (.int (0 + (i : Int))), some (.str x), some (.str y), none, none, none] ∧ Same H10 H' ∧ H' kl' = some (.lst ((ns.take m').map V.str)) ∧ kl' ≠ lc ∧ ((m' = m ∧ y ∈ ns.take m) ∨ (m' = m + 1 ∧ ns[m]? = some y))) ?_ (fun R' fin => ?_)
      · rintro σ' H11 ⟨m', kl', rfl, S11, hkl11, nkl', hm'⟩
        have st11 := S10.same S11
        refine ⟨_, rfl, _, rfl, by show 2 ≤ sizeLine; decide, fun t1 ht1 => ⟨_, rfl, _, rfl, by show 2 ≤ sizeLine; decide, fun t2 ht2 => ⟨by show 2 ≤ sizeLine; decide, fun l hl => ?_⟩⟩⟩
        have T1 : Same H11 (upd H11 t1 (.tup [.str x, .str y])) := Same.upd ht1
        have T2 : Same (upd H11 t1 (.tup [.str x, .str y])) (upd (upd H11 t1 (.tup [.str x, .str y])) t2 (.tup [.str y, .str x])) := Same.upd ht2
        have g1 := T2 _ _ (upd_same (H := H11) (a := t1) (o := .tup [.str x, .str y]))
        have g2 : (upd (upd H11 t1 (.tup [.str x, .str y])) t2 (.tup [.str y, .str x])) t2 = some (.tup [.str y, .str x]) := upd_same
        have T12 := T1.trans T2
        generalize upd (upd H11 t1 (.tup [.str x, .str y])) t2 (.tup [.str y, .str x]) = H12 at T12 g1 g2 hl
        have T3 : Same H12 (upd H12 l (.lst [.ref t1, .ref t2])) := Same.upd hl
        have g3 : (upd H12 l (.lst [.ref t1, .ref t2])) l = some (.lst ([t1, t2].map V.ref)) := upd_same
        generalize upd H12 l (.lst [.ref t1, .ref t2]) = H13 at T3 g3
        have T13 := T12.trans T3
        have st13 := st11.same T13
        refine ⟨_, rfl, p, 2, k + 81 + 4 * i + 2, rfl, st13, by omega, by decide, by decide, fun d2 H14 d20 d21 B14 S14 => ?_⟩
        have k14 := B14.kp st13.ok
        have g1' := k14 _ _ ns_tup (T3 _ _ g1)
        have g2' := k14 _ _ ns_tup (T3 _ _ g2)
        have g3' := k14 _ _ ns_refs g3
        obtain ⟨t, a, b, hta, ht14, hab⟩ : ∃ t a b, ([t1, t2].map V.ref)[d2.toNat]? = some (.ref t) ∧ H14 t = some (.tup [.str a, .str b]) ∧ ((a = x ∧ b = y) ∨ (a = y ∧ b = x)) := by
          rcases (by omega : d2 = 0 ∨ d2 = 1) with rfl | rfl
          · exact ⟨t1, x, y, rfl, g1', .inl ⟨rfl, rfl⟩⟩
          · exact ⟨t2, y, x, rfl, g2', .inr ⟨rfl, rfl⟩⟩
        refine rdList g3' (j := d2.toNat) (by omega) hta ⟨t, _, rfl, SqT.of ht14, rfl, _, _, rfl, _, _, rfl, rfl, ?_⟩
        dsimp only [gName, List.set_cons_succ, List.set_cons_zero]
        have k1014 := ((Same.kp S11).trans (Same.kp T13)).trans k14
        have B14' : But p H H14 := (fun q o n e => B14 q o n (T13 _ _ (S11 _ _ (B10' q o n e))))
        have hlc14 := k1014 _ _ ns_refs hlc10
        have hlw14 := B14' _ _ nwp hlw
        refine ⟨_, rfl, .inl ⟨rfl, _, SqL.of hlc14⟩, _, rfl, _, rfl, _, rfl, p, lw, _, k + 81 + 4 * i + 3, rfl, S14, by omega, hlw14, nwp, by rw [List.length_map]; omega, by rw [List.length_map]; omega, fun jw vw H15 hvw B15 S15 => ?_⟩
        obtain ⟨wd, hwd, rfl⟩ := map_str_get hvw
        refine ⟨_, rfl, by show 3 ≤ sizeLine; decide, fun tt htt => ?_⟩
        have k15 := B15.kp S14.ok
        have T16 : Same H15 (upd H15 tt (.tup [.str a, .str wd, .str b])) := Same.upd htt
        have g16 : (upd H15 tt (.tup [.str a, .str wd, .str b])) tt = some (.tup (triV (a, wd, b))) := upd_same
        generalize upd H15 tt (.tup [.str a, .str wd, .str b]) = H16 at T16 g16
        have kk16 := k1014.trans (k15.trans (Same.kp T16))
        have hlc16 := kk16 _ _ ns_refs hlc10
        have B16 : But p H H16 := fun q o n e => T16 _ _ (B15 q o n (B14' q o n e))
        have ql : qs.length = i := by
          have q := hrow.len
          rw [List.length_map] at q
          omega
        refine ⟨lc, _, _, rfl, rfl, hlc16, ?_, ?_⟩
        · rw [List.length_map]
          exact Nat.lt_of_le_of_lt (show _ ≤ 1000 by omega) (by decide)
        refine ⟨m', cs ++ [(a, wd, b)], qs ++ [tt], kl', _, _, _, rfl, but_new B16 ncp lc0, ((S15.same T16).upd ncp).mono (by omega), (upd_ne nnl).trans (kk16 _ _ ns_strs hnl10), (upd_ne nkl').trans ?_, nkl', ?_, ?_, ki.step hxm hm' (List.mem_of_getElem? hwd) ?_, ?_⟩
        · exact (((Same.kp T13).trans k14).trans (k15.trans (Same.kp T16))) _ _ ns_strs hkl11
        · rw [upd_same, List.map_append]
          rfl
        · rw [List.map_append]
          exact RowsAt.append (rows_put hlc16 (kk16.rows hrow10)) ⟨sqT_put hlc16 (SqT.of g16), True.intro⟩
        · rcases hab with ⟨rfl, rfl⟩ | ⟨rfl, rfl⟩
          · exact .inl rfl
          · exact .inr rfl
        · rw [List.length_append, len]
          rfl
      · refine ⟨_, rfl, _, rfl, kl, _, rfl, .inl (SqL.of hkl10), rfl, flats _, _, rfl, ?_⟩
        rw [if_pos rfl, inV_strs]
        by_cases hin : y ∈ ns.take m
        · rw [decide_eq_true hin]
          exact iteF (fin _ _ ⟨m, kl, rfl, Same.refl _, hkl10, nkl, .inl ⟨rfl, hin⟩⟩)
        · rw [decide_eq_false hin]
          have hnm : ns[m]? = some y := by
            rcases hyy with q | q
            · exact absurd q hin
            · exact q
          refine iteT ⟨_, rfl, _, rfl, by show 1 ≤ sizeLine; decide, fun l1 hl1 => ?_⟩
          have T1 : Same H10 (upd H10 l1 (.lst [.str y])) := Same.upd hl1
          have f1 : (upd H10 l1 (.lst [.str y])) l1 = some (.lst [.str y]) := upd_same
          generalize upd H10 l1 (.lst [.str y]) = H11 at T1 f1
          refine ⟨kl, l1, _, _, rfl, rfl, T1 _ _ hkl10, f1, Nat.le_trans (show _ ≤ 1000 by rw [tlen]; show m + 1 ≤ 1000; omega) (by decide), fun l2 hl2 => ?_⟩
          have e : (ns.take m).map V.str ++ [.str y] = (ns.take (m + 1)).map V.str := by
            rw [List.take_add_one, hnm, List.map_append]
            rfl
          rw [e]
          have nlc : l2 ≠ lc := fun q => by
            rw [q, T1 _ _ hlc10] at hl2
            cases hl2
          exact fin _ _ ⟨m + 1, l2, rfl, T1.trans (Same.upd hl2), upd_same, nlc, .inr ⟨rfl, hnm⟩⟩
    rintro σ H5 ⟨m, cs, qs, kl, u8, u9, u10, rfl, B5, S5, hnl5, hkl5, nkl, hlc5, hrow, ki, len⟩
    have m1 := ki.m1
    have ml := ki.ml
    have hn3 : (1 + d).toNat ≤ 3 := by omega
    have hn1 : 1 ≤ (1 + d).toNat := by omega
    generalize (1 + d).toNat = nc at len S5 hn3 hn1
    have cne : cs ≠ [] := fun z => by
      rw [z] at len
      simp at len
      omega
    have tlen : ((ns.take m).map V.str).length = m := by
      rw [List.length_map, List.length_take]
      omega
    have knl : (ns.take m).length = m := by
      rw [List.length_take]
      omega
    have knd : (ns.take m).Nodup := List.Pairwise.sublist (List.take_sublist _ _) nnd
    have knm : ∀ z ∈ ns.take m, NmP z ∧ z.length ≤ 12 := fun z hz => nnm z (List.mem_of_mem_take hz)
    have kien := ki.en
    have kial := ki.al cne
    generalize ns.take m = kn at hkl5 tlen knl knd knm kien kial
    dsimp only [gName, List.set_cons_succ, List.set_cons_zero]
    refine ⟨_, rfl, _, rfl, kl, _, rfl, .inl (SqL.of hkl5), p, _, k + 81 + 4 * nc, rfl, S5, by omega, by omega, by omega, fun tn H6 t0 t1 B6 S6 => ?_⟩
    rw [tlen] at t1
    dsimp only [gName, List.set_cons_succ, List.set_cons_zero]
    have k6 := B6.kp S5.ok
    have B56 := B5.trans B6
    have hkl6 := k6 _ _ ns_strs hkl5
    have hlc6 := k6 _ _ ns_refs hlc5
    have hrow6 := k6.rows hrow
    have et : tn = ((tn.toNat : Nat) : Int) := by omega
    refine ⟨_, rfl, _, rfl, _, rfl, kl, _, rfl, SqL.of hkl6, fun l1 hl1 => ?_⟩
    rw [show cutV (kn.map V.str) (some tn) none = (kn.drop tn.toNat).map V.str by rw [et, cut_drop, List.map_drop, Int.toNat_natCast]]
    have T1 : Same H6 (upd H6 l1 (.lst ((kn.drop tn.toNat).map V.str))) := Same.upd hl1
    have f1 : (upd H6 l1 (.lst ((kn.drop tn.toNat).map V.str))) l1 = some (.lst ((kn.drop tn.toNat).map V.str)) := upd_same
    generalize upd H6 l1 (.lst ((kn.drop tn.toNat).map V.str)) = H7 at T1 f1
    refine ⟨_, rfl, _, rfl, _, rfl, kl, _, rfl, SqL.of (T1 _ _ hkl6), fun l2 hl2 => ?_⟩
    rw [show cutV (kn.map V.str) none (some tn) = (kn.take tn.toNat).map V.str by rw [et, cut_take, List.map_take, Int.toNat_natCast]]
    have T2 : Same H7 (upd H7 l2 (.lst ((kn.take tn.toNat).map V.str))) := Same.upd hl2
    have f2 : (upd H7 l2 (.lst ((kn.take tn.toNat).map V.str))) l2 = some (.lst ((kn.take tn.toNat).map V.str)) := upd_same
    generalize upd H7 l2 (.lst ((kn.take tn.toNat).map V.str)) = H8 at T2 f2
    refine ⟨l1, l2, _, _, rfl, rfl, T2 _ _ f1, f2, ?_, fun l3 hl3 => ?_⟩
    · rw [List.length_map, List.length_map, List.length_drop, List.length_take]
      exact Nat.le_trans (show _ ≤ 1000 by omega) (by decide)
    rw [← List.map_append]
    have rmem : ∀ z, z ∈ kn.drop tn.toNat ++ kn.take tn.toNat ↔ z ∈ kn := fun z => by
      have q : z ∈ kn ↔ z ∈ kn.take tn.toNat ++ kn.drop tn.toNat := by rw [List.take_append_drop]
      rw [q, List.mem_append, List.mem_append]
      exact Or.comm
    have rnd : (kn.drop tn.toNat ++ kn.take tn.toNat).Nodup := by
      have q : (kn.take tn.toNat ++ kn.drop tn.toNat).Nodup := by rw [List.take_append_drop]; exact knd
      rw [List.nodup_append] at q ⊢
      exact ⟨q.2.1, q.1, fun a ha b hb e => q.2.2 b hb a ha e.symm⟩
    have rlen : (kn.drop tn.toNat ++ kn.take tn.toNat).length = m := by
      rw [List.length_append, List.length_drop, List.length_take, knl]
      omega
    have T3 : Same H8 (upd H8 l3 (.lst ((kn.drop tn.toNat ++ kn.take tn.toNat).map V.str))) := Same.upd hl3
    have f3 : (upd H8 l3 (.lst ((kn.drop tn.toNat ++ kn.take tn.toNat).map V.str))) l3 = some (.lst ((kn.drop tn.toNat ++ kn.take tn.toNat).map V.str)) := upd_same
    generalize upd H8 l3 (.lst ((kn.drop tn.toNat ++ kn.take tn.toNat).map V.str)) = H9 at T3 f3
    generalize kn.drop tn.toNat ++ kn.take tn.toNat = rot at f3 rmem rnd rlen
    have T13 := (T1.trans T2).trans T3
    have S9 := S6.same T13
    have B9 : But p H H9 := fun q o n e => T13 _ _ (B56 q o n e)
    have hkl9 := T13 _ _ hkl6
    have hlc9 := T13 _ _ hlc6
    have hrow9 := hrow6.same T13
    refine ⟨l3, rfl, ⟨_, SqL.of f3⟩, fun D hD => ?_⟩
    have nDp := st_free S9.ok hD
    have D0 : H D = none := B9.free nDp hD
    refine lc_list (K := K) (a := l3) (xs := rot.map V.str) (fun i H' => Kp H9 H' ∧ But p H H' ∧ StN (k + 81 + 4 * nc + 1 + i) H' p ∧ ∃ (ps : List Addr) (vs : List Var), H' D = some (.lst (ps.map V.ref)) ∧ RowsAt K H' ps (vs.map varV) ∧ vs.map (fun v => v.1) = rot.take i ∧ ∀ v ∈ vs, ∀ z, v.2 = some z → z ∈ ss) ⟨Same.kp (Same.upd hD), but_new B9 nDp D0, S9.upd nDp, [], [], upd_same, True.intro, rfl, fun _ h => (List.not_mem_nil h).elim⟩ (fun i H' _ h => SqL.of (h.1 _ _ ns_strs f3)) ?_ ?_
    · rintro i v H10 hv ⟨K10, B10, S10, ps, vs, hD10, hr10, ev, hvs⟩
      obtain ⟨z, hz, rfl⟩ := map_str_get hv
      have hi : i < rot.length := (List.getElem?_eq_some_iff.mp hz).1
      have hls10 := B10 _ _ nsp hls
      refine ⟨rfl, _, rfl, _, rfl, _, rfl, by show 1 ≤ sizeLine; decide, fun q1 hq1 => ?_⟩
      have U1 : Same H10 (upd H10 q1 (.lst [.non])) := Same.upd hq1
      have g1 : (upd H10 q1 (.lst [.non])) q1 = some (.lst [.non]) := upd_same
      generalize upd H10 q1 (.lst [.non]) = H11 at U1 g1
      refine ⟨ls, q1, _, _, rfl, rfl, U1 _ _ hls10, g1, ?_, fun q2 hq2 => ?_⟩
      · rw [List.length_map]
        exact Nat.le_trans (show _ ≤ 1000 by show ss.length + 1 ≤ 1000; omega) (by decide)
      have U2 : Same H11 (upd H11 q2 (.lst (ss.map V.str ++ [.non]))) := Same.upd hq2
      have g2 : (upd H11 q2 (.lst (ss.map V.str ++ [.non]))) q2 = some (.lst (ss.map V.str ++ [.non])) := upd_same
      generalize upd H11 q2 (.lst (ss.map V.str ++ [.non])) = H12 at U2 g2
      have U12 := U1.trans U2
      have S12 := S10.same U12
      have sl : (ss.map V.str ++ [V.non]).length = ss.length + 1 := by
        rw [List.length_append, List.length_map]
        rfl
      refine ⟨p, q2, _, k + 81 + 4 * nc + 1 + i, rfl, S12, by omega, g2, But.ne S12.ok g2 (ns_sorts _), by omega, by omega, fun j v H13 hv B13 S13 => ?_⟩
      obtain ⟨o, rfl, ho⟩ := sort_of hv
      refine ⟨by show 2 ≤ sizeLine; decide, fun tt htt => ?_⟩
      have k13 := (Same.kp U12).trans (B13.kp S12.ok)
      have U3 : Same H13 (upd H13 tt (.tup [.str z, sortV o])) := Same.upd htt
      have g3 : (upd H13 tt (.tup [.str z, sortV o])) tt = some (.tup (varV (z, o))) := upd_same
      generalize upd H13 tt (.tup [.str z, sortV o]) = H14 at U3 g3
      have k14 := k13.trans (Same.kp U3)
      have hD14 := k14 _ _ ns_refs hD10
      have vl : vs.length = i := by
        have q := congrArg List.length ev
        rw [List.length_map, List.length_take] at q
        omega
      refine ⟨_, hD14, ?_, (K10.trans k14).new hD, but_new (fun q o n e => U3 _ _ (B13 q o n (U12 _ _ (B10 q o n e)))) nDp D0, ((S13.same U3).upd nDp).mono (by omega), ps ++ [tt], vs ++ [(z, o)], ?_, ?_, ?_, ?_⟩
      · have q := hr10.len
        rw [List.length_map] at q ⊢
        exact Nat.lt_of_le_of_lt (show _ ≤ 1000 by omega) (by decide)
      · rw [upd_same, List.map_append]
        rfl
      · rw [List.map_append]
        exact RowsAt.append (rows_put hD14 (k14.rows hr10)) ⟨sqT_put hD14 (SqT.of g3), True.intro⟩
      · rw [List.map_append, ev, List.take_add_one, hz]
        rfl
      · intro v hv y ey
        rcases List.mem_append.mp hv with q | q
        · exact hvs v q y ey
        · rw [List.mem_singleton.mp q] at ey
          exact ho y ey
    rintro H10 ⟨K10, B10, S10, ps, vs, hD10, hr10, ev, hvs⟩
    rw [List.length_map, List.take_length] at ev
    rw [List.length_map, rlen] at S10
    dsimp only [gName, List.set_cons_succ, List.set_cons_zero]
    have hkl10 := K10 _ _ ns_strs hkl9
    have hlc10 := K10 _ _ ns_refs hlc9
    have hrow10 := K10.rows hrow9
    have pickK : ∀ {H' : Hp} {q : Nat} {j : Nat} {v : V}, (kn.map V.str)[j]? = some v → ∃ z, v = .str z ∧ z ∈ kn := fun {H' q j v} h => by
      obtain ⟨z, hz, rfl⟩ := map_str_get h
      exact ⟨z, rfl, List.mem_of_getElem? hz⟩
    refine ⟨_, rfl, _, rfl, p, kl, _, k + 81 + 4 * nc + 1 + m, rfl, S10, by omega, hkl10, st_strs S10 hkl10, by omega, by omega, fun j1 v1 H11 hv1 B11 S11 => ?_⟩
    obtain ⟨ga, rfl, hga⟩ := pickK (H' := H11) (q := 0) hv1
    have k11 := B11.kp S10.ok
    have hlw11 := (B10.trans B11) _ _ nwp hlw
    refine ⟨_, rfl, _, rfl, p, lw, _, k + 81 + 4 * nc + 1 + m + 1, rfl, S11, by omega, hlw11, nwp, by rw [List.length_map]; omega, by rw [List.length_map]; omega, fun j2 v2 H12 hv2 B12 S12 => ?_⟩
    obtain ⟨gw, hgw, rfl⟩ := map_str_get hv2
    have k12 := k11.trans (B12.kp S11.ok)
    have hkl12 := k12 _ _ ns_strs hkl10
    refine ⟨_, rfl, _, rfl, p, kl, _, k + 81 + 4 * nc + 1 + m + 2, rfl, S12, by omega, hkl12, st_strs S12 hkl12, by omega, by omega, fun j3 v3 H13 hv3 B13 S13 => ?_⟩
    obtain ⟨gb, rfl, hgb⟩ := pickK (H' := H13) (q := 0) hv3
    have k13 := k12.trans (B13.kp S12.ok)
    refine ⟨by show 3 ≤ sizeLine; decide, fun g hg => ?_⟩
    dsimp only [gName, List.set_cons_succ, List.set_cons_zero]
    have U3 : Same H13 (upd H13 g (.tup [.str ga, .str gw, .str gb])) := Same.upd hg
    have g3 : (upd H13 g (.tup [.str ga, .str gw, .str gb])) g = some (.tup (triV (ga, gw, gb))) := upd_same
    generalize upd H13 g (.tup [.str ga, .str gw, .str gb]) = H14 at U3 g3
    have S14 := S13.same U3
    have k14 := k13.trans (Same.kp U3)
    have hkl14 := k14 _ _ ns_strs hkl10
    have B14 : But p H H14 := fun q o n e => U3 _ _ (B13 q o n (B12 q o n (B11 q o n (B10 q o n e))))
    refine ⟨_, rfl, _, rfl, _, rfl, _, rfl, _, rfl, _, rfl, p, kl, _, k + 81 + 4 * nc + 1 + m + 3, rfl, S14, by omega, hkl14, st_strs S14 hkl14, by omega, by omega, fun j4 v4 H15 hv4 B15 S15 => ?_⟩
    obtain ⟨bh, rfl, hbh⟩ := pickK (H' := H15) (q := 0) hv4
    have k15 := k14.trans (B15.kp S14.ok)
    refine ⟨by show 5 ≤ sizeLine; decide, fun t ht => ?_⟩
    have ntp := st_free S15.ok ht
    have B15' := B14.trans B15
    have t0' : H t = none := B15'.free ntp ht
    have U4 : Same H15 (upd H15 t (.tup [.str nm, .ref D, .ref lc, .ref g, .str bh])) := Same.upd ht
    have k16 := k15.trans (Same.kp U4)
    have vmem : ∀ z, z ∈ vs.map (fun v => v.1) ↔ z ∈ kn := fun z => by
      rw [ev]
      exact rmem z
    have vlen : vs.length = m := by
      have q := congrArg List.length ev
      rw [List.length_map] at q
      omega
    refine kk t ⟨⟨nm, vs, cs⟩, (ga, gw, gb), bh⟩ _ rfl ⟨⟨by show 1 ≤ vs.length; omega, by show vs.length ≤ 4; omega, by show 1 ≤ cs.length; omega, by show cs.length ≤ 3; omega, by show 1 ≤ 1; decide, by show 1 ≤ 1; decide, ?_, fun z hz => ?_, fun z hz => ?_, ki.ha⟩, fun v hv => ?_, hvs, ki.wd, List.mem_of_getElem? hgw⟩ t0' (but_new B15' ntp t0') ((S15.upd ntp).mono (by omega)) ⟨D, lc, g, ps, qs, upd_same, k16 _ _ ns_refs hD10, k16.rows hr10, k16 _ _ ns_refs hlc10, k16.rows hrow10, ?_⟩
    · show NoTw ((vs.map (fun v => v.1)).map V.str)
      rw [ev]
      exact noTw_of rnd
    · show z ∈ vs.map (fun v => v.1)
      rw [vmem]
      rcases List.mem_append.mp hz with hz | hz
      · rw [endsL_app] at hz
        rcases List.mem_append.mp hz with hz | hz
        · exact kien z hz
        · have hz : z = ga ∨ z = gb := by simpa [endsL] using hz
          rcases hz with rfl | rfl
          · exact hga
          · exact hgb
      · rw [List.mem_singleton.mp hz]
        exact hbh
    · exact kial z ((vmem z).mp hz)
    · have q := knm v.1 ((vmem v.1).mp (List.mem_map_of_mem hv))
      exact ⟨nm_is q.1 q.2, q.2, q.1.ok⟩
    · exact U4 _ _ ((B15.kp S14.ok) _ _ ns_tup g3)
end
end Wm
namespace Wm
open PySem L2 StX
/-! ### what is never walked -/
def tNo : TE := fun _ _ _ => False
theorem pe_never {X : Cx} {e : Expr} : PE X e tNo := ⟨fun _ _ _ _ _ _ h => h.elim⟩
theorem for_nil {K : PySem.W.Frag} {a : Addr} {g : TG} {tb : TS} {D : Ends} {σ : L2.St} {H : Hp} (hl : SqL K H a []) (h : D.nx σ H) :
    ∃ W : Nat → Nat → L2.St → Hp → Prop, (∃ m, W 0 m σ H) ∧ ∀ i m σ H, W i m σ H →
      ((Itl K a).stop i H ∧ D.nx σ H) ∨ ((Itl K a).go i H ∧ ∃ N : L2.St → Hp → Prop, (∀ σ' H', N σ' H' → ∃ m', m' < m ∧ W (i + 1) m' σ' H') ∧ ∀ x H', (Itl K a).yld i H x H' → g x σ H' fun σ2 H2 => tb { D with nx := N, ct := N, bk := D.nx } σ2 H2) :=
  for_list (K := K) (a := a) (xs := []) (fun _ σ' H' => σ' = σ ∧ H' = H) ⟨rfl, rfl⟩ (fun i σ' H' _ p => by rw [p.2]; exact hl) (fun i x σ' H' e _ => by simp at e) (fun σ' H' p => by rw [p.1, p.2]; exact h)
/-- names in a row, of which the program refuses none -/
structure Row (zs : List Str) : Prop where
  nm : ∀ z ∈ zs, isNm z = true ∧ z.length ≤ 12
  nd : zs.Nodup
theorem Row.noTw {zs : List Str} (h : Row zs) : NoTw (zs.map V.str) := fun i x e => by
  rw [List.getElem?_map] at e
  obtain ⟨z, ez, rfl⟩ := Option.map_eq_some_iff.mp e
  rw [← List.map_take, inV_strs]
  refine decide_eq_false fun hm => ?_
  obtain ⟨j, hj⟩ := List.mem_iff_getElem?.mp hm
  have hlt : j < i := by
    have q := (List.getElem?_eq_some_iff.mp hj).1
    rw [List.length_take] at q
    omega
  rw [List.getElem?_take_of_lt hlt] at hj
  have hil := (List.getElem?_eq_some_iff.mp ez).1
  have e1 := (List.getElem?_eq_some_iff.mp ez).2
  have hjl := (List.getElem?_eq_some_iff.mp hj).1
  have e2 := (List.getElem?_eq_some_iff.mp hj).2
  exact (List.pairwise_iff_getElem.mp h.nd) j i hjl hil hlt (e2.trans e1.symm)
theorem noTw_nil : NoTw [] := fun i x e => by simp at e
structure TxS (mg : Str → Option Value) : Prop where
  so : ∃ t, mg "MOST_SORTS" = some (.int 4 t)
  wo : ∃ t, mg "MOST_WORDS" = some (.int 5 t)
  ru : ∃ t, mg "MOST_RULES" = some (.int 8 t)
  ba : ∃ t, mg "MOST_BARS" = some (.int 4 t)
def spRNv (K : PySem.W.Frag) : Sp := fun vs H Q _ => ∃ (l : Addr) (zs : List Str), vs = [.ref l] ∧ SqL K H l (zs.map V.str) ∧ (∀ z ∈ zs, isNm z = true ∧ z.length ≤ 12) ∧ ∀ H', Same H H' → Q .non H'
def spE1L (K : PySem.W.Frag) : Sp := fun vs H Q _ => ∃ (m : Addr), vs = [.ref m] ∧ SqL K H m [] ∧ ∀ H', Same H H' → Q .non H'
def spE3L (K : PySem.W.Frag) : Sp := fun vs H Q _ => ∃ (s m p : Addr), vs = [.ref s, .ref m, .ref p] ∧ SqL K H m [] ∧ SqL K H p [] ∧ ∀ H', Same H H' → Q .non H'
def spE2L (K : PySem.W.Frag) : Sp := fun vs H Q _ => ∃ (s m : Addr), vs = [.ref s, .ref m] ∧ SqL K H m [] ∧ ∀ H', Same H H' → Q .non H'
def spE4L (K : PySem.W.Frag) : Sp := fun vs H Q _ => ∃ (s m r b : Addr), vs = [.ref s, .ref m, .ref r, .ref b] ∧ SqL K H m [] ∧ SqL K H r [] ∧ SqL K H b [] ∧ ∀ H', Same H H' → Q .non H'
def spOL : Sp := fun vs H Q _ => vs = [.non] ∧ ∀ d, H d = none → Q (.ref d) (upd H d (.lst []))
def spCS (K : PySem.W.Frag) : Sp := fun vs H Q _ => ∃ (s w m r b : Addr) (ss ws : List Str), vs = [.ref s, .ref w, .ref m, .ref r, .ref b] ∧ SqL K H s (ss.map V.str) ∧ SqL K H w (ws.map V.str) ∧ SqL K H m [] ∧ SqL K H r [] ∧ SqL K H b [] ∧
  Row ss ∧ Row ws ∧ 1 ≤ ss.length ∧ ss.length ≤ 4 ∧ 1 ≤ ws.length ∧ ws.length ≤ 5 ∧ ∀ H', Same H H' → Q .non H'
def schF (l1 l2 l3 l4 l5 : Addr) : List (Str × V) := putF "own_bars" (.ref l5) (putF "own_rules" (.ref l4) (putF "own_makings" (.ref l3) (putF "own_words" (.ref l2) (putF "own_sorts" (.ref l1) []))))
theorem lookF {f : Str} {v : V} {fs : List (Str × V)} : (putF f v fs).lookup f = some v := by rw [lookup_putF, if_pos rfl]
theorem lookN {f g : Str} {v : V} {fs : List (Str × V)} (h : ¬ g = f) : (putF f v fs).lookup g = fs.lookup g := by rw [lookup_putF, if_neg h]
theorem schF_so (l1 l2 l3 l4 l5 : Addr) : (schF l1 l2 l3 l4 l5).lookup ("own_sorts" : Str) = some (.ref l1) := by
  unfold schF
  rw [lookN (by decide +kernel), lookN (by decide +kernel), lookN (by decide +kernel), lookN (by decide +kernel), lookF]
theorem schF_wo (l1 l2 l3 l4 l5 : Addr) : (schF l1 l2 l3 l4 l5).lookup ("own_words" : Str) = some (.ref l2) := by
  unfold schF
  rw [lookN (by decide +kernel), lookN (by decide +kernel), lookN (by decide +kernel), lookF]
structure TxSch (K : PySem.W.Frag) (mg : Str → Option Value) (S fS : Addr) : Prop where
  cl : Cls K S
  n1 : NoAttr K S "own_sorts"
  n2 : NoAttr K S "own_words"
  n3 : NoAttr K S "own_makings"
  n4 : NoAttr K S "own_rules"
  n5 : NoAttr K S "own_bars"
  g : mg "Scheme" = some (.ref S)
  m : Mk K S fS
/-- a scheme at x, of these sorts and words -/
structure SchAt (S : Addr) (H : Hp) (x : Addr) (ss ws : List Str) : Prop where
  ex : ∃ dx l1 l2 l3 l4 l5, H x = some (.ins S dx (schF l1 l2 l3 l4 l5)) ∧ H l1 = some (.lst (ss.map V.str)) ∧ H l2 = some (.lst (ws.map V.str))
def spSch (K : PySem.W.Frag) (S : Addr) : Sp := fun vs H Q _ => ∃ (H0 : Hp) (x dx s w : Addr) (ss ws : List Str), vs = [.ref x, .ref s, .ref w, .non, .non, .non] ∧ Same H0 H ∧ H0 x = none ∧ H x = some (.ins S dx []) ∧ SqL K H0 s (ss.map V.str) ∧ SqL K H0 w (ws.map V.str) ∧
  Row ss ∧ Row ws ∧ 1 ≤ ss.length ∧ ss.length ≤ 4 ∧ 1 ≤ ws.length ∧ ws.length ≤ 5 ∧ ∀ H', Same H0 H' → SchAt S H' x ss ws → Q .non H'
section
variable {P : Program} {w : World} {K : PySem.W.Frag} {mg : Str → Option Value} {base : Heap}
theorem ok_rnv {f fN : Addr} {fd fdN : FuncData} (F : Fun K "refuse_no_name" "refuse_no_name" sRN f fd) (D : Dn K mg "is_name" sName ["text"] fN fdN) (GN : FnOk P w K mg base CX0 1 fN fdN ["text"] spName) : FnOk P w K mg base CX0 2 f fd ["texts"] (spRNv K) := by
  refine F.ok scRN (fun vs H Q E h => ?_) (fun cdv A outer s H vs Q E hr h => ?_)
  · obtain ⟨l, zs, rfl, _⟩ := h
    rfl
  · obtain ⟨l, zs, rfl, hl, hn, k⟩ := h
    refine ⟨_, (pss_one (ps_for PassesOwn.never rfl (pi_list (pv 0)) (pg_name (i := 1) scRN.nd rfl (Or.inl rfl)) (pss_one (ps_if (pt_not (pt_val (pe_call GN hr rfl D.g D.F.kp D.b .nil pass0 (pa_cons (pv 1) pa_nil)))) (pss_one ps_never) pss_nil)))), ?_⟩
    refine ⟨_, rfl, l, rfl, ⟨_, hl⟩, for_list (K := K) (a := l) (xs := zs.map V.str) (fun i σ H' => (∃ v, σ = [some (.ref l), v]) ∧ Same H H') ⟨⟨none, rfl⟩, Same.refl H⟩ (fun i σ H' _ p => p.2.seq hl) ?_ (fun σ H' p => k H' p.2)⟩
    rintro i y σ H' hi ⟨⟨v, rfl⟩, hS⟩
    rw [List.getElem?_map] at hi
    obtain ⟨z, hz, rfl⟩ := Option.map_eq_some_iff.mp hi
    have hq := hn z (List.mem_of_getElem? hz)
    refine ⟨_, rfl, z, rfl, Nat.le_trans hq.2 (by decide), fun H2 hS2 => ⟨_, rfl, ?_⟩⟩
    rw [hq.1]
    exact iteF ⟨⟨_, rfl⟩, hS.trans hS2⟩
theorem scRMT : FnScope ["makings", "pairs", "place", "making"] ["makings"] (defScope sRMT) := ⟨rfl, rfl, rfl, by decide +kernel, rfl, by decide +kernel, by decide +kernel⟩
theorem lc_nil {a : Addr} {g : TG} {tt : TT} {te : TE} {vs : List Nat} {σ : L2.St} {H1 : Hp} {D : Addr} {Qd : Hp → Prop} (hl : SqL K H1 a []) (hD : H1 D = none) (h : Qd (upd H1 D (.lst []))) :
    ∃ W : Nat → Nat → Hp → Prop, (∃ m, W 0 m (upd H1 D (.lst []))) ∧ ∀ i m H, W i m H →
      ((Itl K a).stop i H ∧ Qd H) ∨ ((Itl K a).go i H ∧ ∃ Nx : Hp → Prop, (∀ H', Nx H' → ∃ m', m' < m ∧ W (i + 1) m' H') ∧ ∀ x H', (Itl K a).yld i H x H' → g x (wipe σ vs) H' fun σ2 H2 => wipe σ2 vs = wipe σ vs ∧ tt σ2 H2 fun b H3 =>
        if b = true then te σ2 H3 fun y H4 => ∃ acc, H4 D = some (.lst acc) ∧ acc.length < sizeLine ∧ Nx (upd H4 D (.lst (acc ++ [y]))) else Nx H3) :=
  lc_list (K := K) (a := a) (xs := []) (fun _ H' => H' = upd H1 D (.lst [])) rfl (fun i H' _ p => by rw [p]; exact (Same.upd hD).seq hl) (fun i x H' e _ => by simp at e) (fun H' p => by rw [p]; exact h)
theorem ok_rmt {f fF : Addr} {fd fdF : FuncData} (F : Fun K "refuse_makings_twice" "refuse_makings_twice" sRMT f fd) (T : TxB mg) (D : Dn K mg "first_twice" sFT ["row"] fF fdF) : FnOk P w K mg base CX0 2 f fd ["makings"] (spE1L K) := by
  have G : FnOk P w K mg base CX0 1 fF fdF ["row"] (spFT K) := ok_ft D.F T
  refine F.ok scRMT (fun vs H Q E h => ?_) (fun cdv A outer s H vs Q E hr h => ?_)
  · obtain ⟨m, rfl, _⟩ := h
    rfl
  · obtain ⟨m, rfl, hm, k⟩ := h
    refine ⟨_, (pss_cons (ps_setLc (i := 1) (own := [("making", 3)]) (g := gName 3) (te := tNo) rfl scRMT.nd rfl rfl (sw_true rfl rfl rfl (by decide +kernel)) (pi_list (pv 0)) (blkOk_by (N := ["makings", "pairs", "place", "making"]) (sc := defScope sRMT) (by decide +kernel)) (fun _ _ _ _ _ => (pg_name (i := 3) scRMT.nd rfl (Or.inl rfl))) (fun _ _ _ _ _ => pts_nil) (fun _ _ _ _ _ => pe_never))
      (pss_cons (ps_set (i := 2) scRMT.nd rfl (Or.inl rfl) (pe_call G hr rfl D.g D.F.kp D.b .nil pass0 (pa_cons (pv 1) pa_nil)))
      (pss_one (ps_if (pt_cmp (pc_notN (pv 2))) (pss_one ps_never) pss_nil)))), ?_⟩
    refine ⟨_, rfl, m, rfl, ⟨_, hm⟩, fun D hD => lc_nil hm hD ?_⟩
    refine ⟨_, rfl, D, [], rfl, .inl (SqL.of upd_same), rfl, noTw_nil, fun H' hS => ?_⟩
    refine ⟨_, rfl, _, rfl, ?_⟩
    exact iteF (k H' ((Same.upd hD).trans hS))
theorem scRNS : FnScope ["sorts", "makings", "patterns", "asked", "making", "pattern", "name"] ["sorts", "makings", "patterns"] (defScope sRNS) := ⟨rfl, rfl, rfl, by decide +kernel, rfl, by decide +kernel, by decide +kernel⟩
theorem ok_rns {f : Addr} {fd : FuncData} (F : Fun K "refuse_no_sort" "refuse_no_sort" sRNS f fd) : FnOk P w K mg base CX0 1 f fd ["sorts", "makings", "patterns"] (spE3L K) := by
  refine F.ok scRNS (fun vs H Q E h => ?_) (fun cdv A outer s H vs Q E hr h => ?_)
  · obtain ⟨s, m, p, rfl, _⟩ := h
    rfl
  · obtain ⟨s, m, p, rfl, hm, hp, k⟩ := h
    refine ⟨_, (pss_cons (ps_set (i := 3) scRNS.nd rfl (Or.inl rfl) (pe_lst pa_nil))
      (pss_cons (ps_for PassesOwn.never rfl (pi_list (pv 1)) (pg_name (i := 4) scRNS.nd rfl (Or.inl rfl)) (pss_one ps_never))
      (pss_cons (ps_for PassesOwn.never rfl (pi_list (pv 2)) (pg_name (i := 5) scRNS.nd rfl (Or.inl rfl)) (pss_one ps_never))
      (pss_one (ps_for PassesOwn.never rfl (pi_list (pv 3)) (pg_name (i := 6) scRNS.nd rfl (Or.inl rfl)) (pss_one ps_never)))))), ?_⟩
    refine ⟨Nat.zero_le _, fun d hd => ?_⟩
    have S := Same.upd (o := .lst []) hd
    refine ⟨_, rfl, m, rfl, ⟨_, S.seq hm⟩, for_nil (S.seq hm) ?_⟩
    refine ⟨_, rfl, p, rfl, ⟨_, S.seq hp⟩, for_nil (S.seq hp) ?_⟩
    exact ⟨_, rfl, d, rfl, ⟨_, SqL.of upd_same⟩, for_nil (SqL.of upd_same) (k _ S)⟩
theorem scRU : FnScope ["sorts", "makings", "making"] ["sorts", "makings"] (defScope sRU) := ⟨rfl, rfl, rfl, by decide +kernel, rfl, by decide +kernel, by decide +kernel⟩
theorem ok_ru {f : Addr} {fd : FuncData} (F : Fun K "refuse_upward" "refuse_upward" sRU f fd) : FnOk P w K mg base CX0 1 f fd ["sorts", "makings"] (spE2L K) := by
  refine F.ok scRU (fun vs H Q E h => ?_) (fun cdv A outer s H vs Q E hr h => ?_)
  · obtain ⟨s, m, rfl, _⟩ := h
    rfl
  · obtain ⟨s, m, rfl, hm, k⟩ := h
    refine ⟨_, (pss_one (ps_for PassesOwn.never rfl (pi_list (pv 1)) (pg_name (i := 2) scRU.nd rfl (Or.inl rfl)) (pss_one ps_never))), ?_⟩
    exact ⟨_, rfl, m, rfl, ⟨_, hm⟩, for_nil hm (k _ (Same.refl H))⟩
theorem scRNW : FnScope ["words", "makings", "rules", "bars", "asked", "making", "rule", "bar", "name"] ["words", "makings", "rules", "bars"] (defScope sRNW) := ⟨rfl, rfl, rfl, by decide +kernel, rfl, by decide +kernel, by decide +kernel⟩
theorem ok_rnw {f : Addr} {fd : FuncData} (F : Fun K "refuse_no_word" "refuse_no_word" sRNW f fd) : FnOk P w K mg base CX0 1 f fd ["words", "makings", "rules", "bars"] (spE4L K) := by
  refine F.ok scRNW (fun vs H Q E h => ?_) (fun cdv A outer s H vs Q E hr h => ?_)
  · obtain ⟨s, m, r, b, rfl, _⟩ := h
    rfl
  · obtain ⟨s, m, r, b, rfl, hm, hr', hb, k⟩ := h
    refine ⟨_, (pss_cons (ps_set (i := 4) scRNW.nd rfl (Or.inl rfl) (pe_lst pa_nil))
      (pss_cons (ps_for PassesOwn.never rfl (pi_list (pv 1)) (pg_name (i := 5) scRNW.nd rfl (Or.inl rfl)) (pss_one ps_never))
      (pss_cons (ps_for PassesOwn.never rfl (pi_list (pv 2)) (pg_name (i := 6) scRNW.nd rfl (Or.inl rfl)) (pss_one ps_never))
      (pss_cons (ps_for PassesOwn.never rfl (pi_list (pv 3)) (pg_name (i := 7) scRNW.nd rfl (Or.inl rfl)) (pss_one ps_never))
      (pss_one (ps_for PassesOwn.never rfl (pi_list (pv 4)) (pg_name (i := 8) scRNW.nd rfl (Or.inl rfl)) (pss_one ps_never))))))), ?_⟩
    refine ⟨Nat.zero_le _, fun d hd => ?_⟩
    have S := Same.upd (o := .lst []) hd
    refine ⟨_, rfl, m, rfl, ⟨_, S.seq hm⟩, for_nil (S.seq hm) ?_⟩
    refine ⟨_, rfl, r, rfl, ⟨_, S.seq hr'⟩, for_nil (S.seq hr') ?_⟩
    refine ⟨_, rfl, b, rfl, ⟨_, S.seq hb⟩, for_nil (S.seq hb) ?_⟩
    exact ⟨_, rfl, d, rfl, ⟨_, SqL.of upd_same⟩, for_nil (SqL.of upd_same) (k _ S)⟩
theorem scOL : FnScope ["rows"] ["rows"] (defScope sOL) := ⟨rfl, rfl, rfl, by decide +kernel, rfl, by decide +kernel, by decide +kernel⟩
theorem ok_ol {f : Addr} {fd : FuncData} (F : Fun K "own_list" "own_list" sOL f fd) : FnOk P w K mg base CX0 1 f fd ["rows"] spOL := by
  refine F.ok scOL (fun vs H Q E h => ?_) (fun cdv A outer s H vs Q E hr h => ?_)
  · obtain ⟨rfl, _⟩ := h
    rfl
  · obtain ⟨rfl, k⟩ := h
    refine ⟨_, (pss_cons (ps_if (pt_cmp (pc_isN (pv 0))) (pss_one (ps_ret (pe_lst pa_nil))) pss_nil) (pss_one ps_never)), ?_⟩
    refine ⟨_, rfl, _, rfl, ?_⟩
    exact iteT ⟨Nat.zero_le _, fun d hd => k d hd⟩
theorem scCS : FnScope ["sorts", "words", "makings", "rules", "bars", "rule", "bar"] ["sorts", "words", "makings", "rules", "bars"] (defScope sCS) := ⟨rfl, rfl, rfl, by decide +kernel, rfl, by decide +kernel, by decide +kernel⟩
theorem ok_cs {f fRC fRN fRT fRM fNS fRU fNW : Addr} {fd dRC dRN dRT dRM dNS dRU dNW : FuncData} (F : Fun K "check_scheme" "check_scheme" sCS f fd) (T : TxB mg) (TS : TxS mg)
    (DC : Dn K mg "refuse_count" sRC ["what", "count", "least", "most"] fRC dRC) (DN : Dn K mg "refuse_no_name" sRN ["texts"] fRN dRN) (DT : Dn K mg "refuse_twice" sRT ["names"] fRT dRT) (DM : Dn K mg "refuse_makings_twice" sRMT ["makings"] fRM dRM) (DS : Dn K mg "refuse_no_sort" sRNS ["sorts", "makings", "patterns"] fNS dNS) (DU : Dn K mg "refuse_upward" sRU ["sorts", "makings"] fRU dRU) (DW : Dn K mg "refuse_no_word" sRNW ["words", "makings", "rules", "bars"] fNW dNW)
    (GN : FnOk P w K mg base CX0 2 fRN dRN ["texts"] (spRNv K)) (GT : FnOk P w K mg base CX0 2 fRT dRT ["names"] (spFT K)) (GM : FnOk P w K mg base CX0 2 fRM dRM ["makings"] (spE1L K)) : FnOk P w K mg base CX0 3 f fd ["sorts", "words", "makings", "rules", "bars"] (spCS K) := by
  have GC : FnOk P w K mg base CX0 1 fRC dRC _ spRC := ok_rc DC.F
  have GS : FnOk P w K mg base CX0 1 fNS dNS _ (spE3L K) := ok_rns DS.F
  have GU : FnOk P w K mg base CX0 1 fRU dRU _ (spE2L K) := ok_ru DU.F
  have GW : FnOk P w K mg base CX0 1 fNW dNW _ (spE4L K) := ok_rnw DW.F
  refine F.ok scCS (fun vs H Q E h => ?_) (fun cdv A outer s H vs Q E hr h => ?_)
  · obtain ⟨s, w, m, r, b, ss, ws, rfl, _⟩ := h
    rfl
  · obtain ⟨s, w, m, r, b, ss, ws, rfl, hs, hw, hm, hr', hb, rs, rw', s1, s4, w1, w5, k⟩ := h
    have hr1 : Room 1 _ := hr.mono (by decide)
    obtain ⟨t1, g1⟩ := TS.so
    obtain ⟨t2, g2⟩ := TS.wo
    obtain ⟨t3, g3⟩ := TS.ru
    obtain ⟨t4, g4⟩ := TS.ba
    refine ⟨_, (pss_cons (ps_expr (pe_call GC hr1 rfl DC.g DC.F.kp DC.b .nil pass0 (pa_cons pe_str (pa_cons (pe_callB call_len_seq (by rfl) T.len (by decide +kernel) (pa_cons (pv 0) pa_nil)) (pa_cons pe_int (pa_cons (pe_glob (v := .int 4) rfl g1 ⟨t1, rfl⟩) pa_nil))))))
      (pss_cons (ps_expr (pe_call GC hr1 rfl DC.g DC.F.kp DC.b .nil pass0 (pa_cons pe_str (pa_cons (pe_callB call_len_seq (by rfl) T.len (by decide +kernel) (pa_cons (pv 1) pa_nil)) (pa_cons pe_int (pa_cons (pe_glob (v := .int 5) rfl g2 ⟨t2, rfl⟩) pa_nil))))))
      (pss_cons (ps_expr (pe_call GC hr1 rfl DC.g DC.F.kp DC.b .nil pass0 (pa_cons pe_str (pa_cons (pe_callB call_len_seq (by rfl) T.len (by decide +kernel) (pa_cons (pv 3) pa_nil)) (pa_cons pe_int (pa_cons (pe_glob (v := .int 8) rfl g3 ⟨t3, rfl⟩) pa_nil))))))
      (pss_cons (ps_expr (pe_call GC hr1 rfl DC.g DC.F.kp DC.b .nil pass0 (pa_cons pe_str (pa_cons (pe_callB call_len_seq (by rfl) T.len (by decide +kernel) (pa_cons (pv 4) pa_nil)) (pa_cons pe_int (pa_cons (pe_glob (v := .int 4) rfl g4 ⟨t4, rfl⟩) pa_nil))))))
      (pss_cons (ps_expr (pe_call GN hr rfl DN.g DN.F.kp DN.b .nil pass0 (pa_cons (pv 0) pa_nil)))
      (pss_cons (ps_expr (pe_call GN hr rfl DN.g DN.F.kp DN.b .nil pass0 (pa_cons (pv 1) pa_nil)))
      (pss_cons (ps_expr (pe_call GT hr rfl DT.g DT.F.kp DT.b .nil pass0 (pa_cons (pv 0) pa_nil)))
      (pss_cons (ps_expr (pe_call GT hr rfl DT.g DT.F.kp DT.b .nil pass0 (pa_cons (pv 1) pa_nil)))
      (pss_cons (ps_expr (pe_call GM hr rfl DM.g DM.F.kp DM.b .nil pass0 (pa_cons (pv 2) pa_nil)))
      (pss_cons (ps_expr (pe_call GT hr rfl DT.g DT.F.kp DT.b .nil pass0 (pa_cons (pe_lc (own := [("rule", 5)]) (g := gName 5) (te := tNo) rfl scCS.nd (pi_list (pv 3)) (blkOk_by (N := ["sorts", "words", "makings", "rules", "bars", "rule", "bar"]) (sc := defScope sCS) (by decide +kernel)) (fun _ _ _ _ _ => (pg_name (i := 5) scCS.nd rfl (Or.inl rfl))) (fun _ _ _ _ _ => pts_nil) (fun _ _ _ _ _ => pe_never)) pa_nil)))
      (pss_cons (ps_expr (pe_call GT hr rfl DT.g DT.F.kp DT.b .nil pass0 (pa_cons (pe_lc (own := [("bar", 6)]) (g := gName 6) (te := tNo) rfl scCS.nd (pi_list (pv 4)) (blkOk_by (N := ["sorts", "words", "makings", "rules", "bars", "rule", "bar"]) (sc := defScope sCS) (by decide +kernel)) (fun _ _ _ _ _ => (pg_name (i := 6) scCS.nd rfl (Or.inl rfl))) (fun _ _ _ _ _ => pts_nil) (fun _ _ _ _ _ => pe_never)) pa_nil)))
      (pss_cons (ps_expr (pe_call GS hr1 rfl DS.g DS.F.kp DS.b .nil pass0 (pa_cons (pv 0) (pa_cons (pv 2) (pa_cons (pe_lst (pa_star (pv 3) (pa_star (pv 4) pa_nil))) pa_nil)))))
      (pss_cons (ps_expr (pe_call GU hr1 rfl DU.g DU.F.kp DU.b .nil pass0 (pa_cons (pv 0) (pa_cons (pv 2) pa_nil))))
      (pss_one (ps_expr (pe_call GW hr1 rfl DW.g DW.F.kp DW.b .nil pass0 (pa_cons (pv 1) (pa_cons (pv 2) (pa_cons (pv 3) (pa_cons (pv 4) pa_nil)))))))))))))))))))), ?_⟩
    refine ⟨_, rfl, s, _, rfl, .inl hs, _, _, _, _, rfl, by rw [List.length_map]; omega, by rw [List.length_map]; omega, ?_⟩
    refine ⟨_, rfl, w, _, rfl, .inl hw, _, _, _, _, rfl, by rw [List.length_map]; omega, by rw [List.length_map]; omega, ?_⟩
    refine ⟨_, rfl, r, _, rfl, .inl hr', _, _, _, _, rfl, by decide, by decide, ?_⟩
    refine ⟨_, rfl, b, _, rfl, .inl hb, _, _, _, _, rfl, by decide, by decide, ?_⟩
    refine ⟨_, rfl, s, ss, rfl, hs, rs.nm, fun H1 S1 => ?_⟩
    refine ⟨_, rfl, w, ws, rfl, S1.seq hw, rw'.nm, fun H2 S2 => ?_⟩
    have S12 := S1.trans S2
    refine ⟨_, rfl, s, _, rfl, .inl (S12.seq hs), flats ss, rs.noTw, fun H3 S3 => ?_⟩
    have S13 := S12.trans S3
    refine ⟨_, rfl, w, _, rfl, .inl (S13.seq hw), flats ws, rw'.noTw, fun H4 S4 => ?_⟩
    have S14 := S13.trans S4
    refine ⟨_, rfl, m, rfl, S14.seq hm, fun H5 S5 => ?_⟩
    have S15 := S14.trans S5
    refine ⟨_, rfl, r, rfl, ⟨_, S15.seq hr'⟩, fun D hD => lc_nil (S15.seq hr') hD ⟨D, [], rfl, .inl (SqL.of upd_same), rfl, noTw_nil, fun H6 S6 => ?_⟩⟩
    have S16 := (S15.trans (Same.upd hD)).trans S6
    refine ⟨_, rfl, b, rfl, ⟨_, S16.seq hb⟩, fun D2 hD2 => lc_nil (S16.seq hb) hD2 ⟨D2, [], rfl, .inl (SqL.of upd_same), rfl, noTw_nil, fun H7 S7 => ?_⟩⟩
    have S17 := (S16.trans (Same.upd hD2)).trans S7
    refine ⟨_, rfl, _, rfl, _, rfl, r, [], rfl, .inr (S17.seq hr'), _, rfl, b, [], rfl, .inr (S17.seq hb), Nat.zero_le _, fun q hq => ?_⟩
    have S18 := S17.trans (Same.upd (o := .lst []) hq)
    refine ⟨s, m, q, rfl, S18.seq hm, SqL.of upd_same, fun H8 S8 => ?_⟩
    have S19 := S18.trans S8
    refine ⟨_, rfl, _, rfl, s, m, rfl, S19.seq hm, fun H9 S9 => ?_⟩
    have S20 := S19.trans S9
    exact ⟨_, rfl, _, rfl, _, rfl, _, rfl, w, m, r, b, rfl, S20.seq hm, S20.seq hr', S20.seq hb, fun H10 S10 => k H10 (S20.trans S10)⟩
theorem scSch : FnScope ["self", "sorts", "words", "makings", "rules", "bars"] ["self", "sorts", "words", "makings", "rules", "bars"] (defScope sSch) := ⟨rfl, rfl, rfl, by decide +kernel, rfl, by decide +kernel, by decide +kernel⟩
theorem ok_sch {f fO fC S : Addr} {fd dO dC : FuncData} {dvs : List V} (F : FunD K "__init__" "Scheme.__init__" (defArgs sSch) (defBody sSch) (defScope sSch) dvs [] f fd) (tl : mg "list" = none) (TC : TxSch K mg S f) (DO : Dn K mg "own_list" sOL ["rows"] fO dO) (DC : Dn K mg "check_scheme" sCS ["sorts", "words", "makings", "rules", "bars"] fC dC)
    (GC : FnOk P w K mg base CX0 3 fC dC ["sorts", "words", "makings", "rules", "bars"] (spCS K)) : FnOk P w K mg base CX0 4 f fd ["self", "sorts", "words", "makings", "rules", "bars"] (spSch K S) := by
  have GO : FnOk P w K mg base CX0 1 fO dO _ spOL := ok_ol DO.F
  refine F.ok scSch (fun vs H Q E h => ?_) (fun cdv A outer s H vs Q E hr h => ?_)
  · obtain ⟨H0, x, dx, s, w, ss, ws, rfl, _⟩ := h
    rfl
  · obtain ⟨H0, x, dx, s, w, ss, ws, rfl, S0, x0, hx, hs, hw, rs, rw', s1, s4, w1, w5, k⟩ := h
    have hr1 : Room 1 _ := hr.mono (by decide)
    have Sx : ∀ {H1 : Hp} {o : HO}, Same H0 H1 → Same H0 (upd H1 x o) := fun hs b o e => by
      rw [upd_ne (ne_of_none e x0)]
      exact hs b o e
    refine ⟨_, (pss_cons (ps_fld (pv 0) (pe_callTy call_list_of (by rfl) tl (by decide +kernel) (pa_cons (pv 1) pa_nil)) rfl)
      (pss_cons (ps_fld (pv 0) (pe_callTy call_list_of (by rfl) tl (by decide +kernel) (pa_cons (pv 2) pa_nil)) rfl)
      (pss_cons (ps_fld (pv 0) (pe_call GO hr1 rfl DO.g DO.F.kp DO.b .nil pass0 (pa_cons (pv 3) pa_nil)) rfl)
      (pss_cons (ps_fld (pv 0) (pe_call GO hr1 rfl DO.g DO.F.kp DO.b .nil pass0 (pa_cons (pv 4) pa_nil)) rfl)
      (pss_cons (ps_fld (pv 0) (pe_call GO hr1 rfl DO.g DO.F.kp DO.b .nil pass0 (pa_cons (pv 5) pa_nil)) rfl)
      (pss_one (ps_expr (pe_call GC hr rfl DC.g DC.F.kp DC.b .nil pass0 (pa_cons (pe_fld (pv 0) rfl) (pa_cons (pe_fld (pv 0) rfl) (pa_cons (pe_fld (pv 0) rfl) (pa_cons (pe_fld (pv 0) rfl) (pa_cons (pe_fld (pv 0) rfl) pa_nil))))))))))))), ?_⟩
    refine ⟨_, rfl, s, _, rfl, .inl (S0.seq hs), fun l1 h1 => ?_⟩
    have n1 : l1 ≠ x := fun z => by
      rw [z, hx] at h1
      cases h1
    have hx1 : upd H l1 (.lst (ss.map V.str)) x = some (.ins S dx []) := (upd_ne n1.symm).trans hx
    refine ⟨_, rfl, x, S, dx, _, rfl, hx1, TC.cl, TC.n1, by show 0 < 1000; decide, ?_⟩
    have S1 : Same H0 (upd (upd H l1 (.lst (ss.map V.str))) x (.ins S dx (putF "own_sorts" (.ref l1) []))) := Sx (S0.trans (Same.upd h1))
    have e1 : (upd (upd H l1 (.lst (ss.map V.str))) x (.ins S dx (putF "own_sorts" (.ref l1) []))) l1 = some (.lst (ss.map V.str)) := (upd_ne n1).trans upd_same
    have ex1 : (upd (upd H l1 (.lst (ss.map V.str))) x (.ins S dx (putF "own_sorts" (.ref l1) []))) x = some (.ins S dx (putF "own_sorts" (.ref l1) [])) := upd_same
    generalize upd (upd H l1 (.lst (ss.map V.str))) x (.ins S dx (putF "own_sorts" (.ref l1) [])) = H1 at S1 e1 ex1
    refine ⟨_, rfl, w, _, rfl, .inl (S1.seq hw), fun l2 h2 => ?_⟩
    have n2 : l2 ≠ x := fun z => by
      rw [z, ex1] at h2
      cases h2
    refine ⟨_, rfl, x, S, dx, _, rfl, (upd_ne n2.symm).trans ex1, TC.cl, TC.n2, Nat.lt_of_le_of_lt (putF_len _ _ _) (by decide), ?_⟩
    have S2 := Sx (o := .ins S dx (putF "own_words" (.ref l2) (putF "own_sorts" (.ref l1) []))) (S1.trans (Same.upd (o := .lst (ws.map V.str)) h2))
    have e2 : (upd (upd H1 l2 (.lst (ws.map V.str))) x (.ins S dx (putF "own_words" (.ref l2) (putF "own_sorts" (.ref l1) [])))) l2 = some (.lst (ws.map V.str)) := (upd_ne n2).trans upd_same
    have e12 : (upd (upd H1 l2 (.lst (ws.map V.str))) x (.ins S dx (putF "own_words" (.ref l2) (putF "own_sorts" (.ref l1) [])))) l1 = some (.lst (ss.map V.str)) := (upd_ne n1).trans ((upd_ne (ne_of_none e1 h2)).trans e1)
    have ex2 : (upd (upd H1 l2 (.lst (ws.map V.str))) x (.ins S dx (putF "own_words" (.ref l2) (putF "own_sorts" (.ref l1) [])))) x = _ := upd_same
    generalize upd (upd H1 l2 (.lst (ws.map V.str))) x (.ins S dx (putF "own_words" (.ref l2) (putF "own_sorts" (.ref l1) []))) = H2 at S2 e2 e12 ex2
    refine ⟨_, rfl, rfl, fun l3 h3 => ?_⟩
    have n3 : l3 ≠ x := fun z => by
      rw [z, ex2] at h3
      cases h3
    refine ⟨_, rfl, x, S, dx, _, rfl, (upd_ne n3.symm).trans ex2, TC.cl, TC.n3, ?_, ?_⟩
    · have q1 := putF_len "own_sorts" (.ref l1) []
      have q2 := putF_len "own_words" (.ref l2) (putF "own_sorts" (.ref l1) [])
      simp only [List.length_nil] at *
      omega
    have S3 := Sx (o := .ins S dx (putF "own_makings" (.ref l3) (putF "own_words" (.ref l2) (putF "own_sorts" (.ref l1) [])))) (S2.trans (Same.upd (o := .lst []) h3))
    have e33 : (upd (upd H2 l3 (.lst [])) x (.ins S dx (putF "own_makings" (.ref l3) (putF "own_words" (.ref l2) (putF "own_sorts" (.ref l1) []))))) l3 = some (.lst []) := (upd_ne n3).trans upd_same
    have e13 : (upd (upd H2 l3 (.lst [])) x (.ins S dx (putF "own_makings" (.ref l3) (putF "own_words" (.ref l2) (putF "own_sorts" (.ref l1) []))))) l1 = some (.lst (ss.map V.str)) := (upd_ne n1).trans ((upd_ne (ne_of_none e12 h3)).trans e12)
    have e23 : (upd (upd H2 l3 (.lst [])) x (.ins S dx (putF "own_makings" (.ref l3) (putF "own_words" (.ref l2) (putF "own_sorts" (.ref l1) []))))) l2 = some (.lst (ws.map V.str)) := (upd_ne n2).trans ((upd_ne (ne_of_none e2 h3)).trans e2)
    have ex3 : (upd (upd H2 l3 (.lst [])) x (.ins S dx (putF "own_makings" (.ref l3) (putF "own_words" (.ref l2) (putF "own_sorts" (.ref l1) []))))) x = _ := upd_same
    generalize upd (upd H2 l3 (.lst [])) x (.ins S dx (putF "own_makings" (.ref l3) (putF "own_words" (.ref l2) (putF "own_sorts" (.ref l1) [])))) = H3 at S3 ex3 e13 e23 e33
    refine ⟨_, rfl, rfl, fun l4 h4 => ?_⟩
    have n4 : l4 ≠ x := fun z => by
      rw [z, ex3] at h4
      cases h4
    refine ⟨_, rfl, x, S, dx, _, rfl, (upd_ne n4.symm).trans ex3, TC.cl, TC.n4, ?_, ?_⟩
    · have q1 := putF_len "own_sorts" (.ref l1) []
      have q2 := putF_len "own_words" (.ref l2) (putF "own_sorts" (.ref l1) [])
      have q3 := putF_len "own_makings" (.ref l3) (putF "own_words" (.ref l2) (putF "own_sorts" (.ref l1) []))
      simp only [List.length_nil] at *
      omega
    have S4 := Sx (o := .ins S dx (putF "own_rules" (.ref l4) (putF "own_makings" (.ref l3) (putF "own_words" (.ref l2) (putF "own_sorts" (.ref l1) []))))) (S3.trans (Same.upd (o := .lst []) h4))
    have e44 : (upd (upd H3 l4 (.lst [])) x (.ins S dx (putF "own_rules" (.ref l4) (putF "own_makings" (.ref l3) (putF "own_words" (.ref l2) (putF "own_sorts" (.ref l1) [])))))) l4 = some (.lst []) := (upd_ne n4).trans upd_same
    have e14 : (upd (upd H3 l4 (.lst [])) x (.ins S dx (putF "own_rules" (.ref l4) (putF "own_makings" (.ref l3) (putF "own_words" (.ref l2) (putF "own_sorts" (.ref l1) [])))))) l1 = some (.lst (ss.map V.str)) := (upd_ne n1).trans ((upd_ne (ne_of_none e13 h4)).trans e13)
    have e24 : (upd (upd H3 l4 (.lst [])) x (.ins S dx (putF "own_rules" (.ref l4) (putF "own_makings" (.ref l3) (putF "own_words" (.ref l2) (putF "own_sorts" (.ref l1) [])))))) l2 = some (.lst (ws.map V.str)) := (upd_ne n2).trans ((upd_ne (ne_of_none e23 h4)).trans e23)
    have e34 : (upd (upd H3 l4 (.lst [])) x (.ins S dx (putF "own_rules" (.ref l4) (putF "own_makings" (.ref l3) (putF "own_words" (.ref l2) (putF "own_sorts" (.ref l1) [])))))) l3 = some (.lst []) := (upd_ne n3).trans ((upd_ne (ne_of_none e33 h4)).trans e33)
    have ex4 : (upd (upd H3 l4 (.lst [])) x (.ins S dx (putF "own_rules" (.ref l4) (putF "own_makings" (.ref l3) (putF "own_words" (.ref l2) (putF "own_sorts" (.ref l1) [])))))) x = _ := upd_same
    generalize upd (upd H3 l4 (.lst [])) x (.ins S dx (putF "own_rules" (.ref l4) (putF "own_makings" (.ref l3) (putF "own_words" (.ref l2) (putF "own_sorts" (.ref l1) []))))) = H4 at S4 ex4 e14 e24 e34 e44
    refine ⟨_, rfl, rfl, fun l5 h5 => ?_⟩
    have n5 : l5 ≠ x := fun z => by
      rw [z, ex4] at h5
      cases h5
    refine ⟨_, rfl, x, S, dx, _, rfl, (upd_ne n5.symm).trans ex4, TC.cl, TC.n5, ?_, ?_⟩
    · have q1 := putF_len "own_sorts" (.ref l1) []
      have q2 := putF_len "own_words" (.ref l2) (putF "own_sorts" (.ref l1) [])
      have q3 := putF_len "own_makings" (.ref l3) (putF "own_words" (.ref l2) (putF "own_sorts" (.ref l1) []))
      have q4 := putF_len "own_rules" (.ref l4) (putF "own_makings" (.ref l3) (putF "own_words" (.ref l2) (putF "own_sorts" (.ref l1) [])))
      simp only [List.length_nil] at *
      omega
    have S5 := Sx (o := .ins S dx (putF "own_bars" (.ref l5) (putF "own_rules" (.ref l4) (putF "own_makings" (.ref l3) (putF "own_words" (.ref l2) (putF "own_sorts" (.ref l1) [])))))) (S4.trans (Same.upd (o := .lst []) h5))
    have e55 : (upd (upd H4 l5 (.lst [])) x (.ins S dx (putF "own_bars" (.ref l5) (putF "own_rules" (.ref l4) (putF "own_makings" (.ref l3) (putF "own_words" (.ref l2) (putF "own_sorts" (.ref l1) []))))))) l5 = some (.lst []) := (upd_ne n5).trans upd_same
    have e15 : (upd (upd H4 l5 (.lst [])) x (.ins S dx (putF "own_bars" (.ref l5) (putF "own_rules" (.ref l4) (putF "own_makings" (.ref l3) (putF "own_words" (.ref l2) (putF "own_sorts" (.ref l1) []))))))) l1 = some (.lst (ss.map V.str)) := (upd_ne n1).trans ((upd_ne (ne_of_none e14 h5)).trans e14)
    have e25 : (upd (upd H4 l5 (.lst [])) x (.ins S dx (putF "own_bars" (.ref l5) (putF "own_rules" (.ref l4) (putF "own_makings" (.ref l3) (putF "own_words" (.ref l2) (putF "own_sorts" (.ref l1) []))))))) l2 = some (.lst (ws.map V.str)) := (upd_ne n2).trans ((upd_ne (ne_of_none e24 h5)).trans e24)
    have e35 : (upd (upd H4 l5 (.lst [])) x (.ins S dx (putF "own_bars" (.ref l5) (putF "own_rules" (.ref l4) (putF "own_makings" (.ref l3) (putF "own_words" (.ref l2) (putF "own_sorts" (.ref l1) []))))))) l3 = some (.lst []) := (upd_ne n3).trans ((upd_ne (ne_of_none e34 h5)).trans e34)
    have e45 : (upd (upd H4 l5 (.lst [])) x (.ins S dx (putF "own_bars" (.ref l5) (putF "own_rules" (.ref l4) (putF "own_makings" (.ref l3) (putF "own_words" (.ref l2) (putF "own_sorts" (.ref l1) []))))))) l4 = some (.lst []) := (upd_ne n4).trans ((upd_ne (ne_of_none e44 h5)).trans e44)
    have ex5 : (upd (upd H4 l5 (.lst [])) x (.ins S dx (putF "own_bars" (.ref l5) (putF "own_rules" (.ref l4) (putF "own_makings" (.ref l3) (putF "own_words" (.ref l2) (putF "own_sorts" (.ref l1) []))))))) x = _ := upd_same
    generalize upd (upd H4 l5 (.lst [])) x (.ins S dx (putF "own_bars" (.ref l5) (putF "own_rules" (.ref l4) (putF "own_makings" (.ref l3) (putF "own_words" (.ref l2) (putF "own_sorts" (.ref l1) [])))))) = H5 at S5 ex5 e15 e25 e35 e45 e55
    have ex5 : H5 x = some (.ins S dx (schF l1 l2 l3 l4 l5)) := ex5
    have lkM : (schF l1 l2 l3 l4 l5).lookup ("own_makings" : Str) = some (.ref l3) := by
      unfold schF
      rw [lookN (by decide +kernel), lookN (by decide +kernel), lookF]
    have lkR : (schF l1 l2 l3 l4 l5).lookup ("own_rules" : Str) = some (.ref l4) := by
      unfold schF
      rw [lookN (by decide +kernel), lookF]
    have lkB : (schF l1 l2 l3 l4 l5).lookup ("own_bars" : Str) = some (.ref l5) := by
      unfold schF
      rw [lookF]
    refine ⟨_, rfl, x, S, dx, _, _, rfl, ex5, TC.cl, TC.n1, schF_so _ _ _ _ _, _, rfl, x, S, dx, _, _, rfl, ex5, TC.cl, TC.n2, schF_wo _ _ _ _ _, _, rfl, x, S, dx, _, _, rfl, ex5, TC.cl, TC.n3, lkM, _, rfl, x, S, dx, _, _, rfl, ex5, TC.cl, TC.n4, lkR, _, rfl, x, S, dx, _, _, rfl, ex5, TC.cl, TC.n5, lkB, ?_⟩
    exact ⟨l1, l2, l3, l4, l5, ss, ws, rfl, SqL.of e15, SqL.of e25, SqL.of e35, SqL.of e45, SqL.of e55, rs, rw', s1, s4, w1, w5, fun H6 S6 => k H6 (S5.trans S6) ⟨⟨dx, l1, l2, l3, l4, l5, S6 _ _ ex5, S6 _ _ e15, S6 _ _ e25⟩⟩⟩
theorem scSor : FnScope ["self"] ["self"] (defScope sSor) := ⟨rfl, rfl, rfl, by decide +kernel, rfl, by decide +kernel, by decide +kernel⟩
def spSor (S : Addr) : Sp := fun vs H Q _ => ∃ (x : Addr) (ss ws : List Str), vs = [.ref x] ∧ SchAt S H x ss ws ∧ ∀ l, H l = none → Q (.ref l) (upd H l (.lst (ss.map V.str)))
def spWor (S : Addr) : Sp := fun vs H Q _ => ∃ (x : Addr) (ss ws : List Str), vs = [.ref x] ∧ SchAt S H x ss ws ∧ ∀ l, H l = none → Q (.ref l) (upd H l (.lst (ws.map V.str)))
theorem ok_sor {f S fS : Addr} {fd : FuncData} (F : Fun K "sorts" "Scheme.sorts" sSor f fd) (tl : mg "list" = none) (TC : TxSch K mg S fS) : FnOk P w K mg base CX0 1 f fd ["self"] (spSor S) := by
  refine F.ok scSor (fun vs H Q E h => ?_) (fun cdv A outer s H vs Q E hr h => ?_)
  · obtain ⟨x, ss, ws, rfl, _⟩ := h
    rfl
  · obtain ⟨x, ss, ws, rfl, hx, k⟩ := h
    obtain ⟨dx, l1, l2, l3, l4, l5, hx, h1, h2⟩ := hx.ex
    refine ⟨_, (pss_one (ps_ret (pe_callTy call_list_of (by rfl) tl (by decide +kernel) (pa_cons (pe_fld (pv 0) rfl) pa_nil)))), ?_⟩
    exact ⟨_, rfl, x, S, dx, _, _, rfl, hx, TC.cl, TC.n1, schF_so _ _ _ _ _, l1, _, rfl, .inl (SqL.of h1), fun l hl => k l hl⟩
theorem scWor : FnScope ["self"] ["self"] (defScope sWor) := ⟨rfl, rfl, rfl, by decide +kernel, rfl, by decide +kernel, by decide +kernel⟩
theorem ok_wor {f S fS : Addr} {fd : FuncData} (F : Fun K "words" "Scheme.words" sWor f fd) (tl : mg "list" = none) (TC : TxSch K mg S fS) : FnOk P w K mg base CX0 1 f fd ["self"] (spWor S) := by
  refine F.ok scWor (fun vs H Q E h => ?_) (fun cdv A outer s H vs Q E hr h => ?_)
  · obtain ⟨x, ss, ws, rfl, _⟩ := h
    rfl
  · obtain ⟨x, ss, ws, rfl, hx, k⟩ := h
    obtain ⟨dx, l1, l2, l3, l4, l5, hx, h1, h2⟩ := hx.ex
    refine ⟨_, (pss_one (ps_ret (pe_callTy call_list_of (by rfl) tl (by decide +kernel) (pa_cons (pe_fld (pv 0) rfl) pa_nil)))), ?_⟩
    exact ⟨_, rfl, x, S, dx, _, _, rfl, hx, TC.cl, TC.n2, schF_wo _ _ _ _ _, l2, _, rfl, .inl (SqL.of h2), fun l hl => k l hl⟩
end
end Wm
/-! bs.count(True), a list of bools; also while an error is handled -/
namespace Wm
open PySem PySem.Spec PyProof.Rows L2
theorem vals_bls : ∀ {bs : List Bool} {us : List Value}, Vals (bs.map V.bl) us → us = bs.map Value.bool
  | [], _, .nil => rfl
  | b :: bs, _, .cons h r => by
    have e := vals_bls (bs := bs) r
    cases h
    rw [e]
    rfl
def isTru (v : Value) : Bool := match v with
  | .bool b => b
  | _ => false
def rCntB (K : PySem.W.Frag) : V → List V → Hp → VK → Prop := fun x xs H Q => ∃ (p : Addr) (bs : List Bool), x = .ref p ∧ xs = [.bl true] ∧ SqL K H p (bs.map V.bl) ∧ Q (.int (bs.count true : Nat)) H
theorem mt_bcount {X : Cx} : MtR X "list.count" (rCntB X.K) := by
  intro pins s σ H x xs v us Q I rx rxs h
  obtain ⟨p, bs, rfl, rfl, hs, q⟩ := h
  cases rx
  obtain ⟨u, rfl, ru⟩ := rxs.one
  cases ru
  obtain ⟨its, rv, ⟨⟨cls, dd, data, sl⟩, n, ho, hc, hdn, hd⟩, hlen⟩ := I.list hs
  simp only at hc hd
  subst hc hd
  have hb := vals_bls rv
  subst hb
  refine call_meets PySem.F.slot_list_count ⟨_, ho, rfl⟩ PySem.F.entry_list_count (PySem.F.args_list_count_2 _ _)
    (SeqAt.list_countAt p (bs.map Value.bool).toArray n dd sl (.bool true) isTru) ⟨ho, fun y hy => ?_, ?_⟩
  · obtain ⟨b, _, rfl⟩ := List.mem_map.mp (show y ∈ bs.map Value.bool by simpa using hy)
    have h := SeqAt.EqAt.bool_bool (A := X.A.in1) (s := s) b true
    rw [beq_true] at h
    exact h
  have ec : (bs.map Value.bool).toArray.toList.countP isTru = bs.count true := by
    show (bs.map Value.bool).countP isTru = _
    rw [List.countP_map, List.count]
    congr 1
    funext b
    show b = (b == true)
    cases b <;> rfl
  refine ⟨.int (bs.count true : Nat), H, I.tok _, ⟨s.toks, ?_⟩, q⟩
  show Value.int (((bs.map Value.bool).toArray.toList.countP isTru : Nat) : Int) s.toks = Value.int ((bs.count true : Nat) : Int) s.toks
  rw [ec]
end Wm
namespace Wm
open PySem L2 StX
/-! ### what is strange in a rule -/
def oddS (ss : List Str) (vs : List Var) : Option Str := (vs.filterMap (fun v => v.2)).find? fun z => !decide (z ∈ ss)
def oddW (ws : List Str) (ts : List Tri) : Option Str := (ts.map (fun t => t.2.1)).find? fun z => !decide (z ∈ ws)
theorem odd_none {ss : List Str} {vs : List Var} (h : ∀ v ∈ vs, ∀ z, v.2 = some z → z ∈ ss) : oddS ss vs = none := by
  unfold oddS
  rw [List.find?_eq_none]
  intro z hz
  obtain ⟨v, hv, e⟩ := List.mem_filterMap.mp hz
  simp [h v hv z e]
theorem oddW_none {ws : List Str} {ts : List Tri} (h : ∀ t ∈ ts, t.2.1 ∈ ws) : oddW ws ts = none := by
  unfold oddW
  rw [List.find?_eq_none]
  intro z hz
  obtain ⟨t, ht, rfl⟩ := List.mem_map.mp hz
  simp [h t ht]
theorem odd_some {ss : List Str} {vs : List Var} {i : Nat} {v : Var} {z : Str} (h : ∀ v ∈ vs.take i, ∀ z, v.2 = some z → z ∈ ss) (hv : vs[i]? = some v) (e : v.2 = some z) (hz : z ∉ ss) : oddS ss vs = some z := by
  have hi := (List.getElem?_eq_some_iff.mp hv).1
  have sp : vs = vs.take i ++ v :: vs.drop (i + 1) := by
    rw [← List.getElem?_eq_some_iff.mp hv |>.2, List.getElem_cons_drop, List.take_append_drop]
  have q := odd_none h
  unfold oddS at q ⊢
  rw [sp, List.filterMap_append, List.find?_append, q, List.filterMap_cons, e]
  simp [hz]
theorem oddW_some {ws : List Str} {ts : List Tri} {i : Nat} {t : Tri} (h : ∀ t ∈ ts.take i, t.2.1 ∈ ws) (ht : ts[i]? = some t) (hz : t.2.1 ∉ ws) : oddW ws ts = some t.2.1 := by
  have sp : ts = ts.take i ++ t :: ts.drop (i + 1) := by
    rw [← List.getElem?_eq_some_iff.mp ht |>.2, List.getElem_cons_drop, List.take_append_drop]
  have q := oddW_none h
  unfold oddW at q ⊢
  rw [sp, List.map_append, List.find?_append, q, List.map_cons]
  simp [hz]
/-- what is due of the rule -/
def DueS (CS CW : Addr) (ss ws : List Str) (r : RlD) (H : Hp) (ok : Hp → Prop) (E : XK) : Prop := match oddS ss r.p.vars with
  | some z => ∀ d H', H d = none → Same H H' → H' d = some (.xd (ef1 "name" "nosort" (.str z))) → E (.ref CS) (some d) H'
  | none => match oddW ws (r.p.cs ++ [r.g]) with
    | some z => ∀ d H', H d = none → Same H H' → H' d = some (.xd (ef1 "name" "noword" (.str z))) → E (.ref CW) (some d) H'
    | none => ∀ H', Same H H' → ok H'
def spRSR (K : PySem.W.Frag) (S RB CS CW : Addr) : Sp := fun vs H Q E => ∃ (x a : Addr) (ss ws : List Str) (r : RlD), vs = [.ref x, .ref a] ∧ SchAt S H x ss ws ∧ RlAt K RB H a r ∧ r.p.vars.length ≤ 4 ∧ r.p.cs.length ≤ 3 ∧ DueS CS CW ss ws r H (fun H' => Q .non H') E
/-- no other field -/
theorem schF_no {g : Str} (h1 : ¬ g = "own_bars") (h2 : ¬ g = "own_rules") (h3 : ¬ g = "own_makings") (h4 : ¬ g = "own_words") (h5 : ¬ g = "own_sorts") (l1 l2 l3 l4 l5 : Addr) : (schF l1 l2 l3 l4 l5).lookup g = none := by
  unfold schF
  rw [lookN h1, lookN h2, lookN h3, lookN h4, lookN h5]
  rfl
theorem SchAt.same {S : Addr} {H H' : Hp} {x : Addr} {ss ws : List Str} (s : Same H H') (h : SchAt S H x ss ws) : SchAt S H' x ss ws := by
  obtain ⟨dx, l1, l2, l3, l4, l5, h0, h1, h2⟩ := h.ex
  exact ⟨⟨dx, l1, l2, l3, l4, l5, s _ _ h0, s _ _ h1, s _ _ h2⟩⟩
section
variable {P : Program} {w : World} {K : PySem.W.Frag} {mg : Str → Option Value} {base : Heap}
theorem scNS : FnScope ["self", "name"] ["self", "name"] (defScope sNS) := ⟨rfl, rfl, rfl, by decide +kernel, rfl, by decide +kernel, by decide +kernel⟩
theorem ok_nosort {f C f0 W : Addr} {fd fd0 : FuncData} (F : Fun K "__init__" "NoSort.__init__" sNS f fd) (T : ErrT K mg "NoSort" "name" C f) (TW : WhoT K mg W f0 fd0) (G0 : FnOk P w K mg base CX0 1 f0 fd0 ["self", "kind"] (spWI K)) :
    FnOk P w K mg base CX0 2 f fd ["self", "name"] (spE1 C "name" "nosort") := by
  refine F.ok scNS (fun vs H Q E h => ?_) (fun cdv A outer s H vs Q E hr h => ?_)
  · obtain ⟨a, v, rfl, _⟩ := h
    rfl
  · obtain ⟨a, v, rfl, ha, k⟩ := h
    refine ⟨_, pss_cons (ps_expr (pe_clsFn rfl TW.g TW.r TW.m TW.k G0 hr TW.b .nil pass0 (pa_cons (pv 0) (pa_cons pe_str pa_nil)))) (pss_one (ps_ost (pv 0) (pv 1))), ?_⟩
    refine ⟨_, rfl, a, C, _, rfl, T.o, T.nk, ha, fun dx n ne => ?_⟩
    refine ⟨_, rfl, _, rfl, a, C, rfl, T.o, T.nf, .inr ⟨dx, _, upd_same, Eq.trans (upd_ne ne) upd_same, by decide, ?_⟩⟩
    refine k dx _ n ne (fun b o nb e => ?_) ?_ upd_same
    · have nd : b ≠ dx := ne_of_none e n
      rw [upd_ne nd, upd_ne nb, upd_ne nd]
      exact e
    · rw [upd_ne ne.symm, upd_same]
theorem scNW : FnScope ["self", "name"] ["self", "name"] (defScope sNW) := ⟨rfl, rfl, rfl, by decide +kernel, rfl, by decide +kernel, by decide +kernel⟩
theorem ok_noword {f C f0 W : Addr} {fd fd0 : FuncData} (F : Fun K "__init__" "NoWord.__init__" sNW f fd) (T : ErrT K mg "NoWord" "name" C f) (TW : WhoT K mg W f0 fd0) (G0 : FnOk P w K mg base CX0 1 f0 fd0 ["self", "kind"] (spWI K)) :
    FnOk P w K mg base CX0 2 f fd ["self", "name"] (spE1 C "name" "noword") := by
  refine F.ok scNW (fun vs H Q E h => ?_) (fun cdv A outer s H vs Q E hr h => ?_)
  · obtain ⟨a, v, rfl, _⟩ := h
    rfl
  · obtain ⟨a, v, rfl, ha, k⟩ := h
    refine ⟨_, pss_cons (ps_expr (pe_clsFn rfl TW.g TW.r TW.m TW.k G0 hr TW.b .nil pass0 (pa_cons (pv 0) (pa_cons pe_str pa_nil)))) (pss_one (ps_ost (pv 0) (pv 1))), ?_⟩
    refine ⟨_, rfl, a, C, _, rfl, T.o, T.nk, ha, fun dx n ne => ?_⟩
    refine ⟨_, rfl, _, rfl, a, C, rfl, T.o, T.nf, .inr ⟨dx, _, upd_same, Eq.trans (upd_ne ne) upd_same, by decide, ?_⟩⟩
    refine k dx _ n ne (fun b o nb e => ?_) ?_ upd_same
    · have nd : b ≠ dx := ne_of_none e n
      rw [upd_ne nd, upd_ne nb, upd_ne nd]
      exact e
    · rw [upd_ne ne.symm, upd_same]
theorem scRSR : FnScope ["scheme", "rule", "variable", "sort", "x", "word", "y"] ["scheme", "rule"] (defScope sRSR) := ⟨rfl, rfl, rfl, by decide +kernel, rfl, by decide +kernel, by decide +kernel⟩
theorem ok_rsr {f S fS RB fR CS CW fI fJ fSo fWo : Addr} {fd dI dJ dSo dWo : FuncData} (F : Fun K "refuse_strange_rule" "refuse_strange_rule" sRSR f fd) (TC : TxSch K mg S fS) (TR : TxRul K mg RB fR) (TES : ErrT K mg "NoSort" "name" CS fI) (bI : Binds K dI ["self", "name"] []) (GI : FnOk P w K mg base CX0 2 fI dI ["self", "name"] (spE1 CS "name" "nosort"))
    (TEW : ErrT K mg "NoWord" "name" CW fJ) (bJ : Binds K dJ ["self", "name"] []) (GJ : FnOk P w K mg base CX0 2 fJ dJ ["self", "name"] (spE1 CW "name" "noword")) (mSo : Meth K S "sorts" fSo) (bSo : Binds K dSo ["self"] []) (GSo : FnOk P w K mg base CX0 1 fSo dSo ["self"] (spSor S)) (mWo : Meth K S "words" fWo) (bWo : Binds K dWo ["self"] []) (GWo : FnOk P w K mg base CX0 1 fWo dWo ["self"] (spWor S)) :
    FnOk P w K mg base (L2.CX P w) 4 f fd ["scheme", "rule"] (spRSR K S RB CS CW) := by
  refine F.okX scRSR (fun vs H Q E h => ?_) (fun cdv A outer s H vs Q E hr h => ?_)
  · obtain ⟨x, a, ss, ws, r, rfl, _⟩ := h
    rfl
  · obtain ⟨x, a, ss, ws, r, rfl, hsc, hat, v4, c3, due⟩ := h
    have hr1 : Room 1 _ := hr.mono (by decide)
    have hr3 : Room 3 _ := hr
    refine ⟨_, (pss_cons (ps_for (passes_of rfl) rfl (pi_tup (pe_fld (pv 1) rfl)) (pg_tup rfl (pgs_cons (pg_name (i := 2) scRSR.nd rfl (Or.inl rfl)) (pgs_cons (pg_name (i := 3) scRSR.nd rfl (Or.inl rfl)) pgs_nil)))
        (pss_one (ps_if (PW.pt (pw_and (pt_cmp (pc_notN (pv 3))) (pw_and1 (pt_cmpR op_notIn_seq (pv 3) (pe_meth0 (pv 0) TC.cl mSo GSo hr1 bSo .nil pass0) (by rfl))))) (pss_one (ps_raise rfl (takes_of rfl rfl rfl rfl) (pmk_oex TES.o TES.iC TES.tI GI hr3 bI .nil pass0 rfl TES.g (pa_cons (pv 3) pa_nil)))) pss_nil)))
      (pss_one (ps_for (passes_of rfl) rfl (pi_list (pe_lst (pa_star (pe_fld (pv 1) rfl) (pa_cons (pe_fld (pv 1) rfl) pa_nil)))) (pg_tup rfl (pgs_cons (pg_name (i := 4) scRSR.nd rfl (Or.inl rfl)) (pgs_cons (pg_name (i := 5) scRSR.nd rfl (Or.inl rfl)) (pgs_cons (pg_name (i := 6) scRSR.nd rfl (Or.inl rfl)) pgs_nil))))
        (pss_one (ps_if (pt_cmpR op_notIn_seq (pv 5) (pe_meth0 (pv 0) TC.cl mWo GWo hr1 bWo .nil pass0) (by rfl)) (pss_one (ps_raise rfl (takes_of rfl rfl rfl rfl) (pmk_oex TEW.o TEW.iC TEW.tI GJ hr3 bJ .nil pass0 rfl TEW.g (pa_cons (pv 5) pa_nil)))) pss_nil))))), ?_⟩
    obtain ⟨dx, q1, q2, q3, q4, q5, h0, h1, h2⟩ := hsc.ex
    obtain ⟨d, t1, t2, t3, us, qs, k0, k1, k2, k3, k4, k5⟩ := hat
    have ul := k2.len
    have ql := k4.len
    rw [List.length_map] at ul ql
    have noS : ∀ {g : Str}, ¬ g = "own_bars" → ¬ g = "own_rules" → ¬ g = "own_makings" → ¬ g = "own_words" → ¬ g = "own_sorts" → (schF q1 q2 q3 q4 q5).lookup g = none := fun a b c d e => schF_no a b c d e _ _ _ _ _
    unfold DueS at due
    refine ⟨_, rfl, a, RB, d, _, _, rfl, k0, TR.cl, TR.nv, rulF_vars _ _ _ _ _, t1, rfl, ⟨_, k1⟩, for_tup (K := K) (a := t1) (xs := us.map V.ref) (fun i σ H' => Same H H' ∧ (∃ u2 u3, σ = [some (.ref x), some (.ref a), u2, u3, none, none, none]) ∧ ∀ v ∈ r.p.vars.take i, ∀ z, v.2 = some z → z ∈ ss) ⟨Same.refl H, ⟨_, _, rfl⟩, fun v hv => by simp at hv⟩ (fun i σ H' _ h => same_seqT h.1 k1) ?_ ?_⟩
    · rintro i v σ H1 hv ⟨S1, ⟨u2, u3, rfl⟩, hno⟩
      obtain ⟨u, hu, rfl⟩ := map_ref_get hv
      obtain ⟨rw_, hrw, hsq⟩ := k2.get hu
      obtain ⟨vr, hvr, rfl⟩ := var_get hrw
      refine ⟨u, _, rfl, same_seqT S1 hsq, rfl, _, _, rfl, _, _, rfl, rfl, ?_⟩
      dsimp only [gName, List.set_cons_succ, List.set_cons_zero]
      rcases vr with ⟨vn, _ | z⟩
      · have ho : ((vn, none) : Var).2 = none := rfl
        refine ⟨_, rfl, _, rfl, iteF (iteF ⟨S1, ⟨_, _, rfl⟩, fun v' hv' z e => ?_⟩)⟩
        rw [List.take_add_one, hvr] at hv'
        rcases List.mem_append.mp hv' with q | q
        · exact hno v' q z e
        · rw [show v' = (vn, _) by simpa using q, ho] at e
          cases e
      · have ho : ((vn, some z) : Var).2 = some z := rfl
        dsimp only [varV, sortV]
        refine ⟨_, rfl, _, rfl, iteT ⟨_, rfl, _, rfl, x, dx, _, rfl, S1 _ _ h0, noS (by decide +kernel) (by decide +kernel) (by decide +kernel) (by decide +kernel) (by decide +kernel), x, ss, ws, rfl, hsc.same S1, fun l hl => ?_⟩⟩
        refine ⟨l, _, rfl, .inl (SqL.of upd_same), rfl, flats ss, _, rfl, ?_⟩
        rw [if_pos rfl, inV_strs]
        have S2 : Same H (upd H1 l (.lst (ss.map V.str))) := S1.trans (Same.upd hl)
        by_cases hz : z ∈ ss
        · rw [decide_eq_true hz]
          refine iteF ⟨S2, ⟨_, _, rfl⟩, fun v' hv' y e => ?_⟩
          rw [List.take_add_one, hvr] at hv'
          rcases List.mem_append.mp hv' with q | q
          · exact hno v' q y e
          · rw [show v' = (vn, _) by simpa using q, ho] at e
            cases e
            exact hz
        · rw [decide_eq_false hz]
          rw [odd_some hno hvr ho hz] at due
          exact iteT ⟨_, rfl, mk1 fun d H' hd S' hx => due d H' (S2.free hd) (S2.trans S') hx⟩
    rintro σ H1 ⟨S1, ⟨u2, u3, rfl⟩, hno⟩
    rw [List.length_map, ul, List.take_length] at hno
    rw [odd_none hno] at due
    refine ⟨_, rfl, a, RB, d, _, _, rfl, S1 _ _ k0, TR.cl, TR.nc, rulF_cond _ _ _ _ _, t2, _, rfl, .inl (same_seqT S1 k3), _, rfl, a, RB, d, _, _, rfl, S1 _ _ k0, TR.cl, TR.ng, rulF_gives _ _ _ _ _, ?_⟩
    show (qs.map V.ref ++ [V.ref t3]).length ≤ sizeLine ∧ _
    rw [show qs.map V.ref ++ [V.ref t3] = (qs ++ [t3]).map V.ref by rw [List.map_append]; rfl]
    refine ⟨Nat.le_trans (show _ ≤ 1000 by rw [List.length_map, List.length_append]; show qs.length + 1 ≤ 1000; omega) (by decide), fun L hL => ?_⟩
    have T1 : Same H1 (upd H1 L (.lst ((qs ++ [t3]).map V.ref))) := Same.upd hL
    have e1 : (upd H1 L (.lst ((qs ++ [t3]).map V.ref))) L = some (.lst ((qs ++ [t3]).map V.ref)) := upd_same
    generalize upd H1 L (.lst ((qs ++ [t3]).map V.ref)) = H2 at T1 e1
    have S2 := S1.trans T1
    have rr : RowsAt K H2 (qs ++ [t3]) ((r.p.cs ++ [r.g]).map triV) := by
      rw [List.map_append]
      exact RowsAt.append (k4.same S2) ⟨same_seqT S2 k5, True.intro⟩
    have rl := rr.len
    rw [List.length_map] at rl
    refine ⟨L, rfl, ⟨_, SqL.of e1⟩, for_list (K := K) (a := L) (xs := (qs ++ [t3]).map V.ref) (fun i σ H' => Same H2 H' ∧ (∃ u4 u5 u6, σ = [some (.ref x), some (.ref a), u2, u3, u4, u5, u6]) ∧ ∀ t ∈ (r.p.cs ++ [r.g]).take i, t.2.1 ∈ ws) ⟨Same.refl _, ⟨_, _, _, rfl⟩, fun v hv => by simp at hv⟩ (fun i σ H' _ h => SqL.of (h.1 _ _ e1)) ?_ ?_⟩
    · rintro i v σ H3 hv ⟨S3, ⟨u4, u5, u6, rfl⟩, hno⟩
      obtain ⟨u, hu, rfl⟩ := map_ref_get hv
      obtain ⟨rw_, hrw, hsq⟩ := rr.get hu
      obtain ⟨tr, htr, rfl⟩ := tri_get hrw
      refine ⟨u, _, rfl, same_seqT S3 hsq, rfl, _, _, rfl, _, _, rfl, _, _, rfl, rfl, ?_⟩
      dsimp only [gName, List.set_cons_succ, List.set_cons_zero]
      have S23 := S2.trans S3
      refine ⟨_, rfl, _, rfl, x, dx, _, rfl, S23 _ _ h0, noS (by decide +kernel) (by decide +kernel) (by decide +kernel) (by decide +kernel) (by decide +kernel), x, ss, ws, rfl, hsc.same S23, fun l hl => ?_⟩
      refine ⟨l, _, rfl, .inl (SqL.of upd_same), rfl, flats ws, _, rfl, ?_⟩
      rw [if_pos rfl, inV_strs]
      have S4 : Same H2 (upd H3 l (.lst (ws.map V.str))) := S3.trans (Same.upd hl)
      by_cases hz : tr.2.1 ∈ ws
      · rw [decide_eq_true hz]
        refine iteF ⟨S4, ⟨_, _, _, rfl⟩, fun t ht => ?_⟩
        rw [List.take_add_one, htr] at ht
        rcases List.mem_append.mp ht with q | q
        · exact hno t q
        · rw [show t = tr by simpa using q]
          exact hz
      · rw [decide_eq_false hz]
        rw [oddW_some hno htr hz] at due
        exact iteT ⟨_, rfl, mk1 fun d H' hd S' hx => due d H' ((S2.trans S4).free hd) ((S2.trans S4).trans S') hx⟩
    rintro σ H3 ⟨S3, ⟨u4, u5, u6, rfl⟩, hno⟩
    rw [List.length_map, rl, List.take_length] at hno
    rw [oddW_none hno] at due
    exact due H3 (S2.trans S3)
end
end Wm
namespace Wm
open PySem L2 StX
/-! ### rows of sorts -/
def cart : List (List Str) → List (List Str)
  | [] => [[]]
  | f :: fs => f.flatMap fun e => (cart fs).map fun r => e :: r
def freeS (ss : List Str) (v : Var) : List Str := match v.2 with
  | none => ss
  | some z => [z]
def stepS (rows : List (List Str)) (f : List Str) : List (List Str) := rows.flatMap fun r => f.map fun e => r ++ [e]
theorem fold_cart : ∀ (fs : List (List Str)) (rows : List (List Str)), fs.foldl stepS rows = rows.flatMap fun r => (cart fs).map fun q => r ++ q
  | [], rows => by
    show rows = _
    simp [cart]
  | f :: fs, rows => by
    show fs.foldl stepS (stepS rows f) = _
    rw [fold_cart fs]
    unfold stepS
    rw [List.flatMap_assoc]
    congr 1
    funext r
    show List.flatMap _ (f.map fun e => r ++ [e]) = _
    rw [List.flatMap_map]
    show _ = (f.flatMap fun e => (cart fs).map fun q => e :: q).map fun q => r ++ q
    rw [List.map_flatMap]
    congr 1
    funext e
    rw [List.map_map]
    congr 1
    funext q
    show (r ++ [e]) ++ q = r ++ (e :: q)
    simp
theorem fold_cart0 (fs : List (List Str)) : fs.foldl stepS [[]] = cart fs := by
  rw [fold_cart]
  simp
theorem cart_len : ∀ {fs : List (List Str)}, (∀ f ∈ fs, f.length ≤ 4) → (cart fs).length ≤ 4 ^ fs.length
  | [], _ => by simp [cart]
  | f :: fs, h => by
    have h1 := h f List.mem_cons_self
    have h2 := cart_len (fs := fs) fun g hg => h g (List.mem_cons_of_mem _ hg)
    show (f.flatMap fun e => (cart fs).map fun r => e :: r).length ≤ 4 ^ (fs.length + 1)
    rw [List.length_flatMap]
    simp only [List.length_map, List.map_const', List.sum_replicate_nat]
    rw [Nat.pow_succ, Nat.mul_comm]
    exact Nat.mul_le_mul h2 h1
theorem cart_row : ∀ {fs : List (List Str)} {r : List Str}, r ∈ cart fs → r.length = fs.length
  | [], r, h => by
    have e : r = [] := by simpa [cart] using h
    rw [e]
    rfl
  | f :: fs, r, h => by
    obtain ⟨e, _, h⟩ := List.mem_flatMap.mp (show r ∈ f.flatMap fun e => (cart fs).map fun r => e :: r from h)
    obtain ⟨q, hq, rfl⟩ := List.mem_map.mp h
    rw [List.length_cons, cart_row hq]
    rfl
theorem stepS_app (a b : List (List Str)) (f : List Str) : stepS (a ++ b) f = stepS a f ++ stepS b f := by
  unfold stepS
  rw [List.flatMap_append]
def rowV (r : List Str) : List V := r.map V.str
def spSrw (K : PySem.W.Frag) (S RB CS CW : Addr) : Sp := fun vs H Q E => ∃ (x a : Addr) (ss ws : List Str) (r : RlD), vs = [.ref x, .ref a] ∧ SchAt S H x ss ws ∧ RlAt K RB H a r ∧ r.p.vars.length ≤ 4 ∧ r.p.cs.length ≤ 3 ∧ ss.length ≤ 4 ∧ 1 ≤ ss.length ∧ DueS CS CW ss ws r H (fun H1 => ∀ l qs H', H l = none → Same H H' → H' l = some (.lst (qs.map V.ref)) → RowsAt K H' qs ((cart (r.p.vars.map (freeS ss))).map rowV) → Q (.ref l) H') E
theorem free_len {ss : List Str} (h : ss.length ≤ 4) (h1 : 1 ≤ ss.length) (v : Var) : (freeS ss v).length ≤ 4 := by
  unfold freeS
  split
  · exact h
  · show 1 ≤ 4
    decide
section
variable {P : Program} {w : World} {K : PySem.W.Frag} {mg : Str → Option Value} {base : Heap}
theorem scSrw : FnScope ["scheme", "rule", "rows", "variable", "sort", "free", "row", "each"] ["scheme", "rule"] (defScope sSrw) := ⟨rfl, rfl, rfl, by decide +kernel, rfl, by decide +kernel, by decide +kernel⟩
theorem ok_srw {f S fS RB fR CS CW fRS fSo : Addr} {fd dRS dSo : FuncData} (F : Fun K "sort_rows" "sort_rows" sSrw f fd) (TC : TxSch K mg S fS) (TR : TxRul K mg RB fR) (DRS : Dn K mg "refuse_strange_rule" sRSR ["scheme", "rule"] fRS dRS) (GRS : FnOk P w K mg base (L2.CX P w) 4 fRS dRS ["scheme", "rule"] (spRSR K S RB CS CW)) (mSo : Meth K S "sorts" fSo) (bSo : Binds K dSo ["self"] []) (GSo : FnOk P w K mg base CX0 1 fSo dSo ["self"] (spSor S)) :
    FnOk P w K mg base (L2.CX P w) 5 f fd ["scheme", "rule"] (spSrw K S RB CS CW) := by
  refine F.okX scSrw (fun vs H Q E h => ?_) (fun cdv A outer s H vs Q E hr h => ?_)
  · obtain ⟨x, a, ss, ws, r, rfl, _⟩ := h
    rfl
  · obtain ⟨x, a, ss, ws, r, rfl, hsc, hat, v4, c3, s4, s1, due⟩ := h
    have hr1 : Room 1 _ := hr.mono (by decide)
    have hr4 : Room 4 _ := hr
    refine ⟨_, (pss_cons (ps_expr (pe_call GRS hr4 rfl DRS.g DRS.F.kp DRS.b .nil (passes_call (takes_of rfl rfl rfl rfl) (fun _ _ _ _ h => h)) (pa_cons (pv 0) (pa_cons (pv 1) pa_nil))))
      (pss_cons (ps_set (i := 2) scSrw.nd rfl (Or.inl rfl) (pe_lst (pa_cons (pe_tup pa_nil) pa_nil)))
      (pss_cons (ps_for (passes_of rfl) rfl (pi_tup (pe_fld (pv 1) rfl)) (pg_tup rfl (pgs_cons (pg_name (i := 3) scSrw.nd rfl (Or.inl rfl)) (pgs_cons (pg_name (i := 4) scSrw.nd rfl (Or.inl rfl)) pgs_nil)))
        (pss_cons (ps_set (i := 5) scSrw.nd rfl (Or.inr rfl) (pe_ifExp (pt_cmp (pc_isN (pv 4))) (pe_meth0 (pv 0) TC.cl mSo GSo hr1 bSo .nil pass0) (pe_lst (pa_cons (pv 4) pa_nil))))
        (pss_one (ps_setLc2 (i := 2) (own := [("row", 6), ("each", 7)]) (vs1 := [7]) (g := gName 6) (g1 := gName 7) (wi1 := iList K (tVar 5)) (te := tTup (tStar K (tVar 6) (tCons (tVar 7) tNil))) rfl scSrw.nd rfl rfl (sw_true rfl rfl rfl (by decide +kernel)) (pi_list (pv 2)) (blkOk_by (N := ["scheme", "rule", "rows", "variable", "sort", "free", "row", "each"]) (sc := defScope sSrw) (by decide +kernel)) (by decide) (fun _ _ _ _ _ => (pg_name (i := 6) scSrw.nd rfl (Or.inl rfl))) (fun _ _ _ _ _ => pts_nil) (fun _ _ _ _ _ => (pi_list (pv 5))) (fun _ _ _ _ _ => (pg_name (i := 7) scSrw.nd rfl (Or.inl rfl))) (fun _ _ _ _ _ => pts_nil) (fun _ _ _ _ _ => (pe_tup (pa_star (pv 6) (pa_cons (pv 7) pa_nil))))))))
      (pss_one (ps_ret (pv 2)))))), ?_⟩
    refine ⟨_, rfl, _, rfl, x, a, ss, ws, r, rfl, hsc, hat, v4, c3, ?_⟩
    unfold DueS at due ⊢
    cases ho : oddS ss r.p.vars with
    | some z =>
      rw [ho] at due
      exact due
    | none =>
      rw [ho] at due
      cases hw : oddW ws (r.p.cs ++ [r.g]) with
      | some z =>
        rw [hw] at due
        exact due
      | none =>
        rw [hw] at due
        intro H1 S1
        have hat1 := hat.same S1
        obtain ⟨d, t1, t2, t3, us, qs, k0, k1, k2, k3, k4, k5⟩ := hat1
        have ul := k2.len
        rw [List.length_map] at ul
        refine ⟨Nat.zero_le _, fun e he => ⟨by show 1 ≤ sizeLine; decide, fun l hl => ?_⟩⟩
        have T1 : Same H1 (upd H1 e (.tup [])) := Same.upd he
        have e1 : (upd H1 e (.tup [])) e = some (.tup []) := upd_same
        generalize upd H1 e (.tup []) = H2 at T1 e1 hl
        have T2 : Same H2 (upd H2 l (.lst [.ref e])) := Same.upd hl
        have e2 : (upd H2 l (.lst [.ref e])) l = some (.lst ([e].map V.ref)) := upd_same
        generalize upd H2 l (.lst [.ref e]) = H3 at T2 e2
        have S13 := T1.trans T2
        have l0 : H l = none := (S1.trans T1).free hl
        have fl := free_len s4 s1
        refine ⟨_, rfl, a, RB, d, _, _, rfl, S13 _ _ k0, TR.cl, TR.nv, rulF_vars _ _ _ _ _, t1, rfl, ⟨_, same_seqT S13 k1⟩, for_tup (K := K) (a := t1) (xs := us.map V.ref) (fun i σ H' => Same H1 H' ∧ ∃ u3 u4 u5 l zs, σ = [some (.ref x), some (.ref a), some (.ref l), u3, u4, u5, none, none] ∧ H l = none ∧ H' l = some (.lst (zs.map V.ref)) ∧ RowsAt K H' zs ((((r.p.vars.take i).map (freeS ss)).foldl stepS [[]]).map rowV)) ⟨S13, _, _, _, l, [e], rfl, l0, e2, ⟨SqT.of (T2 _ _ e1), True.intro⟩⟩ (fun i σ H' _ h => same_seqT h.1 k1) ?_ ?_⟩
        · rintro i v σ H4 hv ⟨S4, u3, u4, u5, l, zs, rfl, l0, hl4, rows4⟩
          obtain ⟨u, hu, rfl⟩ := map_ref_get hv
          have hi : i < us.length := (List.getElem?_eq_some_iff.mp hu).1
          obtain ⟨rw_, hrw, hsq⟩ := k2.get hu
          obtain ⟨vr, hvr, rfl⟩ := var_get hrw
          refine ⟨u, _, rfl, same_seqT S4 hsq, rfl, _, _, rfl, _, _, rfl, rfl, ?_⟩
          dsimp only [gName, List.set_cons_succ, List.set_cons_zero]
          refine cut1 (fun σ' H' => ∃ fl, σ' = [some (.ref x), some (.ref a), some (.ref l), some (.str vr.1), some (sortV vr.2), some (.ref fl), none, none] ∧ Same H4 H' ∧ H' fl = some (.lst ((freeS ss vr).map V.str))) ?_ (fun R' fin => ?_)
          · rintro σ' H5 ⟨fr, rfl, S5, hfr⟩
            have hl5 := S5 _ _ hl4
            have rows5 := rows4.same S5
            have zl := rows5.len
            rw [List.length_map] at zl
            have frl := fl vr
            have hvi : i < r.p.vars.length := by omega
            have tkl : ((r.p.vars.take i).map (freeS ss)).length = i := by
              rw [List.length_map, List.length_take]
              omega
            have cl : (((r.p.vars.take i).map (freeS ss)).foldl stepS [[]]).length ≤ 256 := by
              rw [fold_cart0]
              have q := cart_len (fs := (r.p.vars.take i).map (freeS ss)) fun g hg => by
                obtain ⟨y, _, rfl⟩ := List.mem_map.mp hg
                exact fl y
              rw [tkl] at q
              have q4 : 4 ^ i ≤ 4 ^ 4 := Nat.pow_le_pow_right (by decide) (by omega)
              omega
            have rl : ∀ y ∈ ((r.p.vars.take i).map (freeS ss)).foldl stepS [[]], y.length ≤ 4 := fun y hy => by
              rw [fold_cart0] at hy
              rw [cart_row hy, tkl]
              omega
            have nx : ((r.p.vars.take (i + 1)).map (freeS ss)).foldl stepS [[]] = stepS (((r.p.vars.take i).map (freeS ss)).foldl stepS [[]]) (freeS ss vr) := by
              rw [List.take_add_one, hvr, List.map_append, List.foldl_append]
              rfl
            generalize hrw : ((r.p.vars.take i).map (freeS ss)).foldl stepS [[]] = rws at rows5 zl cl rl nx
            generalize freeS ss vr = fr_ at hfr frl nx
            refine ⟨_, rfl, l, rfl, ⟨_, SqL.of hl5⟩, fun D hD => ?_⟩
            have D0 : H D = none := (S1.trans (S4.trans S5)).free hD
            refine lc2_it walk_list (fun i' H' => Same H5 H' ∧ ∃ ws', H' D = some (.lst (ws'.map V.ref)) ∧ RowsAt K H' ws' ((stepS (rws.take i') fr_).map rowV)) ⟨Same.upd hD, [], upd_same, True.intro⟩ (fun i' H' _ p => SqL.of (p.1 _ _ hl5)) ?_ ?_
            · rintro i' y H6 H7 hi' ⟨S6, ws', hD6, rows6⟩ ⟨rfl, hy⟩
              obtain ⟨z, hz, rfl⟩ := map_ref_get hy
              obtain ⟨rz, hrz, hsz⟩ := rows5.get hz
              rw [List.getElem?_map] at hrz
              obtain ⟨row, hrow, rfl⟩ := Option.map_eq_some_iff.mp hrz
              have hzi : i' < zs.length := (List.getElem?_eq_some_iff.mp hz).1
              refine ⟨rfl, ?_⟩
              refine ⟨_, rfl, fr, rfl, ⟨_, SqL.of (S6 _ _ hfr)⟩, ?_⟩
              refine lc1_it walk_list (fun j H' => Same H5 H' ∧ ∃ ws', H' D = some (.lst (ws'.map V.ref)) ∧ RowsAt K H' ws' ((stepS (rws.take i') fr_ ++ (fr_.take j).map fun e => row ++ [e]).map rowV)) ⟨S6, ws', hD6, by rw [List.take_zero, List.map_nil, List.append_nil]; exact rows6⟩ (fun j H' _ p => SqL.of (p.1 _ _ hfr)) ?_ ?_
              · rintro j y H8 H9 hj ⟨S8, ws8, hD8, rows8⟩ ⟨rfl, hy⟩
                obtain ⟨e, he, rfl⟩ := map_str_get hy
                have rowl := rl row (List.mem_of_getElem? hrow)
                refine ⟨rfl, _, rfl, z, _, rfl, .inl (same_seqT S8 hsz), _, rfl, Nat.le_trans (show _ ≤ 1000 by rw [List.length_append]; show (row.map V.str).length + 1 ≤ 1000; rw [List.length_map]; omega) (by decide), fun tt htt => ?_⟩
                have hDt : (upd H9 tt (.tup (rowV row ++ [.str e]))) D = some (.lst (ws8.map V.ref)) := (upd_ne (ne_of_none hD8 htt)).trans hD8
                have T9 : Same H9 (upd H9 tt (.tup (rowV row ++ [.str e]))) := Same.upd htt
                have et : (upd H9 tt (.tup (rowV row ++ [.str e]))) tt = some (.tup (rowV (row ++ [e]))) := by
                  rw [upd_same]
                  unfold rowV
                  rw [List.map_append]
                  rfl
                generalize upd H9 tt (.tup (rowV row ++ [.str e])) = H10 at hDt T9 et
                have wl := rows8.len
                have sl : (stepS (rws.take i') fr_).length ≤ 1024 := by
                  unfold stepS
                  rw [List.length_flatMap]
                  simp only [List.length_map, List.map_const', List.sum_replicate_nat]
                  have q : (rws.take i').length ≤ 256 := by rw [List.length_take]; omega
                  exact Nat.le_trans (Nat.mul_le_mul q frl) (by decide)
                rw [List.length_map, List.length_append, List.length_map, List.length_take] at wl
                refine ⟨_, hDt, ?_, fun b o h => ?_, ws8 ++ [tt], ?_, ?_⟩
                · rw [List.length_map]
                  exact Nat.lt_of_le_of_lt (show _ ≤ 2000 by omega) (by decide)
                · rw [upd_ne (ne_of_none h hD)]
                  exact T9 _ _ (S8 _ _ h)
                · rw [upd_same, List.map_append]
                  rfl
                · have ee : (stepS (rws.take i') fr_ ++ (fr_.take (j + 1)).map fun e => row ++ [e]).map rowV = (stepS (rws.take i') fr_ ++ (fr_.take j).map fun e => row ++ [e]).map rowV ++ [rowV (row ++ [e])] := by
                    rw [List.take_add_one, he, List.map_append (f := fun e => row ++ [e]), ← List.append_assoc, List.map_append]
                    rfl
                  rw [ee]
                  exact RowsAt.append (rows_put hDt (rows8.same T9)) ⟨sqT_put hDt (SqT.of et), True.intro⟩
              · rintro H8 ⟨S8, ws8, hD8, rows8⟩
                rw [List.length_map, List.take_length] at rows8
                refine ⟨S8, ws8, hD8, ?_⟩
                rw [List.take_add_one, hrow, stepS_app]
                have e : stepS (some row).toList fr_ = fr_.map fun e => row ++ [e] := by
                  unfold stepS
                  simp
                rw [e]
                exact rows8
            · rintro H6 ⟨S6, ws', hD6, rows6⟩
              rw [List.length_map, zl, List.take_length] at rows6
              refine ⟨S4.trans (S5.trans S6), _, _, _, D, ws', rfl, D0, hD6, ?_⟩
              rw [nx]
              exact rows6
          · obtain ⟨dx, q1, q2, q3, q4, q5, h0, h1, h2⟩ := hsc.ex
            rcases vr with ⟨vn, _ | z⟩
            · have S14 := S1.trans S4
              refine ⟨_, rfl, _, rfl, iteT ⟨_, rfl, x, dx, _, rfl, S14 _ _ h0, schF_no (by decide +kernel) (by decide +kernel) (by decide +kernel) (by decide +kernel) (by decide +kernel) _ _ _ _ _, x, ss, ws, rfl, hsc.same S14, fun fr hfr => ?_⟩⟩
              exact fin _ _ ⟨fr, rfl, Same.upd hfr, upd_same⟩
            · refine ⟨_, rfl, _, rfl, iteF ⟨_, rfl, by show 1 ≤ sizeLine; decide, fun fr hfr => ?_⟩⟩
              exact fin _ _ ⟨fr, rfl, Same.upd hfr, upd_same⟩
        · rintro σ H4 ⟨S4, u3, u4, u5, l, zs, rfl, l0, hl4, rows4⟩
          rw [List.length_map, ul, List.take_length, fold_cart0] at rows4
          exact ⟨_, rfl, due H1 S1 l zs H4 l0 (S1.trans S4) hl4 rows4⟩
end
end Wm
namespace Wm
open PySem L2 StX
theorem same_make {H : Hp} {x dx C : Addr} (nx : H x = none) (ndx : H dx = none) : Same H (upd (upd H dx (.own x)) x (.ins C dx [])) := fun b o e => by
  rw [upd_ne (ne_of_none e nx), upd_ne (ne_of_none e ndx)]
  exact e
theorem dueM_all {C : Addr} {zs : List Str} {H0 : Hp} {ok : Hp → Prop} {E : XK} (h : ∀ z ∈ zs, isNm z = true) (k : ∀ H', Same H0 H' → ok H') : DueM C zs H0 ok E := by
  unfold DueM
  have e : zs.find? (fun z => !isNm z) = none := by
    rw [List.find?_eq_none]
    intro z hz
    rw [h z hz]
    decide
  rw [e]
  exact k
theorem rul_new {K : PySem.W.Frag} {C RB : Addr} {H : Hp} {l1 l2 g : Addr} {nm b : Str} {ps qs : List Addr} {vars : List Var} {cs : List Tri} {gt : Tri} {R : Addr → Hp → Prop} {E : XK} (h1 : SqL K H l1 (ps.map V.ref)) (r1 : RowsAt K H ps (vars.map varV)) (h2 : SqL K H l2 (qs.map V.ref)) (r2 : RowsAt K H qs (cs.map triV)) (hg : H g = some (.tup (triV gt)))
    (ok : PatOk vars cs [gt] [b]) (hn : ∀ z ∈ textsL nm vars (cs ++ [gt]), isNm z = true ∧ z.length ≤ 12) (k : ∀ x H', H x = none → Same H H' → RlAt K RB H' x ⟨⟨nm, vars, cs⟩, gt, b⟩ → R x H') :
    ∀ x dx, H x = none → H dx = none → dx ≠ x → spRul K C RB [.ref x, .str nm, .ref l1, .ref l2, .ref g, .str b] (upd (upd H dx (.own x)) x (.ins RB dx [])) (fun v H3 => v = .non ∧ R x H3) E := fun x dx hx hd ne => by
  refine ⟨H, x, dx, l1, l2, g, nm, b, ps, qs, vars, cs, gt, rfl, same_make hx hd, hx, upd_same, h1, r1, h2, r2, hg, ok, fun z hz => Nat.le_trans (hn z hz).2 (by decide), dueM_all (fun z hz => (hn z hz).1) fun H' S' t1 t2 a1 a2 a3 => ⟨rfl, ?_⟩⟩
  exact k x H' hx S' ⟨dx, t1, t2, g, ps, qs, a1, SqT.of a2, r1.same S', SqT.of a3, r2.same S', SqT.of (S' _ _ hg)⟩
def spMdR (K : PySem.W.Frag) (RB : Addr) : Sp := fun vs H Q _ => ∃ (t : Addr) (r : RlD), vs = [.ref t] ∧ MRul K H t r ∧ PatOk r.p.vars r.p.cs [r.g] [r.bh] ∧ (∀ z ∈ textsL r.p.nm r.p.vars (r.p.cs ++ [r.g]), isNm z = true ∧ z.length ≤ 12) ∧ ∀ x H', H x = none → Same H H' → RlAt K RB H' x r → Q (.ref x) H'
/-! ### what is due, as a tuple -/
inductive Ans where
  | bad (b1 b2 : Bool) (z : Str)
  | rows (rs : List (List Str))
def ansOf (ss ws : List Str) (r : RlD) : Ans := match oddS ss r.p.vars with
  | some z => .bad true false z
  | none => match oddW ws (r.p.cs ++ [r.g]) with
    | some z => .bad false true z
    | none => .rows (cart (r.p.vars.map (freeS ss)))
def AnsAt (K : PySem.W.Frag) (H : Hp) (t l : Addr) : Ans → Prop
  | .bad b1 b2 z => H t = some (.tup [.str "refused", .ref l, .str z]) ∧ H l = some (.lst ([b1, b2].map V.bl))
  | .rows rs => ∃ qs, H t = some (.tup [.str "told", .ref l]) ∧ H l = some (.lst (qs.map V.ref)) ∧ RowsAt K H qs (rs.map rowV)
theorem AnsAt.same {K : PySem.W.Frag} {H H' : Hp} {t l : Addr} {a : Ans} (s : Same H H') (h : AnsAt K H t l a) : AnsAt K H' t l a := by
  cases a with
  | bad b1 b2 z => exact ⟨s _ _ h.1, s _ _ h.2⟩
  | rows rs =>
    obtain ⟨qs, h1, h2, h3⟩ := h
    exact ⟨qs, s _ _ h1, s _ _ h2, h3.same s⟩
def spDue (K : PySem.W.Frag) : Sp := fun vs H Q _ => ∃ (ls lw t : Addr) (ss ws : List Str) (r : RlD), vs = [.ref ls, .ref lw, .ref t] ∧ H ls = some (.lst (ss.map V.str)) ∧ H lw = some (.lst (ws.map V.str)) ∧ MRul K H t r ∧ ss.Nodup ∧ ss.length ≤ 4 ∧ 1 ≤ ss.length ∧ r.p.vars.length ≤ 4 ∧ r.p.cs.length ≤ 3 ∧ ∀ t l H', H t = none → H l = none → Same H H' → AnsAt K H' t l (ansOf ss ws r) → Q (.ref t) H'
theorem filter_one {z : Str} : ∀ {ss : List Str}, ss.Nodup → z ∈ ss → (ss.filter fun e => decide (e = z)) = [z]
  | [], _, h => (List.not_mem_nil h).elim
  | y :: r, nd, h => by
    rw [List.nodup_cons] at nd
    by_cases e : y = z
    · subst e
      have q : (r.filter fun e => decide (e = y)) = [] := by
        rw [List.filter_eq_nil_iff]
        intro x hx
        rw [decide_eq_true_eq]
        intro e
        rw [e] at hx
        exact nd.1 hx
      rw [List.filter_cons, if_pos (decide_eq_true rfl), q]
    · rw [List.filter_cons, if_neg (by rw [decide_eq_false e]; decide)]
      rcases List.mem_cons.mp h with q | q
      · exact absurd q.symm e
      · exact filter_one nd.2 q
def inF (o : Option Str) (e : Str) : Bool := inV (sortV o) [V.non, .str e]
theorem inF_none (e : Str) : inF none e = true := rfl
theorem inF_some (z e : Str) : inF (some z) e = decide (e = z) := by
  have q := inV_strs (z := z) (ns := [e])
  have h : inF (some z) e = inV (.str z) ([e].map V.str) := rfl
  rw [h, q]
  simp [eq_comm]
theorem filt_free {ss : List Str} (nd : ss.Nodup) {v : Var} (h : ∀ z, v.2 = some z → z ∈ ss) : (ss.filter fun e => inF v.2 e) = freeS ss v := by
  obtain ⟨n, o⟩ := v
  cases o with
  | none =>
    unfold freeS
    show ss.filter _ = ss
    rw [List.filter_eq_self]
    intro e he
    exact inF_none e
  | some z =>
    unfold freeS
    show ss.filter (fun e => inF (some z) e) = [z]
    rw [show (fun e => inF (some z) e) = fun e => decide (e = z) from funext fun e => inF_some z e]
    exact filter_one nd (h z rfl)
section
variable {P : Program} {w : World} {K : PySem.W.Frag} {mg : Str → Option Value} {base : Heap}
theorem scMdR : FnScope ["_law_rule"] ["_law_rule"] (defScope sMdR) := ⟨rfl, rfl, rfl, by decide +kernel, rfl, by decide +kernel, by decide +kernel⟩
theorem ok_mdr {f RB fR C : Addr} {fd dR : FuncData} (F : Fun K "_law_made_rule" "_law_made_rule" sMdR f fd) (tl : mg "list" = none) (TR : TxRul K mg RB fR) (bR : Binds K dR ["self", "name", "variables", "conditions", "gives", "by"] []) (GR : FnOk P w K mg base (L2.CX P w) 6 fR dR ["self", "name", "variables", "conditions", "gives", "by"] (spRul K C RB)) : FnOk P w K mg base CX0 8 f fd ["_law_rule"] (spMdR K RB) := by
  refine F.ok scMdR (fun vs H Q E h => ?_) (fun cdv A outer s H vs Q E hr h => ?_)
  · obtain ⟨t, r, rfl, _⟩ := h
    rfl
  · obtain ⟨t, r, rfl, ⟨lv, lc, g, us, qs, q1, q2, q3, q4, q5, q6⟩, pt, hn, k⟩ := h
    have hr7 : Room 7 _ := hr
    refine ⟨_, (pss_one (ps_ret (pe_make TR.m GR hr7 rfl TR.g bR .nil passL (pa_cons (pe_ix ix_tup (pv 0) pe_int (fun _ _ => rfl)) (pa_cons (pe_callTy call_list_of (by rfl) tl (by decide +kernel) (pa_cons (pe_ix ix_tup (pv 0) pe_int (fun _ _ => rfl)) pa_nil)) (pa_cons (pe_callTy call_list_of (by rfl) tl (by decide +kernel) (pa_cons (pe_ix ix_tup (pv 0) pe_int (fun _ _ => rfl)) pa_nil)) (pa_cons (pe_ix ix_tup (pv 0) pe_int (fun _ _ => rfl)) (pa_cons (pe_ix ix_tup (pv 0) pe_int (fun _ _ => rfl)) pa_nil)))))))), ?_⟩
    refine ⟨_, rfl, t, _, 0, _, rfl, rfl, SqT.of q1, atI_nat (j := 0) rfl, _, rfl, t, _, 1, _, rfl, rfl, SqT.of q1, atI_nat (j := 1) rfl, lv, _, rfl, .inl (SqL.of q2), fun lv' hlv => ?_⟩
    have S4 : Same H (upd H lv' (.lst (us.map V.ref))) := Same.upd hlv
    refine ⟨_, rfl, t, _, 2, _, rfl, rfl, SqT.of (S4 _ _ q1), atI_nat (j := 2) rfl, lc, _, rfl, .inl (SqL.of (S4 _ _ q4)), fun lc' hlc => ?_⟩
    have S5 : Same (upd H lv' (.lst (us.map V.ref))) (upd (upd H lv' (.lst (us.map V.ref))) lc' (.lst (qs.map V.ref))) := Same.upd hlc
    have e1 := S5 _ _ (upd_same (H := H) (a := lv') (o := .lst (us.map V.ref)))
    have e2 : (upd (upd H lv' (.lst (us.map V.ref))) lc' (.lst (qs.map V.ref))) lc' = some (.lst (qs.map V.ref)) := upd_same
    have SS := S4.trans S5
    generalize upd (upd H lv' (.lst (us.map V.ref))) lc' (.lst (qs.map V.ref)) = H4 at SS e1 e2
    have t4 := SS _ _ q1
    refine ⟨_, rfl, t, _, 3, _, rfl, rfl, SqT.of t4, atI_nat (j := 3) rfl, _, rfl, t, _, 4, _, rfl, rfl, SqT.of t4, atI_nat (j := 4) rfl, ?_⟩
    refine rul_new (SqL.of e1) (q3.same SS) (SqL.of e2) (q5.same SS) (SS _ _ q6) pt hn fun x H5 nx S6 hat => ?_
    exact k x H5 (SS.free nx) (SS.trans S6) hat
theorem scDue : FnScope ["_law_sorts", "_law_words", "_law_rule", "_law_name_here", "_law_sort", "_law_x", "_law_word", "_law_y", "_law_rows", "_law_longer", "_law_one", "_law_row"] ["_law_sorts", "_law_words", "_law_rule"] (defScope sDue) := ⟨rfl, rfl, rfl, by decide +kernel, rfl, by decide +kernel, by decide +kernel⟩
theorem ok_due {f : Addr} {fd : FuncData} (F : Fun K "_law_due" "_law_due" sDue f fd) (T : TxB mg) : FnOk P w K mg base CX0 1 f fd ["_law_sorts", "_law_words", "_law_rule"] (spDue K) := by
  refine F.ok scDue (fun vs H Q E h => ?_) (fun cdv A outer s H vs Q E hr h => ?_)
  · obtain ⟨ls, lw, t, ss, ws, r, rfl, _⟩ := h
    rfl
  · obtain ⟨ls, lw, t, ss, ws, r, rfl, hls, hlw, hm, snd, s4, s1, v4, c3, k⟩ := h
    refine ⟨_, (pss_cons (ps_for PassesOwn.never rfl (pi_list (pe_ix ix_tup (pv 2) pe_int (fun _ _ => rfl))) (pg_tup rfl (pgs_cons (pg_name (i := 3) scDue.nd rfl (Or.inl rfl)) (pgs_cons (pg_name (i := 4) scDue.nd rfl (Or.inl rfl)) pgs_nil))) (pss_one (ps_if (PW.pt (pw_and (pt_cmp (pc_notN (pv 4))) (pw_and1 (pt_cmpR op_notIn_seq (pv 4) (pv 0) (by rfl))))) (pss_one (ps_ret (pe_tup (pa_cons pe_str (pa_cons (pe_lst (pa_cons pe_bl (pa_cons pe_bl pa_nil))) (pa_cons (pv 4) pa_nil)))))) pss_nil)))
      (pss_cons (ps_for PassesOwn.never rfl (pi_list (pe_op op_cat (pe_ix ix_tup (pv 2) pe_int (fun _ _ => rfl)) (pe_lst (pa_cons (pe_ix ix_tup (pv 2) pe_int (fun _ _ => rfl)) pa_nil)))) (pg_tup rfl (pgs_cons (pg_name (i := 5) scDue.nd rfl (Or.inl rfl)) (pgs_cons (pg_name (i := 6) scDue.nd rfl (Or.inl rfl)) (pgs_cons (pg_name (i := 7) scDue.nd rfl (Or.inl rfl)) pgs_nil)))) (pss_one (ps_if (pt_cmpR op_notIn_seq (pv 6) (pv 1) (by rfl)) (pss_one (ps_ret (pe_tup (pa_cons pe_str (pa_cons (pe_lst (pa_cons pe_bl (pa_cons pe_bl pa_nil))) (pa_cons (pv 6) pa_nil)))))) pss_nil)))
      (pss_cons (ps_set (i := 8) scDue.nd rfl (Or.inl rfl) (pe_lst (pa_cons (pe_tup pa_nil) pa_nil)))
      (pss_cons (ps_for PassesOwn.never rfl (pi_list (pe_revL (pe_ix ix_tup (pv 2) pe_int (fun _ _ => rfl)))) (pg_tup rfl (pgs_cons (pg_name (i := 3) scDue.nd rfl (Or.inl rfl)) (pgs_cons (pg_name (i := 4) scDue.nd rfl (Or.inl rfl)) pgs_nil))) (pss_cons (ps_set (i := 9) scDue.nd rfl (Or.inl rfl) (pe_lst pa_nil))
      (pss_cons (ps_for PassesOwn.never rfl (pi_list (pv 0)) (pg_name (i := 10) scDue.nd rfl (Or.inr rfl)) (pss_one (ps_if (pt_cmpR op_in_seq (pv 4) (pe_tup (pa_cons pe_non (pa_cons (pv 10) pa_nil))) (by rfl)) (pss_one (ps_expr (pe_bm PySem.F.plainAttrs_list PySem.F.slot_list_extend PySem.F.type_list_extend mt_extend (pv 9) (pa_cons (pe_lc (own := [("_law_row", 11)]) (g := gName 11) (tt := tYes) (te := tOp (rCatA K) (tTup (tCons (tVar 10) tNil)) (tVar 11)) rfl scDue.nd (pi_list (pv 8)) (blkOk_by (N := ["_law_sorts", "_law_words", "_law_rule", "_law_name_here", "_law_sort", "_law_x", "_law_word", "_law_y", "_law_rows", "_law_longer", "_law_one", "_law_row"]) (sc := defScope sDue) (by decide +kernel)) (fun _ _ _ _ _ => (pg_name (i := 11) scDue.nd rfl (Or.inl rfl))) (fun _ _ _ _ _ => pts_nil) (fun _ _ _ _ _ => (pe_op op_catA (pe_tup (pa_cons (pv 10) pa_nil)) (pv 11)))) pa_nil)))) pss_nil)))
      (pss_one (ps_set (i := 8) scDue.nd rfl (Or.inl rfl) (pv 9))))))
      (pss_one (ps_ret (pe_tup (pa_cons pe_str (pa_cons (pv 8) pa_nil))))))))), ?_⟩
    obtain ⟨lv, lc, g, us, qs, q1, q2, q3, q4, q5, q6⟩ := hm
    have ul := q3.len
    have ql := q5.len
    rw [List.length_map] at ul ql
    refine ⟨_, rfl, t, _, 1, _, rfl, rfl, SqT.of q1, atI_nat (j := 1) rfl, lv, rfl, ⟨_, SqL.of q2⟩, for_list (K := K) (a := lv) (xs := us.map V.ref) (fun i σ H' => H' = H ∧ (∃ u3 u4, σ = [some (.ref ls), some (.ref lw), some (.ref t), u3, u4, none, none, none, none, none, none, none]) ∧ ∀ v ∈ r.p.vars.take i, ∀ z, v.2 = some z → z ∈ ss) ⟨rfl, ⟨_, _, rfl⟩, fun v hv => by simp at hv⟩ (fun i σ H' _ h => by rw [h.1]; exact SqL.of q2) ?_ ?_⟩
    · rintro i v σ H1 hv ⟨rfl, ⟨u3, u4, rfl⟩, hno⟩
      obtain ⟨u, hu, rfl⟩ := map_ref_get hv
      obtain ⟨rw_, hrw, hsq⟩ := q3.get hu
      obtain ⟨vr, hvr, rfl⟩ := var_get hrw
      refine ⟨u, _, rfl, hsq, rfl, _, _, rfl, _, _, rfl, rfl, ?_⟩
      dsimp only [gName, List.set_cons_succ, List.set_cons_zero]
      rcases vr with ⟨vn, _ | z⟩
      · refine ⟨_, rfl, _, rfl, iteF (iteF ⟨rfl, ⟨_, _, rfl⟩, fun v' hv' z e => ?_⟩)⟩
        rw [List.take_add_one, hvr] at hv'
        rcases List.mem_append.mp hv' with q | q
        · exact hno v' q z e
        · rw [show v' = (vn, _) by simpa using q] at e
          cases e
      · have ho : ((vn, some z) : Var).2 = some z := rfl
        dsimp only [varV, sortV]
        refine ⟨_, rfl, _, rfl, iteT ⟨_, rfl, _, rfl, ls, _, rfl, .inl (SqL.of hls), rfl, flats ss, _, rfl, ?_⟩⟩
        rw [if_pos rfl, inV_strs]
        by_cases hz : z ∈ ss
        · rw [decide_eq_true hz]
          refine iteF ⟨rfl, ⟨_, _, rfl⟩, fun v' hv' y e => ?_⟩
          rw [List.take_add_one, hvr] at hv'
          rcases List.mem_append.mp hv' with q | q
          · exact hno v' q y e
          · rw [show v' = (vn, _) by simpa using q] at e
            cases e
            exact hz
        · rw [decide_eq_false hz]
          refine iteT ⟨by show 2 ≤ sizeLine; decide, fun l hl => ⟨_, rfl, by show 3 ≤ sizeLine; decide, fun t' ht' => ?_⟩⟩
          have T1 : Same H1 (upd H1 l (.lst [.bl true, .bl false])) := Same.upd hl
          refine k t' l _ (T1.free ht') hl (T1.trans (Same.upd ht')) ?_
          unfold ansOf
          rw [odd_some hno hvr ho hz]
          exact ⟨upd_same, (Same.upd ht') _ _ upd_same⟩
    rintro σ H1 ⟨e, ⟨u3, u4, rfl⟩, hno⟩
    obtain rfl := e.symm
    rw [List.length_map, ul, List.take_length] at hno
    have on := odd_none hno
    refine ⟨_, rfl, t, _, 2, _, rfl, rfl, SqT.of q1, atI_nat (j := 2) rfl, _, rfl, t, _, 3, _, rfl, rfl, SqT.of q1, atI_nat (j := 3) rfl, by show 1 ≤ sizeLine; decide, fun l1 hl1 => ?_⟩
    have T1 : Same H (upd H l1 (.lst [.ref g])) := Same.upd hl1
    have e1 : (upd H l1 (.lst [.ref g])) l1 = some (.lst [.ref g]) := upd_same
    generalize upd H l1 (.lst [.ref g]) = H1 at T1 e1
    refine ⟨lc, l1, _, _, rfl, rfl, T1 _ _ q4, e1, Nat.le_trans (show _ ≤ 1000 by rw [List.length_map]; show qs.length + 1 ≤ 1000; omega) (by decide), fun L hL => ?_⟩
    rw [show qs.map V.ref ++ [V.ref g] = (qs ++ [g]).map V.ref by rw [List.map_append]; rfl]
    have T2 : Same H1 (upd H1 L (.lst ((qs ++ [g]).map V.ref))) := Same.upd hL
    have e2 : (upd H1 L (.lst ((qs ++ [g]).map V.ref))) L = some (.lst ((qs ++ [g]).map V.ref)) := upd_same
    generalize upd H1 L (.lst ((qs ++ [g]).map V.ref)) = H2 at T2 e2
    have S2 := T1.trans T2
    have rr : RowsAt K H2 (qs ++ [g]) ((r.p.cs ++ [r.g]).map triV) := by
      rw [List.map_append]
      exact RowsAt.append (q5.same S2) ⟨SqT.of (S2 _ _ q6), True.intro⟩
    have rl := rr.len
    rw [List.length_map] at rl
    refine ⟨L, rfl, ⟨_, SqL.of e2⟩, for_list (K := K) (a := L) (xs := (qs ++ [g]).map V.ref) (fun i σ H' => H' = H2 ∧ (∃ u5 u6 u7, σ = [some (.ref ls), some (.ref lw), some (.ref t), u3, u4, u5, u6, u7, none, none, none, none]) ∧ ∀ t ∈ (r.p.cs ++ [r.g]).take i, t.2.1 ∈ ws) ⟨rfl, ⟨_, _, _, rfl⟩, fun v hv => by simp at hv⟩ (fun i σ H' _ h => by rw [h.1]; exact SqL.of e2) ?_ ?_⟩
    · rintro i v σ H3 hv ⟨e, ⟨u5, u6, u7, rfl⟩, hno2⟩
      obtain rfl := e.symm
      obtain ⟨u, hu, rfl⟩ := map_ref_get hv
      obtain ⟨rw_, hrw, hsq⟩ := rr.get hu
      obtain ⟨tr, htr, rfl⟩ := tri_get hrw
      refine ⟨u, _, rfl, hsq, rfl, _, _, rfl, _, _, rfl, _, _, rfl, rfl, ?_⟩
      dsimp only [gName, List.set_cons_succ, List.set_cons_zero]
      refine ⟨_, rfl, _, rfl, lw, _, rfl, .inl (SqL.of (S2 _ _ hlw)), rfl, flats ws, _, rfl, ?_⟩
      rw [if_pos rfl, inV_strs]
      by_cases hz : tr.2.1 ∈ ws
      · rw [decide_eq_true hz]
        refine iteF ⟨rfl, ⟨_, _, _, rfl⟩, fun t ht => ?_⟩
        rw [List.take_add_one, htr] at ht
        rcases List.mem_append.mp ht with q | q
        · exact hno2 t q
        · rw [show t = tr by simpa using q]
          exact hz
      · rw [decide_eq_false hz]
        refine iteT ⟨by show 2 ≤ sizeLine; decide, fun l hl => ⟨_, rfl, by show 3 ≤ sizeLine; decide, fun t' ht' => ?_⟩⟩
        have T3 : Same H2 (upd H2 l (.lst [.bl false, .bl true])) := Same.upd hl
        refine k t' l _ ((S2.trans T3).free ht') (S2.free hl) ((S2.trans T3).trans (Same.upd ht')) ?_
        unfold ansOf
        rw [on]
        show AnsAt K _ t' l (match oddW ws (r.p.cs ++ [r.g]) with | some z => _ | none => _)
        rw [oddW_some hno2 htr hz]
        exact ⟨upd_same, (Same.upd ht') _ _ upd_same⟩
    rintro σ H3 ⟨e, ⟨u5, u6, u7, rfl⟩, hno2⟩
    obtain rfl := e.symm
    rw [List.length_map, rl, List.take_length] at hno2
    have onw := oddW_none hno2
    have an : ansOf ss ws r = .rows (cart (r.p.vars.map (freeS ss))) := by
      unfold ansOf
      rw [on]
      show (match oddW ws (r.p.cs ++ [r.g]) with | some z => _ | none => _) = _
      rw [onw]
    rw [an] at k
    -- the rows, from behind
    refine ⟨Nat.zero_le _, fun e he => ⟨by show 1 ≤ sizeLine; decide, fun rl0 hrl0 => ?_⟩⟩
    dsimp only [gName, List.set_cons_succ, List.set_cons_zero]
    have T3 : Same H2 (upd H2 e (.tup [])) := Same.upd he
    have e3 : (upd H2 e (.tup [])) e = some (.tup []) := upd_same
    generalize upd H2 e (.tup []) = H3 at T3 e3 hrl0
    have T4 : Same H3 (upd H3 rl0 (.lst [.ref e])) := Same.upd hrl0
    have e4 : (upd H3 rl0 (.lst [.ref e])) rl0 = some (.lst ([e].map V.ref)) := upd_same
    generalize upd H3 rl0 (.lst [.ref e]) = H4 at T4 e4
    have S4 := (S2.trans T3).trans T4
    refine ⟨_, rfl, t, _, 1, _, rfl, rfl, SqT.of (S4 _ _ q1), atI_nat (j := 1) rfl, lv, _, rfl, SqL.of (S4 _ _ q2), fun lr hlr => ?_⟩
    have T5 : Same H4 (upd H4 lr (.lst (us.map V.ref).reverse)) := Same.upd hlr
    have e5 : (upd H4 lr (.lst (us.map V.ref).reverse)) lr = some (.lst (us.map V.ref).reverse) := upd_same
    generalize upd H4 lr (.lst (us.map V.ref).reverse) = H5 at T5 e5
    have S5 := S4.trans T5
    have rl0f : H rl0 = none := (S2.trans T3).free hrl0
    refine ⟨lr, rfl, ⟨_, SqL.of e5⟩, for_list (K := K) (a := lr) (xs := (us.map V.ref).reverse) (fun i σ H' => Same H5 H' ∧ ∃ u3 u4 u9 u10 rl zs, σ = [some (.ref ls), some (.ref lw), some (.ref t), u3, u4, u5, u6, u7, some (.ref rl), u9, u10, none] ∧ H rl = none ∧ H' rl = some (.lst (zs.map V.ref)) ∧ RowsAt K H' zs ((cart ((r.p.vars.drop (r.p.vars.length - i)).map (freeS ss))).map rowV)) ⟨Same.refl _, _, _, _, _, rl0, [e], rfl, rl0f, T5 _ _ e4, ?_⟩ (fun i σ H' _ h => SqL.of (h.1 _ _ e5)) ?_ ?_⟩
    · rw [Nat.sub_zero, List.drop_length]
      exact ⟨SqT.of (T5 _ _ (T4 _ _ e3)), True.intro⟩
    · rintro i v σ H6 hv ⟨S6, u3, u4, u9, u10, rl, zs, rfl, rlf, hrl, rows6⟩
      have hi : i < us.length := by
        have q := (List.getElem?_eq_some_iff.mp hv).1
        rw [List.length_reverse, List.length_map] at q
        exact q
      rw [List.getElem?_reverse (by rw [List.length_map]; exact hi), List.length_map] at hv
      obtain ⟨u, hu, rfl⟩ := map_ref_get hv
      obtain ⟨rw_, hrw, hsq⟩ := q3.get hu
      obtain ⟨vr, hvr, rfl⟩ := var_get hrw
      have S06 := S5.trans S6
      refine ⟨u, _, rfl, same_seqT S06 hsq, rfl, _, _, rfl, _, _, rfl, rfl, ?_⟩
      dsimp only [gName, List.set_cons_succ, List.set_cons_zero]
      have ed : r.p.vars.drop (r.p.vars.length - (i + 1)) = vr :: r.p.vars.drop (r.p.vars.length - i) := by
        have q : r.p.vars.length - (i + 1) < r.p.vars.length := by omega
        rw [List.drop_eq_getElem_cons q, show r.p.vars.length - (i + 1) + 1 = r.p.vars.length - i by omega]
        congr 1
        have q2 := (List.getElem?_eq_some_iff.mp hvr).2
        rw [← q2]
        congr 1
        omega
      have tl' : ((r.p.vars.drop (r.p.vars.length - i)).map (freeS ss)).length ≤ 3 := by
        rw [List.length_map, List.length_drop]
        omega
      have rowl : ∀ y ∈ cart ((r.p.vars.drop (r.p.vars.length - i)).map (freeS ss)), y.length ≤ 3 := fun y hy => by
        rw [cart_row hy]
        exact tl'
      have cl : (cart ((r.p.vars.drop (r.p.vars.length - i)).map (freeS ss))).length ≤ 64 := by
        have q := cart_len (fs := (r.p.vars.drop (r.p.vars.length - i)).map (freeS ss)) fun g hg => by
          obtain ⟨y, _, rfl⟩ := List.mem_map.mp hg
          exact free_len s4 s1 y
        have q4 : 4 ^ ((r.p.vars.drop (r.p.vars.length - i)).map (freeS ss)).length ≤ 4 ^ 3 := Nat.pow_le_pow_right (by decide) tl'
        omega
      generalize hfs : (r.p.vars.drop (r.p.vars.length - i)).map (freeS ss) = fs at rows6 rowl cl
      have zl := rows6.len
      rw [List.length_map] at zl
      refine ⟨Nat.zero_le _, fun lg hlg => ?_⟩
      dsimp only [gName, List.set_cons_succ, List.set_cons_zero]
      have T7 : Same H6 (upd H6 lg (.lst [])) := Same.upd hlg
      have e7 : (upd H6 lg (.lst [])) lg = some (.lst []) := upd_same
      generalize upd H6 lg (.lst []) = H7 at T7 e7
      have lgf : H lg = none := S06.free hlg
      have S07 := S06.trans T7
      refine cut1 (fun σ' H' => ∃ u10 ws', σ' = [some (.ref ls), some (.ref lw), some (.ref t), some (.str vr.1), some (sortV vr.2), u5, u6, u7, some (.ref rl), some (.ref lg), u10, none] ∧ Same H6 H' ∧ H' lg = some (.lst (ws'.map V.ref)) ∧ RowsAt K H' ws' ((cart (freeS ss vr :: fs)).map rowV)) ?_ (fun R' fin => ?_)
      · rintro σ' H8 ⟨u10, ws', rfl, S8, h8, rows8⟩
        refine ⟨_, rfl, S6.trans S8, _, _, _, _, lg, ws', rfl, lgf, h8, by rw [ed, List.map_cons, hfs]; exact rows8⟩
      · have hls7 := S07 _ _ hls
        refine ⟨_, rfl, ls, rfl, ⟨_, SqL.of hls7⟩, for_list (K := K) (a := ls) (xs := ss.map V.str) (fun j σ H' => Same H6 H' ∧ ∃ u10 ws', σ = [some (.ref ls), some (.ref lw), some (.ref t), some (.str vr.1), some (sortV vr.2), u5, u6, u7, some (.ref rl), some (.ref lg), u10, none] ∧ H' lg = some (.lst (ws'.map V.ref)) ∧ RowsAt K H' ws' ((((ss.take j).filter fun e => inF vr.2 e).flatMap fun e => (cart fs).map fun r => e :: r).map rowV)) ⟨T7, _, [], rfl, e7, True.intro⟩ (fun j σ H' _ h => SqL.of (h.1 _ _ (S06 _ _ hls))) ?_ ?_⟩
        · rintro j y σ H8 hy ⟨S8, u10, ws', rfl, h8, rows8⟩
          obtain ⟨e, hej, rfl⟩ := map_str_get hy
          dsimp only [gName, List.set_cons_succ, List.set_cons_zero]
          refine ⟨_, rfl, _, rfl, by show 2 ≤ sizeLine; decide, fun tp htp => ?_⟩
          have T9 : Same H8 (upd H8 tp (.tup [.non, .str e])) := Same.upd htp
          have e9 : (upd H8 tp (.tup [.non, .str e])) tp = some (.tup [.non, .str e]) := upd_same
          generalize upd H8 tp (.tup [.non, .str e]) = H9 at T9 e9
          have h9 := T9 _ _ h8
          have rows9 := rows8.same T9
          have wl := rows8.len
          have fil : ((ss.take j).filter fun e => inF vr.2 e).length ≤ 4 := Nat.le_trans (List.length_filter_le _ _) (by rw [List.length_take]; omega)
          have wl2 : ws'.length ≤ 256 := by
            rw [wl, List.length_map, List.length_flatMap]
            simp only [List.length_map, List.map_const', List.sum_replicate_nat]
            exact Nat.le_trans (Nat.mul_le_mul fil cl) (by decide)
          refine ⟨tp, _, rfl, .inr (SqT.of e9), by cases vr.2 <;> rfl, rfl, _, rfl, ?_⟩
          rw [if_neg (by decide)]
          show if inF vr.2 e = true then _ else _
          cases hin : inF vr.2 e with
          | false =>
            refine iteF ⟨S8.trans T9, _, ws', rfl, h9, ?_⟩
            rw [List.take_add_one, hej, List.filter_append]
            have q : ((some e).toList.filter fun e => inF vr.2 e) = [] := by simp [hin]
            rw [q, List.append_nil]
            exact rows9
          | true =>
            have hrl9 := T9 _ _ (S8 _ _ hrl)
            refine iteT ⟨_, rfl, .inl ⟨rfl, _, SqL.of h9⟩, _, rfl, rl, rfl, ⟨_, SqL.of hrl9⟩, fun D hD => ?_⟩
            have nDl : lg ≠ D := ne_of_none h9 hD
            refine lc_list (K := K) (a := rl) (xs := zs.map V.ref) (fun m H' => Same H9 H' ∧ ∃ vs', H' D = some (.lst (vs'.map V.ref)) ∧ RowsAt K H' vs' ((((cart fs).take m).map fun r => e :: r).map rowV)) ⟨Same.upd hD, [], upd_same, True.intro⟩ (fun m H' _ h => SqL.of (h.1 _ _ hrl9)) ?_ ?_
            · rintro m y H10 hy ⟨S10, vs', h10, rows10⟩
              obtain ⟨z, hz, rfl⟩ := map_ref_get hy
              have hm : m < zs.length := (List.getElem?_eq_some_iff.mp hz).1
              obtain ⟨rz, hrz, hsz⟩ := rows6.get hz
              rw [List.getElem?_map] at hrz
              obtain ⟨row, hrow, rfl⟩ := Option.map_eq_some_iff.mp hrz
              have rw3 := rowl row (List.mem_of_getElem? hrow)
              have hsz10 := same_seqT (S8.trans (T9.trans S10)) hsz
              refine ⟨rfl, _, rfl, by show 1 ≤ sizeLine; decide, fun t1 ht1 => ?_⟩
              have T11 : Same H10 (upd H10 t1 (.tup [.str e])) := Same.upd ht1
              have e11 : (upd H10 t1 (.tup [.str e])) t1 = some (.tup [.str e]) := upd_same
              generalize upd H10 t1 (.tup [.str e]) = H11 at T11 e11
              have vl := rows10.len
              rw [List.length_map, List.length_map, List.length_take] at vl
              have ee : ((((cart fs).take (m + 1)).map fun r => e :: r).map rowV) = ((((cart fs).take m).map fun r => e :: r).map rowV) ++ [rowV (e :: row)] := by
                rw [List.take_add_one, hrow, List.map_append, List.map_append]
                rfl
              have done : ∀ {H' : Hp} {tt : Addr}, Same H10 H' → SqT K H' tt (rowV (e :: row)) → ∃ acc, H' D = some (.lst acc) ∧ acc.length < sizeLine ∧ (Same H9 (upd H' D (.lst (acc ++ [.ref tt]))) ∧ ∃ vs', (upd H' D (.lst (acc ++ [.ref tt]))) D = some (.lst (vs'.map V.ref)) ∧ RowsAt K (upd H' D (.lst (acc ++ [.ref tt]))) vs' ((((cart fs).take (m + 1)).map fun r => e :: r).map rowV)) := fun {H' tt} s h => by
                have hD' := s _ _ h10
                refine ⟨_, hD', ?_, fun b o q => ?_, vs' ++ [tt], ?_, ?_⟩
                · rw [List.length_map]
                  exact Nat.lt_of_le_of_lt (show _ ≤ 1000 by omega) (by decide)
                · rw [upd_ne (ne_of_none q hD)]
                  exact s _ _ (S10 _ _ q)
                · rw [upd_same, List.map_append]
                  rfl
                · rw [ee]
                  exact RowsAt.append (rows_put hD' (rows10.same s)) ⟨sqT_put hD' h, True.intro⟩
              refine ⟨_, rfl, t1, z, _, _, rfl, rfl, SqT.of e11, same_seqT T11 hsz10, Nat.le_trans (show _ ≤ 1000 by show 1 + (row.map V.str).length ≤ 1000; rw [List.length_map]; omega) (by decide), fun q => absurd q (by simp), fun _ q => ?_, fun _ _ t2 ht2 => ?_⟩
              · have re : row = [] := by
                  cases row with
                  | nil => rfl
                  | cons a b => cases q
                refine done T11 ?_
                rw [re]
                exact SqT.of e11
              · exact done (T11.trans (Same.upd ht2)) (SqT.of upd_same)
            rintro H10 ⟨S10, vs', h10, rows10⟩
            rw [List.length_map, zl, List.take_length] at rows10
            have vl := rows10.len
            rw [List.length_map, List.length_map] at vl
            have hlg10 := S10 _ _ h9
            refine ⟨lg, D, _, _, rfl, rfl, hlg10, h10, Nat.le_trans (show _ ≤ 1000 by rw [List.length_map, List.length_map]; omega) (by decide), fun b o q => ?_, _, ws' ++ vs', rfl, ?_, ?_⟩
            · rw [upd_ne (ne_of_none q hlg)]
              exact S10 _ _ (T9 _ _ (S8 _ _ q))
            · rw [upd_same, List.map_append]
            · have q : ((ss.take (j + 1)).filter fun e => inF vr.2 e) = ((ss.take j).filter fun e => inF vr.2 e) ++ [e] := by
                rw [List.take_add_one, hej, List.filter_append]
                simp [hin]
              rw [q, List.flatMap_append, List.map_append]
              refine RowsAt.append (rows_put hlg10 (rows9.same S10)) ?_
              have q2 : ([e].flatMap fun e => (cart fs).map fun r => e :: r) = (cart fs).map fun r => e :: r := by simp
              rw [q2]
              exact rows_put hlg10 rows10
        · rintro σ H8 ⟨S8, u10, ws', rfl, h8, rows8⟩
          rw [List.length_map, List.take_length, filt_free snd (hno vr (List.mem_of_getElem? hvr))] at rows8
          exact fin _ _ ⟨u10, ws', rfl, S8, h8, rows8⟩
    · rintro σ H6 ⟨S6, u3, u4, u9, u10, rl, zs, rfl, rlf, hrl, rows6⟩
      rw [List.length_reverse, List.length_map, ul, Nat.sub_self, List.drop_zero] at rows6
      refine ⟨_, rfl, by show 2 ≤ sizeLine; decide, fun t' ht' => ?_⟩
      have S06 := S5.trans S6
      have T9 : Same H6 (upd H6 t' (.tup [.str "told", .ref rl])) := Same.upd ht'
      exact k t' rl _ (S06.free ht') rlf (S06.trans T9) ⟨zs, upd_same, T9 _ _ hrl, rows6.same T9⟩
end
end Wm
/-! methods called within a try, by place and by name -/
namespace Wm
open PySem PySem.Spec PyProof.Rows L2
def tMethZ (C : Addr) (m : Str) (sp : Sp) (E : L2.St → XK) (ta : TE) (t : TA) : TE := fun σ H Q => ta σ H fun x H1 => ∃ a dx fs, x = .ref a ∧ H1 a = some (.ins C dx fs) ∧ fs.lookup m = none ∧ t σ H1 fun vs H2 => sp (x :: vs) H2 Q (E σ)
section
variable {X : Cx} {CX : CXT} {k : Nat} {f C : Addr} {fd : FuncData} {ps : List Str} {sp : Sp} {E : L2.St → XK} {m : Str} {pos apos kpos : Pos} {e o : Expr} {es : List Expr} {ta te : TE} {t : TA}
theorem pe_methZ {pl : Sem Bool} (he : PE X o ta) (c : Cls X.K C) (hm : Meth X.K C m f) (F : FnOk X.prog X.w X.K X.mg X.base CX k f fd ps sp) (hr : Room k X.A) (hb : Binds X.K fd ps []) (hx : ∀ σ, PassesAt CX X σ (E σ)) (ha : PA X (e :: es) t)
    (hst : starEach (e :: es) X.env = (false, eval e X.env) :: starEach es X.env := by rfl) (hpl : (backTo pos (starEach es X.env)).any (·.1) = false := by rfl)
    (ht : eval (.Call (.Attribute o m apos) (e :: es) [] pos) X.env = (do
      let ov ← eval o X.env
      standAt apos.atName
      let (f, first) ← holding [ov] (getMethod ov m pl)
      callWith pos f first (backTo pos (starEach (e :: es) X.env)) (backToKw pos (keywordEach [] X.env))) := by rfl) :
    PE X (.Call (.Attribute o m apos) (e :: es) [] pos) (tMethZ C m sp E ta t) := by
  refine ⟨fun pins s σ H Q I h => ?_⟩
  refine PySem.W.methodCall_KW (pl := pl) (thn (he.run pins s σ H _ I h) fun u s1 hh => ?_) ht
  obtain ⟨x, H1, I1, rx, a, dx, fs, ex, ea, l, q⟩ := hh
  subst ex
  obtain rfl : u = Value.ref a := rx
  refine getmeth_ok I1 ea c hm l ?_
  refine PySem.W.callWith_K (first := [.ref a]) (h₀ := X.base) I.ok.mod.kin hm.kp (thn (ha.run pos pins s1 σ H1 _ I1 q) fun us s2 hh => ?_) hst hpl
  obtain ⟨vs, H2, I2, r, q2⟩ := hh
  exact ⟨I2.kIn, run_fnS (us := .ref a :: us) (vs := .ref a :: vs) F hr hb (hx σ) I2 (.cons rfl r) q2⟩
/-- how one keyword is bound behind the object itself -/
def KwOne (K : PySem.W.Frag) (fd : FuncData) (ps : List Str) (x : Str) : Prop := ∀ (s : Shared) (u v : Value), K.In s.heap → BindsTo s fd ⟨[u], [(x, v)]⟩ (ps.zip [u, v])
/-- o.m(x=e) -/
theorem pe_methKZ {pl : Sem Bool} {x : Str} (ho : PE X o ta) (c : Cls X.K C) (hm : Meth X.K C m f) (F : FnOk X.prog X.w X.K X.mg X.base CX k f fd ps sp) (hr : Room k X.A) (hb : KwOne X.K fd ps x) (hx : ∀ σ, PassesAt CX X σ (E σ)) (he : PE X e te)
    (ht : eval (.Call (.Attribute o m apos) [] [⟨some x, e, kpos⟩] pos) X.env = (do
      let ov ← eval o X.env
      standAt apos.atName
      let (f, first) ← holding [ov] (getMethod ov m pl)
      callWith pos f first (backTo pos (starEach [] X.env)) (backToKw pos (keywordEach [⟨some x, e, kpos⟩] X.env))) := by rfl)
    (hall : (backToKw pos (keywordEach [⟨some x, e, kpos⟩] X.env)).all (·.1.isSome) = true := by rfl) (hks : (backToKw pos (keywordEach [⟨some x, e, kpos⟩] X.env)).filterMap (·.1) = [x] := by rfl) (hpl : ((backTo pos (starEach [] X.env)).any (·.1) || (backToKw pos (keywordEach [⟨some x, e, kpos⟩] X.env)).any (·.1.isNone)) = false := by rfl) (hps : ps.length = 2 := by rfl) :
    PE X (.Call (.Attribute o m apos) [] [⟨some x, e, kpos⟩] pos) (tMethZ C m sp E ta (tCons te tNil)) := by
  refine ⟨fun pins s σ H Q I h => ?_⟩
  refine PySem.W.methodCall_KW (pl := pl) (thn (ho.run pins s σ H _ I h) fun u s1 hh => ?_) ht
  obtain ⟨y, H1, I1, rx, a, dx, fs, ex, ea, l, q⟩ := hh
  subst ex
  obtain rfl : u = Value.ref a := rx
  refine getmeth_ok I1 ea c hm l ?_
  have hkw : PK X [⟨some x, e, kpos⟩] (tCons te tNil) := pk_cons he pk_nil
  refine PySem.W.callWith_KW0 (first := [.ref a]) (h₀ := X.base) I.ok.mod.kin hm.kp hall (thn (hkw.run pos pins s1 σ H1 _ I1 q) fun ws s2 hh => ?_) hpl
  obtain ⟨zs, H2, I2, rz, q2⟩ := hh
  refine ⟨I2.kIn, ?_⟩
  rw [hks]
  have hl := F.len _ _ _ _ q2
  cases rz with
  | nil =>
    rw [hps] at hl
    simp at hl
  | @cons v0 u0 vr ur r1 r2 =>
    cases r2 with
    | cons _ _ =>
      rw [hps] at hl
      simp at hl
    | nil =>
      have rv : Vals [V.ref a, v0] [Value.ref a, u0] := .cons rfl (.cons r1 .nil)
      refine wpAny_call (codeAny_mono (F.run X.A X.stack s2 H2 ⟨[Value.ref a], [(x, u0)]⟩ [Value.ref a, u0] [V.ref a, v0] Q (E σ) hr I2.env0 (hb s2 _ u0 I2.kIn) rv q2) fun r s' hq => ?_)
      cases r with
      | error er => exact hx σ pins H2 s2 er s' I2 hq
      | ok fl =>
        cases fl with
        | ret u => exact I2.after hq
        | next => exact False.elim hq
        | brk => exact False.elim hq
        | cont => exact False.elim hq
end
end Wm
namespace Wm
open PySem L2 StX
def rIsG (K : PySem.W.Frag) (cls : Value) (d : Option Addr) (a : Addr) : List V → Hp → VK → Prop := fun xs H Q => ∃ (D dd : Addr), cls = .ref D ∧ d = some dd ∧ ExcC K D ∧ rIsX K D a dd xs H Q
theorem call_isG {X : Cx} {a : Addr} {cls : Value} {d : Option Addr} {oe : Obj} {pn : List (Addr × Obj)} (hz : Zc cls d oe) (hf : ∃ vs, oe.data = .fields vs) : CallR (X.suite a ((a, oe) :: pn)) (.builtin "isinstance") (rIsG X.K cls d a) := by
  intro pins s σ H xs us Q I r h
  obtain ⟨D, dd, rfl, rfl, C, h⟩ := h
  exact call_isX C hz hf pins s σ H xs us Q I r h
/-- e.f of the error that is held, of whatever class -/
def tXfV (K : PySem.W.Frag) (a : Addr) (cls : Value) (d : Option Addr) (f : Str) (i : Nat) : TE := fun σ H Q => ∃ v, σ[i]? = some (some v) ∧ v = .ref a ∧ ∃ (C dd : Addr) (fs : List (Str × V)) (u : V), cls = .ref C ∧ XfC K C ∧ PySem.W.findIn K (.ref C) f = some none ∧ d = some dd ∧ H dd = some (.xd fs) ∧ fs.lookup f = some u ∧ Q u H
theorem pe_xfV {X : Cx} {a : Addr} {oe : Obj} {cls : Value} {d : Option Addr} {pn : List (Addr × Obj)} {e : Expr} {pos : Pos} {n : Str} {i : Nat} (hz : Zc cls d oe) (hf : ∃ vs, oe.data = .fields vs) (he : PE (X.suite a ((a, oe) :: pn)) e (tVar i)) (hb : attributeBase e n X.env (eval e X.env) = eval e X.env := by rfl) :
    PE (X.suite a ((a, oe) :: pn)) (.Attribute e n pos) (tXfV X.K a cls d n i) := ⟨fun pins s σ H Q I h => by
  obtain ⟨v, hv, rfl, C, dd, fs, u, rfl, T, hno, rfl, hx, hl, q⟩ := h
  exact (pe_xf T hno hz hf he hb).run pins s σ H Q I ⟨_, hv, rfl, rfl, dd, fs, u, rfl, hx, hl, q⟩⟩
structure TxE (K : PySem.W.Frag) (mg : Str → Option Value) (CS CW W : Addr) : Prop where
  gS : mg "NoSort" = some (.ref CS)
  gN : mg "NoWord" = some (.ref CW)
  gW : mg "WhoError" = some (.ref W)
  tS : PySem.W.exmOne K (.ref CS) (.ref W) = some true
  tW : PySem.W.exmOne K (.ref CW) (.ref W) = some true
  xS : XfC K CS
  xW : XfC K CW
  nS : PySem.W.findIn K (.ref CS) "name" = some none
  nW : PySem.W.findIn K (.ref CW) "name" = some none
  cS : ExcC K CS
  cW : ExcC K CW
  kSS : PySem.W.kitOne K (.ref CS) (.ref CS) = some true
  kSW : PySem.W.kitOne K (.ref CS) (.ref CW) = some false
  kWS : PySem.W.kitOne K (.ref CW) (.ref CS) = some false
  kWW : PySem.W.kitOne K (.ref CW) (.ref CW) = some true
def spSai (K : PySem.W.Frag) (S RB : Addr) : Sp := fun vs H Q _ => ∃ (x a : Addr) (ss ws : List Str) (r : RlD), vs = [.ref x, .ref a] ∧ SchAt S H x ss ws ∧ RlAt K RB H a r ∧ r.p.vars.length ≤ 4 ∧ r.p.cs.length ≤ 3 ∧ ss.length ≤ 4 ∧ 1 ≤ ss.length ∧ ∀ t l H', H t = none → H l = none → Same H H' → AnsAt K H' t l (ansOf ss ws r) → Q (.ref t) H'
def tSaB (K : PySem.W.Frag) (S RB CS CW : Addr) (W : WX) : TS := tRet (tTup (tCons (tC (.str "told")) (tCons (tCallS (spSrw K S RB CS CW) (WE W) (tCons (tVar 0) (tCons (tVar 1) tNil))) tNil)))
def tSaS (K : PySem.W.Frag) (CS CW : Addr) : Addr → Value → Option Addr → TS := fun a cls d => tSeq (tAsg (tLst (tCons (tCB (rIsG K cls d a) (tCons (tVar 2) (tCons (tC (.ref CS)) tNil))) (tCons (tCB (rIsG K cls d a) (tCons (tVar 2) (tCons (tC (.ref CW)) tNil))) tNil))) (gName 3))
  (tSeq (tIfS (tTest (tOp rNe (tBM K "list" (rCntB K) (tVar 3) (tCons (tC (.bl true)) tNil)) (tC (.int 1)))) (tRet (tTup (tCons (tC (.str "refused")) (tCons (tVar 3) (tCons (tC (.str "")) tNil))))) tNext)
  (tRet (tTup (tCons (tC (.str "refused")) (tCons (tVar 3) (tCons (tXfV K a cls d "name" 2) tNil))))))
section
variable {P : Program} {w : World} {K : PySem.W.Frag} {mg : Str → Option Value} {base : Heap}
theorem scSai : FnScope ["_law_scheme", "_law_rule", "e", "_law_kinds"] ["_law_scheme", "_law_rule"] (defScope sSai) := ⟨rfl, rfl, rfl, by decide +kernel, rfl, by decide +kernel, by decide +kernel⟩
theorem ok_sai {f S RB CS CW W fSr : Addr} {fd dSr : FuncData} (F : Fun K "_law_said" "_law_said" sSai f fd) (T : TxB mg) (TE : TxE K mg CS CW W) (DSr : Dn K mg "sort_rows" sSrw ["scheme", "rule"] fSr dSr) (GSr : FnOk P w K mg base (L2.CX P w) 5 fSr dSr ["scheme", "rule"] (spSrw K S RB CS CW)) :
    FnOk P w K mg base CX0 6 f fd ["_law_scheme", "_law_rule"] (spSai K S RB) := by
  refine F.ok scSai (fun vs H Q E h => ?_) (fun cdv A outer s H vs Q E hr h => ?_)
  · obtain ⟨x, a, ss, ws, r, rfl, _⟩ := h
    rfl
  · obtain ⟨x, a, ss, ws, r, rfl, hsc, hat, v4, c3, s4, s1, k⟩ := h
    have hr5 : Room 5 _ := hr
    refine ⟨_, (pss_one (ps_try_as (i := 2) (tb := tSaB K S RB CS CW) (ts := tSaS K CS CW) (Wout := fun _ _ _ _ => False) rfl rfl scSai.nd rfl rfl ⟨rfl, by decide, Or.inl TE.gW⟩ takes0
      (fun W_ pn xe tk _ => (pss_one (ps_ret (pe_tup (pa_cons pe_str (pa_cons (pe_callS GSr hr5 rfl DSr.g DSr.F.kp DSr.b (fun σ => passAt tk σ) (pa_cons (pv 0) (pa_cons (pv 1) pa_nil))) pa_nil))))))
      (fun a oe cls d pn hz hf => (pss_cons (ps_set (i := 3) scSai.nd rfl (Or.inl rfl) (by exact (pe_lst (pa_cons (pe_callB (call_isG hz hf) (by rfl) T.isinstance (by decide +kernel) (pa_cons (pv 2) (pa_cons (pe_glob (v := .ref CS) (by rfl) TE.gS rfl) pa_nil))) (pa_cons (pe_callB (call_isG hz hf) (by rfl) T.isinstance (by decide +kernel) (pa_cons (pv 2) (pa_cons (pe_glob (v := .ref CW) (by rfl) TE.gN rfl) pa_nil))) pa_nil)))))
        (pss_cons (ps_if (pt_cmpR op_ne (pe_bm PySem.F.plainAttrs_list PySem.F.slot_list_count PySem.F.type_list_count mt_bcount (pv 3) (pa_cons pe_bl pa_nil)) pe_int (nomark _)) (pss_one (ps_ret (pe_tup (pa_cons pe_str (pa_cons (pv 3) (pa_cons pe_str pa_nil)))))) pss_nil)
        (pss_one (ps_ret (by exact (pe_tup (pa_cons pe_str (pa_cons (pv 3) (pa_cons (pe_xfV hz hf (pv 2)) pa_nil)))))))))))), ?_⟩
    refine ⟨_, rfl, _, rfl, x, a, ss, ws, r, rfl, hsc, hat, v4, c3, s4, s1, ?_⟩
    unfold DueS
    cases ho : oddS ss r.p.vars with
    | some z =>
      intro d H1 hd S1 hx
      refine ⟨true, TE.tS, fun _ a0 _ => ?_, fun q => Bool.noConfusion q⟩
      refine ⟨_, rfl, CS, d, rfl, rfl, TE.cS, _, _, _, _, rfl, hx, (fun u r => r), TE.kSS, ?_⟩
      refine ⟨_, rfl, CS, d, rfl, rfl, TE.cS, _, _, _, _, rfl, hx, (fun u r => r), TE.kSW, ?_⟩
      refine ⟨by show 2 ≤ sizeLine; decide, fun l hl => ?_⟩
      have T1 : Same H1 (upd H1 l (.lst [.bl true, .bl false])) := Same.upd hl
      have e1 : (upd H1 l (.lst [.bl true, .bl false])) l = some (.lst ([true, false].map V.bl)) := upd_same
      generalize upd H1 l (.lst [.bl true, .bl false]) = H2 at T1 e1
      refine ⟨_, rfl, .inl ⟨rfl, _, SqL.of e1⟩, l, [true, false], rfl, rfl, SqL.of e1, rfl, _, rfl, ite2 (fun q => absurd q (by decide)) (fun _ => ?_)⟩
      refine ⟨_, rfl, _, rfl, rfl, CS, d, _, _, rfl, TE.xS, TE.nS, rfl, T1 _ _ hx, rfl, by show 3 ≤ sizeLine; decide, fun t ht => ?_⟩
      have S2 := S1.trans T1
      refine k t l _ (S2.free ht) (S1.free hl) (S2.trans (Same.upd ht)) ?_
      rw [show ansOf ss ws r = .bad true false z by unfold ansOf; rw [ho]]
      exact ⟨upd_same, (Same.upd ht) _ _ e1⟩
    | none =>
      cases hw : oddW ws (r.p.cs ++ [r.g]) with
      | some z =>
        intro d H1 hd S1 hx
        refine ⟨true, TE.tW, fun _ a0 _ => ?_, fun q => Bool.noConfusion q⟩
        refine ⟨_, rfl, CW, d, rfl, rfl, TE.cW, _, _, _, _, rfl, hx, (fun u r => r), TE.kWS, ?_⟩
        refine ⟨_, rfl, CW, d, rfl, rfl, TE.cW, _, _, _, _, rfl, hx, (fun u r => r), TE.kWW, ?_⟩
        refine ⟨by show 2 ≤ sizeLine; decide, fun l hl => ?_⟩
        have T1 : Same H1 (upd H1 l (.lst [.bl false, .bl true])) := Same.upd hl
        have e1 : (upd H1 l (.lst [.bl false, .bl true])) l = some (.lst ([false, true].map V.bl)) := upd_same
        generalize upd H1 l (.lst [.bl false, .bl true]) = H2 at T1 e1
        refine ⟨_, rfl, .inl ⟨rfl, _, SqL.of e1⟩, l, [false, true], rfl, rfl, SqL.of e1, rfl, _, rfl, ite2 (fun q => absurd q (by decide)) (fun _ => ?_)⟩
        refine ⟨_, rfl, _, rfl, rfl, CW, d, _, _, rfl, TE.xW, TE.nW, rfl, T1 _ _ hx, rfl, by show 3 ≤ sizeLine; decide, fun t ht => ?_⟩
        have S2 := S1.trans T1
        refine k t l _ (S2.free ht) (S1.free hl) (S2.trans (Same.upd ht)) ?_
        rw [show ansOf ss ws r = .bad false true z by unfold ansOf; rw [ho]; show (match oddW ws (r.p.cs ++ [r.g]) with | some z => _ | none => _) = _; rw [hw]]
        exact ⟨upd_same, (Same.upd ht) _ _ e1⟩
      | none =>
        intro H1 S1 l qs H2 hl S2 h2 rows
        refine ⟨by show 2 ≤ sizeLine; decide, fun t ht => ?_⟩
        have T2 : Same H2 (upd H2 t (.tup [.str "told", .ref l])) := Same.upd ht
        refine k t l _ (S2.free ht) hl (S2.trans T2) ?_
        rw [show ansOf ss ws r = .rows (cart (r.p.vars.map (freeS ss))) by unfold ansOf; rw [ho]; show (match oddW ws (r.p.cs ++ [r.g]) with | some z => _ | none => _) = _; rw [hw]]
        exact ⟨qs, upd_same, T2 _ _ h2, rows.same T2⟩
end
end Wm
/-! methods called by several names; != of two lists that hold the very same objects; what keywords bind -/
namespace Wm
open PySem PySem.Spec PyProof.Rows L2
def tMethK (C : Addr) (m : Str) (n : Nat) (sp : Sp) (gV : List V → List V → List V) (E : L2.St → XK) (ta : TE) (tk : TA) : TE := fun σ H Q => ta σ H fun x H1 => ∃ a dx fs, x = .ref a ∧ H1 a = some (.ins C dx fs) ∧ fs.lookup m = none ∧ tk σ H1 fun zs H2 => zs.length = n ∧ sp (gV [x] zs) H2 Q (E σ)
section
variable {X : Cx} {CX : CXT} {k : Nat} {f C : Addr} {fd : FuncData} {ps ks : List Str} {sp : Sp} {E : L2.St → XK} {m : Str} {pos apos : Pos} {o : Expr} {kws : List Keyword} {ta : TE} {tk : TA} {g : List Value → List Value → List Value} {gV : List V → List V → List V}
/-- o.m(k = v, ..) -/
theorem pe_methKN {pl : Sem Bool} (ho : PE X o ta) (c : Cls X.K C) (hm : Meth X.K C m f) (F : FnOk X.prog X.w X.K X.mg X.base CX k f fd ps sp) (hr : Room k X.A) (hb : KBn X.K fd ps 1 ks g gV) (hx : ∀ σ, PassesAt CX X σ (E σ)) (hkw : PK X kws tk)
    (ht : eval (.Call (.Attribute o m apos) [] kws pos) X.env = (do
      let ov ← eval o X.env
      standAt apos.atName
      let (f, first) ← holding [ov] (getMethod ov m pl)
      callWith pos f first (backTo pos (starEach [] X.env)) (backToKw pos (keywordEach kws X.env))) := by rfl)
    (hall : (backToKw pos (keywordEach kws X.env)).all (·.1.isSome) = true := by rfl) (hks : (backToKw pos (keywordEach kws X.env)).filterMap (·.1) = ks := by rfl) (hpl : ((backTo pos (starEach [] X.env)).any (·.1) || (backToKw pos (keywordEach kws X.env)).any (·.1.isNone)) = false := by rfl) :
    PE X (.Call (.Attribute o m apos) [] kws pos) (tMethK C m ks.length sp gV E ta tk) := by
  refine ⟨fun pins s σ H Q I h => ?_⟩
  refine PySem.W.methodCall_KW (pl := pl) (thn (ho.run pins s σ H _ I h) fun u s1 hh => ?_) ht
  obtain ⟨y, H1, I1, rx, a, dx, fs, ex, ea, l, q⟩ := hh
  subst ex
  obtain rfl : u = Value.ref a := rx
  refine getmeth_ok I1 ea c hm l ?_
  refine PySem.W.callWith_KW0 (first := [.ref a]) (h₀ := X.base) I.ok.mod.kin hm.kp hall (thn (hkw.run pos pins s1 σ H1 _ I1 q) fun ws s2 hh => ?_) hpl
  obtain ⟨zs, H2, I2, rz, l2, q2⟩ := hh
  refine ⟨I2.kIn, ?_⟩
  rw [hks]
  have rv : Vals (gV [V.ref a] zs) (g [Value.ref a] ws) := hb.rel (.cons rfl .nil) rz
  refine wpAny_call (codeAny_mono (F.run X.A X.stack s2 H2 ⟨[Value.ref a], ks.zip ws⟩ (g [Value.ref a] ws) (gV [V.ref a] zs) Q (E σ) hr I2.env0 (hb.to s2 [Value.ref a] ws I2.kIn rfl (rz.length.symm.trans l2)) rv q2) fun r s' hq => ?_)
  cases r with
  | error er => exact hx σ pins H2 s2 er s' I2 hq
  | ok fl =>
    cases fl with
    | ret u => exact I2.after hq
    | next => exact False.elim hq
    | brk => exact False.elim hq
    | cont => exact False.elim hq
end
theorem pass0At {X : Cx} {E : L2.St → XK} : ∀ σ, PassesAt CX0 X σ (E σ) := fun _ _ _ _ _ _ _ h => h.elim
theorem vals_refs : ∀ {as : List Addr} {us : List Value}, Vals (as.map V.ref) us → us = as.map Value.ref
  | [], _, .nil => rfl
  | a :: as, _, .cons h r => by
    have e := vals_refs (as := as) r
    cases h
    rw [e]
    rfl
/-- a != b, two lists that hold the very same objects -/
def rNeS : R2 := fun x y H Q => ∃ (a b : Addr) (as : List Addr), x = .ref a ∧ y = .ref b ∧ H a = some (.lst (as.map V.ref)) ∧ H b = some (.lst (as.map V.ref)) ∧ Q (.bl false) H
theorem op_neS {X : Cx} (hu : X.A.units < cLine) : OpR X (compareOp .NotEq) rNeS := by
  intro pins s σ H x y v u Q I rx ry h
  obtain ⟨a, b, as, rfl, rfl, ha, hb, q⟩ := h
  cases rx
  cases ry
  obtain ⟨z, its, k, r, e⟩ := I.hok a _ ha
  obtain ⟨z2, its2, k2, r2, e2⟩ := I.hok b _ hb
  have h1 := vals_refs r
  have h2 := vals_refs r2
  subst h1
  subst h2
  have hr := SeqAt.RcNeAt.lists (A := X.A) (s := s) (l := a) (b := b) (items := (as.map Value.ref).toArray) (items2 := (as.map Value.ref).toArray) (e := fun _ => true) ⟨_, e, rfl, _, rfl⟩ ⟨_, e2, rfl, _, rfl⟩ rfl hu (fun j h1 h2 => SeqAt.EqAt.same _)
  have e3 : (!(List.range (as.map Value.ref).toArray.size).all fun _ => true) = false := by simp
  rw [e3] at hr
  show wpAny _ _ (richCompare .NotEq (.ref a) (.ref b)) _ _ _
  exact hr X.prog X.w X.xe _ ⟨.bl false, H, I, rfl, q⟩
theorem FunD.kb0 {K : PySem.W.Frag} {x qual : Str} {params : Arguments} {body : List Stmt} {scope : Scope} {f : Addr} {fd : FuncData} {ps : List Str} (F : FunD K x qual params body scope [] [] f fd) (n : Nat) (ks : List Str) (g : {α : Type} → List α → List α → List α)
    (hrel : ∀ {vs zs : List V} {us ws : List Value}, Vals vs us → Vals zs ws → Vals (g vs zs) (g us ws))
    (h : ∀ (kV doc pm : Value) (an : Option Addr) (cdv ct : Value) (us ws : List Value), us.length = n → ws.length = ks.length → bindArgs (PySem.W.fnOf x qual params body scope .none kV doc pm an cdv ct) ⟨us, ks.zip ws⟩ = pure (ps.zip (g us ws))) : KBn K fd ps n ks (fun us ws => g us ws) (fun vs zs => g vs zs) := by
  obtain ⟨oc, od, dV, kV, doc, pm, an, cdv, ct, osl, rfl, lk, hcd, hD, hK⟩ := F.ex
  rcases hD with ⟨_, rfl⟩ | ⟨e, _⟩
  · exact ⟨fun s us ws X l1 l2 => .of_eq (h kV doc pm an cdv ct us ws l1 l2), fun r1 r2 => hrel r1 r2⟩
  · exact absurd rfl e
/-! ### orders of what is handed in by name -/
def g1 {α : Type} : List α → List α → List α
  | [x], [a] => [x, a]
  | _, _ => []
def g2 {α : Type} : List α → List α → List α
  | [x], [a, b] => [x, b, a]
  | _, _ => []
def g3 {α : Type} : List α → List α → List α
  | [x], [c, n, v] => [x, n, v, c]
  | _, _ => []
def g4 {α : Type} : List α → List α → List α
  | [x], [u, d, md, mk] => [x, mk, md, d, u]
  | _, _ => []
def g5 {α : Type} : List α → List α → List α
  | [x], [b, g, c, v, n] => [x, n, v, c, g, b]
  | _, _ => []
def g5s {α : Type} : List α → List α → List α
  | [x], [b, r, w, m, s] => [x, s, w, m, r, b]
  | _, _ => []
def g3s {α : Type} : List α → List α → List α → List α
  | [x], [m0, _, b0], [r, s, w] => [x, s, w, m0, r, b0]
  | _, _, _ => []
theorem g1_rel {vs zs : List V} {us ws : List Value} (h1 : Vals vs us) (h2 : Vals zs ws) : Vals (g1 vs zs) (g1 us ws) := by
  rcases h1 with _ | ⟨a, _ | ⟨_, _⟩⟩
  · exact .nil
  · rcases h2 with _ | ⟨b, _ | ⟨_, _⟩⟩
    · exact .nil
    · exact .cons a (.cons b .nil)
    · exact .nil
  · exact .nil
theorem g2_rel {vs zs : List V} {us ws : List Value} (h1 : Vals vs us) (h2 : Vals zs ws) : Vals (g2 vs zs) (g2 us ws) := by
  rcases h1 with _ | ⟨a, _ | ⟨_, _⟩⟩
  · exact .nil
  · rcases h2 with _ | ⟨b, _ | ⟨c, _ | ⟨_, _⟩⟩⟩
    · exact .nil
    · exact .nil
    · exact .cons a (.cons c (.cons b .nil))
    · exact .nil
  · exact .nil
theorem g3_rel {vs zs : List V} {us ws : List Value} (h1 : Vals vs us) (h2 : Vals zs ws) : Vals (g3 vs zs) (g3 us ws) := by
  rcases h1 with _ | ⟨a, _ | ⟨_, _⟩⟩
  · exact .nil
  · rcases h2 with _ | ⟨b, _ | ⟨c, _ | ⟨d, _ | ⟨_, _⟩⟩⟩⟩
    · exact .nil
    · exact .nil
    · exact .nil
    · exact .cons a (.cons c (.cons d (.cons b .nil)))
    · exact .nil
  · exact .nil
theorem g4_rel {vs zs : List V} {us ws : List Value} (h1 : Vals vs us) (h2 : Vals zs ws) : Vals (g4 vs zs) (g4 us ws) := by
  rcases h1 with _ | ⟨a, _ | ⟨_, _⟩⟩
  · exact .nil
  · rcases h2 with _ | ⟨b, _ | ⟨c, _ | ⟨d, _ | ⟨e, _ | ⟨_, _⟩⟩⟩⟩⟩
    · exact .nil
    · exact .nil
    · exact .nil
    · exact .nil
    · exact .cons a (.cons e (.cons d (.cons c (.cons b .nil))))
    · exact .nil
  · exact .nil
theorem g5_rel {vs zs : List V} {us ws : List Value} (h1 : Vals vs us) (h2 : Vals zs ws) : Vals (g5 vs zs) (g5 us ws) := by
  rcases h1 with _ | ⟨a, _ | ⟨_, _⟩⟩
  · exact .nil
  · rcases h2 with _ | ⟨b, _ | ⟨c, _ | ⟨d, _ | ⟨e, _ | ⟨f, _ | ⟨_, _⟩⟩⟩⟩⟩⟩
    · exact .nil
    · exact .nil
    · exact .nil
    · exact .nil
    · exact .nil
    · exact .cons a (.cons f (.cons e (.cons d (.cons c (.cons b .nil)))))
    · exact .nil
  · exact .nil
theorem g5s_rel {vs zs : List V} {us ws : List Value} (h1 : Vals vs us) (h2 : Vals zs ws) : Vals (g5s vs zs) (g5s us ws) := by
  rcases h1 with _ | ⟨a, _ | ⟨_, _⟩⟩
  · exact .nil
  · rcases h2 with _ | ⟨b, _ | ⟨c, _ | ⟨d, _ | ⟨e, _ | ⟨f, _ | ⟨_, _⟩⟩⟩⟩⟩⟩
    · exact .nil
    · exact .nil
    · exact .nil
    · exact .nil
    · exact .nil
    · exact .cons a (.cons f (.cons d (.cons e (.cons c (.cons b .nil)))))
    · exact .nil
  · exact .nil
theorem g3s_rel {vs ds zs : List V} {us its ws : List Value} (h1 : Vals vs us) (h0 : Vals ds its) (h2 : Vals zs ws) : Vals (g3s vs ds zs) (g3s us its ws) := by
  rcases h1 with _ | ⟨a, _ | ⟨_, _⟩⟩
  · exact .nil
  · rcases h0 with _ | ⟨p, _ | ⟨q, _ | ⟨r, _ | ⟨_, _⟩⟩⟩⟩
    · exact .nil
    · exact .nil
    · exact .nil
    · rcases h2 with _ | ⟨b, _ | ⟨c, _ | ⟨d, _ | ⟨_, _⟩⟩⟩⟩
      · exact .nil
      · exact .nil
      · exact .nil
      · exact .cons a (.cons c (.cons d (.cons p (.cons b (.cons r .nil)))))
      · exact .nil
    · exact .nil
  · exact .nil
end Wm
/-! a list held against the empty list; a list of lists held against another of the same contents -/
namespace Wm
open PySem PySem.Spec PyProof.Rows L2
def rNeE : R2 := fun x y H Q => ∃ (a b : Addr) (xs : List V), x = .ref a ∧ y = .ref b ∧ H a = some (.lst xs) ∧ H b = some (.lst []) ∧ Q (.bl (!xs.isEmpty)) H
def rEqE : R2 := fun x y H Q => ∃ (a b : Addr) (xs : List V), x = .ref a ∧ y = .ref b ∧ H a = some (.lst xs) ∧ H b = some (.lst []) ∧ Q (.bl xs.isEmpty) H
theorem vals_len {xs : List V} {us : List Value} (h : Vals xs us) : us.length = xs.length := h.length.symm
theorem op_neE {X : Cx} (hu1 : X.A.units + 1 < cLine) : OpR X (compareOp .NotEq) rNeE := by
  have hu : X.A.units < cLine := by omega
  intro pins s σ H x y v u Q I rx ry h
  obtain ⟨a, b, xs, rfl, rfl, ha, hb, q⟩ := h
  cases rx
  cases ry
  obtain ⟨z, its, k, r, e⟩ := I.hok a _ ha
  obtain ⟨z2, its2, k2, r2, e2⟩ := I.hok b _ hb
  cases r2
  show wpAny _ _ (richCompare .NotEq (.ref a) (.ref b)) _ _ _
  cases xs with
  | nil =>
    cases r
    have hr := SeqAt.RcNeAt.lists (A := X.A) (s := s) (l := a) (b := b) (items := #[]) (items2 := #[]) (e := fun _ => true) ⟨_, e, rfl, _, rfl⟩ ⟨_, e2, rfl, _, rfl⟩ rfl hu (fun j h1 h2 => absurd h1 (by simp))
    exact hr X.prog X.w X.xe _ ⟨.bl false, H, I, rfl, q⟩
  | cons w ws =>
    have hr := SeqAt.RcNeAt.lists_lengths (A := X.A) (s := s) (l := a) (b := b) (items := its.toArray) (items2 := #[]) ⟨_, e, rfl, _, rfl⟩ ⟨_, e2, rfl, _, rfl⟩ (by
      have l := vals_len r
      simp at l
      simp [l]) hu
    exact hr X.prog X.w X.xe _ ⟨.bl true, H, I, rfl, q⟩
theorem op_eqE {X : Cx} (hu1 : X.A.units + 1 < cLine) : OpR X (compareOp .Eq) rEqE := by
  have hu : X.A.units < cLine := by omega
  intro pins s σ H x y v u Q I rx ry h
  obtain ⟨a, b, xs, rfl, rfl, ha, hb, q⟩ := h
  cases rx
  cases ry
  obtain ⟨z, its, k, r, e⟩ := I.hok a _ ha
  obtain ⟨z2, its2, k2, r2, e2⟩ := I.hok b _ hb
  cases r2
  show wpAny _ _ (richCompare .Eq (.ref a) (.ref b)) _ _ _
  cases xs with
  | nil =>
    cases r
    have hr := SeqAt.RcAt.lists (A := X.A) (s := s) (l := a) (b := b) (items := #[]) (items2 := #[]) (e := fun _ => true) ⟨_, e, rfl, _, rfl⟩ ⟨_, e2, rfl, _, rfl⟩ rfl hu (fun j h1 h2 => absurd h1 (by simp))
    exact hr X.prog X.w X.xe _ ⟨.bl true, H, I, rfl, q⟩
  | cons w ws =>
    have hr := SeqAt.RcAt.lists_lengths (A := X.A) (s := s) (l := a) (b := b) (items := its.toArray) (items2 := #[]) ⟨_, e, rfl, _, rfl⟩ ⟨_, e2, rfl, _, rfl⟩ (by
      have l := vals_len r
      simp at l
      simp [l]) hu
    exact hr X.prog X.w X.xe _ ⟨.bl false, H, I, rfl, q⟩
/-! ### lists of lists -/
def fltV (v : V) : Prop := (∃ z, v = .str z) ∨ ∃ a, v = .ref a
theorem eq_flat {A : Around} {s : Shared} {v : V} {u w : Value} (f : fltV v) (r1 : RelV v u) (r2 : RelV v w) : SeqAt.EqAt A s u w true := by
  rcases f with ⟨z, rfl⟩ | ⟨a, rfl⟩
  · obtain ⟨t, rfl⟩ := r1
    obtain ⟨t', rfl⟩ := r2
    have h := SeqAt.EqAt.str_str (A := A) (s := s) z t z t'
    rw [beq_self_eq_true] at h
    exact h
  · cases r1
    cases r2
    exact SeqAt.EqAt.same _
theorem vals_at : ∀ {xs : List V} {us : List Value}, Vals xs us → ∀ (j : Nat) (h1 : j < xs.length) (h2 : j < us.length), RelV xs[j] us[j]
  | _, _, .nil, j, h1, _ => absurd h1 (by simp)
  | _, _, .cons r t, 0, _, _ => r
  | _, _, .cons r t, j + 1, h1, h2 => vals_at t j (by simpa using h1) (by simpa using h2)
theorem eq_lsts {X : Cx} {pins : List (Addr × Obj)} {σ : L2.St} {H : Hp} {s : Shared} {A : Around} (I : Inv X pins σ H s) (hu : A.units < cLine) {p q : Addr} {xs : List V} (hp : H p = some (.lst xs)) (hq : H q = some (.lst xs)) (fl : ∀ v ∈ xs, fltV v) : SeqAt.EqAt A s (.ref p) (.ref q) true := by
  by_cases ne : p = q
  · rw [ne]
    exact SeqAt.EqAt.same _
  · obtain ⟨z, its, k, r, e⟩ := I.hok p _ hp
    obtain ⟨z2, its2, k2, r2, e2⟩ := I.hok q _ hq
    have l1 := vals_len r
    have l2 := vals_len r2
    have hr := SeqAt.RcAt.lists (A := A) (s := s) (l := p) (b := q) (items := its.toArray) (items2 := its2.toArray) (e := fun _ => true) ⟨_, e, rfl, _, rfl⟩ ⟨_, e2, rfl, _, rfl⟩ (by simp [l1, l2]) hu (fun j h1 h2 => by
      have h1' : j < its.length := by simpa using h1
      have h2' : j < its2.length := by simpa using h2
      have hx : j < xs.length := by omega
      have q := eq_flat (A := A.in1) (s := s) (fl _ (List.getElem_mem hx)) (vals_at r j hx h1') (vals_at r2 j hx h2')
      simpa using q)
    have e3 : ((List.range its.toArray.size).all fun _ => true) = true := by simp
    rw [e3] at hr
    exact SeqAt.EqAt.of_refs ne hr
def rNeLL : R2 := fun x y H Q => ∃ (a b : Addr) (as bs : List Addr), x = .ref a ∧ y = .ref b ∧ H a = some (.lst (as.map V.ref)) ∧ H b = some (.lst (bs.map V.ref)) ∧ as.length = bs.length ∧ (∀ (i : Nat) (p q : Addr), as[i]? = some p → bs[i]? = some q → ∃ xs, H p = some (.lst xs) ∧ H q = some (.lst xs) ∧ ∀ v ∈ xs, fltV v) ∧ Q (.bl false) H
theorem op_neLL {X : Cx} (hu : X.A.units + 1 < cLine) : OpR X (compareOp .NotEq) rNeLL := by
  intro pins s σ H x y v u Q I rx ry h
  obtain ⟨a, b, as, bs, rfl, rfl, ha, hb, hl, hi, q⟩ := h
  cases rx
  cases ry
  obtain ⟨z, its, k, r, e⟩ := I.hok a _ ha
  obtain ⟨z2, its2, k2, r2, e2⟩ := I.hok b _ hb
  have h1 := vals_refs r
  have h2 := vals_refs r2
  subst h1
  subst h2
  have hr := SeqAt.RcNeAt.lists (A := X.A) (s := s) (l := a) (b := b) (items := (as.map Value.ref).toArray) (items2 := (bs.map Value.ref).toArray) (e := fun _ => true) ⟨_, e, rfl, _, rfl⟩ ⟨_, e2, rfl, _, rfl⟩ (by simp [hl]) (by omega) (fun j h1 h2 => by
    have h1' : j < as.length := by simpa using h1
    have h2' : j < bs.length := by simpa using h2
    obtain ⟨xs, hp, hq, fl⟩ := hi j as[j] bs[j] (List.getElem?_eq_getElem h1') (List.getElem?_eq_getElem h2')
    have q := eq_lsts (A := X.A.in1) I (by show X.A.units + 1 < cLine; exact hu) hp hq fl
    simpa using q)
  have e3 : (!(List.range (as.map Value.ref).toArray.size).all fun _ => true) = false := by simp
  rw [e3] at hr
  show wpAny _ _ (richCompare .NotEq (.ref a) (.ref b)) _ _ _
  exact hr X.prog X.w X.xe _ ⟨.bl false, H, I, rfl, q⟩
end Wm
/-! two lists of the same flat contents -/
namespace Wm
open PySem PySem.Spec PyProof.Rows L2
def rNeF : R2 := fun x y H Q => ∃ (a b : Addr) (xs : List V), x = .ref a ∧ y = .ref b ∧ H a = some (.lst xs) ∧ H b = some (.lst xs) ∧ (∀ v ∈ xs, fltV v) ∧ Q (.bl false) H
theorem op_neF {X : Cx} (hu1 : X.A.units + 1 < cLine) : OpR X (compareOp .NotEq) rNeF := by
  have hu : X.A.units < cLine := by omega
  intro pins s σ H x y v u Q I rx ry h
  obtain ⟨a, b, xs, rfl, rfl, ha, hb, fl, q⟩ := h
  cases rx
  cases ry
  obtain ⟨z, its, k, r, e⟩ := I.hok a _ ha
  obtain ⟨z2, its2, k2, r2, e2⟩ := I.hok b _ hb
  have l1 := vals_len r
  have l2 := vals_len r2
  have hr := SeqAt.RcNeAt.lists (A := X.A) (s := s) (l := a) (b := b) (items := its.toArray) (items2 := its2.toArray) (e := fun _ => true) ⟨_, e, rfl, _, rfl⟩ ⟨_, e2, rfl, _, rfl⟩ (by simp [l1, l2]) hu (fun j h1 h2 => by
    have h1' : j < its.length := by simpa using h1
    have h2' : j < its2.length := by simpa using h2
    have hx : j < xs.length := by omega
    have q := eq_flat (A := X.A.in1) (s := s) (fl _ (List.getElem_mem hx)) (vals_at r j hx h1') (vals_at r2 j hx h2')
    simpa using q)
  have e3 : (!(List.range its.toArray.size).all fun _ => true) = false := by simp
  rw [e3] at hr
  show wpAny _ _ (richCompare .NotEq (.ref a) (.ref b)) _ _ _
  exact hr X.prog X.w X.xe _ ⟨.bl false, H, I, rfl, q⟩
end Wm
namespace Wm
open PySem L2 StX
def spCel (K : PySem.W.Frag) : Sp := fun vs H Q _ => ∃ (a : Addr) (ns : List Int) (j : Nat), vs = [.ref a, .int j] ∧ SqL K H a (ns.map V.int) ∧ ∀ i : Int, Q (.int i) H
def spLaw (K : PySem.W.Frag) : Sp := fun vs H Q _ => ∃ (a : Addr) (ns : List Int), vs = [.ref a] ∧ SqL K H a (ns.map V.int) ∧ ns.length ≤ 63 ∧ ∀ H', Q (.bl true) H'
/-! ### answers as data -/
theorem eqv_self {d : PyData} (h : SeqAt.shaped d = true) : PyData.eqv d d = true := SeqAt.eqv_refl d (SeqAt.canLay_of_shaped h)
theorem strOk_of {z : Str} (h : okS z) : PyData.strOk z = true := by
  unfold PyData.strOk
  rw [Array.all_eq_true_iff_forall_mem]
  intro c hc
  exact decide_eq_true (h c (by simpa using hc))
def rowD (r : List Str) : PyData := .tuple (r.map PyData.str)
def ansD : Ans → PyData
  | .bad b1 b2 z => .tuple [.str "refused", .list [.bool b1, .bool b2], .str z]
  | .rows rs => .tuple [.str "told", .list (rs.map rowD)]
theorem dp_strs {K : PySem.W.Frag} {H : Hp} : ∀ zs : List Str, DpAll K H (zs.map V.str) (zs.map PyData.str)
  | [] => .nil
  | z :: r => .cons (.str z) (dp_strs r)
theorem dp_rowsS {K : PySem.W.Frag} {H : Hp} : ∀ {qs : List Addr} {rs : List (List Str)}, RowsAt K H qs (rs.map rowV) → DpAll K H (qs.map V.ref) (rs.map rowD)
  | [], [], _ => .nil
  | _ :: _, r :: _, h => .cons (.tup h.1 (dp_strs r)) (dp_rowsS h.2)
  | [], _ :: _, h => h.elim
  | _ :: _, [], h => h.elim
theorem AnsAt.dp {K : PySem.W.Frag} {H : Hp} {t l : Addr} {a : Ans} (h : AnsAt K H t l a) : Dp K H (.ref t) (ansD a) := by
  cases a with
  | bad b1 b2 z => exact .tup (SqT.of h.1) (.cons (.str _) (.cons (.lst (SqL.of h.2) (.cons (.bl _) (.cons (.bl _) .nil))) (.cons (.str _) .nil)))
  | rows rs =>
    obtain ⟨qs, h1, h2, h3⟩ := h
    exact .tup (SqT.of h1) (.cons (.str _) (.cons (.lst (SqL.of h2) (dp_rowsS h3)) .nil))
theorem AnsAt.put {K : PySem.W.Frag} {H : Hp} {t l D : Addr} {a : Ans} {xs : List V} {o : HO} (hD : H D = some (.lst xs)) (n : l ≠ D) (h : AnsAt K H t l a) : AnsAt K (upd H D o) t l a := by
  cases a with
  | bad b1 b2 z => exact ⟨(upd_ne (ne_of h.1 hD (by intro z; cases z))).trans h.1, (upd_ne n).trans h.2⟩
  | rows rs =>
    obtain ⟨qs, h1, h2, h3⟩ := h
    exact ⟨qs, (upd_ne (ne_of h1 hD (by intro z; cases z))).trans h1, (upd_ne n).trans h2, rows_put hD h3⟩
def AnsOk : Ans → Prop
  | .bad _ _ z => okS z
  | .rows rs => ∀ r ∈ rs, ∀ z ∈ r, okS z
theorem strs_sh : ∀ {zs : List Str}, (∀ z ∈ zs, okS z) → PyData.canLayAll0 (zs.map PyData.str) = true ∧ PyData.depthAll (zs.map PyData.str) ≤ 1
  | [], _ => by simp [PyData.canLayAll0, PyData.depthAll]
  | z :: r, h => by
    obtain ⟨a, b⟩ := strs_sh (zs := r) fun y hy => h y (List.mem_cons_of_mem _ hy)
    have s := strOk_of (h z List.mem_cons_self)
    refine ⟨by simp [PyData.canLayAll0, PyData.canLay0, s, a], ?_⟩
    simp only [List.map_cons, PyData.depthAll, PyData.depth]
    omega
theorem rowsS_sh : ∀ {rs : List (List Str)}, (∀ r ∈ rs, ∀ z ∈ r, okS z) → PyData.canLayAll0 (rs.map rowD) = true ∧ PyData.depthAll (rs.map rowD) ≤ 2
  | [], _ => by simp [PyData.canLayAll0, PyData.depthAll]
  | r :: rs, h => by
    obtain ⟨a, b⟩ := strs_sh (h r List.mem_cons_self)
    obtain ⟨h2, h3⟩ := rowsS_sh (rs := rs) fun y hy => h y (List.mem_cons_of_mem _ hy)
    have e : (rowD r).canLay0 = true := by simp [rowD, PyData.canLay0, a]
    have d : (rowD r).depth ≤ 2 := by
      simp only [rowD, PyData.depth]
      omega
    refine ⟨by simp only [List.map_cons, PyData.canLayAll0, e, h2, Bool.and_self], ?_⟩
    simp only [List.map_cons, PyData.depthAll]
    omega
theorem okS_rf : okS ("refused" : Str) := by
  unfold okS
  decide +kernel
theorem okS_to : okS ("told" : Str) := by
  unfold okS
  decide +kernel
theorem ans_sh {a : Ans} (h : AnsOk a) : SeqAt.shaped (ansD a) = true := by
  cases a with
  | bad b1 b2 z =>
    have s1 := strOk_of okS_rf
    have s2 := strOk_of (show okS z from h)
    simp [ansD, SeqAt.shaped, PyData.canLay0, PyData.canLayAll0, PyData.depth, PyData.depthAll, s1, s2]
  | rows rs =>
    have s1 := strOk_of okS_to
    obtain ⟨a, b⟩ := rowsS_sh (show ∀ r ∈ rs, ∀ z ∈ r, okS z from h)
    show SeqAt.shaped (.tuple [.str "told", .list (rs.map rowD)]) = true
    generalize rs.map rowD = X at a b
    simp [SeqAt.shaped, PyData.canLay0, PyData.canLayAll0, PyData.depth, PyData.depthAll, s1, a]
    omega
theorem cart_mem : ∀ {fs : List (List Str)} {r : List Str} {z : Str}, r ∈ cart fs → z ∈ r → ∃ f ∈ fs, z ∈ f
  | [], r, z, h, hz => by
    have e : r = [] := by simpa [cart] using h
    rw [e] at hz
    cases hz
  | f :: fs, r, z, h, hz => by
    obtain ⟨e, he, h⟩ := List.mem_flatMap.mp (show r ∈ f.flatMap fun e => (cart fs).map fun r => e :: r from h)
    obtain ⟨q, hq, rfl⟩ := List.mem_map.mp h
    rcases List.mem_cons.mp hz with rfl | hz
    · exact ⟨f, List.mem_cons_self, he⟩
    · obtain ⟨g, hg, hzg⟩ := cart_mem hq hz
      exact ⟨g, List.mem_cons_of_mem _ hg, hzg⟩
theorem ansOk_of {ss ws ss' ws' : List Str} {r : RlD} (rk : RuleOk ss' ws' r) (h1 : ∀ z ∈ ss, okS z) (h2 : ∀ z ∈ ss', okS z) (h3 : ∀ z ∈ ws', okS z) : AnsOk (ansOf ss ws r) := by
  unfold ansOf
  cases ho : oddS ss r.p.vars with
  | some z =>
    have q := List.mem_of_find?_eq_some (show (r.p.vars.filterMap (fun v => v.2)).find? _ = some z from ho)
    obtain ⟨v, hv, e⟩ := List.mem_filterMap.mp q
    exact h2 z (rk.vs v hv z e)
  | none =>
    show AnsOk (match oddW ws (r.p.cs ++ [r.g]) with | some z => _ | none => _)
    cases hw : oddW ws (r.p.cs ++ [r.g]) with
    | some z =>
      have q := List.mem_of_find?_eq_some (show ((r.p.cs ++ [r.g]).map (fun t => t.2.1)).find? _ = some z from hw)
      obtain ⟨t, ht, rfl⟩ := List.mem_map.mp q
      rcases List.mem_append.mp ht with ht | ht
      · exact h3 _ (rk.cw t ht)
      · rw [List.mem_singleton.mp ht]
        exact h3 _ rk.gw
    | none =>
      intro row hr z hz
      obtain ⟨f, hf, hzf⟩ := cart_mem hr hz
      obtain ⟨v, hv, rfl⟩ := List.mem_map.mp hf
      unfold freeS at hzf
      split at hzf
      · exact h1 z hzf
      · rename_i y e
        rw [List.mem_singleton.mp hzf]
        exact h2 y (rk.vs v hv y e)
theorem texts_of {ss ws : List Str} {r : RlD} (rk : RuleOk ss ws r) (hn : isNm r.p.nm = true ∧ r.p.nm.length ≤ 12) (h1 : ∀ z ∈ ss, isNm z = true ∧ z.length ≤ 12) (h2 : ∀ z ∈ ws, isNm z = true ∧ z.length ≤ 12) : ∀ z ∈ textsL r.p.nm r.p.vars (r.p.cs ++ [r.g]), isNm z = true ∧ z.length ≤ 12 := fun z hz => by
  unfold textsL at hz
  rcases List.mem_append.mp hz with hz | hz
  · rcases List.mem_cons.mp hz with rfl | hz
    · exact hn
    · obtain ⟨v, hv, hz⟩ := List.mem_flatMap.mp hz
      unfold varT at hz
      rcases List.mem_cons.mp hz with rfl | hz
      · exact ⟨(rk.vn v hv).1, (rk.vn v hv).2.1⟩
      · exact h1 z (rk.vs v hv z (Option.mem_toList.mp hz))
  · obtain ⟨t, ht, rfl⟩ := List.mem_map.mp hz
    rcases List.mem_append.mp ht with ht | ht
    · exact h2 _ (rk.cw t ht)
    · rw [List.mem_singleton.mp ht]
      exact h2 _ rk.gw
theorem rep_strs {k : Nat} {z : Str} : (List.replicate k [V.str z]).flatten = (List.replicate k z).map V.str := by
  induction k with
  | zero => rfl
  | succ n ih =>
    rw [List.replicate_succ, List.flatten_cons, ih]
    rfl
theorem cut_ints {ns : List Int} {lo hi : Option Int} {x : V} (h : x ∈ cutV (ns.map V.int) lo hi) : ∃ i, x = .int i := by
  unfold cutV at h
  obtain ⟨i, _, rfl⟩ := List.mem_map.mp (List.mem_of_mem_drop (List.mem_of_mem_take h))
  exact ⟨i, rfl⟩
section
variable {P : Program} {w : World} {K : PySem.W.Frag} {mg : Str → Option Value} {base : Heap}
theorem scCel : FnScope ["_law_script", "_law_k"] ["_law_script", "_law_k"] (defScope sCel) := ⟨rfl, rfl, rfl, by decide +kernel, rfl, by decide +kernel, by decide +kernel⟩
theorem ok_cel {f : Addr} {fd : FuncData} (F : Fun K "_law_cell_at" "_law_cell_at" sCel f fd) (T : TxB mg) : FnOk P w K mg base CX0 1 f fd ["_law_script", "_law_k"] (spCel K) := by
  refine F.ok scCel (fun vs H Q E h => ?_) (fun cdv A outer s H vs Q E hr h => ?_)
  · obtain ⟨a, ns, j, rfl, _⟩ := h
    rfl
  · obtain ⟨a, ns, j, rfl, hS, k⟩ := h
    refine ⟨_, (pss_cons (ps_if (pt_cmpR op_lt (pv 1) (pe_callB call_len_seq (by rfl) T.len (by decide +kernel) (pa_cons (pv 0) pa_nil)) (nomark _)) (pss_one (ps_ret (pe_ix ix_list (pv 0) (pv 1) (fun _ _ => rfl)))) pss_nil)
      (pss_one (ps_ret pe_int))), ?_⟩
    refine ⟨_, rfl, _, rfl, a, _, rfl, .inl hS, _, _, rfl, rfl, _, rfl, ite2 (fun h => ?_) (fun h => ?_)⟩
    · have h1 := of_decide_eq_true h
      rw [List.length_map] at h1
      have hj : j < ns.length := by omega
      refine ⟨_, rfl, _, rfl, a, _, _, .int ns[j], rfl, rfl, hS, atI_nat (j := j) ?_, k _⟩
      rw [List.getElem?_map, List.getElem?_eq_getElem hj]
      rfl
    · exact k 0
theorem scLaw : FnScope ["_law_script", "_law_cell", "_law_well_here", "_law_odd", "_law_names_here", "_law_sorts", "_law_words", "_law_strange", "_law_some", "_law_rule", "_law_scheme", "_law_made", "_law_due_here", "_law_told"] ["_law_script"] (defScope sLaw) := ⟨rfl, rfl, rfl, by decide +kernel, rfl, by decide +kernel, by decide +kernel⟩
theorem ok_law {f fC fW fG fNm fN fA fMr fDu fSa S fS RB fSo fWo : Addr} {fd dC dW dG dNm dN dA dMr dDu dSa dSc dSo dWo : FuncData} (F : Fun K "law" "law" sLaw f fd) (T : TxB mg) (tl : mg "list" = none) (TC : TxSch K mg S fS)
    (DC : Dn K mg "_law_cell_at" sCel ["_law_script", "_law_k"] fC dC) (DW : Dn K mg "_law_well" sWel ["_law_cell"] fW dW) (DG : Dn K mg "_law_draw" sDrw ["_law_well_here", "_law_many"] fG dG)
    (DNm : Dn K mg "_law_name" sNam ["_law_well_here", "_law_taken"] fNm dNm) (GNm : FnOk P w K mg base CX0 3 fNm dNm ["_law_well_here", "_law_taken"] (spNam K))
    (DN : Dn K mg "_law_names" sNms ["_law_well_here", "_law_many"] fN dN) (GN : FnOk P w K mg base CX0 4 fN dN ["_law_well_here", "_law_many"] (spNms K))
    (DA : Dn K mg "_law_any_rule" sAny ["_law_well_here", "_law_name_here", "_law_sorts", "_law_words", "_law_most"] fA dA) (GA : FnOk P w K mg base CX0 5 fA dA ["_law_well_here", "_law_name_here", "_law_sorts", "_law_words", "_law_most"] (spAny K))
    (DMr : Dn K mg "_law_made_rule" sMdR ["_law_rule"] fMr dMr) (GMr : FnOk P w K mg base CX0 8 fMr dMr ["_law_rule"] (spMdR K RB))
    (DDu : Dn K mg "_law_due" sDue ["_law_sorts", "_law_words", "_law_rule"] fDu dDu) (GDu : FnOk P w K mg base CX0 1 fDu dDu ["_law_sorts", "_law_words", "_law_rule"] (spDue K))
    (DSa : Dn K mg "_law_said" sSai ["_law_scheme", "_law_rule"] fSa dSa) (GSa : FnOk P w K mg base CX0 6 fSa dSa ["_law_scheme", "_law_rule"] (spSai K S RB))
    (bSc : Binds K dSc ["self", "sorts", "words", "makings", "rules", "bars"] [.none, .none, .none]) (GSc : FnOk P w K mg base CX0 4 fS dSc ["self", "sorts", "words", "makings", "rules", "bars"] (spSch K S))
    (mSo : Meth K S "sorts" fSo) (bSo : Binds K dSo ["self"] []) (GSo : FnOk P w K mg base CX0 1 fSo dSo ["self"] (spSor S)) (mWo : Meth K S "words" fWo) (bWo : Binds K dWo ["self"] []) (GWo : FnOk P w K mg base CX0 1 fWo dWo ["self"] (spWor S)) :
    FnOk P w K mg base CX0 9 f fd ["_law_script"] (spLaw K) := by
  have GC : FnOk P w K mg base CX0 1 fC dC _ (spCel K) := ok_cel DC.F T
  have GW : FnOk P w K mg base CX0 1 fW dW _ spWel := ok_wel DW.F T
  have GG : FnOk P w K mg base CX0 1 fG dG _ spDrw := ok_drw DG.F
  refine F.ok scLaw (fun vs H Q E h => ?_) (fun cdv A outer s H vs Q E hr h => ?_)
  · obtain ⟨a, ns, rfl, _⟩ := h
    rfl
  · obtain ⟨a, ns, rfl, hA, hlen, kk⟩ := h
    have hr1 : Room 1 _ := hr.mono (by decide)
    have hr3 : Room 3 _ := hr.mono (by decide)
    have hr4 : Room 4 _ := hr.mono (by decide)
    have hr5 : Room 5 _ := hr.mono (by decide)
    have hr6 : Room 6 _ := hr.mono (by decide)
    have hr8 : Room 8 _ := hr
    have hu := hu_of hr
    refine ⟨_, (pss_cons (ps_for PassesOwn.never rfl (pi_list (pe_op op_cat (pe_lst (pa_cons (pe_call GC hr1 rfl DC.g DC.F.kp DC.b .nil pass0 (pa_cons (pv 0) (pa_cons pe_int pa_nil))) pa_nil)) (pe_slice sl_list (pv 0) (po_some pe_int) (po_some pe_int)))) (pg_name (i := 1) scLaw.nd rfl (Or.inl rfl)) (pss_cons (ps_set (i := 2) scLaw.nd rfl (Or.inl rfl) (pe_call GW hr1 rfl DW.g DW.F.kp DW.b .nil pass0 (pa_cons (pv 1) pa_nil)))
      (pss_cons (ps_set (i := 3) scLaw.nd rfl (Or.inl rfl) (pe_ix ix_list (pe_lst (pa_cons pe_int (pa_cons pe_int (pa_cons pe_int (pa_cons pe_int (pa_cons pe_int (pa_cons pe_int (pa_cons pe_int (pa_cons pe_int (pa_cons pe_int pa_nil)))))))))) (pe_call GG hr1 rfl DG.g DG.F.kp DG.b .nil pass0 (pa_cons (pv 2) (pa_cons pe_int pa_nil))) (fun _ _ => rfl)))
      (pss_cons (ps_set (i := 4) scLaw.nd rfl (Or.inl rfl) (pe_call GN hr4 rfl DN.g DN.F.kp DN.b .nil pass0 (pa_cons (pv 2) (pa_cons (pe_op op_add (pe_op op_add pe_int (pe_call GG hr1 rfl DG.g DG.F.kp DG.b .nil pass0 (pa_cons (pv 2) (pa_cons pe_int pa_nil)))) pe_int) pa_nil))))
      (pss_cons (ps_set (i := 5) scLaw.nd rfl (Or.inl rfl) (pe_slice sl_list (pv 4) (po_some pe_int) po_none))
      (pss_cons (ps_set (i := 6) scLaw.nd rfl (Or.inl rfl) (pe_call GN hr4 rfl DN.g DN.F.kp DN.b .nil pass0 (pa_cons (pv 2) (pa_cons (pe_op op_add pe_int (pe_call GG hr1 rfl DG.g DG.F.kp DG.b .nil pass0 (pa_cons (pv 2) (pa_cons pe_int pa_nil)))) pa_nil))))
      (pss_cons (ps_set (i := 7) scLaw.nd rfl (Or.inl rfl) (pe_call GNm hr3 rfl DNm.g DNm.F.kp DNm.b .nil pass0 (pa_cons (pv 2) (pa_cons (pe_op op_cat (pv 5) (pv 6)) pa_nil))))
      (pss_cons (ps_set (i := 8) scLaw.nd rfl (Or.inl rfl) (pe_op op_cat (pv 5) (pe_op op_rep (pe_lst (pa_cons (pv 7) pa_nil)) (pe_op op_mod (pv 3) pe_int))))
      (pss_cons (ps_set (i := 9) scLaw.nd rfl (Or.inl rfl) (pe_call GA hr5 rfl DA.g DA.F.kp DA.b .nil pass0 (pa_cons (pv 2) (pa_cons (pe_ix ix_list (pv 4) pe_int (fun _ _ => rfl)) (pa_cons (pv 8) (pa_cons (pe_op op_cat (pv 6) (pe_op op_rep (pe_lst (pa_cons (pv 7) pa_nil)) (pe_op op_fdiv (pv 3) pe_int))) (pa_cons pe_int pa_nil)))))))
      (pss_cons (ps_set (i := 10) scLaw.nd rfl (Or.inl rfl) (pe_make (dvs := [.non, .non, .non]) TC.m GSc hr5 rfl TC.g bSc (.cons rfl (.cons rfl (.cons rfl .nil))) pass0 (pa_cons (pe_callTy call_list_of (by rfl) tl (by decide +kernel) (pa_cons (pv 5) pa_nil)) (pa_cons (pe_callTy call_list_of (by rfl) tl (by decide +kernel) (pa_cons (pv 6) pa_nil)) pa_nil))))
      (pss_cons (ps_set (i := 11) scLaw.nd rfl (Or.inl rfl) (pe_call GMr hr8 rfl DMr.g DMr.F.kp DMr.b .nil pass0 (pa_cons (pv 9) pa_nil)))
      (pss_cons (ps_set (i := 12) scLaw.nd rfl (Or.inl rfl) (pe_call GDu hr1 rfl DDu.g DDu.F.kp DDu.b .nil pass0 (pa_cons (pv 5) (pa_cons (pv 6) (pa_cons (pv 9) pa_nil)))))
      (pss_cons (ps_set (i := 13) scLaw.nd rfl (Or.inl rfl) (pe_call GSa hr6 rfl DSa.g DSa.F.kp DSa.b .nil pass0 (pa_cons (pv 10) (pa_cons (pv 11) pa_nil))))
      (pss_cons (ps_if (pt_cmpR (op_neD hr.units) (pv 13) (pv 12) (nomark _)) (pss_one (ps_ret pe_bl)) pss_nil)
      (pss_cons (ps_if (pt_cmpR op_eq (pe_ix ix_tup (pv 13) pe_int (fun _ _ => rfl)) pe_str (nomark _)) (pss_one (ps_expr (pe_bm PySem.F.plainAttrs_list PySem.F.slot_list_append PySem.F.type_list_append mt_append (pe_ix ix_tup (pv 13) pe_int (fun _ _ => rfl)) (pa_cons (pe_tup pa_nil) pa_nil)))) pss_nil)
      (pss_one (ps_if (PW.pt (pw_or (pt_cmpR (op_neD hr.units) (pe_call GSa hr6 rfl DSa.g DSa.F.kp DSa.b .nil pass0 (pa_cons (pv 10) (pa_cons (pv 11) pa_nil))) (pv 12) (nomark _)) (pw_or (pt_cmpR (op_neF hu) (pe_meth0 (pv 10) TC.cl mSo GSo hr1 bSo .nil pass0) (pv 5) (nomark _)) (pw_or1 (pt_cmpR (op_neF hu) (pe_meth0 (pv 10) TC.cl mWo GWo hr1 bWo .nil pass0) (pv 6) (nomark _)))))) (pss_one (ps_ret pe_bl)) pss_nil)))))))))))))))))
      (pss_one (ps_ret pe_bl))), ?_⟩
    refine ⟨_, rfl, a, ns, 0, rfl, hA, fun ci => ⟨by show 1 ≤ sizeLine; decide, fun l1 hl1 => ?_⟩⟩
    have T1 : Same H (upd H l1 (.lst [.int ci])) := Same.upd hl1
    have e1 : (upd H l1 (.lst [.int ci])) l1 = some (.lst [.int ci]) := upd_same
    generalize upd H l1 (.lst [.int ci]) = H1 at T1 e1
    refine ⟨_, rfl, _, rfl, _, rfl, a, _, rfl, T1.seq hA, fun l2 hl2 => ?_⟩
    have T2 : Same H1 (upd H1 l2 (.lst (cutV (ns.map V.int) (some 1) (some 10)))) := Same.upd hl2
    have e2 : (upd H1 l2 (.lst (cutV (ns.map V.int) (some 1) (some 10)))) l2 = some (.lst (cutV (ns.map V.int) (some 1) (some 10))) := upd_same
    generalize upd H1 l2 (.lst (cutV (ns.map V.int) (some 1) (some 10))) = H2 at T2 e2
    have cl : (cutV (ns.map V.int) (some 1) (some 10)).length ≤ 63 := by
      unfold cutV
      rw [List.length_take, List.length_drop, List.length_map]
      omega
    refine ⟨l1, l2, _, _, rfl, rfl, T2 _ _ e1, e2, Nat.le_trans (show _ ≤ 1000 by show 1 + _ ≤ 1000; omega) (by decide), fun L hL => ?_⟩
    have T3 : Same H2 (upd H2 L (.lst ([.int ci] ++ cutV (ns.map V.int) (some 1) (some 10)))) := Same.upd hL
    have e3 : (upd H2 L (.lst ([.int ci] ++ cutV (ns.map V.int) (some 1) (some 10)))) L = some (.lst ([.int ci] ++ cutV (ns.map V.int) (some 1) (some 10))) := upd_same
    generalize upd H2 L (.lst ([.int ci] ++ cutV (ns.map V.int) (some 1) (some 10))) = H3 at T3 e3
    refine ⟨L, rfl, ⟨_, SqL.of e3⟩, for_list (K := K) (a := L) (xs := [.int ci] ++ cutV (ns.map V.int) (some 1) (some 10)) (fun i σ H' => Same H3 H' ∧ ∃ u1 u2 u3 u4 u5 u6 u7 u8 u9 u10 u11 u12 u13, σ = [some (.ref a), u1, u2, u3, u4, u5, u6, u7, u8, u9, u10, u11, u12, u13]) ⟨Same.refl _, _, _, _, _, _, _, _, _, _, _, _, _, _, rfl⟩ (fun i σ H' _ h => SqL.of (h.1 _ _ e3)) ?_ ?_⟩
    · rintro i v σ H4 hv ⟨S4, u1, u2, u3, u4, u5, u6, u7, u8, u9, u10, u11, u12, u13, rfl⟩
      obtain ⟨ci, rfl⟩ : ∃ i, v = .int i := by
        rcases List.mem_append.mp (List.mem_of_getElem? hv) with q | q
        · exact ⟨_, List.mem_singleton.mp q⟩
        · exact cut_ints q
      dsimp only [gName, List.set_cons_succ, List.set_cons_zero]
      refine ⟨_, rfl, ci, rfl, fun p H5 hp S5 st5 => ?_⟩
      dsimp only [gName, List.set_cons_succ, List.set_cons_zero]
      refine ⟨by show 9 ≤ sizeLine; decide, fun l hl => ?_⟩
      have nlp := st_free st5.ok hl
      refine ⟨_, rfl, p, 9, 0, rfl, st5.upd nlp, by decide, by decide, by decide, fun d H6 d0 d1 B6 st6 => ?_⟩
      have hl6 := B6 l _ nlp upd_same
      have SA6 : Same H4 H6 := fun b o e => B6 b o (ne_of_none e hp) ((Same.upd hl) _ _ (S5 _ _ e))
      obtain ⟨od, hod, o3⟩ : ∃ od : Nat, [V.int 0, .int 0, .int 0, .int 0, .int 0, .int 0, .int 1, .int 2, .int 3][d.toNat]? = some (.int (od : Int)) ∧ od ≤ 3 := by
        rcases (by omega : d = 0 ∨ d = 1 ∨ d = 2 ∨ d = 3 ∨ d = 4 ∨ d = 5 ∨ d = 6 ∨ d = 7 ∨ d = 8) with rfl | rfl | rfl | rfl | rfl | rfl | rfl | rfl | rfl
        · exact ⟨0, rfl, by decide⟩
        · exact ⟨0, rfl, by decide⟩
        · exact ⟨0, rfl, by decide⟩
        · exact ⟨0, rfl, by decide⟩
        · exact ⟨0, rfl, by decide⟩
        · exact ⟨0, rfl, by decide⟩
        · exact ⟨1, rfl, by decide⟩
        · exact ⟨2, rfl, by decide⟩
        · exact ⟨3, rfl, by decide⟩
      refine rdList hl6 (j := d.toNat) (by omega) hod ?_
      dsimp only [gName, List.set_cons_succ, List.set_cons_zero]
      refine ⟨_, rfl, _, rfl, p, 4, 1, rfl, st6, by decide, by decide, by decide, fun d2 H7 d20 d21 B7 st7 => ⟨_, _, rfl, rfl, _, _, rfl, rfl, p, 1 + d2 + 1, 2, rfl, st7, by decide, by omega, by omega, fun nsl nl H8 nl0 nlp' B8 st8 hnl nlen nnd nnm => ?_⟩⟩
      dsimp only [gName, List.set_cons_succ, List.set_cons_zero]
      have SA8 : Same H4 H8 := fun b o e => B8 b o (ne_of_none e hp) (B7 b o (ne_of_none e hp) (SA6 b o e))
      have st8 : StN 102 H8 p := st8.mono (by omega)
      obtain ⟨nm0, ss, rfl⟩ : ∃ a b, nsl = a :: b := by
        cases nsl with
        | nil => simp at nlen; omega
        | cons a b => exact ⟨a, b, rfl⟩
      have sl1 : 1 ≤ ss.length := by rw [List.length_cons] at nlen; omega
      have sl4 : ss.length ≤ 4 := by rw [List.length_cons] at nlen; omega
      have snd : ss.Nodup := (List.nodup_cons.mp nnd).2
      have snm : ∀ z ∈ ss, NmP z ∧ z.length ≤ 12 := fun z hz => nnm z (List.mem_cons_of_mem _ hz)
      refine ⟨_, rfl, _, rfl, nl, _, rfl, SqL.of hnl, fun ls hls0 => ?_⟩
      rw [show cutV ((nm0 :: ss).map V.str) (some 1) none = ss.map V.str by rw [show (1 : Int) = ((1 : Nat) : Int) from rfl, cut_drop]; rfl]
      dsimp only [gName, List.set_cons_succ, List.set_cons_zero]
      have T9 : Same H8 (upd H8 ls (.lst (ss.map V.str))) := Same.upd hls0
      have hls : (upd H8 ls (.lst (ss.map V.str))) ls = some (.lst (ss.map V.str)) := upd_same
      generalize upd H8 ls (.lst (ss.map V.str)) = H9 at T9 hls
      have st9 := st8.same T9
      have SA9 := SA8.trans T9
      have hnl9 := T9 _ _ hnl
      refine ⟨_, rfl, _, rfl, p, 5, 102, rfl, st9, by decide, by decide, by decide, fun d3 H10 d30 d31 B10 st10 => ⟨_, _, rfl, rfl, p, 1 + d3, 103, rfl, st10, by decide, by omega, by omega, fun ws lw H11 lw0 lwp B11 st11 hlw wlen wnd wnm => ?_⟩⟩
      dsimp only [gName, List.set_cons_succ, List.set_cons_zero]
      have SA11 : Same H4 H11 := fun b o e => B11 b o (ne_of_none e hp) (B10 b o (ne_of_none e hp) (SA9 b o e))
      have k11 : Kp H9 H11 := (B10.kp st9.ok).trans (B11.kp st10.ok)
      have st11 : StN 203 H11 p := st11.mono (by omega)
      have wl1 : 1 ≤ ws.length := by omega
      have wl5 : ws.length ≤ 5 := by omega
      have hls11 := k11 _ _ ns_strs hls
      have hnl11 := k11 _ _ ns_strs hnl9
      -- a strange name
      refine ⟨_, rfl, _, rfl, _, rfl, ls, lw, _, _, rfl, rfl, hls11, hlw, Nat.le_trans (show _ ≤ 1000 by rw [List.length_map, List.length_map]; omega) (by decide), fun l3 hl3 => ?_⟩
      rw [← List.map_append]
      have T12 : Same H11 (upd H11 l3 (.lst ((ss ++ ws).map V.str))) := Same.upd hl3
      have e12 : (upd H11 l3 (.lst ((ss ++ ws).map V.str))) l3 = some (.lst ((ss ++ ws).map V.str)) := upd_same
      generalize upd H11 l3 (.lst ((ss ++ ws).map V.str)) = H12 at T12 e12
      have st12 := st11.same T12
      refine ⟨p, l3, ss ++ ws, 203, rfl, st12, by decide, st_strs st12 e12, e12, by rw [List.length_append]; omega, fun zz H13 hzz hzl hzn B13 st13 => ?_⟩
      dsimp only [gName, List.set_cons_succ, List.set_cons_zero]
      have SA13 : Same H4 H13 := fun b o e => B13 b o (ne_of_none e hp) ((SA11.trans T12) b o e)
      have k13 : Kp H11 H13 := (Same.kp T12).trans (B13.kp st12.ok)
      have hls13 := k13 _ _ ns_strs hls11
      have hlw13 := k13 _ _ ns_strs hlw
      have hnl13 := k13 _ _ ns_strs hnl11
      -- the sorts that the rule may have
      refine ⟨_, rfl, _, rfl, by show 1 ≤ sizeLine; decide, fun l4 hl4 => ?_⟩
      have T14 : Same H13 (upd H13 l4 (.lst [.str zz])) := Same.upd hl4
      have e14 : (upd H13 l4 (.lst [.str zz])) l4 = some (.lst [.str zz]) := upd_same
      generalize upd H13 l4 (.lst [.str zz]) = H14 at T14 e14
      have m0 : 0 ≤ (od : Int) % 2 := Int.emod_nonneg _ (by decide)
      have m1 : (od : Int) % 2 < 2 := Int.emod_lt_of_pos _ (by decide)
      refine ⟨_, rfl, _, _, rfl, rfl, (by show (0 : Int) < 2; decide), l4, _, _, rfl, rfl, e14, by omega, by omega, Nat.le_trans (show _ ≤ 1000 by show 1 * _ ≤ 1000; omega) (by decide), fun l5 hl5 => ?_⟩
      rw [rep_strs]
      generalize hk1 : ((od : Int) % 2).toNat = k1
      have k11' : k1 ≤ 1 := by omega
      have T15 : Same H14 (upd H14 l5 (.lst ((List.replicate k1 zz).map V.str))) := Same.upd hl5
      have e15 : (upd H14 l5 (.lst ((List.replicate k1 zz).map V.str))) l5 = some (.lst ((List.replicate k1 zz).map V.str)) := upd_same
      generalize upd H14 l5 (.lst ((List.replicate k1 zz).map V.str)) = H15 at T15 e15
      have T1315 := T14.trans T15
      refine ⟨ls, l5, _, _, rfl, rfl, T1315 _ _ hls13, e15, Nat.le_trans (show _ ≤ 1000 by rw [List.length_map, List.length_map, List.length_replicate]; omega) (by decide), fun l6 hl6 => ?_⟩
      rw [← List.map_append]
      dsimp only [gName, List.set_cons_succ, List.set_cons_zero]
      have T16 : Same H15 (upd H15 l6 (.lst ((ss ++ List.replicate k1 zz).map V.str))) := Same.upd hl6
      have e16 : (upd H15 l6 (.lst ((ss ++ List.replicate k1 zz).map V.str))) l6 = some (.lst ((ss ++ List.replicate k1 zz).map V.str)) := upd_same
      generalize upd H15 l6 (.lst ((ss ++ List.replicate k1 zz).map V.str)) = H16 at T16 e16
      have T1316 := T1315.trans T16
      have hnl16 := T1316 _ _ hnl13
      -- the rule
      refine ⟨_, rfl, _, rfl, nl, _, 0, _, rfl, rfl, SqL.of hnl16, atI_nat (j := 0) rfl, _, rfl, _, rfl, _, rfl, by show 1 ≤ sizeLine; decide, fun l7 hl7 => ?_⟩
      have T17 : Same H16 (upd H16 l7 (.lst [.str zz])) := Same.upd hl7
      have e17 : (upd H16 l7 (.lst [.str zz])) l7 = some (.lst [.str zz]) := upd_same
      generalize upd H16 l7 (.lst [.str zz]) = H17 at T17 e17
      have q0 : 0 ≤ (od : Int) / 2 := Int.ediv_nonneg (by omega) (by decide)
      have q1' : (od : Int) / 2 ≤ 1 := by omega
      refine ⟨_, rfl, _, _, rfl, rfl, ⟨by decide, by decide⟩, l7, _, _, rfl, rfl, e17, by omega, by omega, Nat.le_trans (show _ ≤ 1000 by show 1 * _ ≤ 1000; omega) (by decide), fun l8 hl8 => ?_⟩
      rw [rep_strs]
      generalize hk2 : ((od : Int) / 2).toNat = k2
      have k21 : k2 ≤ 1 := by omega
      have T18 : Same H17 (upd H17 l8 (.lst ((List.replicate k2 zz).map V.str))) := Same.upd hl8
      have e18 : (upd H17 l8 (.lst ((List.replicate k2 zz).map V.str))) l8 = some (.lst ((List.replicate k2 zz).map V.str)) := upd_same
      generalize upd H17 l8 (.lst ((List.replicate k2 zz).map V.str)) = H18 at T18 e18
      have T1318 := T1316.trans (T17.trans T18)
      refine ⟨lw, l8, _, _, rfl, rfl, T1318 _ _ hlw13, e18, Nat.le_trans (show _ ≤ 1000 by rw [List.length_map, List.length_map, List.length_replicate]; omega) (by decide), fun l9 hl9 => ?_⟩
      rw [← List.map_append]
      have T19 : Same H18 (upd H18 l9 (.lst ((ws ++ List.replicate k2 zz).map V.str))) := Same.upd hl9
      have e19 : (upd H18 l9 (.lst ((ws ++ List.replicate k2 zz).map V.str))) l9 = some (.lst ((ws ++ List.replicate k2 zz).map V.str)) := upd_same
      generalize upd H18 l9 (.lst ((ws ++ List.replicate k2 zz).map V.str)) = H19 at T19 e19
      have T1319 := T1318.trans T19
      have st19 := st13.same T1319
      have e1619 := (T17.trans T18).trans T19
      have srep : ∀ {k : Nat} {zs : List Str}, (∀ z ∈ zs, NmP z ∧ z.length ≤ 12) → ∀ z ∈ zs ++ List.replicate k zz, NmP z ∧ z.length ≤ 12 := fun {k zs} h z hz => by
        rcases List.mem_append.mp hz with q | q
        · exact h z q
        · rw [(List.mem_replicate.mp q).2]
          exact ⟨hzz, hzl⟩
      have sok := srep (k := k1) snm
      have wok := srep (k := k2) wnm
      refine ⟨p, l6, l9, nm0, ss ++ List.replicate k1 zz, ws ++ List.replicate k2 zz, 3, 223, rfl, st19, by decide, e1619 _ _ e16, e19, by rw [List.length_append]; omega, by rw [List.length_append, List.length_replicate]; omega, by rw [List.length_append, List.length_replicate]; omega, by decide, by decide, fun t r H20 er rok t0 B20 st20 hmr => ?_⟩
      dsimp only [gName, List.set_cons_succ, List.set_cons_zero]
      have SA20 : Same H4 H20 := fun b o e => B20 b o (ne_of_none e hp) ((SA13.trans T1319) b o e)
      have k20 : Kp H13 H20 := (Same.kp T1319).trans (B20.kp st19.ok)
      have hls20 := k20 _ _ ns_strs hls13
      have hlw20 := k20 _ _ ns_strs hlw13
      generalize ss ++ List.replicate k1 zz = ss' at rok sok
      generalize ws ++ List.replicate k2 zz = ws' at rok wok
      have isn : ∀ {zs : List Str}, (∀ z ∈ zs, NmP z ∧ z.length ≤ 12) → ∀ z ∈ zs, isNm z = true ∧ z.length ≤ 12 := fun h z hz => ⟨nm_is (h z hz).1 (h z hz).2, (h z hz).2⟩
      have v4 : r.p.vars.length ≤ 4 := rok.pt.v4
      have c3 : r.p.cs.length ≤ 3 := rok.pt.c3
      -- the scheme
      refine ⟨_, rfl, ls, _, rfl, .inl (SqL.of hls20), fun la hla => ?_⟩
      have T21 : Same H20 (upd H20 la (.lst (ss.map V.str))) := Same.upd hla
      have e21 : (upd H20 la (.lst (ss.map V.str))) la = some (.lst (ss.map V.str)) := upd_same
      generalize upd H20 la (.lst (ss.map V.str)) = H21 at T21 e21
      refine ⟨_, rfl, lw, _, rfl, .inl (SqL.of (T21 _ _ hlw20)), fun lb hlb => ?_⟩
      have T22 : Same H21 (upd H21 lb (.lst (ws.map V.str))) := Same.upd hlb
      have e22 : (upd H21 lb (.lst (ws.map V.str))) lb = some (.lst (ws.map V.str)) := upd_same
      generalize upd H21 lb (.lst (ws.map V.str)) = H22 at T22 e22
      intro x dx nx ndx ne
      refine ⟨H22, x, dx, la, lb, ss, ws, rfl, same_make nx ndx, nx, upd_same, SqL.of (T22 _ _ e21), SqL.of e22, ⟨isn snm, snd⟩, ⟨isn wnm, wnd⟩, sl1, sl4, wl1, wl5, fun H23 S23 hsch => ⟨rfl, ?_⟩⟩
      dsimp only [gName, List.set_cons_succ, List.set_cons_zero]
      have S2023 := (T21.trans T22).trans S23
      refine ⟨_, rfl, t, r, rfl, hmr.kp (Same.kp S2023), rok.pt, texts_of rok (by rw [er]; exact isn nnm nm0 List.mem_cons_self) (isn sok) (isn wok), fun xr H24 xr0 S24 hat => ?_⟩
      dsimp only [gName, List.set_cons_succ, List.set_cons_zero]
      have S2024 := S2023.trans S24
      refine ⟨_, rfl, _, rfl, _, rfl, ls, lw, t, ss, ws, r, rfl, S2024 _ _ hls20, S2024 _ _ hlw20, hmr.kp (Same.kp S2024), snd, sl4, sl1, v4, c3, fun td ld H25 td0 ld0 S25 ad => ?_⟩
      dsimp only [gName, List.set_cons_succ, List.set_cons_zero]
      have hat25 := hat.same S25
      have hsch25 := hsch.same (S24.trans S25)
      have S2025 := S2024.trans S25
      have aok := ansOk_of (ws := ws) rok (fun z hz => (snm z hz).1.ok) (fun z hz => (sok z hz).1.ok) (fun z hz => (wok z hz).1.ok)
      have sh := ans_sh aok
      refine ⟨_, rfl, _, rfl, x, xr, ss, ws, r, rfl, hsch25, hat25, v4, c3, sl4, sl1, fun tt lt H26 tt0 lt0 S26 at_ => ?_⟩
      dsimp only [gName, List.set_cons_succ, List.set_cons_zero]
      refine ⟨_, rfl, _, rfl, _, _, at_.dp, (ad.same S26).dp, sh, sh, _, rfl, ?_⟩
      rw [eqv_self sh]
      refine iteF ?_
      have nld : ld ≠ lt := fun q => by
        cases ha : ansOf ss ws r with
        | bad b1 b2 z =>
          rw [ha] at ad
          obtain ⟨_, h2⟩ := ad
          rw [q, lt0] at h2
          cases h2
        | rows rs =>
          rw [ha] at ad
          obtain ⟨qs, _, h2, _⟩ := ad
          rw [q, lt0] at h2
          cases h2
      dsimp only [tNext]
      refine cut1 (fun σ' H' => σ' = [some (.ref a), some (.int ci), some (.ref p), some (.int (od : Int)), some (.ref nl), some (.ref ls), some (.ref lw), some (.str zz), some (.ref l6), some (.ref t), some (.ref x), some (.ref xr), some (.ref td), some (.ref tt)] ∧ Same H25 H' ∧ AnsAt K H' td ld (ansOf ss ws r)) ?_ (fun R' fin => ?_)
      · rintro σ' H27 ⟨rfl, S27, ad27⟩
        refine ⟨_, rfl, _, rfl, x, xr, ss, ws, r, rfl, hsch25.same S27, hat25.same S27, v4, c3, sl4, sl1, fun t2 l2' H28 t20 l20 S28 at2 => ?_⟩
        refine ⟨_, rfl, _, _, at2.dp, (ad27.same S28).dp, sh, sh, _, rfl, ?_⟩
        rw [eqv_self sh]
        refine iteF ?_
        have S2528 := S27.trans S28
        obtain ⟨dx', q1, q2, q3, q4, q5, h0, h1, h2⟩ := hsch25.ex
        refine ⟨_, rfl, x, dx', _, rfl, S2528 _ _ h0, schF_no (by decide +kernel) (by decide +kernel) (by decide +kernel) (by decide +kernel) (by decide +kernel) _ _ _ _ _, x, ss, ws, rfl, hsch25.same S2528, fun m1' hm1 => ?_⟩
        have T29 : Same H28 (upd H28 m1' (.lst (ss.map V.str))) := Same.upd hm1
        have e29 : (upd H28 m1' (.lst (ss.map V.str))) m1' = some (.lst (ss.map V.str)) := upd_same
        generalize upd H28 m1' (.lst (ss.map V.str)) = H29 at T29 e29
        have S2529 := S2528.trans T29
        have fst_ : ∀ (zs : List Str), ∀ v ∈ zs.map V.str, fltV v := fun zs v hv => by
          obtain ⟨z, _, rfl⟩ := List.mem_map.mp hv
          exact .inl ⟨z, rfl⟩
        refine ⟨_, rfl, m1', ls, _, rfl, rfl, e29, S2529 _ _ (S2025 _ _ hls20), fst_ _, _, rfl, iteF ?_⟩
        refine ⟨_, rfl, x, dx', _, rfl, S2529 _ _ h0, schF_no (by decide +kernel) (by decide +kernel) (by decide +kernel) (by decide +kernel) (by decide +kernel) _ _ _ _ _, x, ss, ws, rfl, hsch25.same S2529, fun m2 hm2 => ?_⟩
        have T30 : Same H29 (upd H29 m2 (.lst (ws.map V.str))) := Same.upd hm2
        refine ⟨_, rfl, m2, lw, _, rfl, rfl, upd_same, T30 _ _ (S2529 _ _ (S2025 _ _ hlw20)), fst_ _, _, rfl, iteF ?_⟩
        exact ⟨S4.trans (SA20.trans (S2025.trans (S2529.trans T30))), _, _, _, _, _, _, _, _, _, _, _, _, _, rfl⟩
      · cases ha : ansOf ss ws r with
        | bad b1 b2 z =>
          rw [ha] at at_ ad fin
          refine ⟨_, rfl, tt, _, 0, _, rfl, rfl, SqT.of at_.1, atI_nat (j := 0) rfl, rfl, _, rfl, ite2 (fun q => absurd q (by decide +kernel)) (fun _ => ?_)⟩
          exact fin _ _ ⟨rfl, S26, ad.same S26⟩
        | rows rs =>
          rw [ha] at at_ ad fin
          obtain ⟨qs, h1, h2, h3⟩ := at_
          have rl := h3.len
          have rsl : rs.length ≤ 256 := by
            have e : rs = cart (r.p.vars.map (freeS ss)) := by
              unfold ansOf at ha
              split at ha
              · cases ha
              · split at ha
                · cases ha
                · cases ha
                  rfl
            rw [e]
            have q := cart_len (fs := r.p.vars.map (freeS ss)) fun g hg => by
              obtain ⟨y, _, rfl⟩ := List.mem_map.mp hg
              exact free_len sl4 sl1 y
            rw [List.length_map] at q
            have q4 : 4 ^ r.p.vars.length ≤ 4 ^ 4 := Nat.pow_le_pow_right (by decide) v4
            omega
          rw [List.length_map] at rl
          refine ⟨_, rfl, tt, _, 0, _, rfl, rfl, SqT.of h1, atI_nat (j := 0) rfl, rfl, _, rfl, ite2 (fun _ => ?_) (fun q => absurd (show decide (V.str ("told" : Str) = V.str "told") = true by decide +kernel) q)⟩
          refine ⟨_, rfl, tt, _, 1, _, rfl, rfl, SqT.of h1, atI_nat (j := 1) rfl, .inl ⟨rfl, _, SqL.of h2⟩, Nat.zero_le _, fun te hte => ?_⟩
          have T27 : Same H26 (upd H26 te (.tup [])) := Same.upd hte
          have h27 := T27 _ _ h2
          generalize upd H26 te (.tup []) = H27 at T27 h27
          refine ⟨lt, _, _, rfl, rfl, h27, Nat.lt_of_le_of_lt (show _ ≤ 1000 by rw [List.length_map]; omega) (by decide), ?_⟩
          refine fin _ _ ⟨rfl, fun b o e => ?_, (ad.same (S26.trans T27)).put h27 nld⟩
          rw [upd_ne (ne_of_none e lt0)]
          exact T27 _ _ (S26 _ _ e)
    · rintro σ H4 ⟨S4, u1, u2, u3, u4, u5, u6, u7, u8, u9, u10, u11, u12, u13, rfl⟩
      exact kk H4
end
end Wm
namespace Wm
open PySem L2 He ClX StX
theorem errB_ok {K : PySem.W.Frag} {mg : Str → Option Value} {x f : Str} {C fI : Addr} (h : errB K C fI f = true) (g : mg x = some (.ref C)) : ErrT K mg x f C fI ∧ XfC K C ∧ ExcC K C ∧ PySem.W.exmOne K (.ref C) (.ref C) = some true := by
  unfold errB at h
  obtain ⟨h1, h⟩ := ba h
  obtain ⟨h2, h⟩ := ba h
  obtain ⟨h3, h⟩ := ba h
  obtain ⟨h4, h⟩ := ba h
  obtain ⟨h5, h⟩ := ba h
  obtain ⟨h6, h⟩ := ba h
  obtain ⟨h7, h⟩ := ba h
  obtain ⟨h8, h⟩ := ba h
  obtain ⟨h9, h⟩ := ba h
  obtain ⟨h10, h⟩ := ba h
  obtain ⟨h11, h⟩ := ba h
  obtain ⟨h12, h⟩ := ba h
  obtain ⟨h13, h⟩ := ba h
  obtain ⟨h14, h⟩ := ba h
  obtain ⟨h15, h⟩ := ba h
  obtain ⟨h16, h17⟩ := ba h
  exact ⟨⟨⟨excB_ok h14, eqO_ok h1, of_decide_eq_true h2, of_decide_eq_true h3, h4⟩, g, eqO_ok h13, of_decide_eq_true h5, eqO_ok h6, eqO_ok h7⟩, ⟨eqO_ok h8, eqO_ok h9, of_decide_eq_true h2, h10⟩,
    ⟨eqO_ok h8, eqO_ok h9, of_decide_eq_true h2, h10, eqO_ok h11, eqO_ok h16, of_decide_eq_true h17, of_decide_eq_true h12⟩, of_decide_eq_true h15⟩
theorem facts {P : Program} {w : World} {K : PySem.W.Frag} {h : Heap} {mg : Str → Option Value} {fa : Addr} (X : K.In h) (G : h.Ns mainGlobals mg) (hfa : mg "law" = some (.ref fa)) (c : SaysM ck fnL K) :
    ∃ fd : FuncData, (∀ (s : Shared) (v : Value), BindsTo s fd ⟨[v], []⟩ [("_law_script", v)]) ∧ ∀ base : Heap, K.In base → base.Ns mainGlobals mg → FnOk P w K mg base CX0 9 fa fd ["_law_script"] (spLaw K) := by
  have q := c.says
  unfold ck at q
  obtain ⟨qf, q⟩ := ba q
  obtain ⟨qw, q⟩ := ba q
  obtain ⟨qe0, q⟩ := ba q
  obtain ⟨qe1, q⟩ := ba q
  obtain ⟨qe2, q⟩ := ba q
  obtain ⟨x1, q⟩ := ba q
  obtain ⟨x2, q⟩ := ba q
  obtain ⟨k1, q⟩ := ba q
  obtain ⟨k2, q⟩ := ba q
  obtain ⟨k3, q⟩ := ba q
  have ft : ∀ (i : Nat) {f : Fa}, factL[i]? = some f → f.ok K = true := fun i {f} e => List.all_eq_true.mp qf f (List.mem_of_getElem? e)
  have g_WhoError := glo_ok X G (ft 0 (f := .glo "WhoError") rfl)
  have g_NoName := glo_ok X G (ft 1 (f := .glo "NoName") rfl)
  have g_NoSort := glo_ok X G (ft 2 (f := .glo "NoSort") rfl)
  have g_NoWord := glo_ok X G (ft 3 (f := .glo "NoWord") rfl)
  have g_is_name := glo_ok X G (ft 4 (f := .glo "is_name") rfl)
  obtain ⟨fd_is_name, Fk_is_name⟩ := c.def_ 0 (d := d_is_name) rfl
  have Fk_is_name : FunD K "is_name" "is_name" (defArgs sName) (defBody sName) (defScope sName) [] [] (ga K "is_name") fd_is_name := Fk_is_name
  have F_is_name : Fun K "is_name" "is_name" sName (ga K "is_name") fd_is_name := fun_of Fk_is_name
  have D_is_name : Dn K mg "is_name" sName ["text"] (ga K "is_name") fd_is_name := ⟨F_is_name, g_is_name, F_is_name.binds (ps := ["text"]) fun _ _ _ _ _ _ us hl => match us, hl with | [_], _ => rfl⟩
  have g_refuse_no_name := glo_ok X G (ft 5 (f := .glo "refuse_no_name") rfl)
  obtain ⟨fd_refuse_no_name, Fk_refuse_no_name⟩ := c.def_ 1 (d := d_refuse_no_name) rfl
  have Fk_refuse_no_name : FunD K "refuse_no_name" "refuse_no_name" (defArgs sRN) (defBody sRN) (defScope sRN) [] [] (ga K "refuse_no_name") fd_refuse_no_name := Fk_refuse_no_name
  have F_refuse_no_name : Fun K "refuse_no_name" "refuse_no_name" sRN (ga K "refuse_no_name") fd_refuse_no_name := fun_of Fk_refuse_no_name
  have D_refuse_no_name : Dn K mg "refuse_no_name" sRN ["texts"] (ga K "refuse_no_name") fd_refuse_no_name := ⟨F_refuse_no_name, g_refuse_no_name, F_refuse_no_name.binds (ps := ["texts"]) fun _ _ _ _ _ _ us hl => match us, hl with | [_], _ => rfl⟩
  have g_first_twice := glo_ok X G (ft 6 (f := .glo "first_twice") rfl)
  obtain ⟨fd_first_twice, Fk_first_twice⟩ := c.def_ 2 (d := d_first_twice) rfl
  have Fk_first_twice : FunD K "first_twice" "first_twice" (defArgs sFT) (defBody sFT) (defScope sFT) [] [] (ga K "first_twice") fd_first_twice := Fk_first_twice
  have F_first_twice : Fun K "first_twice" "first_twice" sFT (ga K "first_twice") fd_first_twice := fun_of Fk_first_twice
  have D_first_twice : Dn K mg "first_twice" sFT ["row"] (ga K "first_twice") fd_first_twice := ⟨F_first_twice, g_first_twice, F_first_twice.binds (ps := ["row"]) fun _ _ _ _ _ _ us hl => match us, hl with | [_], _ => rfl⟩
  have g_refuse_twice := glo_ok X G (ft 7 (f := .glo "refuse_twice") rfl)
  obtain ⟨fd_refuse_twice, Fk_refuse_twice⟩ := c.def_ 3 (d := d_refuse_twice) rfl
  have Fk_refuse_twice : FunD K "refuse_twice" "refuse_twice" (defArgs sRT) (defBody sRT) (defScope sRT) [] [] (ga K "refuse_twice") fd_refuse_twice := Fk_refuse_twice
  have F_refuse_twice : Fun K "refuse_twice" "refuse_twice" sRT (ga K "refuse_twice") fd_refuse_twice := fun_of Fk_refuse_twice
  have D_refuse_twice : Dn K mg "refuse_twice" sRT ["names"] (ga K "refuse_twice") fd_refuse_twice := ⟨F_refuse_twice, g_refuse_twice, F_refuse_twice.binds (ps := ["names"]) fun _ _ _ _ _ _ us hl => match us, hl with | [_], _ => rfl⟩
  have g_refuse_count := glo_ok X G (ft 8 (f := .glo "refuse_count") rfl)
  obtain ⟨fd_refuse_count, Fk_refuse_count⟩ := c.def_ 4 (d := d_refuse_count) rfl
  have Fk_refuse_count : FunD K "refuse_count" "refuse_count" (defArgs sRC) (defBody sRC) (defScope sRC) [] [] (ga K "refuse_count") fd_refuse_count := Fk_refuse_count
  have F_refuse_count : Fun K "refuse_count" "refuse_count" sRC (ga K "refuse_count") fd_refuse_count := fun_of Fk_refuse_count
  have D_refuse_count : Dn K mg "refuse_count" sRC ["what", "count", "least", "most"] (ga K "refuse_count") fd_refuse_count := ⟨F_refuse_count, g_refuse_count, F_refuse_count.binds (ps := ["what", "count", "least", "most"]) fun _ _ _ _ _ _ us hl => match us, hl with | [_, _, _, _], _ => rfl⟩
  have g_own_list := glo_ok X G (ft 9 (f := .glo "own_list") rfl)
  obtain ⟨fd_own_list, Fk_own_list⟩ := c.def_ 5 (d := d_own_list) rfl
  have Fk_own_list : FunD K "own_list" "own_list" (defArgs sOL) (defBody sOL) (defScope sOL) [] [] (ga K "own_list") fd_own_list := Fk_own_list
  have F_own_list : Fun K "own_list" "own_list" sOL (ga K "own_list") fd_own_list := fun_of Fk_own_list
  have D_own_list : Dn K mg "own_list" sOL ["rows"] (ga K "own_list") fd_own_list := ⟨F_own_list, g_own_list, F_own_list.binds (ps := ["rows"]) fun _ _ _ _ _ _ us hl => match us, hl with | [_], _ => rfl⟩
  have g_refuse_makings_twice := glo_ok X G (ft 10 (f := .glo "refuse_makings_twice") rfl)
  obtain ⟨fd_refuse_makings_twice, Fk_refuse_makings_twice⟩ := c.def_ 6 (d := d_refuse_makings_twice) rfl
  have Fk_refuse_makings_twice : FunD K "refuse_makings_twice" "refuse_makings_twice" (defArgs sRMT) (defBody sRMT) (defScope sRMT) [] [] (ga K "refuse_makings_twice") fd_refuse_makings_twice := Fk_refuse_makings_twice
  have F_refuse_makings_twice : Fun K "refuse_makings_twice" "refuse_makings_twice" sRMT (ga K "refuse_makings_twice") fd_refuse_makings_twice := fun_of Fk_refuse_makings_twice
  have D_refuse_makings_twice : Dn K mg "refuse_makings_twice" sRMT ["makings"] (ga K "refuse_makings_twice") fd_refuse_makings_twice := ⟨F_refuse_makings_twice, g_refuse_makings_twice, F_refuse_makings_twice.binds (ps := ["makings"]) fun _ _ _ _ _ _ us hl => match us, hl with | [_], _ => rfl⟩
  have g_refuse_no_sort := glo_ok X G (ft 11 (f := .glo "refuse_no_sort") rfl)
  obtain ⟨fd_refuse_no_sort, Fk_refuse_no_sort⟩ := c.def_ 7 (d := d_refuse_no_sort) rfl
  have Fk_refuse_no_sort : FunD K "refuse_no_sort" "refuse_no_sort" (defArgs sRNS) (defBody sRNS) (defScope sRNS) [] [] (ga K "refuse_no_sort") fd_refuse_no_sort := Fk_refuse_no_sort
  have F_refuse_no_sort : Fun K "refuse_no_sort" "refuse_no_sort" sRNS (ga K "refuse_no_sort") fd_refuse_no_sort := fun_of Fk_refuse_no_sort
  have D_refuse_no_sort : Dn K mg "refuse_no_sort" sRNS ["sorts", "makings", "patterns"] (ga K "refuse_no_sort") fd_refuse_no_sort := ⟨F_refuse_no_sort, g_refuse_no_sort, F_refuse_no_sort.binds (ps := ["sorts", "makings", "patterns"]) fun _ _ _ _ _ _ us hl => match us, hl with | [_, _, _], _ => rfl⟩
  have g_refuse_upward := glo_ok X G (ft 12 (f := .glo "refuse_upward") rfl)
  obtain ⟨fd_refuse_upward, Fk_refuse_upward⟩ := c.def_ 8 (d := d_refuse_upward) rfl
  have Fk_refuse_upward : FunD K "refuse_upward" "refuse_upward" (defArgs sRU) (defBody sRU) (defScope sRU) [] [] (ga K "refuse_upward") fd_refuse_upward := Fk_refuse_upward
  have F_refuse_upward : Fun K "refuse_upward" "refuse_upward" sRU (ga K "refuse_upward") fd_refuse_upward := fun_of Fk_refuse_upward
  have D_refuse_upward : Dn K mg "refuse_upward" sRU ["sorts", "makings"] (ga K "refuse_upward") fd_refuse_upward := ⟨F_refuse_upward, g_refuse_upward, F_refuse_upward.binds (ps := ["sorts", "makings"]) fun _ _ _ _ _ _ us hl => match us, hl with | [_, _], _ => rfl⟩
  have g_refuse_no_word := glo_ok X G (ft 13 (f := .glo "refuse_no_word") rfl)
  obtain ⟨fd_refuse_no_word, Fk_refuse_no_word⟩ := c.def_ 9 (d := d_refuse_no_word) rfl
  have Fk_refuse_no_word : FunD K "refuse_no_word" "refuse_no_word" (defArgs sRNW) (defBody sRNW) (defScope sRNW) [] [] (ga K "refuse_no_word") fd_refuse_no_word := Fk_refuse_no_word
  have F_refuse_no_word : Fun K "refuse_no_word" "refuse_no_word" sRNW (ga K "refuse_no_word") fd_refuse_no_word := fun_of Fk_refuse_no_word
  have D_refuse_no_word : Dn K mg "refuse_no_word" sRNW ["words", "makings", "rules", "bars"] (ga K "refuse_no_word") fd_refuse_no_word := ⟨F_refuse_no_word, g_refuse_no_word, F_refuse_no_word.binds (ps := ["words", "makings", "rules", "bars"]) fun _ _ _ _ _ _ us hl => match us, hl with | [_, _, _, _], _ => rfl⟩
  have g_check_scheme := glo_ok X G (ft 14 (f := .glo "check_scheme") rfl)
  obtain ⟨fd_check_scheme, Fk_check_scheme⟩ := c.def_ 10 (d := d_check_scheme) rfl
  have Fk_check_scheme : FunD K "check_scheme" "check_scheme" (defArgs sCS) (defBody sCS) (defScope sCS) [] [] (ga K "check_scheme") fd_check_scheme := Fk_check_scheme
  have F_check_scheme : Fun K "check_scheme" "check_scheme" sCS (ga K "check_scheme") fd_check_scheme := fun_of Fk_check_scheme
  have D_check_scheme : Dn K mg "check_scheme" sCS ["sorts", "words", "makings", "rules", "bars"] (ga K "check_scheme") fd_check_scheme := ⟨F_check_scheme, g_check_scheme, F_check_scheme.binds (ps := ["sorts", "words", "makings", "rules", "bars"]) fun _ _ _ _ _ _ us hl => match us, hl with | [_, _, _, _, _], _ => rfl⟩
  have g_tuple_of_tuples := glo_ok X G (ft 15 (f := .glo "tuple_of_tuples") rfl)
  obtain ⟨fd_tuple_of_tuples, Fk_tuple_of_tuples⟩ := c.def_ 11 (d := d_tuple_of_tuples) rfl
  have Fk_tuple_of_tuples : FunD K "tuple_of_tuples" "tuple_of_tuples" (defArgs sTT) (defBody sTT) (defScope sTT) [] [] (ga K "tuple_of_tuples") fd_tuple_of_tuples := Fk_tuple_of_tuples
  have F_tuple_of_tuples : Fun K "tuple_of_tuples" "tuple_of_tuples" sTT (ga K "tuple_of_tuples") fd_tuple_of_tuples := fun_of Fk_tuple_of_tuples
  have D_tuple_of_tuples : Dn K mg "tuple_of_tuples" sTT ["rows"] (ga K "tuple_of_tuples") fd_tuple_of_tuples := ⟨F_tuple_of_tuples, g_tuple_of_tuples, F_tuple_of_tuples.binds (ps := ["rows"]) fun _ _ _ _ _ _ us hl => match us, hl with | [_], _ => rfl⟩
  have g_ends_of := glo_ok X G (ft 16 (f := .glo "ends_of") rfl)
  obtain ⟨fd_ends_of, Fk_ends_of⟩ := c.def_ 12 (d := d_ends_of) rfl
  have Fk_ends_of : FunD K "ends_of" "ends_of" (defArgs sEO) (defBody sEO) (defScope sEO) [] [] (ga K "ends_of") fd_ends_of := Fk_ends_of
  have F_ends_of : Fun K "ends_of" "ends_of" sEO (ga K "ends_of") fd_ends_of := fun_of Fk_ends_of
  have D_ends_of : Dn K mg "ends_of" sEO ["triples"] (ga K "ends_of") fd_ends_of := ⟨F_ends_of, g_ends_of, F_ends_of.binds (ps := ["triples"]) fun _ _ _ _ _ _ us hl => match us, hl with | [_], _ => rfl⟩
  have g_texts_of_pattern := glo_ok X G (ft 17 (f := .glo "texts_of_pattern") rfl)
  obtain ⟨fd_texts_of_pattern, Fk_texts_of_pattern⟩ := c.def_ 13 (d := d_texts_of_pattern) rfl
  have Fk_texts_of_pattern : FunD K "texts_of_pattern" "texts_of_pattern" (defArgs sTP) (defBody sTP) (defScope sTP) [] [] (ga K "texts_of_pattern") fd_texts_of_pattern := Fk_texts_of_pattern
  have F_texts_of_pattern : Fun K "texts_of_pattern" "texts_of_pattern" sTP (ga K "texts_of_pattern") fd_texts_of_pattern := fun_of Fk_texts_of_pattern
  have D_texts_of_pattern : Dn K mg "texts_of_pattern" sTP ["name", "variables", "triples"] (ga K "texts_of_pattern") fd_texts_of_pattern := ⟨F_texts_of_pattern, g_texts_of_pattern, F_texts_of_pattern.binds (ps := ["name", "variables", "triples"]) fun _ _ _ _ _ _ us hl => match us, hl with | [_, _, _], _ => rfl⟩
  have g_refuse_no_variable := glo_ok X G (ft 18 (f := .glo "refuse_no_variable") rfl)
  obtain ⟨fd_refuse_no_variable, Fk_refuse_no_variable⟩ := c.def_ 14 (d := d_refuse_no_variable) rfl
  have Fk_refuse_no_variable : FunD K "refuse_no_variable" "refuse_no_variable" (defArgs sRV) (defBody sRV) (defScope sRV) [] [] (ga K "refuse_no_variable") fd_refuse_no_variable := Fk_refuse_no_variable
  have F_refuse_no_variable : Fun K "refuse_no_variable" "refuse_no_variable" sRV (ga K "refuse_no_variable") fd_refuse_no_variable := fun_of Fk_refuse_no_variable
  have D_refuse_no_variable : Dn K mg "refuse_no_variable" sRV ["names", "texts"] (ga K "refuse_no_variable") fd_refuse_no_variable := ⟨F_refuse_no_variable, g_refuse_no_variable, F_refuse_no_variable.binds (ps := ["names", "texts"]) fun _ _ _ _ _ _ us hl => match us, hl with | [_, _], _ => rfl⟩
  have g_refuse_loose := glo_ok X G (ft 19 (f := .glo "refuse_loose") rfl)
  obtain ⟨fd_refuse_loose, Fk_refuse_loose⟩ := c.def_ 15 (d := d_refuse_loose) rfl
  have Fk_refuse_loose : FunD K "refuse_loose" "refuse_loose" (defArgs sRL) (defBody sRL) (defScope sRL) [] [] (ga K "refuse_loose") fd_refuse_loose := Fk_refuse_loose
  have F_refuse_loose : Fun K "refuse_loose" "refuse_loose" sRL (ga K "refuse_loose") fd_refuse_loose := fun_of Fk_refuse_loose
  have D_refuse_loose : Dn K mg "refuse_loose" sRL ["names", "conditions"] (ga K "refuse_loose") fd_refuse_loose := ⟨F_refuse_loose, g_refuse_loose, F_refuse_loose.binds (ps := ["names", "conditions"]) fun _ _ _ _ _ _ us hl => match us, hl with | [_, _], _ => rfl⟩
  have g_refuse_apart := glo_ok X G (ft 20 (f := .glo "refuse_apart") rfl)
  obtain ⟨fd_refuse_apart, Fk_refuse_apart⟩ := c.def_ 16 (d := d_refuse_apart) rfl
  have Fk_refuse_apart : FunD K "refuse_apart" "refuse_apart" (defArgs sRA) (defBody sRA) (defScope sRA) [] [] (ga K "refuse_apart") fd_refuse_apart := Fk_refuse_apart
  have F_refuse_apart : Fun K "refuse_apart" "refuse_apart" sRA (ga K "refuse_apart") fd_refuse_apart := fun_of Fk_refuse_apart
  have D_refuse_apart : Dn K mg "refuse_apart" sRA ["conditions"] (ga K "refuse_apart") fd_refuse_apart := ⟨F_refuse_apart, g_refuse_apart, F_refuse_apart.binds (ps := ["conditions"]) fun _ _ _ _ _ _ us hl => match us, hl with | [_], _ => rfl⟩
  have g_check_pattern := glo_ok X G (ft 21 (f := .glo "check_pattern") rfl)
  obtain ⟨fd_check_pattern, Fk_check_pattern⟩ := c.def_ 17 (d := d_check_pattern) rfl
  have Fk_check_pattern : FunD K "check_pattern" "check_pattern" (defArgs sCP) (defBody sCP) (defScope sCP) [] [] (ga K "check_pattern") fd_check_pattern := Fk_check_pattern
  have F_check_pattern : Fun K "check_pattern" "check_pattern" sCP (ga K "check_pattern") fd_check_pattern := fun_of Fk_check_pattern
  have D_check_pattern : Dn K mg "check_pattern" sCP ["name", "variables", "conditions", "given", "hands"] (ga K "check_pattern") fd_check_pattern := ⟨F_check_pattern, g_check_pattern, F_check_pattern.binds (ps := ["name", "variables", "conditions", "given", "hands"]) fun _ _ _ _ _ _ us hl => match us, hl with | [_, _, _, _, _], _ => rfl⟩
  have g_refuse_strange_rule := glo_ok X G (ft 22 (f := .glo "refuse_strange_rule") rfl)
  obtain ⟨fd_refuse_strange_rule, Fk_refuse_strange_rule⟩ := c.def_ 18 (d := d_refuse_strange_rule) rfl
  have Fk_refuse_strange_rule : FunD K "refuse_strange_rule" "refuse_strange_rule" (defArgs sRSR) (defBody sRSR) (defScope sRSR) [] [] (ga K "refuse_strange_rule") fd_refuse_strange_rule := Fk_refuse_strange_rule
  have F_refuse_strange_rule : Fun K "refuse_strange_rule" "refuse_strange_rule" sRSR (ga K "refuse_strange_rule") fd_refuse_strange_rule := fun_of Fk_refuse_strange_rule
  have D_refuse_strange_rule : Dn K mg "refuse_strange_rule" sRSR ["scheme", "rule"] (ga K "refuse_strange_rule") fd_refuse_strange_rule := ⟨F_refuse_strange_rule, g_refuse_strange_rule, F_refuse_strange_rule.binds (ps := ["scheme", "rule"]) fun _ _ _ _ _ _ us hl => match us, hl with | [_, _], _ => rfl⟩
  have g_sort_rows := glo_ok X G (ft 23 (f := .glo "sort_rows") rfl)
  obtain ⟨fd_sort_rows, Fk_sort_rows⟩ := c.def_ 19 (d := d_sort_rows) rfl
  have Fk_sort_rows : FunD K "sort_rows" "sort_rows" (defArgs sSrw) (defBody sSrw) (defScope sSrw) [] [] (ga K "sort_rows") fd_sort_rows := Fk_sort_rows
  have F_sort_rows : Fun K "sort_rows" "sort_rows" sSrw (ga K "sort_rows") fd_sort_rows := fun_of Fk_sort_rows
  have D_sort_rows : Dn K mg "sort_rows" sSrw ["scheme", "rule"] (ga K "sort_rows") fd_sort_rows := ⟨F_sort_rows, g_sort_rows, F_sort_rows.binds (ps := ["scheme", "rule"]) fun _ _ _ _ _ _ us hl => match us, hl with | [_, _], _ => rfl⟩
  have g__law_cell_at := glo_ok X G (ft 24 (f := .glo "_law_cell_at") rfl)
  obtain ⟨fd__law_cell_at, Fk__law_cell_at⟩ := c.def_ 20 (d := d__law_cell_at) rfl
  have Fk__law_cell_at : FunD K "_law_cell_at" "_law_cell_at" (defArgs sCel) (defBody sCel) (defScope sCel) [] [] (ga K "_law_cell_at") fd__law_cell_at := Fk__law_cell_at
  have F__law_cell_at : Fun K "_law_cell_at" "_law_cell_at" sCel (ga K "_law_cell_at") fd__law_cell_at := fun_of Fk__law_cell_at
  have D__law_cell_at : Dn K mg "_law_cell_at" sCel ["_law_script", "_law_k"] (ga K "_law_cell_at") fd__law_cell_at := ⟨F__law_cell_at, g__law_cell_at, F__law_cell_at.binds (ps := ["_law_script", "_law_k"]) fun _ _ _ _ _ _ us hl => match us, hl with | [_, _], _ => rfl⟩
  have g__law_well := glo_ok X G (ft 25 (f := .glo "_law_well") rfl)
  obtain ⟨fd__law_well, Fk__law_well⟩ := c.def_ 21 (d := d__law_well) rfl
  have Fk__law_well : FunD K "_law_well" "_law_well" (defArgs sWel) (defBody sWel) (defScope sWel) [] [] (ga K "_law_well") fd__law_well := Fk__law_well
  have F__law_well : Fun K "_law_well" "_law_well" sWel (ga K "_law_well") fd__law_well := fun_of Fk__law_well
  have D__law_well : Dn K mg "_law_well" sWel ["_law_cell"] (ga K "_law_well") fd__law_well := ⟨F__law_well, g__law_well, F__law_well.binds (ps := ["_law_cell"]) fun _ _ _ _ _ _ us hl => match us, hl with | [_], _ => rfl⟩
  have g__law_draw := glo_ok X G (ft 26 (f := .glo "_law_draw") rfl)
  obtain ⟨fd__law_draw, Fk__law_draw⟩ := c.def_ 22 (d := d__law_draw) rfl
  have Fk__law_draw : FunD K "_law_draw" "_law_draw" (defArgs sDrw) (defBody sDrw) (defScope sDrw) [] [] (ga K "_law_draw") fd__law_draw := Fk__law_draw
  have F__law_draw : Fun K "_law_draw" "_law_draw" sDrw (ga K "_law_draw") fd__law_draw := fun_of Fk__law_draw
  have D__law_draw : Dn K mg "_law_draw" sDrw ["_law_well_here", "_law_many"] (ga K "_law_draw") fd__law_draw := ⟨F__law_draw, g__law_draw, F__law_draw.binds (ps := ["_law_well_here", "_law_many"]) fun _ _ _ _ _ _ us hl => match us, hl with | [_, _], _ => rfl⟩
  have g__law_pick := glo_ok X G (ft 27 (f := .glo "_law_pick") rfl)
  obtain ⟨fd__law_pick, Fk__law_pick⟩ := c.def_ 23 (d := d__law_pick) rfl
  have Fk__law_pick : FunD K "_law_pick" "_law_pick" (defArgs sPck) (defBody sPck) (defScope sPck) [] [] (ga K "_law_pick") fd__law_pick := Fk__law_pick
  have F__law_pick : Fun K "_law_pick" "_law_pick" sPck (ga K "_law_pick") fd__law_pick := fun_of Fk__law_pick
  have D__law_pick : Dn K mg "_law_pick" sPck ["_law_well_here", "_law_some"] (ga K "_law_pick") fd__law_pick := ⟨F__law_pick, g__law_pick, F__law_pick.binds (ps := ["_law_well_here", "_law_some"]) fun _ _ _ _ _ _ us hl => match us, hl with | [_, _], _ => rfl⟩
  have g__law_name := glo_ok X G (ft 28 (f := .glo "_law_name") rfl)
  obtain ⟨fd__law_name, Fk__law_name⟩ := c.def_ 24 (d := d__law_name) rfl
  have Fk__law_name : FunD K "_law_name" "_law_name" (defArgs sNam) (defBody sNam) (defScope sNam) [] [] (ga K "_law_name") fd__law_name := Fk__law_name
  have F__law_name : Fun K "_law_name" "_law_name" sNam (ga K "_law_name") fd__law_name := fun_of Fk__law_name
  have D__law_name : Dn K mg "_law_name" sNam ["_law_well_here", "_law_taken"] (ga K "_law_name") fd__law_name := ⟨F__law_name, g__law_name, F__law_name.binds (ps := ["_law_well_here", "_law_taken"]) fun _ _ _ _ _ _ us hl => match us, hl with | [_, _], _ => rfl⟩
  have g__law_names := glo_ok X G (ft 29 (f := .glo "_law_names") rfl)
  obtain ⟨fd__law_names, Fk__law_names⟩ := c.def_ 25 (d := d__law_names) rfl
  have Fk__law_names : FunD K "_law_names" "_law_names" (defArgs sNms) (defBody sNms) (defScope sNms) [] [] (ga K "_law_names") fd__law_names := Fk__law_names
  have F__law_names : Fun K "_law_names" "_law_names" sNms (ga K "_law_names") fd__law_names := fun_of Fk__law_names
  have D__law_names : Dn K mg "_law_names" sNms ["_law_well_here", "_law_many"] (ga K "_law_names") fd__law_names := ⟨F__law_names, g__law_names, F__law_names.binds (ps := ["_law_well_here", "_law_many"]) fun _ _ _ _ _ _ us hl => match us, hl with | [_, _], _ => rfl⟩
  have g__law_any_rule := glo_ok X G (ft 30 (f := .glo "_law_any_rule") rfl)
  obtain ⟨fd__law_any_rule, Fk__law_any_rule⟩ := c.def_ 26 (d := d__law_any_rule) rfl
  have Fk__law_any_rule : FunD K "_law_any_rule" "_law_any_rule" (defArgs sAny) (defBody sAny) (defScope sAny) [] [] (ga K "_law_any_rule") fd__law_any_rule := Fk__law_any_rule
  have F__law_any_rule : Fun K "_law_any_rule" "_law_any_rule" sAny (ga K "_law_any_rule") fd__law_any_rule := fun_of Fk__law_any_rule
  have D__law_any_rule : Dn K mg "_law_any_rule" sAny ["_law_well_here", "_law_name_here", "_law_sorts", "_law_words", "_law_most"] (ga K "_law_any_rule") fd__law_any_rule := ⟨F__law_any_rule, g__law_any_rule, F__law_any_rule.binds (ps := ["_law_well_here", "_law_name_here", "_law_sorts", "_law_words", "_law_most"]) fun _ _ _ _ _ _ us hl => match us, hl with | [_, _, _, _, _], _ => rfl⟩
  have g__law_made_rule := glo_ok X G (ft 31 (f := .glo "_law_made_rule") rfl)
  obtain ⟨fd__law_made_rule, Fk__law_made_rule⟩ := c.def_ 27 (d := d__law_made_rule) rfl
  have Fk__law_made_rule : FunD K "_law_made_rule" "_law_made_rule" (defArgs sMdR) (defBody sMdR) (defScope sMdR) [] [] (ga K "_law_made_rule") fd__law_made_rule := Fk__law_made_rule
  have F__law_made_rule : Fun K "_law_made_rule" "_law_made_rule" sMdR (ga K "_law_made_rule") fd__law_made_rule := fun_of Fk__law_made_rule
  have D__law_made_rule : Dn K mg "_law_made_rule" sMdR ["_law_rule"] (ga K "_law_made_rule") fd__law_made_rule := ⟨F__law_made_rule, g__law_made_rule, F__law_made_rule.binds (ps := ["_law_rule"]) fun _ _ _ _ _ _ us hl => match us, hl with | [_], _ => rfl⟩
  have g__law_due := glo_ok X G (ft 32 (f := .glo "_law_due") rfl)
  obtain ⟨fd__law_due, Fk__law_due⟩ := c.def_ 28 (d := d__law_due) rfl
  have Fk__law_due : FunD K "_law_due" "_law_due" (defArgs sDue) (defBody sDue) (defScope sDue) [] [] (ga K "_law_due") fd__law_due := Fk__law_due
  have F__law_due : Fun K "_law_due" "_law_due" sDue (ga K "_law_due") fd__law_due := fun_of Fk__law_due
  have D__law_due : Dn K mg "_law_due" sDue ["_law_sorts", "_law_words", "_law_rule"] (ga K "_law_due") fd__law_due := ⟨F__law_due, g__law_due, F__law_due.binds (ps := ["_law_sorts", "_law_words", "_law_rule"]) fun _ _ _ _ _ _ us hl => match us, hl with | [_, _, _], _ => rfl⟩
  have g__law_said := glo_ok X G (ft 33 (f := .glo "_law_said") rfl)
  obtain ⟨fd__law_said, Fk__law_said⟩ := c.def_ 29 (d := d__law_said) rfl
  have Fk__law_said : FunD K "_law_said" "_law_said" (defArgs sSai) (defBody sSai) (defScope sSai) [] [] (ga K "_law_said") fd__law_said := Fk__law_said
  have F__law_said : Fun K "_law_said" "_law_said" sSai (ga K "_law_said") fd__law_said := fun_of Fk__law_said
  have D__law_said : Dn K mg "_law_said" sSai ["_law_scheme", "_law_rule"] (ga K "_law_said") fd__law_said := ⟨F__law_said, g__law_said, F__law_said.binds (ps := ["_law_scheme", "_law_rule"]) fun _ _ _ _ _ _ us hl => match us, hl with | [_, _], _ => rfl⟩
  have g_law := glo_ok X G (ft 34 (f := .glo "law") rfl)
  obtain ⟨fd_law, Fk_law⟩ := c.def_ 30 (d := d_law) rfl
  have Fk_law : FunD K "law" "law" (defArgs sLaw) (defBody sLaw) (defScope sLaw) [] [] (ga K "law") fd_law := Fk_law
  have F_law : Fun K "law" "law" sLaw (ga K "law") fd_law := fun_of Fk_law
  have FLb := FunD.bindsA (ps := ["_law_script"]) Fk_law fun _ _ _ _ _ _ us hl => match us, hl with | [_], _ => rfl
  have g_Scheme := glo_ok X G (ft 35 (f := .glo "Scheme") rfl)
  have cls_Scheme := cls_ok (ft 36 (f := .cls "Scheme") rfl)
  have na_Scheme_own_sorts := noat_ok (ft 37 (f := .noat "Scheme" "own_sorts") rfl)
  have na_Scheme_own_words := noat_ok (ft 38 (f := .noat "Scheme" "own_words") rfl)
  have na_Scheme_own_makings := noat_ok (ft 39 (f := .noat "Scheme" "own_makings") rfl)
  have na_Scheme_own_rules := noat_ok (ft 40 (f := .noat "Scheme" "own_rules") rfl)
  have na_Scheme_own_bars := noat_ok (ft 41 (f := .noat "Scheme" "own_bars") rfl)
  have mk_Scheme := mkr_ok (ft 42 (f := .mkr "Scheme") rfl)
  have g_Rule := glo_ok X G (ft 43 (f := .glo "Rule") rfl)
  have cls_Rule := cls_ok (ft 44 (f := .cls "Rule") rfl)
  have na_Rule_name := noat_ok (ft 45 (f := .noat "Rule" "name") rfl)
  have na_Rule_variables := noat_ok (ft 46 (f := .noat "Rule" "variables") rfl)
  have na_Rule_conditions := noat_ok (ft 47 (f := .noat "Rule" "conditions") rfl)
  have na_Rule_gives := noat_ok (ft 48 (f := .noat "Rule" "gives") rfl)
  have na_Rule_by := noat_ok (ft 49 (f := .noat "Rule" "by") rfl)
  have mk_Rule := mkr_ok (ft 50 (f := .mkr "Rule") rfl)
  obtain ⟨fd_NoName___init__, Fk_NoName___init__⟩ := c.def_ 31 (d := d_NoName___init__) rfl
  have Fk_NoName___init__ : FunD K "__init__" "NoName.__init__" (defArgs sN0) (defBody sN0) (defScope sN0) [] [] (ma K (ga K "NoName") "__init__") fd_NoName___init__ := Fk_NoName___init__
  have F_NoName___init__ : Fun K "__init__" "NoName.__init__" sN0 (ma K (ga K "NoName") "__init__") fd_NoName___init__ := fun_of Fk_NoName___init__
  have b_NoName___init__ := F_NoName___init__.binds (ps := ["self", "name"]) fun _ _ _ _ _ _ us hl => match us, hl with | [_, _], _ => rfl
  obtain ⟨fd_NoSort___init__, Fk_NoSort___init__⟩ := c.def_ 32 (d := d_NoSort___init__) rfl
  have Fk_NoSort___init__ : FunD K "__init__" "NoSort.__init__" (defArgs sNS) (defBody sNS) (defScope sNS) [] [] (ma K (ga K "NoSort") "__init__") fd_NoSort___init__ := Fk_NoSort___init__
  have F_NoSort___init__ : Fun K "__init__" "NoSort.__init__" sNS (ma K (ga K "NoSort") "__init__") fd_NoSort___init__ := fun_of Fk_NoSort___init__
  have b_NoSort___init__ := F_NoSort___init__.binds (ps := ["self", "name"]) fun _ _ _ _ _ _ us hl => match us, hl with | [_, _], _ => rfl
  obtain ⟨fd_NoWord___init__, Fk_NoWord___init__⟩ := c.def_ 33 (d := d_NoWord___init__) rfl
  have Fk_NoWord___init__ : FunD K "__init__" "NoWord.__init__" (defArgs sNW) (defBody sNW) (defScope sNW) [] [] (ma K (ga K "NoWord") "__init__") fd_NoWord___init__ := Fk_NoWord___init__
  have F_NoWord___init__ : Fun K "__init__" "NoWord.__init__" sNW (ma K (ga K "NoWord") "__init__") fd_NoWord___init__ := fun_of Fk_NoWord___init__
  have b_NoWord___init__ := F_NoWord___init__.binds (ps := ["self", "name"]) fun _ _ _ _ _ _ us hl => match us, hl with | [_, _], _ => rfl
  obtain ⟨fd_Rule___init__, Fk_Rule___init__⟩ := c.def_ 34 (d := d_Rule___init__) rfl
  have Fk_Rule___init__ : FunD K "__init__" "Rule.__init__" (defArgs sRul) (defBody sRul) (defScope sRul) [] [] (ma K (ga K "Rule") "__init__") fd_Rule___init__ := Fk_Rule___init__
  have F_Rule___init__ : Fun K "__init__" "Rule.__init__" sRul (ma K (ga K "Rule") "__init__") fd_Rule___init__ := fun_of Fk_Rule___init__
  have b_Rule___init__ := F_Rule___init__.binds (ps := ["self", "name", "variables", "conditions", "gives", "by"]) fun _ _ _ _ _ _ us hl => match us, hl with | [_, _, _, _, _, _], _ => rfl
  have m_Scheme_sorts := meth_ok (ft 51 (f := .meth "Scheme" "sorts") rfl)
  obtain ⟨fd_Scheme_sorts, Fk_Scheme_sorts⟩ := c.def_ 35 (d := d_Scheme_sorts) rfl
  have Fk_Scheme_sorts : FunD K "sorts" "Scheme.sorts" (defArgs sSor) (defBody sSor) (defScope sSor) [] [] (ma K (ga K "Scheme") "sorts") fd_Scheme_sorts := Fk_Scheme_sorts
  have F_Scheme_sorts : Fun K "sorts" "Scheme.sorts" sSor (ma K (ga K "Scheme") "sorts") fd_Scheme_sorts := fun_of Fk_Scheme_sorts
  have b_Scheme_sorts := F_Scheme_sorts.binds (ps := ["self"]) fun _ _ _ _ _ _ us hl => match us, hl with | [_], _ => rfl
  have m_Scheme_words := meth_ok (ft 52 (f := .meth "Scheme" "words") rfl)
  obtain ⟨fd_Scheme_words, Fk_Scheme_words⟩ := c.def_ 36 (d := d_Scheme_words) rfl
  have Fk_Scheme_words : FunD K "words" "Scheme.words" (defArgs sWor) (defBody sWor) (defScope sWor) [] [] (ma K (ga K "Scheme") "words") fd_Scheme_words := Fk_Scheme_words
  have F_Scheme_words : Fun K "words" "Scheme.words" sWor (ma K (ga K "Scheme") "words") fd_Scheme_words := fun_of Fk_Scheme_words
  have b_Scheme_words := F_Scheme_words.binds (ps := ["self"]) fun _ _ _ _ _ _ us hl => match us, hl with | [_], _ => rfl
  have t_abs := free_ok X G (ft 53 (f := .free "abs") rfl)
  have t_int := free_ok X G (ft 54 (f := .free "int") rfl)
  have t_len := free_ok X G (ft 55 (f := .free "len") rfl)
  have t_range := free_ok X G (ft 56 (f := .free "range") rfl)
  have t_all := free_ok X G (ft 57 (f := .free "all") rfl)
  have t_tuple := free_ok X G (ft 58 (f := .free "tuple") rfl)
  have t_enumerate := free_ok X G (ft 59 (f := .free "enumerate") rfl)
  have t_isinstance := free_ok X G (ft 60 (f := .free "isinstance") rfl)
  have t_ValueError := free_ok X G (ft 61 (f := .free "ValueError") rfl)
  have t_list := free_ok X G (ft 62 (f := .free "list") rfl)
  have t_str := free_ok X G (ft 63 (f := .free "str") rfl)
  have e := hfa.symm.trans g_law
  cases e
  have T : TxB mg := ⟨t_abs, t_int, t_len, t_range, t_all, t_tuple, t_enumerate, t_isinstance, t_ValueError⟩
  have TN : TxN mg := ⟨str_ok X G (ft 64 rfl), str_ok X G (ft 65 rfl), int_ok X G (ft 66 rfl)⟩
  have TS : TxS mg := ⟨int_ok X G (ft 67 rfl), int_ok X G (ft 68 rfl), int_ok X G (ft 69 rfl), int_ok X G (ft 70 rfl)⟩
  have TP : TxP mg := ⟨int_ok X G (ft 71 rfl), int_ok X G (ft 72 rfl)⟩
  obtain ⟨dW0, FW⟩ := c.def_ 37 (d := dWho) rfl
  have FW : FunD K "__init__" "WhoError.__init__" (defArgs sW0) (defBody sW0) (defScope sW0) [.str (PySem.Str.ofString "whoerror")] [] (ma K (ga K "WhoError") "__init__") dW0 := FW
  obtain ⟨ds, hds, bW⟩ := FW.binds1 (ps := ["self", "kind"]) 2 1 (by simp) (by rfl) (fun T kV doc pm an cdv ct us its hu hi => match us, hu, its, hi with | [_, _], _, [_], _ => ⟨_, rfl, rfl⟩)
  cases hds
  have ww := whoB_ok qw
  have TW : WhoT K mg (ga K "WhoError") (ma K (ga K "WhoError") "__init__") dW0 := ⟨g_WhoError, ww.1, ww.2, FW.kp, bW⟩
  have E0 := errB_ok (x := "NoName") qe0 g_NoName
  have E1 := errB_ok (x := "NoSort") qe1 g_NoSort
  have E2 := errB_ok (x := "NoWord") qe2 g_NoWord
  have TE : TxE K mg (ga K "NoSort") (ga K "NoWord") (ga K "WhoError") := ⟨g_NoSort, g_NoWord, g_WhoError, of_decide_eq_true x1, of_decide_eq_true x2, E1.2.1, E2.2.1, E1.1.nf, E2.1.nf, E1.2.2.1, E2.2.2.1, of_decide_eq_true k1, of_decide_eq_true k2, of_decide_eq_true k3, of_decide_eq_true q⟩
  have TC : TxSch K mg (ga K "Scheme") (ma K (ga K "Scheme") "__init__") := ⟨cls_Scheme, na_Scheme_own_sorts, na_Scheme_own_words, na_Scheme_own_makings, na_Scheme_own_rules, na_Scheme_own_bars, g_Scheme, mk_Scheme⟩
  have TR : TxRul K mg (ga K "Rule") (ma K (ga K "Rule") "__init__") := ⟨cls_Rule, na_Rule_name, na_Rule_variables, na_Rule_conditions, na_Rule_gives, na_Rule_by, g_Rule, mk_Rule⟩
  obtain ⟨dSi, FSi⟩ := c.def_ 38 (d := dSch) rfl
  have FSi : FunD K "__init__" "Scheme.__init__" (defArgs sSch) (defBody sSch) (defScope sSch) [.non, .non, .non] [] (ma K (ga K "Scheme") "__init__") dSi := FSi
  obtain ⟨dss, hdss, bSi⟩ := FSi.binds1 (ps := ["self", "sorts", "words", "makings", "rules", "bars"]) 3 0 (by simp) (by rfl) (fun T kV doc pm an cdv ct us its hu hi => match us, hu, its, hi with | [_, _, _], _, [_, _, _], _ => ⟨_, rfl, rfl⟩)
  have edss : dss = [.none, .none, .none] := by
    cases hdss with
    | cons r1 t1 =>
      cases t1 with
      | cons r2 t2 =>
        cases t2 with
        | cons r3 t3 =>
          cases t3
          cases r1
          cases r2
          cases r3
          rfl
  rw [edss] at bSi
  refine ⟨_, fun s v => FLb s [v] rfl, fun base _ _ => ?_⟩
  have GWh : FnOk P w K mg base CX0 1 _ dW0 ["self", "kind"] (spWI K) := ok_who FW
  have GI0 : FnOk P w K mg base CX0 2 _ _ ["self", "name"] (spE1 (ga K "NoName") "name" "noname") := ok_noname F_NoName___init__ E0.1 TW GWh
  have GI1 : FnOk P w K mg base CX0 2 _ _ ["self", "name"] (spE1 (ga K "NoSort") "name" "nosort") := ok_nosort F_NoSort___init__ E1.1 TW GWh
  have GI2 : FnOk P w K mg base CX0 2 _ _ ["self", "name"] (spE1 (ga K "NoWord") "name" "noword") := ok_noword F_NoWord___init__ E2.1 TW GWh
  have GIs : FnOk P w K mg base CX0 1 _ _ ["text"] spName := ok_name F_is_name T TN
  have GRN : FnOk P w K mg base (L2.CX P w) 4 _ _ ["texts"] (spRN K (ga K "NoName")) := ok_rn F_refuse_no_name D_is_name GIs E0.1 b_NoName___init__ GI0
  have GRV : FnOk P w K mg base CX0 2 _ _ ["texts"] (spRNv K) := ok_rnv F_refuse_no_name D_is_name GIs
  have GRT : FnOk P w K mg base CX0 2 _ _ ["names"] (spFT K) := ok_rt F_refuse_twice T D_first_twice
  have GMT : FnOk P w K mg base CX0 2 _ _ ["makings"] (spE1L K) := ok_rmt F_refuse_makings_twice T D_first_twice
  have GCP : FnOk P w K mg base (L2.CX P w) 5 _ _ ["name", "variables", "conditions", "given", "hands"] (spCP K (ga K "NoName")) := ok_cp F_check_pattern T TP D_refuse_count D_refuse_no_name D_texts_of_pattern D_refuse_twice D_refuse_no_variable D_ends_of D_refuse_loose D_refuse_apart GRN GRT
  have GR : FnOk P w K mg base (L2.CX P w) 6 _ _ ["self", "name", "variables", "conditions", "gives", "by"] (spRul K (ga K "NoName") (ga K "Rule")) := ok_rul F_Rule___init__ T TR D_tuple_of_tuples D_check_pattern GCP
  have GCS : FnOk P w K mg base CX0 3 _ _ ["sorts", "words", "makings", "rules", "bars"] (spCS K) := ok_cs F_check_scheme T TS D_refuse_count D_refuse_no_name D_refuse_twice D_refuse_makings_twice D_refuse_no_sort D_refuse_upward D_refuse_no_word GRV GRT GMT
  have GSc : FnOk P w K mg base CX0 4 _ dSi ["self", "sorts", "words", "makings", "rules", "bars"] (spSch K (ga K "Scheme")) := ok_sch FSi t_list TC D_own_list D_check_scheme GCS
  have GSo : FnOk P w K mg base CX0 1 _ _ ["self"] (spSor (ga K "Scheme")) := ok_sor F_Scheme_sorts t_list TC
  have GWo : FnOk P w K mg base CX0 1 _ _ ["self"] (spWor (ga K "Scheme")) := ok_wor F_Scheme_words t_list TC
  have GRS : FnOk P w K mg base (L2.CX P w) 4 _ _ ["scheme", "rule"] (spRSR K (ga K "Scheme") (ga K "Rule") (ga K "NoSort") (ga K "NoWord")) := ok_rsr F_refuse_strange_rule TC TR E1.1 b_NoSort___init__ GI1 E2.1 b_NoWord___init__ GI2 m_Scheme_sorts b_Scheme_sorts GSo m_Scheme_words b_Scheme_words GWo
  have GSr : FnOk P w K mg base (L2.CX P w) 5 _ _ ["scheme", "rule"] (spSrw K (ga K "Scheme") (ga K "Rule") (ga K "NoSort") (ga K "NoWord")) := ok_srw F_sort_rows TC TR D_refuse_strange_rule GRS m_Scheme_sorts b_Scheme_sorts GSo
  have GNm : FnOk P w K mg base CX0 3 _ _ ["_law_well_here", "_law_taken"] (spNam K) := ok_nam F__law_name T t_str D__law_draw D__law_pick
  have GN : FnOk P w K mg base CX0 4 _ _ ["_law_well_here", "_law_many"] (spNms K) := ok_nms F__law_names T D__law_name GNm
  have GA : FnOk P w K mg base CX0 5 _ _ ["_law_well_here", "_law_name_here", "_law_sorts", "_law_words", "_law_most"] (spAny K) := ok_any F__law_any_rule T D__law_draw D__law_pick D__law_names GN
  have GMr : FnOk P w K mg base CX0 8 _ _ ["_law_rule"] (spMdR K (ga K "Rule")) := ok_mdr F__law_made_rule t_list TR b_Rule___init__ GR
  have GDu : FnOk P w K mg base CX0 1 _ _ ["_law_sorts", "_law_words", "_law_rule"] (spDue K) := ok_due F__law_due T
  have GSa : FnOk P w K mg base CX0 6 _ _ ["_law_scheme", "_law_rule"] (spSai K (ga K "Scheme") (ga K "Rule")) := ok_sai F__law_said T TE D_sort_rows GSr
  exact ok_law F_law T t_list TC D__law_cell_at D__law_well D__law_draw D__law_name GNm D__law_names GN D__law_any_rule GA D__law_made_rule GMr D__law_due GDu D__law_said GSa bSi GSc m_Scheme_sorts b_Scheme_sorts GSo m_Scheme_words b_Scheme_words GWo
end Wm

open PySem PySem.W PySem.Calls PyProof.Rows
set_option maxRecDepth 100000 in
set_option maxHeartbeats 0 in
theorem PySem.Challenge.cw_whomay_k71_rows_of_sorts_holds : PySem.Challenge.rw_whomay_k71_rows_of_sorts.Holds := by
  w_on; o_law
  refine HandSHeadRun.head_any (r := OpenLaw.row PySem.Challenge.rw_whomay_k71_rows_of_sorts) (q := view (OpenLaw.row PySem.Challenge.rw_whomay_k71_rows_of_sorts).prog [63]) (H := Wm.hkW) (ob := Wm.obW) (M := 20000) (loose := Wm.loW) (d := HandSHeadRun.topDef (OpenLaw.row PySem.Challenge.rw_whomay_k71_rows_of_sorts).prog 63) (kwd := []) Wm.obW_eq
    (by kernel_rfl) (fun s => by kernel_rfl) Wm.runW (by kernel_rfl) (by kernel_rfl) (by kernel_rfl) (by rfl) (by first | assumption | decide +kernel) (by decide +kernel) ⟨rfl, rfl, rfl, rfl, rfl, by decide +kernel⟩ ?hw ?hc
  case hw => w_witness2
  case hc =>
    refine L2.walk_ofE (l := PySem.Challenge.rw_whomay_k71_rows_of_sorts) (n := 63) (k := 9) (x := "_law_script") (CX := L2.CX0) rfl (by decide) (by kernel_rfl) ⟨rfl, by decide, by decide⟩ ?F (fun _ _ _ _ z => z)
    intro w mg fa h Y G hmg0
    obtain ⟨K, KX, c⟩ := Y
    have hmg : mg ("law" : PySem.Str) = some (.ref fa) := by
      have e : (HandSHeadRun.topDef (OpenLaw.row PySem.Challenge.rw_whomay_k71_rows_of_sorts).prog 63).name = ("law" : PySem.Str) := by kernel_rfl
      rw [← e]
      exact hmg0
    obtain ⟨fd, hb, hF⟩ := Wm.facts (P := (PySem.Challenge.rw_whomay_k71_rows_of_sorts).prog) (w := w) KX G hmg c
    exact ⟨K, fd, Wm.spLaw K, KX, hb, fun H a ns hl _ hS => ⟨a, ns, rfl, hS, hl, fun _ => rfl⟩, hF⟩
