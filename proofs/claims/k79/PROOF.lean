import PyProof.Rows.All
import Wide.All
import OpenK.AllK
import Wide.FinOn
import HandS.ForMost
import HandS.ForExc
import HandS.Walk
import HandS.Star
import HandS.Style
import HandS.TupAny
import HandS.ExcInit
import HandS.ExcIs
import HandS.ExcField
import HandS.Defaults
import HandS.Wide
import HandS.ClsMeth
import KE.KExcIs
import KE.GoesEnum
import HandS.Conv
import KE.SortData
import KE.KDictList
import HandS.DictTup
import PyProof.DictMoreH
import HandS.TupSets
import HandS.SetBool
import HandS.DictComp
import HandS.ExcOwn
import HandS.MakeKwOnly
import HandS.MakeKw
import PyProof.NeKinds
import PyProof.EqAt
import PyProof.EqKinds
import HandS.Words
import HandS.WordsExc
import KE.KStateDown
import HandS.Head0
import HandS.Head1
import HandS.Head2
import HandS.HeadEnd
import HandS.HeadHook1
import HandS.HeadHook2
import PySem.Challenge.RW_whomay_k79_sorts_held
set_option Elab.async false
set_option linter.all false
set_option maxRecDepth 100000
set_option maxHeartbeats 4000000
namespace Wm
open PySem L2
def top (i : Nat) : Stmt := PySem.Challenge.pw_whomay_k79_sorts_held.main.body.getD i (.Pass ⟨0, 0, 0, 0⟩)
abbrev sWel : Stmt := top 43
abbrev sDrw : Stmt := top 44
abbrev sW0 : Stmt := inClass (top 2) 0
abbrev sN0 : Stmt := inClass (top 3) 0
abbrev sName : Stmt := top 19
abbrev sRN : Stmt := top 20
abbrev sFT : Stmt := top 21
abbrev sRT : Stmt := top 22
abbrev sRC : Stmt := top 23
abbrev sPck : Stmt := top 45
abbrev sNam : Stmt := top 46
abbrev sNms : Stmt := top 47
abbrev sOL : Stmt := top 32
abbrev sRMT : Stmt := top 33
abbrev sRNS : Stmt := top 34
abbrev sRU : Stmt := top 35
abbrev sRNW : Stmt := top 36
abbrev sCS : Stmt := top 37
abbrev sSch : Stmt := inClass (top 38) 0
abbrev sSor : Stmt := inClass (top 38) 1
abbrev sWor : Stmt := inClass (top 38) 2
abbrev sHin : Stmt := inClass (top 26) 0
abbrev sHen : Stmt := inClass (top 26) 2
abbrev sHgi : Stmt := inClass (top 26) 3
abbrev sHta : Stmt := inClass (top 26) 4
abbrev sHsl : Stmt := inClass (top 26) 6
abbrev sHso : Stmt := inClass (top 26) 8
abbrev sHhe : Stmt := inClass (top 26) 11
abbrev sHrt : Stmt := inClass (top 26) 15
abbrev sHrs : Stmt := inClass (top 26) 16
abbrev sSh : Stmt := top 40
abbrev sDu : Stmt := top 48
abbrev sRi : Stmt := top 49
abbrev sCel : Stmt := top 42
abbrev sLaw : Stmt := top 50
end Wm
/-! a head by one run: what is asked of the written part is one Bool of one's own -/
namespace Wm
open PySem PySem.Spec PyProof.Rows L2 He ClX
def obsM (ck : PySem.W.Frag → Bool) (fn : List DefD) (K : PySem.W.Frag) : AlD := (ck K && fn.all fun d => d.ok K, fn.map fun d => fnW K d.at_)
def SaysM (ck : PySem.W.Frag → Bool) (fn : List DefD) (K : PySem.W.Frag) : Prop := obsM ck fn K = valD fn
/-- what the module's names, and what the C code keeps, reach in n steps -/
def asM (g : Addr → Option Obj) : Nat → List Addr
  | 0 => [mainGlobals, cStatics]
  | n + 1 => growD g (asM g n)
def obsMG (n : Nat) (ck : PySem.W.Frag → Bool) (fn : List DefD) (g : Addr → Option Obj) : AlD := obsM ck fn (frG g (asM g n))
def hookM (n : Nat) (ck : PySem.W.Frag → Bool) (fn : List DefD) : PySem.W.Hook where
  α := AlD
  obs := fun s => obsMG n ck fn s.heap.get?
  val := fun _ => valD fn
  says := fun _ h => ∃ K : PySem.W.Frag, K.In h ∧ SaysM ck fn K
  of := fun _ _ e => ⟨_, frG_in, e⟩
  keeps := fun _ _ _ ⟨K, hK, c⟩ k => ⟨K, PySem.W.Frag.In.keeps hK k, c⟩
theorem obsMG_eq {n : Nat} {ck : PySem.W.Frag → Bool} {fn : List DefD} {g : Addr → Option Obj} {s : Shared} (h : ∀ a, g a = s.heap.get? a) : obsMG n ck fn g = (hookM n ck fn).obs s := by
  have e : g = s.heap.get? := funext h
  rw [e] <;> rfl
section
variable {ck : PySem.W.Frag → Bool} {fn : List DefD} {K : PySem.W.Frag}
theorem SaysM.says (c : SaysM ck fn K) : ck K = true := (ba (show (ck K && fn.all fun d => d.ok K) = true from congrArg (fun z : AlD => z.1) c)).1
theorem SaysM.def_ (c : SaysM ck fn K) (i : Nat) {d : DefD} (h : fn[i]? = some d := by rfl) : ∃ fd, FunD K d.name d.qual d.params d.body d.scope (d.dvs K) (d.kws K) (fAd K d.at_) fd := by
  have c2 := (ba (show (ck K && fn.all fun d => d.ok K) = true from congrArg (fun z : AlD => z.1) c)).2
  have e : fn.map (fun d => fnW K d.at_) = fn.map DefD.val := congrArg (fun z : AlD => z.2) c
  have e2 : (fn.map fun d => fnW K d.at_)[i]? = (fn.map DefD.val)[i]? := by rw [e]
  rw [List.getElem?_map, List.getElem?_map, h] at e2
  exact DefD.funD (Option.some.inj e2) (List.all_eq_true.mp c2 d (List.mem_of_getElem? h))
end
/-- a def without defaults -/
theorem fun_of {K : PySem.W.Frag} {x q : Str} {st : Stmt} {f : Addr} {fd : FuncData} (F : FunD K x q (defArgs st) (defBody st) (defScope st) [] [] f fd) : Fun K x q st f fd := by
  obtain ⟨oc, od, dV, kV, doc, pm, an, cdv, ct, osl, rfl, l, c, d, _⟩ := F.ex
  have e : dV = .none := by
    rcases d with ⟨_, e⟩ | ⟨n, _⟩
    · exact e
    · exact absurd rfl n
  subst e
  exact ⟨⟨oc, od, kV, doc, pm, an, cdv, ct, osl, rfl, l, c⟩, F.kp⟩
/-- an error class whose objects are made by an __init__ of its own -/
def excB (K : PySem.W.Frag) (C : Addr) : Bool := match K.lookup C with
  | some ⟨.type "type", _, .cls cd, sl⟩ => (match cd.mro, sl.toList with
    | .ref C' :: bm, [_, _, _, _, some (.builtin n), _] => C' == C && (n == "ValueError.__new__" && (!cd.hasDel && (cd.hasDict && PySem.HandSPX.refsVE bm)))
    | _, _ => false)
  | _ => false
theorem excB_ok {K : PySem.W.Frag} {C : Addr} (q : excB K C = true) : ∃ nm q N bs bm sn sub ab col dd k0 k1 k2 k3 k5, K.lookup C = some (excClassObj nm q C N bs bm true sn sub ab col dd k0 k1 k2 k3 k5 "ValueError.__new__") ∧ PySem.HandSPX.refsVE bm = true := by
  unfold excB at q
  split at q
  · rename_i dd cd sl ho
    split at q
    · rename_i C' bm k0 k1 k2 k3 n k5 hm hs
      simp only [Bool.and_eq_true, beq_iff_eq, Bool.not_eq_true'] at q
      obtain ⟨rfl, rfl, hdel, hdi, ht⟩ := q
      obtain ⟨nm, bs, mro, ns, qn, hd, sn, sub, ab, col, del⟩ := cd
      dsimp only at hm hdel hdi
      subst hm hdel hdi
      have hsl : sl = #[k0, k1, k2, k3, some (.builtin "ValueError.__new__"), k5] := by
        obtain ⟨l⟩ := sl
        simp only at hs
        rw [hs]
      subst hsl
      exact ⟨nm, qn, ns, bs, bm, sn, sub, ab, col, dd, k0, k1, k2, k3, k5, ho, ht⟩
    · cases q
  · cases q
/-- WhoError, whose __init__ the others call -/
def whoB (K : PySem.W.Frag) (W : Addr) : Bool := PySem.W.readsIn K W (.type "type") && (eqO (PySem.W.specialIn K (.ref W) "__getattribute__") (some (some (.builtin "type.__getattribute__"))) && (match PySem.W.findCls K (.ref W) (.type "type") "__init__" with
  | some (.val (.ref a)) => decide (a = ma K W "__init__")
  | _ => false))
theorem whoB_ok {K : PySem.W.Frag} {W : Addr} (h : whoB K W = true) : CRead K W (.type "type") ∧ PySem.W.findCls K (.ref W) (.type "type") "__init__" = some (.val (.ref (ma K W "__init__"))) := by
  unfold whoB at h
  obtain ⟨h1, h⟩ := ba h
  obtain ⟨h2, h3⟩ := ba h
  refine ⟨⟨h1, eqO_ok h2⟩, ?_⟩
  split at h3
  · rename_i a e
    rw [e, of_decide_eq_true h3]
  · cases h3
end Wm
/-! the reached fragment, gone through once: what was seen is kept as bits of a number -/
namespace Wm
open PySem PySem.Spec PyProof.Rows L2 He ClX
noncomputable def pushB (as : List Addr) : Nat → List Addr → Nat × List Addr := List.rec (motive := fun _ => Nat → List Addr → Nat × List Addr) (fun v acc => (v, acc)) (fun a _ ih v acc => Bool.rec (motive := fun _ => Nat × List Addr) (ih (Nat.lor v (Nat.shiftLeft 1 a)) (a :: acc)) (ih v acc) (Nat.beq (Nat.mod (Nat.shiftRight v a) 2) 1)) as
noncomputable def lvB (g : Addr → Option Obj) (n : Nat) : List Addr → Nat → List Addr := Nat.rec (motive := fun _ => List Addr → Nat → List Addr) (fun fr _ => fr) (fun _ ih fr v => fr ++ (match pushB (fr.flatMap fun a => match g a with
  | some o => refsD o
  | none => []) v [] with
  | (v', nf) => ih nf v')) n
noncomputable def asB (g : Addr → Option Obj) (n : Nat) : List Addr := lvB g n [mainGlobals, cStatics] (Nat.lor (Nat.shiftLeft 1 mainGlobals) (Nat.shiftLeft 1 cStatics))
noncomputable def obsBG (n : Nat) (ck : PySem.W.Frag → Bool) (fn : List DefD) (g : Addr → Option Obj) : AlD := obsM ck fn (frG g (asB g n))
noncomputable def hookB (n : Nat) (ck : PySem.W.Frag → Bool) (fn : List DefD) : PySem.W.Hook where
  α := AlD
  obs := fun s => obsBG n ck fn s.heap.get?
  val := fun _ => valD fn
  says := fun _ h => ∃ K : PySem.W.Frag, K.In h ∧ SaysM ck fn K
  of := fun _ _ e => ⟨_, frG_in, e⟩
  keeps := fun _ _ _ ⟨K, hK, c⟩ k => ⟨K, PySem.W.Frag.In.keeps hK k, c⟩
theorem obsBG_eq {n : Nat} {ck : PySem.W.Frag → Bool} {fn : List DefD} {g : Addr → Option Obj} {s : Shared} (h : ∀ a, g a = s.heap.get? a) : obsBG n ck fn g = (hookB n ck fn).obs s := by
  have e : g = s.heap.get? := funext h
  rw [e] <;> rfl
end Wm
/-! the run's equation in two: what is looked at behind the top, and the facts, each by a run of its own -/
namespace Wm
open PySem PySem.W PySem.Calls PyProof.Rows HandSHeadRun
noncomputable def RunA (r : OpenRow) (q : Program) (M : Nat) (loose : List PySem.Str) (w : World) : Prop :=
  ∀ os : OsState, (endF (stepQ (denQ tabQ) r.prog w) M r.prog w os).map (fun s => (looksF r.prog (boot_heap w.params) s.abs, seenQ q loose (importedModules r.prog.main.body) (fun s => xlAt q [] s && recOk r.toRowW.records s) s.abs)) = some (true, openGood q loose)
noncomputable def RunB (r : OpenRow) (H : Hook) (ob : SharedT → H.α) (M : Nat) (w : World) : Prop :=
  ∀ os : OsState, (endF (stepQ (denQ tabQ) r.prog w) M r.prog w os).map ob = some (H.val w)
theorem runEq_of {r : OpenRow} {q : Program} {H : Hook} {ob : SharedT → H.α} {M : Nat} {loose : List PySem.Str} {w : World} (a : RunA r q M loose w) (b : RunB r H ob M w) : RunEq r q H ob M loose w := fun os => by
  have a := a os
  have b := b os
  revert a b
  generalize endF (stepQ (denQ tabQ) r.prog w) M r.prog w os = z
  cases z with
  | none =>
    intro a
    cases a
  | some s =>
    intro a b
    have e1 := Option.some.inj a
    have e2 : ob s = H.val w := Option.some.inj b
    obtain ⟨e3, e4⟩ := Prod.mk.inj e1
    show some (_, _, _) = _
    rw [e2]
    exact congrArg some (Prod.ext e3 (Prod.ext e4 rfl))
end Wm
namespace Wm
open PySem L2 He ClX StX
/-- what is asked of an error class of one field -/
def errB (K : PySem.W.Frag) (C fI : Addr) (f : Str) : Bool :=
  eqO (PySem.W.findIn K (.ref C) "__setattr__") (some (some (.builtin "object.__setattr__"))) && (decide (PySem.W.subIn K (.ref C) (.type "BaseException") = some true) && (decide (PySem.W.typeIn K (.ref C) = some (.type "type")) && (PySem.W.keepIn K (.ref C) &&
  (decide (PySem.W.typeIn K (.ref fI) = some (.type "function")) && (eqO (PySem.W.findIn K (.ref C) "kind") (some none) && (eqO (PySem.W.findIn K (.ref C) f) (some none) && (eqO (PySem.W.findIn K (.ref C) "__getattribute__") (some (some (.builtin "BaseException.__getattribute__"))) &&
  (eqO (PySem.W.findIn K (.ref C) "__getattr__") (some none) && (PySem.W.hasDictIn K C && (eqO (PySem.W.findIn K (.ref C) "__class__") (some (some (.builtin "object.__class__"))) && (decide (PySem.W.mroIn K C (.type "object") = some true) &&
  (eqO (PySem.W.findIn K (.ref C) "__init__") (some (some (.ref fI))) && (excB K C && (decide (PySem.W.exmOne K (.ref C) (.ref C) = some true) && (eqO (PySem.W.specialIn K (.builtin "object.__class__") "__get__") (some (some (.builtin "getset_descriptor.__get__"))) && decide (PySem.W.takesIn K (.builtin "object.__class__") = some true))))))))))))))))
def factL : List Fa := [.glo "is_name", .glo "refuse_no_name", .glo "first_twice", .glo "refuse_twice", .glo "refuse_count", .glo "own_list", .glo "refuse_makings_twice", .glo "refuse_no_sort", .glo "refuse_upward", .glo "refuse_no_word", .glo "check_scheme", .glo "sorts_held", .glo "_law_cell_at", .glo "_law_well", .glo "_law_draw", .glo "_law_pick", .glo "_law_name", .glo "_law_names", .glo "_law_due", .glo "_law_right", .glo "law", .glo "Scheme", .cls "Scheme", .noat "Scheme" "own_sorts", .noat "Scheme" "own_words", .noat "Scheme" "own_makings", .noat "Scheme" "own_rules", .noat "Scheme" "own_bars", .mkr "Scheme", .glo "House", .cls "House", .noat "House" "own_scheme", .noat "House" "sort_by_name", .noat "House" "awake_by_name", .noat "House" "standing", .mkr "House", .meth "Scheme" "sorts", .meth "Scheme" "words", .meth "House" "give", .meth "House" "take", .meth "House" "sleep", .meth "House" "sort_of", .meth "House" "held", .meth "House" "refuse_no_thing", .meth "House" "refuse_strange", .meth "House" "enter", .free "abs", .free "int", .free "len", .free "range", .free "all", .free "tuple", .free "enumerate", .free "isinstance", .free "ValueError", .free "list", .free "str", .free "sorted", .free "set", .str "LETTERS" "abcdefghijklmnopqrstuvwxyz", .str "FIGURES" "0123456789", .int "LONGEST_NAME" 12, .int "MOST_SORTS" 4, .int "MOST_WORDS" 5, .int "MOST_RULES" 8, .int "MOST_BARS" 4, .int "MOST_THINGS" 60]
def ck (K : PySem.W.Frag) : Bool := factL.all (fun f => f.ok K)
def d_is_name : DefD := ⟨("is_name", none), "is_name", "is_name", defArgs sName, defBody sName, defScope sName, [], []⟩
def d_refuse_no_name : DefD := ⟨("refuse_no_name", none), "refuse_no_name", "refuse_no_name", defArgs sRN, defBody sRN, defScope sRN, [], []⟩
def d_first_twice : DefD := ⟨("first_twice", none), "first_twice", "first_twice", defArgs sFT, defBody sFT, defScope sFT, [], []⟩
def d_refuse_twice : DefD := ⟨("refuse_twice", none), "refuse_twice", "refuse_twice", defArgs sRT, defBody sRT, defScope sRT, [], []⟩
def d_refuse_count : DefD := ⟨("refuse_count", none), "refuse_count", "refuse_count", defArgs sRC, defBody sRC, defScope sRC, [], []⟩
def d_own_list : DefD := ⟨("own_list", none), "own_list", "own_list", defArgs sOL, defBody sOL, defScope sOL, [], []⟩
def d_refuse_makings_twice : DefD := ⟨("refuse_makings_twice", none), "refuse_makings_twice", "refuse_makings_twice", defArgs sRMT, defBody sRMT, defScope sRMT, [], []⟩
def d_refuse_no_sort : DefD := ⟨("refuse_no_sort", none), "refuse_no_sort", "refuse_no_sort", defArgs sRNS, defBody sRNS, defScope sRNS, [], []⟩
def d_refuse_upward : DefD := ⟨("refuse_upward", none), "refuse_upward", "refuse_upward", defArgs sRU, defBody sRU, defScope sRU, [], []⟩
def d_refuse_no_word : DefD := ⟨("refuse_no_word", none), "refuse_no_word", "refuse_no_word", defArgs sRNW, defBody sRNW, defScope sRNW, [], []⟩
def d_check_scheme : DefD := ⟨("check_scheme", none), "check_scheme", "check_scheme", defArgs sCS, defBody sCS, defScope sCS, [], []⟩
def d_sorts_held : DefD := ⟨("sorts_held", none), "sorts_held", "sorts_held", defArgs sSh, defBody sSh, defScope sSh, [], []⟩
def d__law_cell_at : DefD := ⟨("_law_cell_at", none), "_law_cell_at", "_law_cell_at", defArgs sCel, defBody sCel, defScope sCel, [], []⟩
def d__law_well : DefD := ⟨("_law_well", none), "_law_well", "_law_well", defArgs sWel, defBody sWel, defScope sWel, [], []⟩
def d__law_draw : DefD := ⟨("_law_draw", none), "_law_draw", "_law_draw", defArgs sDrw, defBody sDrw, defScope sDrw, [], []⟩
def d__law_pick : DefD := ⟨("_law_pick", none), "_law_pick", "_law_pick", defArgs sPck, defBody sPck, defScope sPck, [], []⟩
def d__law_name : DefD := ⟨("_law_name", none), "_law_name", "_law_name", defArgs sNam, defBody sNam, defScope sNam, [], []⟩
def d__law_names : DefD := ⟨("_law_names", none), "_law_names", "_law_names", defArgs sNms, defBody sNms, defScope sNms, [], []⟩
def d__law_due : DefD := ⟨("_law_due", none), "_law_due", "_law_due", defArgs sDu, defBody sDu, defScope sDu, [], []⟩
def d__law_right : DefD := ⟨("_law_right", none), "_law_right", "_law_right", defArgs sRi, defBody sRi, defScope sRi, [], []⟩
def d_law : DefD := ⟨("law", none), "law", "law", defArgs sLaw, defBody sLaw, defScope sLaw, [], []⟩
def d_Scheme_sorts : DefD := ⟨("Scheme", some "sorts"), "sorts", "Scheme.sorts", defArgs sSor, defBody sSor, defScope sSor, [], []⟩
def d_Scheme_words : DefD := ⟨("Scheme", some "words"), "words", "Scheme.words", defArgs sWor, defBody sWor, defScope sWor, [], []⟩
def d_House___init__ : DefD := ⟨("House", some "__init__"), "__init__", "House.__init__", defArgs sHin, defBody sHin, defScope sHin, [], []⟩
def d_House_give : DefD := ⟨("House", some "give"), "give", "House.give", defArgs sHgi, defBody sHgi, defScope sHgi, [], []⟩
def d_House_take : DefD := ⟨("House", some "take"), "take", "House.take", defArgs sHta, defBody sHta, defScope sHta, [], []⟩
def d_House_sleep : DefD := ⟨("House", some "sleep"), "sleep", "House.sleep", defArgs sHsl, defBody sHsl, defScope sHsl, [], []⟩
def d_House_sort_of : DefD := ⟨("House", some "sort_of"), "sort_of", "House.sort_of", defArgs sHso, defBody sHso, defScope sHso, [], []⟩
def d_House_held : DefD := ⟨("House", some "held"), "held", "House.held", defArgs sHhe, defBody sHhe, defScope sHhe, [], []⟩
def d_House_refuse_no_thing : DefD := ⟨("House", some "refuse_no_thing"), "refuse_no_thing", "House.refuse_no_thing", defArgs sHrt, defBody sHrt, defScope sHrt, [], []⟩
def d_House_refuse_strange : DefD := ⟨("House", some "refuse_strange"), "refuse_strange", "House.refuse_strange", defArgs sHrs, defBody sHrs, defScope sHrs, [], []⟩
def dSch : DefD := ⟨("Scheme", some "__init__"), "__init__", "Scheme.__init__", defArgs sSch, defBody sSch, defScope sSch, [.non, .non, .non], []⟩
def dEnt : DefD := ⟨("House", some "enter"), "enter", "House.enter", defArgs sHen, defBody sHen, defScope sHen, [.bl true], []⟩
def fnL : List DefD := [d_is_name, d_refuse_no_name, d_first_twice, d_refuse_twice, d_refuse_count, d_own_list, d_refuse_makings_twice, d_refuse_no_sort, d_refuse_upward, d_refuse_no_word, d_check_scheme, d_sorts_held, d__law_cell_at, d__law_well, d__law_draw, d__law_pick, d__law_name, d__law_names, d__law_due, d__law_right, d_law, d_Scheme_sorts, d_Scheme_words, d_House___init__, d_House_give, d_House_take, d_House_sleep, d_House_sort_of, d_House_held, d_House_refuse_no_thing, d_House_refuse_strange, dSch, dEnt]
end Wm
set_option maxHeartbeats 0
namespace Wm
open PySem PySem.W PySem.Calls PyProof.Rows
abbrev RW : OpenRow := OpenLaw.row PySem.Challenge.rw_whomay_k79_sorts_held
noncomputable abbrev hkW : Hook := hookB 4 ck fnL
noncomputable def obW (s : SharedT) : He.AlD := obsBG 4 ck fnL (HandSHeadRun.getT s)
theorem obW_eq (s : SharedT) : obW s = hkW.obs s.abs := obsBG_eq (HandSHeadRun.getT_eq s)
def lo0 : List PySem.Str := ["_wall", "WhoError", "NoName", "BadCount", "Twice", "NoSort", "Upward", "NoWord", "NoRule", "NoBar", "NoThing", "Taken", "Full", "NotHeld", "LETTERS", "FIGURES", "LONGEST_NAME", "is_name", "refuse_no_name", "first_twice", "refuse_twice", "refuse_count", "MOST_THINGS", "House", "MOST_SORTS", "MOST_WORDS", "MOST_RULES", "MOST_BARS", "own_list", "refuse_makings_twice"]
def lo1 : List PySem.Str := ["refuse_no_sort", "refuse_upward", "refuse_no_word", "check_scheme", "Scheme", "sorts_held", "_law_cell_at", "_law_well", "_law_draw", "_law_pick", "_law_name", "_law_names", "_law_due", "_law_right"]
def loW : List PySem.Str := lo0 ++ lo1
theorem runWA (w : World) : RunA RW (view RW.prog [50]) 20000 loW w := by
  intro os
  kernel_rfl
theorem runWB (w : World) : RunB RW hkW obW 20000 w := by
  intro os
  kernel_rfl
theorem runW (w : World) : HandSHeadRun.RunEq RW (view RW.prog [50]) hkW obW 20000 loW w := runEq_of (runWA w) (runWB w)
end Wm
namespace Wm
open PySem L2
/-- all that was tracked is as it was, but at p -/
def But (p : Addr) (H H' : Hp) : Prop := ∀ q o, q ≠ p → H q = some o → H' q = some o
theorem But.refl (p : Addr) (H : Hp) : But p H H := fun _ _ _ h => h
theorem But.trans {p : Addr} {H H1 H2 : Hp} (a : But p H H1) (b : But p H1 H2) : But p H H2 := fun q o n h => b q o n (a q o n h)
theorem But.upd {p : Addr} {H : Hp} {o : HO} : But p H (upd H p o) := fun q o n h => by rw [upd_ne n]; exact h
theorem Same.but {p : Addr} {H H1 : Hp} (a : Same H H1) : But p H H1 := fun q o _ h => a q o h
theorem Same.upd {p : Addr} {H : Hp} {o : HO} (n : H p = none) : Same H (upd H p o) := fun q o h => by rw [upd_ne (ne_of_none h n)]; exact h
theorem But.same {p : Addr} {H0 H H1 : Hp} (n : H0 p = none) (a : Same H0 H) (b : But p H H1) : Same H0 H1 := fun q o h => b q o (ne_of_none h n) (a q o h)
/-- a well at p, drawn from at most n times -/
def StN (n : Nat) (H : Hp) (p : Addr) : Prop := ∃ a b c : Int, H p = some (.lst [.int a, .int b, .int c]) ∧ 0 ≤ b ∧ b < 2147483648 ∧ 0 ≤ c ∧ c ≤ n
def StOk (H : Hp) (p : Addr) : Prop := ∃ a b c : Int, H p = some (.lst [.int a, .int b, .int c]) ∧ 0 ≤ b
theorem StN.ok {n : Nat} {H : Hp} {p : Addr} (h : StN n H p) : StOk H p := by
  obtain ⟨a, b, c, e, q, _⟩ := h
  exact ⟨a, b, c, e, q⟩
theorem StN.mono {n m : Nat} {H : Hp} {p : Addr} (h : StN n H p) (l : n ≤ m) : StN m H p := by
  obtain ⟨a, b, c, e, b0, b1, c0, c1⟩ := h
  exact ⟨a, b, c, e, b0, b1, c0, by omega⟩
def spWel : Sp := fun vs H Q _ => ∃ i : Int, vs = [.int i] ∧ ∀ p H', H p = none → Same H H' → StN 0 H' p → Q (.ref p) H'
def spDrw : Sp := fun vs H Q _ => ∃ (p : Addr) (n : Int) (k : Nat), vs = [.ref p, .int n] ∧ StN k H p ∧ k ≤ 1000000 ∧ 0 < n ∧ n < 1073741824 ∧ ∀ (d : Int) H', 0 ≤ d → d < n → But p H H' → StN (k + 1) H' p → Q (.int d) H'
structure TxB (mg : Str → Option Value) : Prop where
  abs : mg "abs" = none
  int : mg "int" = none
  len : mg "len" = none
  range : mg "range" = none
  all : mg "all" = none
  tuple : mg "tuple" = none
  enumerate : mg "enumerate" = none
  isinstance : mg "isinstance" = none
  ve : mg "ValueError" = none
section
variable {P : Program} {w : World} {K : PySem.W.Frag} {mg : Str → Option Value} {base : Heap}
theorem scWel : FnScope ["_law_cell"] ["_law_cell"] (defScope sWel) := ⟨rfl, rfl, rfl, by decide +kernel, rfl, by decide +kernel, by decide +kernel⟩
theorem ok_wel {f : Addr} {fd : FuncData} (F : Fun K "_law_well" "_law_well" sWel f fd) (T : TxB mg) : FnOk P w K mg base CX0 1 f fd ["_law_cell"] spWel := by
  refine F.ok scWel (fun vs H Q E h => ?_) (fun cdv A outer s H vs Q E hr h => ?_)
  · obtain ⟨i, rfl, _⟩ := h
    rfl
  · obtain ⟨i, rfl, k⟩ := h
    refine ⟨_, (pss_one (ps_ret (pe_lst (pa_cons (pe_op op_mul (pv 0) (pe_callTy call_int1 (by rfl) T.int (by decide +kernel) (pa_cons (pe_cmpR op_ge (pv 0) (pe_op op_pow pe_int pe_int) (nomark _)) pa_nil))) (pa_cons (pe_op op_mod (pv 0) pe_int) (pa_cons pe_int pa_nil)))))), ?_⟩
    refine ⟨_, rfl, _, rfl, _, _, rfl, rfl, ⟨by decide, by decide, by decide⟩, _, _, rfl, rfl, .inr ⟨_, rfl, ?_⟩⟩
    refine ⟨_, _, rfl, rfl, .inr ⟨by split <;> decide, by split <;> decide⟩, _, rfl, _, _, rfl, rfl, (by show (0 : Int) < 2147483647; decide), (by show 3 ≤ sizeLine; decide), fun p hp => ?_⟩
    refine k p _ hp (Same.upd hp) ⟨_, _, _, upd_same, ?_, ?_, by decide, by decide⟩
    · exact Int.emod_nonneg i (by decide)
    · have := Int.emod_lt_of_pos i (show (0 : Int) < 2147483647 by decide)
      omega
theorem scDrw : FnScope ["_law_well_here", "_law_many", "_law_found", "_law_number"] ["_law_well_here", "_law_many"] (defScope sDrw) := ⟨rfl, rfl, rfl, by decide +kernel, rfl, by decide +kernel, by decide +kernel⟩
theorem ok_drw {f : Addr} {fd : FuncData} (F : Fun K "_law_draw" "_law_draw" sDrw f fd) : FnOk P w K mg base CX0 1 f fd ["_law_well_here", "_law_many"] spDrw := by
  refine F.ok scDrw (fun vs H Q E h => ?_) (fun cdv A outer s H vs Q E hr h => ?_)
  · obtain ⟨p, n, k, rfl, _⟩ := h
    rfl
  · obtain ⟨p, n, k, rfl, ⟨a, b, c, hp, b0, b1, c0, c1⟩, hk, hn, hn2, kk⟩ := h
    refine ⟨_, (pss_cons (ps_if (pt_cmpR op_gt (pe_ix ix_list (pv 0) pe_int (fun _ _ => rfl)) pe_int (nomark _)) (pss_cons (ps_set (i := 2) scDrw.nd rfl (Or.inl rfl) (pe_op op_mod (pe_ix ix_list (pv 0) pe_int (fun _ _ => rfl)) (pv 1)))
      (pss_cons (ps_asg (pe_op op_fdiv (pe_ix ix_list (pv 0) pe_int (fun _ _ => rfl)) (pv 1)) (pg_sub (pv 0) pe_int set_list))
      (pss_one (ps_ret (pv 2))))) pss_nil)
      (pss_cons (ps_asg (pe_op op_add (pe_ix ix_list (pv 0) pe_int (fun _ _ => rfl)) pe_int) (pg_sub (pv 0) pe_int set_list))
      (pss_cons (ps_set (i := 3) scDrw.nd rfl (Or.inl rfl) (pe_op op_mod (pe_op op_pow (pe_op op_add (pe_op op_add (pe_ix ix_list (pv 0) pe_int (fun _ _ => rfl)) (pe_op op_mul pe_int (pe_ix ix_list (pv 0) pe_int (fun _ _ => rfl)))) pe_int) pe_int) pe_int))
      (pss_cons (ps_set (i := 3) scDrw.nd rfl (Or.inl rfl) (pe_op op_mod (pe_op op_mul (pv 3) (pe_op op_add (pe_op op_fdiv (pv 3) pe_int) pe_int)) pe_int))
      (pss_one (ps_ret (pe_op op_mod (pe_op op_mod (pe_op op_mul (pv 3) (pe_op op_add (pe_op op_fdiv (pv 3) pe_int) pe_int)) pe_int) (pv 1)))))))), ?_⟩
    refine ⟨_, rfl, p, _, _, _, rfl, rfl, SqL.of hp, atI_nat (j := 0) rfl, _, _, rfl, rfl, _, rfl, ?_⟩
    refine ite2 (fun h0 => ?_) (fun h0 => ?_)
    · refine ⟨_, rfl, p, _, _, _, rfl, rfl, SqL.of hp, atI_nat (j := 0) rfl, _, rfl, _, _, rfl, rfl, hn, ?_⟩
      refine ⟨_, rfl, p, _, _, _, rfl, rfl, SqL.of hp, atI_nat (j := 0) rfl, _, rfl, _, _, rfl, rfl, ⟨hn, hn2⟩, _, rfl, p, _, _, 0, rfl, rfl, hp, rfl, _, rfl, ?_⟩
      exact kk _ _ (Int.emod_nonneg a (by omega)) (Int.emod_lt_of_pos a hn) But.upd ⟨_, _, _, upd_same, b0, b1, c0, by omega⟩
    · refine ⟨_, rfl, p, _, _, _, rfl, rfl, SqL.of hp, atI_nat (j := 2) rfl, _, _, rfl, rfl, _, rfl, p, _, _, 2, rfl, rfl, hp, rfl, ?_⟩
      have e1 : (L2.upd H p (.lst ([V.int a, .int b, .int c].set 2 (.int (c + 1))))) p = some (.lst [.int a, .int b, .int (c + 1)]) := upd_same
      have B1 : But p H (L2.upd H p (.lst ([V.int a, .int b, .int c].set 2 (.int (c + 1))))) := But.upd
      generalize L2.upd H p (.lst ([V.int a, .int b, .int c].set 2 (.int (c + 1)))) = H1 at e1 B1
      refine ⟨_, rfl, p, _, _, _, rfl, rfl, SqL.of e1, atI_nat (j := 1) rfl, _, rfl, p, _, _, _, rfl, rfl, SqL.of e1, atI_nat (j := 2) rfl, _, _, rfl, rfl, .inl ⟨by decide, by decide⟩, _, _, rfl, rfl, _, _, rfl, rfl, _, _, rfl, rfl, ?_, _, _, rfl, rfl, (by show (0 : Int) < 2147483647; decide), ?_⟩
      · refine ⟨by decide, by decide, ?_⟩
        show (b + 7919 * (c + 1) + 1).natAbs < 18446744073709551616
        omega
      generalize hx : (b + 7919 * (c + 1) + 1) ^ (3 : Int).toNat % 2147483647 = x
      have x0 : 0 ≤ x := by rw [← hx]; exact Int.emod_nonneg _ (by decide)
      have x1 : x < 2147483647 := by rw [← hx]; exact Int.emod_lt_of_pos _ (by decide)
      refine ⟨_, rfl, _, rfl, _, _, rfl, rfl, ⟨by decide, by decide⟩, _, _, rfl, rfl, _, _, rfl, rfl, .inl ⟨by omega, by omega⟩, _, _, rfl, rfl, (by show (0 : Int) < 2147483629; decide), ?_⟩
      generalize hy : x * (x / 1009 + 69621) % 2147483629 = y
      have y0 : 0 ≤ y := by rw [← hy]; exact Int.emod_nonneg _ (by decide)
      have y1 : y < 2147483629 := by rw [← hy]; exact Int.emod_lt_of_pos _ (by decide)
      refine ⟨_, rfl, _, rfl, _, _, rfl, rfl, ⟨by decide, by decide⟩, _, _, rfl, rfl, _, _, rfl, rfl, .inl ⟨by omega, by omega⟩, _, _, rfl, rfl, (by show (0 : Int) < 2147483587; decide), _, rfl, _, _, rfl, rfl, hn, ?_⟩
      exact kk _ _ (Int.emod_nonneg _ (by omega)) (Int.emod_lt_of_pos _ hn) B1 ⟨a, b, c + 1, e1, b0, b1, by omega, by omega⟩
end
end Wm
namespace Wm
open PySem L2
/-- a def of the module's top -/
structure Dn (K : PySem.W.Frag) (mg : Str → Option Value) (x : Str) (st : Stmt) (ps : List Str) (f : Addr) (fd : FuncData) : Prop where
  F : Fun K x x st f fd
  g : mg x = some (.ref f)
  b : Binds K fd ps []
theorem str_at (z : Str) {i : Int} (h0 : 0 ≤ i) (h1 : i < z.length) : ∃ c, z.cps[i.toNat]? = some c := by
  have h : i.toNat < z.cps.size := by
    have e : z.length = z.cps.size := rfl
    omega
  exact ⟨z.cps[i.toNat], Array.getElem?_eq_getElem h⟩
/-- every sign is one of unicode's -/
def okS (z : Str) : Prop := ∀ c ∈ z.cps.toList, c < 1114112
theorem okS_one {c : Nat} (h : c < 1114112) : okS ⟨#[c]⟩ := fun d hd => by
  have e : d = c := by simpa using hd
  rw [e]
  exact h
theorem okS_app {a b : Str} (ha : okS a) (hb : okS b) : okS (a ++ b) := fun c hc => by
  have e : (a ++ b).cps.toList = a.cps.toList ++ b.cps.toList := by
    show (a.cps ++ b.cps).toList = _
    simp
  rw [e] at hc
  rcases List.mem_append.mp hc with h | h
  · exact ha c h
  · exact hb c h
theorem rdItem {z : Str} {i : Int} {n : Nat} {H : Hp} {Q : VK} (hz : z.length = n) (h0 : 0 ≤ i) (h1 : i < n) (hn : n < 1000000) (h : ∀ c, z.cps.toList[i.toNat]? = some c → Q (.str ⟨#[c]⟩) H) : rIxS (.str z) (.int i) H Q := by
  have h2 : i < z.length := by rw [hz]; exact h1
  obtain ⟨c, hc⟩ := str_at z h0 h2
  have hl : z.cps.toList[i.toNat]? = some c := by simpa using hc
  have e : i = ((i.toNat : Nat) : Int) := by omega
  refine ⟨z, i, c, rfl, rfl, by rw [hz]; exact Nat.le_trans (Nat.le_of_lt hn) (by decide), ?_, h c hl⟩
  rw [e]
  exact atI_nat hl
theorem abcOk : ∀ c ∈ (PySem.Str.ofString "abcdefghijklmnopqrstuvwxyz0123456789").cps.toList, c < 1114112 := by decide +kernel
theorem abc36 : (PySem.Str.ofString "abcdefghijklmnopqrstuvwxyz0123456789").length = 36 := by decide +kernel
theorem len_app (a b : Str) : (a ++ b).length = a.length + b.length := by
  show (a.cps ++ b.cps).size = a.cps.size + b.cps.size
  exact Array.size_append
theorem len_one (c : Nat) : (⟨#[c]⟩ : Str).length = 1 := rfl
section
variable {P : Program} {w : World} {K : PySem.W.Frag} {mg : Str → Option Value} {base : Heap}
end
end Wm
namespace Wm
open PySem L2
theorem strs_at {zs : List Str} {n : Nat} (h : ∀ z ∈ zs, z.length ≤ n) (ho : ∀ z ∈ zs, ∀ c ∈ z.cps.toList, c < 1114112) {j : Nat} (hj : j < zs.length) : ∃ z, (zs.map V.str)[j]? = some (.str z) ∧ z.length ≤ n ∧ okS z :=
  ⟨zs[j], by simp [hj], h _ (List.getElem_mem hj), ho _ (List.getElem_mem hj)⟩
theorem okS_cut {z : Str} (h : okS z) (lo hi : Option Int) : okS (cutS z lo hi) := fun c hc => by
  have hc' : c ∈ (z.cps.toList.drop (HT.sIx z.length 0 lo)).take (HT.sIx z.length z.length hi - HT.sIx z.length 0 lo) := hc
  exact h c (List.mem_of_mem_drop (List.mem_of_mem_take hc'))
theorem okS_join {a : Str} {ys : List Str} (ha : okS a) (h : ∀ y ∈ ys, okS y) : okS (Txt.join a ys) := by
  have e : Txt.join a ys = Str.join a ys := StrLaws.glued_eq_join a ys
  rw [e]
  clear e
  induction ys with
  | nil => exact fun c hc => (List.not_mem_nil (show c ∈ ([] : List Nat) from hc)).elim
  | cons y r ih =>
    cases r with
    | nil => exact h y List.mem_cons_self
    | cons z r =>
      show okS (y ++ a ++ Str.join a (z :: r))
      exact okS_app (okS_app (h y List.mem_cons_self) ha) (ih fun x hx => h x (List.mem_cons_of_mem _ hx))
theorem rdList {K : PySem.W.Frag} {p : Addr} {xs : List V} {i : Int} {j : Nat} {v : V} {H : Hp} {Q : VK} (hp : H p = some (.lst xs)) (e : i = (j : Int)) (hv : xs[j]? = some v) (h : Q v H) : rIxL K (.ref p) (.int i) H Q :=
  ⟨p, xs, i, v, rfl, rfl, SqL.of hp, at_of e hv, h⟩
theorem But.free {p D : Addr} {H H' : Hp} (b : But p H H') (n : D ≠ p) (h : H' D = none) : H D = none := by
  cases e : H D with
  | none => rfl
  | some o =>
    rw [b D o n e] at h
    cases h
theorem sum_ones : ∀ {ys : List Str}, (∀ y ∈ ys, y.length = 1) → (ys.map (·.length)).sum = ys.length
  | [], _ => rfl
  | y :: ys, h => by
    rw [List.map_cons, List.sum_cons, List.length_cons, h y List.mem_cons_self, sum_ones fun z hz => h z (List.mem_cons_of_mem _ hz)]
    omega
theorem join_len (a : Str) (ys : List Str) : (Txt.join a ys).length ≤ (ys.map (·.length)).sum + ys.length * a.length := by
  show (Builtin.Str.glued a ys).length ≤ _
  rw [StrLaws.glued_eq_join]
  exact StrLaws.join_length_le a ys
section
variable {P : Program} {w : World} {K : PySem.W.Frag} {mg : Str → Option Value} {base : Heap}
end
end Wm
namespace Wm
open PySem PySem.Spec PyProof.Rows L2 ClX
section
variable {X : Cx} {CX : CXT} {k : Nat} {C f : Addr} {fd : FuncData} {ps : List Str} {sp : Sp} {E : XK} {e : Expr} {es : List Expr} {t : TA} {x m : Str} {p1 p2 pos : Pos} {ds : List Value} {dvs : List V}
/-- C.f(e, ..), f a def of the class C -/
theorem pe_clsFn {pl : Sem Bool} {mc : Value} (hg : Gl X x) (hm : X.mg x = some (.ref C)) (r : CRead X.K C mc) (ht : PySem.W.findCls X.K (.ref C) mc m = some (.val (.ref f))) (hk : PySem.W.keepIn X.K (.ref f) = true) (F : FnOk X.prog X.w X.K X.mg X.base CX k f fd ps sp)
    (hr : Room k X.A) (hb : Binds X.K fd ps ds) (hd : Vals dvs ds) (hx : Passes CX X E) (ha : PA X (e :: es) t)
    (hc : eval (.Call (.Attribute (.Name x p1) m p2) (e :: es) [] pos) X.env = (do
      let ov ← eval (.Name x p1) X.env
      standAt p2.atName
      let (f, first) ← holding [ov] (getMethod ov m pl)
      callWith pos f first (backTo pos (starEach (e :: es) X.env)) (backToKw pos (keywordEach [] X.env))) := by rfl)
    (hdb : (x == ("__debug__" : Str)) = false := by decide) (he : starEach (e :: es) X.env = (false, eval e X.env) :: starEach es X.env := by rfl) (hpl : (backTo pos (starEach es X.env)).any (·.1) = false := by rfl) :
    PE X (.Call (.Attribute (.Name x p1) m p2) (e :: es) [] pos) (tCall sp dvs E t) := by
  refine ⟨fun pins s σ H Q I h => ?_⟩
  refine PySem.W.methodCall_KW (ld_glob I hg hm ?_ hdb) hc
  refine PySem.W.method_cls I.kIn r.ga (PySem.W.cls_value I.kIn r.rd ht rfl ?_)
  show wpAny _ _ (callWith pos (Value.ref f) [] (backTo pos (starEach (e :: es) X.env)) []) _ _ _
  refine PySem.W.callWith_K (h₀ := X.base) I.ok.mod.kin hk (thn (ha.run pos pins _ σ H _ (I.tok _) h) fun us s1 ⟨vs, H1, I1, r1, q⟩ => ⟨I1.kIn, ?_⟩) he hpl
  exact run_fn F hr hb hd hx I1 r1 q
/-- xs + ys, both to be read -/
def rCatR (K : PySem.W.Frag) : R2 := fun x y H Q => ∃ l b xs zs, x = .ref l ∧ y = .ref b ∧ SqL K H l xs ∧ SqL K H b zs ∧ xs.length + zs.length ≤ sizeLine ∧ ∀ p, H p = none → Q (.ref p) (upd H p (.lst (xs ++ zs)))
theorem op_catR : OpR X (binaryOp .Add) (rCatR X.K) := by
  intro pins s σ H x y v u Q I rx ry h
  obtain ⟨l, b, xs, zs, rfl, rfl, hH, hB, hz, q⟩ := h
  cases rx
  cases ry
  obtain ⟨its, r, e, hl⟩ := I.list hH
  obtain ⟨its2, r2, e2, hl2⟩ := I.list hB
  have l1 := r.length
  have l2 := r2.length
  obtain ⟨⟨cls, dd, data, sl⟩, ho, hc, n, hd⟩ := e.isList
  obtain ⟨⟨cls2, dd2, data2, sl2⟩, ho2, hc2, n2, hd2⟩ := e2.isList
  simp only at hc hd hc2 hd2
  subst hc hd hc2 hd2
  refine concat_meets ⟨_, ho, rfl⟩ ⟨_, ho2, rfl⟩ noFill_list_add seq_list_add PySem.F.slot_list_add PySem.F.entry_list_add (PySem.F.args_list_add_2 _ _) (list_addW l b its.toArray its2.toArray n n2 dd dd2 sl sl2 (by rw [List.size_toArray, List.size_toArray]; omega)) ⟨ho, ho2, ?_⟩
  have ea : its.toArray ++ its2.toArray = (its ++ its2).toArray := by simp
  rw [ea]
  exact ⟨.ref _, _, I.lnew (t' := s.toks) (r.append r2) (by rw [List.length_append]; omega), rfl, q _ I.fresh⟩
end
end Wm
namespace Wm
open PySem PySem.Spec PyProof.Rows L2 ClX
/-- isinstance(e, c) in an except suite, e the exception that it holds (its class D, its dict at dd) -/
def rIsX (K : PySem.W.Frag) (D a dd : Addr) : List V → Hp → VK → Prop := fun xs H Q => ∃ (c : V) (cv : Value) (b : Bool) (fs : List (Str × V)), xs = [.ref a, c] ∧ H dd = some (.xd fs) ∧ (∀ u, RelV c u → u = cv) ∧ PySem.W.kitOne K (.ref D) cv = some b ∧ Q (.bl b) H
theorem call_isX {X : Cx} {a D dd : Addr} {oe : Obj} {pn : List (Addr × Obj)} (C : ExcC X.K D) (hz : Zc (.ref D) (some dd) oe) (hf : ∃ vs, oe.data = .fields vs) : CallR (X.suite a ((a, oe) :: pn)) (.builtin "isinstance") (rIsX X.K D a dd) := by
  intro pins s σ H xs us Q I r h
  obtain ⟨c, cv, b, fs, rfl, hdd, hcv, e, q⟩ := h
  cases r with
  | cons rx rr =>
    cases rr with
    | cons rt rr =>
      cases rr
      cases rx
      have ec := hcv _ rt
      subst ec
      obtain ⟨hget, _⟩ := I.pin (a, oe) (List.mem_append.mpr (.inl List.mem_cons_self))
      obtain ⟨vs, hv⟩ := hf
      have hx : ObjOk X.prog X.w H s.heap dd (.xd fs) := I.hok dd _ hdd
      obtain ⟨mA, hns, hr⟩ := hx
      obtain ⟨od, ho, hl⟩ := lookIn_ns hns
      have J : PySem.W.InstAt s.heap a oe D (some od) := ⟨hget, hz.1, by unfold PySem.W.notCls; rw [hv] <;> rfl, by rw [hz.2]; exact ho⟩
      have hcl : (PySem.W.clsIn X.K D).isSome = true := by
        obtain ⟨cd, hc, _⟩ := PySem.W.any_some C.hd
        rw [hc]
        rfl
      exact PySem.W.kia_one (PySem.W.kitx_exc hcl C.hg C.hk C.hs C.ha C.hn C.ht C.hm) I.kIn J e (fun z => nomatch z) fun tk => ⟨.bl b, H, I.kept (t' := tk) fun _ _ z => z, rfl, q⟩
/-! ### errors of one field -/
def spWI (K : PySem.W.Frag) : Sp := fun vs H Q _ => ∃ (a C : Addr) (v : V), vs = [.ref a, v] ∧ OexC K C ∧ PySem.W.findIn K (.ref C) "kind" = some none ∧ H a = some (exo a C none) ∧ ∀ dx, H dx = none → dx ≠ a → Q .non (upd (upd H dx (exd dx [("kind", v)])) a (exo a C (some dx)))
/-- the dict of an error of one field -/
def ef1 (f kd : Str) (v : V) : List (Str × V) := [(f, v), ("kind", .str kd)]
def spE1 (C : Addr) (f kd : Str) : Sp := fun vs H Q _ => ∃ (a : Addr) (v : V), vs = [.ref a, v] ∧ H a = some (exo a C none) ∧ ∀ dx H', H dx = none → dx ≠ a → (∀ b o, b ≠ a → H b = some o → H' b = some o) → H' a = some (exo a C (some dx)) → H' dx = some (exd dx (ef1 f kd v)) → Q .non H'
/-- what is known of WhoError -/
structure WhoT (K : PySem.W.Frag) (mg : Str → Option Value) (W f0 : Addr) (fd0 : FuncData) : Prop where
  g : mg "WhoError" = some (.ref W)
  r : CRead K W (.type "type")
  m : PySem.W.findCls K (.ref W) (.type "type") "__init__" = some (.val (.ref f0))
  k : PySem.W.keepIn K (.ref f0) = true
  b : Binds K fd0 ["self", "kind"] []
/-- what is known of an error class of one field -/
structure ErrT (K : PySem.W.Frag) (mg : Str → Option Value) (x f : Str) (C fI : Addr) : Prop where
  o : OexC K C
  g : mg x = some (.ref C)
  iC : PySem.W.findIn K (.ref C) "__init__" = some (some (.ref fI))
  tI : PySem.W.typeIn K (.ref fI) = some (.type "function")
  nk : PySem.W.findIn K (.ref C) "kind" = some none
  nf : PySem.W.findIn K (.ref C) f = some none
end Wm
namespace Wm
open PySem L2
section
variable {P : Program} {w : World} {K : PySem.W.Frag} {mg : Str → Option Value} {base : Heap}
theorem scW0 : FnScope ["self", "kind"] ["self", "kind"] (defScope sW0) := ⟨rfl, rfl, rfl, by decide +kernel, rfl, by decide +kernel, by decide +kernel⟩
theorem ok_who {f : Addr} {fd : FuncData} {dvs : List V} (F : FunD K "__init__" "WhoError.__init__" (defArgs sW0) (defBody sW0) (defScope sW0) dvs [] f fd) : FnOk P w K mg base CX0 1 f fd ["self", "kind"] (spWI K) := by
  refine F.ok scW0 (fun vs H Q E h => ?_) (fun cdv A outer s H vs Q E hr h => ?_)
  · obtain ⟨a, C, v, rfl, _⟩ := h
    rfl
  · obtain ⟨a, C, v, rfl, o, nk, ha, k⟩ := h
    refine ⟨_, pss_one (ps_ost (pv 0) (pv 1)), ?_⟩
    exact ⟨_, rfl, _, rfl, a, C, rfl, o, nk, .inl ⟨ha, fun dx n ne => k dx n ne⟩⟩
theorem scN0 : FnScope ["self", "name"] ["self", "name"] (defScope sN0) := ⟨rfl, rfl, rfl, by decide +kernel, rfl, by decide +kernel, by decide +kernel⟩
theorem ok_noname {f C f0 W : Addr} {fd fd0 : FuncData} (F : Fun K "__init__" "NoName.__init__" sN0 f fd) (T : ErrT K mg "NoName" "name" C f) (TW : WhoT K mg W f0 fd0) (G0 : FnOk P w K mg base CX0 1 f0 fd0 ["self", "kind"] (spWI K)) :
    FnOk P w K mg base CX0 2 f fd ["self", "name"] (spE1 C "name" "noname") := by
  refine F.ok scN0 (fun vs H Q E h => ?_) (fun cdv A outer s H vs Q E hr h => ?_)
  · obtain ⟨a, v, rfl, _⟩ := h
    rfl
  · obtain ⟨a, v, rfl, ha, k⟩ := h
    refine ⟨_, pss_cons (ps_expr (pe_clsFn rfl TW.g TW.r TW.m TW.k G0 hr TW.b .nil pass0 (pa_cons (pv 0) (pa_cons pe_str pa_nil)))) (pss_one (ps_ost (pv 0) (pv 1))), ?_⟩
    refine ⟨_, rfl, a, C, _, rfl, T.o, T.nk, ha, fun dx n ne => ?_⟩
    refine ⟨_, rfl, _, rfl, a, C, rfl, T.o, T.nf, .inr ⟨dx, _, upd_same, Eq.trans (upd_ne ne) upd_same, by decide, ?_⟩⟩
    refine k dx _ n ne (fun b o nb e => ?_) ?_ upd_same
    · have nd : b ≠ dx := ne_of_none e n
      rw [upd_ne nd, upd_ne nb, upd_ne nd]
      exact e
    · rw [upd_ne ne.symm, upd_same]
end
end Wm
namespace Wm
open PySem L2
/-! ### names -/
def LET : List Nat := (PySem.Str.ofString "abcdefghijklmnopqrstuvwxyz").cps.toList
def FIG : List Nat := (PySem.Str.ofString "0123456789").cps.toList
def okc (c : Nat) : Bool := decide (c ∈ LET) || decide (c ∈ FIG)
def first (l : List Nat) : Bool := match l with
  | [] => false
  | c :: _ => decide (c ∈ LET)
def isNm (z : Str) : Bool := decide (1 ≤ z.length) && (decide (z.length ≤ 12) && (first z.cps.toList && z.cps.toList.all okc))
theorem alnum : (PySem.Str.ofString "abcdefghijklmnopqrstuvwxyz0123456789").cps.toList = LET ++ FIG := by decide +kernel
theorem let_fig : ∀ c ∈ LET, ¬ c ∈ FIG := by decide +kernel
theorem okc_alnum (c : Nat) : decide (c ∈ (PySem.Str.ofString "abcdefghijklmnopqrstuvwxyz0123456789").cps.toList) = okc c := by
  rw [alnum]
  unfold okc
  by_cases h : c ∈ LET <;> by_cases h2 : c ∈ FIG <;> simp [h, h2]
theorem len_eq (z : Str) : z.length = z.cps.toList.length := by
  show z.cps.size = _
  simp
theorem isNm_small {z : Str} (h : z.length < 1 ∨ 12 < z.length) : isNm z = false := by
  unfold isNm
  rcases h with h | h
  · rw [decide_eq_false (by omega)]
    rfl
  · rw [decide_eq_false (p := z.length ≤ 12) (by omega)]
    simp
theorem isNm_first {z : Str} {c : Nat} (h1 : z.cps.toList[0]? = some c) (hc : ¬ c ∈ LET) : isNm z = false := by
  unfold isNm
  have e : first z.cps.toList = false := by
    cases q : z.cps.toList with
    | nil => rfl
    | cons d r =>
      rw [q] at h1
      have e : d = c := Option.some.inj h1
      rw [e]
      exact decide_eq_false hc
  rw [e]
  simp
theorem isNm_all {z : Str} {c : Nat} (h0 : ¬ z.length < 1) (h12 : ¬ 12 < z.length) (h1 : z.cps.toList[0]? = some c) (hc : c ∈ LET) : isNm z = z.cps.toList.all okc := by
  unfold isNm
  have e : first z.cps.toList = true := by
    cases q : z.cps.toList with
    | nil =>
      rw [q] at h1
      cases h1
    | cons d r =>
      rw [q] at h1
      have e : d = c := Option.some.inj h1
      rw [e]
      exact decide_eq_true hc
  rw [e, decide_eq_true (by omega), decide_eq_true (by omega)]
  rfl
theorem isNm_fig {z : Str} {c : Nat} (h1 : z.cps.toList[0]? = some c) (hc : c ∈ FIG) : isNm z = false := isNm_first h1 fun h => let_fig c h hc
theorem isNm_all2 {z : Str} {c : Nat} (h0 : ¬ z.length < 1) (h12 : ¬ 12 < z.length) (h1 : z.cps.toList[0]? = some c) (hc : ¬ c ∈ FIG) : isNm z = z.cps.toList.all okc := by
  by_cases h : c ∈ LET
  · exact isNm_all h0 h12 h1 h
  · rw [isNm_first h1 h]
    have hm : c ∈ z.cps.toList := List.mem_of_getElem? h1
    have e : okc c = false := by
      unfold okc
      rw [decide_eq_false h, decide_eq_false hc]
      rfl
    symm
    rw [List.all_eq_false]
    exact ⟨c, hm, by rw [e]; decide⟩
theorem all_map {l : List Nat} {f : Nat → Bool} : (l.map f).all id = l.all f := by
  induction l with
  | nil => rfl
  | cons a r ih => rw [List.map_cons, List.all_cons, List.all_cons, ih]; rfl
def spName : Sp := fun vs H Q _ => ∃ z : Str, vs = [.str z] ∧ z.length ≤ 1000 ∧ ∀ H', Same H H' → Q (.bl (isNm z)) H'
/-- the constants of names.py -/
structure TxN (mg : Str → Option Value) : Prop where
  lets : ∃ t, mg "LETTERS" = some (.str (PySem.Str.ofString "abcdefghijklmnopqrstuvwxyz") t)
  figs : ∃ t, mg "FIGURES" = some (.str (PySem.Str.ofString "0123456789") t)
  long : ∃ t, mg "LONGEST_NAME" = some (.int 12 t)
/-- the reading of [f(sign) for sign in text] -/
theorem lc_signs {z : Str} {f : Nat → Bool} {g : TG} {te : TE} {vs : List Nat} {σ : St} {H1 : Hp} {D : Addr} {Qd : Hp → Prop} (hz : z.length ≤ 1000) (hD : H1 D = none)
    (he : ∀ (c : Nat) (H : Hp) (Q : St → Hp → Prop), (∀ σ2, wipe σ2 vs = wipe σ vs → (∀ Q2 : VK, Q2 (.bl (f c)) H → te σ2 H Q2) → Q σ2 H) → g (.str ⟨#[c]⟩) (wipe σ vs) H Q)
    (hd : ∀ H, Same H1 H → H D = some (.lst ((z.cps.toList.map f).map V.bl)) → Qd H) :
    ∃ W : Nat → Nat → Hp → Prop, (∃ m, W 0 m (upd H1 D (.lst []))) ∧ ∀ i m H, W i m H →
      ((Its z).stop i H ∧ Qd H) ∨ ((Its z).go i H ∧ ∃ Nx : Hp → Prop, (∀ H', Nx H' → ∃ m', m' < m ∧ W (i + 1) m' H') ∧ ∀ x H', (Its z).yld i H x H' → g x (wipe σ vs) H' fun σ2 H2 => wipe σ2 vs = wipe σ vs ∧ tYes σ2 H2 fun b H3 =>
        if b = true then te σ2 H3 fun y H4 => ∃ acc, H4 D = some (.lst acc) ∧ acc.length < sizeLine ∧ Nx (upd H4 D (.lst (acc ++ [y]))) else Nx H3) := by
  refine lc_it (walk_str (z := z)) (fun i H' => Same H1 H' ∧ H' D = some (.lst (((z.cps.toList.take i).map f).map V.bl))) ⟨Same.upd hD, upd_same⟩ (fun _ _ _ _ => True.intro) ?_ ?_
  · rintro i x H H' hi ⟨hS, hl⟩ ⟨rfl, c, hc, rfl⟩
    refine he c H' _ fun σ2 hw hq => ⟨hw, hq _ ?_⟩
    refine ⟨_, hl, ?_, ?_, ?_⟩
    · rw [List.length_map, List.length_map, List.length_take]
      have e := len_eq z
      exact Nat.lt_of_le_of_lt (show _ ≤ 1000 by omega) (by decide)
    · intro b o h
      have nb : b ≠ D := ne_of_none h hD
      rw [upd_ne nb]
      exact hS b o h
    · rw [upd_same]
      have e : z.cps.toList[i]? = some c := by simpa using hc
      have hlt : i < z.cps.toList.length := (List.getElem?_eq_some_iff.mp e).1
      rw [List.take_add_one, e, List.map_append, List.map_append]
      rfl
  · rintro H ⟨hS, hl⟩
    refine hd H hS ?_
    rw [hl, List.take_of_length_le (by simp)]
section
variable {P : Program} {w : World} {K : PySem.W.Frag} {mg : Str → Option Value} {base : Heap}
theorem scName : FnScope ["text", "sign"] ["text"] (defScope sName) := ⟨rfl, rfl, rfl, by decide +kernel, rfl, by decide +kernel, by decide +kernel⟩
theorem ok_name {f : Addr} {fd : FuncData} (F : Fun K "is_name" "is_name" sName f fd) (T : TxB mg) (TN : TxN mg) : FnOk P w K mg base CX0 1 f fd ["text"] spName := by
  obtain ⟨t1, hlet⟩ := TN.lets
  obtain ⟨t2, hfig⟩ := TN.figs
  obtain ⟨t3, hlong⟩ := TN.long
  refine F.ok scName (fun vs H Q E h => ?_) (fun cdv A outer s H vs Q E hr h => ?_)
  · obtain ⟨z, rfl, _⟩ := h
    rfl
  · obtain ⟨z, rfl, hz, k⟩ := h
    have hzl : z.length ≤ sizeLine := Nat.le_trans hz (by decide)
    refine ⟨_, (pss_cons (ps_if (PW.pt (pw_or (pt_cmpR op_lt (pe_callB call_len_str (by rfl) T.len (by decide +kernel) (pa_cons (pv 0) pa_nil)) pe_int (nomark _)) (pw_or1 (pt_cmpR op_gt (pe_callB call_len_str (by rfl) T.len (by decide +kernel) (pa_cons (pv 0) pa_nil)) (pe_glob (v := .int 12) (by rfl) hlong ⟨_, rfl⟩) (nomark _))))) (pss_one (ps_ret pe_bl)) pss_nil)
      (pss_cons (ps_if (pt_cmpR op_notIn_sign (pe_ix ix_str (pv 0) pe_int (fun _ _ => rfl)) (pe_glob (v := .str (PySem.Str.ofString "abcdefghijklmnopqrstuvwxyz")) (by rfl) hlet ⟨_, rfl⟩) (by rfl)) (pss_one (ps_ret pe_bl)) pss_nil)
      (pss_one (ps_ret (pe_callB (cr_all rfl) (by rfl) T.all (by decide +kernel) (pa_cons (pe_lc (own := [("sign", 1)]) (g := gName 1) rfl scName.nd (pi_str (pv 0)) (blkOk_by (N := ["text", "sign"]) (sc := defScope sName) (by decide +kernel)) (fun _ _ _ _ _ => (pg_name (i := 1) scName.nd rfl (Or.inl rfl))) (fun _ _ _ _ _ => pts_nil) (fun _ _ _ _ _ => (pe_or (pe_cmpR op_in_sign (pv 1) (pe_glob (v := .str (PySem.Str.ofString "abcdefghijklmnopqrstuvwxyz")) (by rfl) hlet ⟨_, rfl⟩) (by rfl)) (pe_one (pe_cmpR op_in_sign (pv 1) (pe_glob (v := .str (PySem.Str.ofString "0123456789")) (by rfl) hfig ⟨_, rfl⟩) (by rfl)))))) pa_nil)))))), ?_⟩
    refine ⟨_, rfl, z, rfl, hzl, _, _, rfl, rfl, _, rfl, ?_⟩
    refine ite2 (fun h1 => ?_) (fun h1 => ?_)
    · have h1' : (z.length : Int) < 1 := of_decide_eq_true h1
      refine iteT ?_
      have e : isNm z = false := isNm_small (.inl (by omega))
      have q := k H (Same.refl H)
      rw [e] at q
      exact q
    refine ⟨_, rfl, z, rfl, hzl, _, _, rfl, rfl, _, rfl, ?_⟩
    refine ite2 (fun h2 => ?_) (fun h2 => ?_)
    · have h2' : (12 : Int) < z.length := of_decide_eq_true h2
      have e : isNm z = false := isNm_small (.inr (by omega))
      have q := k H (Same.refl H)
      rw [e] at q
      exact q
    have h1' : ¬ z.length < 1 := fun x => h1 (decide_eq_true (by omega))
    have h2' : ¬ 12 < z.length := fun x => h2 (decide_eq_true (by omega))
    refine ⟨_, rfl, ?_⟩
    dsimp only [tC]
    refine rdItem (n := z.length) rfl (by decide) (by omega) (by omega) fun c hc => ?_
    refine ⟨c, _, rfl, rfl, _, rfl, ?_⟩
    refine ite2 (fun h3 => ?_) (fun h3 => ?_)
    · have h3' : ¬ c ∈ LET := fun x => by
        rw [show decide (c ∈ (PySem.Str.ofString "abcdefghijklmnopqrstuvwxyz").cps.toList) = true from decide_eq_true x] at h3
        cases h3
      have q := k H (Same.refl H)
      rw [isNm_first hc h3'] at q
      exact q
    have h3' : c ∈ LET := by
      by_cases x : c ∈ LET
      · exact x
      · rw [show decide (c ∈ (PySem.Str.ofString "abcdefghijklmnopqrstuvwxyz").cps.toList) = false from decide_eq_false x] at h3
        exact absurd rfl h3
    refine ⟨_, rfl, z, rfl, fun D hD => ?_⟩
    refine lc_signs (z := z) (f := okc) hz hD (fun c H Q q => ?_) fun H' hS hl => ?_
    · refine q _ rfl fun Q2 q2 => ?_
      refine ⟨_, rfl, c, _, rfl, rfl, _, rfl, ?_⟩
      unfold okc at q2
      refine ite2 (fun h => ?_) (fun h => ?_)
      · have h' : decide (c ∈ LET) = true := h
        rw [h'] at q2
        exact q2
      · have h' : decide (c ∈ LET) = false := Bool.eq_false_iff.mpr h
        rw [h'] at q2
        exact ⟨_, rfl, c, _, rfl, rfl, q2⟩
    · refine ⟨D, _, rfl, SqL.of hl, ?_⟩
      have q := k H' hS
      rw [isNm_all h1' h2' hc h3', ← all_map] at q
      exact q
end
end Wm
namespace Wm
open PySem L2
theorem mk1 {C : Addr} {f kd : Str} {v : V} {H : Hp} {Q : XK} (k : ∀ d H', H d = none → Same H H' → H' d = some (.xd (ef1 f kd v)) → Q (.ref C) (some d) H') :
    [v].length ≤ 1000 ∧ ∀ a, H a = none → spE1 C f kd (.ref a :: ([v] ++ [])) (upd H a (exo a C none)) (fun u H2 => u = .non ∧ ∃ (d : Addr) (fs : List (Str × V)), H2 a = some (exo a C (some d)) ∧ H2 d = some (exd d fs) ∧ H d = none ∧ Q (.ref C) (some d) (upd (del H2 a) d (.xd fs))) (fun _ _ _ => False) := by
  refine ⟨by show 1 ≤ 1000; decide, fun a na => ⟨a, v, rfl, upd_same, fun dx H' n ne kp ha hd => ⟨rfl, dx, _, ha, hd, ?_, ?_⟩⟩⟩
  · rw [upd_ne ne] at n
    exact n
  · rw [upd_ne ne] at n
    refine k dx _ n (fun b o e => ?_) upd_same
    have nb : b ≠ a := ne_of_none e na
    rw [upd_ne (ne_of_none e n), del_ne nb]
    exact kp b o nb (by rw [upd_ne nb]; exact e)
/-- what is due of the first text that is no name -/
def DueN (C : Addr) (zs : List Str) (H : Hp) (Q : VK) (E : XK) : Prop := match zs.find? (fun z => !isNm z) with
  | none => ∀ H', Same H H' → Q .non H'
  | some z => ∀ d H', H d = none → Same H H' → H' d = some (.xd (ef1 "name" "noname" (.str z))) → E (.ref C) (some d) H'
def spRN (K : PySem.W.Frag) (C : Addr) : Sp := fun vs H Q E => ∃ (l : Addr) (zs : List Str), vs = [.ref l] ∧ SqL K H l (zs.map V.str) ∧ zs.length ≤ 1000 ∧ (∀ z ∈ zs, z.length ≤ 1000) ∧ DueN C zs H Q E
theorem find_none_take {zs : List Str} {i : Nat} {z : Str} {p : Str → Bool} (h : ∀ y ∈ zs.take i, p y = false) (e : zs[i]? = some z) (hz : p z = true) : zs.find? p = some z := by
  have hlt : i < zs.length := (List.getElem?_eq_some_iff.mp e).1
  have e2 : zs = zs.take i ++ z :: zs.drop (i + 1) := by
    have q := List.take_append_drop i zs
    have q2 := List.drop_eq_getElem_cons hlt
    have q3 : zs[i] = z := (List.getElem?_eq_some_iff.mp e).2
    rw [q2, q3] at q
    exact q.symm
  rw [e2, List.find?_append]
  have n : (zs.take i).find? p = none := by
    rw [List.find?_eq_none]
    intro y hy
    rw [h y hy]
    decide
  rw [n]
  simp [hz]
section
variable {P : Program} {w : World} {K : PySem.W.Frag} {mg : Str → Option Value} {base : Heap}
theorem scRN : FnScope ["texts", "text"] ["texts"] (defScope sRN) := ⟨rfl, rfl, rfl, by decide +kernel, rfl, by decide +kernel, by decide +kernel⟩
theorem ok_rn {f fN C fI : Addr} {fd fdN fdI : FuncData} (F : Fun K "refuse_no_name" "refuse_no_name" sRN f fd) (D : Dn K mg "is_name" sName ["text"] fN fdN) (GN : FnOk P w K mg base CX0 1 fN fdN ["text"] spName) (TE : ErrT K mg "NoName" "name" C fI) (bI : Binds K fdI ["self", "name"] [])
    (GI : FnOk P w K mg base CX0 2 fI fdI ["self", "name"] (spE1 C "name" "noname")) : FnOk P w K mg base (L2.CX P w) 4 f fd ["texts"] (spRN K C) := by
  refine F.okX scRN (fun vs H Q E h => ?_) (fun cdv A outer s H vs Q E hr h => ?_)
  · obtain ⟨l, zs, rfl, _⟩ := h
    rfl
  · obtain ⟨l, zs, rfl, hl, hn, hz, k⟩ := h
    have hr1 : Room 1 _ := hr.mono (by decide)
    refine ⟨_, (pss_one (ps_for (passes_of rfl) rfl (pi_list (pv 0)) (pg_name (i := 1) scRN.nd rfl (Or.inl rfl)) (pss_one (ps_if (pt_not (pt_val (pe_call GN hr1 rfl D.g D.F.kp D.b .nil pass0 (pa_cons (pv 1) pa_nil)))) (pss_one (ps_raise rfl (takes_of rfl rfl rfl rfl) (pmk_oex TE.o TE.iC TE.tI GI hr bI .nil pass0 rfl TE.g (pa_cons (pv 1) pa_nil)))) pss_nil)))), ?_⟩
    refine ⟨_, rfl, l, rfl, ⟨_, hl⟩, for_list (K := K) (a := l) (xs := zs.map V.str) (fun i σ H' => ∃ v, σ = [some (.ref l), v] ∧ Same H H' ∧ ∀ y ∈ zs.take i, (!isNm y) = false) ⟨none, rfl, Same.refl H, fun y hy => (List.not_mem_nil hy).elim⟩
      (fun i σ H' _ ⟨_, _, hS, _⟩ => hS.seq hl) ?_ ?_⟩
    · rintro i y σ H' hi ⟨v, rfl, hS, hno⟩
      obtain ⟨z, hzi, rfl⟩ : ∃ z, zs[i]? = some z ∧ y = V.str z := by
        rw [List.getElem?_map] at hi
        cases e : zs[i]? with
        | none =>
          rw [e] at hi
          cases hi
        | some z =>
          rw [e] at hi
          exact ⟨z, rfl, (Option.some.inj hi).symm⟩
      refine ⟨_, rfl, z, rfl, hz z (List.mem_of_getElem? hzi), fun H2 hS2 => ⟨_, rfl, ?_⟩⟩
      refine ite2 (fun h => ?_) (fun h => ?_)
      · refine ⟨_, rfl, ?_⟩
        have e := find_none_take hno hzi h
        unfold DueN at k
        rw [e] at k
        refine mk1 fun d H3 hd hS3 hx => k d H3 (hS.free (hS2.free hd)) (hS.trans (hS2.trans hS3)) hx
      · refine ⟨_, rfl, hS.trans hS2, fun y hy => ?_⟩
        rw [List.take_add_one, hzi] at hy
        rcases List.mem_append.mp hy with hy | hy
        · exact hno y hy
        · have e : y = z := by simpa using hy
          rw [e]
          exact Bool.eq_false_iff.mpr h
    · rintro σ H' ⟨v, rfl, hS, hno⟩
      have e : zs.find? (fun z => !isNm z) = none := by
        rw [List.find?_eq_none]
        intro y hy
        rw [List.length_map, List.take_length] at hno
        rw [hno y hy]
        decide
      unfold DueN at k
      rw [e] at k
      exact k H' hS
end
end Wm
namespace Wm
open PySem PySem.Spec PyProof.Rows L2
/-- enumerate(v): its two new cells -/
theorem meets_enum1 {v : Value} {o : Obj} {H : Heap → Prop} (B : Begins v o H) :
    Meets (Builtin.«enumerate.__new__» ⟨[.type "enumerate", v], []⟩) (fun _ R s => H s.heap ∧
      R (.ok (.ret (.ref (s.heap.push o).objs.size))) { s with heap := (s.heap.push o).push { cls := .type "enumerate", data := .fields #[.none, .bool false, .ref s.heap.objs.size, rawInt 0, .none, .none] } }) :=
  .of_wp fun prog w A R s hh => by
    obtain ⟨hp, g, d, tk, os⟩ := s
    obtain ⟨h1, h⟩ := hh
    have hsub := sub_enumerate
    have q1 : ∀ {A' : Around} {E : Value → Shared → Prop} {Q : Value → Shared → Prop}, Q (.ref hp.objs.size) ⟨hp.push o, g, d, tk, os⟩ → wpAny (model prog w) A' (pyIter v) Q E ⟨hp, g, d, tk, os⟩ := fun q => B.iter prog w _ _ ⟨hp, g, d, tk, os⟩ _ h1 q
    wp_walk using q1
    refine wpAny_stack_any fun stk => wpAny_pure ?_
    split
    · rename_i c _ _ _ _ _
      cases (c == Value.type "enumerate") <;> (wp_walk using q1; exact ⟨_, rfl, h⟩)
    · wp_walk using q1
      exact ⟨_, rfl, h⟩
theorem call_enum_tup {prog : Program} {w : World} {A : Around} {E : Value → Shared → Prop} {s : Shared} {t : Addr} {items : Array Value} {Q : Value → Shared → Prop} (hL : s.heap.IsTuple t items)
    (h : ∀ h', IsEnum h' (s.heap.objs.size + 1) s.heap.objs.size 0 .none → h'.IsTupleIter s.heap.objs.size t 0 → (∀ b o, s.heap.get? b = some o → h'.get? b = some o) → Q (.ref (s.heap.objs.size + 1)) { s with heap := h' }) :
    wpAny (model prog w) A (call (.type "enumerate") [.ref t]) Q E s := by
  refine callType_new F.called_enumerate (by decide) (F.typeCall_enumerate_1 _) (F.newCall_enumerate_1 _) (fun obj => F.args_object_init_2 obj _) F.entry_enumerate_new (meets_enum1 (begins_tuple t items)) ⟨hL, ?_⟩
  generalize ho : ({ cls := .type "tuple_iterator", data := .fields #[.ref t, .int 0 0] } : Obj) = o
  have hz : (s.heap.push o).objs.size = s.heap.objs.size + 1 := Heap.size_push ..
  show _ ∧ _
  rw [hz]
  generalize he : ({ cls := .type "enumerate", data := .fields #[.none, .bool false, .ref s.heap.objs.size, rawInt 0, .none, .none] } : Obj) = eo
  have h2 : ((s.heap.push o).push eo).get? (s.heap.objs.size + 1) = some eo := by
    have q := Heap.get?_push_size (s.heap.push o) (o := eo) (by rw [← he]; rfl)
    rw [hz] at q
    exact q
  have h3 : ((s.heap.push o).push eo).get? s.heap.objs.size = some o := Heap.get?_push_of_some _ (Heap.get?_push_size _ (by rw [← ho]; rfl))
  refine ⟨⟨_, h2, by rw [← he]⟩, h _ ?_ ⟨o, h3, by rw [← ho], by rw [← ho]; rfl⟩ fun b o x => Heap.get?_push_of_some _ (Heap.get?_push_of_some _ x)⟩
  show ((s.heap.push o).push eo).get? (s.heap.objs.size + 1) = some _
  rw [h2, ← he]
/-- the tuple at a, each item in a new pair -/
def IteT (K : PySem.W.Frag) (a : Addr) (xs : List V) : It :=
  ⟨fun i H => SqT K H a xs ∧ i < xs.length, fun i H v H' => ∃ T x, v = .ref T ∧ H T = none ∧ H' = upd H T (.tup [.int (i : Nat), x]) ∧ xs[i]? = some x, fun i H => SqT K H a xs ∧ i = xs.length⟩
theorem turn_enumT {P : Program} {w : World} {K : PySem.W.Frag} {elts : List Expr} {kk : Nat} {tpos : Pos} {xs : List V} (a e it : Addr) (his : List Value) :
    Turn P w K (.Tuple elts kk tpos) (IteT K a xs) [e, it] e (fun i h => (∃ old, IsEnum h e it ((i : Nat) : Int) old) ∧ h.IsTupleIter it a i ∧ e ≠ it ∧ a ≠ it ∧ a ≠ e) where
  mem := by simp
  obj := fun i h st b hb => by
    obtain ⟨⟨old, he⟩, ⟨o, ho, hc, hd⟩, _⟩ := st
    rcases (show b = e ∨ b = it by simpa using hb) with z | z
    · rw [z]
      exact ⟨_, he, fun v q => nomatch q⟩
    · rw [z]
      exact ⟨o, ho, fun v q => by rw [hd] at q; cases q⟩
  keep := fun i h h' st k => let ⟨⟨old, he⟩, hi, hne⟩ := st; ⟨⟨old, k e (by simp) _ he⟩, hi.at fun o q => k it (by simp) o q, hne⟩
  item := by
    intro X hP hw hK hc i pins s σ H E I hf st hg
    subst hP hw hK
    obtain ⟨⟨old, he⟩, hit, hne, nai, nae⟩ := st
    obtain ⟨hq, hlt⟩ := hg
    obtain ⟨its, rv, p, hz⟩ := I.tuple hq
    have hlen := rv.length
    have hel : e < s.heap.objs.size := Heap.lt_size he
    have hil : it < s.heap.objs.size := by obtain ⟨_, q, _⟩ := hit; exact Heap.lt_size q
    have D : Draws X.prog X.w X.A.in1 it [it, a] its.toArray.size (fun i v => its.toArray[i]? = some v) (fun i h => h.IsTupleIter it a i ∧ h.IsTuple a its.toArray) := Draws.tuple (A := X.A.in1) (show X.A.in1.handled = none from I.ok.hd hc) it a nai its.toArray
    refine wpAny_pyNext_enum_itemC D he ⟨hit, p⟩ (by rw [List.size_toArray]; omega) hne (by simp [hne, Ne.symm nae]) fun u h' tk hu ho hst' hT hsz hk => ?_
    have hu' : its[i]? = some u := by simpa using hu
    obtain ⟨x, hx, ru⟩ : ∃ x, xs[i]? = some x ∧ RelV x u := by
      obtain ⟨u2, h2, r2⟩ := rv.get (List.getElem?_eq_getElem hlt)
      rw [hu'] at h2
      cases h2
      exact ⟨_, List.getElem?_eq_getElem hlt, r2⟩
    refine ⟨_, rfl, wpAny_letOwnedTupleGo_enum (s := { s with heap := h', toks := tk + 1 }) ho fun h'' he' sb => ?_⟩
    have hT2 : h''.get? s.heap.objs.size = some { cls := .type "tuple", data := .seq #[.int i tk, u] } := (sb.2 _ (Nat.ne_of_gt hel)).trans hT
    have new : ObjOk X.prog X.w (upd H s.heap.objs.size (.tup [.int (i : Nat), x])) h'' s.heap.objs.size (.tup [.int (i : Nat), x]) := ⟨by show 2 ≤ sizeLine; decide, [.int i tk, u], .cons ⟨_, rfl⟩ (.cons ru .nil), ⟨_, hT2, rfl, _, rfl⟩⟩
    have I1 : Inv X pins σ (upd H s.heap.objs.size (.tup [.int (i : Nat), x])) { s with heap := h'', toks := tk + 1 } :=
      I.turnedNew (ch := [e, it]) (fun b ob hb q => (sb.2 b (fun z => hb (by simp [z]))).trans (hk b ob (fun z => hb (by simp [z])) (fun z => hb (by simp [z])) q)) hf (Nat.le_refl _) new
    refine ⟨.ref s.heap.objs.size, _, I1, rfl, ⟨_, x, rfl, I.hok.fresh (Nat.le_refl _), rfl, hx⟩, ⟨⟨u, ?_⟩, hst'.1.at fun o q => (sb.2 it (Ne.symm hne)).trans q, hne, nai, nae⟩, fun b hb => ?_⟩
    · have e1 : ((i + 1 : Nat) : Int) = (i : Int) + 1 := by omega
      rw [e1]
      exact he'
    · have hb' : b < s.heap.objs.size := by
        rcases (show b = e ∨ b = it by simpa using hb) with z | z
        · rw [z]; exact hel
        · rw [z]; exact hil
      rw [upd_ne (Nat.ne_of_lt hb')]
      exact (hf b hb).1
  done := by
    intro X hP hw hK hc i pins s σ H E I hf st hg
    subst hP hw hK
    obtain ⟨⟨old, he⟩, hit, hne, nai, nae⟩ := st
    obtain ⟨hq, hi⟩ := hg
    obtain ⟨its, rv, p, hz⟩ := I.tuple hq
    have hlen := rv.length
    obtain ⟨f0, f1, f2, f3, f4, f5⟩ := hf it (by simp)
    have D : Draws X.prog X.w X.A.in1 it [it, a] its.toArray.size (fun i v => its.toArray[i]? = some v) (fun i h => h.IsTupleIter it a i ∧ h.IsTuple a its.toArray) := Draws.tuple (A := X.A.in1) (show X.A.in1.handled = none from I.ok.hd hc) it a nai its.toArray
    have en : i = its.toArray.size := by rw [List.size_toArray]; omega
    rw [en] at he hit
    exact wpAny_pyNext_enum_endD D he ⟨hit, p⟩ fun h' eb => ⟨rfl, I.turned (t' := s.toks) (fun b o hb q => eb b o hb q) f0 f1 f3 f4 f5⟩
  self := fun A i s Q E st h => let ⟨⟨_, he⟩, _⟩ := st; wpAny_pyIter_enum he h
def iEnumT (K : PySem.W.Frag) (ta : TA) : TI := fun σ H R => ta σ H fun vs H1 => ∃ a xs, vs = [.ref a] ∧ SqT K H1 a xs ∧ R (IteT K a xs) H1
theorem pi_enumT {X : Cx} {e : Expr} {ta : TA} {p pos tpos : Pos} {elts : List Expr} {kk : Nat} (hg : Gl X "enumerate") (hm : X.mg "enumerate" = none) (ha : PA X [e] ta) (hs : starEach [e] X.env = [(false, eval e X.env)] := by rfl) :
    PI X (.Tuple elts kk tpos) (.Call (.Name "enumerate" p) [e] [] pos) (iEnumT X.K ta) := by
  refine ⟨fun pins s σ H R I h => ?_⟩
  refine Call_ (ld_blt I hg hm boot_enumerate (PyProof.Rows.callWith_type1 (thn (ha.run pos pins s σ H _ I h) fun us s1 ⟨vs, H1, I1, r1, a, xs, ex, hq, q⟩ => ?_) hs rfl))
  subst ex
  cases r1 with
  | cons r rr =>
    cases rr
    cases r
    obtain ⟨its, rv, p', hz⟩ := I1.tuple hq
    have hal : a < s1.heap.objs.size := by obtain ⟨_, z, _⟩ := p'; exact Heap.lt_size z
    refine call_enum_tup (items := its.toArray) p' fun h' he hit hk => wpAny_pyIter_enum he ?_
    have I2 : Inv X pins σ H1 { s1 with heap := h' } := I1.kept (t' := s1.toks) hk
    refine ⟨s1.heap.objs.size + 1, [s1.heap.objs.size + 1, s1.heap.objs.size], _, _, H1, rfl, I2, turn_enumT a (s1.heap.objs.size + 1) s1.heap.objs.size its, ⟨⟨.none, he⟩, hit, Nat.succ_ne_self _, Nat.ne_of_lt hal, Nat.ne_of_lt (Nat.lt_succ_of_lt hal)⟩, fun b hb => ?_, q⟩
    have hle : s1.heap.objs.size ≤ b := by
      rcases (show b = s1.heap.objs.size + 1 ∨ b = s1.heap.objs.size by simpa using hb) with z | z
      · rw [z]; exact Nat.le_add_right _ _
      · rw [z]; exact Nat.le_refl _
    exact I1.fpOk hle (I1.hok.fresh hle)
theorem walk_enumT {K : PySem.W.Frag} {a : Addr} {xs : List V} : Walk (IteT K a xs) xs.length (fun H => SqT K H a xs) (YPair (fun i => some (.int (i : Nat))) (fun i => xs[i]?)) := by
  refine ⟨fun i _ hi q => ⟨q, hi⟩, fun _ q => ⟨q, rfl⟩, fun i H v H' _ q y => ?_⟩
  obtain ⟨T, x, h1, h2, h3, h4⟩ := y
  exact ⟨T, .int (i : Nat), x, h1, h2, h3, rfl, h4⟩
end Wm
namespace Wm
open PySem L2
/-- the outer walk of a comprehension of two clauses -/
theorem lc2_it {J : It} {n : Nat} {G : Hp → Prop} {Y : Nat → Hp → V → Hp → Prop} (w : Walk J n G Y) {g : TG} {vs : List Nat} {σ : St} {H1 : Hp} {D : Addr} {Qd : Hp → Prop} {inner : St → Hp → (Hp → Prop) → Prop} (Pv : Nat → Hp → Prop) (h0 : Pv 0 (upd H1 D (.lst []))) (hG : ∀ i H, i ≤ n → Pv i H → G H)
    (hs : ∀ i x H H', i < n → Pv i H → Y i H x H' → g x (wipe σ vs) H' fun σ2 H2 => wipe σ2 vs = wipe σ vs ∧ inner σ2 H2 (Pv (i + 1))) (hd : ∀ H, Pv n H → Qd H) :
    ∃ W : Nat → Nat → Hp → Prop, (∃ m, W 0 m (upd H1 D (.lst []))) ∧ ∀ i m H, W i m H →
      (J.stop i H ∧ Qd H) ∨ (J.go i H ∧ ∃ Nx : Hp → Prop, (∀ H', Nx H' → ∃ m', m' < m ∧ W (i + 1) m' H') ∧ ∀ x H', J.yld i H x H' → g x (wipe σ vs) H' fun σ2 H2 => wipe σ2 vs = wipe σ vs ∧ inner σ2 H2 Nx) := by
  refine ⟨fun i m H => m = n - i ∧ i ≤ n ∧ Pv i H, ⟨n, by simp, Nat.zero_le _, h0⟩, ?_⟩
  rintro i m H ⟨rfl, hi, p⟩
  have q := hG i H hi p
  by_cases hlt : i < n
  · exact .inr ⟨w.goes i H hlt q, Pv (i + 1), fun H' p' => ⟨n - (i + 1), by omega, rfl, hlt, p'⟩, fun x H' y => hs i x H H' hlt p (w.yields i H x H' hlt q y)⟩
  · have e : i = n := by omega
    subst e
    exact .inl ⟨w.stops H q, hd H p⟩
/-- the inner one -/
theorem lc1_it {J : It} {n : Nat} {G : Hp → Prop} {Y : Nat → Hp → V → Hp → Prop} (w : Walk J n G Y) {g : TG} {te : TE} {vs : List Nat} {σ : St} {H4 : Hp} {D : Addr} {Nx : Hp → Prop} (Pv : Nat → Hp → Prop) (h0 : Pv 0 H4) (hG : ∀ i H, i ≤ n → Pv i H → G H)
    (hs : ∀ i x H H', i < n → Pv i H → Y i H x H' → g x (wipe σ vs) H' fun σ3 H5 => wipe σ3 vs = wipe σ vs ∧ te σ3 H5 fun y H7 => ∃ acc, H7 D = some (.lst acc) ∧ acc.length < sizeLine ∧ Pv (i + 1) (upd H7 D (.lst (acc ++ [y])))) (hd : ∀ H, Pv n H → Nx H) :
    ∃ W1 : Nat → Nat → Hp → Prop, (∃ m, W1 0 m H4) ∧ ∀ j k H, W1 j k H →
      (J.stop j H ∧ Nx H) ∨ (J.go j H ∧ ∃ Nx1 : Hp → Prop, (∀ H', Nx1 H' → ∃ k', k' < k ∧ W1 (j + 1) k' H') ∧ ∀ x H', J.yld j H x H' → g x (wipe σ vs) H' fun σ3 H5 => wipe σ3 vs = wipe σ vs ∧ tYes σ3 H5 fun b H6 =>
        if b = true then te σ3 H6 fun y H7 => ∃ acc, H7 D = some (.lst acc) ∧ acc.length < sizeLine ∧ Nx1 (upd H7 D (.lst (acc ++ [y]))) else Nx1 H6) := by
  refine ⟨fun i m H => m = n - i ∧ i ≤ n ∧ Pv i H, ⟨n, by simp, Nat.zero_le _, h0⟩, ?_⟩
  rintro i m H ⟨rfl, hi, p⟩
  have q := hG i H hi p
  by_cases hlt : i < n
  · exact .inr ⟨w.goes i H hlt q, Pv (i + 1), fun H' p' => ⟨n - (i + 1), by omega, rfl, hlt, p'⟩, fun x H' y => hs i x H H' hlt p (w.yields i H x H' hlt q y)⟩
  · have e : i = n := by omega
    subst e
    exact .inl ⟨w.stops H q, hd H p⟩
/-- tuple(x) of a list or a tuple -/
def rTupOf (K : PySem.W.Frag) : List V → Hp → VK → Prop := fun xs H Q => ∃ p ys, xs = [.ref p] ∧ ((SqL K H p ys ∧ ∀ l, H l = none → Q (.ref l) (upd H l (.tup ys))) ∨ (SqT K H p ys ∧ Q (.ref p) H))
theorem call_tupN {X : Cx} : CallR X (.type "tuple") (rTupOf X.K) := call_tuple_of
theorem same_seqT {K : PySem.W.Frag} {H H' : Hp} {a : Addr} {xs : List V} (e : Same H H') (h : SqT K H a xs) : SqT K H' a xs := by
  rcases h with (h | ⟨o, h⟩) | h
  · exact .inl (.inl (e _ _ h))
  · exact .inl (.inr ⟨o, e _ _ h⟩)
  · exact .inr h
/-- to be read as a list or a tuple -/
def Sq (K : PySem.W.Frag) (H : Hp) (a : Addr) (xs : List V) : Prop := SqL K H a xs ∨ SqT K H a xs
theorem same_sq {K : PySem.W.Frag} {H H' : Hp} {a : Addr} {xs : List V} (e : Same H H') (h : Sq K H a xs) : Sq K H' a xs := h.imp (fun h => e.seq h) (fun h => same_seqT e h)
theorem cut_take (xs : List V) (i : Nat) : cutV xs none (some (i : Int)) = xs.take i := by
  unfold cutV
  rw [HT.sIx_none, HT.sIx_nat, List.drop_zero, Nat.sub_zero]
  by_cases h : i ≤ xs.length
  · rw [Nat.min_eq_left h]
  · rw [Nat.min_eq_right (by omega), List.take_length, List.take_of_length_le (by omega)]
theorem all_take {xs : List V} (h : xs.all flatV = true) (i : Nat) : (xs.take i).all flatV = true := by
  rw [List.all_eq_true] at h ⊢
  exact fun x hx => h x (List.mem_of_mem_take hx)
end Wm
namespace Wm
open PySem L2
/-- no item stands ahead of itself -/
def NoTw (xs : List V) : Prop := ∀ (i : Nat) (x : V), xs[i]? = some x → inV x (xs.take i) = false
def spFT (K : PySem.W.Frag) : Sp := fun vs H Q _ => ∃ (l : Addr) (xs : List V), vs = [.ref l] ∧ Sq K H l xs ∧ xs.all flatV = true ∧ NoTw xs ∧ ∀ H', Same H H' → Q .non H'
def spRC : Sp := fun vs H Q _ => ∃ (z : V) (c lo hi : Int), vs = [z, .int c, .int lo, .int hi] ∧ lo ≤ c ∧ c ≤ hi ∧ Q .non H
section
variable {P : Program} {w : World} {K : PySem.W.Frag} {mg : Str → Option Value} {base : Heap}
theorem scRC : FnScope ["what", "count", "least", "most"] ["what", "count", "least", "most"] (defScope sRC) := ⟨rfl, rfl, rfl, by decide +kernel, rfl, by decide +kernel, by decide +kernel⟩
theorem ok_rc {f : Addr} {fd : FuncData} (F : Fun K "refuse_count" "refuse_count" sRC f fd) : FnOk P w K mg base CX0 1 f fd ["what", "count", "least", "most"] spRC := by
  refine F.ok scRC (fun vs H Q E h => ?_) (fun cdv A outer s H vs Q E hr h => ?_)
  · obtain ⟨z, c, lo, hi, rfl, _⟩ := h
    rfl
  · obtain ⟨z, c, lo, hi, rfl, h1, h2, k⟩ := h
    refine ⟨_, (pss_one (ps_if (PW.pt (pw_or (pt_cmpR op_lt (pv 1) (pv 2) (nomark _)) (pw_or1 (pt_cmpR op_gt (pv 1) (pv 3) (nomark _))))) (pss_one ps_never) pss_nil)), ?_⟩
    refine ⟨_, rfl, _, rfl, _, _, rfl, rfl, _, rfl, ?_⟩
    refine ite2 (fun h => absurd (of_decide_eq_true h) (by omega)) (fun _ => ?_)
    refine ⟨_, rfl, _, rfl, _, _, rfl, rfl, _, rfl, ?_⟩
    exact ite2 (fun h => absurd (of_decide_eq_true h) (by omega)) (fun _ => k)
theorem scFT : FnScope ["row", "place", "part"] ["row"] (defScope sFT) := ⟨rfl, rfl, rfl, by decide +kernel, rfl, by decide +kernel, by decide +kernel⟩
theorem ok_ft {f : Addr} {fd : FuncData} (F : Fun K "first_twice" "first_twice" sFT f fd) (T : TxB mg) : FnOk P w K mg base CX0 1 f fd ["row"] (spFT K) := by
  refine F.ok scFT (fun vs H Q E h => ?_) (fun cdv A outer s H vs Q E hr h => ?_)
  · obtain ⟨l, xs, rfl, _⟩ := h
    rfl
  · obtain ⟨l, xs, rfl, hl, hf, hno, k⟩ := h
    rcases hl with hl | hl
    · refine ⟨_, (pss_cons (ps_for PassesOwn.never rfl (pi_enum rfl T.enumerate (pa_cons (pv 0) pa_nil)) (pg_tup rfl (pgs_cons (pg_name (i := 1) scFT.nd rfl (Or.inl rfl)) (pgs_cons (pg_name (i := 2) scFT.nd rfl (Or.inl rfl)) pgs_nil))) (pss_one (ps_if (pt_cmpR op_in_seq (pv 2) (pe_slice sl_list (pv 0) po_none (po_some (pv 1))) (by rfl)) (pss_one (ps_ret (pv 1))) pss_nil)))
      (pss_one (ps_ret pe_non))), ?_⟩
      refine ⟨_, rfl, l, xs, rfl, hl, for_it walk_enum (fun i σ H' => (∃ u v, σ = [some (.ref l), u, v]) ∧ Same H H') ⟨⟨none, none, rfl⟩, Same.refl H⟩ (fun i σ H' _ p => p.2.seq hl) ?_ ?_⟩
      · rintro i x σ H1 H2 hi ⟨⟨u, v, rfl⟩, hS⟩ ⟨t, y, z, rfl, ht, rfl, e1, e2⟩
        cases e1
        refine ⟨t, _, rfl, SqT.of upd_same, rfl, _, _, rfl, _, _, rfl, rfl, ?_⟩
        have S2 := hS.trans (Same.upd (o := .tup [.int (i : Nat), z]) ht)
        refine ⟨_, rfl, _, rfl, _, rfl, _, rfl, l, xs, rfl, S2.seq hl, fun p hp => ?_⟩
        refine ⟨p, _, rfl, .inl (SqL.of upd_same), ?_, ?_, _, rfl, ?_⟩
        · exact List.all_eq_true.mp hf _ (List.mem_of_getElem? e2)
        · show (cutV xs none (some (i : Int))).all flatV = true
          rw [cut_take]
          exact all_take hf i
        · have e : inV z (cutV xs none (some (i : Int))) = false := by
            rw [cut_take]
            exact hno i z e2
          show if inV z (cutV xs none (some (i : Int))) = true then _ else _
          rw [e]
          exact iteF ⟨⟨_, _, rfl⟩, S2.trans (Same.upd hp)⟩
      · rintro σ H' ⟨_, hS⟩
        exact k H' hS
    · refine ⟨_, (pss_cons (ps_for PassesOwn.never rfl (pi_enumT rfl T.enumerate (pa_cons (pv 0) pa_nil)) (pg_tup rfl (pgs_cons (pg_name (i := 1) scFT.nd rfl (Or.inl rfl)) (pgs_cons (pg_name (i := 2) scFT.nd rfl (Or.inl rfl)) pgs_nil))) (pss_one (ps_if (pt_cmpR op_in_seq (pv 2) (pe_slice sl_tupA (pv 0) po_none (po_some (pv 1))) (by rfl)) (pss_one (ps_ret (pv 1))) pss_nil)))
      (pss_one (ps_ret pe_non))), ?_⟩
      refine ⟨_, rfl, l, xs, rfl, hl, for_it walk_enumT (fun i σ H' => (∃ u v, σ = [some (.ref l), u, v]) ∧ Same H H') ⟨⟨none, none, rfl⟩, Same.refl H⟩ (fun i σ H' _ p => same_seqT p.2 hl) ?_ ?_⟩
      · rintro i x σ H1 H2 hi ⟨⟨u, v, rfl⟩, hS⟩ ⟨t, y, z, rfl, ht, rfl, e1, e2⟩
        cases e1
        refine ⟨t, _, rfl, SqT.of upd_same, rfl, _, _, rfl, _, _, rfl, rfl, ?_⟩
        have S2 := hS.trans (Same.upd (o := .tup [.int (i : Nat), z]) ht)
        refine ⟨_, rfl, _, rfl, _, rfl, _, rfl, l, xs, rfl, same_seqT S2 hl, fun h => ?_, fun h p hp => ?_⟩
        · have en : xs.take i = xs := by
            rw [HT.sIx_nat] at h
            exact List.take_of_length_le (by omega)
          have e : inV z xs = false := by
            have q := hno i z e2
            rw [en] at q
            exact q
          refine ⟨l, xs, rfl, .inr (same_seqT S2 hl), List.all_eq_true.mp hf _ (List.mem_of_getElem? e2), hf, _, rfl, ?_⟩
          show if inV z xs = true then _ else _
          rw [e]
          exact iteF ⟨⟨_, _, rfl⟩, S2⟩
        · refine ⟨p, _, rfl, .inr (SqT.of upd_same), List.all_eq_true.mp hf _ (List.mem_of_getElem? e2), ?_, _, rfl, ?_⟩
          · show (cutV xs none (some (i : Int))).all flatV = true
            rw [cut_take]
            exact all_take hf i
          · have e : inV z (cutV xs none (some (i : Int))) = false := by
              rw [cut_take]
              exact hno i z e2
            show if inV z (cutV xs none (some (i : Int))) = true then _ else _
            rw [e]
            exact iteF ⟨⟨_, _, rfl⟩, S2.trans (Same.upd hp)⟩
      · rintro σ H' ⟨_, hS⟩
        exact k H' hS
theorem scRT : FnScope ["names", "place"] ["names"] (defScope sRT) := ⟨rfl, rfl, rfl, by decide +kernel, rfl, by decide +kernel, by decide +kernel⟩
theorem ok_rt {f fF : Addr} {fd fdF : FuncData} (F : Fun K "refuse_twice" "refuse_twice" sRT f fd) (T : TxB mg) (D : Dn K mg "first_twice" sFT ["row"] fF fdF) : FnOk P w K mg base CX0 2 f fd ["names"] (spFT K) := by
  have G : FnOk P w K mg base CX0 1 fF fdF ["row"] (spFT K) := ok_ft D.F T
  refine F.ok scRT (fun vs H Q E h => ?_) (fun cdv A outer s H vs Q E hr h => ?_)
  · obtain ⟨l, xs, rfl, _⟩ := h
    rfl
  · obtain ⟨l, xs, rfl, hl, hf, hno, k⟩ := h
    refine ⟨_, (pss_cons (ps_set (i := 1) scRT.nd rfl (Or.inl rfl) (pe_call G hr rfl D.g D.F.kp D.b .nil pass0 (pa_cons (pv 0) pa_nil)))
      (pss_one (ps_if (pt_cmp (pc_notN (pv 1))) (pss_one ps_never) pss_nil))), ?_⟩
    refine ⟨_, rfl, l, xs, rfl, hl, hf, hno, fun H' hS => ?_⟩
    refine ⟨_, rfl, _, rfl, ?_⟩
    exact iteF (k H' hS)
end
end Wm
/-! names as the laws draw them: texts of at most six signs -/
namespace Wm
open PySem L2
def lowC (c : Nat) : Prop := 97 ≤ c ∧ c ≤ 122
def figC (c : Nat) : Prop := 48 ≤ c ∧ c ≤ 57
/-- a text of small letters and figures, the first a letter -/
def NmP (z : Str) : Prop := ∃ c cs, z.cps.toList = c :: cs ∧ lowC c ∧ ∀ d ∈ cs, lowC d ∨ figC d
theorem toList_app (a b : Str) : (a ++ b).cps.toList = a.cps.toList ++ b.cps.toList := by
  show (a.cps ++ b.cps).toList = _
  simp
theorem NmP.app {a b : Str} (h : NmP a) (hb : ∀ d ∈ b.cps.toList, lowC d ∨ figC d) : NmP (a ++ b) := by
  obtain ⟨c, cs, e, l, r⟩ := h
  refine ⟨c, cs ++ b.cps.toList, by rw [toList_app, e]; rfl, l, fun d hd => ?_⟩
  rcases List.mem_append.mp hd with h | h
  · exact r d h
  · exact hb d h
theorem NmP.one {c : Nat} (h : lowC c) : NmP ⟨#[c]⟩ := ⟨c, [], rfl, h, fun _ z => nomatch z⟩
theorem NmP.ok {z : Str} (h : NmP z) : ∀ c ∈ z.cps.toList, c < 1114112 := by
  obtain ⟨c, cs, e, l, r⟩ := h
  intro d hd
  rw [e] at hd
  rcases List.mem_cons.mp hd with h | h
  · rw [h]
    exact Nat.lt_of_le_of_lt l.2 (by decide)
  · rcases r d h with q | q
    · exact Nat.lt_of_le_of_lt q.2 (by decide)
    · exact Nat.lt_of_le_of_lt q.2 (by decide)
def ABC36 : Str := PySem.Str.ofString "abcdefghijklmnopqrstuvwxyz0123456789"
theorem abc36_len : ABC36.length = 36 := by decide +kernel
theorem abc_low {i : Nat} {c : Nat} (hi : i < 26) (h : ABC36.cps.toList[i]? = some c) : lowC c := by
  have q : ∀ j : Fin 26, ∀ d ∈ ABC36.cps.toList[j.1]?, 97 ≤ d ∧ d ≤ 122 := by decide +kernel
  exact q ⟨i, hi⟩ c (by rw [h]; exact rfl)
theorem abc_any {i : Nat} {c : Nat} (h : ABC36.cps.toList[i]? = some c) : lowC c ∨ figC c := by
  have q : ∀ d ∈ ABC36.cps.toList, (97 ≤ d ∧ d ≤ 122) ∨ (48 ≤ d ∧ d ≤ 57) := by decide +kernel
  exact q c (List.mem_of_getElem? h)
/-- the text of a number -/
def numS (n : Nat) : Str := PySem.Str.ofString (toString (n : Int))
def numB (n : Nat) : Bool := (numS n).cps.toList.all (fun d => decide (48 ≤ d ∧ d ≤ 57)) && (decide ((numS n).length ≤ 2) && decide (1 ≤ (numS n).length))
theorem num_all : ∀ n : Fin 70, numB n.1 = true := by decide +kernel
theorem num_inj0 : ∀ n m : Fin 70, (numS n.1).cps.toList = (numS m.1).cps.toList → n = m := by decide +kernel
theorem num_sign {n : Nat} (h : n < 70) : (∀ d ∈ (numS n).cps.toList, lowC d ∨ figC d) ∧ (numS n).length ≤ 2 ∧ 1 ≤ (numS n).length := by
  obtain ⟨a, b⟩ := Bool.and_eq_true_iff.mp (num_all ⟨n, h⟩)
  obtain ⟨b, c⟩ := Bool.and_eq_true_iff.mp b
  refine ⟨fun d hd => .inr ?_, of_decide_eq_true b, of_decide_eq_true c⟩
  have q := List.all_eq_true.mp a d hd
  exact of_decide_eq_true (p := 48 ≤ d ∧ d ≤ 57) q
theorem num_inj {n m : Nat} (hn : n < 70) (hm : m < 70) (h : numS n = numS m) : n = m := congrArg Fin.val (num_inj0 ⟨n, hn⟩ ⟨m, hm⟩ (by rw [h]))
/-- the tries for a name: the word, then the word with 1, 2 .. -/
def tryS (z : Str) : Nat → Str
  | 0 => z
  | n + 1 => z ++ numS (n + 1)
theorem app_inj {a b c : Str} (h : a ++ b = a ++ c) : b = c := by
  have e := congrArg (fun z : Str => z.cps.toList) h
  simp only [toList_app] at e
  have q := List.append_cancel_left e
  cases b; cases c
  simp only at q
  congr
  exact Array.toList_inj.mp q
theorem try_inj {z : Str} {n m : Nat} (hn : n < 70) (hm : m < 70) (h : tryS z n = tryS z m) : n = m := by
  have key : ∀ k, k + 1 < 70 → z ≠ z ++ numS (k + 1) := fun k hk e => by
    have l := congrArg (fun z : Str => z.cps.toList.length) e
    simp only [toList_app, List.length_append] at l
    have q := (num_sign hk).2.2
    have q' : 1 ≤ (numS (k + 1)).cps.toList.length := by simpa [PySem.Str.length] using q
    omega
  cases n with
  | zero =>
    cases m with
    | zero => rfl
    | succ m => exact (key m hm h).elim
  | succ n =>
    cases m with
    | zero => exact (key n hn h.symm).elim
    | succ m => exact num_inj hn hm (app_inj h)
theorem holes {α : Type} [BEq α] [LawfulBEq α] {f : Nat → α} : ∀ {n : Nat} {l : List α}, (∀ i j, i < n → j < n → f i = f j → i = j) → (∀ i, i < n → f i ∈ l) → n ≤ l.length
  | 0, _, _, _ => Nat.zero_le _
  | n + 1, l, inj, h => by
    have hm := h n (Nat.lt_succ_self n)
    have q := holes (n := n) (l := l.erase (f n)) (fun i j hi hj => inj i j (by omega) (by omega)) (fun i hi => by
      refine (List.mem_erase_of_ne fun e => ?_).mpr (h i (by omega))
      have := inj i n (by omega) (by omega) e
      omega)
    rw [List.length_erase_of_mem hm] at q
    have := List.length_pos_of_mem hm
    omega
theorem try_end {z : Str} {taken : List Str} {n : Nat} (ht : taken.length ≤ 60) (h : ∀ i, i < n → tryS z i ∈ taken) (hn : n ≤ 61) : n ≤ taken.length :=
  holes (f := tryS z) (fun i j hi hj e => try_inj (by omega) (by omega) e) h
theorem inV_strs {z : Str} {ns : List Str} : inV (.str z) (ns.map V.str) = decide (z ∈ ns) := by
  unfold inV
  rw [List.any_map]
  induction ns with
  | nil => simp
  | cons a r ih =>
    rw [List.any_cons, ih]
    have e : eqV (.str a) (.str z) = decide (a = z) := by
      unfold eqV
      by_cases h : a = z
      · simp [h]
      · simp [h]
    show (eqV (.str a) (.str z) || _) = _
    rw [e]
    by_cases h : a = z
    · simp [h]
    · have h' : ¬ z = a := fun x => h x.symm
      simp [h, h']
end Wm
namespace Wm
open PySem L2
theorem map_ref_get {ps : List Addr} {i : Nat} {x : V} (h : (ps.map V.ref)[i]? = some x) : ∃ p, ps[i]? = some p ∧ x = .ref p := by
  rw [List.getElem?_map] at h
  cases e : ps[i]? with
  | none =>
    rw [e] at h
    cases h
  | some p =>
    rw [e] at h
    exact ⟨p, rfl, (Option.some.inj h).symm⟩
theorem map_str_get {ps : List Str} {i : Nat} {x : V} (h : (ps.map V.str)[i]? = some x) : ∃ p, ps[i]? = some p ∧ x = .str p := by
  rw [List.getElem?_map] at h
  cases e : ps[i]? with
  | none =>
    rw [e] at h
    cases h
  | some p =>
    rw [e] at h
    exact ⟨p, rfl, (Option.some.inj h).symm⟩
theorem StOk.upd {p d : Addr} {H : Hp} {o : HO} (n : d ≠ p) (h : StOk H p) : StOk (L2.upd H d o) p := by
  obtain ⟨a, b, c, e, r⟩ := h
  exact ⟨a, b, c, by rw [upd_ne n.symm]; exact e, r⟩
theorem StOk.same {p : Addr} {H H' : Hp} (e : Same H H') (h : StOk H p) : StOk H' p := by
  obtain ⟨a, b, c, q, r⟩ := h
  exact ⟨a, b, c, e _ _ q, r⟩
theorem st_free {p d : Addr} {H : Hp} (h : StOk H p) (n : H d = none) : d ≠ p := by
  obtain ⟨a, b, c, e, _⟩ := h
  exact fun z => by
    rw [z, e] at n
    cases n
theorem but_new {p d : Addr} {H H1 : Hp} {o : HO} (b : But p H H1) (n : d ≠ p) (h0 : H d = none) : But p H (L2.upd H1 d o) := fun q u nq e => by
  rw [upd_ne (ne_of_none e h0)]
  exact b q u nq e
theorem flats (ns : List Str) : (ns.map V.str).all flatV = true := by
  induction ns with
  | nil => rfl
  | cons a r ih => rw [List.map_cons, List.all_cons, ih]; rfl
theorem cut1 {a R : TS} {D : Ends} {σ : L2.St} {H : Hp} (Good : L2.St → Hp → Prop) (fin : ∀ σ' H', Good σ' H' → R D σ' H') (h : ∀ R' : TS, (∀ σ' H', Good σ' H' → R' D σ' H') → tSeq a R' D σ H) : tSeq a R D σ H := h R fin
theorem str_get {ws : List Str} {d : Int} (h0 : 0 ≤ d) (h1 : d < ((ws.map V.str).length : Int)) : ∃ w, w ∈ ws ∧ (ws.map V.str)[d.toNat]? = some (.str w) := by
  rw [List.length_map] at h1
  have hlt : d.toNat < ws.length := by omega
  refine ⟨ws[d.toNat], List.getElem_mem hlt, ?_⟩
  rw [List.getElem?_map, List.getElem?_eq_getElem hlt]
  rfl
theorem StN.upd {n : Nat} {p d : Addr} {H : Hp} {o : HO} (q : d ≠ p) (h : StN n H p) : StN n (L2.upd H d o) p := by
  obtain ⟨a, b, c, e, r⟩ := h
  exact ⟨a, b, c, by rw [upd_ne q.symm]; exact e, r⟩
theorem StN.same {n : Nat} {p : Addr} {H H' : Hp} (e : Same H H') (h : StN n H p) : StN n H' p := by
  obtain ⟨a, b, c, q, r⟩ := h
  exact ⟨a, b, c, e _ _ q, r⟩
def spPkS : Sp := fun vs H Q _ => ∃ (p : Addr) (z : Str) (k : Nat), vs = [.ref p, .str z] ∧ StN k H p ∧ k ≤ 1000000 ∧ 1 ≤ z.length ∧ z.length ≤ 1000 ∧ ∀ (j c : Nat) H', z.cps.toList[j]? = some c → But p H H' → StN (k + 1) H' p → Q (.str ⟨#[c]⟩) H'
def spPkL : Sp := fun vs H Q _ => ∃ (p l : Addr) (xs : List V) (k : Nat), vs = [.ref p, .ref l] ∧ StN k H p ∧ k ≤ 1000000 ∧ H l = some (.lst xs) ∧ l ≠ p ∧ 1 ≤ xs.length ∧ xs.length ≤ 1000 ∧ ∀ (j : Nat) (v : V) H', xs[j]? = some v → But p H H' → StN (k + 1) H' p → Q v H'
abbrev L26 : Str := PySem.Str.ofString "abcdefghijklmnopqrstuvwxyz"
theorem l26_len : L26.length = 26 := by decide +kernel
theorem l26_low0 : L26.cps.toList.all (fun c => decide (97 ≤ c ∧ c ≤ 122)) = true := by decide +kernel
theorem l26_low {j c : Nat} (h : L26.cps.toList[j]? = some c) : lowC c := by
  have q : 97 ≤ c ∧ c ≤ 122 := of_decide_eq_true (List.all_eq_true.mp l26_low0 c (List.mem_of_getElem? h))
  exact q
theorem l36_eq : L26 ++ PySem.Str.ofString "0123456789" = ABC36 := by decide +kernel
def nS (k : Nat) : Str := PySem.Str.ofString "n" ++ numS k
def mS (k : Nat) : Str := PySem.Str.ofString "m" ++ numS k
theorem n_low : NmP (PySem.Str.ofString "n") := ⟨110, [], by decide +kernel, ⟨by decide, by decide⟩, fun _ h => nomatch h⟩
theorem m_low : NmP (PySem.Str.ofString "m") := ⟨109, [], by decide +kernel, ⟨by decide, by decide⟩, fun _ h => nomatch h⟩
theorem nS_nm {k : Nat} (h : k < 70) : NmP (nS k) ∧ (nS k).length ≤ 12 := by
  have q := num_sign h
  refine ⟨n_low.app q.1, ?_⟩
  show (PySem.Str.ofString "n" ++ numS k).length ≤ 12
  rw [len_app, show (PySem.Str.ofString "n").length = 1 by decide +kernel]
  omega
theorem mS_nm {k : Nat} (h : k < 70) : NmP (mS k) ∧ (mS k).length ≤ 12 := by
  have q := num_sign h
  refine ⟨m_low.app q.1, ?_⟩
  show (PySem.Str.ofString "m" ++ numS k).length ≤ 12
  rw [len_app, show (PySem.Str.ofString "m").length = 1 by decide +kernel]
  omega
theorem log_small {n : Nat} (h : n ≤ 100) : ((n : Int)).natAbs.log2 < 1920 := by
  have e : ((n : Int)).natAbs = n := by omega
  rw [e]
  have q : n.log2 ≤ n := Nat.log2_le_self _
  omega
def spNam (K : PySem.W.Frag) : Sp := fun vs H Q _ => ∃ (p ln : Addr) (taken : List Str) (k : Nat), vs = [.ref p, .ref ln] ∧ StN k H p ∧ k ≤ 900000 ∧ ln ≠ p ∧ H ln = some (.lst (taken.map V.str)) ∧ taken.length ≤ 60 ∧
  ∀ (z : Str) H', NmP z → z.length ≤ 12 → z ∉ taken → But p H H' → StN (k + 20) H' p → Q (.str z) H'
def spNms (K : PySem.W.Frag) : Sp := fun vs H Q _ => ∃ (p : Addr) (n : Int) (k : Nat), vs = [.ref p, .int n] ∧ StN k H p ∧ k ≤ 800000 ∧ 0 ≤ n ∧ n ≤ 60 ∧
  ∀ (zs : List Str) d H', H d = none → d ≠ p → But p H H' → StN (k + 20 * n.toNat) H' p → H' d = some (.lst (zs.map V.str)) → zs.length = n.toNat → zs.Nodup → (∀ z ∈ zs, NmP z ∧ z.length ≤ 12) → Q (.ref d) H'
section
variable {P : Program} {w : World} {K : PySem.W.Frag} {mg : Str → Option Value} {base : Heap}
theorem scPck : FnScope ["_law_well_here", "_law_some"] ["_law_well_here", "_law_some"] (defScope sPck) := ⟨rfl, rfl, rfl, by decide +kernel, rfl, by decide +kernel, by decide +kernel⟩
theorem ok_pks {f fG : Addr} {fd dG : FuncData} (F : Fun K "_law_pick" "_law_pick" sPck f fd) (T : TxB mg) (DG : Dn K mg "_law_draw" sDrw ["_law_well_here", "_law_many"] fG dG) : FnOk P w K mg base CX0 2 f fd ["_law_well_here", "_law_some"] spPkS := by
  have GG : FnOk P w K mg base CX0 1 fG dG _ spDrw := ok_drw DG.F
  refine F.ok scPck (fun vs H Q E h => ?_) (fun cdv A outer s H vs Q E hr h => ?_)
  · obtain ⟨p, z, k, rfl, _⟩ := h
    rfl
  · obtain ⟨p, z, k, rfl, hS, hk, z1, z2, kk⟩ := h
    have hr1 : Room 1 _ := hr
    refine ⟨_, (pss_one (ps_ret (pe_ix ix_str (pv 1) (pe_call GG hr1 rfl DG.g DG.F.kp DG.b .nil pass0 (pa_cons (pv 0) (pa_cons (pe_callB call_len_str (by rfl) T.len (by decide +kernel) (pa_cons (pv 1) pa_nil)) pa_nil))) (fun _ _ => rfl)))), ?_⟩
    refine ⟨_, rfl, _, rfl, _, rfl, z, rfl, Nat.le_trans z2 (by decide), p, _, k, rfl, hS, hk, by omega, by omega, fun d H1 d0 d1 B1 S1 => ?_⟩
    exact rdItem rfl d0 (by omega) (by omega) fun c hc => kk _ c H1 hc B1 S1
theorem ok_pkl {f fG : Addr} {fd dG : FuncData} (F : Fun K "_law_pick" "_law_pick" sPck f fd) (T : TxB mg) (DG : Dn K mg "_law_draw" sDrw ["_law_well_here", "_law_many"] fG dG) : FnOk P w K mg base CX0 2 f fd ["_law_well_here", "_law_some"] spPkL := by
  have GG : FnOk P w K mg base CX0 1 fG dG _ spDrw := ok_drw DG.F
  refine F.ok scPck (fun vs H Q E h => ?_) (fun cdv A outer s H vs Q E hr h => ?_)
  · obtain ⟨p, l, xs, k, rfl, _⟩ := h
    rfl
  · obtain ⟨p, l, xs, k, rfl, hS, hk, hl, nl, z1, z2, kk⟩ := h
    have hr1 : Room 1 _ := hr
    refine ⟨_, (pss_one (ps_ret (pe_ix ix_list (pv 1) (pe_call GG hr1 rfl DG.g DG.F.kp DG.b .nil pass0 (pa_cons (pv 0) (pa_cons (pe_callB call_len_seq (by rfl) T.len (by decide +kernel) (pa_cons (pv 1) pa_nil)) pa_nil))) (fun _ _ => rfl)))), ?_⟩
    refine ⟨_, rfl, _, rfl, _, rfl, l, _, rfl, .inl (SqL.of hl), p, _, k, rfl, hS, hk, by omega, by omega, fun d H1 d0 d1 B1 S1 => ?_⟩
    have hd : d.toNat < xs.length := by omega
    have e : xs[d.toNat]? = some xs[d.toNat] := List.getElem?_eq_getElem hd
    exact rdList (B1 _ _ nl hl) (j := d.toNat) (by omega) e (kk _ _ H1 e B1 S1)
theorem scNam : FnScope ["_law_well_here", "_law_taken", "_law_letters", "_law_way", "_law_name_here", "_law_k", "_law_some", "_law_one"] ["_law_well_here", "_law_taken"] (defScope sNam) := ⟨rfl, rfl, rfl, by decide +kernel, rfl, by decide +kernel, by decide +kernel⟩
theorem ok_nam {f fG fP : Addr} {fd dG dP : FuncData} (F : Fun K "_law_name" "_law_name" sNam f fd) (T : TxB mg) (tstr : mg "str" = none) (DG : Dn K mg "_law_draw" sDrw ["_law_well_here", "_law_many"] fG dG) (DP : Dn K mg "_law_pick" sPck ["_law_well_here", "_law_some"] fP dP) : FnOk P w K mg base CX0 3 f fd ["_law_well_here", "_law_taken"] (spNam K) := by
  have GG : FnOk P w K mg base CX0 1 fG dG _ spDrw := ok_drw DG.F
  have GP : FnOk P w K mg base CX0 2 fP dP _ spPkS := ok_pks DP.F T DG
  refine F.ok scNam (fun vs H Q E h => ?_) (fun cdv A outer s H vs Q E hr h => ?_)
  · obtain ⟨p, ln, tk, k, rfl, _⟩ := h
    rfl
  · obtain ⟨p, ln, tk, k, rfl, hS, hk, nlp, hT, hl, kk⟩ := h
    have hr1 : Room 1 _ := hr.mono (by decide)
    have hr2 : Room 2 _ := hr
    refine ⟨_, (pss_cons (ps_set (i := 2) scNam.nd rfl (Or.inl rfl) pe_str)
      (pss_cons (ps_set (i := 3) scNam.nd rfl (Or.inl rfl) (pe_call GG hr1 rfl DG.g DG.F.kp DG.b .nil pass0 (pa_cons (pv 0) (pa_cons pe_int pa_nil))))
      (pss_cons (ps_set (i := 4) scNam.nd rfl (Or.inl rfl) (pe_call GP hr2 rfl DP.g DP.F.kp DP.b .nil pass0 (pa_cons (pv 0) (pa_cons (pv 2) pa_nil))))
      (pss_cons (ps_if (pt_cmpR op_eq (pv 3) pe_int (nomark _)) (pss_one (ps_set (i := 4) scNam.nd rfl (Or.inl rfl) (pe_op op_add_str pe_str (pe_callTy call_str_int (by rfl) tstr (by decide +kernel) (pa_cons (pe_op op_add pe_int (pe_call GG hr1 rfl DG.g DG.F.kp DG.b .nil pass0 (pa_cons (pv 0) (pa_cons pe_int pa_nil)))) pa_nil))))) (pss_one (ps_if (pt_cmpR op_lt (pv 3) pe_int (nomark _)) (pss_one (ps_for PassesOwn.never rfl (pi_range1 rfl T.range (pa_cons (pe_ix ix_list (pe_lst (pa_cons pe_int (pa_cons pe_int (pa_cons pe_int (pa_cons pe_int pa_nil))))) (pe_call GG hr1 rfl DG.g DG.F.kp DG.b .nil pass0 (pa_cons (pv 0) (pa_cons pe_int pa_nil))) (fun _ _ => rfl)) pa_nil)) (pg_name (i := 5) scNam.nd rfl (Or.inl rfl)) (pss_one (ps_set (i := 4) scNam.nd rfl (Or.inl rfl) (pe_op op_add_str (pv 4) (pe_call GP hr2 rfl DP.g DP.F.kp DP.b .nil pass0 (pa_cons (pv 0) (pa_cons (pe_op op_add_str (pv 2) pe_str) pa_nil)))))))) pss_nil)))
      (pss_cons (ps_set (i := 6) scNam.nd rfl (Or.inl rfl) (pe_op op_cat (pe_lst (pa_cons (pv 4) pa_nil)) (pe_lc (own := [("_law_k", 5)]) (g := gName 5) rfl scNam.nd (pi_range1 rfl T.range (pa_cons (pe_op op_add (pe_callB call_len_seq (by rfl) T.len (by decide +kernel) (pa_cons (pv 1) pa_nil)) pe_int) pa_nil)) (blkOk_by (N := ["_law_well_here", "_law_taken", "_law_letters", "_law_way", "_law_name_here", "_law_k", "_law_some", "_law_one"]) (sc := defScope sNam) (by decide +kernel)) (fun _ _ _ _ _ => (pg_name (i := 5) scNam.nd rfl (Or.inl rfl))) (fun _ _ _ _ _ => pts_nil) (fun _ _ _ _ _ => (pe_op op_add_str pe_str (pe_callTy call_str_int (by rfl) tstr (by decide +kernel) (pa_cons (pv 5) pa_nil)))))))
      (pss_one (ps_ret (pe_ix ix_list (pe_lc (own := [("_law_one", 7)]) (g := gName 7) (tt := tTest (tOp (rIn K true) (tVar 7) (tVar 1))) (te := tVar 7) rfl scNam.nd (pi_list (pv 6)) (blkOk_by (N := ["_law_well_here", "_law_taken", "_law_letters", "_law_way", "_law_name_here", "_law_k", "_law_some", "_law_one"]) (sc := defScope sNam) (by decide +kernel)) (fun _ _ _ _ _ => (pg_name (i := 7) scNam.nd rfl (Or.inl rfl))) (fun _ _ _ _ _ => (pts_one (pt_cmpR op_notIn_seq (pv 7) (pv 1) (by rfl)))) (fun _ _ _ _ _ => (pv 7))) pe_int (fun _ _ => rfl))))))))), ?_⟩
    refine ⟨_, rfl, p, 5, k, rfl, hS, by omega, by decide, by decide, fun wy H1 w0 w1 B1 S1 => ?_⟩
    refine ⟨_, rfl, _, rfl, p, L26, k + 1, rfl, S1, by omega, by rw [l26_len]; decide, by rw [l26_len]; decide, fun j c H2 hc B2 S2 => ?_⟩
    have hc' := l26_low hc
    have B12 := B1.trans B2
    -- the name that is drawn
    dsimp only [gName]
    show tSeq _ _ _ [some (.ref p), some (.ref ln), some (.str L26), some (.int wy), some (.str ⟨#[c]⟩), none, none, none] _
    refine cut1 (fun σ' H' => ∃ (z : Str) (u5 : Option V), σ' = [some (.ref p), some (.ref ln), some (.str L26), some (.int wy), some (.str z), u5, none, none] ∧ NmP z ∧ z.length ≤ 12 ∧ But p H H' ∧ StN (k + 20) H' p) ?_ (fun R' fin => ?_)
    · rintro σ' H3 ⟨z, u5, rfl, hz, hzl, B3, S3⟩
      have hT3 := B3 _ _ nlp hT
      refine ⟨_, rfl, by show 1 ≤ sizeLine; decide, fun l1 hl1 => ?_⟩
      have T1 : Same H3 (L2.upd H3 l1 (.lst [.str z])) := Same.upd hl1
      have e1 : (L2.upd H3 l1 (.lst [.str z])) l1 = some (.lst [.str z]) := upd_same
      generalize L2.upd H3 l1 (.lst [.str z]) = H4 at T1 e1
      refine ⟨_, rfl, ln, _, rfl, .inl (SqL.of (T1 _ _ hT3)), _, _, rfl, rfl, _, rfl, by omega, by rw [List.length_map]; omega, fun D hD => ?_⟩
      refine lc_range (lo := 0) (n := _) (fun i H' => Same H4 H' ∧ H' D = some (.lst (((List.range i).map nS).map V.str))) ⟨Same.upd hD, upd_same⟩ ?_ ?_
      · rintro i H5 hi ⟨S5, h5⟩
        rw [List.length_map] at hi
        have hi' : i ≤ 60 := by omega
        have ei : (0 + (i : Int)) = ((i : Nat) : Int) := by omega
        refine ⟨rfl, _, rfl, _, rfl, by rw [ei]; exact log_small (by omega), _, _, rfl, rfl, ?_, _, h5, ?_, fun b o e => ?_, ?_⟩
        · have q := num_sign (n := i) (by omega)
          rw [ei]
          exact Nat.le_trans (show 1 + (numS i).length ≤ 100 by omega) (by decide)
        · rw [List.length_map, List.length_map, List.length_range]
          exact Nat.lt_of_le_of_lt (show _ ≤ 1000 by omega) (by decide)
        · rw [upd_ne (ne_of_none e hD)]
          exact S5 _ _ e
        · rw [upd_same, List.range_succ, List.map_append, List.map_append, ei]
          rfl
      rintro H5 ⟨S5, h5⟩
      rw [List.length_map, show (((tk.length : Nat) : Int) + 1).toNat = tk.length + 1 by omega] at h5
      refine ⟨l1, D, _, _, rfl, rfl, S5 _ _ e1, h5, ?_, fun sm hsm => ?_⟩
      · rw [List.length_map, List.length_map, List.length_range]
        exact Nat.le_trans (show _ ≤ 1000 by show 1 + (tk.length + 1) ≤ 1000; omega) (by decide)
      have T6 : Same H5 (L2.upd H5 sm (.lst ([.str z] ++ ((List.range (tk.length + 1)).map nS).map V.str))) := Same.upd hsm
      have e6 : (L2.upd H5 sm (.lst ([.str z] ++ ((List.range (tk.length + 1)).map nS).map V.str))) sm = some (.lst ((z :: (List.range (tk.length + 1)).map nS).map V.str)) := upd_same
      generalize L2.upd H5 sm (.lst ([.str z] ++ ((List.range (tk.length + 1)).map nS).map V.str)) = H6 at T6 e6
      have S36 := (T1.trans S5).trans T6
      have hT6 := S36 _ _ hT3
      have all12 : ∀ y ∈ z :: (List.range (tk.length + 1)).map nS, NmP y ∧ y.length ≤ 12 := fun y hy => by
        rcases List.mem_cons.mp hy with rfl | hy
        · exact ⟨hz, hzl⟩
        · obtain ⟨i, hi, rfl⟩ := List.mem_map.mp hy
          exact nS_nm (by have := List.mem_range.mp hi; omega)
      have some1 : ∃ y ∈ z :: (List.range (tk.length + 1)).map nS, y ∉ tk := by
        apply Classical.byContradiction
        intro q
        have q2 : ∀ i, i < tk.length + 1 → nS i ∈ tk := fun i hi => Classical.byContradiction fun z' => q ⟨nS i, List.mem_cons_of_mem _ (List.mem_map.mpr ⟨i, List.mem_range.mpr hi, rfl⟩), z'⟩
        have q3 := holes (f := nS) (n := tk.length + 1) (l := tk) (fun i j hi hj e => num_inj (by omega) (by omega) (app_inj e)) q2
        omega
      generalize hal : z :: (List.range (tk.length + 1)).map nS = al at e6 all12 some1
      have al9 : al.length ≤ 100 := by
        rw [← hal, List.length_cons, List.length_map, List.length_range]
        omega
      refine ⟨_, rfl, sm, rfl, ⟨_, SqL.of e6⟩, fun M hM => ?_⟩
      refine lc_list (K := K) (a := sm) (xs := al.map V.str) (fun i H' => Same H6 H' ∧ H' M = some (.lst (((al.take i).filter fun y => !decide (y ∈ tk)).map V.str))) ⟨Same.upd hM, upd_same⟩ (fun i H' _ h => SqL.of (h.1 _ _ e6)) ?_ ?_
      · rintro i v H7 hv ⟨S7, h7⟩
        obtain ⟨y, hy, rfl⟩ := map_str_get hv
        refine ⟨rfl, _, rfl, _, rfl, ln, _, rfl, .inl (SqL.of (S7 _ _ hT6)), rfl, flats tk, _, rfl, ?_⟩
        rw [if_pos rfl, inV_strs]
        by_cases hin : y ∈ tk
        · rw [decide_eq_true hin]
          refine iteF ⟨S7, ?_⟩
          rw [h7, List.take_add_one, hy, List.filter_append]
          simp [hin]
        · rw [decide_eq_false hin]
          refine iteT ⟨_, rfl, _, h7, ?_, fun b o e => ?_, ?_⟩
          · rw [List.length_map]
            exact Nat.lt_of_le_of_lt (Nat.le_trans (List.length_filter_le _ _) (show _ ≤ 1000 by rw [List.length_take]; omega)) (by decide)
          · rw [upd_ne (ne_of_none e hM)]
            exact S7 _ _ e
          · rw [upd_same, List.take_add_one, hy, List.filter_append]
            simp [hin]
      rintro H7 ⟨S7, h7⟩
      rw [List.length_map, List.take_length] at h7
      have ne : (al.filter fun y => !decide (y ∈ tk)) ≠ [] := fun q => by
        obtain ⟨y, hy, hn⟩ := some1
        have hq : y ∈ al.filter fun y => !decide (y ∈ tk) := List.mem_filter.mpr ⟨hy, by simpa using hn⟩
        rw [q] at hq
        cases hq
      obtain ⟨y, r, hyr⟩ := List.exists_cons_of_ne_nil ne
      have hym := List.mem_filter.mp (show y ∈ al.filter fun y => !decide (y ∈ tk) by rw [hyr]; exact List.mem_cons_self ..)
      rw [hyr] at h7
      refine ⟨M, _, 0, .str y, rfl, rfl, SqL.of h7, atI_nat (j := 0) rfl, ?_⟩
      exact kk y H7 (all12 y hym.1).1 (all12 y hym.1).2 (by simpa using hym.2) (fun q o n e => S7 _ _ (S36 _ _ (B3 q o n e))) (S3.same (S36.trans S7))
    · refine ⟨_, rfl, rfl, _, rfl, ite2 (fun _ => ?_) (fun _ => ?_)⟩
      · refine ⟨_, rfl, p, 4, k + 2, rfl, S2, by omega, by decide, by decide, fun d H3 d0 d1 B3 S3 => ?_⟩
        have ed : (1 + d) = ((1 + d.toNat : Nat) : Int) := by omega
        refine ⟨_, _, rfl, rfl, _, rfl, by rw [ed]; exact log_small (by omega), _, _, rfl, rfl, ?_, ?_⟩
        · have q := num_sign (n := 1 + d.toNat) (by omega)
          rw [ed]
          exact Nat.le_trans (show 1 + (numS (1 + d.toNat)).length ≤ 100 by omega) (by decide)
        · have q := mS_nm (k := 1 + d.toNat) (by omega)
          rw [ed]
          exact fin _ _ ⟨_, _, rfl, q.1, q.2, B12.trans B3, S3.mono (by omega)⟩
      · refine ⟨_, rfl, _, _, rfl, rfl, _, rfl, ite2 (fun _ => ?_) (fun _ => ?_)⟩
        · refine ⟨by show 4 ≤ sizeLine; decide, fun l hl => ?_⟩
          have nlq := st_free S2.ok hl
          refine ⟨_, rfl, p, 4, k + 2, rfl, S2.upd nlq, by omega, by decide, by decide, fun d H3 d0 d1 B3 S3 => ?_⟩
          have hl3 := B3 l _ nlq upd_same
          obtain ⟨m, hm, m11⟩ : ∃ m : Nat, [V.int 0, .int 1, .int 2, .int 11][d.toNat]? = some (.int (m : Int)) ∧ m ≤ 11 := by
            rcases (by omega : d = 0 ∨ d = 1 ∨ d = 2 ∨ d = 3) with rfl | rfl | rfl | rfl
            · exact ⟨0, rfl, by decide⟩
            · exact ⟨1, rfl, by decide⟩
            · exact ⟨2, rfl, by decide⟩
            · exact ⟨11, rfl, by decide⟩
          refine rdList hl3 (j := d.toNat) (by omega) hm ⟨_, rfl, by omega, by omega, ?_⟩
          have B13 : But p H H3 := (but_new B12 nlq (B12.free nlq hl)).trans B3
          refine for_range (n := ((m : Nat) : Int).toNat) (fun i σ H' => ∃ (z : Str) (v : Option V), σ = [some (.ref p), some (.ref ln), some (.str L26), some (.int wy), some (.str z), v, none, none] ∧ z.length ≤ i + 1 ∧ NmP z ∧ But p H H' ∧ StN (k + 3 + i) H' p) ⟨⟨#[c]⟩, none, rfl, Nat.le_refl _, NmP.one hc', B13, S3⟩ ?_ ?_
          · rintro i σ H4 hi ⟨z, v, rfl, hz, hp, B4, S4⟩
            rw [Int.toNat_natCast] at hi
            refine ⟨_, rfl, _, rfl, _, rfl, _, _, rfl, rfl, ?_, ?_⟩
            · show L26.length + (PySem.Str.ofString "0123456789").length ≤ _
              rw [l26_len, show (PySem.Str.ofString "0123456789").length = 10 by decide +kernel]
              decide
            rw [l36_eq]
            refine ⟨p, ABC36, k + 3 + i, rfl, S4, by omega, by rw [abc36_len]; decide, by rw [abc36_len]; decide, fun j c H5 hc B5 S5 => ?_⟩
            refine ⟨_, _, rfl, rfl, ?_, _, _, rfl, ?_, hp.app (fun d hd => ?_), B4.trans B5, S5⟩
            · rw [len_one]
              exact Nat.le_trans (show z.length + 1 ≤ 100 by omega) (by decide)
            · rw [len_app, len_one]
              omega
            · have e : d = c := by simpa using hd
              rw [e]
              exact abc_any hc
          · rintro σ H4 ⟨z, v, rfl, hz, hp, B4, S4⟩
            rw [Int.toNat_natCast] at hz S4
            exact fin _ _ ⟨z, v, rfl, hp, by omega, B4, S4.mono (by omega)⟩
        · exact fin _ _ ⟨⟨#[c]⟩, none, rfl, NmP.one hc', by show 1 ≤ 12; decide, B12, S2.mono (by omega)⟩
theorem scNms : FnScope ["_law_well_here", "_law_many", "_law_found", "_law_k"] ["_law_well_here", "_law_many"] (defScope sNms) := ⟨rfl, rfl, rfl, by decide +kernel, rfl, by decide +kernel, by decide +kernel⟩
theorem ok_nms {f fL : Addr} {fd dL : FuncData} (F : Fun K "_law_names" "_law_names" sNms f fd) (T : TxB mg) (D : Dn K mg "_law_name" sNam ["_law_well_here", "_law_taken"] fL dL) (G : FnOk P w K mg base CX0 3 fL dL ["_law_well_here", "_law_taken"] (spNam K)) : FnOk P w K mg base CX0 4 f fd ["_law_well_here", "_law_many"] (spNms K) := by
  refine F.ok scNms (fun vs H Q E h => ?_) (fun cdv A outer s H vs Q E hr h => ?_)
  · obtain ⟨p, n, k, rfl, _⟩ := h
    rfl
  · obtain ⟨p, n, q, rfl, hS, hq, n0, n6, k⟩ := h
    have hr3 : Room 3 _ := hr
    refine ⟨_, (pss_cons (ps_set (i := 2) scNms.nd rfl (Or.inl rfl) (pe_lst pa_nil))
      (pss_cons (ps_for PassesOwn.never rfl (pi_range1 rfl T.range (pa_cons (pv 1) pa_nil)) (pg_name (i := 3) scNms.nd rfl (Or.inl rfl)) (pss_one (ps_expr (pe_bm PySem.F.plainAttrs_list PySem.F.slot_list_append PySem.F.type_list_append mt_append (pv 2) (pa_cons (pe_call G hr3 rfl D.g D.F.kp D.b .nil pass0 (pa_cons (pv 0) (pa_cons (pv 2) pa_nil))) pa_nil)))))
      (pss_one (ps_ret (pv 2))))), ?_⟩
    refine ⟨Nat.zero_le _, fun d hd => ?_⟩
    have ndp := st_free hS.ok hd
    refine ⟨_, rfl, n, rfl, by omega, by omega, ?_⟩
    refine for_range (n := n.toNat) (fun i σ H' => (∃ u, σ = [some (.ref p), some (.int n), some (.ref d), u]) ∧ ∃ zs : List Str, H' d = some (.lst (zs.map V.str)) ∧ zs.Nodup ∧ (∀ z ∈ zs, NmP z ∧ z.length ≤ 12) ∧ zs.length = i ∧ But p H H' ∧ StN (q + 20 * i) H' p)
      ⟨⟨none, rfl⟩, [], upd_same, List.nodup_nil, fun z hz => (List.not_mem_nil hz).elim, rfl, but_new (But.refl p H) ndp hd, hS.upd ndp⟩ ?_ ?_
    · rintro i σ H1 hi ⟨⟨u, rfl⟩, zs, hl, nd, nm, len, B, S⟩
      refine ⟨_, rfl, .inl ⟨rfl, _, SqL.of hl⟩, _, rfl, _, rfl, p, d, zs, q + 20 * i, rfl, S, by omega, ndp, hl, by omega, fun z H2 hz hz6 hm B2 S2 => ?_⟩
      have hl2 := B2 d _ ndp hl
      refine ⟨d, _, _, rfl, rfl, hl2, ?_, ?_⟩
      · rw [List.length_map]
        exact Nat.lt_of_le_of_lt (show _ ≤ 1000 by omega) (by decide)
      · refine ⟨⟨_, rfl⟩, zs ++ [z], ?_, ?_, ?_, ?_, but_new (B.trans B2) ndp hd, (S2.upd ndp).mono (by omega)⟩
        · rw [upd_same, List.map_append]
          rfl
        · rw [List.nodup_append]
          exact ⟨nd, (by simp : [z].Nodup), fun a ha b hb e => by
            have eb : b = z := by simpa using hb
            rw [e, eb] at ha
            exact hm ha⟩
        · intro y hy
          rcases List.mem_append.mp hy with hy | hy
          · exact nm y hy
          · rw [List.mem_singleton.mp hy]
            exact ⟨hz, hz6⟩
        · rw [List.length_append, List.length_singleton]
          omega
    · rintro σ H1 ⟨⟨u, rfl⟩, zs, hl, nd, nm, len, B, S⟩
      exact ⟨_, rfl, k zs d H1 hd ndp B S hl len nd nm⟩
end
end Wm
namespace Wm
open PySem L2 StX
/-! ### what is never walked -/
def tNo : TE := fun _ _ _ => False
theorem pe_never {X : Cx} {e : Expr} : PE X e tNo := ⟨fun _ _ _ _ _ _ h => h.elim⟩
theorem for_nil {K : PySem.W.Frag} {a : Addr} {g : TG} {tb : TS} {D : Ends} {σ : L2.St} {H : Hp} (hl : SqL K H a []) (h : D.nx σ H) :
    ∃ W : Nat → Nat → L2.St → Hp → Prop, (∃ m, W 0 m σ H) ∧ ∀ i m σ H, W i m σ H →
      ((Itl K a).stop i H ∧ D.nx σ H) ∨ ((Itl K a).go i H ∧ ∃ N : L2.St → Hp → Prop, (∀ σ' H', N σ' H' → ∃ m', m' < m ∧ W (i + 1) m' σ' H') ∧ ∀ x H', (Itl K a).yld i H x H' → g x σ H' fun σ2 H2 => tb { D with nx := N, ct := N, bk := D.nx } σ2 H2) :=
  for_list (K := K) (a := a) (xs := []) (fun _ σ' H' => σ' = σ ∧ H' = H) ⟨rfl, rfl⟩ (fun i σ' H' _ p => by rw [p.2]; exact hl) (fun i x σ' H' e _ => by simp at e) (fun σ' H' p => by rw [p.1, p.2]; exact h)
/-- names in a row, of which the program refuses none -/
structure Row (zs : List Str) : Prop where
  nm : ∀ z ∈ zs, isNm z = true ∧ z.length ≤ 12
  nd : zs.Nodup
theorem Row.noTw {zs : List Str} (h : Row zs) : NoTw (zs.map V.str) := fun i x e => by
  rw [List.getElem?_map] at e
  obtain ⟨z, ez, rfl⟩ := Option.map_eq_some_iff.mp e
  rw [← List.map_take, inV_strs]
  refine decide_eq_false fun hm => ?_
  obtain ⟨j, hj⟩ := List.mem_iff_getElem?.mp hm
  have hlt : j < i := by
    have q := (List.getElem?_eq_some_iff.mp hj).1
    rw [List.length_take] at q
    omega
  rw [List.getElem?_take_of_lt hlt] at hj
  have hil := (List.getElem?_eq_some_iff.mp ez).1
  have e1 := (List.getElem?_eq_some_iff.mp ez).2
  have hjl := (List.getElem?_eq_some_iff.mp hj).1
  have e2 := (List.getElem?_eq_some_iff.mp hj).2
  exact (List.pairwise_iff_getElem.mp h.nd) j i hjl hil hlt (e2.trans e1.symm)
theorem noTw_nil : NoTw [] := fun i x e => by simp at e
structure TxS (mg : Str → Option Value) : Prop where
  so : ∃ t, mg "MOST_SORTS" = some (.int 4 t)
  wo : ∃ t, mg "MOST_WORDS" = some (.int 5 t)
  ru : ∃ t, mg "MOST_RULES" = some (.int 8 t)
  ba : ∃ t, mg "MOST_BARS" = some (.int 4 t)
def spRNv (K : PySem.W.Frag) : Sp := fun vs H Q _ => ∃ (l : Addr) (zs : List Str), vs = [.ref l] ∧ SqL K H l (zs.map V.str) ∧ (∀ z ∈ zs, isNm z = true ∧ z.length ≤ 12) ∧ ∀ H', Same H H' → Q .non H'
def spE1L (K : PySem.W.Frag) : Sp := fun vs H Q _ => ∃ (m : Addr), vs = [.ref m] ∧ SqL K H m [] ∧ ∀ H', Same H H' → Q .non H'
def spE3L (K : PySem.W.Frag) : Sp := fun vs H Q _ => ∃ (s m p : Addr), vs = [.ref s, .ref m, .ref p] ∧ SqL K H m [] ∧ SqL K H p [] ∧ ∀ H', Same H H' → Q .non H'
def spE2L (K : PySem.W.Frag) : Sp := fun vs H Q _ => ∃ (s m : Addr), vs = [.ref s, .ref m] ∧ SqL K H m [] ∧ ∀ H', Same H H' → Q .non H'
def spE4L (K : PySem.W.Frag) : Sp := fun vs H Q _ => ∃ (s m r b : Addr), vs = [.ref s, .ref m, .ref r, .ref b] ∧ SqL K H m [] ∧ SqL K H r [] ∧ SqL K H b [] ∧ ∀ H', Same H H' → Q .non H'
def spOL : Sp := fun vs H Q _ => vs = [.non] ∧ ∀ d, H d = none → Q (.ref d) (upd H d (.lst []))
def spCS (K : PySem.W.Frag) : Sp := fun vs H Q _ => ∃ (s w m r b : Addr) (ss ws : List Str), vs = [.ref s, .ref w, .ref m, .ref r, .ref b] ∧ SqL K H s (ss.map V.str) ∧ SqL K H w (ws.map V.str) ∧ SqL K H m [] ∧ SqL K H r [] ∧ SqL K H b [] ∧
  Row ss ∧ Row ws ∧ 1 ≤ ss.length ∧ ss.length ≤ 4 ∧ 1 ≤ ws.length ∧ ws.length ≤ 5 ∧ ∀ H', Same H H' → Q .non H'
def schF (l1 l2 l3 l4 l5 : Addr) : List (Str × V) := putF "own_bars" (.ref l5) (putF "own_rules" (.ref l4) (putF "own_makings" (.ref l3) (putF "own_words" (.ref l2) (putF "own_sorts" (.ref l1) []))))
theorem putF_len (f : Str) (v : V) (fs : List (Str × V)) : (putF f v fs).length ≤ fs.length + 1 := length_putF f v fs
theorem lookF {f : Str} {v : V} {fs : List (Str × V)} : (putF f v fs).lookup f = some v := by rw [lookup_putF, if_pos rfl]
theorem lookN {f g : Str} {v : V} {fs : List (Str × V)} (h : ¬ g = f) : (putF f v fs).lookup g = fs.lookup g := by rw [lookup_putF, if_neg h]
theorem schF_so (l1 l2 l3 l4 l5 : Addr) : (schF l1 l2 l3 l4 l5).lookup ("own_sorts" : Str) = some (.ref l1) := by
  unfold schF
  rw [lookN (by decide +kernel), lookN (by decide +kernel), lookN (by decide +kernel), lookN (by decide +kernel), lookF]
theorem schF_wo (l1 l2 l3 l4 l5 : Addr) : (schF l1 l2 l3 l4 l5).lookup ("own_words" : Str) = some (.ref l2) := by
  unfold schF
  rw [lookN (by decide +kernel), lookN (by decide +kernel), lookN (by decide +kernel), lookF]
structure TxSch (K : PySem.W.Frag) (mg : Str → Option Value) (S fS : Addr) : Prop where
  cl : Cls K S
  n1 : NoAttr K S "own_sorts"
  n2 : NoAttr K S "own_words"
  n3 : NoAttr K S "own_makings"
  n4 : NoAttr K S "own_rules"
  n5 : NoAttr K S "own_bars"
  g : mg "Scheme" = some (.ref S)
  m : Mk K S fS
/-- a scheme at x, of these sorts and words -/
structure SchAt (S : Addr) (H : Hp) (x : Addr) (ss ws : List Str) : Prop where
  ex : ∃ dx l1 l2 l3 l4 l5, H x = some (.ins S dx (schF l1 l2 l3 l4 l5)) ∧ H l1 = some (.lst (ss.map V.str)) ∧ H l2 = some (.lst (ws.map V.str))
def spSch (K : PySem.W.Frag) (S : Addr) : Sp := fun vs H Q _ => ∃ (H0 : Hp) (x dx s w : Addr) (ss ws : List Str), vs = [.ref x, .ref s, .ref w, .non, .non, .non] ∧ Same H0 H ∧ H0 x = none ∧ H x = some (.ins S dx []) ∧ SqL K H0 s (ss.map V.str) ∧ SqL K H0 w (ws.map V.str) ∧
  Row ss ∧ Row ws ∧ 1 ≤ ss.length ∧ ss.length ≤ 4 ∧ 1 ≤ ws.length ∧ ws.length ≤ 5 ∧ ∀ H', Same H0 H' → SchAt S H' x ss ws → Q .non H'
section
variable {P : Program} {w : World} {K : PySem.W.Frag} {mg : Str → Option Value} {base : Heap}
theorem ok_rnv {f fN : Addr} {fd fdN : FuncData} (F : Fun K "refuse_no_name" "refuse_no_name" sRN f fd) (D : Dn K mg "is_name" sName ["text"] fN fdN) (GN : FnOk P w K mg base CX0 1 fN fdN ["text"] spName) : FnOk P w K mg base CX0 2 f fd ["texts"] (spRNv K) := by
  refine F.ok scRN (fun vs H Q E h => ?_) (fun cdv A outer s H vs Q E hr h => ?_)
  · obtain ⟨l, zs, rfl, _⟩ := h
    rfl
  · obtain ⟨l, zs, rfl, hl, hn, k⟩ := h
    refine ⟨_, (pss_one (ps_for PassesOwn.never rfl (pi_list (pv 0)) (pg_name (i := 1) scRN.nd rfl (Or.inl rfl)) (pss_one (ps_if (pt_not (pt_val (pe_call GN hr rfl D.g D.F.kp D.b .nil pass0 (pa_cons (pv 1) pa_nil)))) (pss_one ps_never) pss_nil)))), ?_⟩
    refine ⟨_, rfl, l, rfl, ⟨_, hl⟩, for_list (K := K) (a := l) (xs := zs.map V.str) (fun i σ H' => (∃ v, σ = [some (.ref l), v]) ∧ Same H H') ⟨⟨none, rfl⟩, Same.refl H⟩ (fun i σ H' _ p => p.2.seq hl) ?_ (fun σ H' p => k H' p.2)⟩
    rintro i y σ H' hi ⟨⟨v, rfl⟩, hS⟩
    rw [List.getElem?_map] at hi
    obtain ⟨z, hz, rfl⟩ := Option.map_eq_some_iff.mp hi
    have hq := hn z (List.mem_of_getElem? hz)
    refine ⟨_, rfl, z, rfl, Nat.le_trans hq.2 (by decide), fun H2 hS2 => ⟨_, rfl, ?_⟩⟩
    rw [hq.1]
    exact iteF ⟨⟨_, rfl⟩, hS.trans hS2⟩
theorem scRMT : FnScope ["makings", "pairs", "place", "making"] ["makings"] (defScope sRMT) := ⟨rfl, rfl, rfl, by decide +kernel, rfl, by decide +kernel, by decide +kernel⟩
theorem lc_nil {a : Addr} {g : TG} {tt : TT} {te : TE} {vs : List Nat} {σ : L2.St} {H1 : Hp} {D : Addr} {Qd : Hp → Prop} (hl : SqL K H1 a []) (hD : H1 D = none) (h : Qd (upd H1 D (.lst []))) :
    ∃ W : Nat → Nat → Hp → Prop, (∃ m, W 0 m (upd H1 D (.lst []))) ∧ ∀ i m H, W i m H →
      ((Itl K a).stop i H ∧ Qd H) ∨ ((Itl K a).go i H ∧ ∃ Nx : Hp → Prop, (∀ H', Nx H' → ∃ m', m' < m ∧ W (i + 1) m' H') ∧ ∀ x H', (Itl K a).yld i H x H' → g x (wipe σ vs) H' fun σ2 H2 => wipe σ2 vs = wipe σ vs ∧ tt σ2 H2 fun b H3 =>
        if b = true then te σ2 H3 fun y H4 => ∃ acc, H4 D = some (.lst acc) ∧ acc.length < sizeLine ∧ Nx (upd H4 D (.lst (acc ++ [y]))) else Nx H3) :=
  lc_list (K := K) (a := a) (xs := []) (fun _ H' => H' = upd H1 D (.lst [])) rfl (fun i H' _ p => by rw [p]; exact (Same.upd hD).seq hl) (fun i x H' e _ => by simp at e) (fun H' p => by rw [p]; exact h)
theorem ok_rmt {f fF : Addr} {fd fdF : FuncData} (F : Fun K "refuse_makings_twice" "refuse_makings_twice" sRMT f fd) (T : TxB mg) (D : Dn K mg "first_twice" sFT ["row"] fF fdF) : FnOk P w K mg base CX0 2 f fd ["makings"] (spE1L K) := by
  have G : FnOk P w K mg base CX0 1 fF fdF ["row"] (spFT K) := ok_ft D.F T
  refine F.ok scRMT (fun vs H Q E h => ?_) (fun cdv A outer s H vs Q E hr h => ?_)
  · obtain ⟨m, rfl, _⟩ := h
    rfl
  · obtain ⟨m, rfl, hm, k⟩ := h
    refine ⟨_, (pss_cons (ps_setLc (i := 1) (own := [("making", 3)]) (g := gName 3) (te := tNo) rfl scRMT.nd rfl rfl (sw_true rfl rfl rfl (by decide +kernel)) (pi_list (pv 0)) (blkOk_by (N := ["makings", "pairs", "place", "making"]) (sc := defScope sRMT) (by decide +kernel)) (fun _ _ _ _ _ => (pg_name (i := 3) scRMT.nd rfl (Or.inl rfl))) (fun _ _ _ _ _ => pts_nil) (fun _ _ _ _ _ => pe_never))
      (pss_cons (ps_set (i := 2) scRMT.nd rfl (Or.inl rfl) (pe_call G hr rfl D.g D.F.kp D.b .nil pass0 (pa_cons (pv 1) pa_nil)))
      (pss_one (ps_if (pt_cmp (pc_notN (pv 2))) (pss_one ps_never) pss_nil)))), ?_⟩
    refine ⟨_, rfl, m, rfl, ⟨_, hm⟩, fun D hD => lc_nil hm hD ?_⟩
    refine ⟨_, rfl, D, [], rfl, .inl (SqL.of upd_same), rfl, noTw_nil, fun H' hS => ?_⟩
    refine ⟨_, rfl, _, rfl, ?_⟩
    exact iteF (k H' ((Same.upd hD).trans hS))
theorem scRNS : FnScope ["sorts", "makings", "patterns", "asked", "making", "pattern", "name"] ["sorts", "makings", "patterns"] (defScope sRNS) := ⟨rfl, rfl, rfl, by decide +kernel, rfl, by decide +kernel, by decide +kernel⟩
theorem ok_rns {f : Addr} {fd : FuncData} (F : Fun K "refuse_no_sort" "refuse_no_sort" sRNS f fd) : FnOk P w K mg base CX0 1 f fd ["sorts", "makings", "patterns"] (spE3L K) := by
  refine F.ok scRNS (fun vs H Q E h => ?_) (fun cdv A outer s H vs Q E hr h => ?_)
  · obtain ⟨s, m, p, rfl, _⟩ := h
    rfl
  · obtain ⟨s, m, p, rfl, hm, hp, k⟩ := h
    refine ⟨_, (pss_cons (ps_set (i := 3) scRNS.nd rfl (Or.inl rfl) (pe_lst pa_nil))
      (pss_cons (ps_for PassesOwn.never rfl (pi_list (pv 1)) (pg_name (i := 4) scRNS.nd rfl (Or.inl rfl)) (pss_one ps_never))
      (pss_cons (ps_for PassesOwn.never rfl (pi_list (pv 2)) (pg_name (i := 5) scRNS.nd rfl (Or.inl rfl)) (pss_one ps_never))
      (pss_one (ps_for PassesOwn.never rfl (pi_list (pv 3)) (pg_name (i := 6) scRNS.nd rfl (Or.inl rfl)) (pss_one ps_never)))))), ?_⟩
    refine ⟨Nat.zero_le _, fun d hd => ?_⟩
    have S := Same.upd (o := .lst []) hd
    refine ⟨_, rfl, m, rfl, ⟨_, S.seq hm⟩, for_nil (S.seq hm) ?_⟩
    refine ⟨_, rfl, p, rfl, ⟨_, S.seq hp⟩, for_nil (S.seq hp) ?_⟩
    exact ⟨_, rfl, d, rfl, ⟨_, SqL.of upd_same⟩, for_nil (SqL.of upd_same) (k _ S)⟩
theorem scRU : FnScope ["sorts", "makings", "making"] ["sorts", "makings"] (defScope sRU) := ⟨rfl, rfl, rfl, by decide +kernel, rfl, by decide +kernel, by decide +kernel⟩
theorem ok_ru {f : Addr} {fd : FuncData} (F : Fun K "refuse_upward" "refuse_upward" sRU f fd) : FnOk P w K mg base CX0 1 f fd ["sorts", "makings"] (spE2L K) := by
  refine F.ok scRU (fun vs H Q E h => ?_) (fun cdv A outer s H vs Q E hr h => ?_)
  · obtain ⟨s, m, rfl, _⟩ := h
    rfl
  · obtain ⟨s, m, rfl, hm, k⟩ := h
    refine ⟨_, (pss_one (ps_for PassesOwn.never rfl (pi_list (pv 1)) (pg_name (i := 2) scRU.nd rfl (Or.inl rfl)) (pss_one ps_never))), ?_⟩
    exact ⟨_, rfl, m, rfl, ⟨_, hm⟩, for_nil hm (k _ (Same.refl H))⟩
theorem scRNW : FnScope ["words", "makings", "rules", "bars", "asked", "making", "rule", "bar", "name"] ["words", "makings", "rules", "bars"] (defScope sRNW) := ⟨rfl, rfl, rfl, by decide +kernel, rfl, by decide +kernel, by decide +kernel⟩
theorem ok_rnw {f : Addr} {fd : FuncData} (F : Fun K "refuse_no_word" "refuse_no_word" sRNW f fd) : FnOk P w K mg base CX0 1 f fd ["words", "makings", "rules", "bars"] (spE4L K) := by
  refine F.ok scRNW (fun vs H Q E h => ?_) (fun cdv A outer s H vs Q E hr h => ?_)
  · obtain ⟨s, m, r, b, rfl, _⟩ := h
    rfl
  · obtain ⟨s, m, r, b, rfl, hm, hr', hb, k⟩ := h
    refine ⟨_, (pss_cons (ps_set (i := 4) scRNW.nd rfl (Or.inl rfl) (pe_lst pa_nil))
      (pss_cons (ps_for PassesOwn.never rfl (pi_list (pv 1)) (pg_name (i := 5) scRNW.nd rfl (Or.inl rfl)) (pss_one ps_never))
      (pss_cons (ps_for PassesOwn.never rfl (pi_list (pv 2)) (pg_name (i := 6) scRNW.nd rfl (Or.inl rfl)) (pss_one ps_never))
      (pss_cons (ps_for PassesOwn.never rfl (pi_list (pv 3)) (pg_name (i := 7) scRNW.nd rfl (Or.inl rfl)) (pss_one ps_never))
      (pss_one (ps_for PassesOwn.never rfl (pi_list (pv 4)) (pg_name (i := 8) scRNW.nd rfl (Or.inl rfl)) (pss_one ps_never))))))), ?_⟩
    refine ⟨Nat.zero_le _, fun d hd => ?_⟩
    have S := Same.upd (o := .lst []) hd
    refine ⟨_, rfl, m, rfl, ⟨_, S.seq hm⟩, for_nil (S.seq hm) ?_⟩
    refine ⟨_, rfl, r, rfl, ⟨_, S.seq hr'⟩, for_nil (S.seq hr') ?_⟩
    refine ⟨_, rfl, b, rfl, ⟨_, S.seq hb⟩, for_nil (S.seq hb) ?_⟩
    exact ⟨_, rfl, d, rfl, ⟨_, SqL.of upd_same⟩, for_nil (SqL.of upd_same) (k _ S)⟩
theorem scOL : FnScope ["rows"] ["rows"] (defScope sOL) := ⟨rfl, rfl, rfl, by decide +kernel, rfl, by decide +kernel, by decide +kernel⟩
theorem ok_ol {f : Addr} {fd : FuncData} (F : Fun K "own_list" "own_list" sOL f fd) : FnOk P w K mg base CX0 1 f fd ["rows"] spOL := by
  refine F.ok scOL (fun vs H Q E h => ?_) (fun cdv A outer s H vs Q E hr h => ?_)
  · obtain ⟨rfl, _⟩ := h
    rfl
  · obtain ⟨rfl, k⟩ := h
    refine ⟨_, (pss_cons (ps_if (pt_cmp (pc_isN (pv 0))) (pss_one (ps_ret (pe_lst pa_nil))) pss_nil) (pss_one ps_never)), ?_⟩
    refine ⟨_, rfl, _, rfl, ?_⟩
    exact iteT ⟨Nat.zero_le _, fun d hd => k d hd⟩
theorem scCS : FnScope ["sorts", "words", "makings", "rules", "bars", "rule", "bar"] ["sorts", "words", "makings", "rules", "bars"] (defScope sCS) := ⟨rfl, rfl, rfl, by decide +kernel, rfl, by decide +kernel, by decide +kernel⟩
theorem ok_cs {f fRC fRN fRT fRM fNS fRU fNW : Addr} {fd dRC dRN dRT dRM dNS dRU dNW : FuncData} (F : Fun K "check_scheme" "check_scheme" sCS f fd) (T : TxB mg) (TS : TxS mg)
    (DC : Dn K mg "refuse_count" sRC ["what", "count", "least", "most"] fRC dRC) (DN : Dn K mg "refuse_no_name" sRN ["texts"] fRN dRN) (DT : Dn K mg "refuse_twice" sRT ["names"] fRT dRT) (DM : Dn K mg "refuse_makings_twice" sRMT ["makings"] fRM dRM) (DS : Dn K mg "refuse_no_sort" sRNS ["sorts", "makings", "patterns"] fNS dNS) (DU : Dn K mg "refuse_upward" sRU ["sorts", "makings"] fRU dRU) (DW : Dn K mg "refuse_no_word" sRNW ["words", "makings", "rules", "bars"] fNW dNW)
    (GN : FnOk P w K mg base CX0 2 fRN dRN ["texts"] (spRNv K)) (GT : FnOk P w K mg base CX0 2 fRT dRT ["names"] (spFT K)) (GM : FnOk P w K mg base CX0 2 fRM dRM ["makings"] (spE1L K)) : FnOk P w K mg base CX0 3 f fd ["sorts", "words", "makings", "rules", "bars"] (spCS K) := by
  have GC : FnOk P w K mg base CX0 1 fRC dRC _ spRC := ok_rc DC.F
  have GS : FnOk P w K mg base CX0 1 fNS dNS _ (spE3L K) := ok_rns DS.F
  have GU : FnOk P w K mg base CX0 1 fRU dRU _ (spE2L K) := ok_ru DU.F
  have GW : FnOk P w K mg base CX0 1 fNW dNW _ (spE4L K) := ok_rnw DW.F
  refine F.ok scCS (fun vs H Q E h => ?_) (fun cdv A outer s H vs Q E hr h => ?_)
  · obtain ⟨s, w, m, r, b, ss, ws, rfl, _⟩ := h
    rfl
  · obtain ⟨s, w, m, r, b, ss, ws, rfl, hs, hw, hm, hr', hb, rs, rw', s1, s4, w1, w5, k⟩ := h
    have hr1 : Room 1 _ := hr.mono (by decide)
    obtain ⟨t1, g1⟩ := TS.so
    obtain ⟨t2, g2⟩ := TS.wo
    obtain ⟨t3, g3⟩ := TS.ru
    obtain ⟨t4, g4⟩ := TS.ba
    refine ⟨_, (pss_cons (ps_expr (pe_call GC hr1 rfl DC.g DC.F.kp DC.b .nil pass0 (pa_cons pe_str (pa_cons (pe_callB call_len_seq (by rfl) T.len (by decide +kernel) (pa_cons (pv 0) pa_nil)) (pa_cons pe_int (pa_cons (pe_glob (v := .int 4) rfl g1 ⟨t1, rfl⟩) pa_nil))))))
      (pss_cons (ps_expr (pe_call GC hr1 rfl DC.g DC.F.kp DC.b .nil pass0 (pa_cons pe_str (pa_cons (pe_callB call_len_seq (by rfl) T.len (by decide +kernel) (pa_cons (pv 1) pa_nil)) (pa_cons pe_int (pa_cons (pe_glob (v := .int 5) rfl g2 ⟨t2, rfl⟩) pa_nil))))))
      (pss_cons (ps_expr (pe_call GC hr1 rfl DC.g DC.F.kp DC.b .nil pass0 (pa_cons pe_str (pa_cons (pe_callB call_len_seq (by rfl) T.len (by decide +kernel) (pa_cons (pv 3) pa_nil)) (pa_cons pe_int (pa_cons (pe_glob (v := .int 8) rfl g3 ⟨t3, rfl⟩) pa_nil))))))
      (pss_cons (ps_expr (pe_call GC hr1 rfl DC.g DC.F.kp DC.b .nil pass0 (pa_cons pe_str (pa_cons (pe_callB call_len_seq (by rfl) T.len (by decide +kernel) (pa_cons (pv 4) pa_nil)) (pa_cons pe_int (pa_cons (pe_glob (v := .int 4) rfl g4 ⟨t4, rfl⟩) pa_nil))))))
      (pss_cons (ps_expr (pe_call GN hr rfl DN.g DN.F.kp DN.b .nil pass0 (pa_cons (pv 0) pa_nil)))
      (pss_cons (ps_expr (pe_call GN hr rfl DN.g DN.F.kp DN.b .nil pass0 (pa_cons (pv 1) pa_nil)))
      (pss_cons (ps_expr (pe_call GT hr rfl DT.g DT.F.kp DT.b .nil pass0 (pa_cons (pv 0) pa_nil)))
      (pss_cons (ps_expr (pe_call GT hr rfl DT.g DT.F.kp DT.b .nil pass0 (pa_cons (pv 1) pa_nil)))
      (pss_cons (ps_expr (pe_call GM hr rfl DM.g DM.F.kp DM.b .nil pass0 (pa_cons (pv 2) pa_nil)))
      (pss_cons (ps_expr (pe_call GT hr rfl DT.g DT.F.kp DT.b .nil pass0 (pa_cons (pe_lc (own := [("rule", 5)]) (g := gName 5) (te := tNo) rfl scCS.nd (pi_list (pv 3)) (blkOk_by (N := ["sorts", "words", "makings", "rules", "bars", "rule", "bar"]) (sc := defScope sCS) (by decide +kernel)) (fun _ _ _ _ _ => (pg_name (i := 5) scCS.nd rfl (Or.inl rfl))) (fun _ _ _ _ _ => pts_nil) (fun _ _ _ _ _ => pe_never)) pa_nil)))
      (pss_cons (ps_expr (pe_call GT hr rfl DT.g DT.F.kp DT.b .nil pass0 (pa_cons (pe_lc (own := [("bar", 6)]) (g := gName 6) (te := tNo) rfl scCS.nd (pi_list (pv 4)) (blkOk_by (N := ["sorts", "words", "makings", "rules", "bars", "rule", "bar"]) (sc := defScope sCS) (by decide +kernel)) (fun _ _ _ _ _ => (pg_name (i := 6) scCS.nd rfl (Or.inl rfl))) (fun _ _ _ _ _ => pts_nil) (fun _ _ _ _ _ => pe_never)) pa_nil)))
      (pss_cons (ps_expr (pe_call GS hr1 rfl DS.g DS.F.kp DS.b .nil pass0 (pa_cons (pv 0) (pa_cons (pv 2) (pa_cons (pe_lst (pa_star (pv 3) (pa_star (pv 4) pa_nil))) pa_nil)))))
      (pss_cons (ps_expr (pe_call GU hr1 rfl DU.g DU.F.kp DU.b .nil pass0 (pa_cons (pv 0) (pa_cons (pv 2) pa_nil))))
      (pss_one (ps_expr (pe_call GW hr1 rfl DW.g DW.F.kp DW.b .nil pass0 (pa_cons (pv 1) (pa_cons (pv 2) (pa_cons (pv 3) (pa_cons (pv 4) pa_nil)))))))))))))))))))), ?_⟩
    refine ⟨_, rfl, s, _, rfl, .inl hs, _, _, _, _, rfl, by rw [List.length_map]; omega, by rw [List.length_map]; omega, ?_⟩
    refine ⟨_, rfl, w, _, rfl, .inl hw, _, _, _, _, rfl, by rw [List.length_map]; omega, by rw [List.length_map]; omega, ?_⟩
    refine ⟨_, rfl, r, _, rfl, .inl hr', _, _, _, _, rfl, by decide, by decide, ?_⟩
    refine ⟨_, rfl, b, _, rfl, .inl hb, _, _, _, _, rfl, by decide, by decide, ?_⟩
    refine ⟨_, rfl, s, ss, rfl, hs, rs.nm, fun H1 S1 => ?_⟩
    refine ⟨_, rfl, w, ws, rfl, S1.seq hw, rw'.nm, fun H2 S2 => ?_⟩
    have S12 := S1.trans S2
    refine ⟨_, rfl, s, _, rfl, .inl (S12.seq hs), flats ss, rs.noTw, fun H3 S3 => ?_⟩
    have S13 := S12.trans S3
    refine ⟨_, rfl, w, _, rfl, .inl (S13.seq hw), flats ws, rw'.noTw, fun H4 S4 => ?_⟩
    have S14 := S13.trans S4
    refine ⟨_, rfl, m, rfl, S14.seq hm, fun H5 S5 => ?_⟩
    have S15 := S14.trans S5
    refine ⟨_, rfl, r, rfl, ⟨_, S15.seq hr'⟩, fun D hD => lc_nil (S15.seq hr') hD ⟨D, [], rfl, .inl (SqL.of upd_same), rfl, noTw_nil, fun H6 S6 => ?_⟩⟩
    have S16 := (S15.trans (Same.upd hD)).trans S6
    refine ⟨_, rfl, b, rfl, ⟨_, S16.seq hb⟩, fun D2 hD2 => lc_nil (S16.seq hb) hD2 ⟨D2, [], rfl, .inl (SqL.of upd_same), rfl, noTw_nil, fun H7 S7 => ?_⟩⟩
    have S17 := (S16.trans (Same.upd hD2)).trans S7
    refine ⟨_, rfl, _, rfl, _, rfl, r, [], rfl, .inr (S17.seq hr'), _, rfl, b, [], rfl, .inr (S17.seq hb), Nat.zero_le _, fun q hq => ?_⟩
    have S18 := S17.trans (Same.upd (o := .lst []) hq)
    refine ⟨s, m, q, rfl, S18.seq hm, SqL.of upd_same, fun H8 S8 => ?_⟩
    have S19 := S18.trans S8
    refine ⟨_, rfl, _, rfl, s, m, rfl, S19.seq hm, fun H9 S9 => ?_⟩
    have S20 := S19.trans S9
    exact ⟨_, rfl, _, rfl, _, rfl, _, rfl, w, m, r, b, rfl, S20.seq hm, S20.seq hr', S20.seq hb, fun H10 S10 => k H10 (S20.trans S10)⟩
theorem scSch : FnScope ["self", "sorts", "words", "makings", "rules", "bars"] ["self", "sorts", "words", "makings", "rules", "bars"] (defScope sSch) := ⟨rfl, rfl, rfl, by decide +kernel, rfl, by decide +kernel, by decide +kernel⟩
theorem ok_sch {f fO fC S : Addr} {fd dO dC : FuncData} {dvs : List V} (F : FunD K "__init__" "Scheme.__init__" (defArgs sSch) (defBody sSch) (defScope sSch) dvs [] f fd) (tl : mg "list" = none) (TC : TxSch K mg S f) (DO : Dn K mg "own_list" sOL ["rows"] fO dO) (DC : Dn K mg "check_scheme" sCS ["sorts", "words", "makings", "rules", "bars"] fC dC)
    (GC : FnOk P w K mg base CX0 3 fC dC ["sorts", "words", "makings", "rules", "bars"] (spCS K)) : FnOk P w K mg base CX0 4 f fd ["self", "sorts", "words", "makings", "rules", "bars"] (spSch K S) := by
  have GO : FnOk P w K mg base CX0 1 fO dO _ spOL := ok_ol DO.F
  refine F.ok scSch (fun vs H Q E h => ?_) (fun cdv A outer s H vs Q E hr h => ?_)
  · obtain ⟨H0, x, dx, s, w, ss, ws, rfl, _⟩ := h
    rfl
  · obtain ⟨H0, x, dx, s, w, ss, ws, rfl, S0, x0, hx, hs, hw, rs, rw', s1, s4, w1, w5, k⟩ := h
    have hr1 : Room 1 _ := hr.mono (by decide)
    have Sx : ∀ {H1 : Hp} {o : HO}, Same H0 H1 → Same H0 (upd H1 x o) := fun hs b o e => by
      rw [upd_ne (ne_of_none e x0)]
      exact hs b o e
    refine ⟨_, (pss_cons (ps_fld (pv 0) (pe_callTy call_list_of (by rfl) tl (by decide +kernel) (pa_cons (pv 1) pa_nil)) rfl)
      (pss_cons (ps_fld (pv 0) (pe_callTy call_list_of (by rfl) tl (by decide +kernel) (pa_cons (pv 2) pa_nil)) rfl)
      (pss_cons (ps_fld (pv 0) (pe_call GO hr1 rfl DO.g DO.F.kp DO.b .nil pass0 (pa_cons (pv 3) pa_nil)) rfl)
      (pss_cons (ps_fld (pv 0) (pe_call GO hr1 rfl DO.g DO.F.kp DO.b .nil pass0 (pa_cons (pv 4) pa_nil)) rfl)
      (pss_cons (ps_fld (pv 0) (pe_call GO hr1 rfl DO.g DO.F.kp DO.b .nil pass0 (pa_cons (pv 5) pa_nil)) rfl)
      (pss_one (ps_expr (pe_call GC hr rfl DC.g DC.F.kp DC.b .nil pass0 (pa_cons (pe_fld (pv 0) rfl) (pa_cons (pe_fld (pv 0) rfl) (pa_cons (pe_fld (pv 0) rfl) (pa_cons (pe_fld (pv 0) rfl) (pa_cons (pe_fld (pv 0) rfl) pa_nil))))))))))))), ?_⟩
    refine ⟨_, rfl, s, _, rfl, .inl (S0.seq hs), fun l1 h1 => ?_⟩
    have n1 : l1 ≠ x := fun z => by
      rw [z, hx] at h1
      cases h1
    have hx1 : upd H l1 (.lst (ss.map V.str)) x = some (.ins S dx []) := (upd_ne n1.symm).trans hx
    refine ⟨_, rfl, x, S, dx, _, rfl, hx1, TC.cl, TC.n1, by show 0 < 1000; decide, ?_⟩
    have S1 : Same H0 (upd (upd H l1 (.lst (ss.map V.str))) x (.ins S dx (putF "own_sorts" (.ref l1) []))) := Sx (S0.trans (Same.upd h1))
    have e1 : (upd (upd H l1 (.lst (ss.map V.str))) x (.ins S dx (putF "own_sorts" (.ref l1) []))) l1 = some (.lst (ss.map V.str)) := (upd_ne n1).trans upd_same
    have ex1 : (upd (upd H l1 (.lst (ss.map V.str))) x (.ins S dx (putF "own_sorts" (.ref l1) []))) x = some (.ins S dx (putF "own_sorts" (.ref l1) [])) := upd_same
    generalize upd (upd H l1 (.lst (ss.map V.str))) x (.ins S dx (putF "own_sorts" (.ref l1) [])) = H1 at S1 e1 ex1
    refine ⟨_, rfl, w, _, rfl, .inl (S1.seq hw), fun l2 h2 => ?_⟩
    have n2 : l2 ≠ x := fun z => by
      rw [z, ex1] at h2
      cases h2
    refine ⟨_, rfl, x, S, dx, _, rfl, (upd_ne n2.symm).trans ex1, TC.cl, TC.n2, Nat.lt_of_le_of_lt (putF_len _ _ _) (by decide), ?_⟩
    have S2 := Sx (o := .ins S dx (putF "own_words" (.ref l2) (putF "own_sorts" (.ref l1) []))) (S1.trans (Same.upd (o := .lst (ws.map V.str)) h2))
    have e2 : (upd (upd H1 l2 (.lst (ws.map V.str))) x (.ins S dx (putF "own_words" (.ref l2) (putF "own_sorts" (.ref l1) [])))) l2 = some (.lst (ws.map V.str)) := (upd_ne n2).trans upd_same
    have e12 : (upd (upd H1 l2 (.lst (ws.map V.str))) x (.ins S dx (putF "own_words" (.ref l2) (putF "own_sorts" (.ref l1) [])))) l1 = some (.lst (ss.map V.str)) := (upd_ne n1).trans ((upd_ne (ne_of_none e1 h2)).trans e1)
    have ex2 : (upd (upd H1 l2 (.lst (ws.map V.str))) x (.ins S dx (putF "own_words" (.ref l2) (putF "own_sorts" (.ref l1) [])))) x = _ := upd_same
    generalize upd (upd H1 l2 (.lst (ws.map V.str))) x (.ins S dx (putF "own_words" (.ref l2) (putF "own_sorts" (.ref l1) []))) = H2 at S2 e2 e12 ex2
    refine ⟨_, rfl, rfl, fun l3 h3 => ?_⟩
    have n3 : l3 ≠ x := fun z => by
      rw [z, ex2] at h3
      cases h3
    refine ⟨_, rfl, x, S, dx, _, rfl, (upd_ne n3.symm).trans ex2, TC.cl, TC.n3, ?_, ?_⟩
    · have q1 := putF_len "own_sorts" (.ref l1) []
      have q2 := putF_len "own_words" (.ref l2) (putF "own_sorts" (.ref l1) [])
      simp only [List.length_nil] at *
      omega
    have S3 := Sx (o := .ins S dx (putF "own_makings" (.ref l3) (putF "own_words" (.ref l2) (putF "own_sorts" (.ref l1) [])))) (S2.trans (Same.upd (o := .lst []) h3))
    have e33 : (upd (upd H2 l3 (.lst [])) x (.ins S dx (putF "own_makings" (.ref l3) (putF "own_words" (.ref l2) (putF "own_sorts" (.ref l1) []))))) l3 = some (.lst []) := (upd_ne n3).trans upd_same
    have e13 : (upd (upd H2 l3 (.lst [])) x (.ins S dx (putF "own_makings" (.ref l3) (putF "own_words" (.ref l2) (putF "own_sorts" (.ref l1) []))))) l1 = some (.lst (ss.map V.str)) := (upd_ne n1).trans ((upd_ne (ne_of_none e12 h3)).trans e12)
    have e23 : (upd (upd H2 l3 (.lst [])) x (.ins S dx (putF "own_makings" (.ref l3) (putF "own_words" (.ref l2) (putF "own_sorts" (.ref l1) []))))) l2 = some (.lst (ws.map V.str)) := (upd_ne n2).trans ((upd_ne (ne_of_none e2 h3)).trans e2)
    have ex3 : (upd (upd H2 l3 (.lst [])) x (.ins S dx (putF "own_makings" (.ref l3) (putF "own_words" (.ref l2) (putF "own_sorts" (.ref l1) []))))) x = _ := upd_same
    generalize upd (upd H2 l3 (.lst [])) x (.ins S dx (putF "own_makings" (.ref l3) (putF "own_words" (.ref l2) (putF "own_sorts" (.ref l1) [])))) = H3 at S3 ex3 e13 e23 e33
    refine ⟨_, rfl, rfl, fun l4 h4 => ?_⟩
    have n4 : l4 ≠ x := fun z => by
      rw [z, ex3] at h4
      cases h4
    refine ⟨_, rfl, x, S, dx, _, rfl, (upd_ne n4.symm).trans ex3, TC.cl, TC.n4, ?_, ?_⟩
    · have q1 := putF_len "own_sorts" (.ref l1) []
      have q2 := putF_len "own_words" (.ref l2) (putF "own_sorts" (.ref l1) [])
      have q3 := putF_len "own_makings" (.ref l3) (putF "own_words" (.ref l2) (putF "own_sorts" (.ref l1) []))
      simp only [List.length_nil] at *
      omega
    have S4 := Sx (o := .ins S dx (putF "own_rules" (.ref l4) (putF "own_makings" (.ref l3) (putF "own_words" (.ref l2) (putF "own_sorts" (.ref l1) []))))) (S3.trans (Same.upd (o := .lst []) h4))
    have e44 : (upd (upd H3 l4 (.lst [])) x (.ins S dx (putF "own_rules" (.ref l4) (putF "own_makings" (.ref l3) (putF "own_words" (.ref l2) (putF "own_sorts" (.ref l1) [])))))) l4 = some (.lst []) := (upd_ne n4).trans upd_same
    have e14 : (upd (upd H3 l4 (.lst [])) x (.ins S dx (putF "own_rules" (.ref l4) (putF "own_makings" (.ref l3) (putF "own_words" (.ref l2) (putF "own_sorts" (.ref l1) [])))))) l1 = some (.lst (ss.map V.str)) := (upd_ne n1).trans ((upd_ne (ne_of_none e13 h4)).trans e13)
    have e24 : (upd (upd H3 l4 (.lst [])) x (.ins S dx (putF "own_rules" (.ref l4) (putF "own_makings" (.ref l3) (putF "own_words" (.ref l2) (putF "own_sorts" (.ref l1) [])))))) l2 = some (.lst (ws.map V.str)) := (upd_ne n2).trans ((upd_ne (ne_of_none e23 h4)).trans e23)
    have e34 : (upd (upd H3 l4 (.lst [])) x (.ins S dx (putF "own_rules" (.ref l4) (putF "own_makings" (.ref l3) (putF "own_words" (.ref l2) (putF "own_sorts" (.ref l1) [])))))) l3 = some (.lst []) := (upd_ne n3).trans ((upd_ne (ne_of_none e33 h4)).trans e33)
    have ex4 : (upd (upd H3 l4 (.lst [])) x (.ins S dx (putF "own_rules" (.ref l4) (putF "own_makings" (.ref l3) (putF "own_words" (.ref l2) (putF "own_sorts" (.ref l1) [])))))) x = _ := upd_same
    generalize upd (upd H3 l4 (.lst [])) x (.ins S dx (putF "own_rules" (.ref l4) (putF "own_makings" (.ref l3) (putF "own_words" (.ref l2) (putF "own_sorts" (.ref l1) []))))) = H4 at S4 ex4 e14 e24 e34 e44
    refine ⟨_, rfl, rfl, fun l5 h5 => ?_⟩
    have n5 : l5 ≠ x := fun z => by
      rw [z, ex4] at h5
      cases h5
    refine ⟨_, rfl, x, S, dx, _, rfl, (upd_ne n5.symm).trans ex4, TC.cl, TC.n5, ?_, ?_⟩
    · have q1 := putF_len "own_sorts" (.ref l1) []
      have q2 := putF_len "own_words" (.ref l2) (putF "own_sorts" (.ref l1) [])
      have q3 := putF_len "own_makings" (.ref l3) (putF "own_words" (.ref l2) (putF "own_sorts" (.ref l1) []))
      have q4 := putF_len "own_rules" (.ref l4) (putF "own_makings" (.ref l3) (putF "own_words" (.ref l2) (putF "own_sorts" (.ref l1) [])))
      simp only [List.length_nil] at *
      omega
    have S5 := Sx (o := .ins S dx (putF "own_bars" (.ref l5) (putF "own_rules" (.ref l4) (putF "own_makings" (.ref l3) (putF "own_words" (.ref l2) (putF "own_sorts" (.ref l1) [])))))) (S4.trans (Same.upd (o := .lst []) h5))
    have e55 : (upd (upd H4 l5 (.lst [])) x (.ins S dx (putF "own_bars" (.ref l5) (putF "own_rules" (.ref l4) (putF "own_makings" (.ref l3) (putF "own_words" (.ref l2) (putF "own_sorts" (.ref l1) []))))))) l5 = some (.lst []) := (upd_ne n5).trans upd_same
    have e15 : (upd (upd H4 l5 (.lst [])) x (.ins S dx (putF "own_bars" (.ref l5) (putF "own_rules" (.ref l4) (putF "own_makings" (.ref l3) (putF "own_words" (.ref l2) (putF "own_sorts" (.ref l1) []))))))) l1 = some (.lst (ss.map V.str)) := (upd_ne n1).trans ((upd_ne (ne_of_none e14 h5)).trans e14)
    have e25 : (upd (upd H4 l5 (.lst [])) x (.ins S dx (putF "own_bars" (.ref l5) (putF "own_rules" (.ref l4) (putF "own_makings" (.ref l3) (putF "own_words" (.ref l2) (putF "own_sorts" (.ref l1) []))))))) l2 = some (.lst (ws.map V.str)) := (upd_ne n2).trans ((upd_ne (ne_of_none e24 h5)).trans e24)
    have e35 : (upd (upd H4 l5 (.lst [])) x (.ins S dx (putF "own_bars" (.ref l5) (putF "own_rules" (.ref l4) (putF "own_makings" (.ref l3) (putF "own_words" (.ref l2) (putF "own_sorts" (.ref l1) []))))))) l3 = some (.lst []) := (upd_ne n3).trans ((upd_ne (ne_of_none e34 h5)).trans e34)
    have e45 : (upd (upd H4 l5 (.lst [])) x (.ins S dx (putF "own_bars" (.ref l5) (putF "own_rules" (.ref l4) (putF "own_makings" (.ref l3) (putF "own_words" (.ref l2) (putF "own_sorts" (.ref l1) []))))))) l4 = some (.lst []) := (upd_ne n4).trans ((upd_ne (ne_of_none e44 h5)).trans e44)
    have ex5 : (upd (upd H4 l5 (.lst [])) x (.ins S dx (putF "own_bars" (.ref l5) (putF "own_rules" (.ref l4) (putF "own_makings" (.ref l3) (putF "own_words" (.ref l2) (putF "own_sorts" (.ref l1) []))))))) x = _ := upd_same
    generalize upd (upd H4 l5 (.lst [])) x (.ins S dx (putF "own_bars" (.ref l5) (putF "own_rules" (.ref l4) (putF "own_makings" (.ref l3) (putF "own_words" (.ref l2) (putF "own_sorts" (.ref l1) [])))))) = H5 at S5 ex5 e15 e25 e35 e45 e55
    have ex5 : H5 x = some (.ins S dx (schF l1 l2 l3 l4 l5)) := ex5
    have lkM : (schF l1 l2 l3 l4 l5).lookup ("own_makings" : Str) = some (.ref l3) := by
      unfold schF
      rw [lookN (by decide +kernel), lookN (by decide +kernel), lookF]
    have lkR : (schF l1 l2 l3 l4 l5).lookup ("own_rules" : Str) = some (.ref l4) := by
      unfold schF
      rw [lookN (by decide +kernel), lookF]
    have lkB : (schF l1 l2 l3 l4 l5).lookup ("own_bars" : Str) = some (.ref l5) := by
      unfold schF
      rw [lookF]
    refine ⟨_, rfl, x, S, dx, _, _, rfl, ex5, TC.cl, TC.n1, schF_so _ _ _ _ _, _, rfl, x, S, dx, _, _, rfl, ex5, TC.cl, TC.n2, schF_wo _ _ _ _ _, _, rfl, x, S, dx, _, _, rfl, ex5, TC.cl, TC.n3, lkM, _, rfl, x, S, dx, _, _, rfl, ex5, TC.cl, TC.n4, lkR, _, rfl, x, S, dx, _, _, rfl, ex5, TC.cl, TC.n5, lkB, ?_⟩
    exact ⟨l1, l2, l3, l4, l5, ss, ws, rfl, SqL.of e15, SqL.of e25, SqL.of e35, SqL.of e45, SqL.of e55, rs, rw', s1, s4, w1, w5, fun H6 S6 => k H6 (S5.trans S6) ⟨⟨dx, l1, l2, l3, l4, l5, S6 _ _ ex5, S6 _ _ e15, S6 _ _ e25⟩⟩⟩
theorem scSor : FnScope ["self"] ["self"] (defScope sSor) := ⟨rfl, rfl, rfl, by decide +kernel, rfl, by decide +kernel, by decide +kernel⟩
def spSor (S : Addr) : Sp := fun vs H Q _ => ∃ (x : Addr) (ss ws : List Str), vs = [.ref x] ∧ SchAt S H x ss ws ∧ ∀ l, H l = none → Q (.ref l) (upd H l (.lst (ss.map V.str)))
def spWor (S : Addr) : Sp := fun vs H Q _ => ∃ (x : Addr) (ss ws : List Str), vs = [.ref x] ∧ SchAt S H x ss ws ∧ ∀ l, H l = none → Q (.ref l) (upd H l (.lst (ws.map V.str)))
theorem ok_sor {f S fS : Addr} {fd : FuncData} (F : Fun K "sorts" "Scheme.sorts" sSor f fd) (tl : mg "list" = none) (TC : TxSch K mg S fS) : FnOk P w K mg base CX0 1 f fd ["self"] (spSor S) := by
  refine F.ok scSor (fun vs H Q E h => ?_) (fun cdv A outer s H vs Q E hr h => ?_)
  · obtain ⟨x, ss, ws, rfl, _⟩ := h
    rfl
  · obtain ⟨x, ss, ws, rfl, hx, k⟩ := h
    obtain ⟨dx, l1, l2, l3, l4, l5, hx, h1, h2⟩ := hx.ex
    refine ⟨_, (pss_one (ps_ret (pe_callTy call_list_of (by rfl) tl (by decide +kernel) (pa_cons (pe_fld (pv 0) rfl) pa_nil)))), ?_⟩
    exact ⟨_, rfl, x, S, dx, _, _, rfl, hx, TC.cl, TC.n1, schF_so _ _ _ _ _, l1, _, rfl, .inl (SqL.of h1), fun l hl => k l hl⟩
theorem scWor : FnScope ["self"] ["self"] (defScope sWor) := ⟨rfl, rfl, rfl, by decide +kernel, rfl, by decide +kernel, by decide +kernel⟩
theorem ok_wor {f S fS : Addr} {fd : FuncData} (F : Fun K "words" "Scheme.words" sWor f fd) (tl : mg "list" = none) (TC : TxSch K mg S fS) : FnOk P w K mg base CX0 1 f fd ["self"] (spWor S) := by
  refine F.ok scWor (fun vs H Q E h => ?_) (fun cdv A outer s H vs Q E hr h => ?_)
  · obtain ⟨x, ss, ws, rfl, _⟩ := h
    rfl
  · obtain ⟨x, ss, ws, rfl, hx, k⟩ := h
    obtain ⟨dx, l1, l2, l3, l4, l5, hx, h1, h2⟩ := hx.ex
    refine ⟨_, (pss_one (ps_ret (pe_callTy call_list_of (by rfl) tl (by decide +kernel) (pa_cons (pe_fld (pv 0) rfl) pa_nil)))), ?_⟩
    exact ⟨_, rfl, x, S, dx, _, _, rfl, hx, TC.cl, TC.n2, schF_wo _ _ _ _ _, l2, _, rfl, .inl (SqL.of h2), fun l hl => k l hl⟩
end
end Wm
/-! sorted of triples of texts, as a list and as the keys of a dict -/
namespace Wm
open PySem PySem.Spec PyProof.Rows L2
def triD3 (t : Str × Str × Str) : PyData := .tuple [.str t.1, .str t.2.1, .str t.2.2]
def triV3 (t : Str × Str × Str) : List V := [.str t.1, .str t.2.1, .str t.2.2]
/-- the triples in their order -/
def sortT (ts : List (Str × Str × Str)) : List (Str × Str × Str) := ts.mergeSort (PySem.W.dataLe false triD3)
def TrisAt (K : PySem.W.Frag) (H : Hp) : List Addr → List (Str × Str × Str) → Prop
  | [], [] => True
  | p :: ps, t :: ts => SqT K H p (triV3 t) ∧ TrisAt K H ps ts
  | [], _ :: _ => False
  | _ :: _, [] => False
theorem TrisAt.len {K : PySem.W.Frag} {H : Hp} : ∀ {ps : List Addr} {ts : List (Str × Str × Str)}, TrisAt K H ps ts → ps.length = ts.length
  | [], [], _ => rfl
  | _ :: _, _ :: _, h => by rw [List.length_cons, List.length_cons, TrisAt.len h.2]
  | [], _ :: _, h => h.elim
  | _ :: _, [], h => h.elim
theorem TrisAt.same {K : PySem.W.Frag} {H H' : Hp} (e : ∀ {a : Addr} {xs : List V}, SqT K H a xs → SqT K H' a xs) : ∀ {ps : List Addr} {ts : List (Str × Str × Str)}, TrisAt K H ps ts → TrisAt K H' ps ts
  | [], [], _ => True.intro
  | _ :: _, _ :: _, h => ⟨e h.1, TrisAt.same e h.2⟩
  | [], _ :: _, h => h.elim
  | _ :: _, [], h => h.elim
/-- a value that is a triple -/
def isTri (K : PySem.W.Frag) (H : Hp) (u : Value) (t : Str × Str × Str) : Prop := ∃ p, u = .ref p ∧ SqT K H p (triV3 t)
theorem tris_each {K : PySem.W.Frag} {H : Hp} : ∀ {ps : List Addr} {ts : List (Str × Str × Str)} {us : List Value}, TrisAt K H ps ts → Vals (ps.map V.ref) us → PySem.W.EachIs (isTri K H) us ts
  | [], [], _, _, r => by
    cases r
    exact .nil
  | p :: ps, t :: ts, _, h, r => by
    cases r with
    | cons r1 r2 =>
      cases r1
      exact .cons ⟨p, rfl, h.1⟩ (tris_each h.2 r2)
  | [], _ :: _, _, h, _ => h.elim
  | _ :: _, [], _, h, _ => h.elim
theorem each_tris {K : PySem.W.Frag} {H : Hp} : ∀ {us : List Value} {ts : List (Str × Str × Str)}, PySem.W.EachIs (isTri K H) us ts → ∃ qs : List Addr, TrisAt K H qs ts ∧ Vals (qs.map V.ref) us
  | _, _, .nil => ⟨[], True.intro, .nil⟩
  | _, _, .cons h r => by
    obtain ⟨p, rfl, hp⟩ := h
    obtain ⟨qs, hq, hv⟩ := each_tris r
    exact ⟨p :: qs, ⟨hp, hq⟩, .cons rfl hv⟩
theorem tri_dp {K : PySem.W.Frag} {H : Hp} {p : Addr} {t : Str × Str × Str} (h : SqT K H p (triV3 t)) : Dp K H (.ref p) (triD3 t) := .tup h (.cons (.str _) (.cons (.str _) (.cons (.str _) .nil)))
theorem tri_depth (t : Str × Str × Str) : (triD3 t).depth ≤ 2 := by
  simp [triD3, PyData.depth, PyData.depthAll]
section
variable {X : Cx} {pins : List (Addr × Obj)} {σ : L2.St} {H : Hp} {s : Shared}
theorem tri_reads (I : Inv X pins σ H s) : ∀ {us : List Value} {ts : List (Str × Str × Str)}, PySem.W.EachIs (isTri X.K H) us ts → PySem.W.EachIs (fun v b => ∃ as, Reads s.heap v (triD3 b) as) us ts
  | _, _, .nil => .nil
  | _, _, .cons h r => by
    obtain ⟨p, rfl, hp⟩ := h
    exact .cons (Dp.reads I _ _ _ (tri_dp hp) rfl) (tri_reads I r)
theorem tri_alike (ts : List (Str × Str × Str)) : PySem.W.AllAlike (ts.map triD3) := PySem.W.AllAlike.of fun b b' => by
  simp [triD3, PySem.W.alike, PySem.W.alikeAll]
theorem tri_sortable (ts : List (Str × Str × Str)) : PySem.W.Sortable (ts.map triD3) := PySem.W.Sortable.tuples fun b => ⟨_, _, rfl⟩
theorem sortT_len (ts : List (Str × Str × Str)) : (sortT ts).length = ts.length := List.length_mergeSort _
/-- sorted(xs) -/
def rSortTL (K : PySem.W.Frag) : List V → Hp → VK → Prop := fun vs H Q => ∃ (a : Addr) (ps : List Addr) (ts : List (Str × Str × Str)), vs = [.ref a] ∧ SqL K H a (ps.map V.ref) ∧ TrisAt K H ps ts ∧
  ∀ (qs : List Addr) (p : Addr), TrisAt K H qs (sortT ts) → H p = none → Q (.ref p) (upd H p (.lst (qs.map V.ref)))
theorem cr_sortTL (hu : X.A.units + 64 < cLine) : CallR X (.builtin "sorted") (rSortTL X.K) := by
  intro pins s σ H xs us Q I r h
  obtain ⟨a, ps, ts, rfl, hs, ht, q⟩ := h
  obtain ⟨its, rv, hl, hz⟩ := I.list hs
  obtain ⟨u, rfl, ru⟩ := vals1 r
  obtain rfl : u = Value.ref a := ru
  have he := tris_each ht rv
  have hlen : ts.length ≤ sizeLine := by
    rw [← ht.len]
    rw [List.length_map] at hz
    exact hz
  refine PySem.W.sorted_data (bs := ts) (enc := triD3) (R := isTri X.K H) hl.isList he (tri_reads I he) (tri_alike ts) (tri_sortable ts) hlen (fun b _ => by have := tri_depth b; omega) fun out ho hout => ?_
  obtain ⟨qs, hq, hv⟩ := each_tris hout
  obtain ⟨e, hat⟩ := sortedAll_at s.heap its out.toArray
  have hle : s.heap.objs.size ≤ s.heap.objs.size + 1 := Nat.le_succ _
  refine ⟨.ref (s.heap.objs.size + 1), upd H (s.heap.objs.size + 1) (.lst (qs.map V.ref)), I.laid (t' := s.toks) (fun b o z => sortedAll_old z) hle ⟨?_, out, e, hv, hat⟩, rfl, q qs _ hq (I.hok.fresh hle)⟩
  rw [List.length_map, hq.len, List.length_mergeSort]
  exact hlen
def triK (t : Str × Str × Str) : List L2.Key := [Sum.inr t.1, Sum.inr t.2.1, Sum.inr t.2.2]
/-- sorted(d), d a dict whose keys are triples -/
def rSortTD (K : PySem.W.Frag) : List V → Hp → VK → Prop := fun vs H Q => ∃ (a : Addr) (kvs : List (List L2.Key × V)) (ts : List (Str × Str × Str)), vs = [.ref a] ∧ H a = some (.dT kvs) ∧ kvs.map (·.1) = ts.map triK ∧
  ∀ (qs : List Addr) (p : Addr), TrisAt K H qs (sortT ts) → H p = none → Q (.ref p) (upd H p (.lst (qs.map V.ref)))
theorem keys_tris {K : PySem.W.Frag} {H : Hp} : ∀ {kvs : List (List L2.Key × V)} {bs : List Addr} {ts : List (Str × Str × Str)}, IsKeys H kvs bs → kvs.map (·.1) = ts.map triK → TrisAt K H bs ts
  | [], _, ts, h, e => by
    cases h
    cases ts with
    | nil => exact True.intro
    | cons t r => cases e
  | kv :: kvs, _, ts, h, e => by
    cases h with
    | cons h1 h2 =>
      cases ts with
      | nil => cases e
      | cons t r =>
        have e1 : kv.1 = triK t := (List.cons.inj e).1
        rw [e1] at h1
        exact ⟨SqT.of h1, keys_tris h2 (List.cons.inj e).2⟩
theorem cr_sortTD (hc : X.calm = true) (hu : X.A.units + 64 < cLine) : CallR X (.builtin "sorted") (rSortTD X.K) := by
  intro pins s σ H xs us Q I r h
  obtain ⟨d, kvs, ts, rfl, hd, hk, q⟩ := h
  obtain ⟨u, rfl, ru⟩ := vals1 r
  obtain rfl : u = Value.ref d := ru
  obtain ⟨z, hs, ks, pr, o, es, ep, ho, hx, hdt, he, hn⟩ := (show ObjOk X.prog X.w H s.heap d (.dT kvs) from I.hok d _ hd)
  have l1 : es.size = ks.length := size_of_entries he
  have l2 : kvs.length = ks.length := Paired.length pr
  have l3 : ts.length = kvs.length := by
    have e := congrArg List.length hk
    rw [List.length_map, List.length_map] at e
    exact e.symm
  have hT : TrisAt X.K H (ks.map fun x => x.2.1) ts := keys_tris (isKeys_of pr) hk
  refine Calls.call_function_entry kind_sorted plain_sorted entry_sorted (args_sorted1 _) ?_
  unfold Builtin.«sorted»
  refine wpAny_bind (m := checkCount "sorted" 1 1 _) (wpAny_pure ?_)
  refine wpAny_bind (PySem.W.kdu_collect (A := X.A.in1) (kdl_raw hs hx hdt) (I.ok.hd hc) ho (by omega) fun h' tk acc kp it => ?_)
  have ea : acc.toList = (ks.map fun x => x.2.1).map Value.ref := by
    apply List.ext_getElem?
    intro j
    have hl : acc.toList.length = ks.length := by rw [Array.length_toList, it.1]; exact l1
    rw [List.getElem?_map, List.getElem?_map]
    cases hb : ks[j]? with
    | none =>
      have := List.getElem?_eq_none_iff.mp hb
      rw [List.getElem?_eq_none (by omega)]
      rfl
    | some b =>
      have hj : j < acc.toList.length := by rw [hl]; exact (List.getElem?_eq_some_iff.mp hb).1
      have e1 := List.getElem?_eq_getElem hj
      obtain ⟨en, hen, hv⟩ := it.2 j _ (by rw [← Array.getElem?_toList]; exact e1)
      have qe := entry_at he j
      rw [hen, hb] at qe
      have e2 : en = entryOfKey (tupleKind (mixKind X.prog X.w)) b := Option.some.inj qe
      rw [e1, hv, e2]
      rfl
  have I1 : Inv X pins σ H { s with heap := h', toks := tk } := I.kept (t' := tk) kp
  have rv : Vals ((ks.map fun x => x.2.1).map V.ref) acc.toList := by rw [ea]; exact vals_refs _
  have each := tris_each hT rv
  have alen : acc.toList.length ≤ sizeLine := by
    rw [Array.length_toList, it.1]
    omega
  refine wpAny_bind (wpAny_newList ?_ alen)
  have hoL : (h'.push (seqObj "list" acc.toList.toArray 0)).get? h'.objs.size = some (seqObj "list" acc.toList.toArray 0) := Heap.get?_push_size _ rfl
  show wpAny _ _ _ _ _ { s with heap := h'.push (seqObj "list" acc.toList.toArray 0), toks := tk }
  have er : PySem.W.EachIs (fun v b => ∃ as, Reads (PySem.W.sortingHeap (h'.push (seqObj "list" acc.toList.toArray 0)) h'.objs.size acc.toList) v (triD3 b) as) acc.toList ts :=
    (tri_reads I1 each).mono fun _ _ ⟨as, rr⟩ => ⟨as, Reads.keeps (fun b o zz => PySem.W.sortingHeap_old (Nat.ne_of_lt (Heap.lt_size zz)) (Heap.get?_push_of_some _ zz)) rr⟩
  refine wpAny_bind (wpAny_holding (wpAny_call_entry slot_list_sort ⟨_, hoL, rfl⟩ entry_list_sort
    (PySem.W.list_sort_vals (s := { s with heap := h'.push (seqObj "list" acc.toList.toArray 0), toks := tk }) hoL
      (PySem.W.SortsAt.data (A := X.A.in1.in1) (s := { s with heap := PySem.W.sortingHeap (h'.push (seqObj "list" acc.toList.toArray 0)) h'.objs.size acc.toList, toks := tk }) (PySem.W.each_map (R := fun v d => ∃ as, Reads (PySem.W.sortingHeap (h'.push (seqObj "list" acc.toList.toArray 0)) h'.objs.size acc.toList) v d as) triD3 er) (tri_alike ts) (tri_sortable ts) (PySem.W.bound_map fun b _ => by
        have := tri_depth b
        have e2 : X.A.in1.in1.units ≤ X.A.units + 2 := Nat.le_refl _
        omega)) alen ⟨_, rfl, ?_⟩)
    (args_list_sort _)))
  have hout := PySem.W.sortVals_data (R := isTri X.K H) false each er (tri_alike ts)
  obtain ⟨qs, hq, hv⟩ := each_tris hout
  obtain ⟨e, hat⟩ := sortedHeap_at (vs := acc.toList) (out := (PySem.W.sortVals _ false acc.toList acc.toList).toArray) hoL
  refine wpAny_pure ⟨_, rfl, .ref h'.objs.size, upd H h'.objs.size (.lst (qs.map V.ref)), I1.laid (t' := tk) (fun b o zz => ?_) (Nat.le_refl _) ⟨?_, _, e, hv, hat⟩, rfl, q qs _ hq (I1.hok.fresh (Nat.le_refl _))⟩
  · have lt := Heap.lt_size zz
    have lt2 : b < (h'.push (seqObj "list" acc.toList.toArray 0)).objs.size := Heap.lt_size (Heap.get?_push_of_some _ zz)
    rw [sortedHeap_old (Nat.ne_of_lt lt) lt2]
    exact Heap.get?_push_of_some _ zz
  · rw [List.length_map, hq.len, List.length_mergeSort]
    omega
end
end Wm
/-! del d[t], d.pop(t): keys that are tuples -/
namespace Wm
open PySem PySem.Spec PyProof.Rows L2 L2.DX
section
variable {X : Cx} {pins : List (Addr × Obj)} {σ : L2.St} {H : Hp} {s : Shared} {a b : Addr} {kvs : List (List L2.Key × V)} {k : List L2.Key} {o i e : Expr} {td ty : TE} {tpos pos apos cpos : Pos}
theorem at_of {H : Hp} {kvs : List (List L2.Key × V)} {xs : List (List L2.Key × Addr × Value)} {v : V} (rel : KT H kvs xs) (ev : valV kvs k = some v) : ∃ p, atKey xs k = some p ∧ RelV v p.2 := by
  have r := rel.val k
  rw [ev] at r
  cases h : atKey xs k with
  | none =>
    rw [h] at r
    exact (show False from r).elim
  | some p =>
    rw [h] at r
    exact ⟨p, rfl, r⟩
theorem inv_drop {h' : Heap} {tk : Nat} {xs : List (List L2.Key × Addr × Value)} (I : Inv X pins σ H s) (ha : H a = some (.dT kvs)) (z : kvs.length ≤ sizeLine) (hd : (a == sysModules) = false) (rel : KT H kvs xs)
    (dd : h'.DictOfH (tupleKind (mixKind X.prog X.w)) a (withoutH xs k)) (hs : Heap.SameBut a s.heap h') : Inv X pins σ (upd H a (.dT (dropK kvs k))) { s with heap := h', toks := tk } := by
  obtain ⟨o, es, ep, hq, h2, h3, h4, _, h5⟩ := dd
  exact d_write I (by rw [ha]; exact True.intro) hs ⟨o, hq⟩ ⟨Nat.le_trans (dropK_le kvs k) z, hd, _, (KT_drop k rel).keeps (fun c ys ec => (by rw [upd_ne (ne_of ec ha (fun z => nomatch z))]; exact ec)), o, es, ep, hq, h2, h3, h4, h5⟩
def sDDelT (td ty : TE) : TS := fun D σ H => td σ H fun x H1 => ty σ H1 fun y H2 => ∃ a kvs k b, x = .ref a ∧ y = .ref b ∧ H2 a = some (.dT kvs) ∧ H2 b = some (.tup (k.map kV)) ∧ (valV kvs k).isSome = true ∧ D.nx σ (upd H2 a (.dT (dropK kvs k)))
theorem ps_ddelT (hu : X.A.units + 1 < cLine) (ho : PE X o td) (hi : PE X i ty) : PS X (.Delete [.Subscript o i tpos] pos) (sDDelT td ty) := by
  refine ⟨fun pins s σ H D I h => ?_⟩
  refine wpAny_Delete (wpAny_deleteEach_cons (wpAny_delete_Subscript (thn (ho.run pins s σ H _ I h) fun u s1 ⟨x, H1, I1, rx, q1⟩ => thn (hi.run pins s1 σ H1 _ I1 q1) fun iv s2 ⟨y, H2, I2, ry, a, kvs, k, b, ex, ey, ea, eb, l, q2⟩ => ?_)))
  subst ex ey
  obtain rfl : u = Value.ref a := rx
  obtain rfl : iv = Value.ref b := ry
  obtain ⟨z, hd, xs, rel, dd⟩ := dt_of I2.hok ea
  obtain ⟨v, ev⟩ := Option.isSome_iff_exists.mp l
  obtain ⟨p, hp, _⟩ := at_of rel ev
  exact wpAny_delItem_heap (hsz := by rw [← Paired.length rel]; exact z) (knd := tupleKind (mixKind X.prog X.w)) (tupleKind_room_in1 hu) (key_of I2.hok eb) hd dd hp fun h' hm' hs => wpAny_deleteEach_nil ⟨σ, _, inv_drop I2 ea z hd rel hm' hs, q2⟩
def tDPopT1 (td ty : TE) : TE := fun σ H Q => td σ H fun x H1 => ∃ a, x = .ref a ∧ IsD H1 a ∧ ty σ H1 fun y H2 => ∃ kvs k b v, y = .ref b ∧ H2 a = some (.dT kvs) ∧ H2 b = some (.tup (k.map kV)) ∧ valV kvs k = some v ∧ Q v (upd H2 a (.dT (dropK kvs k)))
theorem pe_dpopT1 (hu : X.A.units + 1 < cLine) (ho : PE X o td) (he : PE X e ty) (m : M1 X o "pop" apos e cpos) : PE X (.Call (.Attribute o "pop" apos) [e] [] cpos) (tDPopT1 td ty) := by
  refine ⟨fun pins s σ H Q I h => ?_⟩
  refine wpAny_Call_method m.base m.few m.line PySem.F.plainAttrs_dict PySem.F.slot_dict_pop PySem.F.type_dict_pop (thn (ho.run pins s σ H _ I h) fun u s1 ⟨x, H1, I1, rx, a, ex, d, q1⟩ => ?_)
  subst ex
  obtain rfl : u = Value.ref a := rx
  obtain ⟨t1, t2, _⟩ := isD_at I1 d
  refine ⟨t1, t2, ?_⟩
  rw [m.trees]
  refine Calls.callWith_builtin rfl (Calls.evalArgs_plain (Calls.spliced_cons (thn (he.run pins s1 σ H1 _ I1 q1) fun iv s2 ⟨y, H2, I2, ry, kvs, k, b, v, ey, ea, eb, ev, q2⟩ => Calls.spliced_nil ?_)))
  subst ey
  obtain rfl : iv = Value.ref b := ry
  obtain ⟨z, hd, xs, rel, dd⟩ := dt_of I2.hok ea
  obtain ⟨p, hp, rp⟩ := at_of rel ev
  exact call_pop_heap (more := []) (hsz := by rw [← Paired.length rel]; exact z) (knd := tupleKind (mixKind X.prog X.w)) (.inl rfl) (PySem.F.args_dict_pop_2 _ _) (tupleKind_room_in1 hu) (key_of I2.hok eb) hd dd hp fun h' hm' hs => ⟨v, _, inv_drop I2 ea z hd rel hm' hs, rp, q2⟩
end
end Wm
namespace Wm
open PySem L2 StX
abbrev Thing := Str × Str × Bool
abbrev T3 := Str × Str × Str
def k1 (th : List Thing) : List (L2.Key × V) := th.map fun t => (Sum.inr t.1, .str t.2.1)
def k2 (th : List Thing) : List (L2.Key × V) := th.map fun t => (Sum.inr t.1, .bl t.2.2)
def k3 (ts : List T3) : List (List L2.Key × V) := ts.map fun t => (triK t, .bl true)
def nmL (th : List Thing) : List Str := th.map (·.1)
theorem val_is {κ : Type} [DecidableEq κ] (kvs : List (κ × V)) (k : κ) : (valV kvs k).isSome = decide (k ∈ kvs.map (·.1)) := by
  unfold valV
  rw [Option.isSome_map]
  by_cases h : k ∈ kvs.map (·.1)
  · rw [decide_eq_true h, List.find?_isSome]
    obtain ⟨x, hx, e⟩ := List.mem_map.mp h
    exact ⟨x, hx, decide_eq_true e⟩
  · rw [decide_eq_false h]
    cases e : kvs.find? (fun kv => decide (kv.1 = k)) with
    | none => rfl
    | some x =>
      have q := List.find?_some e
      exact (h (List.mem_map.mpr ⟨x, List.mem_of_find?_eq_some e, of_decide_eq_true q⟩)).elim
theorem keys1 (th : List Thing) : (k1 th).map (·.1) = (nmL th).map Sum.inr := by
  unfold k1 nmL
  rw [List.map_map, List.map_map]
  rfl
theorem keys2 (th : List Thing) : (k2 th).map (·.1) = (nmL th).map Sum.inr := by
  unfold k2 nmL
  rw [List.map_map, List.map_map]
  rfl
theorem inr_mem {n : Str} {l : List Str} : (Sum.inr n : L2.Key) ∈ l.map Sum.inr ↔ n ∈ l := by
  rw [List.mem_map]
  exact ⟨fun ⟨x, hx, e⟩ => by cases e; exact hx, fun h => ⟨n, h, rfl⟩⟩
theorem is1 (th : List Thing) (n : Str) : (valV (k1 th) (Sum.inr n)).isSome = decide (n ∈ nmL th) := by
  rw [val_is, keys1]
  exact decide_eq_decide.mpr inr_mem
theorem is2 (th : List Thing) (n : Str) : (valV (k2 th) (Sum.inr n)).isSome = decide (n ∈ nmL th) := by
  rw [val_is, keys2]
  exact decide_eq_decide.mpr inr_mem
theorem put_new {κ : Type} [DecidableEq κ] {kvs : List (κ × V)} {k : κ} {v : V} (h : k ∉ kvs.map (·.1)) : putK kvs k v = kvs ++ [(k, v)] := by
  unfold putK
  rw [if_neg]
  intro e
  obtain ⟨x, hx, q⟩ := List.any_eq_true.mp e
  exact h (List.mem_map.mpr ⟨x, hx, of_decide_eq_true q⟩)
theorem put_old {κ : Type} [DecidableEq κ] {kvs : List (κ × V)} {k : κ} {v : V} (h : k ∈ kvs.map (·.1)) : putK kvs k v = kvs.map (fun kv => if kv.1 = k then (kv.1, v) else kv) := by
  unfold putK
  rw [if_pos]
  obtain ⟨x, hx, e⟩ := List.mem_map.mp h
  exact List.any_eq_true.mpr ⟨x, hx, decide_eq_true e⟩
def setA (th : List Thing) (n : Str) (b : Bool) : List Thing := th.map fun t => if t.1 = n then (t.1, t.2.1, b) else t
theorem setA_nm (th : List Thing) (n : Str) (b : Bool) : nmL (setA th n b) = nmL th := by
  unfold nmL setA
  rw [List.map_map]
  refine List.map_congr_left fun t _ => ?_
  show (if t.1 = n then (t.1, t.2.1, b) else t).1 = t.1
  split <;> rfl
theorem setA_k1 (th : List Thing) (n : Str) (b : Bool) : k1 (setA th n b) = k1 th := by
  unfold k1 setA
  rw [List.map_map]
  refine List.map_congr_left fun t _ => ?_
  show (Sum.inr (if t.1 = n then (t.1, t.2.1, b) else t).1, V.str (if t.1 = n then (t.1, t.2.1, b) else t).2.1) = _
  split <;> rfl
theorem setA_put {th : List Thing} {n : Str} (b : Bool) (h : n ∈ nmL th) : putK (k2 th) (Sum.inr n) (.bl b) = k2 (setA th n b) := by
  rw [put_old (by rw [keys2]; exact inr_mem.mpr h)]
  unfold k2 setA
  rw [List.map_map, List.map_map]
  refine List.map_congr_left fun t _ => ?_
  show (if (Sum.inr t.1 : L2.Key) = Sum.inr n then (Sum.inr t.1, V.bl b) else (Sum.inr t.1, V.bl t.2.2)) = (Sum.inr (if t.1 = n then (t.1, t.2.1, b) else t).1, V.bl (if t.1 = n then (t.1, t.2.1, b) else t).2.2)
  by_cases e : t.1 = n
  · rw [if_pos e, if_pos (by rw [e])]
  · rw [if_neg e, if_neg (fun z => e (Sum.inr.inj z))]
theorem new1 {th : List Thing} {n s : Str} {b : Bool} (h : n ∉ nmL th) : putK (k1 th) (Sum.inr n) (.str s) = k1 (th ++ [(n, s, b)]) := by
  rw [put_new (by rw [keys1]; exact fun z => h (inr_mem.mp z))]
  unfold k1
  rw [List.map_append]
  rfl
theorem new2 {th : List Thing} {n s : Str} {b : Bool} (h : n ∉ nmL th) : putK (k2 th) (Sum.inr n) (.bl b) = k2 (th ++ [(n, s, b)]) := by
  rw [put_new (by rw [keys2]; exact fun z => h (inr_mem.mp z))]
  unfold k2
  rw [List.map_append]
  rfl
theorem triK_inj {t u : T3} (h : triK t = triK u) : t = u := by
  obtain ⟨a, b, c⟩ := t
  obtain ⟨d, e, f⟩ := u
  simp only [triK, List.cons.injEq, Sum.inr.injEq, and_true] at h
  obtain ⟨rfl, rfl, rfl⟩ := h
  rfl
def addT (ts : List T3) (t : T3) : List T3 := if t ∈ ts then ts else ts ++ [t]
theorem keys3 (ts : List T3) : (k3 ts).map (·.1) = ts.map triK := by
  unfold k3
  rw [List.map_map]
  rfl
theorem triK_mem {t : T3} {ts : List T3} : triK t ∈ ts.map triK ↔ t ∈ ts := by
  rw [List.mem_map]
  exact ⟨fun ⟨x, hx, e⟩ => by rw [← triK_inj e]; exact hx, fun h => ⟨t, h, rfl⟩⟩
theorem put3 (ts : List T3) (t : T3) : putK (k3 ts) (triK t) (.bl true) = k3 (addT ts t) := by
  unfold addT
  by_cases h : t ∈ ts
  · rw [if_pos h, put_old (by rw [keys3]; exact triK_mem.mpr h)]
    unfold k3
    rw [List.map_map]
    refine List.map_congr_left fun u _ => ?_
    show (if triK u = triK t then (triK u, V.bl true) else (triK u, V.bl true)) = _
    split <;> rfl
  · rw [if_neg h, put_new (by rw [keys3]; exact fun z => h (triK_mem.mp z))]
    unfold k3
    rw [List.map_append]
    rfl
def hsF (sc d1 d2 d3 : Addr) : List (Str × V) := putF "standing" (.ref d3) (putF "awake_by_name" (.ref d2) (putF "sort_by_name" (.ref d1) (putF "own_scheme" (.ref sc) [])))
theorem hsF_sc (sc d1 d2 d3 : Addr) : (hsF sc d1 d2 d3).lookup ("own_scheme" : Str) = some (.ref sc) := by
  unfold hsF
  rw [lookN (by decide +kernel), lookN (by decide +kernel), lookN (by decide +kernel), lookF]
theorem hsF_1 (sc d1 d2 d3 : Addr) : (hsF sc d1 d2 d3).lookup ("sort_by_name" : Str) = some (.ref d1) := by
  unfold hsF
  rw [lookN (by decide +kernel), lookN (by decide +kernel), lookF]
theorem hsF_2 (sc d1 d2 d3 : Addr) : (hsF sc d1 d2 d3).lookup ("awake_by_name" : Str) = some (.ref d2) := by
  unfold hsF
  rw [lookN (by decide +kernel), lookF]
theorem hsF_3 (sc d1 d2 d3 : Addr) : (hsF sc d1 d2 d3).lookup ("standing" : Str) = some (.ref d3) := by
  unfold hsF
  rw [lookF]
theorem hsF_no {f : Str} (h1 : ¬ f = "standing") (h2 : ¬ f = "awake_by_name") (h3 : ¬ f = "sort_by_name") (h4 : ¬ f = "own_scheme") (sc d1 d2 d3 : Addr) : (hsF sc d1 d2 d3).lookup f = none := by
  unfold hsF
  rw [lookN h1, lookN h2, lookN h3, lookN h4]
  rfl
theorem schF_no {f : Str} (h1 : ¬ f = "own_bars") (h2 : ¬ f = "own_rules") (h3 : ¬ f = "own_makings") (h4 : ¬ f = "own_words") (h5 : ¬ f = "own_sorts") (l1 l2 l3 l4 l5 : Addr) : (schF l1 l2 l3 l4 l5).lookup f = none := by
  unfold schF
  rw [lookN h1, lookN h2, lookN h3, lookN h4, lookN h5]
  rfl
structure TxH (K : PySem.W.Frag) (mg : Str → Option Value) (HC fH : Addr) : Prop where
  cl : Cls K HC
  n0 : NoAttr K HC "own_scheme"
  n1 : NoAttr K HC "sort_by_name"
  n2 : NoAttr K HC "awake_by_name"
  n3 : NoAttr K HC "standing"
  g : mg "House" = some (.ref HC)
  m : Mk K HC fH
structure HsAt (HC S : Addr) (H : Hp) (x dx sc d1 d2 d3 : Addr) (ss ws : List Str) (th : List Thing) (ts : List T3) : Prop where
  hx : H x = some (.ins HC dx (hsF sc d1 d2 d3))
  hs : SchAt S H sc ss ws
  h1 : H d1 = some (.dK (k1 th))
  h2 : H d2 = some (.dK (k2 th))
  h3 : H d3 = some (.dT (k3 ts))
  ne : d1 ≠ d2
theorem SchAt.same {S x : Addr} {H H' : Hp} {ss ws : List Str} (s : Same H H') (h : SchAt S H x ss ws) : SchAt S H' x ss ws := by
  obtain ⟨dx, l1, l2, l3, l4, l5, a, b, c⟩ := h.ex
  exact ⟨dx, l1, l2, l3, l4, l5, s _ _ a, s _ _ b, s _ _ c⟩
theorem SchAt.but {S x d : Addr} {H H' : Hp} {ss ws : List Str} {o : HO} (s : But d H H') (hd : H d = some o) (n1 : ∀ C dx fs, o ≠ .ins C dx fs) (n2 : ∀ xs, o ≠ .lst xs) (h : SchAt S H x ss ws) : SchAt S H' x ss ws := by
  obtain ⟨dx, l1, l2, l3, l4, l5, a, b, c⟩ := h.ex
  exact ⟨dx, l1, l2, l3, l4, l5, s _ _ (ne_of a hd (n1 _ _ _).symm) a, s _ _ (ne_of b hd (n2 _).symm) b, s _ _ (ne_of c hd (n2 _).symm) c⟩
theorem HsAt.same {HC S x dx sc d1 d2 d3 : Addr} {H H' : Hp} {ss ws : List Str} {th : List Thing} {ts : List T3} (s : Same H H') (h : HsAt HC S H x dx sc d1 d2 d3 ss ws th ts) : HsAt HC S H' x dx sc d1 d2 d3 ss ws th ts :=
  ⟨s _ _ h.hx, h.hs.same s, s _ _ h.h1, s _ _ h.h2, s _ _ h.h3, h.ne⟩
/-- behind a change of a list that is none of the house's -/
theorem HsAt.but {HC S x dx sc d1 d2 d3 p : Addr} {H H' : Hp} {ss ws : List Str} {th : List Thing} {ts : List T3} (s : But p H H') (st : StOk H p) (hp : ∀ l1 l2 : Addr, H l1 = some (.lst (ss.map V.str)) → H l2 = some (.lst (ws.map V.str)) → l1 ≠ p ∧ l2 ≠ p) (h : HsAt HC S H x dx sc d1 d2 d3 ss ws th ts) : HsAt HC S H' x dx sc d1 d2 d3 ss ws th ts := by
  obtain ⟨a, b, c, e, _⟩ := st
  obtain ⟨dy, l1, l2, l3, l4, l5, q1, q2, q3⟩ := h.hs.ex
  have z := hp l1 l2 q2 q3
  exact ⟨s _ _ (ne_of h.hx e (by intro z; cases z)) h.hx, ⟨dy, l1, l2, l3, l4, l5, s _ _ (ne_of q1 e (by intro z; cases z)) q1, s _ _ z.1 q2, s _ _ z.2 q3⟩, s _ _ (ne_of h.h1 e (by intro z; cases z)) h.h1, s _ _ (ne_of h.h2 e (by intro z; cases z)) h.h2, s _ _ (ne_of h.h3 e (by intro z; cases z)) h.h3, h.ne⟩
def spHin (HC : Addr) : Sp := fun vs H Q _ => ∃ (H0 : Hp) (x dx sc : Addr), vs = [.ref x, .ref sc] ∧ Same H0 H ∧ H0 x = none ∧ H x = some (.ins HC dx []) ∧
  ∀ d1 d2 d3 H', H0 d1 = none → H0 d2 = none → H0 d3 = none → d1 ≠ d2 → Same H0 H' → H' x = some (.ins HC dx (hsF sc d1 d2 d3)) → H' d1 = some (.dK []) → H' d2 = some (.dK []) → H' d3 = some (.dT []) → Q .non H'
def remT (ts : List T3) (t : T3) : List T3 := ts.filter fun u => decide (u ≠ t)
theorem drop3 (ts : List T3) (t : T3) : dropK (k3 ts) (triK t) = k3 (remT ts t) := by
  unfold dropK k3 remT
  rw [List.filter_map]
  congr 1
  refine List.filter_congr fun u _ => ?_
  show decide (triK u ≠ triK t) = decide (u ≠ t)
  exact decide_eq_decide.mpr ⟨fun z e => z (by rw [e]), fun z e => z (triK_inj e)⟩
theorem is3 (ts : List T3) (t : T3) : (valV (k3 ts) (triK t)).isSome = decide (t ∈ ts) := by
  rw [val_is, keys3]
  exact decide_eq_decide.mpr triK_mem
/-- behind a change of what stands -/
theorem HsAt.put3 {HC S x dx sc d1 d2 d3 : Addr} {H : Hp} {ss ws : List Str} {th : List Thing} {ts us : List T3} (h2 : HsAt HC S H x dx sc d1 d2 d3 ss ws th ts) : HsAt HC S (upd H d3 (.dT (k3 us))) x dx sc d1 d2 d3 ss ws th us := by
  refine ⟨?_, h2.hs.but But.upd h2.h3 (fun _ _ _ z => by cases z) (fun _ z => by cases z), ?_, ?_, upd_same, h2.ne⟩
  · rw [upd_ne (ne_of h2.hx h2.h3 (by intro z; cases z))]
    exact h2.hx
  · rw [upd_ne (ne_of h2.h1 h2.h3 (by intro z; cases z))]
    exact h2.h1
  · rw [upd_ne (ne_of h2.h2 h2.h3 (by intro z; cases z))]
    exact h2.h2
def spHen (HC S : Addr) : Sp := fun vs H Q _ => ∃ (x dx sc d1 d2 d3 : Addr) (n so : Str) (b : Bool) (ss ws : List Str) (th : List Thing) (ts : List T3), vs = [.ref x, .str n, .str so, .bl b] ∧ HsAt HC S H x dx sc d1 d2 d3 ss ws th ts ∧ isNm n = true ∧ n.length ≤ 12 ∧ n ∉ nmL th ∧ so ∈ ss ∧ th.length < 60 ∧
  ∀ H', (∀ q o, q ≠ d1 → q ≠ d2 → H q = some o → H' q = some o) → HsAt HC S H' x dx sc d1 d2 d3 ss ws (th ++ [(n, so, b)]) ts → Q .non H'
def spHhe (K : PySem.W.Frag) (HC S : Addr) : Sp := fun vs H Q _ => ∃ (x dx sc d1 d2 d3 : Addr) (ss ws : List Str) (th : List Thing) (ts : List T3), vs = [.ref x] ∧ HsAt HC S H x dx sc d1 d2 d3 ss ws th ts ∧ ∀ qs l, TrisAt K H qs (sortT ts) → H l = none → Q (.ref l) (upd H l (.lst (qs.map V.ref)))
def spHrt (HC S : Addr) : Sp := fun vs H Q _ => ∃ (x dx sc d1 d2 d3 : Addr) (n : Str) (ss ws : List Str) (th : List Thing) (ts : List T3), vs = [.ref x, .str n] ∧ HsAt HC S H x dx sc d1 d2 d3 ss ws th ts ∧ n ∈ nmL th ∧ Q .non H
def spHrs (HC S : Addr) : Sp := fun vs H Q _ => ∃ (x dx sc d1 d2 d3 : Addr) (n wd m : Str) (ss ws : List Str) (th : List Thing) (ts : List T3), vs = [.ref x, .str n, .str wd, .str m] ∧ HsAt HC S H x dx sc d1 d2 d3 ss ws th ts ∧ n ∈ nmL th ∧ m ∈ nmL th ∧ wd ∈ ws ∧ ∀ H', Same H H' → Q .non H'
def spHgi (HC S : Addr) : Sp := fun vs H Q _ => ∃ (x dx sc d1 d2 d3 : Addr) (n wd m : Str) (ss ws : List Str) (th : List Thing) (ts : List T3), vs = [.ref x, .str n, .str wd, .str m] ∧ HsAt HC S H x dx sc d1 d2 d3 ss ws th ts ∧ n ∈ nmL th ∧ m ∈ nmL th ∧ wd ∈ ws ∧ ts.length ≤ 1000 ∧
  ∀ H', But d3 H H' → HsAt HC S H' x dx sc d1 d2 d3 ss ws th (addT ts (n, wd, m)) → Q .non H'
/-- the sort of a thing -/
def srt (th : List Thing) (n : Str) : Option Str := (th.find? fun t => decide (t.1 = n)).map (·.2.1)
theorem val_srt (th : List Thing) (n : Str) : valV (k1 th) (Sum.inr n) = (srt th n).map V.str := by
  unfold valV k1 srt
  rw [List.find?_map]
  have e : ((fun kv : L2.Key × V => decide (kv.1 = Sum.inr n)) ∘ fun t : Thing => ((Sum.inr t.1 : L2.Key), V.str t.2.1)) = fun t : Thing => decide (t.1 = n) := by
    funext t
    exact decide_eq_decide.mpr ⟨fun z => Sum.inr.inj z, fun z => congrArg Sum.inr z⟩
  rw [e, Option.map_map, Option.map_map]
  rfl
theorem srt_some {th : List Thing} {n : Str} (h : n ∈ nmL th) : ∃ z, srt th n = some z := by
  have q : (valV (k1 th) (Sum.inr n)).isSome = true := by
    rw [is1]
    exact decide_eq_true h
  rw [val_srt, Option.isSome_map] at q
  exact Option.isSome_iff_exists.mp q
def spHso (HC S : Addr) : Sp := fun vs H Q _ => ∃ (x dx sc d1 d2 d3 : Addr) (n z : Str) (ss ws : List Str) (th : List Thing) (ts : List T3), vs = [.ref x, .str n] ∧ HsAt HC S H x dx sc d1 d2 d3 ss ws th ts ∧ srt th n = some z ∧ Q (.str z) H
def spHta (HC S : Addr) : Sp := fun vs H Q _ => ∃ (x dx sc d1 d2 d3 : Addr) (n wd m : Str) (ss ws : List Str) (th : List Thing) (ts : List T3), vs = [.ref x, .str n, .str wd, .str m] ∧ HsAt HC S H x dx sc d1 d2 d3 ss ws th ts ∧ n ∈ nmL th ∧ m ∈ nmL th ∧ wd ∈ ws ∧ (n, wd, m) ∈ ts ∧
  ∀ H', But d3 H H' → HsAt HC S H' x dx sc d1 d2 d3 ss ws th (remT ts (n, wd, m)) → Q .non H'
def spHsl (HC S : Addr) : Sp := fun vs H Q _ => ∃ (x dx sc d1 d2 d3 : Addr) (n : Str) (ss ws : List Str) (th : List Thing) (ts : List T3), vs = [.ref x, .str n] ∧ HsAt HC S H x dx sc d1 d2 d3 ss ws th ts ∧ n ∈ nmL th ∧ th.length ≤ 1000 ∧
  ∀ H', But d2 H H' → HsAt HC S H' x dx sc d1 d2 d3 ss ws (setA th n false) ts → Q .non H'
section
variable {P : Program} {w : World} {K : PySem.W.Frag} {mg : Str → Option Value} {base : Heap}
theorem scHin : FnScope ["self", "scheme"] ["self", "scheme"] (defScope sHin) := ⟨rfl, rfl, rfl, by decide +kernel, rfl, by decide +kernel, by decide +kernel⟩
theorem ok_hin {f HC : Addr} {fd : FuncData} (F : Fun K "__init__" "House.__init__" sHin f fd) (TH : TxH K mg HC f) : FnOk P w K mg base CX0 1 f fd ["self", "scheme"] (spHin HC) := by
  refine F.ok scHin (fun vs H Q E h => ?_) (fun cdv A outer s H vs Q E hr h => ?_)
  · obtain ⟨H0, x, dx, sc, rfl, _⟩ := h
    rfl
  · obtain ⟨H0, x, dx, sc, rfl, S0, x0, hx, k⟩ := h
    have Sx : ∀ {H1 : Hp} {o : HO}, Same H0 H1 → Same H0 (upd H1 x o) := fun hs b o e => by
      rw [upd_ne (ne_of_none e x0)]
      exact hs b o e
    refine ⟨_, (pss_cons (ps_fld (pv 0) (pv 1) rfl) (pss_cons (ps_fld (pv 0) pe_dnewK rfl) (pss_cons (ps_fld (pv 0) pe_dnewK rfl) (pss_one (ps_fld (pv 0) pe_dnewT rfl))))), ?_⟩
    have L1 := putF_len "own_scheme" (.ref sc) []
    refine ⟨_, rfl, _, rfl, x, HC, dx, _, rfl, hx, TH.cl, TH.n0, by show 0 < 1000; decide, fun d1 g1 => ?_⟩
    have n1 : d1 ≠ x := fun z => by
      rw [z, upd_same] at g1
      cases g1
    have L2' := putF_len "sort_by_name" (.ref d1) (putF "own_scheme" (.ref sc) [])
    have L3 : ∀ d2, (putF "awake_by_name" (.ref d2) (putF "sort_by_name" (.ref d1) (putF "own_scheme" (.ref sc) []))).length ≤ _ := fun d2 => putF_len "awake_by_name" (.ref d2) (putF "sort_by_name" (.ref d1) (putF "own_scheme" (.ref sc) []))
    simp only [List.length_nil] at L1
    refine ⟨_, rfl, x, HC, dx, _, rfl, (upd_ne n1.symm).trans upd_same, TH.cl, TH.n1, by omega, fun d2 g2 => ?_⟩
    have n2 : d2 ≠ x := fun z => by
      rw [z, upd_same] at g2
      cases g2
    have n12 : d1 ≠ d2 := fun z => by
      rw [← z, upd_ne n1, upd_same] at g2
      cases g2
    refine ⟨_, rfl, x, HC, dx, _, rfl, (upd_ne n2.symm).trans upd_same, TH.cl, TH.n2, by omega, fun d3 g3 => ?_⟩
    have n3 : d3 ≠ x := fun z => by
      rw [z, upd_same] at g3
      cases g3
    have n23 : d2 ≠ d3 := fun z => by
      rw [← z, upd_ne n2, upd_same] at g3
      cases g3
    have n13 : d1 ≠ d3 := fun z => by
      rw [← z, upd_ne n1, upd_ne n12, upd_ne n1, upd_same] at g3
      cases g3
    refine ⟨_, rfl, x, HC, dx, _, rfl, (upd_ne n3.symm).trans upd_same, TH.cl, TH.n3, by have := L3 d2; omega, ?_⟩
    have SA := Sx (o := .ins HC dx (putF "own_scheme" (.ref sc) [])) S0
    have SB := Sx (o := .ins HC dx (putF "sort_by_name" (.ref d1) (putF "own_scheme" (.ref sc) []))) (SA.trans (Same.upd (o := .dK []) g1))
    have SC := Sx (o := .ins HC dx (putF "awake_by_name" (.ref d2) (putF "sort_by_name" (.ref d1) (putF "own_scheme" (.ref sc) [])))) (SB.trans (Same.upd (o := .dK []) g2))
    refine k d1 d2 d3 _ (SA.free g1) (SB.free g2) (SC.free g3) n12 (Sx (SC.trans (Same.upd g3))) upd_same ?_ ?_ ?_
    · rw [upd_ne n1, upd_ne n13, upd_ne n1, upd_ne n12, upd_ne n1, upd_same]
    · rw [upd_ne n2, upd_ne n23, upd_ne n2, upd_same]
    · rw [upd_ne n3, upd_same]
theorem scHrt : FnScope ["self", "name"] ["self", "name"] (defScope sHrt) := ⟨rfl, rfl, rfl, by decide +kernel, rfl, by decide +kernel, by decide +kernel⟩
theorem ok_hrt {f HC S fH : Addr} {fd : FuncData} (F : Fun K "refuse_no_thing" "House.refuse_no_thing" sHrt f fd) (TH : TxH K mg HC fH) : FnOk P w K mg base CX0 1 f fd ["self", "name"] (spHrt HC S) := by
  refine F.ok scHrt (fun vs H Q E h => ?_) (fun cdv A outer s H vs Q E hr h => ?_)
  · obtain ⟨x, dx, sc, d1, d2, d3, n, ss, ws, th, ts, rfl, _⟩ := h
    rfl
  · obtain ⟨x, dx, sc, d1, d2, d3, n, ss, ws, th, ts, rfl, hh, hn, q⟩ := h
    refine ⟨_, (pss_one (ps_if (pt_cmp (pc_dnotin (hu_of hr) (pv 1) (pe_fld (pv 0) rfl))) (pss_one ps_never) pss_nil)), ?_⟩
    refine ⟨_, rfl, _, rfl, x, HC, dx, _, _, rfl, hh.hx, TH.cl, TH.n1, hsF_1 _ _ _ _, d1, _, rfl, DGet.k (k := Sum.inr n) hh.h1, _, rfl, ?_⟩
    rw [is1, decide_eq_true hn]
    exact iteF q
theorem scHrs : FnScope ["self", "x", "word", "y"] ["self", "x", "word", "y"] (defScope sHrs) := ⟨rfl, rfl, rfl, by decide +kernel, rfl, by decide +kernel, by decide +kernel⟩
theorem ok_hrs {f HC S fH fR fS fW : Addr} {fd dR dW : FuncData} (F : Fun K "refuse_strange" "House.refuse_strange" sHrs f fd) (TH : TxH K mg HC fH) (mR : Meth K HC "refuse_no_thing" fR) (bR : Binds K dR ["self", "name"] []) (GR : FnOk P w K mg base CX0 1 fR dR ["self", "name"] (spHrt HC S))
    (TC : TxSch K mg S fS) (mW : Meth K S "words" fW) (bW : Binds K dW ["self"] []) (GW : FnOk P w K mg base CX0 1 fW dW ["self"] (spWor S)) : FnOk P w K mg base CX0 2 f fd ["self", "x", "word", "y"] (spHrs HC S) := by
  refine F.ok scHrs (fun vs H Q E h => ?_) (fun cdv A outer s H vs Q E hr h => ?_)
  · obtain ⟨x, dx, sc, d1, d2, d3, n, wd, m, ss, ws, th, ts, rfl, _⟩ := h
    rfl
  · obtain ⟨x, dx, sc, d1, d2, d3, n, wd, m, ss, ws, th, ts, rfl, hh, hn, hm, hw, q⟩ := h
    have no : (hsF sc d1 d2 d3).lookup ("refuse_no_thing" : Str) = none := hsF_no (by decide +kernel) (by decide +kernel) (by decide +kernel) (by decide +kernel) _ _ _ _
    refine ⟨_, (pss_cons (ps_expr (pe_meth (pv 0) TH.cl mR GR hr bR .nil pass0 (pa_cons (pv 1) pa_nil))) (pss_cons (ps_expr (pe_meth (pv 0) TH.cl mR GR hr bR .nil pass0 (pa_cons (pv 3) pa_nil)))
      (pss_one (ps_if (pt_cmpR op_notIn_seq (pv 2) (pe_meth0 (pe_fld (pv 0) rfl) TC.cl mW GW hr bW .nil pass0) (by rfl)) (pss_one ps_never) pss_nil)))), ?_⟩
    refine ⟨_, rfl, x, dx, _, rfl, hh.hx, no, _, rfl, x, dx, sc, d1, d2, d3, n, ss, ws, th, ts, rfl, hh, hn, ?_⟩
    refine ⟨_, rfl, x, dx, _, rfl, hh.hx, no, _, rfl, x, dx, sc, d1, d2, d3, m, ss, ws, th, ts, rfl, hh, hm, ?_⟩
    obtain ⟨dy, l1, l2, l3, l4, l5, e1, e2, e3⟩ := hh.hs.ex
    refine ⟨_, rfl, _, rfl, x, HC, dx, _, _, rfl, hh.hx, TH.cl, TH.n0, hsF_sc _ _ _ _, sc, dy, _, rfl, e1, schF_no (by decide +kernel) (by decide +kernel) (by decide +kernel) (by decide +kernel) (by decide +kernel) _ _ _ _ _, sc, ss, ws, rfl, hh.hs, fun l hl => ?_⟩
    refine ⟨l, _, rfl, .inl (SqL.of upd_same), rfl, flats ws, _, rfl, ?_⟩
    show if (!inV (.str wd) (ws.map V.str)) = true then _ else _
    rw [inV_strs, decide_eq_true hw]
    exact iteF (q _ (Same.upd hl))
theorem scHgi : FnScope ["self", "x", "word", "y"] ["self", "x", "word", "y"] (defScope sHgi) := ⟨rfl, rfl, rfl, by decide +kernel, rfl, by decide +kernel, by decide +kernel⟩
theorem ok_hgi {f HC S fH fR : Addr} {fd dR : FuncData} (F : Fun K "give" "House.give" sHgi f fd) (TH : TxH K mg HC fH) (mR : Meth K HC "refuse_strange" fR) (bR : Binds K dR ["self", "x", "word", "y"] []) (GR : FnOk P w K mg base CX0 2 fR dR ["self", "x", "word", "y"] (spHrs HC S)) : FnOk P w K mg base CX0 3 f fd ["self", "x", "word", "y"] (spHgi HC S) := by
  refine F.ok scHgi (fun vs H Q E h => ?_) (fun cdv A outer s H vs Q E hr h => ?_)
  · obtain ⟨x, dx, sc, d1, d2, d3, n, wd, m, ss, ws, th, ts, rfl, _⟩ := h
    rfl
  · obtain ⟨x, dx, sc, d1, d2, d3, n, wd, m, ss, ws, th, ts, rfl, hh, hn, hm, hw, hts, q⟩ := h
    refine ⟨_, (pss_cons (ps_expr (pe_meth (pv 0) TH.cl mR GR hr bR .nil pass0 (pa_cons (pv 1) (pa_cons (pv 2) (pa_cons (pv 3) pa_nil))))) (pss_one (ps_dput (hu_of hr) (pe_fld (pv 0) rfl) (pe_tup (pa_cons (pv 1) (pa_cons (pv 2) (pa_cons (pv 3) pa_nil)))) pe_bl rfl))), ?_⟩
    refine ⟨_, rfl, x, dx, _, rfl, hh.hx, hsF_no (by decide +kernel) (by decide +kernel) (by decide +kernel) (by decide +kernel) _ _ _ _, _, rfl, _, rfl, _, rfl, x, dx, sc, d1, d2, d3, n, wd, m, ss, ws, th, ts, rfl, hh, hn, hm, hw, fun H1 S1 => ?_⟩
    have h1 := hh.same S1
    refine ⟨_, rfl, x, HC, dx, _, _, rfl, h1.hx, TH.cl, TH.n3, hsF_3 _ _ _ _, _, rfl, _, rfl, _, rfl, by show 3 ≤ sizeLine; decide, fun t ht => ?_⟩
    have S2 := Same.upd (o := .tup [.str n, .str wd, .str m]) ht
    have h2 := h1.same S2
    refine ⟨d3, _, rfl, DPut.t (k := triK (n, wd, m)) h2.h3 upd_same ?_, ?_⟩
    · unfold k3
      rw [List.length_map]
      exact Nat.lt_of_le_of_lt hts (by decide)
    · rw [put3]
      have B : But d3 H (upd (upd H1 t (.tup [.str n, .str wd, .str m])) d3 (.dT (k3 (addT ts (n, wd, m))))) := fun q o nq e => by
        rw [upd_ne nq]
        exact S2 _ _ (S1 _ _ e)
      refine q _ B ⟨?_, h2.hs.but But.upd h2.h3 (fun _ _ _ z => by cases z) (fun _ z => by cases z), ?_, ?_, upd_same, hh.ne⟩
      · rw [upd_ne (ne_of h2.hx h2.h3 (by intro z; cases z))]
        exact h2.hx
      · rw [upd_ne (ne_of h2.h1 h2.h3 (by intro z; cases z))]
        exact h2.h1
      · rw [upd_ne (ne_of h2.h2 h2.h3 (by intro z; cases z))]
        exact h2.h2
theorem scHso : FnScope ["self", "x"] ["self", "x"] (defScope sHso) := ⟨rfl, rfl, rfl, by decide +kernel, rfl, by decide +kernel, by decide +kernel⟩
theorem ok_hso {f HC S fH fR : Addr} {fd dR : FuncData} (F : Fun K "sort_of" "House.sort_of" sHso f fd) (TH : TxH K mg HC fH) (mR : Meth K HC "refuse_no_thing" fR) (bR : Binds K dR ["self", "name"] []) (GR : FnOk P w K mg base CX0 1 fR dR ["self", "name"] (spHrt HC S)) : FnOk P w K mg base CX0 2 f fd ["self", "x"] (spHso HC S) := by
  refine F.ok scHso (fun vs H Q E h => ?_) (fun cdv A outer s H vs Q E hr h => ?_)
  · obtain ⟨x, dx, sc, d1, d2, d3, n, s0, ss, ws, th, ts, rfl, _⟩ := h
    rfl
  · obtain ⟨x, dx, sc, d1, d2, d3, n, z, ss, ws, th, ts, rfl, hh, hz, q⟩ := h
    have hn : n ∈ nmL th := by
      have e := val_srt th n
      rw [hz] at e
      have q := is1 th n
      rw [e] at q
      exact of_decide_eq_true q.symm
    refine ⟨_, (pss_cons (ps_expr (pe_meth (pv 0) TH.cl mR GR hr bR .nil pass0 (pa_cons (pv 1) pa_nil))) (pss_one (ps_ret (pe_dget (hu_of hr) (pe_fld (pv 0) rfl) (pv 1) (fun _ _ => rfl))))), ?_⟩
    refine ⟨_, rfl, x, dx, _, rfl, hh.hx, hsF_no (by decide +kernel) (by decide +kernel) (by decide +kernel) (by decide +kernel) _ _ _ _, _, rfl, x, dx, sc, d1, d2, d3, n, ss, ws, th, ts, rfl, hh, hn, ?_⟩
    refine ⟨_, rfl, x, HC, dx, _, _, rfl, hh.hx, TH.cl, TH.n1, hsF_1 _ _ _ _, _, rfl, d1, .str z, rfl, ?_, q⟩
    have e : valV (k1 th) (Sum.inr n) = some (.str z) := by rw [val_srt, hz]; rfl
    rw [← e]
    exact DGet.k (k := Sum.inr n) hh.h1
theorem scHta : FnScope ["self", "x", "word", "y"] ["self", "x", "word", "y"] (defScope sHta) := ⟨rfl, rfl, rfl, by decide +kernel, rfl, by decide +kernel, by decide +kernel⟩
theorem ok_hta {f HC S fH fR : Addr} {fd dR : FuncData} (F : Fun K "take" "House.take" sHta f fd) (TH : TxH K mg HC fH) (mR : Meth K HC "refuse_strange" fR) (bR : Binds K dR ["self", "x", "word", "y"] []) (GR : FnOk P w K mg base CX0 2 fR dR ["self", "x", "word", "y"] (spHrs HC S)) : FnOk P w K mg base CX0 3 f fd ["self", "x", "word", "y"] (spHta HC S) := by
  refine F.ok scHta (fun vs H Q E h => ?_) (fun cdv A outer s H vs Q E hr h => ?_)
  · obtain ⟨x, dx, sc, d1, d2, d3, n, wd, m, ss, ws, th, ts, rfl, _⟩ := h
    rfl
  · obtain ⟨x, dx, sc, d1, d2, d3, n, wd, m, ss, ws, th, ts, rfl, hh, hn, hm, hw, hin, q⟩ := h
    refine ⟨_, (pss_cons (ps_expr (pe_meth (pv 0) TH.cl mR GR hr bR .nil pass0 (pa_cons (pv 1) (pa_cons (pv 2) (pa_cons (pv 3) pa_nil)))))
      (pss_cons (ps_if (pt_cmp (pc_dnotin (hu_of hr) (pe_tup (pa_cons (pv 1) (pa_cons (pv 2) (pa_cons (pv 3) pa_nil)))) (pe_fld (pv 0) rfl))) (pss_one ps_never) pss_nil)
      (pss_one (ps_ddelT (hu_of hr) (pe_fld (pv 0) rfl) (pe_tup (pa_cons (pv 1) (pa_cons (pv 2) (pa_cons (pv 3) pa_nil)))))))), ?_⟩
    refine ⟨_, rfl, x, dx, _, rfl, hh.hx, hsF_no (by decide +kernel) (by decide +kernel) (by decide +kernel) (by decide +kernel) _ _ _ _, _, rfl, _, rfl, _, rfl, x, dx, sc, d1, d2, d3, n, wd, m, ss, ws, th, ts, rfl, hh, hn, hm, hw, fun H1 S1 => ?_⟩
    have h1 := hh.same S1
    refine ⟨_, rfl, _, rfl, _, rfl, by show 3 ≤ sizeLine; decide, fun t ht => ?_⟩
    have S2 := Same.upd (o := .tup [.str n, .str wd, .str m]) ht
    have h2 := h1.same S2
    refine ⟨_, rfl, x, HC, dx, _, _, rfl, h2.hx, TH.cl, TH.n3, hsF_3 _ _ _ _, ?_⟩
    refine ⟨d3, _, rfl, DGet.t (k := triK (n, wd, m)) h2.h3 upd_same, _, rfl, ?_⟩
    rw [is3, decide_eq_true hin]
    refine iteF ?_
    refine ⟨_, rfl, x, HC, dx, _, _, rfl, h2.hx, TH.cl, TH.n3, hsF_3 _ _ _ _, _, rfl, _, rfl, _, rfl, by show 3 ≤ sizeLine; decide, fun t2 ht2 => ?_⟩
    have S3 := Same.upd (o := .tup [.str n, .str wd, .str m]) ht2
    have h3 := h2.same S3
    refine ⟨d3, _, triK (n, wd, m), t2, rfl, rfl, h3.h3, upd_same, by rw [is3]; exact decide_eq_true hin, ?_⟩
    rw [drop3]
    refine q _ (fun q o nq e => ?_) h3.put3
    rw [upd_ne nq]
    exact S3 _ _ (S2 _ _ (S1 _ _ e))
theorem scHsl : FnScope ["self", "x"] ["self", "x"] (defScope sHsl) := ⟨rfl, rfl, rfl, by decide +kernel, rfl, by decide +kernel, by decide +kernel⟩
theorem ok_hsl {f HC S fH fR : Addr} {fd dR : FuncData} (F : Fun K "sleep" "House.sleep" sHsl f fd) (TH : TxH K mg HC fH) (mR : Meth K HC "refuse_no_thing" fR) (bR : Binds K dR ["self", "name"] []) (GR : FnOk P w K mg base CX0 1 fR dR ["self", "name"] (spHrt HC S)) : FnOk P w K mg base CX0 2 f fd ["self", "x"] (spHsl HC S) := by
  refine F.ok scHsl (fun vs H Q E h => ?_) (fun cdv A outer s H vs Q E hr h => ?_)
  · obtain ⟨x, dx, sc, d1, d2, d3, n, ss, ws, th, ts, rfl, _⟩ := h
    rfl
  · obtain ⟨x, dx, sc, d1, d2, d3, n, ss, ws, th, ts, rfl, hh, hn, hl, q⟩ := h
    refine ⟨_, (pss_cons (ps_expr (pe_meth (pv 0) TH.cl mR GR hr bR .nil pass0 (pa_cons (pv 1) pa_nil))) (pss_one (ps_dput (hu_of hr) (pe_fld (pv 0) rfl) (pv 1) pe_bl rfl))), ?_⟩
    refine ⟨_, rfl, x, dx, _, rfl, hh.hx, hsF_no (by decide +kernel) (by decide +kernel) (by decide +kernel) (by decide +kernel) _ _ _ _, _, rfl, x, dx, sc, d1, d2, d3, n, ss, ws, th, ts, rfl, hh, hn, ?_⟩
    refine ⟨_, rfl, x, HC, dx, _, _, rfl, hh.hx, TH.cl, TH.n2, hsF_2 _ _ _ _, _, rfl, d2, _, rfl, DPut.k (k := Sum.inr n) hh.h2 ?_, ?_⟩
    · unfold k2
      rw [List.length_map]
      exact Nat.lt_of_le_of_lt hl (by decide)
    · rw [setA_put false hn]
      refine q _ But.upd ⟨?_, hh.hs.but But.upd hh.h2 (fun _ _ _ z => by cases z) (fun _ z => by cases z), ?_, upd_same, ?_, hh.ne⟩
      · rw [upd_ne (ne_of hh.hx hh.h2 (by intro z; cases z))]
        exact hh.hx
      · rw [upd_ne hh.ne, setA_k1]
        exact hh.h1
      · rw [upd_ne (ne_of hh.h3 hh.h2 (by intro z; cases z))]
        exact hh.h3
theorem scHhe : FnScope ["self"] ["self"] (defScope sHhe) := ⟨rfl, rfl, rfl, by decide +kernel, rfl, by decide +kernel, by decide +kernel⟩
theorem ok_hhe {f HC S fH : Addr} {fd : FuncData} (F : Fun K "held" "House.held" sHhe f fd) (tsr : mg "sorted" = none) (TH : TxH K mg HC fH) : FnOk P w K mg base CX0 1 f fd ["self"] (spHhe K HC S) := by
  refine F.ok scHhe (fun vs H Q E h => ?_) (fun cdv A outer s H vs Q E hr h => ?_)
  · obtain ⟨x, dx, sc, d1, d2, d3, ss, ws, th, ts, rfl, _⟩ := h
    rfl
  · obtain ⟨x, dx, sc, d1, d2, d3, ss, ws, th, ts, rfl, hh, q⟩ := h
    refine ⟨_, (pss_one (ps_ret (pe_callB (cr_sortTD rfl hr.units) (by rfl) tsr (by decide +kernel) (pa_cons (pe_fld (pv 0) rfl) pa_nil)))), ?_⟩
    exact ⟨_, rfl, x, HC, dx, _, _, rfl, hh.hx, TH.cl, TH.n3, hsF_3 _ _ _ _, d3, _, ts, rfl, hh.h3, keys3 ts, fun qs l hq hl => q qs l hq hl⟩
theorem scHen : FnScope ["self", "name", "sort", "awake"] ["self", "name", "sort", "awake"] (defScope sHen) := ⟨rfl, rfl, rfl, by decide +kernel, rfl, by decide +kernel, by decide +kernel⟩
theorem ok_hen {f HC S fH fS fN fO : Addr} {fd dN dO : FuncData} {dvs : List V} (F : FunD K "enter" "House.enter" (defArgs sHen) (defBody sHen) (defScope sHen) dvs [] f fd) (T : TxB mg) (MT : ∃ t, mg "MOST_THINGS" = some (.int 60 t)) (TH : TxH K mg HC fH) (DN : Dn K mg "refuse_no_name" sRN ["texts"] fN dN) (GN : FnOk P w K mg base CX0 2 fN dN ["texts"] (spRNv K))
    (TC : TxSch K mg S fS) (mO : Meth K S "sorts" fO) (bO : Binds K dO ["self"] []) (GO : FnOk P w K mg base CX0 1 fO dO ["self"] (spSor S)) : FnOk P w K mg base CX0 3 f fd ["self", "name", "sort", "awake"] (spHen HC S) := by
  refine F.ok scHen (fun vs H Q E h => ?_) (fun cdv A outer s H vs Q E hr h => ?_)
  · obtain ⟨x, dx, sc, d1, d2, d3, n, so, b, ss, ws, th, ts, rfl, _⟩ := h
    rfl
  · obtain ⟨x, dx, sc, d1, d2, d3, n, so, b, ss, ws, th, ts, rfl, hh, hn, hn12, hnew, hso, h60, q⟩ := h
    have hr1 : Room 1 _ := hr.mono (by decide)
    obtain ⟨t60, g60⟩ := MT
    refine ⟨_, (pss_cons (ps_expr (pe_call GN hr rfl DN.g DN.F.kp DN.b .nil pass0 (pa_cons (pe_lst (pa_cons (pv 1) pa_nil)) pa_nil)))
      (pss_cons (ps_if (pt_cmp (pc_din (hu_of hr) (pv 1) (pe_fld (pv 0) rfl))) (pss_one ps_never) pss_nil)
      (pss_cons (ps_if (pt_cmpR op_notIn_seq (pv 2) (pe_meth0 (pe_fld (pv 0) rfl) TC.cl mO GO hr1 bO .nil pass0) (by rfl)) (pss_one ps_never) pss_nil)
      (pss_cons (ps_if (pt_cmpR op_ge (pe_callB call_lenD (by rfl) T.len (by decide +kernel) (pa_cons (pe_fld (pv 0) rfl) pa_nil)) (pe_glob (v := .int 60) rfl g60 ⟨t60, rfl⟩) (nomark _)) (pss_one ps_never) pss_nil)
      (pss_cons (ps_dput (hu_of hr) (pe_fld (pv 0) rfl) (pv 1) (pv 2) rfl)
      (pss_one (ps_dput (hu_of hr) (pe_fld (pv 0) rfl) (pv 1) (pv 3) rfl))))))), ?_⟩
    refine ⟨_, rfl, by show 1 ≤ sizeLine; decide, fun l0 hl0 => ?_⟩
    refine ⟨l0, [n], rfl, SqL.of upd_same, fun z hz => by rw [List.mem_singleton.mp hz]; exact ⟨hn, hn12⟩, fun H1 S1 => ?_⟩
    have SA : Same H H1 := (Same.upd hl0).trans S1
    have h1 := hh.same SA
    refine ⟨_, rfl, _, rfl, x, HC, dx, _, _, rfl, h1.hx, TH.cl, TH.n1, hsF_1 _ _ _ _, d1, _, rfl, DGet.k (k := Sum.inr n) h1.h1, _, rfl, ?_⟩
    rw [is1, decide_eq_false hnew]
    refine iteF ?_
    obtain ⟨dy, l1, l2, l3, l4, l5, e1, e2, e3⟩ := h1.hs.ex
    refine ⟨_, rfl, _, rfl, x, HC, dx, _, _, rfl, h1.hx, TH.cl, TH.n0, hsF_sc _ _ _ _, sc, dy, _, rfl, e1, schF_no (by decide +kernel) (by decide +kernel) (by decide +kernel) (by decide +kernel) (by decide +kernel) _ _ _ _ _, sc, ss, ws, rfl, h1.hs, fun l hl => ?_⟩
    refine ⟨l, _, rfl, .inl (SqL.of upd_same), rfl, flats ss, _, rfl, ?_⟩
    show if (!inV (.str so) (ss.map V.str)) = true then _ else _
    rw [inV_strs, decide_eq_true hso]
    refine iteF ?_
    have SB : Same H1 (upd H1 l (.lst (ss.map V.str))) := Same.upd hl
    have h2 := h1.same SB
    have S02 := SA.trans SB
    generalize upd H1 l (.lst (ss.map V.str)) = H2 at SB h2 S02
    refine ⟨_, rfl, x, HC, dx, _, _, rfl, h2.hx, TH.cl, TH.n1, hsF_1 _ _ _ _, d1, _, rfl, h2.h1, _, _, rfl, rfl, _, rfl, ?_⟩
    have el : (k1 th).length = th.length := by unfold k1; rw [List.length_map]
    have el2 : (k2 th).length = th.length := by unfold k2; rw [List.length_map]
    refine ite2 (fun z => absurd (of_decide_eq_true z) (by rw [el]; omega)) (fun _ => ?_)
    have lt1 : (k1 th).length < sizeLine := Nat.lt_of_lt_of_le (by rw [el]; exact h60) (by decide)
    have lt2 : (k2 th).length < sizeLine := Nat.lt_of_lt_of_le (by rw [el2]; exact h60) (by decide)
    refine ⟨_, rfl, _, rfl, x, HC, dx, _, _, rfl, h2.hx, TH.cl, TH.n1, hsF_1 _ _ _ _, _, rfl, d1, _, rfl, DPut.k (k := Sum.inr n) h2.h1 lt1, ?_⟩
    rw [new1 (b := b) hnew]
    have ne1x : x ≠ d1 := ne_of h2.hx h2.h1 (by intro z; cases z)
    refine ⟨_, rfl, _, rfl, x, HC, dx, _, _, rfl, (upd_ne ne1x).trans h2.hx, TH.cl, TH.n2, hsF_2 _ _ _ _, _, rfl, d2, _, rfl, DPut.k (k := Sum.inr n) ((upd_ne hh.ne.symm).trans h2.h2) lt2, ?_⟩
    rw [new2 (s := so) hnew]
    have ne2x : x ≠ d2 := ne_of h2.hx h2.h2 (by intro z; cases z)
    have ne31 : d3 ≠ d1 := ne_of h2.h3 h2.h1 (by intro z; cases z)
    have ne32 : d3 ≠ d2 := ne_of h2.h3 h2.h2 (by intro z; cases z)
    refine q _ (fun z o n1 n2 e => by rw [upd_ne n2, upd_ne n1]; exact S02 _ _ e) ⟨?_, ?_, ?_, upd_same, ?_, hh.ne⟩
    · rw [upd_ne ne2x, upd_ne ne1x]
      exact h2.hx
    · have q1 := h2.hs.but (But.upd (o := .dK (k1 (th ++ [(n, so, b)])))) h2.h1 (fun _ _ _ z => by cases z) (fun _ z => by cases z)
      exact q1.but But.upd ((upd_ne hh.ne.symm).trans h2.h2) (fun _ _ _ z => by cases z) (fun _ z => by cases z)
    · rw [upd_ne hh.ne, upd_same]
    · rw [upd_ne ne32, upd_ne ne31]
      exact h2.h3
end
end Wm
/-! sets of tuples whose items are texts or whole numbers: set(xs), {t for ..}, sorted(set) -/
namespace Wm
open PySem PySem.Spec PyProof.Rows L2

section
variable {P : Program} {w : World} {A : Around} {E : Value → Shared → Prop} {s : Shared}
/-! ### what a table asks of its keys -/
abbrev kHash (P : Program) (w : World) (k : List L2.Key) : Int := tupleKeyHash (mixKind P w) k
abbrev KeyAt (P : Program) (w : World) (h : Heap) (k : List L2.Key) (b : Addr) : Prop := IsTupleKey (mixKind P w) h k b
/-- an item of a key -/
inductive Flat : Value → Prop
  | int (i : Int) (t : Tok) : Flat (.int i t)
  | str (x : Str) (t : Tok) : Flat (.str x t)
theorem flat_items {k : List L2.Key} {vs : List Value} (h : ItemsAre (mixKind P w) k vs) : ∀ v ∈ vs, Flat v := by
  induction h with
  | nil => exact fun v hv => absurd hv List.not_mem_nil
  | cons hd _ ih =>
    intro v hv
    cases hv with
    | head =>
      obtain ⟨i, t, _, e⟩ | ⟨x, t, _, e⟩ := keyIs_shape hd
      · rw [e]
        exact .int i t
      · rw [e]
        exact .str x t
    | tail _ hv => exact ih v hv
theorem KeyAt.flat {k : List L2.Key} {b : Addr} {h : Heap} (hk : KeyAt P w h k b) : ∃ (o : Obj) (items : Array Value) (n : Nat), h.get? b = some o ∧ o.data = .seq items n ∧ ∀ v ∈ items.toList, Flat v := by
  obtain ⟨o, items, n, ho, _, hd, hi⟩ := hk
  exact ⟨o, items, n, ho, hd, flat_items hi⟩
/-- a walk over flat items whose every turn answers the same and goes on, or ends with an answer -/
theorem flat_walk {items : Array Value} {Q : Option Bool × PUnit → Shared → Prop} {f : Value → Option Bool × PUnit → Sem (ForInStep (Option Bool × PUnit))} (hf : ∀ v ∈ items.toList, Flat v) (none_ : Q (none, ⟨⟩) s)
    (turn : ∀ v, Flat v → ∀ (R : ForInStep (Option Bool × PUnit) → Shared → Prop), R (.yield (none, ⟨⟩)) s → (∀ b, Q b s → R (.done b) s) → wpAny (model P w) A (f v (none, ⟨⟩)) R E s) :
    wpAny (model P w) A (forIn items (none, ⟨⟩) f) Q E s := by
  rw [← Array.forIn_toList]
  generalize items.toList = vs at hf
  induction vs with
  | nil =>
    rw [List.forIn_nil]
    exact wpAny_pure none_
  | cons v r ih =>
    rw [List.forIn_cons]
    refine wpAny_bind (turn v (hf v List.mem_cons_self) _ ?_ fun b hb => wpAny_pure hb)
    exact ih fun u hu => hf u (List.mem_cons_of_mem _ hu)
/-- a flat value is no class's statement, and its hash is of no class's making -/
theorem flat_cls {v : Value} (f : Flat v) (n : Nat) : ofAClassStatement n v = pure false := by
  cases f <;> cases n <;> rfl
theorem flat_hash {v : Value} (f : Flat v) (n : Nat) : ∃ b, hashByValue n v = pure b := by
  cases f with
  | int i t => exact ⟨true, by cases n <;> rfl⟩
  | str x t => exact ⟨false, by cases n <;> rfl⟩
theorem key_cls {k : List L2.Key} {b : Addr} {Q : Bool → Shared → Prop} (hk : KeyAt P w s.heap k b) (q : Q false s) : wpAny (model P w) A (ofAClassStatement 8 (.ref b)) Q E s := by
  have ty := hk.typeIs
  obtain ⟨o, items, n, ho, hd, hf⟩ := hk.flat
  unfold ofAClassStatement
  refine wpAny_bind (wpAny_typeOf ty ?_)
  dsimp only
  rw [if_pos (show (("tuple" : String) == "tuple") = true by decide)]
  refine wpAny_bind (wpAny_pure ?_)
  refine wp_if_neg (by decide) ?_
  refine wpAny_bind (wpAny_seqItems ho hd ?_)
  dsimp only
  refine wpAny_bind (flat_walk hf (by exact wpAny_pure q) fun v hv R ry _ => ?_)
  rw [flat_cls hv]
  exact wpAny_bind (wpAny_pure (wpAny_pure ry))
theorem key_hash {k : List L2.Key} {b : Addr} {Q : Bool → Shared → Prop} (hk : KeyAt P w s.heap k b) (q : ∀ c, Q c s) : wpAny (model P w) A (hashByValue 8 (.ref b)) Q E s := by
  have ty := hk.typeIs
  obtain ⟨o, items, n, ho, hd, hf⟩ := hk.flat
  unfold hashByValue
  refine wpAny_bind (wpAny_specialOf ty F.slot_tuple_hash.lookup ?_)
  dsimp only
  refine wpAny_bind (wpAny_seqItems ho hd ?_)
  refine wpAny_bind (flat_walk hf (by exact wpAny_pure (q _)) fun v hv R ry rd => ?_)
  obtain ⟨c, e⟩ := flat_hash hv 7
  rw [e]
  refine wpAny_bind (wpAny_pure ?_)
  cases c with
  | true => exact wpAny_pure ry
  | false => exact wpAny_pure (rd _ (wpAny_pure (q _)))
/-- a search among keys shows nothing -/
theorem key_seen {k : List L2.Key} {b : Addr} {Q : Bool → Shared → Prop} (hk : KeyAt P w s.heap k b) {ys : List Value} (hy : ∀ y ∈ ys, ∃ k' c, y = .ref c ∧ KeyAt P w s.heap k' c) (q : Q false s) :
    wpAny (model P w) A (searchCouldBeSeen (.ref b) ys) Q E s := by
  unfold searchCouldBeSeen
  refine wpAny_bind (wpAny_forIn_list _ (fun rest r s' => (∀ y ∈ rest, ∃ k' c, y = Value.ref c ∧ KeyAt P w s.heap k' c) ∧ r = (none, PUnit.unit) ∧ s' = s) _ (fun y rest r s' hr => ?_) (fun r s' hr => ?_) ys _ ⟨hy, rfl, rfl⟩)
  · obtain ⟨all, rfl, rfl⟩ := hr
    obtain ⟨k', c, rfl, hc⟩ := all y List.mem_cons_self
    have next : (∀ u ∈ rest, ∃ k' c, u = Value.ref c ∧ KeyAt P w s'.heap k' c) ∧ ((none : Option Bool), PUnit.unit) = (none, PUnit.unit) ∧ s' = s' := ⟨fun u hu => all u (List.mem_cons_of_mem _ hu), rfl, rfl⟩
    dsimp only
    split
    · exact wpAny_pure next
    · refine wpAny_bind (wpAny_eqIsQuiet_tuple hk (wp_if_neg (by decide) ?_))
      refine wpAny_bind (wpAny_eqIsQuiet_tuple hc (wp_if_neg (by decide) ?_))
      refine wpAny_bind (key_cls hk (wp_if_neg (by decide) ?_))
      exact wpAny_bind (key_cls hc (wp_if_neg (by decide) (wpAny_pure next)))
  · obtain ⟨_, rfl, rfl⟩ := hr
    exact wpAny_pure q
/-! ### the table -/
/-- the set at a; its members stand in L as their slots do -/
structure KTab (P : Program) (w : World) (a : Addr) (L : List (Addr × List L2.Key)) (h : Heap) (es : Array (Int × Value)) (ep : Nat) (t : SetTable) : Prop where
  obj : ∃ o, h.get? a = some o ∧ o.ExactSet ∧ o.data = .set es ep t
  row : es.toList = L.map fun m => (kHash P w m.2, Value.ref m.1)
  tab : TabOk t (L.map fun m => kHash P w m.2)
  nod : (L.map (·.2)).Nodup
  led : w.params.followText "set-order" = true ∨ t.led = true
  room : L.length * 5 < t.mask * 3
  few : L.length < 64
/-- the members are keys -/
abbrev Mems (P : Program) (w : World) (h : Heap) (L : List (Addr × List L2.Key)) : Prop := ∀ m ∈ L, KeyAt P w h m.2 m.1
variable {a : Addr} {L : List (Addr × List L2.Key)} {es : Array (Int × Value)} {ep : Nat} {t : SetTable}
theorem rows_size {h : Array (Int × Value)} (e : h.toList = L.map fun m => (kHash P w m.2, Value.ref m.1)) : h.size = L.length := by
  rw [← Array.length_toList, e, List.length_map]
theorem rows_at {h : Array (Int × Value)} (e : h.toList = L.map fun m => (kHash P w m.2, Value.ref m.1)) {i : Nat} {m : Addr × List L2.Key} (hm : L[i]? = some m) : h[i]? = some (kHash P w m.2, Value.ref m.1) := by
  rw [← Array.getElem?_toList, e, List.getElem?_map, hm]
  rfl
theorem place_size (T : TabOk t (L.map fun m => kHash P w m.2)) : t.place.size = L.length := by
  rw [T.sz, List.length_map]
theorem fits_of (dm : t.dummies = #[]) {n : Nat} (e : t.place.size = n) (l : n ≤ t.mask) : t.fits n = true := by
  unfold SetTable.fits SetTable.fill
  rw [dm, Bool.and_eq_true, beq_iff_eq, decide_eq_true_eq]
  exact ⟨e, show t.place.size + 0 ≤ t.mask by omega⟩
theorem KTab.fits {h : Heap} (R : KTab P w a L h es ep t) : t.fits es.size = true := by
  have r := R.room
  have z := rows_size R.row
  exact fits_of R.tab.dm (by rw [place_size R.tab, z]) (by omega)
theorem not_gave {hs : List Int} (T : TabOk t hs) : ¬ t.gaveWay = true := by
  unfold SetTable.gaveWay
  rw [mask_odd T.mok]
  decide
/-- the way of a search for the hash h, behind c steps -/
abbrev step (t : SetTable) (h : Int) (c : Nat) : SetTable.Probe := nth t.mask (runAt t.mask (SetTable.bits h % (t.mask + 1)) (SetTable.bits h)) c
theorem step_clean (t : SetTable) (h : Int) (c : Nat) : (step t h c).dummy = none := by
  induction c with
  | zero => rfl
  | succ c ih =>
    show (nth _ _ _).dummy = none
    rw [nth_succ]
    unfold adv
    split <;> exact ih
theorem step_step (t : SetTable) (h : Int) (c q : Nat) : nth t.mask (step t h c) q = step t h (c + q) := (nth_add t.mask c _ q).symm
/-- what the probe that starts behind c steps meets: the first slot of that hash, or the free slot behind K steps -/
theorem step_probe {hs : List Int} (T : TabOk t hs) (hashAt : Nat → Int) {h : Int} {K c : Nat} (hc : c ≤ K) (hK : K < 10 * SetTable.turns t.mask) (free : (step t h K).j ∉ t.place.toList) (full : ∀ q, q < K → (step t h q).j ∈ t.place.toList) :
    (∃ q i, c ≤ q ∧ q < K ∧ t.place.toList[i]? = some (step t h q).j ∧ (∀ q' i', c ≤ q' → q' < q → t.place.toList[i']? = some (step t h q').j → hashAt i' ≠ h) ∧ t.probe hashAt h (step t h c) = some (.candidate (step t h q).j i (step t h (q + 1)))) ∨
    ((∀ q' i', c ≤ q' → q' < K → t.place.toList[i']? = some (step t h q').j → hashAt i' ≠ h) ∧ t.probe hashAt h (step t h c) = some (.empty (step t h K).j none)) := by
  have g := go_spec t T.ris T.dm hashAt h (10 * SetTable.turns t.mask) (K - c) (step t h c) (step_clean t h c) (by omega) (fun q hq => by rw [step_step]; exact full _ (by omega)) (by rw [step_step, show c + (K - c) = K by omega]; exact free)
  rcases g with ⟨q, i, hq, hi, _, no, pr⟩ | ⟨no, pr⟩
  · refine .inl ⟨c + q, i, by omega, by omega, by rw [← step_step]; exact hi, fun q' i' h1 h2 e => ?_, ?_⟩
    · refine no (q' - c) i' (by omega) ?_
      rw [step_step, show c + (q' - c) = q' by omega]
      exact e
    · rw [step_step, step_step] at pr
      exact pr
  · refine .inr ⟨fun q' i' h1 h2 e => ?_, ?_⟩
    · refine no (q' - c) i' (by omega) ?_
      rw [step_step, show c + (q' - c) = q' by omega]
      exact e
    · rw [step_step, show c + (K - c) = K by omega] at pr
      exact pr
/-- THE SEARCH, from behind c steps on; what is sought stands on the way still to go, if at all -/
theorem k_seek (R : KTab P w a L s.heap es ep t) (ms : Mems P w s.heap L) {x : Addr} {k : List L2.Key} (hx : KeyAt P w s.heap k x) (hu : A.units < cLine) {K : Nat} (hK : K < 10 * SetTable.turns t.mask)
    (free : (step t (kHash P w k) K).j ∉ t.place.toList) (full : ∀ q, q < K → (step t (kHash P w k) q).j ∈ t.place.toList) {Q : SetFound → Shared → Prop}
    (there : k ∈ L.map (·.2) → Q (.there none) s) (gone : k ∉ L.map (·.2) → Q (.free (step t (kHash P w k) K).j false) s) :
    ∀ (d c f : Nat) (stand : Option SetTable.Probe), c + d = K → d < f → stand.getD (t.probeStart (kHash P w k)) = step t (kHash P w k) c →
      (∀ (i : Nat) m, L[i]? = some m → m.2 = k → ∃ q, c ≤ q ∧ q < K ∧ t.place.toList[i]? = some (step t (kHash P w k) q).j) →
      wpAny (model P w) A (setSearchFrom a (.ref x) (kHash P w k) true f stand) Q E s := by
  intro d
  induction d using Nat.strongRecOn with
  | ind d ih =>
    intro c f stand hcd hf hst ahead
    obtain ⟨f, rfl⟩ : ∃ g, f = g + 1 := ⟨f - 1, by omega⟩
    obtain ⟨o, ho, hex, hd⟩ := R.obj
    rw [setSearchFrom_succ]
    refine wpAny_bind (wpAny_setState_of ho hd R.fits ?_)
    dsimp only
    refine wp_if_neg (not_gave R.tab) ?_
    rw [hst]
    have hashes : ∀ (i : Nat) m, L[i]? = some m → ((es[i]?.map (·.1)).getD 0) = kHash P w m.2 := fun i m e => by
      rw [rows_at R.row e]
      rfl
    rcases step_probe R.tab (fun i => (es[i]?.map (·.1)).getD 0) (h := kHash P w k) (c := c) (by omega) hK free full with ⟨q, i, h1, h2, hi, no, pr⟩ | ⟨no, pr⟩
    · rw [pr]
      dsimp only
      have il : i < L.length := by
        have z := (List.getElem?_eq_some_iff.mp hi).1
        rw [Array.length_toList, place_size R.tab] at z
        exact z
      obtain ⟨m, hm⟩ : ∃ m, L[i]? = some m := ⟨_, List.getElem?_eq_getElem il⟩
      have hmem := List.mem_of_getElem? hm
      have look : wpAny (model P w) A (searchRest a (.ref x) (kHash P w k) true f es t (step t (kHash P w k) q).j i (step t (kHash P w k) (q + 1))) Q E s := by
        unfold searchRest
        rw [rows_at R.row hm]
        dsimp only
        refine wpAny_bind (wpAny_holding (wpAny_eqBool_tuple hu (ms m hmem) hx ?_))
        refine wpAny_bind (wpAny_setState_of ho hd R.fits ?_)
        dsimp only
        by_cases ek : m.2 = k
        · exact wp_if_pos (by rw [decide_eq_true ek]; rfl) (wpAny_pure (there (List.mem_map.mpr ⟨m, hmem, ek⟩)))
        · refine wp_if_neg (by rw [decide_eq_false ek]; decide) ?_
          rw [sameMem]
          have sl := slot_live R.tab.ris hi
          dsimp only
          simp only [if_true, sl, rows_at R.row hm]
          refine wpAny_bind (wpAny_isSame_ref_self (wpAny_bind (wpAny_pure ?_)))
          simp only [if_true]
          refine wp_if_neg (by rw [decide_eq_false ek]; decide) ?_
          refine ih (K - (q + 1)) (by omega) (q + 1) f _ (by omega) (by omega) rfl fun i0 m0 e0 k0 => ?_
          obtain ⟨q0, a1, a2, a3⟩ := ahead i0 m0 e0 k0
          refine ⟨q0, ?_, a2, a3⟩
          rcases Nat.lt_trichotomy q0 q with z | z | z
          · exact absurd ((hashes i0 m0 e0).trans (by rw [k0])) (no q0 i0 a1 z a3)
          · rw [z] at a3
            have z2 : SetTable.Slot.live i0 = .live i := (slot_live R.tab.ris a3).symm.trans sl
            cases z2
            rw [hm] at e0
            cases e0
            exact absurd k0 ek
          · exact z
      by_cases hl : t.led = true
      · exact wp_if_neg (by rw [hl]; decide) look
      · refine wp_if_pos (by rw [Bool.not_eq_true] at hl; rw [hl]; rfl) ?_
        refine wpAny_bind (key_seen hx (fun y hy => ?_) (wp_if_neg (by decide) look))
        obtain ⟨e, he, rfl⟩ := List.mem_map.mp hy
        have he2 : e ∈ es.toList := by
          have z : e ∈ es ∧ e.1 = kHash P w k := by simpa using he
          simpa using z.1
        rw [R.row] at he2
        obtain ⟨m2, hm2, rfl⟩ := List.mem_map.mp he2
        exact ⟨m2.2, m2.1, rfl, ms m2 hm2⟩
    · rw [pr]
      dsimp only
      refine wpAny_pure (gone fun hm => ?_)
      obtain ⟨m0, h0, k0⟩ := List.mem_map.mp hm
      obtain ⟨i0, e0⟩ := List.mem_iff_getElem?.mp h0
      obtain ⟨q0, a1, a2, a3⟩ := ahead i0 m0 e0 k0
      exact no q0 i0 a1 a2 a3 ((hashes i0 m0 e0).trans (by rw [k0]))
/-- the search as set.add asks it -/
theorem k_search (R : KTab P w a L s.heap es ep t) (ms : Mems P w s.heap L) {x : Addr} {k : List L2.Key} (hx : KeyAt P w s.heap k x) (hu : A.units < cLine) {Q : SetFound → Shared → Prop} (there : k ∈ L.map (·.2) → Q (.there none) s)
    (gone : ∀ K, k ∉ L.map (·.2) → (step t (kHash P w k) K).j ∉ t.place.toList → (∀ q, q < K → (step t (kHash P w k) q).j ∈ t.place.toList) → Q (.free (step t (kHash P w k) K).j false) s) :
    wpAny (model P w) A (setSearch a (.ref x) (kHash P w k) true) Q E s := by
  have room := R.room
  obtain ⟨K, hK, free, full⟩ := R.tab.first (by rw [List.length_map]; omega) (kHash P w k)
  have few : 10 * SetTable.turns t.mask ≤ 1420 := by
    unfold SetTable.turns
    rcases R.tab.mok with e | e | e <;> omega
  unfold setSearch
  refine k_seek R ms hx hu hK free full there (fun no => gone K no free full) K 0 _ none (Nat.zero_add K) (by omega) rfl fun i m e ek => ?_
  have il : i < t.place.toList.length := by
    rw [Array.length_toList, place_size R.tab]
    exact (List.getElem?_eq_some_iff.mp e).1
  have hj := List.getElem?_eq_getElem il
  obtain ⟨q, hq, eq⟩ := R.tab.before free (i := i) (by rw [List.getElem?_map, e, ← ek]; rfl) hj
  exact ⟨q, Nat.zero_le _, hq, hj.trans (by rw [← eq])⟩
/-- rows taken in another order -/
theorem take_order {α β γ : Type} (f : α → β) (g : β → γ) (d : γ) {L : List α} {es : Array β} (he : es.toList = L.map f) : ∀ l : List Nat, (∀ i ∈ l, i < L.length) →
    ∃ M : List α, M = l.filterMap (fun i => L[i]?) ∧ l.filterMap (fun i => es[i]?) = M.map f ∧ (M.map fun m => g (f m)) = l.map fun i => (es.map g).getD i d
  | [], _ => ⟨[], rfl, rfl, rfl⟩
  | i :: l, h => by
    obtain ⟨M, e1, e2, e3⟩ := take_order f g d he l fun j hj => h j (List.mem_cons_of_mem _ hj)
    have hi := h i List.mem_cons_self
    have hL : L[i]? = some L[i] := List.getElem?_eq_getElem hi
    have hE : es[i]? = some (f L[i]) := by
      rw [← Array.getElem?_toList, he, List.getElem?_map, hL]
      rfl
    refine ⟨L[i] :: M, by rw [List.filterMap_cons_some hL, ← e1], by rw [List.filterMap_cons_some hE, e2, List.map_cons], ?_⟩
    have hg : (es.map g).getD i d = g (f L[i]) := by
      rw [Array.getD_eq_getD_getElem?, Array.getElem?_map, hE]
      rfl
    rw [List.map_cons, List.map_cons, e3, hg]
theorem range_all {α : Type} (L : List α) : (List.range L.length).filterMap (fun i => L[i]?) = L := by
  have go : ∀ n, n ≤ L.length → (List.range n).filterMap (fun i => L[i]?) = L.take n := fun n => by
    induction n with
    | zero => exact fun _ => rfl
    | succ n ih =>
      intro hn
      have e : L[n]? = some L[n] := List.getElem?_eq_getElem hn
      rw [List.range_succ, List.filterMap_append, ih (Nat.le_of_succ_le hn), List.take_add_one, e, List.filterMap_cons_some e]
      rfl
  rw [go _ (Nat.le_refl _), List.take_length]
/-- the table laid anew -/
theorem k_relay {o : Obj} (ho : s.heap.get? a = some o) (hex : o.ExactSet) (hd : o.data = .set es ep t) (row : es.toList = L.map fun m => (kHash P w m.2, Value.ref m.1)) (T : TabOk t (L.map fun m => kHash P w m.2)) (fill : L.length ≤ t.mask)
    (nod : (L.map (·.2)).Nodup) (led : w.params.followText "set-order" = true ∨ t.led = true) (few : L.length < 64) {wanted M : Nat} (hw : SetTable.sizeAbove wanted - 1 = M) (hM : MaskOk M) (small : SetTable.sizeAbove wanted ≤ 128) (room : L.length * 5 < M * 3) {Q : Unit → Shared → Prop}
    (q : ∀ h' L' es' ep' t', Heap.SameBut a s.heap h' → KTab P w a L' h' es' ep' t' → L'.Perm L → Q () { s with heap := h' }) : wpAny (model P w) A (setRelay a wanted) Q E s := by
  have size := rows_size row
  obtain ⟨t', order, e, perm, T', em, el, _, _⟩ := relaid_ok t (hs := es.map (·.1)) hw hM (by rw [Array.size_map, size]; omega)
  rw [Array.size_map, size] at perm
  obtain ⟨L', l1, l2, l3⟩ := take_order (fun m : Addr × List L2.Key => (kHash P w m.2, Value.ref m.1)) (·.1) 0 row order.toList fun i hi => List.mem_range.mp (perm.mem_iff.mp hi)
  have pL : L'.Perm L := by
    rw [l1]
    have z := perm.filterMap (fun i => L[i]?)
    rw [range_all] at z
    exact z
  have row' : (order.filterMap (es[·]?)).toList = L'.map fun m => (kHash P w m.2, Value.ref m.1) := by
    rw [← l2]
    simp
  have size' := rows_size row'
  rw [pL.length_eq] at size'
  rw [← l3] at T'
  rw [setRelay_eq]
  refine wpAny_bind (wpAny_setState_of ho hd (fits_of T.dm (by rw [place_size T, size]) (by omega)) ?_)
  dsimp only
  refine wp_if_neg (by rw [sizeLine_eq]; omega) ?_
  rw [e]
  dsimp only
  refine wpAny_bind (wp_if_neg (by rw [size', size]; simp) (wpAny_pure ?_))
  dsimp only
  refine wpAny_storeSet_of ho hd ?_ (by rw [size', sizeLine_eq]; omega)
  exact q _ L' _ (ep + 1) t' (Heap.SameBut.update ..) ⟨⟨_, store_at ho hd, ⟨hex.1, hex.2.1, hex.2.2⟩, rfl⟩, row', T', ((pL.map (·.2)).nodup_iff).mpr nod, by rw [el]; exact led, by rw [pL.length_eq, em]; exact room, by rw [pL.length_eq]; exact few⟩ pL
/-- whether a hash is by value is all that a table keeps of it -/
theorem TabOk.plain {hs : List Int} (T : TabOk t hs) (c : Bool) : TabOk (if c = true then t else { t with plain := false }) hs ∧ (if c = true then t else { t with plain := false }).mask = t.mask ∧
    (if c = true then t else { t with plain := false }).led = t.led ∧ (if c = true then t else { t with plain := false }).fill = t.fill := by
  cases c
  · exact ⟨⟨T.ris, T.dm, T.sz, T.mok, T.bd, T.reach⟩, rfl, rfl, rfl⟩
  · exact ⟨T, rfl, rfl, rfl⟩
/-- ADDING -/
theorem k_add (R : KTab P w a L s.heap es ep t) (ms : Mems P w s.heap L) {x : Addr} {k : List L2.Key} (hx : KeyAt P w s.heap k x) (hu : A.units < cLine) (few : L.length + 1 < 64) {Q : Bool → Shared → Prop}
    (q : ∀ b h' L' es' ep' t', Heap.SameBut a s.heap h' → KTab P w a L' h' es' ep' t' → (k ∈ L.map (·.2) → L' = L) → (k ∉ L.map (·.2) → L'.Perm ((x, k) :: L)) → Q b { s with heap := h' }) :
    wpAny (model P w) A (setAddHashed a (.ref x) (kHash P w k)) Q E s := by
  obtain ⟨o, ho, hex, hd⟩ := R.obj
  have size := rows_size R.row
  have room := R.room
  unfold setAddHashed
  refine wpAny_holding ?_
  rw [show (100000 : Nat) = 99999 + 1 from rfl, setAddHashedIn_succ]
  refine wpAny_bind (wpAny_setState_of ho hd R.fits ?_)
  dsimp only
  refine wp_if_neg (by unfold byScan; rw [show (Value.ref x).scannable = false from rfl, Bool.false_and, Bool.false_and]; exact Bool.false_ne_true) ?_
  refine wpAny_bind (k_search R ms hx hu (fun hm => ?_) fun K hm free full => ?_)
  · exact wpAny_pure (q false s.heap L es ep t (Heap.SameBut.refl a s.heap) R (fun _ => rfl) fun z => absurd hm z)
  dsimp only
  refine wpAny_bind (wpAny_setState_of ho hd R.fits ?_)
  dsimp only
  obtain ⟨p1, p2, p3, p4, p5, _, _, _, p9⟩ := R.tab.put free full
  generalize hpt : t.put (step t (kHash P w k) K).j = pt at p1 p3 p4 p5 p9 ⊢
  obtain ⟨t1, p⟩ := pt
  dsimp only at p1 p3 p4 p5 p9 ⊢
  rw [← p1] at p2 p3
  have rest : ∀ c : Bool, wpAny (model P w) A (do
      let t := if c = true then t1 else { t1 with plain := false }
      storeSet a (SetTable.insertAt es p (kHash P w k, .ref x)) t
      if (!false && t.tooFull) = true then setRelay a (SetTable.grown (es.size + 1))
      return true) Q E s := fun c => by
    obtain ⟨c1, c2, c3, c4⟩ := TabOk.plain p3 c
    generalize (if c = true then t1 else { t1 with plain := false }) = t2 at c1 c2 c3 c4 ⊢
    dsimp only
    -- the rows with the new one
    have pm : (L.take p ++ (x, k) :: L.drop p).Perm ((x, k) :: L) := by
      have z : (L.take p ++ (x, k) :: L.drop p).Perm ((x, k) :: (L.take p ++ L.drop p)) := List.perm_middle
      rw [List.take_append_drop] at z
      exact z
    have row1 : (SetTable.insertAt es p (kHash P w k, Value.ref x)).toList = (L.take p ++ (x, k) :: L.drop p).map fun m => (kHash P w m.2, Value.ref m.1) := by
      rw [SetTable.toList_insertAt, R.row, List.map_append, List.map_cons, List.map_take, List.map_drop]
    have tab1 : TabOk t2 ((L.take p ++ (x, k) :: L.drop p).map fun m => kHash P w m.2) := by
      rw [List.map_append, List.map_cons, List.map_take, List.map_drop]
      exact c1
    have nod1 : ((L.take p ++ (x, k) :: L.drop p).map (·.2)).Nodup := ((pm.map (·.2)).nodup_iff).mpr (List.nodup_cons.mpr ⟨hm, R.nod⟩)
    have size1 := rows_size row1
    have len1 : (L.take p ++ (x, k) :: L.drop p).length = L.length + 1 := pm.length_eq
    rw [len1] at size1
    generalize SetTable.insertAt es p (kHash P w k, Value.ref x) = es1 at row1 size1 ⊢
    generalize L.take p ++ (x, k) :: L.drop p = L1 at pm row1 tab1 nod1 len1
    refine wpAny_bind (wpAny_storeSet_of ho hd ?_ (by rw [size1, sizeLine_eq]; omega))
    have sb : Heap.SameBut a s.heap (s.heap.update a (Obj.putSet es1 t2)) := Heap.SameBut.update ..
    have ho1 := store_at (es' := es1) (t' := t2) ho hd
    generalize s.heap.update a (Obj.putSet es1 t2) = h1 at sb ho1 ⊢
    have led1 : w.params.followText "set-order" = true ∨ t2.led = true := by rw [c3, p5]; exact R.led
    have mask1 : t2.mask = t.mask := c2.trans p4
    have fill1 : t2.fill = L.length + 1 := by rw [c4, p9, List.length_map]
    by_cases full2 : t2.tooFull = true
    · have big : (L.length + 1) * 5 ≥ t2.mask * 3 := by
        have z := full2
        unfold SetTable.tooFull at z
        rw [decide_eq_true_eq, fill1] at z
        exact z
      rw [size]
      have go : ∀ M, SetTable.sizeAbove (SetTable.grown (L.length + 1)) - 1 = M → MaskOk M → SetTable.sizeAbove (SetTable.grown (L.length + 1)) ≤ 128 → (L.length + 1) * 5 < M * 3 → L.length + 1 ≤ t2.mask →
          wpAny (model P w) A (do setRelay a (SetTable.grown (L.length + 1)); pure true) Q E { s with heap := h1 } := fun M e1 e2 e3 e4 e5 =>
        wpAny_bind (k_relay (s := { s with heap := h1 }) ho1 ⟨hex.1, hex.2.1, hex.2.2⟩ rfl row1 tab1 (by rw [len1]; exact e5) nod1 led1 (by rw [len1]; exact few) e1 e2 e3 (by rw [len1]; exact e4) fun h' L' es' ep' t' sb' R' pm' =>
          wpAny_pure (q true h' L' es' ep' t' (sb.trans sb') R' (fun z => absurd z hm) fun _ => pm'.trans pm))
      refine wp_if_pos (by rw [full2]; rfl) ?_
      rcases R.tab.mok with e | e | e
      · have l4 : L.length = 4 := by rw [mask1, e] at big; rw [e] at room; omega
        exact go 31 (by rw [l4, size_20]) (.inr (.inl rfl)) (by rw [l4, size_20]; decide) (by omega) (by rw [mask1, e]; omega)
      · have l18 : L.length = 18 := by rw [mask1, e] at big; rw [e] at room; omega
        exact go 127 (by rw [l18, size_76]) (.inr (.inr rfl)) (by rw [l18, size_76]; decide) (by omega) (by rw [mask1, e]; omega)
      · exfalso
        rw [mask1, e] at big
        omega
    · refine wp_if_neg (by rw [Bool.not_eq_true] at full2; rw [full2]; decide) ?_
      refine wpAny_pure (q true h1 L1 es1 (ep + 1) t2 sb ⟨⟨_, ho1, ⟨hex.1, hex.2.1, hex.2.2⟩, rfl⟩, row1, tab1, nod1, led1, ?_, by rw [len1]; exact few⟩ (fun z => absurd z hm) fun _ => pm)
      have z := full2
      unfold SetTable.tooFull at z
      rw [decide_eq_true_eq, fill1] at z
      rw [len1]
      omega
  by_cases pl : t1.plain = true
  · first
      | exact wpAny_bind (wp_if_pos pl (key_hash hx rest))
      | exact wp_if_pos pl (wpAny_bind (key_hash hx rest))
  · first
      | exact wpAny_bind (wp_if_neg pl (wpAny_pure (rest true)))
      | exact wp_if_neg pl (rest true)
/-! ### set(xs) -/
/-- what a set has taken of the first i of ks -/
structure Took (ks : List (Addr × List L2.Key)) (i : Nat) (L : List (Addr × List L2.Key)) : Prop where
  sub : ∀ m ∈ L, m ∈ ks
  all : ∀ (j : Nat) m, j < i → ks[j]? = some m → m.2 ∈ L.map (·.2)
  len : L.length ≤ i
theorem Took.next {ks : List (Addr × List L2.Key)} {i : Nat} {L' : List (Addr × List L2.Key)} {m : Addr × List L2.Key} (T : Took ks i L) (hm : ks[i]? = some m) (c1 : m.2 ∈ L.map (·.2) → L' = L) (c2 : m.2 ∉ L.map (·.2) → L'.Perm (m :: L)) : Took ks (i + 1) L' := by
  have split_ : ∀ (j : Nat) u, j < i + 1 → ks[j]? = some u → u = m ∨ u.2 ∈ L.map (·.2) := fun j u hj e => by
    rcases Nat.lt_or_ge j i with z | z
    · exact .inr (T.all j u z e)
    · have ej : j = i := by omega
      rw [ej, hm] at e
      exact .inl (Option.some.inj e).symm
  by_cases h : m.2 ∈ L.map (·.2)
  · rw [c1 h]
    exact ⟨T.sub, fun j u hj e => (split_ j u hj e).elim (fun z => by rw [z]; exact h) id, Nat.le_succ_of_le T.len⟩
  · have pm := c2 h
    refine ⟨fun u hu => ?_, fun j u hj e => (pm.map (·.2)).mem_iff.mpr ?_, by rw [pm.length_eq]; exact Nat.succ_le_succ T.len⟩
    · rcases List.mem_cons.mp (pm.mem_iff.mp hu) with z | z
      · rw [z]
        exact List.mem_of_getElem? hm
      · exact T.sub u z
    · rw [List.map_cons]
      rcases split_ j u hj e with z | z
      · rw [z]
        exact List.mem_cons_self
      · exact List.mem_cons_of_mem _ z
theorem KeyAt.grow {h h' : Heap} {k : List L2.Key} {b : Addr} (x : KeyAt P w h k b) (g : ∀ c o, h.get? c = some o → h'.get? c = some o) : KeyAt P w h' k b := by
  obtain ⟨o, items, n, ho, r⟩ := x
  exact ⟨o, items, n, g b o ho, r⟩
theorem KTab.grow {h h' : Heap} (R : KTab P w a L h es ep t) (g : ∀ o, h.get? a = some o → h'.get? a = some o) : KTab P w a L h' es ep t := by
  obtain ⟨o, ho, r⟩ := R.obj
  exact ⟨⟨o, g o ho, r⟩, R.row, R.tab, R.nod, R.led, R.room, R.few⟩
abbrev emptySet (w : World) : Obj := { cls := .type "set", dict := none, data := .set #[] 0 (.fresh 0 0 (!w.params.followText "set-order")) }
theorem KTab.new {h : Heap} (ho : h.get? a = some (emptySet w)) : KTab P w a [] h #[] 0 (.fresh 0 0 (!w.params.followText "set-order")) where
  obj := ⟨_, ho, ⟨rfl, rfl, rfl⟩, rfl⟩
  row := rfl
  tab := ⟨List.Pairwise.nil, rfl, rfl, .inl rfl, fun x hx => absurd hx List.not_mem_nil, fun i h j hi => nomatch hi⟩
  nod := List.nodup_nil
  led := by
    show _ ∨ (!w.params.followText "set-order") = true
    cases w.params.followText "set-order" <;> simp
  room := show 0 * 5 < 7 * 3 by decide
  few := show 0 < 64 by decide
/-- the loop of set.update, over keys that stood when the set was made -/
theorem k_update {I : Addr} {fp wr : List Addr} {G : Array GenState → Array GenState → Prop} {Pv : Nat → Value → Prop} {St : Nat → Shared → Prop} {R : Result → Shared → Prop} {ks : List (Addr × List L2.Key)}
    (W : WalksS P w A.in1 I fp wr G ks.length Pv St) {S : Addr} (apart : S ∉ fp) (few : ks.length < 64) (val : ∀ i v, Pv i v → ∃ m, ks[i]? = some m ∧ v = .ref m.1)
    {h0 : Heap} (hk : Mems P w h0 ks) (new : h0.get? S = none) (newW : ∀ b ∈ wr, h0.get? b = none) (hu : A.in1.units < cLine) :
    ∀ (n i : Nat) (s : Shared), i + n = ks.length → St i s → (∀ b o, h0.get? b = some o → s.heap.get? b = some o) → (∃ L es ep t, KTab P w S L s.heap es ep t ∧ Took ks i L) →
      (∀ s' L es ep t, Moved (S :: wr) G s s' → KTab P w S L s'.heap es ep t → Took ks ks.length L → (∀ b o, h0.get? b = some o → s'.heap.get? b = some o) → R (.ok (.ret .none)) s') →
      codeAny (model P w) A (.builtin "set.update.loop" ⟨[.ref S, .ref I], []⟩) R s := by
  have apartW : S ∉ wr := fun z => apart (W.sub _ z)
  have wide : ∀ b ∈ wr, b ∈ S :: wr := fun b hb => List.mem_cons_of_mem _ hb
  have stay : ∀ {s s' : Shared}, Moved wr G s s' → (∀ b o, h0.get? b = some o → s.heap.get? b = some o) → ∀ b o, h0.get? b = some o → s'.heap.get? b = some o := fun mv g b o e =>
    mv.heap b o (fun hb => nomatch (newW b hb).symm.trans e) (g b o e)
  intro n
  induction n with
  | zero =>
    intro i s hi st g ⟨L, es, ep, t, T, took⟩ done
    obtain rfl : i = ks.length := hi
    refine codeAny_builtin F.entry_set_update_loop ?_
    rw [Around.under_plainId F.plain_set_update_loop _]
    refine wpAny_bind (W.done s _ _ st fun s' mv => ?_)
    exact wpAny_pure (done s' L es ep t (mv.mono wide) (T.grow fun o e => mv.heap S o apartW e) took (stay mv g))
  | succ n ih =>
    intro i s hi st g ⟨L, es, ep, t, T, took⟩ done
    refine codeAny_builtin F.entry_set_update_loop ?_
    rw [Around.under_plainId F.plain_set_update_loop _]
    refine wpAny_bind (W.item i s _ _ (by omega) st fun v s' pv st' mv => ?_)
    obtain ⟨m, hm, rfl⟩ := val i v pv
    have g' := stay mv g
    have T' := T.grow fun o e => mv.heap S o apartW e
    have hx := (hk m (List.mem_of_getElem? hm)).grow g'
    dsimp only
    refine wpAny_bind (wpAny_holding ?_)
    unfold setAdd
    refine wpAny_holding (wpAny_bind (wpAny_pyHash_tuple hu hx ?_))
    refine k_add (s := { s' with toks := s'.toks + (m.2.length + 1) }) T' (fun u hu' => (hk u (took.sub u hu')).grow g') hx hu (by have := took.len; omega) fun b h' L' es' ep' t' sb T2 c1 c2 => ?_
    have g2 : ∀ b o, h0.get? b = some o → h'.get? b = some o := fun b o e => (sb.2 b fun z => nomatch (z ▸ new).symm.trans e).trans (g' b o e)
    have frame : ∀ b, b ≠ S → ∀ o, s'.heap.get? b = some o → h'.get? b = some o := fun b nb o e => (sb.2 b nb).trans e
    refine wpAny_pure ⟨plainId_quiet F.plain_set_update_loop _, ih (i + 1) _ (by omega) (W.frame _ s' _ _ st' (Nat.le_add_right _ _) fun b hb o e => frame b (fun z => apart (z ▸ hb)) o e) g2 ⟨L', es', ep', t', T2, took.next hm c1 c2⟩ fun s2 L2 es2 ep2 t2 mv2 T3 took3 g3 => ?_⟩
    exact done s2 L2 es2 ep2 t2 (Moved.trans W.gtrans ((mv.mono wide).then_heap (Nat.le_add_right _ _) fun b o hb e => frame b (fun z => hb (z ▸ List.mem_cons_self)) o e) mv2) T3 took3 g3
theorem none_behind {h : Heap} {b : Addr} (l : h.objs.size ≤ b) : h.get? b = none := by
  cases e : h.get? b with
  | none => rfl
  | some o => exact absurd (Heap.lt_size e) (Nat.not_lt.mpr l)
set_option maxRecDepth 100000 in
set_option maxHeartbeats 3200000 in
/-- set(xs), xs a list of keys: what it makes -/
theorem k_make {l : Addr} {items : Array Value} {ks : List (Addr × List L2.Key)} {Q : Value → Shared → Prop} (hh : A.handled = none) (hl : s.heap.IsList l items) (hit : items.toList = ks.map fun m => Value.ref m.1) (hk : Mems P w s.heap ks) (few : ks.length < 64) (hu : A.units + 3 < cLine)
    (q : ∀ (h' : Heap) (tk : Nat) L es ep t, KTab P w s.heap.objs.size L h' es ep t → Took ks ks.length L → (∀ b o, s.heap.get? b = some o → h'.get? b = some o) → Q (.ref s.heap.objs.size) { s with heap := h', toks := tk }) :
    wpAny (model P w) A (call (.type "set") [.ref l]) Q E s := by
  have size : items.size = ks.length := by rw [← Array.length_toList, hit, List.length_map]
  obtain ⟨c, tl, hmro⟩ := F.called_set.mro
  have made := F.called_set.made
  have sub := F.called_set.sub
  have noType := F.called_set.notType
  have canMake := F.called_set.canCreate
  have callOk := F.typeCall_set_1 (.ref l)
  refine wpAny_call (codeAny_of_tree ?_)
  show wpAny _ _ (callAny (.type "set") _) _ _ _
  refine wpAny_pure ⟨Code.quiet_builtin _ (by decide +kernel), codeAny_builtin F.entry_type_call ?_⟩
  rw [Around.under_plain (weight_type_call_type "set" [.ref l] []) rfl]
  repeat any_goals first | assumption | wp_step
  refine codeAny_mono (code_set_led1 (.ref l) (E := E) (Q₁ := fun v s1 => v = .ref s.heap.objs.size ∧ s1 = { s with heap := s.heap.push (emptySet w) }) ⟨rfl, rfl⟩) fun r s1 hr => ?_
  rcases r with e | fl
  · exact hr
  · cases fl with
    | ret v =>
      obtain ⟨rfl, rfl⟩ := hr
      have at0 : (s.heap.push (emptySet w)).get? s.heap.objs.size = some (emptySet w) := Heap.get?_push_size _ rfl
      have ty : Shared.TypeIs { s with heap := s.heap.push (emptySet w) } (.ref s.heap.objs.size) "set" := ⟨_, at0, rfl⟩
      have initL := F.called_set.init.lookup
      have initB := F.called_set.init.bind (.ref s.heap.objs.size)
      repeat any_goals first | assumption | wp_step
      refine codeAny_mono (codeAny_call_builtin (R := wants (fun r s2 => r = .none ∧ ∃ h' tk L es ep t, s2 = { s with heap := h', toks := tk } ∧ KTab P w s.heap.objs.size L h' es ep t ∧ Took ks ks.length L ∧ (∀ b o, s.heap.get? b = some o → h'.get? b = some o)) E)
        F.called_set.init.plain F.entry_set_init (check_set_init_1 ty ?_)) fun r2 s2 hr2 => ?_
      · obtain ⟨ol, hol, hcl, nl, hdl⟩ := hl
        obtain ⟨ocls, odict, odata, oslots⟩ := ol
        dsimp only at hcl hdl
        subst hcl hdl
        have hol1 : (s.heap.push (emptySet w)).get? l = some { cls := .type "list", dict := odict, data := .seq items nl, slots := oslots } := Heap.get?_push_of_some _ hol
        have lst1 : (s.heap.push (emptySet w)).IsList l items := ⟨_, hol1, rfl, nl, rfl⟩
        have subL := F.sub_list_set
        have subF := F.sub_list_frozenset
        have noDict : (Value.type "list" == Value.type "dict") = false := by decide
        unfold Builtin.«set.__init__» noKeywords Builtin.Frozenset.updateFrom
        generalize hPI : pyIter = PI
        wp_walk
        subst hPI
        refine wpAny_pyIter_list lst1 (wpAny_bind (wpAny_runValue ?_))
        have lS : l < s.heap.objs.size := Heap.lt_size hol
        have size1 : (s.heap.push (emptySet w)).objs.size = s.heap.objs.size + 1 := Heap.size_push ..
        have nI : l ≠ (s.heap.push (emptySet w)).objs.size := by rw [size1]; exact Nat.ne_of_lt (Nat.lt_succ_of_lt lS)
        have apart : s.heap.objs.size ∉ [(s.heap.push (emptySet w)).objs.size, l] := by
          rw [size1]
          simp only [List.mem_cons, List.not_mem_nil, or_false, not_or]
          exact ⟨Nat.ne_of_lt (Nat.lt_succ_self _), Nat.ne_of_gt lS⟩
        have val : ∀ (i : Nat) (v : Value), items[i]? = some v → ∃ m, ks[i]? = some m ∧ v = .ref m.1 := fun i v hv => by
          rw [← Array.getElem?_toList, hit, List.getElem?_map] at hv
          obtain ⟨m, hm, e⟩ := Option.map_eq_some_iff.mp hv
          exact ⟨m, hm, e.symm⟩
        have W := (Walks.list (prog := P) (w := w) (A := A.in1.in1.in1) (by simp [hh]) _ l nI items).toS
        rw [size] at W
        refine k_update W apart few val hk (none_behind (Nat.le_refl _)) (fun b hb => none_behind (by rw [List.mem_singleton.mp hb, size1]; exact Nat.le_succ _)) hu ks.length 0 _ (Nat.zero_add _)
          ⟨⟨_, Heap.get?_push_size _ rfl, rfl, rfl⟩, lst1.push _⟩ (fun b o e => Heap.get?_push_of_some _ (Heap.get?_push_of_some _ e))
          ⟨[], #[], 0, _, KTab.new (Heap.get?_push_of_some _ at0), ⟨fun m hm => absurd hm List.not_mem_nil, fun j m hj => absurd hj (Nat.not_lt_zero _), Nat.le_refl _⟩⟩ fun s' L es ep t mv T took g => ?_
        obtain ⟨h', g', d', tk', os'⟩ := s'
        obtain rfl : g' = s.gens := mv.gens
        obtain rfl : d' = s.drawn := mv.drawn
        obtain rfl : os' = s.os := mv.os
        exact wpAny_pure (wpAny_pure ⟨rfl, h', tk', L, es, ep, t, rfl, T, took, g⟩)
      · rcases r2 with e | fl2
        · exact hr2
        · cases fl2 with
          | ret v =>
            obtain ⟨rfl, h', tk, L, es, ep, t, rfl, T, took, g⟩ := hr2
            repeat any_goals first | assumption | wp_step
            exact q _ _ _ _ _ _ T took g
          | _ => exact hr2.elim
    | _ => exact hr.elim
end
end Wm
namespace Wm
open PySem PySem.Spec PyProof.Rows L2
/-! ### the triples' order is one -/
theorem le3_trans (a b c : Str × Str × Str) (h1 : PySem.W.dataLe false triD3 a b = true) (h2 : PySem.W.dataLe false triD3 b c = true) : PySem.W.dataLe false triD3 a c = true := by
  rw [PySem.W.dataLe_eq] at *
  simp only [cond_false, Bool.not_eq_true', PySem.W.dataLt] at *
  cases e : PyProof.Rows.lexLt itemOrd (PySem.W.keyToks (triD3 c)) (PySem.W.keyToks (triD3 a)) with
  | false => rfl
  | true =>
    rcases lex_negTrans (O := itemOrd) _ (PySem.W.keyToks (triD3 b)) _ e with z | z
    · rw [h2] at z
      cases z
    · rw [h1] at z
      cases z
theorem le3_total (a b : Str × Str × Str) : (PySem.W.dataLe false triD3 a b || PySem.W.dataLe false triD3 b a) = true := by
  rw [PySem.W.dataLe_eq]
  simp only [cond_false, PySem.W.dataLt]
  cases e : PyProof.Rows.lexLt itemOrd (PySem.W.keyToks (triD3 b)) (PySem.W.keyToks (triD3 a)) with
  | false => rfl
  | true =>
    cases e2 : PyProof.Rows.lexLt itemOrd (PySem.W.keyToks (triD3 a)) (PySem.W.keyToks (triD3 b)) with
    | false => rfl
    | true =>
      have z := lex_trans (O := itemOrd) _ _ _ e e2
      rw [lex_irrefl] at z
      cases z
theorem le3_anti (a b : Str × Str × Str) (h1 : PySem.W.dataLe false triD3 a b = true) (h2 : PySem.W.dataLe false triD3 b a = true) : a = b := by
  rw [PySem.W.dataLe_eq] at *
  simp only [cond_false, Bool.not_eq_true', PySem.W.dataLt] at *
  have e := lex_total (O := itemOrd) _ _ h2 h1
  obtain ⟨x, y, z⟩ := a
  obtain ⟨x', y', z'⟩ := b
  simp only [triD3, PySem.W.keyToks, PySem.W.keyToksAll, List.singleton_append, List.cons_append, List.nil_append, List.cons.injEq, Sum.inr.injEq, and_true, true_and] at e
  obtain ⟨e1, e2, e3⟩ := e
  rw [PySem.W.str_of_cps e1, PySem.W.str_of_cps e2, PySem.W.str_of_cps e3]
theorem sortT_sorted (ts : List (Str × Str × Str)) : (sortT ts).Pairwise fun a b => PySem.W.dataLe false triD3 a b = true := List.pairwise_mergeSort le3_trans le3_total ts
theorem sortT_perm {ts us : List (Str × Str × Str)} (p : ts.Perm us) : sortT ts = sortT us := by
  have q : (sortT ts).Perm (sortT us) := (List.mergeSort_perm _ _).trans (p.trans (List.mergeSort_perm _ _).symm)
  have go : ∀ {xs ys : List (Str × Str × Str)}, xs.Perm ys → xs.Pairwise (fun a b => PySem.W.dataLe false triD3 a b = true) → ys.Pairwise (fun a b => PySem.W.dataLe false triD3 a b = true) → xs = ys := by
    intro xs
    induction xs with
    | nil => exact fun p _ _ => (List.nil_perm.mp p).symm ▸ rfl
    | cons x xs ih =>
      intro ys p h1 h2
      cases ys with
      | nil => exact absurd p.length_eq (by simp)
      | cons y ys =>
        have exy : x = y := by
          by_cases e : x = y
          · exact e
          · have m1 : y ∈ xs := (List.mem_cons.mp (p.symm.mem_iff.mp List.mem_cons_self)).resolve_left fun z => e z.symm
            have m2 : x ∈ ys := (List.mem_cons.mp (p.mem_iff.mp List.mem_cons_self)).resolve_left e
            exact le3_anti x y ((List.pairwise_cons.mp h1).1 y m1) ((List.pairwise_cons.mp h2).1 x m2)
        subst exy
        rw [ih ((List.perm_cons x).mp p) (List.pairwise_cons.mp h1).2 (List.pairwise_cons.mp h2).2]
  exact go q (sortT_sorted ts) (sortT_sorted us)
/-! ### the rules -/
def KSetO (P : Program) (w : World) (a : Addr) (L : List (Addr × List L2.Key)) : HO := .ext fun h => ∃ es ep t, KTab P w a L h es ep t
theorem kset_ok {P : Program} {w : World} {H : Hp} {h : Heap} {a : Addr} {L : List (Addr × List L2.Key)} {es : Array (Int × Value)} {ep : Nat} {t : SetTable} (R : KTab P w a L h es ep t) : ObjOk P w H h a (KSetO P w a L) := by
  have ⟨o, ho, _⟩ := R.obj
  exact ⟨⟨es, ep, t, R⟩, ⟨o, ho⟩, fun h1 h2 ⟨e1, p1, t1, R1⟩ g => ⟨e1, p1, t1, R1.grow g⟩⟩
theorem keys_vals {P : Program} {w : World} : ∀ {k : List L2.Key} {us : List Value}, Vals (k.map kV) us → ItemsAre (mixKind P w) k us
  | [], _, .nil => .nil
  | _ :: _, _, .cons r t => .cons (kV_is r) (keys_vals t)
theorem refs_vals {α : Type} {f : α → Addr} : ∀ {ks : List α} {us : List Value}, Vals (ks.map fun m => V.ref (f m)) us → us = ks.map fun m => Value.ref (f m)
  | [], _, .nil => rfl
  | _ :: _, _, .cons rfl t => by rw [refs_vals t, List.map_cons]
section
variable {X : Cx}
theorem inv_key {pins : List (Addr × Obj)} {σ : L2.St} {H : Hp} {s : Shared} {b : Addr} {k : List L2.Key} (I : Inv X pins σ H s) (h : SqT X.K H b (k.map kV)) : KeyAt X.prog X.w s.heap k b := by
  obtain ⟨its, r, ⟨o, ho, hc, n, hd⟩, _⟩ := I.tuple h
  exact ⟨o, its.toArray, n, ho, hc, hd, by simpa using keys_vals r⟩
/-- members that stand as tuples -/
abbrev MemT (K : PySem.W.Frag) (H : Hp) (L : List (Addr × List L2.Key)) : Prop := ∀ m ∈ L, SqT K H m.1 (m.2.map kV)
/-- set(xs) -/
def rSetK (K : PySem.W.Frag) (P : Program) (w : World) : List V → Hp → VK → Prop := fun xs H Q => ∃ (l : Addr) (ks : List (Addr × List L2.Key)), xs = [V.ref l] ∧ SqL K H l (ks.map fun m => V.ref m.1) ∧ MemT K H ks ∧ ks.length < 64 ∧
  ∀ a L, H a = none → (∀ m ∈ L, m ∈ ks) → (∀ m ∈ ks, m.2 ∈ L.map (·.2)) → (L.map (·.2)).Nodup → Q (.ref a) (upd H a (KSetO P w a L))
theorem cr_setK (hc : X.calm = true) (hu : X.A.units + 64 < cLine) : CallR X (.type "set") (rSetK X.K X.prog X.w) := by
  intro pins s σ H xs us Q I r h
  obtain ⟨l, ks, rfl, hl, hk, few, q⟩ := h
  rw [Vals.ref1 r]
  obtain ⟨its, rv, pl, _⟩ := I.list hl
  refine k_make (P := X.prog) (w := X.w) (ks := ks) (I.ok.hd hc) pl.isList (by simpa using refs_vals rv) (fun m hm => inv_key I (hk m hm)) few (by omega) fun h' tk L es ep t R T g => ?_
  refine ⟨.ref s.heap.objs.size, upd H s.heap.objs.size (KSetO X.prog X.w s.heap.objs.size L), I.laid (t' := tk) g (Nat.le_refl _) (kset_ok R), rfl, q _ L (I.hok.fresh (Nat.le_refl _)) T.sub (fun m hm => ?_) R.nod⟩
  obtain ⟨j, hj⟩ := List.mem_iff_getElem?.mp hm
  exact T.all j m (List.getElem?_eq_some_iff.mp hj).1 hj
/-- set.add of a key -/
theorem addK_ok {pins : List (Addr × Obj)} {σ : L2.St} {H : Hp} {s : Shared} {E : Value → Shared → Prop} {D b : Addr} {L : List (Addr × List L2.Key)} {k : List L2.Key} {Q : Value → Shared → Prop} (I : Inv X pins σ H s) (hu : X.A.units + 2 < cLine) (hD : H D = some (KSetO X.prog X.w D L)) (hL : MemT X.K H L) (hb : SqT X.K H b (k.map kV)) (few : L.length + 1 < 64)
    (q : ∀ s' L', (k ∈ L.map (·.2) → L' = L) → (k ∉ L.map (·.2) → L'.Perm ((b, k) :: L)) → Inv X pins σ (upd H D (KSetO X.prog X.w D L')) s' → Q .none s') : wpAny (model X.prog X.w) X.A (call (.builtin "set.add") [.ref D, .ref b]) Q E s := by
  have ⟨es, ep, t, R⟩ := (I.hok D _ hD).1
  have hx := inv_key I hb
  have ms : Mems X.prog X.w s.heap L := fun m hm => inv_key I (hL m hm)
  have ty : s.TypeIs (.ref D) "set" := by
    have ⟨o, ho, hex, _⟩ := R.obj
    exact ⟨o, ho, hex.1⟩
  refine wpAny_call_entry F.slot_set_add ty F.entry_set_add ?_ (F.args_set_add_2 _ _)
  unfold Builtin.«set.add» Builtin.Frozenset.oneOther
  simp only [List.isEmpty_nil, bind_assoc]
  unfold Builtin.Frozenset.addrOf setAdd
  have hu1 : X.A.in1.units < cLine := by show X.A.units + 1 < cLine; omega
  refine wpAny_bind (wpAny_pure (wpAny_bind (wpAny_pure (wpAny_bind (wpAny_holding ?_)))))
  refine wpAny_bind (wpAny_pyHash_tuple hu1 hx ?_)
  refine k_add (s := { s with toks := s.toks + (k.length + 1) }) R ms hx hu1 few fun c h' L' es' ep' t' sb R' c1 c2 => ?_
  refine wpAny_pure ⟨_, rfl, q _ L' c1 c2 (I.write (e := D) (t' := s.toks + (k.length + 1)) (by rw [hD]; trivial) (.inl rfl) (fun b u nb e => (sb.2 b nb).trans e) ?_ (kset_ok R'))⟩
  obtain ⟨o, ho, _⟩ := R'.obj
  exact ⟨o, ho⟩
/-- triples taken in another order stand so -/
theorem tris_order {K : PySem.W.Frag} {H : Hp} {L : List (Addr × List L2.Key)} {ts : List (Str × Str × Str)} (hL : MemT K H L) (hk : ∀ m ∈ L, ∃ t ∈ ts, m.2 = triK t) : ∀ vs : List Value, (∀ v ∈ vs, ∃ m ∈ L, v = Value.ref m.1) →
    ∃ us : List (Str × Str × Str), PySem.W.EachIs (isTri K H) vs us ∧ ∃ M : List (Addr × List L2.Key), vs = M.map (fun m => Value.ref m.1) ∧ (∀ m ∈ M, m ∈ L) ∧ M.map (·.2) = us.map triK
  | [], _ => ⟨[], .nil, [], rfl, fun m hm => absurd hm List.not_mem_nil, rfl⟩
  | v :: vs, h => by
    obtain ⟨m, hm, rfl⟩ := h v List.mem_cons_self
    obtain ⟨t, _, et⟩ := hk m hm
    obtain ⟨us, he, M, e1, e2, e3⟩ := tris_order hL hk vs fun u hu => h u (List.mem_cons_of_mem _ hu)
    have q := hL m hm
    rw [et] at q
    refine ⟨t :: us, .cons ⟨m.1, rfl, q⟩ he, m :: M, by rw [List.map_cons, ← e1], fun u hu => ?_, by rw [List.map_cons, List.map_cons, e3, et]⟩
    rcases List.mem_cons.mp hu with z | z
    · rw [z]
      exact hm
    · exact e2 u z
theorem triK_one {t u : Str × Str × Str} (h : triK t = triK u) : t = u := by
  obtain ⟨a, b, c⟩ := t
  obtain ⟨d, e, f⟩ := u
  simp only [triK, List.cons.injEq, Sum.inr.injEq, and_true] at h
  obtain ⟨rfl, rfl, rfl⟩ := h
  rfl
def unK : List L2.Key → Option (Str × Str × Str)
  | [.inr a, .inr b, .inr c] => some (a, b, c)
  | _ => none
theorem unK_map (l : List (Str × Str × Str)) : (l.map triK).filterMap unK = l := by
  induction l with
  | nil => rfl
  | cons t l ih => rw [List.map_cons, List.filterMap_cons_some (show unK (triK t) = some t from rfl), ih]
/-- sorted(a set of triples) -/
def rSortKS (K : PySem.W.Frag) (P : Program) (w : World) : List V → Hp → VK → Prop := fun vs H Q => ∃ (a : Addr) (L : List (Addr × List L2.Key)) (ts : List (Str × Str × Str)), vs = [.ref a] ∧ H a = some (KSetO P w a L) ∧ MemT K H L ∧ L.map (·.2) = ts.map triK ∧
  ∀ (qs : List Addr) (p : Addr), TrisAt K H qs (sortT ts) → H p = none → Q (.ref p) (upd H p (.lst (qs.map V.ref)))
theorem cr_sortKS (hc : X.calm = true) (hu : X.A.units + 64 < cLine) : CallR X (.builtin "sorted") (rSortKS X.K X.prog X.w) := by
  intro pins s σ H xs us Q I r h
  obtain ⟨a, L, ts, rfl, ha, hL, hk, q⟩ := h
  rw [Vals.ref1 r]
  have ⟨es, ep, t, R⟩ := (I.hok a _ ha).1
  have ⟨o, ho, hex, hd⟩ := R.obj
  have size := rows_size R.row
  have few := R.few
  refine Calls.call_function_entry kind_sorted plain_sorted entry_sorted (args_sorted1 _) ?_
  unfold Builtin.«sorted»
  refine wpAny_bind (m := checkCount "sorted" 1 1 _) (wpAny_pure ?_)
  refine wpAny_bind (collect_set (A := X.A.in1) (I.ok.hd hc) ⟨o, ho, hex.1, hd⟩ R.fits (by unfold scanBound; omega) R.tab.ris R.led fun s1 vs g big g1 o1 pm => ?_)
  have pm2 : vs.Perm (L.map fun m => Value.ref m.1) := by
    have e : es.toList.map (·.2) = L.map fun m => Value.ref m.1 := by
      rw [R.row, List.map_map]
      rfl
    rw [← e]
    exact pm
  have key : ∀ m ∈ L, ∃ t ∈ ts, m.2 = triK t := fun m hm => by
    have z : m.2 ∈ ts.map triK := by
      rw [← hk]
      exact List.mem_map.mpr ⟨m, hm, rfl⟩
    obtain ⟨t, ht, e⟩ := List.mem_map.mp z
    exact ⟨t, ht, e.symm⟩
  obtain ⟨us, each, M, eM, sub, eus⟩ := tris_order hL key vs fun v hv => by
    obtain ⟨m, hm, e⟩ := List.mem_map.mp (pm2.mem_iff.mp hv)
    exact ⟨m, hm, e.symm⟩
  -- the members taken are the members
  have one : ∀ m ∈ L, ∀ n ∈ L, m.1 = n.1 → m = n := fun m hm n hn e => by
    have a1 := inv_key I (hL m hm)
    rw [e] at a1
    exact Prod.ext e (IsTupleKey.inj a1 (inv_key I (hL n hn)))
  have pML : M.Perm L := by
    have nL : L.Nodup := nodup_of_map R.nod
    have refs : (L.map fun m => Value.ref m.1).Nodup := List.pairwise_map.mpr (List.Pairwise.imp_of_mem (fun hm hn ne e => ne (one _ hm _ hn (by injection e))) nL)
    rw [eM] at pm2
    have nM : M.Nodup := nodup_of_map (pm2.nodup_iff.mpr refs)
    refine (List.perm_ext_iff_of_nodup nM nL).mpr fun m => ⟨sub m, fun hm => ?_⟩
    obtain ⟨n, hn, e⟩ := List.mem_map.mp (pm2.mem_iff.mpr (List.mem_map.mpr ⟨m, hm, rfl⟩))
    rw [← one n (sub n hn) m hm (by injection e)]
    exact hn
  have put : us.Perm ts := by
    have z : (us.map triK).Perm (ts.map triK) := by
      rw [← eus, ← hk]
      exact pML.map _
    have e := z.filterMap unK
    rw [unK_map, unK_map] at e
    exact e
  have hvl : vs.length = L.length := by rw [pm2.length_eq, List.length_map]
  have alen : vs.length ≤ sizeLine := by rw [hvl, sizeLine_eq]; omega
  refine wpAny_bind (wpAny_newList ?_ alen)
  have hoL : (s1.heap.push (seqObj "list" vs.toArray 0)).get? s1.heap.objs.size = some (seqObj "list" vs.toArray 0) := Heap.get?_push_size _ rfl
  have er : PySem.W.EachIs (fun v b => ∃ as, Reads (PySem.W.sortingHeap (s1.heap.push (seqObj "list" vs.toArray 0)) s1.heap.objs.size vs) v (triD3 b) as) vs us :=
    (tri_reads I each).mono fun _ _ ⟨as, rr⟩ => ⟨as, Reads.keeps (fun b o zz => PySem.W.sortingHeap_old (Nat.ne_of_lt (Heap.lt_size (g b o zz))) (Heap.get?_push_of_some _ (g b o zz))) rr⟩
  refine wpAny_bind (wpAny_holding (wpAny_call_entry slot_list_sort ⟨_, hoL, rfl⟩ entry_list_sort
    (PySem.W.list_sort_vals (s := { s1 with heap := s1.heap.push (seqObj "list" vs.toArray 0) }) hoL
      (PySem.W.SortsAt.data (A := X.A.in1.in1) (s := { s1 with heap := PySem.W.sortingHeap (s1.heap.push (seqObj "list" vs.toArray 0)) s1.heap.objs.size vs }) (PySem.W.each_map (R := fun v d => ∃ as, Reads (PySem.W.sortingHeap (s1.heap.push (seqObj "list" vs.toArray 0)) s1.heap.objs.size vs) v d as) triD3 er) (tri_alike us) (tri_sortable us) (PySem.W.bound_map fun b _ => by
        have := tri_depth b
        have e2 : X.A.in1.in1.units ≤ X.A.units + 2 := Nat.le_refl _
        omega)) alen ⟨_, rfl, ?_⟩)
    (args_list_sort _)))
  have hout := PySem.W.sortVals_data (R := isTri X.K H) false each er (tri_alike us)
  dsimp only at hout ⊢
  generalize PySem.W.sortVals (PySem.W.dataKind (PySem.W.sortingHeap (s1.heap.push (seqObj "list" vs.toArray 0)) s1.heap.objs.size vs) (us.map triD3)) false vs vs = out at hout ⊢
  obtain ⟨qs, hq, hv⟩ := each_tris hout
  obtain ⟨e, hat⟩ := sortedHeap_at (vs := vs) (out := out.toArray) hoL
  have hq2 : TrisAt X.K H qs (sortT ts) := by
    rw [← sortT_perm put]
    exact hq
  have fresh : H s1.heap.objs.size = none := I.hok.fresh big
  have grow : ∀ b o, s.heap.get? b = some o → (sortedHeap (s1.heap.push (seqObj "list" vs.toArray 0)) s1.heap.objs.size vs out.toArray).get? b = some o := fun b o zz => by
    have lt := Heap.lt_size (g b o zz)
    rw [sortedHeap_old (Nat.ne_of_lt lt) (Heap.lt_size (Heap.get?_push_of_some _ (g b o zz)))]
    exact Heap.get?_push_of_some _ (g b o zz)
  have ulen : us.length = vs.length := by
    have z := congrArg List.length eus
    rw [List.length_map, List.length_map] at z
    rw [← z, eM, List.length_map]
  have J : Inv X pins σ (upd H s1.heap.objs.size (.lst (qs.map V.ref))) { s1 with heap := sortedHeap (s1.heap.push (seqObj "list" vs.toArray 0)) s1.heap.objs.size vs out.toArray } := by
    refine I.call' (ch := []) (s' := { s1 with heap := sortedHeap (s1.heap.push (seqObj "list" vs.toArray 0)) s1.heap.objs.size vs out.toArray }) o1 (Un.laid grow big fresh) (I.hok.laid grow big ⟨?_, _, e, hv, hat⟩) (by show AllBare s1.gens; rw [g1]; exact I.bare) (fun _ z => nomatch z)
    rw [List.length_map, hq2.len, sortT_len, put.symm.length_eq, ulen]
    exact alen
  exact wpAny_pure ⟨_, rfl, .ref s1.heap.objs.size, _, J, rfl, q qs _ hq2 fresh⟩
end
end Wm
/-! comprehensions of one clause whose turn ends in any deed to what is made: sets of keys, dicts whose keys are tuples -/
namespace Wm
open PySem PySem.Spec PyProof.Rows L2
/-- a comprehension, the deed at its turn's end apart -/
structure CompE (P : Program) (w : World) (e : Expr) (tg iter : Expr) (ifs : List Expr) (emit : Value → Env → Sem Unit) : Prop where
  turn : ∀ (it : Value) (D : Addr) (env : Env), compTurn e 0 it (.ref D) env = (do
    standAt iter.pos
    match ← pyNext it with
    | none => pure (.done .next)
    | some v => do
      letOwnedTupleGo tg it v
      assign tg env v
      let ok ← forIn ifs true fun c r => if r = true then do let ok ← isTrue c env (eval c env); pure (ForInStep.yield ok) else pure (ForInStep.yield r)
      if ok = true then do emit (.ref D) env; again (.compLoop e 0 it (.ref D) env) else again (.compLoop e 0 it (.ref D) env))
  den : ∀ (it : Value) (D : Addr) (env : Env), (model P w).den (.compLoop e 0 it (.ref D) env) = (compTurn e 0 it (.ref D) env).onRaise fun x => do noteFrame x env; theTreesLotGoes x
  und : ∀ (A : Around) (it : Value) (D : Addr) (env : Env), A.under (Code.compLoop e 0 it (.ref D) env) = A
  quiet : ∀ (it : Value) (D : Addr) (env : Env), (Code.compLoop e 0 it (.ref D) env).quiet = true
  cls : clausesOf e = [⟨tg, iter, ifs, 0⟩]
  start : ∀ {A : Around} {R : Result → Shared → Prop} {s : Shared} {it acc : Value} {env : Env}, codeAny (model P w) A (.compLoop e 0 it acc env) R s →
    wpAny (model P w) A (pyIter it) (fun it' s' => codeAny (model P w) A (.compLoop e 0 it' acc env) R s') (notedBy (model P w) A env fun x s' => R (.error x) s') s → codeAny (model P w) A (.compStart e 0 it acc env) R s
section
variable {P : Program} {w : World} {A : Around} {R : Result → Shared → Prop} {s : Shared} {e tg iter : Expr} {ifs : List Expr} {emit : Value → Env → Sem Unit}
/-- the loop, where no error leaves the block -/
theorem CompE.loop (C : CompE P w e tg iter ifs emit) {it : Value} {D : Addr} {env : Env} (I : Nat → Shared → Prop)
    (turn : ∀ n s, I n s → wpAny (model P w) A (pyNext it) (fun r s1 => match r with
      | none => R (.ok .next) s1
      | some v => wpAny (model P w) A (letOwnedTupleGo tg it v) (fun _ s2 => wpAny (model P w) A (assign tg env v) (fun _ s3 =>
          wpAny (model P w) A (forIn ifs true fun c r => if r = true then do let ok ← isTrue c env (eval c env); pure (ForInStep.yield ok) else pure (ForInStep.yield r)) (fun ok s4 =>
            if ok = true then wpAny (model P w) A (emit (.ref D) env) (fun _ s5 => ∃ m, m < n ∧ I m s5) (fun _ _ => False) s4 else ∃ m, m < n ∧ I m s4) (fun _ _ => False) s3) (fun _ _ => False) s2) (fun _ _ => False) s1) (fun _ _ => False) s)
    (n : Nat) (h : I n s) : codeAny (model P w) A (.compLoop e 0 it (.ref D) env) R s := by
  refine codeAny_loop (C.quiet it D env) I (fun n s hI => ?_) n h
  rw [C.und, C.den]
  refine wpAny_noted ?_
  rw [C.turn]
  refine wpAny_bind (wpAny_standAt (wpAny_bind (thnF (turn n s hI) fun r s1 h1 => ?_)))
  rcases r with _ | v
  · exact wpAny_pure h1
  · refine wpAny_bind (thnF h1 fun _ s2 h2 => wpAny_bind (thnF h2 fun _ s3 h3 => wpAny_bind (thnF h3 fun ok s4 h4 => ?_)))
    by_cases c : ok = true
    · rw [if_pos c] at h4 ⊢
      exact wpAny_bind (thnF h4 fun _ s5 h5 => wpAny_pure ⟨rfl, h5⟩)
    · rw [if_neg c] at h4 ⊢
      exact wpAny_pure ⟨rfl, h4⟩
end
/-- what a deed at a turn's end comes to: the new thing stands at D -/
abbrev TEm := L2.St → Hp → Addr → (Hp → Prop) → Prop
structure PEm (X : Cx) (emit : Value → Env → Sem Unit) (t : TEm) : Prop where
  run : ∀ (pins : List (Addr × Obj)) (s : Shared) (σ : L2.St) (H : Hp) (D : Addr) (Q : Hp → Prop), Inv X pins σ H s → t σ H D Q → wpAny (model X.prog X.w) X.A (emit (.ref D) X.env) (fun _ s' => ∃ H', Inv X pins σ H' s' ∧ Q H') X.xe s
/-- how the new thing is made, and what it is at first -/
structure NewE (P : Program) (w : World) (make : Sem Value) (o : Addr → HO) : Prop where
  ex : ∃ ob : Obj, (∀ {A : Around} {E : Value → Shared → Prop} {s : Shared} {Q : Value → Shared → Prop}, Q (.ref s.heap.objs.size) { s with heap := s.heap.push ob } → wpAny (model P w) A make Q E s) ∧
    ∀ (H : Hp) (h : Heap), sysModules < h.objs.size → ObjOk P w H (h.push ob) h.objs.size (o h.objs.size)
/-- the whole: D the new thing, W what holds ahead of each turn (with a measure), Nx what a turn is to reach -/
def tCp (o : Addr → HO) (wi : TI) (g : TG) (tt : TT) (te : TEm) (vs : List Nat) : TE := fun σ H Q => wi σ H fun J H1 => ∀ D, H1 D = none → ∃ W : Nat → Nat → Hp → Prop, (∃ m, W 0 m (upd H1 D (o D))) ∧ ∀ i m H, W i m H →
  (J.stop i H ∧ Q (.ref D) H) ∨ (J.go i H ∧ ∃ Nx : Hp → Prop, (∀ H', Nx H' → ∃ m', m' < m ∧ W (i + 1) m' H') ∧ ∀ x H', J.yld i H x H' → g x (wipe σ vs) H' fun σ2 H2 => wipe σ2 vs = wipe σ vs ∧ tt σ2 H2 fun b H3 =>
    if b = true then te σ2 H3 D Nx else Nx H3)
section
variable {X : Cx}
/-- the block of a comprehension as its own context, at whatever place it stands -/
abbrev InBlk (X : Cx) (scope : Scope) (T : Cx → Prop) : Prop := ∀ (s : Shared) (H : Hp) (C : Addr) (cl : List (Str × Addr)) (fp : List Addr), T (X.blk s H scope (compEnvC scope cl C X.env) fp)
theorem cp_core {pins : List (Addr × Obj)} {s : Shared} {σ : L2.St} {H : Hp} {Q : VK} {e tg iter : Expr} {ifs : List Expr} {emit : Value → Env → Sem Unit} {make : Sem Value} {o : Addr → HO} {scope : Scope} {own : List (Str × Nat)} {pos' : Pos} {wi : TI} {g : TG} {tt : TT} {te : TEm} {use : Option (Value → Sem Unit)} {Qf : Value → Shared → Prop}
    (C : CompE X.prog X.w e tg iter ifs emit) (N : NewE X.prog X.w make o) (hc : X.calm = true) (hN : X.N.Nodup) (I : Inv X pins σ H s) (hi : PI X tg iter wi) (ok : BlkOk X.N X.env.scope scope own)
    (hg : InBlk X scope fun Y => PG Y tg g) (ht : InBlk X scope fun Y => PTs Y ifs tt) (he : InBlk X scope fun Y => PEm Y emit te) (hs : ∀ x, foldedSetIterable iter X.env x = pure x)
    (h : tCp o wi g tt te (own.map (·.2)) σ H Q)
    (after : ∀ D B s' m H', Inv X pins σ H' s' → Q (.ref D) H' → s'.heap.Ns B m → FpOk X pins H' B → compPost (model X.prog X.w) X.A X.xe use Qf (.ref D) B (.ok .next) s') :
    wpAny (model X.prog X.w) X.A (comprehension e scope X.env pos' make false (eval iter X.env) use) Qf X.xe s := by
  have cells : ∀ y ∈ scope.names, y.2 = .free → ∃ c, X.env.cells.lookup y.1 = some c := fun y hy k => (ok.free y hy k).elim (fun z => I.ok.has _ (.inl z)) fun z => I.ok.has _ (.inr z)
  obtain ⟨ob, mk, isO⟩ := N.ex
  refine wpAny_comprehension_free (use := use) C.cls hs (closure_ok cells) ok.kind (fun y hy k => by rw [ok.uniq y hy, k]) (thn (hi.run pins s σ H _ I h) fun xv s1 hx => thn hx fun itv s2 ⟨it, fp, tn, J, H2, e1, I2, T, st2, f2, q⟩ => ?_)
  subst e1
  refine mk (newEnv_comp ?_)
  generalize hD : s2.heap.objs.size = D
  obtain ⟨W, ⟨m0, w0⟩, turn⟩ := q D (I2.hok.fresh (Nat.le_of_eq hD))
  have grow : ∀ b u, s2.heap.get? b = some u → (s2.heap.push ob).get? b = some u := fun b u z => Heap.get?_push_of_some _ z
  have I3 : Inv X pins σ (upd H2 D (o D)) { s2 with heap := s2.heap.push ob } := I2.laid (t' := s2.toks) grow (Nat.le_of_eq hD) (by rw [← hD]; exact isO _ _ I2.big)
  have f3 : ∀ b ∈ fp, FpOk X pins (upd H2 D (o D)) b ∧ b < (s2.heap.push ob).objs.size := fun b hb => by
    obtain ⟨u, eu, _⟩ := T.obj _ _ st2 b hb
    have lt := Heap.lt_size eu
    refine ⟨⟨?_, (f2 b hb).2⟩, by rw [Heap.size_push]; exact Nat.lt_succ_of_lt lt⟩
    rw [upd_ne (by rw [← hD]; exact Nat.ne_of_lt lt)]
    exact (f2 b hb).1
  have st3 : tn 0 (s2.heap.push ob) := T.keep _ _ _ st2 fun b _ u z => grow b u z
  generalize hs3 : ({ s2 with heap := s2.heap.push ob } : Shared) = s3 at I3
  have h3 : s2.heap.push ob = s3.heap := by rw [← hs3]
  rw [h3] at f3 st3
  generalize hH3 : upd H2 D (o D) = H3 at I3 f3 w0
  have I4 := block_start I3 ok hN f3
  have pg := hg s3 H3 s3.heap.objs.size (cellsFrom (s3.heap.objs.size + 1) scope.names (cloFrom X.env.cells scope.names [])) fp
  have pt := ht s3 H3 s3.heap.objs.size (cellsFrom (s3.heap.objs.size + 1) scope.names (cloFrom X.env.cells scope.names [])) fp
  have pe := he s3 H3 s3.heap.objs.size (cellsFrom (s3.heap.objs.size + 1) scope.names (cloFrom X.env.cells scope.names [])) fp
  show codeAny _ _ (.compStart e 0 (.ref it) (.ref D) (compEnvC scope (cellsFrom (s3.heap.objs.size + 1) scope.names (cloFrom X.env.cells scope.names [])) s3.heap.objs.size X.env)) (compPost (model X.prog X.w) X.A X.xe use Qf (.ref D) s3.heap.objs.size) { s3 with heap := pushCells (s3.heap.push { cls := .type "dict", data := .dict #[] }) scope.names }
  generalize hce : compEnvC scope (cellsFrom (s3.heap.objs.size + 1) scope.names (cloFrom X.env.cells scope.names [])) s3.heap.objs.size X.env = ce at I4 pg pt pe ⊢
  have cL : ce.locals = s3.heap.objs.size := by subst hce; rfl
  have st4 : tn 0 (pushCells (s3.heap.push { cls := .type "dict", data := .dict #[] }) scope.names) := T.keep _ _ _ st3 fun b _ u z => pushCells_keeps _ _ _ _ (Heap.get?_push_of_some _ z)
  generalize hs4 : ({ s3 with heap := pushCells (s3.heap.push { cls := .type "dict", data := .dict #[] }) scope.names } : Shared) = s4 at I4 ⊢
  have h4 : pushCells (s3.heap.push { cls := .type "dict", data := .dict #[] }) scope.names = s4.heap := by rw [← hs4]
  rw [h4] at st4
  have still : ∀ {σ' : L2.St} {H' : Hp} {s' : Shared}, Inv (X.blk s3 H3 scope ce fp) [] σ' H' s' → (∀ b ∈ fp, H' b = none) → ∀ b ∈ fp, FpOk (X.blk s3 H3 scope ce fp) [] H' b := fun {σ' H' s'} I' hn b hb =>
    ⟨hn b hb, (I'.ok.exf b hb).1, I'.ok.exfs b hb, .inl hb, (I'.ok.exf b hb).2, fun p hp => absurd (show p ∈ ([] : List (Addr × Obj)) ++ [] from hp) List.not_mem_nil⟩
  have loop : codeAny (model X.prog X.w) X.A (.compLoop e 0 (.ref it) (.ref D) ce) (compPost (model X.prog X.w) X.A X.xe use Qf (.ref D) s3.heap.objs.size) s4 := by
    refine C.loop (fun n s' => ∃ i H', Inv (X.blk s3 H3 scope ce fp) [] (wipe σ (own.map (·.2))) H' s' ∧ tn i s'.heap ∧ (∀ b ∈ fp, H' b = none) ∧ W i n H') ?_ m0 ⟨0, H3, I4, st4, fun b hb => (f3 b hb).1.1, w0⟩
    rintro n s5 ⟨i, H5, I5, st5, n5, w5⟩
    rcases turn i n H5 w5 with ⟨stop, qq⟩ | ⟨go, Nx, hNx, step⟩
    · refine wpAny_mono (T.done (X.blk s3 H3 scope ce fp) rfl rfl rfl hc i [] s5 _ H5 (fun _ _ => False) I5 (still I5 n5) st5 stop) (fun r s6 ⟨hr, I6⟩ => ?_) fun _ _ z => z
      subst hr
      -- in the def's own context again
      have I7 : Inv X pins σ H5 s6 := I3.call' (ch := fp) I6.os I6.base I6.hok I6.bare fun b hb => ⟨(f3 b hb).1.2.2.2.1, (f3 b hb).1.2.1, (f3 b hb).1.2.2.2.2.1, (f3 b hb).1.2.2.2.2.2⟩
      have nB : H5 s3.heap.objs.size = none := by
        rw [← cL]
        exact I6.free
      obtain ⟨m, hn, _⟩ := I6.loc
      exact after D s3.heap.objs.size s6 m H5 I7 qq (by rw [← cL]; exact hn) (I3.fpOk (Nat.le_refl _) nB)
    · refine wpAny_mono (T.item (X.blk s3 H3 scope ce fp) rfl rfl rfl hc i [] s5 _ H5 (fun _ _ => False) I5 (still I5 n5) st5 go) (fun r s6 ⟨u, hr, h6⟩ => ?_) fun _ _ z => z
      subst hr
      refine wpAny_mono h6 (fun _ s7 ⟨x, H7, I7, r7, y7, st7, n7⟩ => ?_) fun _ _ z => z
      have I7' := I7.pinned (still I7 n7) (T.obj _ _ st7)
      refine wpAny_mono (pg.run _ s7 _ H7 x u _ I7' r7 (step x H7 y7)) (fun _ s8 ⟨σ8, H8, I8, hw8, q8⟩ => ?_) fun _ _ z => z
      refine wpAny_mono (pt.run _ s8 σ8 H8 _ I8 q8) (fun b s9 ⟨H9, I9, q9⟩ => ?_) fun _ _ z => z
      have fin : ∀ {s' : Shared} {H' : Hp}, Inv (X.blk s3 H3 scope ce fp) ([] ++ pinsAt fp s7.heap) σ8 H' s' → Nx H' → ∃ m, m < n ∧ ∃ i H', Inv (X.blk s3 H3 scope ce fp) [] (wipe σ (own.map (·.2))) H' s' ∧ tn i s'.heap ∧ (∀ b ∈ fp, H' b = none) ∧ W i m H' := fun {s' H'} I' nx => by
        obtain ⟨m', hm, w'⟩ := hNx H' nx
        have pin' : ∀ b ∈ fp, ∀ u, s7.heap.get? b = some u → s'.heap.get? b = some u ∧ H' b = none := fun b hb u z =>
          have p := I'.pin (b, u) (List.mem_append_right _ (List.mem_append_right _ (mem_pinsAt hb z)))
          ⟨p.1, p.2.1⟩
        refine ⟨m', hm, i + 1, H', (I'.unpinned (pins := [])).weak (by rw [← hw8, wipe_length]) (fun j v z => ?_), T.keep _ _ _ st7 fun b hb u z => (pin' b hb u z).1, fun b hb => ?_, w'⟩
        · rw [← hw8] at z
          exact (wipe_some z).1
        · obtain ⟨u, z, _⟩ := T.obj _ _ st7 b hb
          exact (pin' b hb u z).2
      dsimp only at q9
      by_cases hb : b = true
      · rw [if_pos hb] at q9 ⊢
        exact wpAny_mono (pe.run _ s9 σ8 H9 D _ I9 q9) (fun _ s10 ⟨H10, I10, nx⟩ => fin I10 nx) fun _ _ z => z
      · rw [if_neg hb] at q9 ⊢
        exact fin I9 q9
  exact C.start loop (T.self X.A 0 _ _ _ st4 loop)
/-- as a value -/
theorem pe_cp {e tg iter : Expr} {ifs : List Expr} {emit : Value → Env → Sem Unit} {make : Sem Value} {o : Addr → HO} {scope : Scope} {own : List (Str × Nat)} {pos' : Pos} {wi : TI} {g : TG} {tt : TT} {te : TEm}
    (ev : eval e X.env = comprehension e scope X.env pos' make false (eval iter X.env)) (C : CompE X.prog X.w e tg iter ifs emit) (N : NewE X.prog X.w make o) (hc : X.calm = true) (hN : X.N.Nodup) (hi : PI X tg iter wi) (ok : BlkOk X.N X.env.scope scope own)
    (hg : InBlk X scope fun Y => PG Y tg g) (ht : InBlk X scope fun Y => PTs Y ifs tt) (he : InBlk X scope fun Y => PEm Y emit te) (hs : ∀ x, foldedSetIterable iter X.env x = pure x := by intro _; rfl) :
    PE X e (tCp o wi g tt te (own.map (·.2))) := by
  refine ⟨fun pins s σ H Q I h => ?_⟩
  rw [ev]
  refine cp_core C N hc hN I hi ok hg ht he hs h fun D B s' m H' I' q hn f => ⟨m, hn, fun h'' sb => ?_⟩
  exact ⟨.ref D, H', I'.turned (t' := s'.toks) (fun b u hb z => (sb.2 b hb).trans z) f.1 f.2.1 f.2.2.2.1 f.2.2.2.2.1 f.2.2.2.2.2, rfl, q⟩
/-- name = {..} on one line, the name a local -/
theorem ps_setCp {i : Nat} {y : Str} {py spos : Pos} {e tg iter : Expr} {ifs : List Expr} {emit : Value → Env → Sem Unit} {make : Sem Value} {o : Addr → HO} {scope : Scope} {own : List (Str × Nat)} {pos' : Pos} {wi : TI} {g : TG} {tt : TT} {te : TEm}
    (ev : ∀ use, evalThenUse e X.env use = (do let _ ← comprehension e scope X.env pos' make false (eval iter X.env) (some use))) (C : CompE X.prog X.w e tg iter ifs emit) (N : NewE X.prog X.w make o) (hc : X.calm = true) (hN : X.N.Nodup) (hy : X.N[i]? = some y) (hyl : X.env.scope.names.lookup y = some .local)
    (sw : swapsWith e (some (.Name y py)) spos.line X.env = pure true) (hi : PI X tg iter wi) (ok : BlkOk X.N X.env.scope scope own)
    (hg : InBlk X scope fun Y => PG Y tg g) (ht : InBlk X scope fun Y => PTs Y ifs tt) (he : InBlk X scope fun Y => PEm Y emit te) (hs : ∀ x, foldedSetIterable iter X.env x = pure x := by intro _; rfl) :
    PS X (.Assign [.Name y py] e spos) (tAsg (tCp o wi g tt te (own.map (·.2))) (gName i)) := by
  refine ⟨fun pins s σ H E I h => ?_⟩
  rw [exec_Assign_Name_used _ _ _ _ sw]
  refine wpAny_bind (wpAny_standAt (wpAny_bind ?_))
  rw [ev]
  have h : tCp o wi g tt te (own.map (·.2)) σ H (fun x H1 => gName i x σ H1 E.nx) := h
  refine wpAny_bind (thn (cp_core (Qf := fun _ s' => SP X pins E .next s') C N hc hN I hi ok hg ht he hs h fun D B s' m H' I' q hn f => ?_) fun _ s' hq => wpAny_pure (wpAny_pure hq))
  show wpAny _ _ (assign (.Name y py) X.env (.ref D)) _ _ _
  refine wpAny_assign_Name (store_ok2 (v := V.ref D) I' hN hy (.inl hyl) rfl (fun s2 I2 ⟨a, sb, ha⟩ => ?_) (.inr hyl))
  have nB : B ≠ a := ha.elim (fun z => by rw [z]; exact f.2.1) fun z k => f.2.2.2.2.1 y a z k.symm
  exact ⟨m, hn.sameBut sb nB, fun h3 sb3 => ⟨_, H', I2.turned (t' := s2.toks) (fun b u hb z => (sb3.2 b hb).trans z) f.1 f.2.1 f.2.2.2.1 f.2.2.2.2.1 f.2.2.2.2.2, q⟩⟩
end
/-! ### the forms one uses -/
section
variable {K : PySem.W.Frag} {a : Addr} {xs : List V} {g : TG} {tt : TT} {te : TEm} {vs : List Nat} {σ : L2.St} {H1 : Hp} {D : Addr} {o : HO} {Qd : Hp → Prop}
/-- over a list that the block leaves as it is -/
theorem cp_list (Pv : Nat → Hp → Prop) (h0 : Pv 0 (upd H1 D o)) (hl : ∀ i H, i ≤ xs.length → Pv i H → SqL K H a xs)
    (hs : ∀ i x H, xs[i]? = some x → Pv i H → g x (wipe σ vs) H fun σ2 H2 => wipe σ2 vs = wipe σ vs ∧ tt σ2 H2 fun b H3 => if b = true then te σ2 H3 D (Pv (i + 1)) else Pv (i + 1) H3) (hd : ∀ H, Pv xs.length H → Qd H) :
    ∃ W : Nat → Nat → Hp → Prop, (∃ m, W 0 m (upd H1 D o)) ∧ ∀ i m H, W i m H →
      ((Itl K a).stop i H ∧ Qd H) ∨ ((Itl K a).go i H ∧ ∃ Nx : Hp → Prop, (∀ H', Nx H' → ∃ m', m' < m ∧ W (i + 1) m' H') ∧ ∀ x H', (Itl K a).yld i H x H' → g x (wipe σ vs) H' fun σ2 H2 => wipe σ2 vs = wipe σ vs ∧ tt σ2 H2 fun b H3 =>
        if b = true then te σ2 H3 D Nx else Nx H3) := by
  refine ⟨fun i m H => m + i = xs.length ∧ Pv i H, ⟨xs.length, rfl, h0⟩, fun i m H ⟨hm, p⟩ => ?_⟩
  have q := hl i H (by omega) p
  by_cases c : i < xs.length
  · have e : xs[i]? = some xs[i] := List.getElem?_eq_getElem c
    refine .inr ⟨⟨xs, xs[i], q, e⟩, Pv (i + 1), fun H' p' => ⟨m - 1, by omega, by omega, p'⟩, fun x H' ⟨e', y⟩ => ?_⟩
    subst e'
    exact hs i x _ (y xs q) p
  · have e : i = xs.length := by omega
    subst e
    exact .inl ⟨⟨xs, q, Nat.le_refl _⟩, hd H p⟩
/-- over a tuple -/
theorem cp_tup (Pv : Nat → Hp → Prop) (h0 : Pv 0 (upd H1 D o)) (hl : ∀ i H, i ≤ xs.length → Pv i H → SqT K H a xs)
    (hs : ∀ i x H, xs[i]? = some x → Pv i H → g x (wipe σ vs) H fun σ2 H2 => wipe σ2 vs = wipe σ vs ∧ tt σ2 H2 fun b H3 => if b = true then te σ2 H3 D (Pv (i + 1)) else Pv (i + 1) H3) (hd : ∀ H, Pv xs.length H → Qd H) :
    ∃ W : Nat → Nat → Hp → Prop, (∃ m, W 0 m (upd H1 D o)) ∧ ∀ i m H, W i m H →
      ((Itt K a).stop i H ∧ Qd H) ∨ ((Itt K a).go i H ∧ ∃ Nx : Hp → Prop, (∀ H', Nx H' → ∃ m', m' < m ∧ W (i + 1) m' H') ∧ ∀ x H', (Itt K a).yld i H x H' → g x (wipe σ vs) H' fun σ2 H2 => wipe σ2 vs = wipe σ vs ∧ tt σ2 H2 fun b H3 =>
        if b = true then te σ2 H3 D Nx else Nx H3) := by
  refine ⟨fun i m H => m + i = xs.length ∧ Pv i H, ⟨xs.length, rfl, h0⟩, fun i m H ⟨hm, p⟩ => ?_⟩
  have q := hl i H (by omega) p
  by_cases c : i < xs.length
  · have e : xs[i]? = some xs[i] := List.getElem?_eq_getElem c
    refine .inr ⟨⟨xs, xs[i], q, e⟩, Pv (i + 1), fun H' p' => ⟨m - 1, by omega, by omega, p'⟩, fun x H' ⟨e', y⟩ => ?_⟩
    subst e'
    exact hs i x _ (y xs q) p
  · have e : i = xs.length := by omega
    subst e
    exact .inl ⟨⟨xs, q, Nat.le_refl _⟩, hd H p⟩
end
/-! ### sets of keys -/
abbrev emSet (elt : Expr) : Value → Env → Sem Unit := fun acc env => do let v ← eval elt env; standAt elt.pos; let _ ← call (.builtin "set.add") [acc, v]
theorem compSet {P : Program} {w : World} {elt tg iter : Expr} {ifs : List Expr} {scope : Scope} {pos : Pos} : CompE P w (.SetComp elt [⟨tg, iter, ifs, 0⟩] scope pos) tg iter ifs (emSet elt) where
  turn it D env := by first | rfl | (rw [PpSet.compTurn_set]; rfl)
  den it D env := rfl
  und A it D env := rfl
  quiet it D env := rfl
  cls := rfl
  start := PpSet.codeAny_compStart_set
theorem newSetE {P : Program} {w : World} : NewE P w (newSet (.type "set")) fun a => KSetO P w a [] :=
  ⟨emptySet w, fun h => PpSet.newSet_ok h, fun H h _ => kset_ok (KTab.new (Heap.get?_push_size _ rfl))⟩
def tEmK (K : PySem.W.Frag) (P : Program) (w : World) (te : TE) : TEm := fun σ H D Q => te σ H fun y H1 => ∃ (b : Addr) (L : List (Addr × List L2.Key)) (k : List L2.Key), y = .ref b ∧ H1 D = some (KSetO P w D L) ∧ MemT K H1 L ∧ SqT K H1 b (k.map kV) ∧ L.length + 1 < 64 ∧
  ∀ L', (k ∈ L.map (·.2) → L' = L) → (k ∉ L.map (·.2) → L'.Perm ((b, k) :: L)) → Q (upd H1 D (KSetO P w D L'))
section
variable {X : Cx}
theorem pem_set {elt : Expr} {te : TE} (hu : X.A.units + 2 < cLine) (he : PE X elt te) : PEm X (emSet elt) (tEmK X.K X.prog X.w te) := by
  refine ⟨fun pins s σ H D Q I h => ?_⟩
  refine wpAny_bind (thn (he.run pins s σ H _ I h) fun v s1 ⟨y, H1, I1, r, b, L, k, ey, hD, hL, hb, few, q⟩ => ?_)
  subst ey
  obtain rfl : v = Value.ref b := r
  refine wpAny_bind (wpAny_standAt (wpAny_bind (addK_ok I1 hu hD hL hb few fun s2 L' c1 c2 I2 => ?_)))
  exact wpAny_pure ⟨_, I2, q L' c1 c2⟩
/-- {elt for tg in iter if ..}, elt a key -/
theorem pe_scK {elt tg iter : Expr} {ifs : List Expr} {scope : Scope} {own : List (Str × Nat)} {pos : Pos} {wi : TI} {g : TG} {tt : TT} {te : TE} (hu : X.A.units + 2 < cLine) (hc : X.calm = true) (hN : X.N.Nodup) (hi : PI X tg iter wi) (ok : BlkOk X.N X.env.scope scope own)
    (hg : InBlk X scope fun Y => PG Y tg g) (ht : InBlk X scope fun Y => PTs Y ifs tt) (he : InBlk X scope fun Y => PE Y elt te) (hs : ∀ x, foldedSetIterable iter X.env x = pure x := by intro _; rfl) :
    PE X (.SetComp elt [⟨tg, iter, ifs, 0⟩] scope pos) (tCp (fun a => KSetO X.prog X.w a []) wi g tt (tEmK X.K X.prog X.w te) (own.map (·.2))) :=
  pe_cp (PpSet.eval_SetComp elt _ scope pos) compSet newSetE hc hN hi ok hg ht (fun s H C cl fp => pem_set (X := X.blk s H scope (compEnvC scope cl C X.env) fp) hu (he s H C cl fp)) hs
end
/-! ### dicts whose keys are tuples -/
abbrev emDict (kx vx : Expr) : Value → Env → Sem Unit := fun acc env => do
  let kv ← eval kx env
  let vv ← holding [kv] (eval vx env)
  match acc with
  | .ref d => do
    standAt { kx.pos with endLine := vx.pos.endLine, endCol := vx.pos.endCol }
    holding [kv, vv] (dictSet d kv vv)
  | _ => unsupported "internal:dictcomp"
theorem compDict {P : Program} {w : World} {kx vx tg iter : Expr} {ifs : List Expr} {scope : Scope} {pos : Pos} : CompE P w (.DictComp kx vx [⟨tg, iter, ifs, 0⟩] scope pos) tg iter ifs (emDict kx vx) where
  turn it D env := by first | rfl | (rw [compTurn_dict]; rfl)
  den it D env := rfl
  und A it D env := rfl
  quiet it D env := rfl
  cls := rfl
  start := codeAny_compStart_dict
theorem newDictT {P : Program} {w : World} : NewE P w newDict fun _ => .dT [] :=
  ⟨{ cls := .type "dict", data := .dict #[] }, fun h => wpAny_newObj_type h, fun H h hb => dt_empty h hb⟩
def tEmT (tk tv : TE) : TEm := fun σ H D Q => tk σ H fun y H1 => tv σ H1 fun z H2 => ∃ (kvs : List (List L2.Key × V)) (k : List L2.Key) (b : Addr), y = .ref b ∧ H2 b = some (.tup (k.map kV)) ∧ H2 D = some (.dT kvs) ∧ kvs.length < sizeLine ∧ Q (upd H2 D (.dT (putK kvs k z)))
section
variable {X : Cx}
theorem dictSet_tup {pins : List (Addr × Obj)} {σ : L2.St} {H : Hp} {s : Shared} {E : Value → Shared → Prop} {D b : Addr} {kvs : List (List L2.Key × V)} {k : List L2.Key} {v : V} {r : Value} {Q : Unit → Shared → Prop} (hu : X.A.units + 1 < cLine) (I : Inv X pins σ H s) (hD : H D = some (.dT kvs)) (hb : H b = some (.tup (k.map kV)))
    (hz : kvs.length < sizeLine) (rv : RelV v r) (h : ∀ s', Inv X pins σ (upd H D (.dT (putK kvs k v))) s' → Q () s') : wpAny (model X.prog X.w) X.A (dictSet D (.ref b) r) Q E s := by
  obtain ⟨z, hd, xs, rel, dd⟩ := dt_of I.hok hD
  have hzx : xs.length ≤ sizeLine := by rw [← Paired.length rel]; exact z
  have hl : (putK kvs k v).length ≤ sizeLine := by have := length_putK kvs k v; omega
  refine wpAny_dictSet_heap (hsz := hzx) (show X.A.units < cLine by omega) (key_of I.hok hb) dd fun h' dd' hs => h _ ?_
  obtain ⟨q, es, ep, hq, h2, h3, h4, _, h5⟩ := dd'
  refine d_write I (by rw [hD]; exact True.intro) hs ⟨q, hq⟩ ⟨hl, hd, _, (rel.put k hb rv).keeps fun c ys ec => ?_, q, es, ep, hq, h2, h3, h4, h5⟩
  rw [upd_ne (ne_of ec hD (fun z => nomatch z))]
  exact ec
theorem pem_dictT {kx vx : Expr} {tk tv : TE} (hu : X.A.units + 1 < cLine) (hk : PE X kx tk) (hv : PE X vx tv) : PEm X (emDict kx vx) (tEmT tk tv) := by
  refine ⟨fun pins s σ H D Q I h => ?_⟩
  refine wpAny_bind (thn (hk.run pins s σ H _ I h) fun u s1 ⟨y, H1, I1, ry, q1⟩ => wpAny_bind (wpAny_holding (thn (hv.run pins s1 σ H1 _ I1 q1) fun r s2 ⟨z, H2, I2, rz, kvs, k, b, ey, hb, hD, hz, q⟩ => ?_)))
  subst ey
  obtain rfl : u = Value.ref b := ry
  refine wpAny_bind (wpAny_standAt (wpAny_holding (dictSet_tup hu I2 hD hb hz rz fun s3 I3 => ⟨_, I3, q⟩)))
theorem pe_dcT {kx vx tg iter : Expr} {ifs : List Expr} {scope : Scope} {own : List (Str × Nat)} {pos : Pos} {wi : TI} {g : TG} {tt : TT} {tk tv : TE} (hu : X.A.units + 1 < cLine) (hc : X.calm = true) (hN : X.N.Nodup) (hi : PI X tg iter wi) (ok : BlkOk X.N X.env.scope scope own)
    (hg : InBlk X scope fun Y => PG Y tg g) (ht : InBlk X scope fun Y => PTs Y ifs tt) (hk : InBlk X scope fun Y => PE Y kx tk) (hv : InBlk X scope fun Y => PE Y vx tv) (hs : ∀ x, foldedSetIterable iter X.env x = pure x := by intro _; rfl) :
    PE X (.DictComp kx vx [⟨tg, iter, ifs, 0⟩] scope pos) (tCp (fun _ => .dT []) wi g tt (tEmT tk tv) (own.map (·.2))) :=
  pe_cp (arm_eval_DictComp ..) compDict newDictT hc hN hi ok hg ht (fun s H C cl fp => pem_dictT (X := X.blk s H scope (compEnvC scope cl C X.env) fp) hu (hk s H C cl fp) (hv s H C cl fp)) hs
theorem ps_setDcT {i : Nat} {y : Str} {py spos : Pos} {kx vx tg iter : Expr} {ifs : List Expr} {scope : Scope} {own : List (Str × Nat)} {pos : Pos} {wi : TI} {g : TG} {tt : TT} {tk tv : TE} (hu : X.A.units + 1 < cLine) (hc : X.calm = true) (hN : X.N.Nodup) (hy : X.N[i]? = some y) (hyl : X.env.scope.names.lookup y = some .local)
    (sw : swapsWith (.DictComp kx vx [⟨tg, iter, ifs, 0⟩] scope pos) (some (.Name y py)) spos.line X.env = pure true) (hi : PI X tg iter wi) (ok : BlkOk X.N X.env.scope scope own)
    (hg : InBlk X scope fun Y => PG Y tg g) (ht : InBlk X scope fun Y => PTs Y ifs tt) (hk : InBlk X scope fun Y => PE Y kx tk) (hv : InBlk X scope fun Y => PE Y vx tv) (hs : ∀ x, foldedSetIterable iter X.env x = pure x := by intro _; rfl) :
    PS X (.Assign [.Name y py] (.DictComp kx vx [⟨tg, iter, ifs, 0⟩] scope pos) spos) (tAsg (tCp (fun _ => .dT []) wi g tt (tEmT tk tv) (own.map (·.2))) (gName i)) :=
  ps_setCp (pos' := firstIterPos [⟨tg, iter, ifs, 0⟩] pos) (make := newDict) (fun use => rfl) compDict newDictT hc hN hy hyl sw hi ok hg ht (fun s H C cl fp => pem_dictT (X := X.blk s H scope (compEnvC scope cl C X.env) fp) hu (hk s H C cl fp) (hv s H C cl fp)) hs
end
end Wm
namespace Wm
open PySem L2 StX
/-! ### a row of triples, each once -/
def uni : List T3 → List T3
  | [] => []
  | t :: r => if t ∈ r then uni r else t :: uni r
theorem uni_mem {t : T3} : ∀ {l : List T3}, t ∈ uni l ↔ t ∈ l
  | [] => Iff.rfl
  | u :: r => by
    unfold uni
    by_cases c : u ∈ r
    · rw [if_pos c, uni_mem (l := r), List.mem_cons]
      exact ⟨.inr, fun h => h.elim (fun e => by rw [e]; exact c) id⟩
    · rw [if_neg c, List.mem_cons, List.mem_cons, uni_mem (l := r)]
theorem uni_nodup : ∀ l : List T3, (uni l).Nodup
  | [] => List.nodup_nil
  | u :: r => by
    unfold uni
    by_cases c : u ∈ r
    · rw [if_pos c]
      exact uni_nodup r
    · rw [if_neg c]
      exact List.nodup_cons.mpr ⟨fun h => c (uni_mem.mp h), uni_nodup r⟩
theorem uni_len : ∀ l : List T3, (uni l).length ≤ l.length
  | [] => Nat.le_refl _
  | u :: r => by
    have ih := uni_len r
    unfold uni
    by_cases c : u ∈ r
    · rw [if_pos c]
      exact Nat.le_succ_of_le ih
    · rw [if_neg c]
      exact Nat.succ_le_succ ih
/-- the row that a set of these comes to when sorted -/
def setT (l : List T3) : List T3 := sortT (uni l)
theorem setT_of {us l : List T3} (nd : us.Nodup) (h : ∀ t, t ∈ us ↔ t ∈ l) : sortT us = setT l :=
  sortT_perm ((List.perm_ext_iff_of_nodup nd (uni_nodup l)).mpr fun t => (h t).trans uni_mem.symm)
theorem setT_eq {l m : List T3} (h : ∀ t, t ∈ l ↔ t ∈ m) : setT l = setT m := setT_of (uni_nodup l) fun t => uni_mem.trans (h t)
theorem setT_mem {t : T3} {l : List T3} : t ∈ setT l ↔ t ∈ l := (List.mergeSort_perm _ _).mem_iff.trans uni_mem
/-- keys that are triples -/
theorem unK_back {ks : List (List L2.Key)} (h : ∀ k ∈ ks, ∃ t, k = triK t) : ks = (ks.filterMap unK).map triK := by
  induction ks with
  | nil => rfl
  | cons k r ih =>
    obtain ⟨t, rfl⟩ := h k List.mem_cons_self
    rw [List.filterMap_cons_some (show unK (triK t) = some t from rfl), List.map_cons, ← ih fun u hu => h u (List.mem_cons_of_mem _ hu)]
theorem unK_nodup {ks : List (List L2.Key)} (h : ∀ k ∈ ks, ∃ t, k = triK t) (nd : ks.Nodup) : (ks.filterMap unK).Nodup := by
  rw [unK_back h] at nd
  exact nodup_of_map nd
theorem unK_mem {ks : List (List L2.Key)} (h : ∀ k ∈ ks, ∃ t, k = triK t) (t : T3) : t ∈ ks.filterMap unK ↔ triK t ∈ ks := by
  constructor
  · intro m
    rw [unK_back h]
    exact List.mem_map.mpr ⟨t, m, rfl⟩
  · intro m
    exact List.mem_filterMap.mpr ⟨_, m, rfl⟩
/-- a holding in the sorts of its things -/
def kd (th : List Thing) (t : T3) : T3 := ((srt th t.1).getD "", t.2.1, (srt th t.2.2).getD "")
def Known (th : List Thing) (ts : List T3) : Prop := ∀ t ∈ ts, t.1 ∈ nmL th ∧ t.2.2 ∈ nmL th
theorem srt_at {th : List Thing} {n : Str} (h : n ∈ nmL th) : srt th n = some ((srt th n).getD "") := by
  obtain ⟨z, e⟩ := srt_some h
  rw [e]
  rfl
theorem tris_at {K : PySem.W.Frag} {H : Hp} : ∀ {ps : List Addr} {ts : List T3}, TrisAt K H ps ts → ∀ {i : Nat} {x : V}, (ps.map V.ref)[i]? = some x → ∃ p t, x = .ref p ∧ ts[i]? = some t ∧ SqT K H p (triV3 t)
  | [], [], _, i, x, e => by simp at e
  | p :: ps, t :: ts, h, 0, x, e => ⟨p, t, by simpa using e.symm, rfl, h.1⟩
  | p :: ps, t :: ts, h, i + 1, x, e => tris_at h.2 (i := i) (by simpa using e)
  | [], _ :: _, h, _, _, _ => h.elim
  | _ :: _, [], h, _, _, _ => h.elim
theorem memT_same {K : PySem.W.Frag} {H H' : Hp} {L : List (Addr × List L2.Key)} (e : Same H H') (h : MemT K H L) : MemT K H' L := fun m hm => same_seqT e (h m hm)
theorem but_seqT {K : PySem.W.Frag} {p a : Addr} {H H' : Hp} {xs : List V} {o : HO} (b : But p H H') (hp : H p = some o) (n1 : ∀ ys, o ≠ .tup ys) (n2 : ∀ u v, o ≠ .frz u v) (h : SqT K H a xs) : SqT K H' a xs := by
  rcases h with (h | ⟨u, h⟩) | h
  · exact .inl (.inl (b _ _ (ne_of h hp (n1 _).symm) h))
  · exact .inl (.inr ⟨u, b _ _ (ne_of h hp (n2 _ _).symm) h⟩)
  · exact .inr h
theorem seqT_put {K : PySem.W.Frag} {P : Program} {w : World} {H : Hp} {D q : Addr} {L : List (Addr × List L2.Key)} {o : HO} {xs : List V} (hD : H D = some (KSetO P w D L)) (h : SqT K H q xs) : SqT K (upd H D o) q xs :=
  but_seqT But.upd hD (fun _ z => nomatch (show HO.ext _ = HO.tup _ from z)) (fun _ _ z => nomatch (show HO.ext _ = HO.frz _ _ from z)) h
/-- the set while it grows -/
structure Grow (K : PySem.W.Frag) (P : Program) (w : World) (H0 H : Hp) (D : Addr) (us : List T3) : Prop where
  same : ∀ b o, b ≠ D → H0 b = some o → H b = some o
  ex : ∃ L, H D = some (KSetO P w D L) ∧ MemT K H L ∧ (L.map (·.2)).Nodup ∧ (∀ k, k ∈ L.map (·.2) ↔ k ∈ us.map triK) ∧ L.length ≤ us.length
theorem Grow.start {K : PySem.W.Frag} {P : Program} {w : World} {H0 : Hp} {D : Addr} (hD : H0 D = none) : Grow K P w H0 (upd H0 D (KSetO P w D [])) D [] :=
  ⟨fun b o n e => by rw [upd_ne n]; exact e, [], upd_same, fun m hm => absurd hm List.not_mem_nil, List.nodup_nil, fun k => Iff.rfl, Nat.le_refl _⟩
theorem Grow.all {K : PySem.W.Frag} {P : Program} {w : World} {H0 H : Hp} {D : Addr} {us : List T3} (G : Grow K P w H0 H D us) (hD : H0 D = none) : Same H0 H := fun b o e => G.same b o (fun z => by rw [z, hD] at e; cases e) e
theorem Grow.step {K : PySem.W.Frag} {P : Program} {w : World} {H0 H H1 : Hp} {D b : Addr} {us : List T3} {t : T3} (G : Grow K P w H0 H D us) (hS : ∀ a o, H a = some o → H1 a = some o) (hb : SqT K H1 b (triV3 t)) (few : us.length < 63) {Q : Hp → Prop}
    (q : ∀ H', Grow K P w H0 H' D (us ++ [t]) → Q H') : ∃ (b' : Addr) (L : List (Addr × List L2.Key)) (k : List L2.Key), V.ref b = .ref b' ∧ H1 D = some (KSetO P w D L) ∧ MemT K H1 L ∧ SqT K H1 b' (k.map kV) ∧ L.length + 1 < 64 ∧
      ∀ L', (k ∈ L.map (·.2) → L' = L) → (k ∉ L.map (·.2) → L'.Perm ((b', k) :: L)) → Q (upd H1 D (KSetO P w D L')) := by
  obtain ⟨L, e1, e2, e3, e4, e5⟩ := G.ex
  have d1 := hS _ _ e1
  have m1 : MemT K H1 L := memT_same hS e2
  refine ⟨b, L, triK t, rfl, d1, m1, hb, by omega, fun L' c1 c2 => q _ ⟨fun a o n e => by rw [upd_ne n]; exact hS _ _ (G.same a o n e), L', upd_same, ?_⟩⟩
  have keys : ∀ k, k ∈ (us ++ [t]).map triK ↔ k ∈ us.map triK ∨ k = triK t := fun k => by
    rw [List.map_append, List.mem_append, List.map_singleton, List.mem_singleton]
  by_cases h : triK t ∈ L.map (·.2)
  · rw [c1 h]
    refine ⟨fun m hm => seqT_put d1 (m1 m hm), e3, fun k => ?_, by rw [List.length_append]; omega⟩
    rw [keys, e4]
    exact ⟨.inl, fun z => z.elim id fun e => by rw [e]; exact (e4 _).mp h⟩
  · have pm := c2 h
    refine ⟨fun m hm => ?_, ((pm.map (·.2)).nodup_iff).mpr (List.nodup_cons.mpr ⟨h, e3⟩), fun k => ?_, by rw [pm.length_eq, List.length_append]; exact Nat.succ_le_succ e5⟩
    · rcases List.mem_cons.mp (pm.mem_iff.mp hm) with z | z
      · rw [z]
        exact seqT_put d1 hb
      · exact seqT_put d1 (m1 m z)
    · rw [(pm.map (·.2)).mem_iff, List.map_cons, List.mem_cons, keys, e4]
      exact or_comm
/-- a set that holds these and no others -/
def Full (K : PySem.W.Frag) (P : Program) (w : World) (H : Hp) (D : Addr) (us : List T3) : Prop := ∃ L, H D = some (KSetO P w D L) ∧ MemT K H L ∧ (L.map (·.2)).Nodup ∧ ∀ k, k ∈ L.map (·.2) ↔ k ∈ us.map triK
theorem Grow.full {K : PySem.W.Frag} {P : Program} {w : World} {H0 H : Hp} {D : Addr} {us : List T3} (G : Grow K P w H0 H D us) : Full K P w H D us := by
  obtain ⟨L, e1, e2, e3, e4, _⟩ := G.ex
  exact ⟨L, e1, e2, e3, e4⟩
/-- the set as sorted reads it -/
theorem Full.read {K : PySem.W.Frag} {P : Program} {w : World} {H : Hp} {D : Addr} {us : List T3} (G : Full K P w H D us) {Q : V → Hp → Prop} (q : ∀ (qs : List Addr) (p : Addr), TrisAt K H qs (setT us) → H p = none → Q (.ref p) (upd H p (.lst (qs.map V.ref)))) :
    ∃ (a : Addr) (L : List (Addr × List L2.Key)) (ts : List T3), [V.ref D] = [.ref a] ∧ H a = some (KSetO P w a L) ∧ MemT K H L ∧ L.map (·.2) = ts.map triK ∧ ∀ (qs : List Addr) (p : Addr), TrisAt K H qs (sortT ts) → H p = none → Q (.ref p) (upd H p (.lst (qs.map V.ref))) := by
  obtain ⟨L, e1, e2, e3, e4⟩ := G
  have tri : ∀ k ∈ L.map (·.2), ∃ t, k = triK t := fun k hk => by
    obtain ⟨t, _, e⟩ := List.mem_map.mp ((e4 k).mp hk)
    exact ⟨t, e.symm⟩
  refine ⟨D, L, (L.map (·.2)).filterMap unK, rfl, e1, e2, unK_back tri, fun qs p hq hp => q qs p ?_ hp⟩
  have z : sortT ((L.map (·.2)).filterMap unK) = setT us := setT_of (unK_nodup tri e3) fun t => by rw [unK_mem tri, e4, triK_mem]
  rw [← z]
  exact hq
/-- triples as the keys that set() takes -/
theorem tris_keys {K : PySem.W.Frag} {H : Hp} : ∀ {ps : List Addr} {us : List T3}, TrisAt K H ps us → ∃ ks : List (Addr × List L2.Key), ps.map V.ref = ks.map (fun m => V.ref m.1) ∧ ks.map (·.2) = us.map triK ∧ MemT K H ks
  | [], [], _ => ⟨[], rfl, rfl, fun m hm => absurd hm List.not_mem_nil⟩
  | p :: ps, u :: us, h => by
    obtain ⟨ks, a, b, c⟩ := tris_keys h.2
    refine ⟨(p, triK u) :: ks, by rw [List.map_cons, a]; rfl, by rw [List.map_cons, b]; rfl, fun m hm => ?_⟩
    rcases List.mem_cons.mp hm with e | e
    · rw [e]
      exact h.1
    · exact c m e
  | [], _ :: _, h => h.elim
  | _ :: _, [], h => h.elim
theorem set_of_tris {K : PySem.W.Frag} {P : Program} {w : World} {H : Hp} {l : Addr} {ps : List Addr} {us : List T3} (hl : H l = some (.lst (ps.map V.ref))) (h : TrisAt K H ps us) (few : us.length < 64) {Q : V → Hp → Prop} (q : ∀ a o, H a = none → Full K P w (upd H a o) a us → Q (.ref a) (upd H a o)) :
    rSetK K P w [.ref l] H Q := by
  obtain ⟨ks, a, b, c⟩ := tris_keys h
  have z := congrArg List.length b
  rw [List.length_map, List.length_map] at z
  refine ⟨l, ks, rfl, by rw [← a]; exact SqL.of hl, c, by omega, fun D L hD sub all nd => q D _ hD ⟨L, upd_same, fun m hm => same_seqT (Same.upd hD) (c m (sub m hm)), nd, fun k => ?_⟩⟩
  rw [← b]
  constructor
  · intro hk
    obtain ⟨m, hm, e⟩ := List.mem_map.mp hk
    exact List.mem_map.mpr ⟨m, sub m hm, e⟩
  · intro hk
    obtain ⟨m, hm, e⟩ := List.mem_map.mp hk
    rw [← e]
    exact all m hm
theorem tris_snoc {K : PySem.W.Frag} {H : Hp} {q : Addr} {u : T3} : ∀ {ps : List Addr} {us : List T3}, TrisAt K H ps us → SqT K H q (triV3 u) → TrisAt K H (ps ++ [q]) (us ++ [u])
  | [], [], _, h => ⟨h, True.intro⟩
  | _ :: _, _ :: _, h, hq => ⟨h.1, tris_snoc h.2 hq⟩
  | [], _ :: _, h, _ => h.elim
  | _ :: _, [], h, _ => h.elim
def spSh (K : PySem.W.Frag) (HC S : Addr) : Sp := fun vs H Q _ => ∃ (x dx sc d1 d2 d3 : Addr) (ss ws : List Str) (th : List Thing) (ts : List T3), vs = [.ref x] ∧ HsAt HC S H x dx sc d1 d2 d3 ss ws th ts ∧ Known th ts ∧ ts.length < 63 ∧
  ∀ (qs : List Addr) l H', H l = none → Same H H' → H' l = some (.lst (qs.map V.ref)) → TrisAt K H' qs (setT (ts.map (kd th))) → Q (.ref l) H'
def spDu (K : PySem.W.Frag) : Sp := fun vs H Q _ => ∃ (d l : Addr) (ps : List Addr) (th : List Thing) (ts : List T3), vs = [.ref d, .ref l] ∧ H d = some (.dK (k1 th)) ∧ H l = some (.lst (ps.map V.ref)) ∧ TrisAt K H ps ts ∧ Known th ts ∧ ts.length < 63 ∧
  ∀ (qs : List Addr) l H', H l = none → Same H H' → H' l = some (.lst (qs.map V.ref)) → TrisAt K H' qs (setT (ts.map (kd th))) → Q (.ref l) H'
section
variable {P : Program} {w : World} {K : PySem.W.Frag} {mg : Str → Option Value} {base : Heap}
theorem u2 {A : Around} {k : Nat} (hr : Room k A) : A.units + 2 < cLine := by have := hr.units; omega
theorem scSh : FnScope ["house", "x", "word", "y"] ["house"] (defScope sSh) := ⟨rfl, rfl, rfl, by decide +kernel, rfl, by decide +kernel, by decide +kernel⟩
theorem ok_sh {f HC S fH fe fs : Addr} {fd de ds : FuncData} (F : Fun K "sorts_held" "sorts_held" sSh f fd) (tsr : mg "sorted" = none) (TH : TxH K mg HC fH) (mHe : Meth K HC "held" fe) (bHe : Binds K de ["self"] []) (GHe : FnOk P w K mg base CX0 1 fe de ["self"] (spHhe K HC S))
    (mSo : Meth K HC "sort_of" fs) (bSo : Binds K ds ["self", "x"] []) (GSo : FnOk P w K mg base CX0 2 fs ds ["self", "x"] (spHso HC S)) : FnOk P w K mg base CX0 3 f fd ["house"] (spSh K HC S) := by
  refine F.ok scSh (fun vs H Q E h => ?_) (fun cdv A outer s H vs Q E hr h => ?_)
  · obtain ⟨x, dx, sc, d1, d2, d3, ss, ws, th, ts, rfl, _⟩ := h
    rfl
  · obtain ⟨x, dx, sc, d1, d2, d3, ss, ws, th, ts, rfl, hh, kn, few, q⟩ := h
    have hr1 : Room 1 _ := hr.mono (by decide)
    have hr2 : Room 2 _ := hr.mono (by decide)
    have hu2 := u2 hr
    refine ⟨_, (pss_one (ps_ret (pe_callB (cr_sortKS rfl hr.units) (by rfl) tsr (by decide +kernel) (pa_cons (pe_scK (own := [("x", 1), ("word", 2), ("y", 3)]) (g := gTup K 3 (gCons (gName 1) (gCons (gName 2) (gCons (gName 3) gNil)))) (tt := tYes) (te := (tTup (tCons (tMeth HC "sort_of" (spHso HC S) [] E0 (tVar 0) (tCons (tVar 1) tNil)) (tCons (tVar 2) (tCons (tMeth HC "sort_of" (spHso HC S) [] E0 (tVar 0) (tCons (tVar 3) tNil)) tNil))))) hu2 rfl scSh.nd (pi_list (pe_meth0 (pv 0) TH.cl mHe GHe hr1 bHe .nil pass0)) (blkOk_by (N := ["house", "x", "word", "y"]) (sc := defScope sSh) (by decide +kernel)) (fun _ _ _ _ _ => (pg_tup rfl (pgs_cons (pg_name (i := 1) scSh.nd rfl (Or.inl rfl)) (pgs_cons (pg_name (i := 2) scSh.nd rfl (Or.inl rfl)) (pgs_cons (pg_name (i := 3) scSh.nd rfl (Or.inl rfl)) pgs_nil))))) (fun _ _ _ _ _ => pts_nil) (fun _ _ _ _ _ => (pe_tup (pa_cons (pe_meth (pv 0) TH.cl mSo GSo hr2 bSo .nil pass0 (pa_cons (pv 1) pa_nil)) (pa_cons (pv 2) (pa_cons (pe_meth (pv 0) TH.cl mSo GSo hr2 bSo .nil pass0 (pa_cons (pv 3) pa_nil)) pa_nil)))))) pa_nil)))), ?_⟩
    refine ⟨_, rfl, x, dx, _, rfl, hh.hx, hsF_no (by decide +kernel) (by decide +kernel) (by decide +kernel) (by decide +kernel) _ _ _ _, x, dx, sc, d1, d2, d3, ss, ws, th, ts, rfl, hh, fun qs l hq hl => ?_⟩
    have S1 : Same H (upd H l (.lst (qs.map V.ref))) := Same.upd hl
    have e1 : (upd H l (.lst (qs.map V.ref))) l = some (.lst (qs.map V.ref)) := upd_same
    generalize upd H l (.lst (qs.map V.ref)) = H1 at S1 e1
    have h1 := hh.same S1
    refine ⟨l, rfl, ⟨_, SqL.of e1⟩, fun D hD => ?_⟩
    refine cp_list (K := K) (a := l) (xs := qs.map V.ref) (fun i H' => Grow K P w H1 H' D (((sortT ts).take i).map (kd th))) (Grow.start hD) (fun i H' _ G => SqL.of (G.same _ _ (fun z => by rw [z, hD] at e1; cases e1) e1)) ?_ ?_
    · rintro i v H2 hv G
      obtain ⟨p, t, rfl, ht, hp⟩ := tris_at hq hv
      have il := (List.getElem?_eq_some_iff.mp ht).1
      rw [sortT_len] at il
      have S2 := G.all hD
      have h2 := h1.same S2
      have hm : t ∈ ts := (List.mergeSort_perm _ _).mem_iff.mp (List.mem_of_getElem? ht)
      obtain ⟨k1', k2'⟩ := kn t hm
      have no : (hsF sc d1 d2 d3).lookup ("sort_of" : Str) = none := hsF_no (by decide +kernel) (by decide +kernel) (by decide +kernel) (by decide +kernel) _ _ _ _
      refine ⟨p, _, rfl, same_seqT S2 (same_seqT S1 hp), rfl, _, _, rfl, _, _, rfl, _, _, rfl, rfl, rfl, ?_⟩
      refine ⟨_, rfl, x, dx, _, rfl, h2.hx, no, _, rfl, x, dx, sc, d1, d2, d3, t.1, _, ss, ws, th, ts, rfl, h2, srt_at k1', ?_⟩
      refine ⟨_, rfl, _, rfl, x, dx, _, rfl, h2.hx, no, _, rfl, x, dx, sc, d1, d2, d3, t.2.2, _, ss, ws, th, ts, rfl, h2, srt_at k2', ?_⟩
      refine ⟨by show 3 ≤ sizeLine; decide, fun b hb => ?_⟩
      refine G.step (t := kd th t) (Q := fun H' => Grow K P w H1 H' D (((sortT ts).take (i + 1)).map (kd th))) (Same.upd hb) (SqT.of upd_same) ?_ fun H' G' => ?_
      · rw [List.length_map, List.length_take]
        omega
      · rw [List.take_add_one, ht, List.map_append]
        exact G'
    · rintro H2 G
      rw [List.length_map, hq.len, List.take_length] at G
      refine G.full.read fun qs2 r hq2 hr2 => q qs2 r _ (((S1.trans (G.all hD))).free hr2) ((S1.trans (G.all hD)).trans (Same.upd hr2)) upd_same ?_
      rw [setT_eq (l := ts.map (kd th)) (m := (sortT ts).map (kd th)) fun u => ?_]
      · exact hq2.same fun h => same_seqT (Same.upd hr2) h
      · exact ((List.mergeSort_perm _ _).map _).mem_iff.symm
theorem scDu : FnScope ["_law_kinds", "_law_held", "_law_x", "_law_word", "_law_y"] ["_law_kinds", "_law_held"] (defScope sDu) := ⟨rfl, rfl, rfl, by decide +kernel, rfl, by decide +kernel, by decide +kernel⟩
theorem ok_du {f : Addr} {fd : FuncData} (F : Fun K "_law_due" "_law_due" sDu f fd) (tsr : mg "sorted" = none) (tset : mg "set" = none) : FnOk P w K mg base CX0 1 f fd ["_law_kinds", "_law_held"] (spDu K) := by
  refine F.ok scDu (fun vs H Q E h => ?_) (fun cdv A outer s H vs Q E hr h => ?_)
  · obtain ⟨d, l, ps, th, ts, rfl, _⟩ := h
    rfl
  · obtain ⟨d, l, ps, th, ts, rfl, hd, hl, ht, kn, few, q⟩ := h
    have hu := hu_of hr
    refine ⟨_, (pss_one (ps_ret (pe_callB (cr_sortKS rfl hr.units) (by rfl) tsr (by decide +kernel) (pa_cons (pe_callTy (cr_setK rfl hr.units) (by rfl) tset (by decide +kernel) (pa_cons (pe_lc (own := [("_law_x", 2), ("_law_word", 3), ("_law_y", 4)]) (g := gTup K 3 (gCons (gName 2) (gCons (gName 3) (gCons (gName 4) gNil)))) (tt := tYes) (te := (tTup (tCons (tDGet (tVar 0) (tVar 2)) (tCons (tVar 3) (tCons (tDGet (tVar 0) (tVar 4)) tNil))))) rfl scDu.nd (pi_list (pv 1)) (blkOk_by (N := ["_law_kinds", "_law_held", "_law_x", "_law_word", "_law_y"]) (sc := defScope sDu) (by decide +kernel)) (fun _ _ _ _ _ => (pg_tup rfl (pgs_cons (pg_name (i := 2) scDu.nd rfl (Or.inl rfl)) (pgs_cons (pg_name (i := 3) scDu.nd rfl (Or.inl rfl)) (pgs_cons (pg_name (i := 4) scDu.nd rfl (Or.inl rfl)) pgs_nil))))) (fun _ _ _ _ _ => pts_nil) (fun _ _ _ _ _ => (pe_tup (pa_cons (pe_dget hu (pv 0) (pv 2) (fun _ _ => rfl)) (pa_cons (pv 3) (pa_cons (pe_dget hu (pv 0) (pv 4) (fun _ _ => rfl)) pa_nil)))))) pa_nil)) pa_nil)))), ?_⟩
    refine ⟨_, rfl, l, rfl, ⟨_, SqL.of hl⟩, fun M hM => ?_⟩
    refine lc_list (K := K) (a := l) (xs := ps.map V.ref) (fun i H' => Same H H' ∧ ∃ rs : List Addr, H' M = some (.lst (rs.map V.ref)) ∧ TrisAt K H' rs ((ts.take i).map (kd th))) ⟨Same.upd hM, [], upd_same, True.intro⟩ (fun i H' _ z => SqL.of (z.1 _ _ hl)) ?_ ?_
    · rintro i v H2 hv ⟨S2, rs, h2, t2⟩
      obtain ⟨p, t, rfl, hti, hp⟩ := tris_at ht hv
      have il := (List.getElem?_eq_some_iff.mp hti).1
      obtain ⟨k1', k2'⟩ := kn t (List.mem_of_getElem? hti)
      have get : ∀ n, n ∈ nmL th → valV (k1 th) (Sum.inr n) = some (.str ((srt th n).getD "")) := fun n hn => by
        rw [val_srt, srt_at hn]
        rfl
      refine ⟨p, _, rfl, same_seqT S2 hp, rfl, _, _, rfl, _, _, rfl, _, _, rfl, rfl, rfl, ?_⟩
      refine ⟨_, rfl, _, rfl, d, .str ((srt th t.1).getD ""), rfl, ?_, _, rfl, _, rfl, _, rfl, d, .str ((srt th t.2.2).getD ""), rfl, ?_, ?_⟩
      · rw [← get t.1 k1']
        exact DGet.k (k := Sum.inr t.1) (S2 _ _ hd)
      · rw [← get t.2.2 k2']
        exact DGet.k (k := Sum.inr t.2.2) (S2 _ _ hd)
      refine ⟨by show 3 ≤ sizeLine; decide, fun b hb => ?_⟩
      have S3 : Same H2 (upd H2 b (.tup (triV3 (kd th t)))) := Same.upd hb
      have e3 : (upd H2 b (.tup (triV3 (kd th t)))) b = some (.tup (triV3 (kd th t))) := upd_same
      refine ⟨rs.map V.ref, S3 _ _ h2, ?_, fun a o e => ?_, rs ++ [b], by rw [upd_same, List.map_append]; rfl, ?_⟩
      · rw [List.length_map, t2.len, List.length_map, List.length_take]
        exact Nat.lt_of_le_of_lt (show _ ≤ 63 by omega) (by decide)
      · rw [upd_ne (ne_of_none e hM)]
        exact S3 _ _ (S2 _ _ e)
      · rw [List.take_add_one, hti, List.map_append]
        have put : ∀ {a : Addr} {xs : List V}, SqT K (upd H2 b (.tup (triV3 (kd th t)))) a xs → SqT K (upd (upd H2 b (.tup (triV3 (kd th t)))) M (.lst (rs.map V.ref ++ [.ref b]))) a xs := fun h => but_seqT But.upd (S3 _ _ h2) (fun _ z => nomatch z) (fun _ _ z => nomatch z) h
        exact tris_snoc ((t2.same fun h => same_seqT S3 h).same put) (put (SqT.of e3))
    · rintro H2 ⟨S2, rs, h2, t2⟩
      rw [List.length_map, ht.len, List.take_length] at t2
      unfold tNil
      dsimp only
      refine set_of_tris h2 t2 (by rw [List.length_map]; omega) fun D o hD G => ?_
      have S3 := S2.trans (Same.upd (o := o) hD)
      generalize upd H2 D o = H3 at G S3
      exact G.read fun qs2 r hq2 hr2 => q qs2 r _ (S3.free hr2) (S3.trans (Same.upd hr2)) upd_same (hq2.same fun h => same_seqT (Same.upd hr2) h)
end
end Wm
namespace Wm
open PySem L2 StX
/-! ### rows of triples as data -/
def okT (t : T3) : Prop := okS t.1 ∧ okS t.2.1 ∧ okS t.2.2
theorem eqv_self {d : PyData} (h : SeqAt.shaped d = true) : PyData.eqv d d = true := SeqAt.eqv_refl d (SeqAt.canLay_of_shaped h)
theorem strOk_of {z : Str} (h : okS z) : PyData.strOk z = true := by
  unfold PyData.strOk
  rw [Array.all_eq_true_iff_forall_mem]
  intro c hc
  exact decide_eq_true (h c (by simpa using hc))
theorem tri_sh1 {t : T3} (h : okT t) : (triD3 t).canLay0 = true ∧ (triD3 t).depth ≤ 2 := by
  refine ⟨?_, tri_depth t⟩
  simp [triD3, PyData.canLay0, PyData.canLayAll0, strOk_of h.1, strOk_of h.2.1, strOk_of h.2.2]
theorem tris_sh : ∀ {ts : List T3}, (∀ t ∈ ts, okT t) → PyData.canLayAll0 (ts.map triD3) = true ∧ PyData.depthAll (ts.map triD3) ≤ 2
  | [], _ => by simp [PyData.canLayAll0, PyData.depthAll]
  | t :: r, h => by
    obtain ⟨a, b⟩ := tris_sh (ts := r) fun y hy => h y (List.mem_cons_of_mem _ hy)
    obtain ⟨c, d⟩ := tri_sh1 (h t List.mem_cons_self)
    refine ⟨by simp only [List.map_cons, PyData.canLayAll0, c, a, Bool.and_self], ?_⟩
    simp only [List.map_cons, PyData.depthAll]
    omega
def trisD (ts : List T3) : PyData := .list (ts.map triD3)
theorem trisD_sh {ts : List T3} (h : ∀ t ∈ ts, okT t) : SeqAt.shaped (trisD ts) = true := by
  obtain ⟨a, b⟩ := tris_sh h
  unfold trisD
  generalize ts.map triD3 = X at a b
  simp [SeqAt.shaped, PyData.canLay0, PyData.depth, a]
  omega
theorem dp_tris {K : PySem.W.Frag} {H : Hp} : ∀ {ps : List Addr} {ts : List T3}, TrisAt K H ps ts → DpAll K H (ps.map V.ref) (ts.map triD3)
  | [], [], _ => .nil
  | _ :: _, _ :: _, h => .cons (tri_dp h.1) (dp_tris h.2)
  | [], _ :: _, h => h.elim
  | _ :: _, [], h => h.elim
theorem trisD_dp {K : PySem.W.Frag} {H : Hp} {l : Addr} {ps : List Addr} {ts : List T3} (hl : H l = some (.lst (ps.map V.ref))) (h : TrisAt K H ps ts) : Dp K H (.ref l) (trisD ts) := .lst (SqL.of hl) (dp_tris h)
def spRi (K : PySem.W.Frag) (HC S : Addr) : Sp := fun vs H Q _ => ∃ (x dx sc d1 d2 d3 d l : Addr) (ps : List Addr) (ss ws : List Str) (th : List Thing) (ts hs : List T3), vs = [.ref x, .ref d, .ref l] ∧ HsAt HC S H x dx sc d1 d2 d3 ss ws th ts ∧ H d = some (.dK (k1 th)) ∧ H l = some (.lst (ps.map V.ref)) ∧ TrisAt K H ps hs ∧
  Known th ts ∧ (∀ t, t ∈ hs ↔ t ∈ ts) ∧ ts.length < 63 ∧ hs.length < 63 ∧ (∀ t ∈ ts, okT (kd th t)) ∧ ∀ H', Same H H' → Q (.bl true) H'
section
variable {P : Program} {w : World} {K : PySem.W.Frag} {mg : Str → Option Value} {base : Heap}
theorem scRi : FnScope ["_law_house", "_law_kinds", "_law_held", "_law_due_here", "_law_told"] ["_law_house", "_law_kinds", "_law_held"] (defScope sRi) := ⟨rfl, rfl, rfl, by decide +kernel, rfl, by decide +kernel, by decide +kernel⟩
theorem ok_ri {f HC S fh fu : Addr} {fd dh du : FuncData} (F : Fun K "_law_right" "_law_right" sRi f fd) (DSh : Dn K mg "sorts_held" sSh ["house"] fh dh) (GSh : FnOk P w K mg base CX0 3 fh dh ["house"] (spSh K HC S)) (DDu : Dn K mg "_law_due" sDu ["_law_kinds", "_law_held"] fu du) (GDu : FnOk P w K mg base CX0 1 fu du ["_law_kinds", "_law_held"] (spDu K)) :
    FnOk P w K mg base CX0 4 f fd ["_law_house", "_law_kinds", "_law_held"] (spRi K HC S) := by
  refine F.ok scRi (fun vs H Q E h => ?_) (fun cdv A outer s H vs Q E hr h => ?_)
  · obtain ⟨x, dx, sc, d1, d2, d3, d, l, ps, ss, ws, th, ts, hs, rfl, _⟩ := h
    rfl
  · obtain ⟨x, dx, sc, d1, d2, d3, d, l, ps, ss, ws, th, ts, hs, rfl, hh, hd, hl, ht, kn, same, few, few2, ok, q⟩ := h
    have hr1 : Room 1 _ := hr.mono (by decide)
    have hr3 : Room 3 _ := hr.mono (by decide)
    have kn2 : Known th hs := fun t m => kn t ((same t).mp m)
    have okD : ∀ t ∈ setT (ts.map (kd th)), okT t := fun t m => by
      obtain ⟨u, hu, e⟩ := List.mem_map.mp (setT_mem.mp m)
      rw [← e]
      exact ok u hu
    have eqD : setT (hs.map (kd th)) = setT (ts.map (kd th)) := setT_eq fun t => by
      constructor
      · intro m
        obtain ⟨u, hu, e⟩ := List.mem_map.mp m
        exact List.mem_map.mpr ⟨u, (same u).mp hu, e⟩
      · intro m
        obtain ⟨u, hu, e⟩ := List.mem_map.mp m
        exact List.mem_map.mpr ⟨u, (same u).mpr hu, e⟩
    have shD := trisD_sh okD
    refine ⟨_, (pss_cons (ps_set (i := 3) scRi.nd rfl (Or.inl rfl) (pe_call GDu hr1 rfl DDu.g DDu.F.kp DDu.b .nil pass0 (pa_cons (pv 1) (pa_cons (pv 2) pa_nil))))
      (pss_cons (ps_set (i := 4) scRi.nd rfl (Or.inl rfl) (pe_call GSh hr3 rfl DSh.g DSh.F.kp DSh.b .nil pass0 (pa_cons (pv 0) pa_nil)))
      (pss_cons (ps_if (pt_cmpR (op_neD hr.units) (pv 4) (pv 3) (nomark _)) (pss_one (ps_ret pe_bl)) pss_nil)
      (pss_cons (ps_expr (pe_bm PySem.F.plainAttrs_list PySem.F.slot_list_append PySem.F.type_list_append mt_append (pv 4) (pa_cons pe_non pa_nil)))
      (pss_one (ps_ret (pe_cmpR (op_eqD hr.units) (pe_call GSh hr3 rfl DSh.g DSh.F.kp DSh.b .nil pass0 (pa_cons (pv 0) pa_nil)) (pv 3) (nomark _)))))))), ?_⟩
    refine ⟨_, rfl, _, rfl, d, l, ps, th, hs, rfl, hd, hl, ht, kn2, few2, fun qs1 u1 H1 n1 S1 e1 t1 => ?_⟩
    rw [eqD] at t1
    refine ⟨_, rfl, x, dx, sc, d1, d2, d3, ss, ws, th, ts, rfl, hh.same S1, kn, few, fun qs2 u2 H2 n2 S2 e2 t2 => ?_⟩
    refine ⟨_, rfl, _, rfl, _, _, trisD_dp e2 t2, trisD_dp (S2 _ _ e1) (t1.same fun h => same_seqT S2 h), shD, shD, _, rfl, ?_⟩
    rw [eqv_self shD]
    refine iteF ⟨_, rfl, .inl ⟨rfl, _, SqL.of e2⟩, u2, _, _, rfl, rfl, e2, ?_, ?_⟩
    · rw [List.length_map, t2.len, setT, sortT_len]
      have z := (uni_len (ts.map (kd th)))
      rw [List.length_map] at z
      exact Nat.lt_of_le_of_lt (show _ ≤ 63 by omega) (by decide)
    have S3 : Same H1 (upd H2 u2 (.lst (qs2.map V.ref ++ [.non]))) := fun a o e => by
      rw [upd_ne (ne_of_none e n2)]
      exact S2 _ _ e
    generalize upd H2 u2 (.lst (qs2.map V.ref ++ [.non])) = H3 at S3
    refine ⟨_, rfl, x, dx, sc, d1, d2, d3, ss, ws, th, ts, rfl, hh.same (S1.trans S3), kn, few, fun qs3 u3 H4 n3 S4 e3 t3 => ?_⟩
    refine ⟨_, rfl, _, _, trisD_dp e3 t3, trisD_dp (S4 _ _ (S3 _ _ e1)) (t1.same fun h => same_seqT (S3.trans S4) h), shD, shD, ?_⟩
    rw [eqv_self shD]
    exact q _ ((S1.trans S3).trans S4)
end
end Wm
namespace Wm
open PySem L2 StX
theorem low_let : ∀ c : Fin 123, 97 ≤ c.1 → c.1 ∈ LET := by decide +kernel
theorem fig_fig : ∀ c : Fin 58, 48 ≤ c.1 → c.1 ∈ FIG := by decide +kernel
theorem nm_is {z : Str} (h : NmP z) (hl : z.length ≤ 12) : isNm z = true := by
  obtain ⟨c, cs, e, l, r⟩ := h
  have ol : ∀ d, lowC d → d ∈ LET := fun d q => low_let ⟨d, Nat.lt_succ_of_le q.2⟩ q.1
  have of' : ∀ d, figC d → d ∈ FIG := fun d q => fig_fig ⟨d, Nat.lt_succ_of_le q.2⟩ q.1
  have hlen : z.length = (c :: cs).length := by
    rw [← e]
    exact (Array.length_toList).symm
  unfold isNm
  rw [e]
  have a1 : (c :: cs).all okc = true := by
    rw [List.all_eq_true]
    intro d hd
    unfold okc
    rcases List.mem_cons.mp hd with h | h
    · rw [h, decide_eq_true (ol c l)]
      rfl
    · rcases r d h with q | q
      · rw [decide_eq_true (ol d q)]
        rfl
      · rw [decide_eq_true (of' d q), Bool.or_true]
  have a2 : first (c :: cs) = true := by
    unfold first
    exact decide_eq_true (ol c l)
  rw [a1, a2, decide_eq_true hl]
  simp [hlen]

def NotSt (o : HO) : Prop := ∀ x y z : Int, o ≠ .lst [.int x, .int y, .int z]
def Kp (H H' : Hp) : Prop := ∀ a o, NotSt o → H a = some o → H' a = some o
theorem Kp.refl (H : Hp) : Kp H H := fun _ _ _ h => h
theorem Kp.trans {H H1 H2 : Hp} (a : Kp H H1) (b : Kp H1 H2) : Kp H H2 := fun c o n h => b c o n (a c o n h)
theorem Same.kp {H H' : Hp} (s : Same H H') : Kp H H' := fun a o _ h => s a o h
theorem But.kp {p : Addr} {H H' : Hp} (b : But p H H') (s : StOk H p) : Kp H H' := fun a o n h => by
  obtain ⟨x, y, z, e, _⟩ := s
  refine b a o (fun q => ?_) h
  rw [q, e] at h
  exact n x y z (Option.some.inj h).symm
theorem Kp.new {D : Addr} {H H' : Hp} {o : HO} (k : Kp H H') (h : H D = none) : Kp H (upd H' D o) := fun a u n e => by
  rw [upd_ne (ne_of_none e h)]
  exact k a u n e
theorem ns_tup {xs : List V} : NotSt (.tup xs) := fun _ _ _ z => by cases z
theorem ns_dK {xs : List (L2.Key × V)} : NotSt (.dK xs) := fun _ _ _ z => by cases z
theorem ns_ins {C d : Addr} {fs : List (Str × V)} : NotSt (.ins C d fs) := fun _ _ _ z => by cases z
theorem ns_strs {xs : List Str} : NotSt (.lst (xs.map V.str)) := fun _ _ _ z => by
  cases xs with
  | nil => cases z
  | cons a r =>
    have e := HO.lst.inj z
    rw [List.map_cons] at e
    cases (List.cons.inj e).1
theorem ns_refs {xs : List Addr} : NotSt (.lst (xs.map V.ref)) := fun _ _ _ z => by
  cases xs with
  | nil => cases z
  | cons a r =>
    have e := HO.lst.inj z
    rw [List.map_cons] at e
    cases (List.cons.inj e).1
theorem ns_nil : NotSt (.lst []) := fun _ _ _ z => by cases z
theorem ns_frz {ob : Obj} {u : HO} : NotSt (.frz ob u) := fun _ _ _ z => by cases z
theorem Kp.sqT {K : PySem.W.Frag} {H H' : Hp} {a : Addr} {xs : List V} (e : Kp H H') (h : SqT K H a xs) : SqT K H' a xs := by
  rcases h with (h | ⟨o, h⟩) | h
  · exact .inl (.inl (e _ _ ns_tup h))
  · exact .inl (.inr ⟨o, e _ _ ns_frz h⟩)
  · exact .inr h
theorem But.ne {p a : Addr} {H : Hp} {o : HO} (s : StOk H p) (h : H a = some o) (n : NotSt o) : a ≠ p := fun q => by
  obtain ⟨x, y, z, e, _⟩ := s
  rw [q, e] at h
  exact n x y z (Option.some.inj h).symm
theorem st_strs {n : Nat} {H : Hp} {p l : Addr} {zs : List Str} (s : StN n H p) (h : H l = some (.lst (zs.map V.str))) : l ≠ p := But.ne s.ok h ns_strs
theorem cut_ints {ns : List Int} {lo hi : Option Int} {x : V} (h : x ∈ cutV (ns.map V.int) lo hi) : ∃ i, x = .int i := by
  unfold cutV at h
  obtain ⟨i, _, rfl⟩ := List.mem_map.mp (List.mem_of_mem_drop (List.mem_of_mem_take h))
  exact ⟨i, rfl⟩
end Wm
/-! methods called within a try, by place and by name -/
namespace Wm
open PySem PySem.Spec PyProof.Rows L2
def tMethZ (C : Addr) (m : Str) (sp : Sp) (E : L2.St → XK) (ta : TE) (t : TA) : TE := fun σ H Q => ta σ H fun x H1 => ∃ a dx fs, x = .ref a ∧ H1 a = some (.ins C dx fs) ∧ fs.lookup m = none ∧ t σ H1 fun vs H2 => sp (x :: vs) H2 Q (E σ)
section
variable {X : Cx} {CX : CXT} {k : Nat} {f C : Addr} {fd : FuncData} {ps : List Str} {sp : Sp} {E : L2.St → XK} {m : Str} {pos apos kpos : Pos} {e o : Expr} {es : List Expr} {ta te : TE} {t : TA}
theorem pe_methZ {pl : Sem Bool} (he : PE X o ta) (c : Cls X.K C) (hm : Meth X.K C m f) (F : FnOk X.prog X.w X.K X.mg X.base CX k f fd ps sp) (hr : Room k X.A) (hb : Binds X.K fd ps []) (hx : ∀ σ, PassesAt CX X σ (E σ)) (ha : PA X (e :: es) t)
    (hst : starEach (e :: es) X.env = (false, eval e X.env) :: starEach es X.env := by rfl) (hpl : (backTo pos (starEach es X.env)).any (·.1) = false := by rfl)
    (ht : eval (.Call (.Attribute o m apos) (e :: es) [] pos) X.env = (do
      let ov ← eval o X.env
      standAt apos.atName
      let (f, first) ← holding [ov] (getMethod ov m pl)
      callWith pos f first (backTo pos (starEach (e :: es) X.env)) (backToKw pos (keywordEach [] X.env))) := by rfl) :
    PE X (.Call (.Attribute o m apos) (e :: es) [] pos) (tMethZ C m sp E ta t) := by
  refine ⟨fun pins s σ H Q I h => ?_⟩
  refine PySem.W.methodCall_KW (pl := pl) (thn (he.run pins s σ H _ I h) fun u s1 hh => ?_) ht
  obtain ⟨x, H1, I1, rx, a, dx, fs, ex, ea, l, q⟩ := hh
  subst ex
  obtain rfl : u = Value.ref a := rx
  refine getmeth_ok I1 ea c hm l ?_
  refine PySem.W.callWith_K (first := [.ref a]) (h₀ := X.base) I.ok.mod.kin hm.kp (thn (ha.run pos pins s1 σ H1 _ I1 q) fun us s2 hh => ?_) hst hpl
  obtain ⟨vs, H2, I2, r, q2⟩ := hh
  exact ⟨I2.kIn, run_fnS (us := .ref a :: us) (vs := .ref a :: vs) F hr hb (hx σ) I2 (.cons rfl r) q2⟩
/-- how one keyword is bound behind the object itself -/
def KwOne (K : PySem.W.Frag) (fd : FuncData) (ps : List Str) (x : Str) : Prop := ∀ (s : Shared) (u v : Value), K.In s.heap → BindsTo s fd ⟨[u], [(x, v)]⟩ (ps.zip [u, v])
/-- o.m(x=e) -/
theorem pe_methKZ {pl : Sem Bool} {x : Str} (ho : PE X o ta) (c : Cls X.K C) (hm : Meth X.K C m f) (F : FnOk X.prog X.w X.K X.mg X.base CX k f fd ps sp) (hr : Room k X.A) (hb : KwOne X.K fd ps x) (hx : ∀ σ, PassesAt CX X σ (E σ)) (he : PE X e te)
    (ht : eval (.Call (.Attribute o m apos) [] [⟨some x, e, kpos⟩] pos) X.env = (do
      let ov ← eval o X.env
      standAt apos.atName
      let (f, first) ← holding [ov] (getMethod ov m pl)
      callWith pos f first (backTo pos (starEach [] X.env)) (backToKw pos (keywordEach [⟨some x, e, kpos⟩] X.env))) := by rfl)
    (hall : (backToKw pos (keywordEach [⟨some x, e, kpos⟩] X.env)).all (·.1.isSome) = true := by rfl) (hks : (backToKw pos (keywordEach [⟨some x, e, kpos⟩] X.env)).filterMap (·.1) = [x] := by rfl) (hpl : ((backTo pos (starEach [] X.env)).any (·.1) || (backToKw pos (keywordEach [⟨some x, e, kpos⟩] X.env)).any (·.1.isNone)) = false := by rfl) (hps : ps.length = 2 := by rfl) :
    PE X (.Call (.Attribute o m apos) [] [⟨some x, e, kpos⟩] pos) (tMethZ C m sp E ta (tCons te tNil)) := by
  refine ⟨fun pins s σ H Q I h => ?_⟩
  refine PySem.W.methodCall_KW (pl := pl) (thn (ho.run pins s σ H _ I h) fun u s1 hh => ?_) ht
  obtain ⟨y, H1, I1, rx, a, dx, fs, ex, ea, l, q⟩ := hh
  subst ex
  obtain rfl : u = Value.ref a := rx
  refine getmeth_ok I1 ea c hm l ?_
  have hkw : PK X [⟨some x, e, kpos⟩] (tCons te tNil) := pk_cons he pk_nil
  refine PySem.W.callWith_KW0 (first := [.ref a]) (h₀ := X.base) I.ok.mod.kin hm.kp hall (thn (hkw.run pos pins s1 σ H1 _ I1 q) fun ws s2 hh => ?_) hpl
  obtain ⟨zs, H2, I2, rz, q2⟩ := hh
  refine ⟨I2.kIn, ?_⟩
  rw [hks]
  have hl := F.len _ _ _ _ q2
  cases rz with
  | nil =>
    rw [hps] at hl
    simp at hl
  | @cons v0 u0 vr ur r1 r2 =>
    cases r2 with
    | cons _ _ =>
      rw [hps] at hl
      simp at hl
    | nil =>
      have rv : Vals [V.ref a, v0] [Value.ref a, u0] := .cons rfl (.cons r1 .nil)
      refine wpAny_call (codeAny_mono (F.run X.A X.stack s2 H2 ⟨[Value.ref a], [(x, u0)]⟩ [Value.ref a, u0] [V.ref a, v0] Q (E σ) hr I2.env0 (hb s2 _ u0 I2.kIn) rv q2) fun r s' hq => ?_)
      cases r with
      | error er => exact hx σ pins H2 s2 er s' I2 hq
      | ok fl =>
        cases fl with
        | ret u => exact I2.after hq
        | next => exact False.elim hq
        | brk => exact False.elim hq
        | cont => exact False.elim hq
end
end Wm
/-! methods called by several names; != of two lists that hold the very same objects; what keywords bind -/
namespace Wm
open PySem PySem.Spec PyProof.Rows L2
def tMethK (C : Addr) (m : Str) (n : Nat) (sp : Sp) (gV : List V → List V → List V) (E : L2.St → XK) (ta : TE) (tk : TA) : TE := fun σ H Q => ta σ H fun x H1 => ∃ a dx fs, x = .ref a ∧ H1 a = some (.ins C dx fs) ∧ fs.lookup m = none ∧ tk σ H1 fun zs H2 => zs.length = n ∧ sp (gV [x] zs) H2 Q (E σ)
section
variable {X : Cx} {CX : CXT} {k : Nat} {f C : Addr} {fd : FuncData} {ps ks : List Str} {sp : Sp} {E : L2.St → XK} {m : Str} {pos apos : Pos} {o : Expr} {kws : List Keyword} {ta : TE} {tk : TA} {g : List Value → List Value → List Value} {gV : List V → List V → List V}
/-- o.m(k = v, ..) -/
theorem pe_methKN {pl : Sem Bool} (ho : PE X o ta) (c : Cls X.K C) (hm : Meth X.K C m f) (F : FnOk X.prog X.w X.K X.mg X.base CX k f fd ps sp) (hr : Room k X.A) (hb : KBn X.K fd ps 1 ks g gV) (hx : ∀ σ, PassesAt CX X σ (E σ)) (hkw : PK X kws tk)
    (ht : eval (.Call (.Attribute o m apos) [] kws pos) X.env = (do
      let ov ← eval o X.env
      standAt apos.atName
      let (f, first) ← holding [ov] (getMethod ov m pl)
      callWith pos f first (backTo pos (starEach [] X.env)) (backToKw pos (keywordEach kws X.env))) := by rfl)
    (hall : (backToKw pos (keywordEach kws X.env)).all (·.1.isSome) = true := by rfl) (hks : (backToKw pos (keywordEach kws X.env)).filterMap (·.1) = ks := by rfl) (hpl : ((backTo pos (starEach [] X.env)).any (·.1) || (backToKw pos (keywordEach kws X.env)).any (·.1.isNone)) = false := by rfl) :
    PE X (.Call (.Attribute o m apos) [] kws pos) (tMethK C m ks.length sp gV E ta tk) := by
  refine ⟨fun pins s σ H Q I h => ?_⟩
  refine PySem.W.methodCall_KW (pl := pl) (thn (ho.run pins s σ H _ I h) fun u s1 hh => ?_) ht
  obtain ⟨y, H1, I1, rx, a, dx, fs, ex, ea, l, q⟩ := hh
  subst ex
  obtain rfl : u = Value.ref a := rx
  refine getmeth_ok I1 ea c hm l ?_
  refine PySem.W.callWith_KW0 (first := [.ref a]) (h₀ := X.base) I.ok.mod.kin hm.kp hall (thn (hkw.run pos pins s1 σ H1 _ I1 q) fun ws s2 hh => ?_) hpl
  obtain ⟨zs, H2, I2, rz, l2, q2⟩ := hh
  refine ⟨I2.kIn, ?_⟩
  rw [hks]
  have rv : Vals (gV [V.ref a] zs) (g [Value.ref a] ws) := hb.rel (.cons rfl .nil) rz
  refine wpAny_call (codeAny_mono (F.run X.A X.stack s2 H2 ⟨[Value.ref a], ks.zip ws⟩ (g [Value.ref a] ws) (gV [V.ref a] zs) Q (E σ) hr I2.env0 (hb.to s2 [Value.ref a] ws I2.kIn rfl (rz.length.symm.trans l2)) rv q2) fun r s' hq => ?_)
  cases r with
  | error er => exact hx σ pins H2 s2 er s' I2 hq
  | ok fl =>
    cases fl with
    | ret u => exact I2.after hq
    | next => exact False.elim hq
    | brk => exact False.elim hq
    | cont => exact False.elim hq
end
theorem pass0At {X : Cx} {E : L2.St → XK} : ∀ σ, PassesAt CX0 X σ (E σ) := fun _ _ _ _ _ _ _ h => h.elim
theorem vals_refs : ∀ {as : List Addr} {us : List Value}, Vals (as.map V.ref) us → us = as.map Value.ref
  | [], _, .nil => rfl
  | a :: as, _, .cons h r => by
    have e := vals_refs (as := as) r
    cases h
    rw [e]
    rfl
/-- a != b, two lists that hold the very same objects -/
def rNeS : R2 := fun x y H Q => ∃ (a b : Addr) (as : List Addr), x = .ref a ∧ y = .ref b ∧ H a = some (.lst (as.map V.ref)) ∧ H b = some (.lst (as.map V.ref)) ∧ Q (.bl false) H
theorem op_neS {X : Cx} (hu : X.A.units < cLine) : OpR X (compareOp .NotEq) rNeS := by
  intro pins s σ H x y v u Q I rx ry h
  obtain ⟨a, b, as, rfl, rfl, ha, hb, q⟩ := h
  cases rx
  cases ry
  obtain ⟨z, its, k, r, e⟩ := I.hok a _ ha
  obtain ⟨z2, its2, k2, r2, e2⟩ := I.hok b _ hb
  have h1 := vals_refs r
  have h2 := vals_refs r2
  subst h1
  subst h2
  have hr := SeqAt.RcNeAt.lists (A := X.A) (s := s) (l := a) (b := b) (items := (as.map Value.ref).toArray) (items2 := (as.map Value.ref).toArray) (e := fun _ => true) ⟨_, e, rfl, _, rfl⟩ ⟨_, e2, rfl, _, rfl⟩ rfl hu (fun j h1 h2 => SeqAt.EqAt.same _)
  have e3 : (!(List.range (as.map Value.ref).toArray.size).all fun _ => true) = false := by simp
  rw [e3] at hr
  show wpAny _ _ (richCompare .NotEq (.ref a) (.ref b)) _ _ _
  exact hr X.prog X.w X.xe _ ⟨.bl false, H, I, rfl, q⟩
theorem FunD.kb0 {K : PySem.W.Frag} {x qual : Str} {params : Arguments} {body : List Stmt} {scope : Scope} {f : Addr} {fd : FuncData} {ps : List Str} (F : FunD K x qual params body scope [] [] f fd) (n : Nat) (ks : List Str) (g : {α : Type} → List α → List α → List α)
    (hrel : ∀ {vs zs : List V} {us ws : List Value}, Vals vs us → Vals zs ws → Vals (g vs zs) (g us ws))
    (h : ∀ (kV doc pm : Value) (an : Option Addr) (cdv ct : Value) (us ws : List Value), us.length = n → ws.length = ks.length → bindArgs (PySem.W.fnOf x qual params body scope .none kV doc pm an cdv ct) ⟨us, ks.zip ws⟩ = pure (ps.zip (g us ws))) : KBn K fd ps n ks (fun us ws => g us ws) (fun vs zs => g vs zs) := by
  obtain ⟨oc, od, dV, kV, doc, pm, an, cdv, ct, osl, rfl, lk, hcd, hD, hK⟩ := F.ex
  rcases hD with ⟨_, rfl⟩ | ⟨e, _⟩
  · exact ⟨fun s us ws X l1 l2 => .of_eq (h kV doc pm an cdv ct us ws l1 l2), fun r1 r2 => hrel r1 r2⟩
  · exact absurd rfl e
/-! ### orders of what is handed in by name -/
def g1 {α : Type} : List α → List α → List α
  | [x], [a] => [x, a]
  | _, _ => []
def g2 {α : Type} : List α → List α → List α
  | [x], [a, b] => [x, b, a]
  | _, _ => []
def g3 {α : Type} : List α → List α → List α
  | [x], [c, n, v] => [x, n, v, c]
  | _, _ => []
def g4 {α : Type} : List α → List α → List α
  | [x], [u, d, md, mk] => [x, mk, md, d, u]
  | _, _ => []
def g5 {α : Type} : List α → List α → List α
  | [x], [b, g, c, v, n] => [x, n, v, c, g, b]
  | _, _ => []
def g5s {α : Type} : List α → List α → List α
  | [x], [b, r, w, m, s] => [x, s, w, m, r, b]
  | _, _ => []
def g3s {α : Type} : List α → List α → List α → List α
  | [x], [m0, _, b0], [r, s, w] => [x, s, w, m0, r, b0]
  | _, _, _ => []
theorem g1_rel {vs zs : List V} {us ws : List Value} (h1 : Vals vs us) (h2 : Vals zs ws) : Vals (g1 vs zs) (g1 us ws) := by
  rcases h1 with _ | ⟨a, _ | ⟨_, _⟩⟩
  · exact .nil
  · rcases h2 with _ | ⟨b, _ | ⟨_, _⟩⟩
    · exact .nil
    · exact .cons a (.cons b .nil)
    · exact .nil
  · exact .nil
theorem g2_rel {vs zs : List V} {us ws : List Value} (h1 : Vals vs us) (h2 : Vals zs ws) : Vals (g2 vs zs) (g2 us ws) := by
  rcases h1 with _ | ⟨a, _ | ⟨_, _⟩⟩
  · exact .nil
  · rcases h2 with _ | ⟨b, _ | ⟨c, _ | ⟨_, _⟩⟩⟩
    · exact .nil
    · exact .nil
    · exact .cons a (.cons c (.cons b .nil))
    · exact .nil
  · exact .nil
theorem g3_rel {vs zs : List V} {us ws : List Value} (h1 : Vals vs us) (h2 : Vals zs ws) : Vals (g3 vs zs) (g3 us ws) := by
  rcases h1 with _ | ⟨a, _ | ⟨_, _⟩⟩
  · exact .nil
  · rcases h2 with _ | ⟨b, _ | ⟨c, _ | ⟨d, _ | ⟨_, _⟩⟩⟩⟩
    · exact .nil
    · exact .nil
    · exact .nil
    · exact .cons a (.cons c (.cons d (.cons b .nil)))
    · exact .nil
  · exact .nil
theorem g4_rel {vs zs : List V} {us ws : List Value} (h1 : Vals vs us) (h2 : Vals zs ws) : Vals (g4 vs zs) (g4 us ws) := by
  rcases h1 with _ | ⟨a, _ | ⟨_, _⟩⟩
  · exact .nil
  · rcases h2 with _ | ⟨b, _ | ⟨c, _ | ⟨d, _ | ⟨e, _ | ⟨_, _⟩⟩⟩⟩⟩
    · exact .nil
    · exact .nil
    · exact .nil
    · exact .nil
    · exact .cons a (.cons e (.cons d (.cons c (.cons b .nil))))
    · exact .nil
  · exact .nil
theorem g5_rel {vs zs : List V} {us ws : List Value} (h1 : Vals vs us) (h2 : Vals zs ws) : Vals (g5 vs zs) (g5 us ws) := by
  rcases h1 with _ | ⟨a, _ | ⟨_, _⟩⟩
  · exact .nil
  · rcases h2 with _ | ⟨b, _ | ⟨c, _ | ⟨d, _ | ⟨e, _ | ⟨f, _ | ⟨_, _⟩⟩⟩⟩⟩⟩
    · exact .nil
    · exact .nil
    · exact .nil
    · exact .nil
    · exact .nil
    · exact .cons a (.cons f (.cons e (.cons d (.cons c (.cons b .nil)))))
    · exact .nil
  · exact .nil
theorem g5s_rel {vs zs : List V} {us ws : List Value} (h1 : Vals vs us) (h2 : Vals zs ws) : Vals (g5s vs zs) (g5s us ws) := by
  rcases h1 with _ | ⟨a, _ | ⟨_, _⟩⟩
  · exact .nil
  · rcases h2 with _ | ⟨b, _ | ⟨c, _ | ⟨d, _ | ⟨e, _ | ⟨f, _ | ⟨_, _⟩⟩⟩⟩⟩⟩
    · exact .nil
    · exact .nil
    · exact .nil
    · exact .nil
    · exact .nil
    · exact .cons a (.cons f (.cons d (.cons e (.cons c (.cons b .nil)))))
    · exact .nil
  · exact .nil
theorem g3s_rel {vs ds zs : List V} {us its ws : List Value} (h1 : Vals vs us) (h0 : Vals ds its) (h2 : Vals zs ws) : Vals (g3s vs ds zs) (g3s us its ws) := by
  rcases h1 with _ | ⟨a, _ | ⟨_, _⟩⟩
  · exact .nil
  · rcases h0 with _ | ⟨p, _ | ⟨q, _ | ⟨r, _ | ⟨_, _⟩⟩⟩⟩
    · exact .nil
    · exact .nil
    · exact .nil
    · rcases h2 with _ | ⟨b, _ | ⟨c, _ | ⟨d, _ | ⟨_, _⟩⟩⟩⟩
      · exact .nil
      · exact .nil
      · exact .nil
      · exact .cons a (.cons c (.cons d (.cons p (.cons b (.cons r .nil)))))
      · exact .nil
    · exact .nil
  · exact .nil
end Wm
/-! a list held against the empty list; a list of lists held against another of the same contents -/
namespace Wm
open PySem PySem.Spec PyProof.Rows L2
def rNeE : R2 := fun x y H Q => ∃ (a b : Addr) (xs : List V), x = .ref a ∧ y = .ref b ∧ H a = some (.lst xs) ∧ H b = some (.lst []) ∧ Q (.bl (!xs.isEmpty)) H
def rEqE : R2 := fun x y H Q => ∃ (a b : Addr) (xs : List V), x = .ref a ∧ y = .ref b ∧ H a = some (.lst xs) ∧ H b = some (.lst []) ∧ Q (.bl xs.isEmpty) H
theorem vals_len {xs : List V} {us : List Value} (h : Vals xs us) : us.length = xs.length := h.length.symm
theorem op_neE {X : Cx} (hu1 : X.A.units + 1 < cLine) : OpR X (compareOp .NotEq) rNeE := by
  have hu : X.A.units < cLine := by omega
  intro pins s σ H x y v u Q I rx ry h
  obtain ⟨a, b, xs, rfl, rfl, ha, hb, q⟩ := h
  cases rx
  cases ry
  obtain ⟨z, its, k, r, e⟩ := I.hok a _ ha
  obtain ⟨z2, its2, k2, r2, e2⟩ := I.hok b _ hb
  cases r2
  show wpAny _ _ (richCompare .NotEq (.ref a) (.ref b)) _ _ _
  cases xs with
  | nil =>
    cases r
    have hr := SeqAt.RcNeAt.lists (A := X.A) (s := s) (l := a) (b := b) (items := #[]) (items2 := #[]) (e := fun _ => true) ⟨_, e, rfl, _, rfl⟩ ⟨_, e2, rfl, _, rfl⟩ rfl hu (fun j h1 h2 => absurd h1 (by simp))
    exact hr X.prog X.w X.xe _ ⟨.bl false, H, I, rfl, q⟩
  | cons w ws =>
    have hr := SeqAt.RcNeAt.lists_lengths (A := X.A) (s := s) (l := a) (b := b) (items := its.toArray) (items2 := #[]) ⟨_, e, rfl, _, rfl⟩ ⟨_, e2, rfl, _, rfl⟩ (by
      have l := vals_len r
      simp at l
      simp [l]) hu
    exact hr X.prog X.w X.xe _ ⟨.bl true, H, I, rfl, q⟩
theorem op_eqE {X : Cx} (hu1 : X.A.units + 1 < cLine) : OpR X (compareOp .Eq) rEqE := by
  have hu : X.A.units < cLine := by omega
  intro pins s σ H x y v u Q I rx ry h
  obtain ⟨a, b, xs, rfl, rfl, ha, hb, q⟩ := h
  cases rx
  cases ry
  obtain ⟨z, its, k, r, e⟩ := I.hok a _ ha
  obtain ⟨z2, its2, k2, r2, e2⟩ := I.hok b _ hb
  cases r2
  show wpAny _ _ (richCompare .Eq (.ref a) (.ref b)) _ _ _
  cases xs with
  | nil =>
    cases r
    have hr := SeqAt.RcAt.lists (A := X.A) (s := s) (l := a) (b := b) (items := #[]) (items2 := #[]) (e := fun _ => true) ⟨_, e, rfl, _, rfl⟩ ⟨_, e2, rfl, _, rfl⟩ rfl hu (fun j h1 h2 => absurd h1 (by simp))
    exact hr X.prog X.w X.xe _ ⟨.bl true, H, I, rfl, q⟩
  | cons w ws =>
    have hr := SeqAt.RcAt.lists_lengths (A := X.A) (s := s) (l := a) (b := b) (items := its.toArray) (items2 := #[]) ⟨_, e, rfl, _, rfl⟩ ⟨_, e2, rfl, _, rfl⟩ (by
      have l := vals_len r
      simp at l
      simp [l]) hu
    exact hr X.prog X.w X.xe _ ⟨.bl false, H, I, rfl, q⟩
/-! ### lists of lists -/
def fltV (v : V) : Prop := (∃ z, v = .str z) ∨ ∃ a, v = .ref a
theorem eq_flat {A : Around} {s : Shared} {v : V} {u w : Value} (f : fltV v) (r1 : RelV v u) (r2 : RelV v w) : SeqAt.EqAt A s u w true := by
  rcases f with ⟨z, rfl⟩ | ⟨a, rfl⟩
  · obtain ⟨t, rfl⟩ := r1
    obtain ⟨t', rfl⟩ := r2
    have h := SeqAt.EqAt.str_str (A := A) (s := s) z t z t'
    rw [beq_self_eq_true] at h
    exact h
  · cases r1
    cases r2
    exact SeqAt.EqAt.same _
theorem vals_at : ∀ {xs : List V} {us : List Value}, Vals xs us → ∀ (j : Nat) (h1 : j < xs.length) (h2 : j < us.length), RelV xs[j] us[j]
  | _, _, .nil, j, h1, _ => absurd h1 (by simp)
  | _, _, .cons r t, 0, _, _ => r
  | _, _, .cons r t, j + 1, h1, h2 => vals_at t j (by simpa using h1) (by simpa using h2)
theorem eq_lsts {X : Cx} {pins : List (Addr × Obj)} {σ : L2.St} {H : Hp} {s : Shared} {A : Around} (I : Inv X pins σ H s) (hu : A.units < cLine) {p q : Addr} {xs : List V} (hp : H p = some (.lst xs)) (hq : H q = some (.lst xs)) (fl : ∀ v ∈ xs, fltV v) : SeqAt.EqAt A s (.ref p) (.ref q) true := by
  by_cases ne : p = q
  · rw [ne]
    exact SeqAt.EqAt.same _
  · obtain ⟨z, its, k, r, e⟩ := I.hok p _ hp
    obtain ⟨z2, its2, k2, r2, e2⟩ := I.hok q _ hq
    have l1 := vals_len r
    have l2 := vals_len r2
    have hr := SeqAt.RcAt.lists (A := A) (s := s) (l := p) (b := q) (items := its.toArray) (items2 := its2.toArray) (e := fun _ => true) ⟨_, e, rfl, _, rfl⟩ ⟨_, e2, rfl, _, rfl⟩ (by simp [l1, l2]) hu (fun j h1 h2 => by
      have h1' : j < its.length := by simpa using h1
      have h2' : j < its2.length := by simpa using h2
      have hx : j < xs.length := by omega
      have q := eq_flat (A := A.in1) (s := s) (fl _ (List.getElem_mem hx)) (vals_at r j hx h1') (vals_at r2 j hx h2')
      simpa using q)
    have e3 : ((List.range its.toArray.size).all fun _ => true) = true := by simp
    rw [e3] at hr
    exact SeqAt.EqAt.of_refs ne hr
def rNeLL : R2 := fun x y H Q => ∃ (a b : Addr) (as bs : List Addr), x = .ref a ∧ y = .ref b ∧ H a = some (.lst (as.map V.ref)) ∧ H b = some (.lst (bs.map V.ref)) ∧ as.length = bs.length ∧ (∀ (i : Nat) (p q : Addr), as[i]? = some p → bs[i]? = some q → ∃ xs, H p = some (.lst xs) ∧ H q = some (.lst xs) ∧ ∀ v ∈ xs, fltV v) ∧ Q (.bl false) H
theorem op_neLL {X : Cx} (hu : X.A.units + 1 < cLine) : OpR X (compareOp .NotEq) rNeLL := by
  intro pins s σ H x y v u Q I rx ry h
  obtain ⟨a, b, as, bs, rfl, rfl, ha, hb, hl, hi, q⟩ := h
  cases rx
  cases ry
  obtain ⟨z, its, k, r, e⟩ := I.hok a _ ha
  obtain ⟨z2, its2, k2, r2, e2⟩ := I.hok b _ hb
  have h1 := vals_refs r
  have h2 := vals_refs r2
  subst h1
  subst h2
  have hr := SeqAt.RcNeAt.lists (A := X.A) (s := s) (l := a) (b := b) (items := (as.map Value.ref).toArray) (items2 := (bs.map Value.ref).toArray) (e := fun _ => true) ⟨_, e, rfl, _, rfl⟩ ⟨_, e2, rfl, _, rfl⟩ (by simp [hl]) (by omega) (fun j h1 h2 => by
    have h1' : j < as.length := by simpa using h1
    have h2' : j < bs.length := by simpa using h2
    obtain ⟨xs, hp, hq, fl⟩ := hi j as[j] bs[j] (List.getElem?_eq_getElem h1') (List.getElem?_eq_getElem h2')
    have q := eq_lsts (A := X.A.in1) I (by show X.A.units + 1 < cLine; exact hu) hp hq fl
    simpa using q)
  have e3 : (!(List.range (as.map Value.ref).toArray.size).all fun _ => true) = false := by simp
  rw [e3] at hr
  show wpAny _ _ (richCompare .NotEq (.ref a) (.ref b)) _ _ _
  exact hr X.prog X.w X.xe _ ⟨.bl false, H, I, rfl, q⟩
end Wm
namespace Wm
open PySem L2 StX
def spCel (K : PySem.W.Frag) : Sp := fun vs H Q _ => ∃ (a : Addr) (ns : List Int) (j : Nat), vs = [.ref a, .int j] ∧ SqL K H a (ns.map V.int) ∧ ∀ i : Int, Q (.int i) H
def spLaw (K : PySem.W.Frag) : Sp := fun vs H Q _ => ∃ (a : Addr) (ns : List Int), vs = [.ref a] ∧ SqL K H a (ns.map V.int) ∧ ns.length ≤ 63 ∧ ∀ H', Q (.bl true) H'
theorem okS_nm {z : Str} (h : NmP z) : okS z := fun c hc => by
  obtain ⟨d, ds, e, l, r⟩ := h
  rw [e] at hc
  rcases List.mem_cons.mp hc with q | q
  · have := l.2
    omega
  · rcases r c q with w | w
    · have := w.2
      omega
    · have := w.2
      omega
/-- what stands ahead of a turn -/
structure Now (K : PySem.W.Frag) (HC S : Addr) (H : Hp) (x dx sc d1 d2 d3 d hl : Addr) (ss ws : List Str) (th : List Thing) (ts hs : List T3) (n : Nat) : Prop where
  ho : HsAt HC S H x dx sc d1 d2 d3 ss ws th ts
  ki : H d = some (.dK (k1 th))
  he : ∃ ps, H hl = some (.lst (ps.map V.ref)) ∧ TrisAt K H ps hs
  kn : Known th ts
  eq : ∀ t, t ∈ hs ↔ t ∈ ts
  n1 : hs.length ≤ n
  n2 : ts.length ≤ n
  n3 : th.length ≤ n
  so : ∀ t ∈ th, t.2.1 ∈ ss
  nm : ∀ t ∈ th, NmP t.1
  wd : ∀ t ∈ ts, t.2.1 ∈ ws
theorem HsAt.kp {HC S x dx sc d1 d2 d3 : Addr} {H H' : Hp} {ss ws : List Str} {th : List Thing} {ts : List T3} (k : Kp H H') (h : HsAt HC S H x dx sc d1 d2 d3 ss ws th ts) : HsAt HC S H' x dx sc d1 d2 d3 ss ws th ts := by
  obtain ⟨dy, l1, l2, l3, l4, l5, q1, q2, q3⟩ := h.hs.ex
  exact ⟨k _ _ ns_ins h.hx, ⟨dy, l1, l2, l3, l4, l5, k _ _ ns_ins q1, k _ _ ns_strs q2, k _ _ ns_strs q3⟩, k _ _ ns_dK h.h1, k _ _ ns_dK h.h2, k _ _ (fun _ _ _ z => nomatch z) h.h3, h.ne⟩
/-- a change of another dict of texts -/
theorem HsAt.other {HC S x dx sc d1 d2 d3 d : Addr} {H : Hp} {o : HO} {kvs : List (L2.Key × V)} {ss ws : List Str} {th : List Thing} {ts : List T3} (hd : H d = some (.dK kvs)) (a1 : d ≠ d1) (a2 : d ≠ d2) (h : HsAt HC S H x dx sc d1 d2 d3 ss ws th ts) : HsAt HC S (upd H d o) x dx sc d1 d2 d3 ss ws th ts :=
  ⟨(upd_ne (ne_of h.hx hd (by intro z; cases z))).trans h.hx, h.hs.but But.upd hd (fun _ _ _ z => by cases z) (fun _ z => by cases z), (upd_ne a1.symm).trans h.h1, (upd_ne a2.symm).trans h.h2, (upd_ne (ne_of h.h3 hd (by intro z; cases z))).trans h.h3, h.ne⟩
section
variable {K : PySem.W.Frag} {HC S : Addr} {H H' : Hp} {x dx sc d1 d2 d3 d hl : Addr} {ss ws : List Str} {th : List Thing} {ts hs : List T3} {n : Nat}
theorem Now.kp (k : Kp H H') (N : Now K HC S H x dx sc d1 d2 d3 d hl ss ws th ts hs n) : Now K HC S H' x dx sc d1 d2 d3 d hl ss ws th ts hs n := by
  obtain ⟨ps, e, t⟩ := N.he
  exact ⟨N.ho.kp k, k _ _ ns_dK N.ki, ⟨ps, k _ _ ns_refs e, t.same fun h => k.sqT h⟩, N.kn, N.eq, N.n1, N.n2, N.n3, N.so, N.nm, N.wd⟩
end
theorem nm_srt {th : List Thing} {n : Str} {ss : List Str} (so : ∀ t ∈ th, t.2.1 ∈ ss) (h : n ∈ nmL th) : (srt th n).getD "" ∈ ss := by
  have e := srt_at h
  unfold srt at e ⊢
  cases q : th.find? (fun t => decide (t.1 = n)) with
  | none =>
    rw [q] at e
    cases e
  | some t => exact so t (List.mem_of_find?_eq_some q)
theorem kd_ok {th : List Thing} {ss ws : List Str} {ts : List T3} (so : ∀ t ∈ th, t.2.1 ∈ ss) (kn : Known th ts) (wd : ∀ t ∈ ts, t.2.1 ∈ ws) (h1 : ∀ z ∈ ss, NmP z) (h2 : ∀ z ∈ ws, NmP z) : ∀ t ∈ ts, okT (kd th t) := fun t ht =>
  ⟨okS_nm (h1 _ (nm_srt so (kn t ht).1)), okS_nm (h2 _ (wd t ht)), okS_nm (h1 _ (nm_srt so (kn t ht).2))⟩
/-- _law_right, as it is asked of what stands -/
theorem Now.asked {K : PySem.W.Frag} {HC S : Addr} {H : Hp} {x dx sc d1 d2 d3 d hl : Addr} {ss ws : List Str} {th : List Thing} {ts hs : List T3} {n : Nat} (N : Now K HC S H x dx sc d1 d2 d3 d hl ss ws th ts hs n) (hn : n < 63) (h1 : ∀ z ∈ ss, NmP z) (h2 : ∀ z ∈ ws, NmP z) {Q : V → Hp → Prop} {E : XK} (q : ∀ H', Same H H' → Q (.bl true) H') :
    spRi K HC S [.ref x, .ref d, .ref hl] H Q E := by
  obtain ⟨ps, e, t⟩ := N.he
  exact ⟨x, dx, sc, d1, d2, d3, d, hl, ps, ss, ws, th, ts, hs, rfl, N.ho, N.ki, e, t, N.kn, N.eq, Nat.lt_of_le_of_lt N.n2 hn, Nat.lt_of_le_of_lt N.n1 hn, kd_ok N.so N.kn N.wd h1 h2, q⟩
theorem tn1 {σ : L2.St} {H : Hp} {f : List V → Hp → Prop} (h : f [] H) : tNil σ H f := h
theorem names1 (th : List Thing) : ((k1 th).map fun kv => kV kv.1) = (nmL th).map V.str := by
  unfold k1 nmL
  rw [List.map_map, List.map_map]
  rfl
theorem share {C E : Hp → Prop} {G : Prop} (h : (∀ H, C H → E H) → G) (e : ∀ H, C H → E H) : G := h e
theorem Now.mono {K : PySem.W.Frag} {HC S : Addr} {H : Hp} {x dx sc d1 d2 d3 d hl : Addr} {ss ws : List Str} {th : List Thing} {ts hs : List T3} {n m : Nat} (N : Now K HC S H x dx sc d1 d2 d3 d hl ss ws th ts hs n) (l : n ≤ m) : Now K HC S H x dx sc d1 d2 d3 d hl ss ws th ts hs m :=
  ⟨N.ho, N.ki, N.he, N.kn, N.eq, Nat.le_trans N.n1 l, Nat.le_trans N.n2 l, Nat.le_trans N.n3 l, N.so, N.nm, N.wd⟩
theorem srt_new {th : List Thing} {n z : Str} {b : Bool} (h : n ∉ nmL th) : srt (th ++ [(n, z, b)]) n = some z := by
  unfold srt
  rw [List.find?_append]
  have e : th.find? (fun t => decide (t.1 = n)) = none := List.find?_eq_none.mpr fun t ht q => h (List.mem_map.mpr ⟨t, ht, of_decide_eq_true q⟩)
  rw [e]
  simp
theorem nmL_app (th us : List Thing) : nmL (th ++ us) = nmL th ++ nmL us := List.map_append
theorem Known.more {th us : List Thing} {ts : List T3} (k : Known th ts) : Known (th ++ us) ts := fun t ht => by
  rw [nmL_app]
  exact ⟨List.mem_append_left _ (k t ht).1, List.mem_append_left _ (k t ht).2⟩
theorem StN.but {n : Nat} {p q : Addr} {H H' : Hp} (h : StN n H p) (ne : p ≠ q) (b : But q H H') : StN n H' p := by
  obtain ⟨x, y, z, e, r⟩ := h
  exact ⟨x, y, z, b _ _ ne e, r⟩
theorem ne_of_st {n : Nat} {p q : Addr} {H : Hp} {o : HO} (h : StN n H p) (e : H q = some o) (no : NotSt o) : p ≠ q := fun z => by
  obtain ⟨x, y, w, e2, _⟩ := h
  rw [z, e] at e2
  exact no x y w (Option.some.inj e2)
theorem tri_eqv (a b : T3) : PyData.eqv (triD3 a) (triD3 b) = decide (a = b) := by
  obtain ⟨x, y, z⟩ := a
  obtain ⟨x', y', z'⟩ := b
  by_cases e : (x, y, z) = (x', y', z')
  · cases e
    simp [triD3, PyData.eqv, PyData.eqvAll]
  · rw [decide_eq_false e]
    have n : ¬ (x = x' ∧ y = y' ∧ z = z') := fun ⟨h1, h2, h3⟩ => e (by rw [h1, h2, h3])
    simp [triD3, PyData.eqv, PyData.eqvAll]
    intro h1 h2 h3
    exact n ⟨h1, h2, h3⟩
theorem tri_shaped {t : T3} (h : okT t) : SeqAt.shaped (triD3 t) = true := by
  obtain ⟨a, b⟩ := tri_sh1 h
  simp [SeqAt.shaped, a]
  omega
section
variable {K : PySem.W.Frag} {HC S : Addr} {H : Hp} {x dx sc d1 d2 d3 d hl : Addr} {ss ws : List Str} {th : List Thing} {ts hs : List T3} {n : Nat}
theorem Now.nmOk (N : Now K HC S H x dx sc d1 d2 d3 d hl ss ws th ts hs n) {z : Str} (h : z ∈ nmL th) : NmP z := by
  obtain ⟨t, ht, rfl⟩ := List.mem_map.mp h
  exact N.nm t ht
theorem Now.okT (N : Now K HC S H x dx sc d1 d2 d3 d hl ss ws th ts hs n) (h2 : ∀ z ∈ ws, NmP z) : ∀ t ∈ ts, okT t := fun t ht =>
  ⟨okS_nm (N.nmOk (N.kn t ht).1), okS_nm (h2 _ (N.wd t ht)), okS_nm (N.nmOk (N.kn t ht).2)⟩
end
/-- the list without one triple -/
theorem filter_len (t : T3) (hs : List T3) : (remT hs t).length ≤ hs.length := List.length_filter_le _ _
theorem remT_mem {t u : T3} {hs : List T3} : u ∈ remT hs t ↔ u ∈ hs ∧ u ≠ t := by
  unfold remT
  rw [List.mem_filter, decide_eq_true_eq]
theorem addT_mem {t u : T3} {ts : List T3} : u ∈ addT ts t ↔ u ∈ ts ∨ u = t := by
  unfold addT
  by_cases c : t ∈ ts
  · rw [if_pos c]
    exact ⟨.inl, fun h => h.elim id fun e => by rw [e]; exact c⟩
  · rw [if_neg c, List.mem_append, List.mem_singleton]
theorem addT_len (t : T3) (ts : List T3) : (addT ts t).length ≤ ts.length + 1 := by
  unfold addT
  split
  · omega
  · rw [List.length_append, List.length_singleton]
    omega
theorem remT_take {hs : List T3} {j : Nat} {u t : T3} (hu : hs[j]? = some u) : remT (hs.take (j + 1)) t = remT (hs.take j) t ++ if u = t then [] else [u] := by
  unfold remT
  rw [List.take_add_one, hu, List.filter_append]
  by_cases e : u = t
  · simp [e]
  · simp [e]
/-- a turn of the walk that leaves a triple out -/
theorem remT_out {K : PySem.W.Frag} {H0 H : Hp} {M : Addr} {qs : List Addr} {hs : List T3} {j : Nat} {u t : T3} (hu : hs[j]? = some u) (S : Same H0 H) (h : H M = some (.lst (qs.map V.ref))) (tr : TrisAt K H qs (remT (hs.take j) t)) (e : u = t) :
    Same H0 H ∧ ∃ qs : List Addr, H M = some (.lst (qs.map V.ref)) ∧ TrisAt K H qs (remT (hs.take (j + 1)) t) := by
  refine ⟨S, qs, h, ?_⟩
  rw [remT_take hu, if_pos e, List.append_nil]
  exact tr
theorem remT_in {K : PySem.W.Frag} {H0 H : Hp} {M q : Addr} {qs : List Addr} {hs : List T3} {j : Nat} {u t : T3} (hu : hs[j]? = some u) (S : Same H0 H) (hM : H0 M = none) (h : H M = some (.lst (qs.map V.ref))) (tr : TrisAt K H qs (remT (hs.take j) t)) (hq : SqT K H q (triV3 u)) (few : hs.length ≤ 100) (e : ¬ u = t) :
    ∃ acc, H M = some (.lst acc) ∧ acc.length < sizeLine ∧ Same H0 (upd H M (.lst (acc ++ [.ref q]))) ∧ ∃ qs : List Addr, (upd H M (.lst (acc ++ [.ref q]))) M = some (.lst (qs.map V.ref)) ∧ TrisAt K (upd H M (.lst (acc ++ [.ref q]))) qs (remT (hs.take (j + 1)) t) := by
  have put : ∀ {a : Addr} {xs : List V}, SqT K H a xs → SqT K (upd H M (.lst (qs.map V.ref ++ [.ref q]))) a xs := fun z => but_seqT But.upd h (fun _ z => nomatch z) (fun _ _ z => nomatch z) z
  refine ⟨qs.map V.ref, h, ?_, fun a o z => ?_, qs ++ [q], by rw [upd_same, List.map_append]; rfl, ?_⟩
  · rw [List.length_map, tr.len]
    have z1 := filter_len t (hs.take j)
    rw [List.length_take] at z1
    exact Nat.lt_of_le_of_lt (show _ ≤ 100 by omega) (by decide)
  · rw [upd_ne (ne_of_none z hM)]
    exact S _ _ z
  · rw [remT_take hu, if_neg e]
    exact tris_snoc (tr.same put) (put hq)
/-- the walk's end, the triple put behind -/
theorem remT_all (hs : List T3) (t : T3) {u : T3} : u ∈ remT hs t ++ [t] ↔ u ∈ hs ∨ u = t := by
  rw [List.mem_append, List.mem_singleton, remT_mem]
  constructor
  · rintro (h | h)
    · exact .inl h.1
    · exact .inr h
  · rintro (h | h)
    · by_cases e : u = t
      · exact .inr e
      · exact .inl ⟨h, e⟩
    · exact .inr h
/-- from a turn's start on: all stands but four dicts -/
def Fr (d d1 d2 d3 : Addr) (H H' : Hp) : Prop := ∀ b o, b ≠ d → b ≠ d1 → b ≠ d2 → b ≠ d3 → H b = some o → H' b = some o
theorem Fr.same {d d1 d2 d3 : Addr} {H H1 H2 : Hp} (f : Fr d d1 d2 d3 H H1) (s : Same H1 H2) : Fr d d1 d2 d3 H H2 := fun b o a1 a2 a3 a4 e => s _ _ (f b o a1 a2 a3 a4 e)
theorem Fr.but {d d1 d2 d3 p : Addr} {H H1 H2 : Hp} (f : Fr d d1 d2 d3 H H1) (hp : H p = none) (s : But p H1 H2) : Fr d d1 d2 d3 H H2 := fun b o a1 a2 a3 a4 e => s _ _ (ne_of_none e hp) (f b o a1 a2 a3 a4 e)
theorem Fr.dict {d d1 d2 d3 p : Addr} {H H1 H2 : Hp} (f : Fr d d1 d2 d3 H H1) (hp : p = d ∨ p = d1 ∨ p = d2 ∨ p = d3) (s : But p H1 H2) : Fr d d1 d2 d3 H H2 := fun b o a1 a2 a3 a4 e => by
  refine s _ _ (fun z => ?_) (f b o a1 a2 a3 a4 e)
  rcases hp with q | q | q | q
  · exact a1 (z.trans q)
  · exact a2 (z.trans q)
  · exact a3 (z.trans q)
  · exact a4 (z.trans q)
section
variable {P : Program} {w : World} {K : PySem.W.Frag} {mg : Str → Option Value} {base : Heap}
theorem scCel : FnScope ["_law_script", "_law_k"] ["_law_script", "_law_k"] (defScope sCel) := ⟨rfl, rfl, rfl, by decide +kernel, rfl, by decide +kernel, by decide +kernel⟩
theorem ok_cel {f : Addr} {fd : FuncData} (F : Fun K "_law_cell_at" "_law_cell_at" sCel f fd) (T : TxB mg) : FnOk P w K mg base CX0 1 f fd ["_law_script", "_law_k"] (spCel K) := by
  refine F.ok scCel (fun vs H Q E h => ?_) (fun cdv A outer s H vs Q E hr h => ?_)
  · obtain ⟨a, ns, j, rfl, _⟩ := h
    rfl
  · obtain ⟨a, ns, j, rfl, hS, k⟩ := h
    refine ⟨_, (pss_cons (ps_if (pt_cmpR op_lt (pv 1) (pe_callB call_len_seq (by rfl) T.len (by decide +kernel) (pa_cons (pv 0) pa_nil)) (nomark _)) (pss_one (ps_ret (pe_ix ix_list (pv 0) (pv 1) (fun _ _ => rfl)))) pss_nil)
      (pss_one (ps_ret pe_int))), ?_⟩
    refine ⟨_, rfl, _, rfl, a, _, rfl, .inl hS, _, _, rfl, rfl, _, rfl, ite2 (fun h => ?_) (fun h => ?_)⟩
    · have h1 := of_decide_eq_true h
      rw [List.length_map] at h1
      have hj : j < ns.length := by omega
      refine ⟨_, rfl, _, rfl, a, _, _, .int ns[j], rfl, rfl, hS, atI_nat (j := j) ?_, k _⟩
      rw [List.getElem?_map, List.getElem?_eq_getElem hj]
      rfl
    · exact k 0
abbrev NL : List Str := ["_law_script", "_law_first", "_law_sorts", "_law_words", "_law_house", "_law_kinds", "_law_held", "_law_cell", "_law_well_here", "_law_way", "_law_names_here", "_law_name_here", "_law_x", "_law_y", "_law_word", "_law_one", "_law_gone"]
theorem scLaw : FnScope ["_law_script", "_law_first", "_law_sorts", "_law_words", "_law_house", "_law_kinds", "_law_held", "_law_cell", "_law_well_here", "_law_way", "_law_names_here", "_law_name_here", "_law_x", "_law_y", "_law_word", "_law_one", "_law_gone"] ["_law_script"] (defScope sLaw) := ⟨rfl, rfl, rfl, by decide +kernel, rfl, by decide +kernel, by decide +kernel⟩
abbrev pSch : List Str := ["self", "sorts", "words", "makings", "rules", "bars"]
abbrev p4 : List Str := ["self", "x", "word", "y"]
theorem ok_law {f fC fW fG fP fNm fN fRi HC fH S fS fEn fGi fTa fSl : Addr} {fd dC dW dG dP dNm dN dRi dSc dHi dEn dGi dTa dSl : FuncData} (F : Fun K "law" "law" sLaw f fd) (T : TxB mg) (tl : mg "list" = none) (TC : TxSch K mg S fS) (TH : TxH K mg HC fH)
    (DC : Dn K mg "_law_cell_at" sCel ["_law_script", "_law_k"] fC dC) (DWl : Dn K mg "_law_well" sWel ["_law_cell"] fW dW) (DG : Dn K mg "_law_draw" sDrw ["_law_well_here", "_law_many"] fG dG) (DPk : Dn K mg "_law_pick" sPck ["_law_well_here", "_law_some"] fP dP)
    (DNm : Dn K mg "_law_name" sNam ["_law_well_here", "_law_taken"] fNm dNm) (GNm : FnOk P w K mg base CX0 3 fNm dNm ["_law_well_here", "_law_taken"] (spNam K))
    (DN : Dn K mg "_law_names" sNms ["_law_well_here", "_law_many"] fN dN) (GN : FnOk P w K mg base CX0 4 fN dN ["_law_well_here", "_law_many"] (spNms K))
    (DRi : Dn K mg "_law_right" sRi ["_law_house", "_law_kinds", "_law_held"] fRi dRi) (GRi : FnOk P w K mg base CX0 4 fRi dRi ["_law_house", "_law_kinds", "_law_held"] (spRi K HC S))
    (bSc : Binds K dSc pSch [.none, .none, .none]) (GSc : FnOk P w K mg base CX0 4 fS dSc pSch (spSch K S)) (bHi : Binds K dHi ["self", "scheme"] []) (GHi : FnOk P w K mg base CX0 1 fH dHi ["self", "scheme"] (spHin HC))
    (mEn : Meth K HC "enter" fEn) (bEn : Binds K dEn ["self", "name", "sort", "awake"] []) (GEn : FnOk P w K mg base CX0 3 fEn dEn ["self", "name", "sort", "awake"] (spHen HC S)) (mGi : Meth K HC "give" fGi) (bGi : Binds K dGi p4 []) (GGi : FnOk P w K mg base CX0 3 fGi dGi p4 (spHgi HC S))
    (mTa : Meth K HC "take" fTa) (bTa : Binds K dTa p4 []) (GTa : FnOk P w K mg base CX0 3 fTa dTa p4 (spHta HC S)) (mSl : Meth K HC "sleep" fSl) (bSl : Binds K dSl ["self", "x"] []) (GSl : FnOk P w K mg base CX0 2 fSl dSl ["self", "x"] (spHsl HC S)) :
    FnOk P w K mg base CX0 6 f fd ["_law_script"] (spLaw K) := by
  have GC : FnOk P w K mg base CX0 1 fC dC _ (spCel K) := ok_cel DC.F T
  have GWl : FnOk P w K mg base CX0 1 fW dW _ spWel := ok_wel DWl.F T
  have GG : FnOk P w K mg base CX0 1 fG dG _ spDrw := ok_drw DG.F
  have GPk : FnOk P w K mg base CX0 2 fP dP _ spPkL := ok_pkl DPk.F T DG
  refine F.ok scLaw (fun vs H Q E h => ?_) (fun cdv A outer s H vs Q E hr h => ?_)
  · obtain ⟨a, ns, rfl, _⟩ := h
    rfl
  · obtain ⟨a, ns, rfl, hA, hlen, kk⟩ := h
    have hr1 : Room 1 _ := hr.mono (by decide)
    have hr2 : Room 2 _ := hr.mono (by decide)
    have hr3 : Room 3 _ := hr.mono (by decide)
    have hr4 : Room 4 _ := hr.mono (by decide)
    have hr5 : Room 5 _ := hr
    have hu := hu_of hr
    refine ⟨_, (pss_cons (ps_set (i := 1) scLaw.nd rfl (Or.inl rfl) (pe_call GWl hr1 rfl DWl.g DWl.F.kp DWl.b .nil pass0 (pa_cons (pe_call GC hr1 rfl DC.g DC.F.kp DC.b .nil pass0 (pa_cons (pv 0) (pa_cons pe_int pa_nil))) pa_nil)))
      (pss_cons (ps_set (i := 2) scLaw.nd rfl (Or.inl rfl) (pe_call GN hr4 rfl DN.g DN.F.kp DN.b .nil pass0 (pa_cons (pv 1) (pa_cons (pe_op op_add pe_int (pe_call GG hr1 rfl DG.g DG.F.kp DG.b .nil pass0 (pa_cons (pv 1) (pa_cons pe_int pa_nil)))) pa_nil))))
      (pss_cons (ps_set (i := 3) scLaw.nd rfl (Or.inl rfl) (pe_call GN hr4 rfl DN.g DN.F.kp DN.b .nil pass0 (pa_cons (pv 1) (pa_cons (pe_op op_add pe_int (pe_call GG hr1 rfl DG.g DG.F.kp DG.b .nil pass0 (pa_cons (pv 1) (pa_cons pe_int pa_nil)))) pa_nil))))
      (pss_cons (ps_set (i := 4) scLaw.nd rfl (Or.inl rfl) (pe_make TH.m GHi hr2 rfl TH.g bHi .nil pass0 (pa_cons (pe_make (dvs := [.non, .non, .non]) TC.m GSc hr5 rfl TC.g bSc (.cons rfl (.cons rfl (.cons rfl .nil))) pass0 (pa_cons (pe_callTy call_list_of (by rfl) tl (by decide +kernel) (pa_cons (pv 2) pa_nil)) (pa_cons (pe_callTy call_list_of (by rfl) tl (by decide +kernel) (pa_cons (pv 3) pa_nil)) pa_nil))) pa_nil)))
      (pss_cons (ps_set (i := 5) scLaw.nd rfl (Or.inl rfl) pe_dnewK)
      (pss_cons (ps_set (i := 6) scLaw.nd rfl (Or.inl rfl) (pe_lst pa_nil))
      (pss_cons (ps_for PassesOwn.never rfl (pi_list (pe_op op_cat (pe_lst (pa_cons (pe_call GC hr1 rfl DC.g DC.F.kp DC.b .nil pass0 (pa_cons (pv 0) (pa_cons pe_int pa_nil))) pa_nil)) (pe_slice sl_list (pv 0) (po_some pe_int) (po_some pe_int)))) (pg_name (i := 7) scLaw.nd rfl (Or.inl rfl)) (pss_cons (ps_set (i := 8) scLaw.nd rfl (Or.inl rfl) (pe_call GWl hr1 rfl DWl.g DWl.F.kp DWl.b .nil pass0 (pa_cons (pv 7) pa_nil)))
      (pss_cons (ps_set (i := 9) scLaw.nd rfl (Or.inl rfl) (pe_call GG hr1 rfl DG.g DG.F.kp DG.b .nil pass0 (pa_cons (pv 8) (pa_cons pe_int pa_nil))))
      (pss_cons (ps_if (pt_not (pt_val (pe_call GRi hr4 rfl DRi.g DRi.F.kp DRi.b .nil pass0 (pa_cons (pv 4) (pa_cons (pv 5) (pa_cons (pv 6) pa_nil)))))) (pss_one (ps_ret pe_bl)) pss_nil)
      (pss_cons (ps_set (i := 10) scLaw.nd rfl (Or.inl rfl) (pe_callTy (call_listD rfl) (by rfl) tl (by decide +kernel) (pa_cons (pv 5) pa_nil)))
      (pss_cons (ps_if (PW.pt (pw_or (pt_cmpR op_eq (pv 9) pe_int (nomark _)) (pw_or1 (pt_cmpR (op_eqE (hu_of hr)) (pv 10) (pe_lst pa_nil) (nomark _))))) (pss_cons (ps_set (i := 11) scLaw.nd rfl (Or.inl rfl) (pe_call GNm hr3 rfl DNm.g DNm.F.kp DNm.b .nil pass0 (pa_cons (pv 8) (pa_cons (pv 10) pa_nil))))
      (pss_cons (ps_dput hu (pv 5) (pv 11) (pe_call GPk hr2 rfl DPk.g DPk.F.kp DPk.b .nil pass0 (pa_cons (pv 8) (pa_cons (pv 2) pa_nil))) rfl)
      (pss_cons (ps_expr (pe_meth (pv 4) TH.cl mEn GEn hr3 bEn .nil pass0 (pa_cons (pv 11) (pa_cons (pe_dget hu (pv 5) (pv 11) (fun _ _ => rfl)) (pa_cons (pe_cmpR op_lt (pv 9) pe_int (nomark _)) pa_nil)))))
      (pss_one (ps_set (i := 10) scLaw.nd rfl (Or.inl rfl) (pe_op op_cat (pv 10) (pe_lst (pa_cons (pv 11) pa_nil)))))))) pss_nil)
      (pss_cons (ps_asg (pe_tup (pa_cons (pe_call GPk hr2 rfl DPk.g DPk.F.kp DPk.b .nil pass0 (pa_cons (pv 8) (pa_cons (pv 10) pa_nil))) (pa_cons (pe_call GPk hr2 rfl DPk.g DPk.F.kp DPk.b .nil pass0 (pa_cons (pv 8) (pa_cons (pv 10) pa_nil))) pa_nil))) (pg_tup rfl (pgs_cons (pg_name (i := 12) scLaw.nd rfl (Or.inr rfl)) (pgs_cons (pg_name (i := 13) scLaw.nd rfl (Or.inr rfl)) pgs_nil))))
      (pss_cons (ps_set (i := 14) scLaw.nd rfl (Or.inr rfl) (pe_call GPk hr2 rfl DPk.g DPk.F.kp DPk.b .nil pass0 (pa_cons (pv 8) (pa_cons (pv 3) pa_nil))))
      (pss_cons (ps_if (pt_cmpR op_lt (pv 9) pe_int (nomark _)) (pss_cons (ps_expr (pe_meth (pv 4) TH.cl mGi GGi hr3 bGi .nil pass0 (pa_cons (pv 12) (pa_cons (pv 14) (pa_cons (pv 13) pa_nil)))))
      (pss_one (ps_set (i := 6) scLaw.nd rfl (Or.inl rfl) (pe_op op_cat (pe_lc (own := [("_law_one", 15)]) (g := gName 15) (tt := (tTest (tOp (rNeD K) (tVar 15) (tTup (tCons (tVar 12) (tCons (tVar 14) (tCons (tVar 13) tNil))))))) (te := (tVar 15)) rfl scLaw.nd (pi_list (pv 6)) (blkOk_by (N := ["_law_script", "_law_first", "_law_sorts", "_law_words", "_law_house", "_law_kinds", "_law_held", "_law_cell", "_law_well_here", "_law_way", "_law_names_here", "_law_name_here", "_law_x", "_law_y", "_law_word", "_law_one", "_law_gone"]) (sc := defScope sLaw) (by decide +kernel)) (fun _ _ _ _ _ => (pg_name (i := 15) scLaw.nd rfl (Or.inl rfl))) (fun _ _ _ _ _ => (pts_one (pt_cmpR (op_neD hr.units) (pv 15) (pe_tup (pa_cons (pv 12) (pa_cons (pv 14) (pa_cons (pv 13) pa_nil)))) (nomark _)))) (fun _ _ _ _ _ => (pv 15))) (pe_lst (pa_cons (pe_tup (pa_cons (pv 12) (pa_cons (pv 14) (pa_cons (pv 13) pa_nil)))) pa_nil)))))) (pss_one (ps_if (PW.pt (pw_and (pt_cmpR op_eq (pv 9) pe_int (nomark _)) (pw_and1 (pt_cmpR (op_neE (hu_of hr)) (pv 6) (pe_lst pa_nil) (nomark _))))) (pss_cons (ps_set (i := 16) scLaw.nd rfl (Or.inr rfl) (pe_call GPk hr2 rfl DPk.g DPk.F.kp DPk.b .nil pass0 (pa_cons (pv 8) (pa_cons (pv 6) pa_nil))))
      (pss_cons (ps_expr (pe_meth (pv 4) TH.cl mTa GTa hr3 bTa .nil pass0 (pa_cons (pe_ix ix_tup (pv 16) pe_int (fun _ _ => rfl)) (pa_cons (pe_ix ix_tup (pv 16) pe_int (fun _ _ => rfl)) (pa_cons (pe_ix ix_tup (pv 16) pe_int (fun _ _ => rfl)) pa_nil)))))
      (pss_one (ps_setLc (i := 6) (own := [("_law_one", 15)]) (g := gName 15) (tt := (tTest (tOp (rNeD K) (tVar 15) (tVar 16)))) (te := (tVar 15)) rfl scLaw.nd rfl rfl (sw_true rfl rfl rfl (by decide +kernel)) (pi_list (pv 6)) (blkOk_by (N := ["_law_script", "_law_first", "_law_sorts", "_law_words", "_law_house", "_law_kinds", "_law_held", "_law_cell", "_law_well_here", "_law_way", "_law_names_here", "_law_name_here", "_law_x", "_law_y", "_law_word", "_law_one", "_law_gone"]) (sc := defScope sLaw) (by decide +kernel)) (fun _ _ _ _ _ => (pg_name (i := 15) scLaw.nd rfl (Or.inl rfl))) (fun _ _ _ _ _ => (pts_one (pt_cmpR (op_neD hr.units) (pv 15) (pv 16) (nomark _)))) (fun _ _ _ _ _ => (pv 15)))))) (pss_one (ps_expr (pe_meth (pv 4) TH.cl mSl GSl hr2 bSl .nil pass0 (pa_cons (pv 12) pa_nil)))))))
      (pss_one (ps_if (pt_not (pt_val (pe_call GRi hr4 rfl DRi.g DRi.F.kp DRi.b .nil pass0 (pa_cons (pv 4) (pa_cons (pv 5) (pa_cons (pv 6) pa_nil)))))) (pss_one (ps_ret pe_bl)) pss_nil)))))))))))
      (pss_one (ps_ret pe_bl))))))))), ?_⟩
    refine ⟨_, rfl, a, ns, 0, rfl, hA, fun c0 => ⟨c0, rfl, fun p0 H1 hp0 S1 st1 => ?_⟩⟩
    dsimp only [gName, List.set_cons_succ, List.set_cons_zero]
    refine ⟨_, rfl, _, rfl, p0, 4, 0, rfl, st1, by decide, by decide, by decide, fun d0 H2 d00 d01 B2 st2 => ⟨_, _, rfl, rfl, p0, 1 + d0, 1, rfl, st2, by decide, by omega, by omega, fun ss ls H3 ls0 lsp B3 st3 hls slen snd snm => ?_⟩⟩
    dsimp only [gName, List.set_cons_succ, List.set_cons_zero]
    have SA3 : Same H H3 := fun b o e => B3 b o (ne_of_none e hp0) (B2 b o (ne_of_none e hp0) (S1 _ _ e))
    have st3 : StN 101 H3 p0 := st3.mono (by omega)
    have s1 : 1 ≤ ss.length := by omega
    have s4 : ss.length ≤ 4 := by omega
    refine ⟨_, rfl, _, rfl, p0, 5, 101, rfl, st3, by decide, by decide, by decide, fun d1' H4 d10 d11 B4 st4 => ⟨_, _, rfl, rfl, p0, 1 + d1', 102, rfl, st4, by decide, by omega, by omega, fun ws lw H5 lw0 lwp B5 st5 hlw wlen wnd wnm => ?_⟩⟩
    dsimp only [gName, List.set_cons_succ, List.set_cons_zero]
    have w1 : 1 ≤ ws.length := by omega
    have w5 : ws.length ≤ 5 := by omega
    have hls5 := B5 _ _ (lsp) (B4 _ _ lsp hls)
    have SA5 : Same H H5 := fun b o e => B5 b o (ne_of_none e hp0) (B4 b o (ne_of_none e hp0) (SA3 _ _ e))
    have rs : Row ss := ⟨fun z hz => ⟨nm_is (snm z hz).1 (snm z hz).2, (snm z hz).2⟩, snd⟩
    have rw' : Row ws := ⟨fun z hz => ⟨nm_is (wnm z hz).1 (wnm z hz).2, (wnm z hz).2⟩, wnd⟩
    have N1 : ∀ z ∈ ss, NmP z := fun z hz => (snm z hz).1
    have N2 : ∀ z ∈ ws, NmP z := fun z hz => (wnm z hz).1
    -- the house
    refine ⟨_, rfl, ls, _, rfl, .inl (SqL.of hls5), fun la hla => ⟨_, rfl, lw, _, rfl, .inl (SqL.of ((Same.upd hla) _ _ hlw)), fun lb hlb => ?_⟩⟩
    have SC : Same (upd H5 la (.lst (ss.map V.str))) (upd (upd H5 la (.lst (ss.map V.str))) lb (.lst (ws.map V.str))) := Same.upd hlb
    have ea : (upd (upd H5 la (.lst (ss.map V.str))) lb (.lst (ws.map V.str))) la = some (.lst (ss.map V.str)) := SC _ _ upd_same
    have eb : (upd (upd H5 la (.lst (ss.map V.str))) lb (.lst (ws.map V.str))) lb = some (.lst (ws.map V.str)) := upd_same
    have S6 := (Same.upd (o := .lst (ss.map V.str)) hla).trans SC
    generalize upd (upd H5 la (.lst (ss.map V.str))) lb (.lst (ws.map V.str)) = H6 at S6 ea eb
    intro sc dsc nsc ndsc ne1
    have S7 : Same H6 (upd (upd H6 dsc (.own sc)) sc (.ins S dsc [])) := (Same.upd ndsc).trans (Same.upd (by rw [upd_ne ne1.symm]; exact nsc))
    refine ⟨H6, sc, dsc, la, lb, ss, ws, rfl, S7, nsc, upd_same, SqL.of ea, SqL.of eb, rs, rw', s1, s4, w1, w5, fun H8 S8 hsch => ⟨rfl, ?_⟩⟩
    intro x dx nx ndx ne2
    have S9 : Same H8 (upd (upd H8 dx (.own x)) x (.ins HC dx [])) := (Same.upd ndx).trans (Same.upd (by rw [upd_ne ne2.symm]; exact nx))
    refine ⟨H8, x, dx, sc, rfl, S9, nx, upd_same, fun d1 d2 d3 H10 z1 z2 z3 n12 S10 hx10 e1 e2 e3 => ⟨rfl, ?_⟩⟩
    dsimp only [gName, List.set_cons_succ, List.set_cons_zero]
    have SH10 : Same H H10 := ((SA5.trans S6).trans S8).trans S10
    have S510 : Same H5 H10 := (S6.trans S8).trans S10
    intro d hd
    dsimp only [gName, List.set_cons_succ, List.set_cons_zero]
    have S11 : Same H10 (upd H10 d (.dK [])) := Same.upd hd
    have kd0 : (upd H10 d (.dK [])) d = some (.dK (k1 [])) := upd_same
    have m1 : d ≠ d1 := (ne_of_none e1 hd).symm
    have m2 : d ≠ d2 := (ne_of_none e2 hd).symm
    have hh11 : HsAt HC S (upd H10 d (.dK [])) x dx sc d1 d2 d3 ss ws [] [] := HsAt.same S11 ⟨hx10, hsch.same S10, e1, e2, e3, n12⟩
    generalize upd H10 d (.dK []) = H11 at S11 kd0 hh11
    refine ⟨Nat.zero_le _, fun hl0 hhl0 => ?_⟩
    have S12 : Same H11 (upd H11 hl0 (.lst [])) := Same.upd hhl0
    have el0 : (upd H11 hl0 (.lst [])) hl0 = some (.lst (([] : List Addr).map V.ref)) := upd_same
    have kd12 := S12 _ _ kd0
    have hh12 := hh11.same S12
    generalize upd H11 hl0 (.lst []) = H12 at S12 el0 kd12 hh12
    have SH12 : Same H H12 := (SH10.trans S11).trans S12
    have S512 : Same H5 H12 := (S510.trans S11).trans S12
    have N12 : Now K HC S H12 x dx sc d1 d2 d3 d hl0 ss ws [] [] [] 0 := ⟨hh12, kd12, ⟨[], el0, True.intro⟩, fun t ht => absurd ht List.not_mem_nil, fun t => Iff.rfl, Nat.le_refl _, Nat.le_refl _, Nat.le_refl _, fun t ht => absurd ht List.not_mem_nil, fun t ht => absurd ht List.not_mem_nil, fun t ht => absurd ht List.not_mem_nil⟩
    have hls12 := S512 _ _ hls5
    have hlw12 := S512 _ _ hlw
    dsimp only [gName, List.set_cons_succ, List.set_cons_zero]
    -- the cells
    refine ⟨_, rfl, a, ns, 1, rfl, SH12.seq hA, fun c1 => ⟨by show 1 ≤ sizeLine; decide, fun l1 hl1 => ?_⟩⟩
    have T1 : Same H12 (upd H12 l1 (.lst [.int c1])) := Same.upd hl1
    have f1 : (upd H12 l1 (.lst [.int c1])) l1 = some (.lst [.int c1]) := upd_same
    generalize upd H12 l1 (.lst [.int c1]) = H13 at T1 f1
    refine ⟨_, rfl, _, rfl, _, rfl, a, _, rfl, (SH12.trans T1).seq hA, fun l2 hl2 => ?_⟩
    have T2 : Same H13 (upd H13 l2 (.lst (cutV (ns.map V.int) (some 2) (some 13)))) := Same.upd hl2
    have f2 : (upd H13 l2 (.lst (cutV (ns.map V.int) (some 2) (some 13)))) l2 = some (.lst (cutV (ns.map V.int) (some 2) (some 13))) := upd_same
    generalize upd H13 l2 (.lst (cutV (ns.map V.int) (some 2) (some 13))) = H14 at T2 f2
    have cl : (cutV (ns.map V.int) (some 2) (some 13)).length ≤ 13 := by
      unfold cutV
      rw [List.length_take, show (13 : Int) = ((13 : Nat) : Int) from rfl, HT.sIx_nat]
      omega
    refine ⟨l1, l2, _, _, rfl, rfl, T2 _ _ f1, f2, Nat.le_trans (show _ ≤ 1000 by show 1 + _ ≤ 1000; omega) (by decide), fun L hL => ?_⟩
    have T3 : Same H14 (upd H14 L (.lst ([.int c1] ++ cutV (ns.map V.int) (some 2) (some 13)))) := Same.upd hL
    have f3 : (upd H14 L (.lst ([.int c1] ++ cutV (ns.map V.int) (some 2) (some 13)))) L = some (.lst ([.int c1] ++ cutV (ns.map V.int) (some 2) (some 13))) := upd_same
    generalize upd H14 L (.lst ([.int c1] ++ cutV (ns.map V.int) (some 2) (some 13))) = H15 at T3 f3
    have T123 := (T1.trans T2).trans T3
    generalize hcs : [V.int c1] ++ cutV (ns.map V.int) (some 2) (some 13) = cs at f3
    have clen : cs.length ≤ 14 := by
      rw [← hcs, List.length_append]
      show 1 + _ ≤ 14
      omega
    have cint : ∀ v ∈ cs, ∃ i, v = .int i := fun v hv => by
      rw [← hcs] at hv
      rcases List.mem_append.mp hv with q | q
      · exact ⟨_, List.mem_singleton.mp q⟩
      · exact cut_ints q
    refine ⟨L, rfl, ⟨_, SqL.of f3⟩, for_list (K := K) (a := L) (xs := cs) (fun i σ H' => H' L = some (.lst cs) ∧ H' ls = some (.lst (ss.map V.str)) ∧ H' lw = some (.lst (ws.map V.str)) ∧ ∃ hl th ts hs, Now K HC S H' x dx sc d1 d2 d3 d hl ss ws th ts hs i ∧
      ∃ u7 u8 u9 u10 u11 u12 u13 u14 u15 u16, σ = [some (.ref a), some (.ref p0), some (.ref ls), some (.ref lw), some (.ref x), some (.ref d), some (.ref hl), u7, u8, u9, u10, u11, u12, u13, u14, u15, u16])
      ⟨f3, T123 _ _ hls12, T123 _ _ hlw12, hl0, [], [], [], N12.kp (Same.kp T123), _, _, _, _, _, _, _, _, _, _, rfl⟩ (fun i σ H' _ z => SqL.of z.1) ?_ ?_⟩
    · rintro i v σ H16 hv ⟨hL16, hls16, hlw16, hl, th, ts, hs, N, u7, u8, u9, u10, u11, u12, u13, u14, u15, u16, rfl⟩
      obtain ⟨c, rfl⟩ := cint v (List.mem_of_getElem? hv)
      have i14 : i < 14 := Nat.lt_of_lt_of_le (List.getElem?_eq_some_iff.mp hv).1 clen
      dsimp only [gName, List.set_cons_succ, List.set_cons_zero]
      refine ⟨_, rfl, c, rfl, fun p H17 hp T17 st17 => ?_⟩
      dsimp only [gName, List.set_cons_succ, List.set_cons_zero]
      have F17 : Fr d d1 d2 d3 H16 H17 := fun b o _ _ _ _ e => T17 _ _ e
      have A17 := N.kp (Same.kp T17)
      refine ⟨_, rfl, p, 8, 0, rfl, st17, by decide, by decide, by decide, fun wy H18 w0 w8 B18 st18 => ?_⟩
      dsimp only [gName, List.set_cons_succ, List.set_cons_zero]
      have F18 := F17.but hp B18
      have A18 := A17.kp (B18.kp st17.ok)
      refine ⟨_, rfl, _, rfl, _, rfl, ?_⟩
      refine tn1 ?_
      dsimp only [List.append_nil]
      refine A18.asked (by omega) N1 N2 fun H19 T19 => ⟨_, rfl, iteF ?_⟩
      have F19 := F18.same T19
      have A19 := A18.kp (Same.kp T19)
      have st19 := st18.same T19
      -- who is there
      refine ⟨_, rfl, d, _, rfl, .inl A19.ki, fun ln hln => ?_⟩
      rw [names1]
      have T20 : Same H19 (upd H19 ln (.lst ((nmL th).map V.str))) := Same.upd hln
      have eln : (upd H19 ln (.lst ((nmL th).map V.str))) ln = some (.lst ((nmL th).map V.str)) := upd_same
      generalize upd H19 ln (.lst ((nmL th).map V.str)) = H20 at T20 eln
      have F20 := F19.same T20
      have A20 := A19.kp (Same.kp T20)
      have st20 := st19.same T20
      dsimp only [gName, List.set_cons_succ, List.set_cons_zero]
      show tSeq _ _ _ [some (.ref a), some (.ref p0), some (.ref ls), some (.ref lw), some (.ref x), some (.ref d), some (.ref hl), some (.int c), some (.ref p), some (.int wy), some (.ref ln), u11, u12, u13, u14, u15, u16] _
      refine cut1 (fun σ' H' => ∃ (th' : List Thing) (ln' : Addr) (v11 : Option V), σ' = [some (.ref a), some (.ref p0), some (.ref ls), some (.ref lw), some (.ref x), some (.ref d), some (.ref hl), some (.int c), some (.ref p), some (.int wy), some (.ref ln'), v11, u12, u13, u14, u15, u16] ∧
        Fr d d1 d2 d3 H16 H' ∧ Now K HC S H' x dx sc d1 d2 d3 d hl ss ws th' ts hs (i + 1) ∧ StN 100 H' p ∧ H' ln' = some (.lst ((nmL th').map V.str)) ∧ nmL th' ≠ []) ?_ (fun R' fin => ?_)
      · rintro σ' H21 ⟨th', ln', v11, rfl, F21, A21, st21, eln21, nn⟩
        have thl : (nmL th').length ≤ 15 := by
          unfold nmL
          rw [List.length_map]
          have := A21.n3
          omega
        have np : 1 ≤ (nmL th').length := by
          cases q : nmL th' with
          | nil => exact absurd q nn
          | cons a b => rw [List.length_cons]; omega
        have keepS : ∀ {H' : Hp}, Fr d d1 d2 d3 H16 H' → H' L = some (.lst cs) ∧ H' ls = some (.lst (ss.map V.str)) ∧ H' lw = some (.lst (ws.map V.str)) := fun {H'} F => by
          have go : ∀ {b : Addr} {xs : List V}, H16 b = some (.lst xs) → H' b = some (.lst xs) := fun {b xs} e => F _ _ (ne_of e N.ki (by intro z; cases z)) (ne_of e N.ho.h1 (by intro z; cases z)) (ne_of e N.ho.h2 (by intro z; cases z)) (ne_of e N.ho.h3 (by intro z; cases z)) e
          exact ⟨go hL16, go hls16, go hlw16⟩
        -- two things and a word
        refine ⟨_, rfl, _, rfl, p, ln', _, 100, rfl, st21, by decide, eln21, st_strs st21 eln21, by rw [List.length_map]; exact np, by rw [List.length_map]; omega, fun j1 vx H22 hj1 B22 st22 => ?_⟩
        obtain ⟨xn, hxn, rfl⟩ := map_str_get hj1
        have hxn : xn ∈ nmL th' := List.mem_of_getElem? hxn
        have eln22 := B22 _ _ (st_strs st21 eln21) eln21
        refine ⟨_, rfl, _, rfl, p, ln', _, 101, rfl, st22, by decide, eln22, st_strs st22 eln22, by rw [List.length_map]; exact np, by rw [List.length_map]; omega, fun j2 vy H23 hj2 B23 st23 => ?_⟩
        obtain ⟨yn, hyn, rfl⟩ := map_str_get hj2
        have hyn : yn ∈ nmL th' := List.mem_of_getElem? hyn
        have F23 := (F21.but hp B22).but hp B23
        have A23 := (A21.kp (But.kp B22 st21.ok)).kp (But.kp B23 st22.ok)
        refine ⟨by show 2 ≤ sizeLine; decide, fun t2 ht2 => ?_⟩
        have T24 : Same H23 (upd H23 t2 (.tup [.str xn, .str yn])) := Same.upd ht2
        have e24 : (upd H23 t2 (.tup [.str xn, .str yn])) t2 = some (.tup [.str xn, .str yn]) := upd_same
        generalize upd H23 t2 (.tup [.str xn, .str yn]) = H24 at T24 e24
        refine ⟨t2, _, rfl, SqT.of e24, rfl, _, _, rfl, _, _, rfl, rfl, ?_⟩
        dsimp only [gName, List.set_cons_succ, List.set_cons_zero]
        have F24 := F23.same T24
        have A24 := A23.kp (Same.kp T24)
        have st24 := st23.same T24
        obtain ⟨_, _, lw24⟩ := keepS F24
        refine ⟨_, rfl, _, rfl, p, lw, _, 102, rfl, st24, by decide, lw24, st_strs st24 lw24, by rw [List.length_map]; exact w1, by rw [List.length_map]; omega, fun j3 vw H25 hj3 B25 st25 => ?_⟩
        obtain ⟨wd, hwd, rfl⟩ := map_str_get hj3
        have hwd : wd ∈ ws := List.mem_of_getElem? hwd
        have F25 := F24.but hp B25
        have A25 := A24.kp (But.kp B25 st24.ok)
        dsimp only [gName, List.set_cons_succ, List.set_cons_zero]
        show tSeq _ _ _ [some (.ref a), some (.ref p0), some (.ref ls), some (.ref lw), some (.ref x), some (.ref d), some (.ref hl), some (.int c), some (.ref p), some (.int wy), some (.ref ln'), v11, some (.str xn), some (.str yn), some (.str wd), u15, u16] _
        refine cut1 (fun σ' H' => ∃ (ts' hs' : List (Str × Str × Str)) (hl' : Addr) (v16 : Option V), σ' = [some (.ref a), some (.ref p0), some (.ref ls), some (.ref lw), some (.ref x), some (.ref d), some (.ref hl'), some (.int c), some (.ref p), some (.int wy), some (.ref ln'), v11, some (.str xn), some (.str yn), some (.str wd), u15, v16] ∧
          Fr d d1 d2 d3 H16 H' ∧ ∃ th2, Now K HC S H' x dx sc d1 d2 d3 d hl' ss ws th2 ts' hs' (i + 1)) ?_ (fun R' fin => ?_)
        · rintro σ' H26 ⟨ts', hs', hl', v16, rfl, F26, th2, A26⟩
          refine ⟨_, rfl, _, rfl, _, rfl, ?_⟩
          refine tn1 ?_
          dsimp only [List.append_nil]
          refine A26.asked (by omega) N1 N2 fun H27 T27 => ⟨_, rfl, iteF ?_⟩
          dsimp only [tNext]
          obtain ⟨k1', k2', k3'⟩ := keepS (F26.same T27)
          exact ⟨k1', k2', k3', hl', th2, ts', hs', A26.kp (Same.kp T27), _, _, _, _, _, _, _, _, _, _, rfl⟩
        · have A := A25
          have no : ∀ {f : Str}, ¬ f = "standing" → ¬ f = "awake_by_name" → ¬ f = "sort_by_name" → ¬ f = "own_scheme" → (hsF sc d1 d2 d3).lookup f = none := fun a b c d => hsF_no a b c d _ _ _ _
          refine ⟨_, rfl, _, _, rfl, rfl, _, rfl, ite2 (fun _ => ?_) (fun _ => ?_)⟩
          · -- give
            refine ⟨_, rfl, x, dx, _, rfl, A.ho.hx, no (by decide +kernel) (by decide +kernel) (by decide +kernel) (by decide +kernel), _, rfl, _, rfl, _, rfl, x, dx, sc, d1, d2, d3, xn, wd, yn, ss, ws, th', ts, rfl, A.ho, hxn, hyn, hwd, by have := A.n2; omega, fun H26 B26 hh26 => ?_⟩
            have F26 := F25.dict (.inr (.inr (.inr rfl))) B26
            obtain ⟨ps, hps, htr⟩ := A.he
            have hps26 : H26 hl = some (.lst (ps.map V.ref)) := B26 _ _ (ne_of hps A.ho.h3 (by intro z; cases z)) hps
            have ki26 := B26 _ _ (ne_of A.ki A.ho.h3 (by intro z; cases z)) A.ki
            have tr26 : TrisAt K H26 ps hs := htr.same fun h => but_seqT B26 A.ho.h3 (fun _ z => nomatch z) (fun _ _ z => nomatch z) h
            have okA : ∀ u ∈ hs, okT u := fun u hu => A.okT N2 u ((A.eq u).mp hu)
            have okN : okT (xn, wd, yn) := ⟨okS_nm (A.nmOk hxn), okS_nm (N2 wd hwd), okS_nm (A.nmOk hyn)⟩
            refine ⟨_, rfl, hl, rfl, ⟨_, SqL.of hps26⟩, fun M hM => ?_⟩
            refine lc_list (K := K) (a := hl) (xs := ps.map V.ref) (fun j H' => Same H26 H' ∧ ∃ qs : List Addr, H' M = some (.lst (qs.map V.ref)) ∧ TrisAt K H' qs (remT (hs.take j) (xn, wd, yn))) ⟨Same.upd hM, [], upd_same, True.intro⟩ (fun j H' _ z => SqL.of (z.1 _ _ hps26)) ?_ ?_
            · rintro j v H27 hv ⟨S27, qs, h27, t27⟩
              obtain ⟨q, u, rfl, hu, hq⟩ := tris_at tr26 hv
              have um := List.mem_of_getElem? hu
              refine ⟨rfl, _, rfl, _, rfl, _, rfl, _, rfl, by show 3 ≤ sizeLine; decide, fun b hb => ?_⟩
              have T28 : Same H27 (upd H27 b (.tup [.str xn, .str wd, .str yn])) := Same.upd hb
              have e28 : (upd H27 b (.tup [.str xn, .str wd, .str yn])) b = some (.tup [.str xn, .str wd, .str yn]) := upd_same
              generalize upd H27 b (.tup [.str xn, .str wd, .str yn]) = H28 at T28 e28
              refine ⟨_, _, tri_dp (same_seqT (S27.trans T28) hq), tri_dp (t := (xn, wd, yn)) (SqT.of e28), tri_shaped (okA u um), tri_shaped okN, _, rfl, ?_⟩
              rw [tri_eqv]
              have few : hs.length ≤ 100 := by have := A.n1; omega
              by_cases e : u = (xn, wd, yn)
              · rw [decide_eq_true e]
                exact iteF (remT_out hu (S27.trans T28) (T28 _ _ h27) (t27.same fun h => same_seqT T28 h) e)
              · rw [decide_eq_false e]
                exact iteT ⟨_, rfl, remT_in hu (S27.trans T28) hM (T28 _ _ h27) (t27.same fun h => same_seqT T28 h) (same_seqT (S27.trans T28) hq) few e⟩
            · rintro H27 ⟨S27, qs, h27, t27⟩
              rw [List.length_map, htr.len, List.take_length] at t27
              refine ⟨_, rfl, _, rfl, _, rfl, by show 3 ≤ sizeLine; decide, fun b hb => ⟨by show 1 ≤ sizeLine; decide, fun l5 hl5 => ?_⟩⟩
              have T28 := (Same.upd (o := .tup [.str xn, .str wd, .str yn]) hb).trans (Same.upd (o := .lst [.ref b]) hl5)
              have e28 : (upd (upd H27 b (.tup [.str xn, .str wd, .str yn])) l5 (.lst [.ref b])) b = some (.tup [.str xn, .str wd, .str yn]) := (Same.upd hl5) _ _ upd_same
              have l28 : (upd (upd H27 b (.tup [.str xn, .str wd, .str yn])) l5 (.lst [.ref b])) l5 = some (.lst [.ref b]) := upd_same
              generalize upd (upd H27 b (.tup [.str xn, .str wd, .str yn])) l5 (.lst [.ref b]) = H28 at T28 e28 l28
              have rlen : (remT hs (xn, wd, yn)).length ≤ i := Nat.le_trans (filter_len _ _) N.n1
              refine ⟨M, l5, _, _, rfl, rfl, T28 _ _ h27, l28, ?_, fun l6 hl6 => ?_⟩
              · rw [List.length_map, t27.len]
                exact Nat.le_trans (show _ ≤ 1000 by show _ + 1 ≤ 1000; omega) (by decide)
              have T29 : Same H28 (upd H28 l6 (.lst (qs.map V.ref ++ [.ref b]))) := Same.upd hl6
              have e29 : (upd H28 l6 (.lst (qs.map V.ref ++ [.ref b]))) l6 = some (.lst ((qs ++ [b]).map V.ref)) := by
                rw [upd_same, List.map_append]
                rfl
              generalize upd H28 l6 (.lst (qs.map V.ref ++ [.ref b])) = H29 at T29 e29
              dsimp only [gName, List.set_cons_succ, List.set_cons_zero]
              have S29 := (S27.trans T28).trans T29
              have t29 : TrisAt K H29 (qs ++ [b]) (remT hs (xn, wd, yn) ++ [(xn, wd, yn)]) := tris_snoc (t27.same fun h => same_seqT (T28.trans T29) h) (SqT.of (T29 _ _ e28))
              refine fin _ _ ⟨addT ts (xn, wd, yn), remT hs (xn, wd, yn) ++ [(xn, wd, yn)], l6, u16, rfl, F26.same S29, th', hh26.same S29, S29 _ _ ki26, ⟨_, e29, t29⟩, fun t ht => ?_, fun t => ?_, ?_, ?_, A21.n3, A.so, A.nm, fun t ht => ?_⟩
              · rcases addT_mem.mp ht with q | q
                · exact A.kn t q
                · rw [q]
                  exact ⟨hxn, hyn⟩
              · rw [remT_all, addT_mem, A.eq]
              · rw [List.length_append]
                exact Nat.succ_le_succ rlen
              · exact Nat.le_trans (addT_len _ _) (Nat.succ_le_succ N.n2)
              · rcases addT_mem.mp ht with q | q
                · exact A.wd t q
                · rw [q]
                  exact hwd
          · apply share (C := fun H' => Same H25 H')
            · intro els
              refine ⟨_, rfl, rfl, _, rfl, ite2 (fun _ => ?_) (fun _ => iteF (els H25 (Same.refl _)))⟩
              obtain ⟨ps, hps, htr⟩ := A.he
              refine ⟨_, rfl, Nat.zero_le _, fun l0 hl0 => ⟨hl, l0, _, rfl, rfl, (Same.upd hl0) _ _ hps, upd_same, _, rfl, ?_⟩⟩
              have T26 : Same H25 (upd H25 l0 (.lst [])) := Same.upd hl0
              by_cases hne : ps = []
              · rw [hne]
                exact iteF (els _ T26)
              have e : ((ps.map V.ref)).isEmpty = false := by
                cases q : ps with
                | nil => exact absurd q hne
                | cons a b => rfl
              have p1 : 1 ≤ ps.length := by
                cases q : ps with
                | nil => exact absurd q hne
                | cons a b => rw [List.length_cons]; omega
              rw [e]
              refine iteT ?_
              generalize upd H25 l0 (.lst []) = H26 at T26
              have st26 := st25.same T26
              have hps26 := T26 _ _ hps
              have A26 := A.kp (Same.kp T26)
              have hn1 := N.n1
              refine ⟨_, rfl, _, rfl, p, hl, ps.map V.ref, 103, rfl, st26, by decide, hps26, (ne_of_st st26 hps26 ns_refs).symm, by rw [List.length_map]; exact p1, by rw [List.length_map, htr.len]; omega, fun j vg H27 hj B27 st27 => ?_⟩
              obtain ⟨q, u, rfl, hu, hq⟩ := tris_at htr hj
              have um := List.mem_of_getElem? hu
              have ut := (A.eq u).mp um
              have F27 := (F25.same T26).but hp B27
              have A27 := A26.kp (But.kp B27 st26.ok)
              have k2527 : Kp H25 H27 := (Same.kp T26).trans (But.kp B27 st26.ok)
              have hq27 := k2527.sqT hq
              dsimp only [gName, List.set_cons_succ, List.set_cons_zero]
              refine ⟨_, rfl, x, dx, _, rfl, A27.ho.hx, no (by decide +kernel) (by decide +kernel) (by decide +kernel) (by decide +kernel), ?_⟩
              refine ⟨_, rfl, q, _, 0, _, rfl, rfl, hq27, atI_nat (j := 0) rfl, _, rfl, q, _, 1, _, rfl, rfl, hq27, atI_nat (j := 1) rfl, _, rfl, q, _, 2, _, rfl, rfl, hq27, atI_nat (j := 2) rfl, ?_⟩
              refine ⟨x, dx, sc, d1, d2, d3, u.1, u.2.1, u.2.2, ss, ws, th', ts, rfl, A27.ho, (A.kn u ut).1, (A.kn u ut).2, A.wd u ut, ut, fun H28 B28 hh28 => ?_⟩
              have F28 := F27.dict (.inr (.inr (.inr rfl))) B28
              have hps27 := k2527 _ _ ns_refs hps
              have hps28 : H28 hl = some (.lst (ps.map V.ref)) := B28 _ _ (ne_of hps27 A27.ho.h3 (by intro z; cases z)) hps27
              have ki28 := B28 _ _ (ne_of A27.ki A27.ho.h3 (by intro z; cases z)) A27.ki
              have tr28 : TrisAt K H28 ps hs := htr.same fun h => but_seqT B28 A27.ho.h3 (fun _ z => nomatch z) (fun _ _ z => nomatch z) (k2527.sqT h)
              have hq28 : SqT K H28 q (triV3 u) := but_seqT B28 A27.ho.h3 (fun _ z => nomatch z) (fun _ _ z => nomatch z) hq27
              have okA : ∀ u ∈ hs, okT u := fun u hu => A.okT N2 u ((A.eq u).mp hu)
              refine ⟨_, rfl, hl, rfl, ⟨_, SqL.of hps28⟩, fun M hM => ?_⟩
              refine lc_list (K := K) (a := hl) (xs := ps.map V.ref) (fun j H' => Same H28 H' ∧ ∃ qs : List Addr, H' M = some (.lst (qs.map V.ref)) ∧ TrisAt K H' qs (remT (hs.take j) u)) ⟨Same.upd hM, [], upd_same, True.intro⟩ (fun j H' _ z => SqL.of (z.1 _ _ hps28)) ?_ ?_
              · rintro j v H29 hv ⟨S29, qs, h29, t29⟩
                obtain ⟨q', u', rfl, hu', hq'⟩ := tris_at tr28 hv
                have um' := List.mem_of_getElem? hu'
                refine ⟨rfl, _, rfl, _, rfl, _, _, tri_dp (same_seqT S29 hq'), tri_dp (same_seqT S29 hq28), tri_shaped (okA u' um'), tri_shaped (okA u um), _, rfl, ?_⟩
                rw [tri_eqv]
                by_cases e : u' = u
                · rw [decide_eq_true e]
                  exact iteF (remT_out hu' S29 h29 t29 e)
                · rw [decide_eq_false e]
                  exact iteT ⟨_, rfl, remT_in hu' S29 hM h29 t29 (same_seqT S29 hq') (by omega) e⟩
              · rintro H29 ⟨S29, qs, h29, t29⟩
                rw [List.length_map, htr.len, List.take_length] at t29
                dsimp only [gName, List.set_cons_succ, List.set_cons_zero]
                refine fin _ _ ⟨remT ts u, remT hs u, M, some (.ref q), rfl, F28.same S29, th', hh28.same S29, S29 _ _ ki28, ⟨_, h29, t29⟩, fun t ht => A.kn t (remT_mem.mp ht).1, fun t => ?_, Nat.le_trans (filter_len _ _) A.n1, Nat.le_trans (filter_len _ _) A.n2, A21.n3, A.so, A.nm, fun t ht => A.wd t (remT_mem.mp ht).1⟩
                rw [remT_mem, remT_mem, A.eq]
            · intro H26 T26
              have F26 := F25.same T26
              have A26 := A.kp (Same.kp T26)
              refine ⟨_, rfl, x, dx, _, rfl, A26.ho.hx, no (by decide +kernel) (by decide +kernel) (by decide +kernel) (by decide +kernel), _, rfl, x, dx, sc, d1, d2, d3, xn, ss, ws, th', ts, rfl, A26.ho, hxn, by have := A21.n3; omega, fun H27 B27 hh27 => ?_⟩
              have F27 := F26.dict (.inr (.inr (.inl rfl))) B27
              obtain ⟨ps, hps, htr⟩ := A26.he
              have go : ∀ {b : Addr} {o : HO}, H26 b = some o → (∀ kvs, o ≠ .dK kvs) → H27 b = some o := fun {b o} e n => B27 _ _ (ne_of e A26.ho.h2 (n _)) e
              refine fin _ _ ⟨ts, hs, hl, u16, rfl, F27, setA th' xn false, hh27, by rw [setA_k1]; exact B27 _ _ m2 A26.ki, ⟨ps, go hps (fun _ z => nomatch z), htr.same fun h => but_seqT B27 A26.ho.h2 (fun _ z => nomatch z) (fun _ _ z => nomatch z) h⟩, fun t ht => by rw [setA_nm]; exact A.kn t ht, A.eq, A.n1, A.n2, by unfold setA; rw [List.length_map]; exact A21.n3, fun t ht => ?_, fun t ht => ?_, A.wd⟩
              · obtain ⟨t0, h0, rfl⟩ := List.mem_map.mp ht
                by_cases e : t0.1 = xn
                · rw [if_pos e]
                  exact A.so t0 h0
                · rw [if_neg e]
                  exact A.so t0 h0
              · obtain ⟨t0, h0, rfl⟩ := List.mem_map.mp ht
                by_cases e : t0.1 = xn
                · rw [if_pos e]
                  exact A.nm t0 h0
                · rw [if_neg e]
                  exact A.nm t0 h0
      · apply share (C := fun H' => Same H20 H')
        · intro ent
          refine ⟨_, rfl, rfl, _, rfl, ite2 (fun _ => iteT (ent H20 (Same.refl _))) (fun _ => ?_)⟩
          refine ⟨_, rfl, Nat.zero_le _, fun l0 hl0 => ⟨ln, l0, _, rfl, rfl, (Same.upd hl0) _ _ eln, upd_same, _, rfl, ?_⟩⟩
          by_cases hn : nmL th = []
          · rw [hn]
            exact iteT (ent _ (Same.upd hl0))
          · have e : ((nmL th).map V.str).isEmpty = false := by
              cases q : nmL th with
              | nil => exact absurd q hn
              | cons a b => rfl
            rw [e]
            refine iteF ?_
            dsimp only [tNext]
            have T21 : Same H20 (upd H20 l0 (.lst [])) := Same.upd hl0
            exact fin _ _ ⟨th, ln, u11, rfl, F20.same T21, (A20.kp (Same.kp T21)).mono (Nat.le_succ _), (st20.same T21).mono (by omega), T21 _ _ eln, hn⟩
        · intro H21 T21
          have F21 := F20.same T21
          have A21 := A20.kp (Same.kp T21)
          have st21 := st20.same T21
          have eln21 := T21 _ _ eln
          have thl : (nmL th).length ≤ i := by
            unfold nmL
            rw [List.length_map]
            exact A20.n3
          refine ⟨_, rfl, _, rfl, p, ln, nmL th, 1, rfl, st21, by decide, st_strs st21 eln21, eln21, by omega, fun z H22 hz hz12 hzn B22 st22 => ?_⟩
          dsimp only [gName, List.set_cons_succ, List.set_cons_zero]
          have F22 := F21.but hp B22
          have A22 := A21.kp (But.kp B22 st21.ok)
          have ls22 : H22 ls = some (.lst (ss.map V.str)) := F22 _ _ (ne_of hls16 N.ki (by intro z; cases z)) (ne_of hls16 N.ho.h1 (by intro z; cases z)) (ne_of hls16 N.ho.h2 (by intro z; cases z)) (ne_of hls16 N.ho.h3 (by intro z; cases z)) hls16
          have eln22 := B22 _ _ (st_strs st21 eln21) eln21
          refine ⟨_, rfl, _, rfl, p, ls, ss.map V.str, 21, rfl, st22, by decide, ls22, st_strs st22 ls22, by rw [List.length_map]; exact s1, by rw [List.length_map]; omega, fun j v H23 hj B23 st23 => ?_⟩
          obtain ⟨so, hso, rfl⟩ := map_str_get hj
          have hso : so ∈ ss := List.mem_of_getElem? hso
          have F23 := F22.but hp B23
          have A23 := A22.kp (But.kp B23 st22.ok)
          have eln23 := B23 _ _ (st_strs st22 eln22) eln22
          have lt1 : (k1 th).length < sizeLine := Nat.lt_of_le_of_lt (show _ ≤ 1000 by unfold k1; rw [List.length_map]; have := A20.n3; omega) (by decide)
          refine ⟨_, rfl, _, rfl, d, _, rfl, DPut.k (k := Sum.inr z) A23.ki lt1, ?_⟩
          rw [new1 (b := decide (wy < 4)) hzn]
          have hh24 := A23.ho.other (o := .dK (k1 (th ++ [(z, so, decide (wy < 4))]))) A23.ki m1 m2
          have B24 : But d H23 (upd H23 d (.dK (k1 (th ++ [(z, so, decide (wy < 4))])))) := But.upd
          have e24 : (upd H23 d (.dK (k1 (th ++ [(z, so, decide (wy < 4))])))) d = some (.dK (k1 (th ++ [(z, so, decide (wy < 4))]))) := upd_same
          generalize upd H23 d (.dK (k1 (th ++ [(z, so, decide (wy < 4))]))) = H24 at hh24 B24 e24
          have F24 := F23.dict (.inl rfl) B24
          have st24 : StN 22 H24 p := st23.but (ne_of_st st23 A23.ki (fun _ _ _ q => nomatch q)) B24
          have get : valV (k1 (th ++ [(z, so, decide (wy < 4))])) (Sum.inr z) = some (.str so) := by
            rw [val_srt, srt_new hzn]
            rfl
          refine ⟨_, rfl, x, dx, _, rfl, hh24.hx, hsF_no (by decide +kernel) (by decide +kernel) (by decide +kernel) (by decide +kernel) _ _ _ _, _, rfl, _, rfl, _, rfl, d, .str so, rfl, by rw [← get]; exact DGet.k (k := Sum.inr z) e24, _, rfl, _, _, rfl, rfl, ?_⟩
          refine ⟨x, dx, sc, d1, d2, d3, z, so, decide (wy < 4), ss, ws, th, ts, rfl, hh24, nm_is hz hz12, hz12, hzn, hso, by have := A20.n3; omega, fun H25 F25' hh25 => ?_⟩
          have F25 : Fr d d1 d2 d3 H16 H25 := fun b o a1 a2 a3 a4 e => F25' _ _ a2 a3 (F24 b o a1 a2 a3 a4 e)
          have st25 : StN 22 H25 p := by
            obtain ⟨q1, q2, q3, q4, q5⟩ := st24
            exact ⟨q1, q2, q3, F25' _ _ (ne_of q4 hh24.h1 (by intro z; cases z)) (ne_of q4 hh24.h2 (by intro z; cases z)) q4, q5⟩
          have eln25 : H25 ln = some (.lst ((nmL th).map V.str)) := F25' _ _ (ne_of (B24 _ _ (ne_of eln23 A23.ki (by intro z; cases z)) eln23) hh24.h1 (by intro z; cases z)) (ne_of (B24 _ _ (ne_of eln23 A23.ki (by intro z; cases z)) eln23) hh24.h2 (by intro z; cases z)) (B24 _ _ (ne_of eln23 A23.ki (by intro z; cases z)) eln23)
          have A25 : Now K HC S H25 x dx sc d1 d2 d3 d hl ss ws (th ++ [(z, so, decide (wy < 4))]) ts hs (i + 1) := by
            obtain ⟨ps, hps, htr⟩ := A23.he
            have f2 : ∀ {b : Addr} {o : HO}, H23 b = some o → (∀ kvs, o ≠ .dK kvs) → H25 b = some o := fun {b o} e n => by
              have e' := B24 _ _ (ne_of e A23.ki (n _)) e
              exact F25' _ _ (ne_of e' hh24.h1 (n _)) (ne_of e' hh24.h2 (n _)) e'
            refine ⟨hh25, F25' _ _ m1 m2 e24, ⟨ps, f2 hps (fun _ q => nomatch q), htr.same fun h => ?_⟩, A20.kn.more, A20.eq, Nat.le_succ_of_le A20.n1, Nat.le_succ_of_le A20.n2, ?_, fun t ht => ?_, fun t ht => ?_, A20.wd⟩
            · rcases h with (h | ⟨u, h⟩) | h
              · exact .inl (.inl (f2 h (fun _ q => nomatch q)))
              · exact .inl (.inr ⟨u, f2 h (fun _ q => nomatch q)⟩)
              · exact .inr h
            · rw [List.length_append]
              exact Nat.succ_le_succ A20.n3
            · rcases List.mem_append.mp ht with q | q
              · exact A20.so t q
              · rw [List.mem_singleton.mp q]
                exact hso
            · rcases List.mem_append.mp ht with q | q
              · exact A20.nm t q
              · rw [List.mem_singleton.mp q]
                exact hz
          refine ⟨_, rfl, _, rfl, by show 1 ≤ sizeLine; decide, fun l3 hl3 => ⟨ln, l3, _, _, rfl, rfl, (Same.upd hl3) _ _ eln25, upd_same, ?_, fun l4 hl4 => ?_⟩⟩
          · rw [List.length_map]
            exact Nat.le_trans (show _ ≤ 1000 by show _ + 1 ≤ 1000; omega) (by decide)
          have T26 := (Same.upd (o := .lst [.str z]) hl3).trans (Same.upd (o := .lst ((nmL th).map V.str ++ [.str z])) hl4)
          have e26 : (upd (upd H25 l3 (.lst [.str z])) l4 (.lst ((nmL th).map V.str ++ [.str z]))) l4 = some (.lst ((nmL (th ++ [(z, so, decide (wy < 4))])).map V.str)) := by
            rw [upd_same, nmL_app, List.map_append]
            rfl
          generalize upd (upd H25 l3 (.lst [.str z])) l4 (.lst ((nmL th).map V.str ++ [.str z])) = H26 at T26 e26
          dsimp only [gName, List.set_cons_succ, List.set_cons_zero]
          exact fin _ _ ⟨_, l4, some (.str z), rfl, F25.same T26, A25.kp (Same.kp T26), (st25.same T26).mono (by omega), e26, by rw [nmL_app]; simp [nmL]⟩
    · rintro σ H16 ⟨hL16, hls16, hlw16, hl, th, ts, hs, N, u7, u8, u9, u10, u11, u12, u13, u14, u15, u16, rfl⟩
      exact kk _
end
end Wm
namespace Wm
open PySem L2 He ClX StX
theorem errB_ok {K : PySem.W.Frag} {mg : Str → Option Value} {x f : Str} {C fI : Addr} (h : errB K C fI f = true) (g : mg x = some (.ref C)) : ErrT K mg x f C fI ∧ XfC K C ∧ ExcC K C ∧ PySem.W.exmOne K (.ref C) (.ref C) = some true := by
  unfold errB at h
  obtain ⟨h1, h⟩ := ba h
  obtain ⟨h2, h⟩ := ba h
  obtain ⟨h3, h⟩ := ba h
  obtain ⟨h4, h⟩ := ba h
  obtain ⟨h5, h⟩ := ba h
  obtain ⟨h6, h⟩ := ba h
  obtain ⟨h7, h⟩ := ba h
  obtain ⟨h8, h⟩ := ba h
  obtain ⟨h9, h⟩ := ba h
  obtain ⟨h10, h⟩ := ba h
  obtain ⟨h11, h⟩ := ba h
  obtain ⟨h12, h⟩ := ba h
  obtain ⟨h13, h⟩ := ba h
  obtain ⟨h14, h⟩ := ba h
  obtain ⟨h15, h⟩ := ba h
  obtain ⟨h16, h17⟩ := ba h
  exact ⟨⟨⟨excB_ok h14, eqO_ok h1, of_decide_eq_true h2, of_decide_eq_true h3, h4⟩, g, eqO_ok h13, of_decide_eq_true h5, eqO_ok h6, eqO_ok h7⟩, ⟨eqO_ok h8, eqO_ok h9, of_decide_eq_true h2, h10⟩,
    ⟨eqO_ok h8, eqO_ok h9, of_decide_eq_true h2, h10, eqO_ok h11, eqO_ok h16, of_decide_eq_true h17, of_decide_eq_true h12⟩, of_decide_eq_true h15⟩
theorem facts {P : Program} {w : World} {K : PySem.W.Frag} {h : Heap} {mg : Str → Option Value} {fa : Addr} (X : K.In h) (G : h.Ns mainGlobals mg) (hfa : mg "law" = some (.ref fa)) (c : SaysM ck fnL K) :
    ∃ fd : FuncData, (∀ (s : Shared) (v : Value), BindsTo s fd ⟨[v], []⟩ [("_law_script", v)]) ∧ ∀ base : Heap, K.In base → base.Ns mainGlobals mg → FnOk P w K mg base CX0 6 fa fd ["_law_script"] (spLaw K) := by
  have qf := c.says
  unfold ck at qf
  have ft : ∀ (i : Nat) {f : Fa}, factL[i]? = some f → f.ok K = true := fun i {f} e => List.all_eq_true.mp qf f (List.mem_of_getElem? e)
  have g_is_name := glo_ok X G (ft 0 (f := .glo "is_name") rfl)
  obtain ⟨fd_is_name, Fk_is_name⟩ := c.def_ 0 (d := d_is_name) rfl
  have Fk_is_name : FunD K "is_name" "is_name" (defArgs sName) (defBody sName) (defScope sName) [] [] (ga K "is_name") fd_is_name := Fk_is_name
  have F_is_name : Fun K "is_name" "is_name" sName (ga K "is_name") fd_is_name := fun_of Fk_is_name
  have D_is_name : Dn K mg "is_name" sName ["text"] (ga K "is_name") fd_is_name := ⟨F_is_name, g_is_name, F_is_name.binds (ps := ["text"]) fun _ _ _ _ _ _ us hl => match us, hl with | [_], _ => rfl⟩
  have g_refuse_no_name := glo_ok X G (ft 1 (f := .glo "refuse_no_name") rfl)
  obtain ⟨fd_refuse_no_name, Fk_refuse_no_name⟩ := c.def_ 1 (d := d_refuse_no_name) rfl
  have Fk_refuse_no_name : FunD K "refuse_no_name" "refuse_no_name" (defArgs sRN) (defBody sRN) (defScope sRN) [] [] (ga K "refuse_no_name") fd_refuse_no_name := Fk_refuse_no_name
  have F_refuse_no_name : Fun K "refuse_no_name" "refuse_no_name" sRN (ga K "refuse_no_name") fd_refuse_no_name := fun_of Fk_refuse_no_name
  have D_refuse_no_name : Dn K mg "refuse_no_name" sRN ["texts"] (ga K "refuse_no_name") fd_refuse_no_name := ⟨F_refuse_no_name, g_refuse_no_name, F_refuse_no_name.binds (ps := ["texts"]) fun _ _ _ _ _ _ us hl => match us, hl with | [_], _ => rfl⟩
  have g_first_twice := glo_ok X G (ft 2 (f := .glo "first_twice") rfl)
  obtain ⟨fd_first_twice, Fk_first_twice⟩ := c.def_ 2 (d := d_first_twice) rfl
  have Fk_first_twice : FunD K "first_twice" "first_twice" (defArgs sFT) (defBody sFT) (defScope sFT) [] [] (ga K "first_twice") fd_first_twice := Fk_first_twice
  have F_first_twice : Fun K "first_twice" "first_twice" sFT (ga K "first_twice") fd_first_twice := fun_of Fk_first_twice
  have D_first_twice : Dn K mg "first_twice" sFT ["row"] (ga K "first_twice") fd_first_twice := ⟨F_first_twice, g_first_twice, F_first_twice.binds (ps := ["row"]) fun _ _ _ _ _ _ us hl => match us, hl with | [_], _ => rfl⟩
  have g_refuse_twice := glo_ok X G (ft 3 (f := .glo "refuse_twice") rfl)
  obtain ⟨fd_refuse_twice, Fk_refuse_twice⟩ := c.def_ 3 (d := d_refuse_twice) rfl
  have Fk_refuse_twice : FunD K "refuse_twice" "refuse_twice" (defArgs sRT) (defBody sRT) (defScope sRT) [] [] (ga K "refuse_twice") fd_refuse_twice := Fk_refuse_twice
  have F_refuse_twice : Fun K "refuse_twice" "refuse_twice" sRT (ga K "refuse_twice") fd_refuse_twice := fun_of Fk_refuse_twice
  have D_refuse_twice : Dn K mg "refuse_twice" sRT ["names"] (ga K "refuse_twice") fd_refuse_twice := ⟨F_refuse_twice, g_refuse_twice, F_refuse_twice.binds (ps := ["names"]) fun _ _ _ _ _ _ us hl => match us, hl with | [_], _ => rfl⟩
  have g_refuse_count := glo_ok X G (ft 4 (f := .glo "refuse_count") rfl)
  obtain ⟨fd_refuse_count, Fk_refuse_count⟩ := c.def_ 4 (d := d_refuse_count) rfl
  have Fk_refuse_count : FunD K "refuse_count" "refuse_count" (defArgs sRC) (defBody sRC) (defScope sRC) [] [] (ga K "refuse_count") fd_refuse_count := Fk_refuse_count
  have F_refuse_count : Fun K "refuse_count" "refuse_count" sRC (ga K "refuse_count") fd_refuse_count := fun_of Fk_refuse_count
  have D_refuse_count : Dn K mg "refuse_count" sRC ["what", "count", "least", "most"] (ga K "refuse_count") fd_refuse_count := ⟨F_refuse_count, g_refuse_count, F_refuse_count.binds (ps := ["what", "count", "least", "most"]) fun _ _ _ _ _ _ us hl => match us, hl with | [_, _, _, _], _ => rfl⟩
  have g_own_list := glo_ok X G (ft 5 (f := .glo "own_list") rfl)
  obtain ⟨fd_own_list, Fk_own_list⟩ := c.def_ 5 (d := d_own_list) rfl
  have Fk_own_list : FunD K "own_list" "own_list" (defArgs sOL) (defBody sOL) (defScope sOL) [] [] (ga K "own_list") fd_own_list := Fk_own_list
  have F_own_list : Fun K "own_list" "own_list" sOL (ga K "own_list") fd_own_list := fun_of Fk_own_list
  have D_own_list : Dn K mg "own_list" sOL ["rows"] (ga K "own_list") fd_own_list := ⟨F_own_list, g_own_list, F_own_list.binds (ps := ["rows"]) fun _ _ _ _ _ _ us hl => match us, hl with | [_], _ => rfl⟩
  have g_refuse_makings_twice := glo_ok X G (ft 6 (f := .glo "refuse_makings_twice") rfl)
  obtain ⟨fd_refuse_makings_twice, Fk_refuse_makings_twice⟩ := c.def_ 6 (d := d_refuse_makings_twice) rfl
  have Fk_refuse_makings_twice : FunD K "refuse_makings_twice" "refuse_makings_twice" (defArgs sRMT) (defBody sRMT) (defScope sRMT) [] [] (ga K "refuse_makings_twice") fd_refuse_makings_twice := Fk_refuse_makings_twice
  have F_refuse_makings_twice : Fun K "refuse_makings_twice" "refuse_makings_twice" sRMT (ga K "refuse_makings_twice") fd_refuse_makings_twice := fun_of Fk_refuse_makings_twice
  have D_refuse_makings_twice : Dn K mg "refuse_makings_twice" sRMT ["makings"] (ga K "refuse_makings_twice") fd_refuse_makings_twice := ⟨F_refuse_makings_twice, g_refuse_makings_twice, F_refuse_makings_twice.binds (ps := ["makings"]) fun _ _ _ _ _ _ us hl => match us, hl with | [_], _ => rfl⟩
  have g_refuse_no_sort := glo_ok X G (ft 7 (f := .glo "refuse_no_sort") rfl)
  obtain ⟨fd_refuse_no_sort, Fk_refuse_no_sort⟩ := c.def_ 7 (d := d_refuse_no_sort) rfl
  have Fk_refuse_no_sort : FunD K "refuse_no_sort" "refuse_no_sort" (defArgs sRNS) (defBody sRNS) (defScope sRNS) [] [] (ga K "refuse_no_sort") fd_refuse_no_sort := Fk_refuse_no_sort
  have F_refuse_no_sort : Fun K "refuse_no_sort" "refuse_no_sort" sRNS (ga K "refuse_no_sort") fd_refuse_no_sort := fun_of Fk_refuse_no_sort
  have D_refuse_no_sort : Dn K mg "refuse_no_sort" sRNS ["sorts", "makings", "patterns"] (ga K "refuse_no_sort") fd_refuse_no_sort := ⟨F_refuse_no_sort, g_refuse_no_sort, F_refuse_no_sort.binds (ps := ["sorts", "makings", "patterns"]) fun _ _ _ _ _ _ us hl => match us, hl with | [_, _, _], _ => rfl⟩
  have g_refuse_upward := glo_ok X G (ft 8 (f := .glo "refuse_upward") rfl)
  obtain ⟨fd_refuse_upward, Fk_refuse_upward⟩ := c.def_ 8 (d := d_refuse_upward) rfl
  have Fk_refuse_upward : FunD K "refuse_upward" "refuse_upward" (defArgs sRU) (defBody sRU) (defScope sRU) [] [] (ga K "refuse_upward") fd_refuse_upward := Fk_refuse_upward
  have F_refuse_upward : Fun K "refuse_upward" "refuse_upward" sRU (ga K "refuse_upward") fd_refuse_upward := fun_of Fk_refuse_upward
  have D_refuse_upward : Dn K mg "refuse_upward" sRU ["sorts", "makings"] (ga K "refuse_upward") fd_refuse_upward := ⟨F_refuse_upward, g_refuse_upward, F_refuse_upward.binds (ps := ["sorts", "makings"]) fun _ _ _ _ _ _ us hl => match us, hl with | [_, _], _ => rfl⟩
  have g_refuse_no_word := glo_ok X G (ft 9 (f := .glo "refuse_no_word") rfl)
  obtain ⟨fd_refuse_no_word, Fk_refuse_no_word⟩ := c.def_ 9 (d := d_refuse_no_word) rfl
  have Fk_refuse_no_word : FunD K "refuse_no_word" "refuse_no_word" (defArgs sRNW) (defBody sRNW) (defScope sRNW) [] [] (ga K "refuse_no_word") fd_refuse_no_word := Fk_refuse_no_word
  have F_refuse_no_word : Fun K "refuse_no_word" "refuse_no_word" sRNW (ga K "refuse_no_word") fd_refuse_no_word := fun_of Fk_refuse_no_word
  have D_refuse_no_word : Dn K mg "refuse_no_word" sRNW ["words", "makings", "rules", "bars"] (ga K "refuse_no_word") fd_refuse_no_word := ⟨F_refuse_no_word, g_refuse_no_word, F_refuse_no_word.binds (ps := ["words", "makings", "rules", "bars"]) fun _ _ _ _ _ _ us hl => match us, hl with | [_, _, _, _], _ => rfl⟩
  have g_check_scheme := glo_ok X G (ft 10 (f := .glo "check_scheme") rfl)
  obtain ⟨fd_check_scheme, Fk_check_scheme⟩ := c.def_ 10 (d := d_check_scheme) rfl
  have Fk_check_scheme : FunD K "check_scheme" "check_scheme" (defArgs sCS) (defBody sCS) (defScope sCS) [] [] (ga K "check_scheme") fd_check_scheme := Fk_check_scheme
  have F_check_scheme : Fun K "check_scheme" "check_scheme" sCS (ga K "check_scheme") fd_check_scheme := fun_of Fk_check_scheme
  have D_check_scheme : Dn K mg "check_scheme" sCS ["sorts", "words", "makings", "rules", "bars"] (ga K "check_scheme") fd_check_scheme := ⟨F_check_scheme, g_check_scheme, F_check_scheme.binds (ps := ["sorts", "words", "makings", "rules", "bars"]) fun _ _ _ _ _ _ us hl => match us, hl with | [_, _, _, _, _], _ => rfl⟩
  have g_sorts_held := glo_ok X G (ft 11 (f := .glo "sorts_held") rfl)
  obtain ⟨fd_sorts_held, Fk_sorts_held⟩ := c.def_ 11 (d := d_sorts_held) rfl
  have Fk_sorts_held : FunD K "sorts_held" "sorts_held" (defArgs sSh) (defBody sSh) (defScope sSh) [] [] (ga K "sorts_held") fd_sorts_held := Fk_sorts_held
  have F_sorts_held : Fun K "sorts_held" "sorts_held" sSh (ga K "sorts_held") fd_sorts_held := fun_of Fk_sorts_held
  have D_sorts_held : Dn K mg "sorts_held" sSh ["house"] (ga K "sorts_held") fd_sorts_held := ⟨F_sorts_held, g_sorts_held, F_sorts_held.binds (ps := ["house"]) fun _ _ _ _ _ _ us hl => match us, hl with | [_], _ => rfl⟩
  have g__law_cell_at := glo_ok X G (ft 12 (f := .glo "_law_cell_at") rfl)
  obtain ⟨fd__law_cell_at, Fk__law_cell_at⟩ := c.def_ 12 (d := d__law_cell_at) rfl
  have Fk__law_cell_at : FunD K "_law_cell_at" "_law_cell_at" (defArgs sCel) (defBody sCel) (defScope sCel) [] [] (ga K "_law_cell_at") fd__law_cell_at := Fk__law_cell_at
  have F__law_cell_at : Fun K "_law_cell_at" "_law_cell_at" sCel (ga K "_law_cell_at") fd__law_cell_at := fun_of Fk__law_cell_at
  have D__law_cell_at : Dn K mg "_law_cell_at" sCel ["_law_script", "_law_k"] (ga K "_law_cell_at") fd__law_cell_at := ⟨F__law_cell_at, g__law_cell_at, F__law_cell_at.binds (ps := ["_law_script", "_law_k"]) fun _ _ _ _ _ _ us hl => match us, hl with | [_, _], _ => rfl⟩
  have g__law_well := glo_ok X G (ft 13 (f := .glo "_law_well") rfl)
  obtain ⟨fd__law_well, Fk__law_well⟩ := c.def_ 13 (d := d__law_well) rfl
  have Fk__law_well : FunD K "_law_well" "_law_well" (defArgs sWel) (defBody sWel) (defScope sWel) [] [] (ga K "_law_well") fd__law_well := Fk__law_well
  have F__law_well : Fun K "_law_well" "_law_well" sWel (ga K "_law_well") fd__law_well := fun_of Fk__law_well
  have D__law_well : Dn K mg "_law_well" sWel ["_law_cell"] (ga K "_law_well") fd__law_well := ⟨F__law_well, g__law_well, F__law_well.binds (ps := ["_law_cell"]) fun _ _ _ _ _ _ us hl => match us, hl with | [_], _ => rfl⟩
  have g__law_draw := glo_ok X G (ft 14 (f := .glo "_law_draw") rfl)
  obtain ⟨fd__law_draw, Fk__law_draw⟩ := c.def_ 14 (d := d__law_draw) rfl
  have Fk__law_draw : FunD K "_law_draw" "_law_draw" (defArgs sDrw) (defBody sDrw) (defScope sDrw) [] [] (ga K "_law_draw") fd__law_draw := Fk__law_draw
  have F__law_draw : Fun K "_law_draw" "_law_draw" sDrw (ga K "_law_draw") fd__law_draw := fun_of Fk__law_draw
  have D__law_draw : Dn K mg "_law_draw" sDrw ["_law_well_here", "_law_many"] (ga K "_law_draw") fd__law_draw := ⟨F__law_draw, g__law_draw, F__law_draw.binds (ps := ["_law_well_here", "_law_many"]) fun _ _ _ _ _ _ us hl => match us, hl with | [_, _], _ => rfl⟩
  have g__law_pick := glo_ok X G (ft 15 (f := .glo "_law_pick") rfl)
  obtain ⟨fd__law_pick, Fk__law_pick⟩ := c.def_ 15 (d := d__law_pick) rfl
  have Fk__law_pick : FunD K "_law_pick" "_law_pick" (defArgs sPck) (defBody sPck) (defScope sPck) [] [] (ga K "_law_pick") fd__law_pick := Fk__law_pick
  have F__law_pick : Fun K "_law_pick" "_law_pick" sPck (ga K "_law_pick") fd__law_pick := fun_of Fk__law_pick
  have D__law_pick : Dn K mg "_law_pick" sPck ["_law_well_here", "_law_some"] (ga K "_law_pick") fd__law_pick := ⟨F__law_pick, g__law_pick, F__law_pick.binds (ps := ["_law_well_here", "_law_some"]) fun _ _ _ _ _ _ us hl => match us, hl with | [_, _], _ => rfl⟩
  have g__law_name := glo_ok X G (ft 16 (f := .glo "_law_name") rfl)
  obtain ⟨fd__law_name, Fk__law_name⟩ := c.def_ 16 (d := d__law_name) rfl
  have Fk__law_name : FunD K "_law_name" "_law_name" (defArgs sNam) (defBody sNam) (defScope sNam) [] [] (ga K "_law_name") fd__law_name := Fk__law_name
  have F__law_name : Fun K "_law_name" "_law_name" sNam (ga K "_law_name") fd__law_name := fun_of Fk__law_name
  have D__law_name : Dn K mg "_law_name" sNam ["_law_well_here", "_law_taken"] (ga K "_law_name") fd__law_name := ⟨F__law_name, g__law_name, F__law_name.binds (ps := ["_law_well_here", "_law_taken"]) fun _ _ _ _ _ _ us hl => match us, hl with | [_, _], _ => rfl⟩
  have g__law_names := glo_ok X G (ft 17 (f := .glo "_law_names") rfl)
  obtain ⟨fd__law_names, Fk__law_names⟩ := c.def_ 17 (d := d__law_names) rfl
  have Fk__law_names : FunD K "_law_names" "_law_names" (defArgs sNms) (defBody sNms) (defScope sNms) [] [] (ga K "_law_names") fd__law_names := Fk__law_names
  have F__law_names : Fun K "_law_names" "_law_names" sNms (ga K "_law_names") fd__law_names := fun_of Fk__law_names
  have D__law_names : Dn K mg "_law_names" sNms ["_law_well_here", "_law_many"] (ga K "_law_names") fd__law_names := ⟨F__law_names, g__law_names, F__law_names.binds (ps := ["_law_well_here", "_law_many"]) fun _ _ _ _ _ _ us hl => match us, hl with | [_, _], _ => rfl⟩
  have g__law_due := glo_ok X G (ft 18 (f := .glo "_law_due") rfl)
  obtain ⟨fd__law_due, Fk__law_due⟩ := c.def_ 18 (d := d__law_due) rfl
  have Fk__law_due : FunD K "_law_due" "_law_due" (defArgs sDu) (defBody sDu) (defScope sDu) [] [] (ga K "_law_due") fd__law_due := Fk__law_due
  have F__law_due : Fun K "_law_due" "_law_due" sDu (ga K "_law_due") fd__law_due := fun_of Fk__law_due
  have D__law_due : Dn K mg "_law_due" sDu ["_law_kinds", "_law_held"] (ga K "_law_due") fd__law_due := ⟨F__law_due, g__law_due, F__law_due.binds (ps := ["_law_kinds", "_law_held"]) fun _ _ _ _ _ _ us hl => match us, hl with | [_, _], _ => rfl⟩
  have g__law_right := glo_ok X G (ft 19 (f := .glo "_law_right") rfl)
  obtain ⟨fd__law_right, Fk__law_right⟩ := c.def_ 19 (d := d__law_right) rfl
  have Fk__law_right : FunD K "_law_right" "_law_right" (defArgs sRi) (defBody sRi) (defScope sRi) [] [] (ga K "_law_right") fd__law_right := Fk__law_right
  have F__law_right : Fun K "_law_right" "_law_right" sRi (ga K "_law_right") fd__law_right := fun_of Fk__law_right
  have D__law_right : Dn K mg "_law_right" sRi ["_law_house", "_law_kinds", "_law_held"] (ga K "_law_right") fd__law_right := ⟨F__law_right, g__law_right, F__law_right.binds (ps := ["_law_house", "_law_kinds", "_law_held"]) fun _ _ _ _ _ _ us hl => match us, hl with | [_, _, _], _ => rfl⟩
  have g_law := glo_ok X G (ft 20 (f := .glo "law") rfl)
  obtain ⟨fd_law, Fk_law⟩ := c.def_ 20 (d := d_law) rfl
  have Fk_law : FunD K "law" "law" (defArgs sLaw) (defBody sLaw) (defScope sLaw) [] [] (ga K "law") fd_law := Fk_law
  have F_law : Fun K "law" "law" sLaw (ga K "law") fd_law := fun_of Fk_law
  have FLb := FunD.bindsA (ps := ["_law_script"]) Fk_law fun _ _ _ _ _ _ us hl => match us, hl with | [_], _ => rfl
  have g_Scheme := glo_ok X G (ft 21 (f := .glo "Scheme") rfl)
  have cls_Scheme := cls_ok (ft 22 (f := .cls "Scheme") rfl)
  have na_Scheme_own_sorts := noat_ok (ft 23 (f := .noat "Scheme" "own_sorts") rfl)
  have na_Scheme_own_words := noat_ok (ft 24 (f := .noat "Scheme" "own_words") rfl)
  have na_Scheme_own_makings := noat_ok (ft 25 (f := .noat "Scheme" "own_makings") rfl)
  have na_Scheme_own_rules := noat_ok (ft 26 (f := .noat "Scheme" "own_rules") rfl)
  have na_Scheme_own_bars := noat_ok (ft 27 (f := .noat "Scheme" "own_bars") rfl)
  have mk_Scheme := mkr_ok (ft 28 (f := .mkr "Scheme") rfl)
  have g_House := glo_ok X G (ft 29 (f := .glo "House") rfl)
  have cls_House := cls_ok (ft 30 (f := .cls "House") rfl)
  have na_House_own_scheme := noat_ok (ft 31 (f := .noat "House" "own_scheme") rfl)
  have na_House_sort_by_name := noat_ok (ft 32 (f := .noat "House" "sort_by_name") rfl)
  have na_House_awake_by_name := noat_ok (ft 33 (f := .noat "House" "awake_by_name") rfl)
  have na_House_standing := noat_ok (ft 34 (f := .noat "House" "standing") rfl)
  have mk_House := mkr_ok (ft 35 (f := .mkr "House") rfl)
  have m_Scheme_sorts := meth_ok (ft 36 (f := .meth "Scheme" "sorts") rfl)
  obtain ⟨fd_Scheme_sorts, Fk_Scheme_sorts⟩ := c.def_ 21 (d := d_Scheme_sorts) rfl
  have Fk_Scheme_sorts : FunD K "sorts" "Scheme.sorts" (defArgs sSor) (defBody sSor) (defScope sSor) [] [] (ma K (ga K "Scheme") "sorts") fd_Scheme_sorts := Fk_Scheme_sorts
  have F_Scheme_sorts : Fun K "sorts" "Scheme.sorts" sSor (ma K (ga K "Scheme") "sorts") fd_Scheme_sorts := fun_of Fk_Scheme_sorts
  have b_Scheme_sorts := F_Scheme_sorts.binds (ps := ["self"]) fun _ _ _ _ _ _ us hl => match us, hl with | [_], _ => rfl
  have m_Scheme_words := meth_ok (ft 37 (f := .meth "Scheme" "words") rfl)
  obtain ⟨fd_Scheme_words, Fk_Scheme_words⟩ := c.def_ 22 (d := d_Scheme_words) rfl
  have Fk_Scheme_words : FunD K "words" "Scheme.words" (defArgs sWor) (defBody sWor) (defScope sWor) [] [] (ma K (ga K "Scheme") "words") fd_Scheme_words := Fk_Scheme_words
  have F_Scheme_words : Fun K "words" "Scheme.words" sWor (ma K (ga K "Scheme") "words") fd_Scheme_words := fun_of Fk_Scheme_words
  have b_Scheme_words := F_Scheme_words.binds (ps := ["self"]) fun _ _ _ _ _ _ us hl => match us, hl with | [_], _ => rfl
  obtain ⟨fd_House___init__, Fk_House___init__⟩ := c.def_ 23 (d := d_House___init__) rfl
  have Fk_House___init__ : FunD K "__init__" "House.__init__" (defArgs sHin) (defBody sHin) (defScope sHin) [] [] (ma K (ga K "House") "__init__") fd_House___init__ := Fk_House___init__
  have F_House___init__ : Fun K "__init__" "House.__init__" sHin (ma K (ga K "House") "__init__") fd_House___init__ := fun_of Fk_House___init__
  have b_House___init__ := F_House___init__.binds (ps := ["self", "scheme"]) fun _ _ _ _ _ _ us hl => match us, hl with | [_, _], _ => rfl
  have m_House_give := meth_ok (ft 38 (f := .meth "House" "give") rfl)
  obtain ⟨fd_House_give, Fk_House_give⟩ := c.def_ 24 (d := d_House_give) rfl
  have Fk_House_give : FunD K "give" "House.give" (defArgs sHgi) (defBody sHgi) (defScope sHgi) [] [] (ma K (ga K "House") "give") fd_House_give := Fk_House_give
  have F_House_give : Fun K "give" "House.give" sHgi (ma K (ga K "House") "give") fd_House_give := fun_of Fk_House_give
  have b_House_give := F_House_give.binds (ps := ["self", "x", "word", "y"]) fun _ _ _ _ _ _ us hl => match us, hl with | [_, _, _, _], _ => rfl
  have m_House_take := meth_ok (ft 39 (f := .meth "House" "take") rfl)
  obtain ⟨fd_House_take, Fk_House_take⟩ := c.def_ 25 (d := d_House_take) rfl
  have Fk_House_take : FunD K "take" "House.take" (defArgs sHta) (defBody sHta) (defScope sHta) [] [] (ma K (ga K "House") "take") fd_House_take := Fk_House_take
  have F_House_take : Fun K "take" "House.take" sHta (ma K (ga K "House") "take") fd_House_take := fun_of Fk_House_take
  have b_House_take := F_House_take.binds (ps := ["self", "x", "word", "y"]) fun _ _ _ _ _ _ us hl => match us, hl with | [_, _, _, _], _ => rfl
  have m_House_sleep := meth_ok (ft 40 (f := .meth "House" "sleep") rfl)
  obtain ⟨fd_House_sleep, Fk_House_sleep⟩ := c.def_ 26 (d := d_House_sleep) rfl
  have Fk_House_sleep : FunD K "sleep" "House.sleep" (defArgs sHsl) (defBody sHsl) (defScope sHsl) [] [] (ma K (ga K "House") "sleep") fd_House_sleep := Fk_House_sleep
  have F_House_sleep : Fun K "sleep" "House.sleep" sHsl (ma K (ga K "House") "sleep") fd_House_sleep := fun_of Fk_House_sleep
  have b_House_sleep := F_House_sleep.binds (ps := ["self", "x"]) fun _ _ _ _ _ _ us hl => match us, hl with | [_, _], _ => rfl
  have m_House_sort_of := meth_ok (ft 41 (f := .meth "House" "sort_of") rfl)
  obtain ⟨fd_House_sort_of, Fk_House_sort_of⟩ := c.def_ 27 (d := d_House_sort_of) rfl
  have Fk_House_sort_of : FunD K "sort_of" "House.sort_of" (defArgs sHso) (defBody sHso) (defScope sHso) [] [] (ma K (ga K "House") "sort_of") fd_House_sort_of := Fk_House_sort_of
  have F_House_sort_of : Fun K "sort_of" "House.sort_of" sHso (ma K (ga K "House") "sort_of") fd_House_sort_of := fun_of Fk_House_sort_of
  have b_House_sort_of := F_House_sort_of.binds (ps := ["self", "x"]) fun _ _ _ _ _ _ us hl => match us, hl with | [_, _], _ => rfl
  have m_House_held := meth_ok (ft 42 (f := .meth "House" "held") rfl)
  obtain ⟨fd_House_held, Fk_House_held⟩ := c.def_ 28 (d := d_House_held) rfl
  have Fk_House_held : FunD K "held" "House.held" (defArgs sHhe) (defBody sHhe) (defScope sHhe) [] [] (ma K (ga K "House") "held") fd_House_held := Fk_House_held
  have F_House_held : Fun K "held" "House.held" sHhe (ma K (ga K "House") "held") fd_House_held := fun_of Fk_House_held
  have b_House_held := F_House_held.binds (ps := ["self"]) fun _ _ _ _ _ _ us hl => match us, hl with | [_], _ => rfl
  have m_House_refuse_no_thing := meth_ok (ft 43 (f := .meth "House" "refuse_no_thing") rfl)
  obtain ⟨fd_House_refuse_no_thing, Fk_House_refuse_no_thing⟩ := c.def_ 29 (d := d_House_refuse_no_thing) rfl
  have Fk_House_refuse_no_thing : FunD K "refuse_no_thing" "House.refuse_no_thing" (defArgs sHrt) (defBody sHrt) (defScope sHrt) [] [] (ma K (ga K "House") "refuse_no_thing") fd_House_refuse_no_thing := Fk_House_refuse_no_thing
  have F_House_refuse_no_thing : Fun K "refuse_no_thing" "House.refuse_no_thing" sHrt (ma K (ga K "House") "refuse_no_thing") fd_House_refuse_no_thing := fun_of Fk_House_refuse_no_thing
  have b_House_refuse_no_thing := F_House_refuse_no_thing.binds (ps := ["self", "name"]) fun _ _ _ _ _ _ us hl => match us, hl with | [_, _], _ => rfl
  have m_House_refuse_strange := meth_ok (ft 44 (f := .meth "House" "refuse_strange") rfl)
  obtain ⟨fd_House_refuse_strange, Fk_House_refuse_strange⟩ := c.def_ 30 (d := d_House_refuse_strange) rfl
  have Fk_House_refuse_strange : FunD K "refuse_strange" "House.refuse_strange" (defArgs sHrs) (defBody sHrs) (defScope sHrs) [] [] (ma K (ga K "House") "refuse_strange") fd_House_refuse_strange := Fk_House_refuse_strange
  have F_House_refuse_strange : Fun K "refuse_strange" "House.refuse_strange" sHrs (ma K (ga K "House") "refuse_strange") fd_House_refuse_strange := fun_of Fk_House_refuse_strange
  have b_House_refuse_strange := F_House_refuse_strange.binds (ps := ["self", "x", "word", "y"]) fun _ _ _ _ _ _ us hl => match us, hl with | [_, _, _, _], _ => rfl
  have m_House_enter := meth_ok (ft 45 (f := .meth "House" "enter") rfl)
  have t_abs := free_ok X G (ft 46 (f := .free "abs") rfl)
  have t_int := free_ok X G (ft 47 (f := .free "int") rfl)
  have t_len := free_ok X G (ft 48 (f := .free "len") rfl)
  have t_range := free_ok X G (ft 49 (f := .free "range") rfl)
  have t_all := free_ok X G (ft 50 (f := .free "all") rfl)
  have t_tuple := free_ok X G (ft 51 (f := .free "tuple") rfl)
  have t_enumerate := free_ok X G (ft 52 (f := .free "enumerate") rfl)
  have t_isinstance := free_ok X G (ft 53 (f := .free "isinstance") rfl)
  have t_ValueError := free_ok X G (ft 54 (f := .free "ValueError") rfl)
  have t_list := free_ok X G (ft 55 (f := .free "list") rfl)
  have t_str := free_ok X G (ft 56 (f := .free "str") rfl)
  have t_sorted := free_ok X G (ft 57 (f := .free "sorted") rfl)
  have t_set := free_ok X G (ft 58 (f := .free "set") rfl)
  have e := hfa.symm.trans g_law
  cases e
  have T : TxB mg := ⟨t_abs, t_int, t_len, t_range, t_all, t_tuple, t_enumerate, t_isinstance, t_ValueError⟩
  have TN : TxN mg := ⟨str_ok X G (ft 59 rfl), str_ok X G (ft 60 rfl), int_ok X G (ft 61 rfl)⟩
  have TS : TxS mg := ⟨int_ok X G (ft 62 rfl), int_ok X G (ft 63 rfl), int_ok X G (ft 64 rfl), int_ok X G (ft 65 rfl)⟩
  have MT := int_ok X G (ft 66 rfl)
  have TC : TxSch K mg (ga K "Scheme") (ma K (ga K "Scheme") "__init__") := ⟨cls_Scheme, na_Scheme_own_sorts, na_Scheme_own_words, na_Scheme_own_makings, na_Scheme_own_rules, na_Scheme_own_bars, g_Scheme, mk_Scheme⟩
  have TH : TxH K mg (ga K "House") (ma K (ga K "House") "__init__") := ⟨cls_House, na_House_own_scheme, na_House_sort_by_name, na_House_awake_by_name, na_House_standing, g_House, mk_House⟩
  obtain ⟨dSi, FSi⟩ := c.def_ 31 (d := dSch) rfl
  have FSi : FunD K "__init__" "Scheme.__init__" (defArgs sSch) (defBody sSch) (defScope sSch) [.non, .non, .non] [] (ma K (ga K "Scheme") "__init__") dSi := FSi
  obtain ⟨dss, hdss, bSi⟩ := FSi.binds1 (ps := ["self", "sorts", "words", "makings", "rules", "bars"]) 3 0 (by simp) (by rfl) (fun T kV doc pm an cdv ct us its hu hi => match us, hu, its, hi with | [_, _, _], _, [_, _, _], _ => ⟨_, rfl, rfl⟩)
  have edss : dss = [.none, .none, .none] := by
    cases hdss with
    | cons r1 t1 =>
      cases t1 with
      | cons r2 t2 =>
        cases t2 with
        | cons r3 t3 =>
          cases t3
          cases r1
          cases r2
          cases r3
          rfl
  rw [edss] at bSi
  obtain ⟨dEn, FEn⟩ := c.def_ 32 (d := dEnt) rfl
  have FEn : FunD K "enter" "House.enter" (defArgs sHen) (defBody sHen) (defScope sHen) [.bl true] [] (ma K (ga K "House") "enter") dEn := FEn
  obtain ⟨des, hdes, bEn⟩ := FEn.binds1 (ps := ["self", "name", "sort", "awake"]) 4 1 (by simp) (by rfl) (fun T kV doc pm an cdv ct us its hu hi => match us, hu, its, hi with | [_, _, _, _], _, [_], _ => ⟨_, rfl, rfl⟩)
  cases hdes
  refine ⟨_, fun s v => FLb s [v] rfl, fun base _ _ => ?_⟩
  have GIs : FnOk P w K mg base CX0 1 _ _ ["text"] spName := ok_name F_is_name T TN
  have GRV : FnOk P w K mg base CX0 2 _ _ ["texts"] (spRNv K) := ok_rnv F_refuse_no_name D_is_name GIs
  have GRT : FnOk P w K mg base CX0 2 _ _ ["names"] (spFT K) := ok_rt F_refuse_twice T D_first_twice
  have GMT : FnOk P w K mg base CX0 2 _ _ ["makings"] (spE1L K) := ok_rmt F_refuse_makings_twice T D_first_twice
  have GCS : FnOk P w K mg base CX0 3 _ _ ["sorts", "words", "makings", "rules", "bars"] (spCS K) := ok_cs F_check_scheme T TS D_refuse_count D_refuse_no_name D_refuse_twice D_refuse_makings_twice D_refuse_no_sort D_refuse_upward D_refuse_no_word GRV GRT GMT
  have GSc : FnOk P w K mg base CX0 4 _ dSi ["self", "sorts", "words", "makings", "rules", "bars"] (spSch K (ga K "Scheme")) := ok_sch FSi t_list TC D_own_list D_check_scheme GCS
  have GSo : FnOk P w K mg base CX0 1 _ _ ["self"] (spSor (ga K "Scheme")) := ok_sor F_Scheme_sorts t_list TC
  have GWo : FnOk P w K mg base CX0 1 _ _ ["self"] (spWor (ga K "Scheme")) := ok_wor F_Scheme_words t_list TC
  have GHi : FnOk P w K mg base CX0 1 _ _ ["self", "scheme"] (spHin (ga K "House")) := ok_hin F_House___init__ TH
  have GHrt : FnOk P w K mg base CX0 1 _ _ ["self", "name"] (spHrt (ga K "House") (ga K "Scheme")) := ok_hrt F_House_refuse_no_thing TH
  have GHrs : FnOk P w K mg base CX0 2 _ _ ["self", "x", "word", "y"] (spHrs (ga K "House") (ga K "Scheme")) := ok_hrs F_House_refuse_strange TH m_House_refuse_no_thing b_House_refuse_no_thing GHrt TC m_Scheme_words b_Scheme_words GWo
  have GGi : FnOk P w K mg base CX0 3 _ _ ["self", "x", "word", "y"] (spHgi (ga K "House") (ga K "Scheme")) := ok_hgi F_House_give TH m_House_refuse_strange b_House_refuse_strange GHrs
  have GTa : FnOk P w K mg base CX0 3 _ _ ["self", "x", "word", "y"] (spHta (ga K "House") (ga K "Scheme")) := ok_hta F_House_take TH m_House_refuse_strange b_House_refuse_strange GHrs
  have GSl : FnOk P w K mg base CX0 2 _ _ ["self", "x"] (spHsl (ga K "House") (ga K "Scheme")) := ok_hsl F_House_sleep TH m_House_refuse_no_thing b_House_refuse_no_thing GHrt
  have GSf : FnOk P w K mg base CX0 2 _ _ ["self", "x"] (spHso (ga K "House") (ga K "Scheme")) := ok_hso F_House_sort_of TH m_House_refuse_no_thing b_House_refuse_no_thing GHrt
  have GHe : FnOk P w K mg base CX0 1 _ _ ["self"] (spHhe K (ga K "House") (ga K "Scheme")) := ok_hhe F_House_held t_sorted TH
  have GEn : FnOk P w K mg base CX0 3 _ dEn ["self", "name", "sort", "awake"] (spHen (ga K "House") (ga K "Scheme")) := ok_hen FEn T MT TH D_refuse_no_name GRV TC m_Scheme_sorts b_Scheme_sorts GSo
  have GNm : FnOk P w K mg base CX0 3 _ _ ["_law_well_here", "_law_taken"] (spNam K) := ok_nam F__law_name T t_str D__law_draw D__law_pick
  have GN : FnOk P w K mg base CX0 4 _ _ ["_law_well_here", "_law_many"] (spNms K) := ok_nms F__law_names T D__law_name GNm
  have GSh : FnOk P w K mg base CX0 3 _ _ ["house"] (spSh K (ga K "House") (ga K "Scheme")) := ok_sh F_sorts_held t_sorted TH m_House_held b_House_held GHe m_House_sort_of b_House_sort_of GSf
  have GDu : FnOk P w K mg base CX0 1 _ _ ["_law_kinds", "_law_held"] (spDu K) := ok_du F__law_due t_sorted t_set
  have GRi : FnOk P w K mg base CX0 4 _ _ ["_law_house", "_law_kinds", "_law_held"] (spRi K (ga K "House") (ga K "Scheme")) := ok_ri F__law_right D_sorts_held GSh D__law_due GDu
  exact ok_law F_law T t_list TC TH D__law_cell_at D__law_well D__law_draw D__law_pick D__law_name GNm D__law_names GN D__law_right GRi bSi GSc b_House___init__ GHi m_House_enter bEn GEn m_House_give b_House_give GGi m_House_take b_House_take GTa m_House_sleep b_House_sleep GSl
end Wm

open PySem PySem.W PySem.Calls PyProof.Rows
set_option maxRecDepth 100000 in
set_option maxHeartbeats 0 in
theorem PySem.Challenge.cw_whomay_k79_sorts_held_holds : PySem.Challenge.rw_whomay_k79_sorts_held.Holds := by
  w_on; o_law
  refine HandSHeadRun.head_any (r := OpenLaw.row PySem.Challenge.rw_whomay_k79_sorts_held) (q := view (OpenLaw.row PySem.Challenge.rw_whomay_k79_sorts_held).prog [50]) (H := Wm.hkW) (ob := Wm.obW) (M := 20000) (loose := Wm.loW) (d := HandSHeadRun.topDef (OpenLaw.row PySem.Challenge.rw_whomay_k79_sorts_held).prog 50) (kwd := []) Wm.obW_eq
    (by kernel_rfl) (fun s => by kernel_rfl) Wm.runW (by kernel_rfl) (by kernel_rfl) (by kernel_rfl) (by rfl) (by first | assumption | decide +kernel) (by decide +kernel) ⟨rfl, rfl, rfl, rfl, rfl, by decide +kernel⟩ ?hw ?hc
  case hw => w_witness2
  case hc =>
    refine L2.walk_ofE (l := PySem.Challenge.rw_whomay_k79_sorts_held) (n := 63) (k := 6) (x := "_law_script") (CX := L2.CX0) rfl (by decide) (by kernel_rfl) ⟨rfl, by decide, by decide⟩ ?F (fun _ _ _ _ z => z)
    intro w mg fa h Y G hmg0
    obtain ⟨K, KX, c⟩ := Y
    have hmg : mg ("law" : PySem.Str) = some (.ref fa) := by
      have e : (HandSHeadRun.topDef (OpenLaw.row PySem.Challenge.rw_whomay_k79_sorts_held).prog 50).name = ("law" : PySem.Str) := by kernel_rfl
      rw [← e]
      exact hmg0
    obtain ⟨fd, hb, hF⟩ := Wm.facts (P := (PySem.Challenge.rw_whomay_k79_sorts_held).prog) (w := w) KX G hmg c
    exact ⟨K, fd, Wm.spLaw K, KX, hb, fun H a ns hl _ hS => ⟨a, ns, rfl, hS, hl, fun _ => rfl⟩, hF⟩
