import PyProof.Rows.All
import Wide.All
import OpenK.AllK
import Wide.FinOn
import HandS.ForMost
import HandS.ForExc
import HandS.Walk
import HandS.Star
import HandS.Style
import HandS.TupAny
import HandS.ExcInit
import HandS.ExcIs
import HandS.ExcField
import HandS.Defaults
import HandS.Wide
import HandS.ClsMeth
import KE.KExcIs
import KE.GoesEnum
import HandS.Conv
import KE.SortData
import KE.KDictList
import HandS.DictTup
import PyProof.DictMoreH
import HandS.HotCalls
import PyProof.SumWalkG
import PyProof.Rows.SumAny
import HandS.FStr
import KE.KCallOwn
import HandS.ExcInitHot
import HandS.WordsExc
import OpenK.KOps
import HandS.Deep
import HandS.Text
import PyProof.StrLawsChain
import PyProof.StrLawsTight
import HandS.ExcCtx
import HandS.NoneIn
import HandS.IsInst
import HandS.TryMany
import HandS.Words
import KE.KStateDown
import HandS.Head0
import HandS.Head1
import HandS.Head2
import HandS.HeadEnd
import HandS.HeadHook1
import HandS.HeadHook2
import PySem.Challenge.RW_whomay_k91_house_rows
set_option Elab.async false
set_option linter.all false
set_option maxRecDepth 100000
set_option maxHeartbeats 4000000
namespace Wm
open PySem L2
def top (i : Nat) : Stmt := PySem.Challenge.pw_whomay_k91_house_rows.main.body.getD i (.Pass ⟨0, 0, 0, 0⟩)
abbrev sW0 : Stmt := inClass (top 2) 0
abbrev sNT : Stmt := inClass (top 11) 0
abbrev sNN : Stmt := inClass (top 3) 0
abbrev sTk : Stmt := inClass (top 12) 0
abbrev sNS : Stmt := inClass (top 6) 0
abbrev sFu : Stmt := inClass (top 13) 0
abbrev sNW : Stmt := inClass (top 8) 0
abbrev sBR : Stmt := inClass (top 14) 0
abbrev sName : Stmt := top 19
abbrev sFT : Stmt := top 21
abbrev sRT : Stmt := top 22
abbrev sRC : Stmt := top 23
abbrev sRN : Stmt := top 20
abbrev sOL : Stmt := top 32
abbrev sRMT : Stmt := top 33
abbrev sRNS : Stmt := top 34
abbrev sRU : Stmt := top 35
abbrev sRNW : Stmt := top 36
abbrev sCS : Stmt := top 37
abbrev sSch : Stmt := inClass (top 38) 0
abbrev sSor : Stmt := inClass (top 38) 1
abbrev sWor : Stmt := inClass (top 38) 2
abbrev sPot : Stmt := top 45
abbrev sMix : Stmt := top 46
abbrev sTak : Stmt := top 47
abbrev sNBy : Stmt := top 48
abbrev sNms : Stmt := top 49
abbrev sHin : Stmt := inClass (top 26) 0
abbrev sHln : Stmt := inClass (top 26) 1
abbrev sHen : Stmt := inClass (top 26) 2
abbrev sHth : Stmt := inClass (top 26) 7
abbrev sHso : Stmt := inClass (top 26) 8
abbrev sHia : Stmt := inClass (top 26) 9
abbrev sHhe : Stmt := inClass (top 26) 11
abbrev sHrt : Stmt := inClass (top 26) 15
abbrev sHgi : Stmt := inClass (top 26) 3
abbrev sHrs : Stmt := inClass (top 26) 16
abbrev sHwa : Stmt := inClass (top 26) 5
abbrev sHsl : Stmt := inClass (top 26) 6
abbrev sPo : Stmt := top 40
abbrev sHps : Stmt := top 42
abbrev sRdh : Stmt := top 43
abbrev sGor : Stmt := top 50
abbrev sSpo : Stmt := top 51
abbrev sLnm : Stmt := top 52
abbrev sFor : Stmt := top 53
abbrev sThd : Stmt := top 54
abbrev sHod : Stmt := top 55
abbrev sDue : Stmt := top 56
abbrev sHor : Stmt := top 41
abbrev sSho : Stmt := top 57
abbrev sTor : Stmt := top 59
abbrev sBui : Stmt := top 60
abbrev sFou : Stmt := top 58
abbrev sLaw : Stmt := top 61
end Wm
/-! a head by one run: what is asked of the written part is one Bool of one's own -/
namespace Wm
open PySem PySem.Spec PyProof.Rows L2 He ClX
def obsM (ck : PySem.W.Frag → Bool) (fn : List DefD) (K : PySem.W.Frag) : AlD := (ck K && fn.all fun d => d.ok K, fn.map fun d => fnW K d.at_)
def SaysM (ck : PySem.W.Frag → Bool) (fn : List DefD) (K : PySem.W.Frag) : Prop := obsM ck fn K = valD fn
/-- what the module's names, and what the C code keeps, reach in n steps -/
def asM (g : Addr → Option Obj) : Nat → List Addr
  | 0 => [mainGlobals, cStatics]
  | n + 1 => growD g (asM g n)
def obsMG (n : Nat) (ck : PySem.W.Frag → Bool) (fn : List DefD) (g : Addr → Option Obj) : AlD := obsM ck fn (frG g (asM g n))
def hookM (n : Nat) (ck : PySem.W.Frag → Bool) (fn : List DefD) : PySem.W.Hook where
  α := AlD
  obs := fun s => obsMG n ck fn s.heap.get?
  val := fun _ => valD fn
  says := fun _ h => ∃ K : PySem.W.Frag, K.In h ∧ SaysM ck fn K
  of := fun _ _ e => ⟨_, frG_in, e⟩
  keeps := fun _ _ _ ⟨K, hK, c⟩ k => ⟨K, PySem.W.Frag.In.keeps hK k, c⟩
theorem obsMG_eq {n : Nat} {ck : PySem.W.Frag → Bool} {fn : List DefD} {g : Addr → Option Obj} {s : Shared} (h : ∀ a, g a = s.heap.get? a) : obsMG n ck fn g = (hookM n ck fn).obs s := by
  have e : g = s.heap.get? := funext h
  rw [e] <;> rfl
section
variable {ck : PySem.W.Frag → Bool} {fn : List DefD} {K : PySem.W.Frag}
theorem SaysM.says (c : SaysM ck fn K) : ck K = true := (ba (show (ck K && fn.all fun d => d.ok K) = true from congrArg (fun z : AlD => z.1) c)).1
theorem SaysM.def_ (c : SaysM ck fn K) (i : Nat) {d : DefD} (h : fn[i]? = some d := by rfl) : ∃ fd, FunD K d.name d.qual d.params d.body d.scope (d.dvs K) (d.kws K) (fAd K d.at_) fd := by
  have c2 := (ba (show (ck K && fn.all fun d => d.ok K) = true from congrArg (fun z : AlD => z.1) c)).2
  have e : fn.map (fun d => fnW K d.at_) = fn.map DefD.val := congrArg (fun z : AlD => z.2) c
  have e2 : (fn.map fun d => fnW K d.at_)[i]? = (fn.map DefD.val)[i]? := by rw [e]
  rw [List.getElem?_map, List.getElem?_map, h] at e2
  exact DefD.funD (Option.some.inj e2) (List.all_eq_true.mp c2 d (List.mem_of_getElem? h))
end
/-- a def without defaults -/
theorem fun_of {K : PySem.W.Frag} {x q : Str} {st : Stmt} {f : Addr} {fd : FuncData} (F : FunD K x q (defArgs st) (defBody st) (defScope st) [] [] f fd) : Fun K x q st f fd := by
  obtain ⟨oc, od, dV, kV, doc, pm, an, cdv, ct, osl, rfl, l, c, d, _⟩ := F.ex
  have e : dV = .none := by
    rcases d with ⟨_, e⟩ | ⟨n, _⟩
    · exact e
    · exact absurd rfl n
  subst e
  exact ⟨⟨oc, od, kV, doc, pm, an, cdv, ct, osl, rfl, l, c⟩, F.kp⟩
/-- an error class whose objects are made by an __init__ of its own -/
def excB (K : PySem.W.Frag) (C : Addr) : Bool := match K.lookup C with
  | some ⟨.type "type", _, .cls cd, sl⟩ => (match cd.mro, sl.toList with
    | .ref C' :: bm, [_, _, _, _, some (.builtin n), _] => C' == C && (n == "ValueError.__new__" && (!cd.hasDel && (cd.hasDict && PySem.HandSPX.refsVE bm)))
    | _, _ => false)
  | _ => false
theorem excB_ok {K : PySem.W.Frag} {C : Addr} (q : excB K C = true) : ∃ nm q N bs bm sn sub ab col dd k0 k1 k2 k3 k5, K.lookup C = some (excClassObj nm q C N bs bm true sn sub ab col dd k0 k1 k2 k3 k5 "ValueError.__new__") ∧ PySem.HandSPX.refsVE bm = true := by
  unfold excB at q
  split at q
  · rename_i dd cd sl ho
    split at q
    · rename_i C' bm k0 k1 k2 k3 n k5 hm hs
      simp only [Bool.and_eq_true, beq_iff_eq, Bool.not_eq_true'] at q
      obtain ⟨rfl, rfl, hdel, hdi, ht⟩ := q
      obtain ⟨nm, bs, mro, ns, qn, hd, sn, sub, ab, col, del⟩ := cd
      dsimp only at hm hdel hdi
      subst hm hdel hdi
      have hsl : sl = #[k0, k1, k2, k3, some (.builtin "ValueError.__new__"), k5] := by
        obtain ⟨l⟩ := sl
        simp only at hs
        rw [hs]
      subst hsl
      exact ⟨nm, qn, ns, bs, bm, sn, sub, ab, col, dd, k0, k1, k2, k3, k5, ho, ht⟩
    · cases q
  · cases q
/-- WhoError, whose __init__ the others call -/
def whoB (K : PySem.W.Frag) (W : Addr) : Bool := PySem.W.readsIn K W (.type "type") && (eqO (PySem.W.specialIn K (.ref W) "__getattribute__") (some (some (.builtin "type.__getattribute__"))) && (match PySem.W.findCls K (.ref W) (.type "type") "__init__" with
  | some (.val (.ref a)) => decide (a = ma K W "__init__")
  | _ => false))
theorem whoB_ok {K : PySem.W.Frag} {W : Addr} (h : whoB K W = true) : CRead K W (.type "type") ∧ PySem.W.findCls K (.ref W) (.type "type") "__init__" = some (.val (.ref (ma K W "__init__"))) := by
  unfold whoB at h
  obtain ⟨h1, h⟩ := ba h
  obtain ⟨h2, h3⟩ := ba h
  refine ⟨⟨h1, eqO_ok h2⟩, ?_⟩
  split at h3
  · rename_i a e
    rw [e, of_decide_eq_true h3]
  · cases h3
end Wm
/-! the reached fragment, gone through once: what was seen is kept as bits of a number -/
namespace Wm
open PySem PySem.Spec PyProof.Rows L2 He ClX
noncomputable def pushB (as : List Addr) : Nat → List Addr → Nat × List Addr := List.rec (motive := fun _ => Nat → List Addr → Nat × List Addr) (fun v acc => (v, acc)) (fun a _ ih v acc => Bool.rec (motive := fun _ => Nat × List Addr) (ih (Nat.lor v (Nat.shiftLeft 1 a)) (a :: acc)) (ih v acc) (Nat.beq (Nat.mod (Nat.shiftRight v a) 2) 1)) as
noncomputable def lvB (g : Addr → Option Obj) (n : Nat) : List Addr → Nat → List Addr := Nat.rec (motive := fun _ => List Addr → Nat → List Addr) (fun fr _ => fr) (fun _ ih fr v => fr ++ (match pushB (fr.flatMap fun a => match g a with
  | some o => refsD o
  | none => []) v [] with
  | (v', nf) => ih nf v')) n
noncomputable def asB (g : Addr → Option Obj) (n : Nat) : List Addr := lvB g n [mainGlobals, cStatics] (Nat.lor (Nat.shiftLeft 1 mainGlobals) (Nat.shiftLeft 1 cStatics))
noncomputable def obsBG (n : Nat) (ck : PySem.W.Frag → Bool) (fn : List DefD) (g : Addr → Option Obj) : AlD := obsM ck fn (frG g (asB g n))
noncomputable def hookB (n : Nat) (ck : PySem.W.Frag → Bool) (fn : List DefD) : PySem.W.Hook where
  α := AlD
  obs := fun s => obsBG n ck fn s.heap.get?
  val := fun _ => valD fn
  says := fun _ h => ∃ K : PySem.W.Frag, K.In h ∧ SaysM ck fn K
  of := fun _ _ e => ⟨_, frG_in, e⟩
  keeps := fun _ _ _ ⟨K, hK, c⟩ k => ⟨K, PySem.W.Frag.In.keeps hK k, c⟩
theorem obsBG_eq {n : Nat} {ck : PySem.W.Frag → Bool} {fn : List DefD} {g : Addr → Option Obj} {s : Shared} (h : ∀ a, g a = s.heap.get? a) : obsBG n ck fn g = (hookB n ck fn).obs s := by
  have e : g = s.heap.get? := funext h
  rw [e] <;> rfl
end Wm
/-! the run's equation in two: what is looked at behind the top, and the facts, each by a run of its own -/
namespace Wm
open PySem PySem.W PySem.Calls PyProof.Rows HandSHeadRun
noncomputable def RunA (r : OpenRow) (q : Program) (M : Nat) (loose : List PySem.Str) (w : World) : Prop :=
  ∀ os : OsState, (endF (stepQ (denQ tabQ) r.prog w) M r.prog w os).map (fun s => (looksF r.prog (boot_heap w.params) s.abs, seenQ q loose (importedModules r.prog.main.body) (fun s => xlAt q [] s && recOk r.toRowW.records s) s.abs)) = some (true, openGood q loose)
noncomputable def RunB (r : OpenRow) (H : Hook) (ob : SharedT → H.α) (M : Nat) (w : World) : Prop :=
  ∀ os : OsState, (endF (stepQ (denQ tabQ) r.prog w) M r.prog w os).map ob = some (H.val w)
theorem runEq_of {r : OpenRow} {q : Program} {H : Hook} {ob : SharedT → H.α} {M : Nat} {loose : List PySem.Str} {w : World} (a : RunA r q M loose w) (b : RunB r H ob M w) : RunEq r q H ob M loose w := fun os => by
  have a := a os
  have b := b os
  revert a b
  generalize endF (stepQ (denQ tabQ) r.prog w) M r.prog w os = z
  cases z with
  | none =>
    intro a
    cases a
  | some s =>
    intro a b
    have e1 := Option.some.inj a
    have e2 : ob s = H.val w := Option.some.inj b
    obtain ⟨e3, e4⟩ := Prod.mk.inj e1
    show some (_, _, _) = _
    rw [e2]
    exact congrArg some (Prod.ext e3 (Prod.ext e4 rfl))
end Wm
namespace Wm
open PySem L2 He ClX StX
/-- what is asked of an error class of one field -/
def errB (K : PySem.W.Frag) (C fI : Addr) (f : Str) : Bool :=
  eqO (PySem.W.findIn K (.ref C) "__setattr__") (some (some (.builtin "object.__setattr__"))) && (decide (PySem.W.subIn K (.ref C) (.type "BaseException") = some true) && (decide (PySem.W.typeIn K (.ref C) = some (.type "type")) && (PySem.W.keepIn K (.ref C) &&
  (decide (PySem.W.typeIn K (.ref fI) = some (.type "function")) && (eqO (PySem.W.findIn K (.ref C) "kind") (some none) && (eqO (PySem.W.findIn K (.ref C) f) (some none) && (eqO (PySem.W.findIn K (.ref C) "__getattribute__") (some (some (.builtin "BaseException.__getattribute__"))) &&
  (eqO (PySem.W.findIn K (.ref C) "__getattr__") (some none) && (PySem.W.hasDictIn K C && (eqO (PySem.W.findIn K (.ref C) "__class__") (some (some (.builtin "object.__class__"))) && (decide (PySem.W.mroIn K C (.type "object") = some true) &&
  (eqO (PySem.W.findIn K (.ref C) "__init__") (some (some (.ref fI))) && (excB K C && (decide (PySem.W.exmOne K (.ref C) (.ref C) = some true) && (eqO (PySem.W.specialIn K (.builtin "object.__class__") "__get__") (some (some (.builtin "getset_descriptor.__get__"))) && decide (PySem.W.takesIn K (.builtin "object.__class__") = some true))))))))))))))))
def factL : List Fa := [.glo "WhoError", .glo "NoName", .glo "Taken", .glo "NoSort", .glo "Full", .glo "NoThing", .glo "NoWord", .glo "BadRow", .glo "is_name", .glo "refuse_no_name", .glo "first_twice", .glo "refuse_twice", .glo "refuse_count", .glo "own_list", .glo "refuse_makings_twice", .glo "refuse_no_sort", .glo "refuse_upward", .glo "refuse_no_word", .glo "check_scheme", .glo "parts_of", .glo "house_rows", .glo "house_parts", .glo "read_house", .glo "_law_pot", .glo "_law_mixed", .glo "_law_take", .glo "_law_name_by", .glo "_law_names", .glo "_law_good_rows", .glo "_law_spoiled", .glo "_law_is_name", .glo "_law_formed", .glo "_law_thing_due", .glo "_law_holding_due", .glo "_law_due", .glo "_law_shown", .glo "_law_found", .glo "_law_told_rows", .glo "_law_built", .glo "law", .glo "Scheme", .cls "Scheme", .noat "Scheme" "own_sorts", .noat "Scheme" "own_words", .noat "Scheme" "own_makings", .noat "Scheme" "own_rules", .noat "Scheme" "own_bars", .mkr "Scheme", .glo "House", .cls "House", .noat "House" "own_scheme", .noat "House" "sort_by_name", .noat "House" "awake_by_name", .noat "House" "standing", .mkr "House", .meth "Scheme" "sorts", .meth "Scheme" "words", .meth "House" "__len__", .meth "House" "things", .meth "House" "give", .meth "House" "wake", .meth "House" "sleep", .meth "House" "sort_of", .meth "House" "is_awake", .meth "House" "held", .meth "House" "refuse_no_thing", .meth "House" "refuse_strange", .meth "House" "enter", .free "abs", .free "int", .free "len", .free "range", .free "all", .free "tuple", .free "enumerate", .free "isinstance", .free "ValueError", .free "list", .free "str", .free "sorted", .free "max", .str "LETTERS" "abcdefghijklmnopqrstuvwxyz", .str "FIGURES" "0123456789", .int "LONGEST_NAME" 12, .int "MOST_SORTS" 4, .int "MOST_WORDS" 5, .int "MOST_RULES" 8, .int "MOST_BARS" 4, .int "MOST_THINGS" 60]
def exB (K : PySem.W.Frag) (cs : List Addr) : Bool := (List.range 7).all fun i => (List.range 7).all fun j => decide (PySem.W.exmOne K (.ref (cs.getD i 0)) (.ref (cs.getD j 0)) = some (decide (i = j)))
def ck (K : PySem.W.Frag) : Bool := factL.all (fun f => f.ok K) && (whoB K (ga K "WhoError") && (errB K (ga K "NoName") (ma K (ga K "NoName") "__init__") "name" && (errB K (ga K "Taken") (ma K (ga K "Taken") "__init__") "name" && (errB K (ga K "NoSort") (ma K (ga K "NoSort") "__init__") "name" && (errB K (ga K "Full") (ma K (ga K "Full") "__init__") "kind" && (errB K (ga K "NoThing") (ma K (ga K "NoThing") "__init__") "name" && (errB K (ga K "NoWord") (ma K (ga K "NoWord") "__init__") "name" && (errB K (ga K "BadRow") (ma K (ga K "BadRow") "__init__") "row" && (exB K [ga K "BadRow", ga K "NoName", ga K "Taken", ga K "NoSort", ga K "Full", ga K "NoThing", ga K "NoWord"])))))))))
def d_is_name : DefD := ⟨("is_name", none), "is_name", "is_name", defArgs sName, defBody sName, defScope sName, [], []⟩
def d_refuse_no_name : DefD := ⟨("refuse_no_name", none), "refuse_no_name", "refuse_no_name", defArgs sRN, defBody sRN, defScope sRN, [], []⟩
def d_first_twice : DefD := ⟨("first_twice", none), "first_twice", "first_twice", defArgs sFT, defBody sFT, defScope sFT, [], []⟩
def d_refuse_twice : DefD := ⟨("refuse_twice", none), "refuse_twice", "refuse_twice", defArgs sRT, defBody sRT, defScope sRT, [], []⟩
def d_refuse_count : DefD := ⟨("refuse_count", none), "refuse_count", "refuse_count", defArgs sRC, defBody sRC, defScope sRC, [], []⟩
def d_own_list : DefD := ⟨("own_list", none), "own_list", "own_list", defArgs sOL, defBody sOL, defScope sOL, [], []⟩
def d_refuse_makings_twice : DefD := ⟨("refuse_makings_twice", none), "refuse_makings_twice", "refuse_makings_twice", defArgs sRMT, defBody sRMT, defScope sRMT, [], []⟩
def d_refuse_no_sort : DefD := ⟨("refuse_no_sort", none), "refuse_no_sort", "refuse_no_sort", defArgs sRNS, defBody sRNS, defScope sRNS, [], []⟩
def d_refuse_upward : DefD := ⟨("refuse_upward", none), "refuse_upward", "refuse_upward", defArgs sRU, defBody sRU, defScope sRU, [], []⟩
def d_refuse_no_word : DefD := ⟨("refuse_no_word", none), "refuse_no_word", "refuse_no_word", defArgs sRNW, defBody sRNW, defScope sRNW, [], []⟩
def d_check_scheme : DefD := ⟨("check_scheme", none), "check_scheme", "check_scheme", defArgs sCS, defBody sCS, defScope sCS, [], []⟩
def d_parts_of : DefD := ⟨("parts_of", none), "parts_of", "parts_of", defArgs sPo, defBody sPo, defScope sPo, [], []⟩
def d_house_rows : DefD := ⟨("house_rows", none), "house_rows", "house_rows", defArgs sHor, defBody sHor, defScope sHor, [], []⟩
def d_house_parts : DefD := ⟨("house_parts", none), "house_parts", "house_parts", defArgs sHps, defBody sHps, defScope sHps, [], []⟩
def d_read_house : DefD := ⟨("read_house", none), "read_house", "read_house", defArgs sRdh, defBody sRdh, defScope sRdh, [], []⟩
def d__law_pot : DefD := ⟨("_law_pot", none), "_law_pot", "_law_pot", defArgs sPot, defBody sPot, defScope sPot, [], []⟩
def d__law_mixed : DefD := ⟨("_law_mixed", none), "_law_mixed", "_law_mixed", defArgs sMix, defBody sMix, defScope sMix, [], []⟩
def d__law_take : DefD := ⟨("_law_take", none), "_law_take", "_law_take", defArgs sTak, defBody sTak, defScope sTak, [], []⟩
def d__law_name_by : DefD := ⟨("_law_name_by", none), "_law_name_by", "_law_name_by", defArgs sNBy, defBody sNBy, defScope sNBy, [], []⟩
def d__law_names : DefD := ⟨("_law_names", none), "_law_names", "_law_names", defArgs sNms, defBody sNms, defScope sNms, [], []⟩
def d__law_good_rows : DefD := ⟨("_law_good_rows", none), "_law_good_rows", "_law_good_rows", defArgs sGor, defBody sGor, defScope sGor, [], []⟩
def d__law_spoiled : DefD := ⟨("_law_spoiled", none), "_law_spoiled", "_law_spoiled", defArgs sSpo, defBody sSpo, defScope sSpo, [], []⟩
def d__law_is_name : DefD := ⟨("_law_is_name", none), "_law_is_name", "_law_is_name", defArgs sLnm, defBody sLnm, defScope sLnm, [], []⟩
def d__law_formed : DefD := ⟨("_law_formed", none), "_law_formed", "_law_formed", defArgs sFor, defBody sFor, defScope sFor, [], []⟩
def d__law_thing_due : DefD := ⟨("_law_thing_due", none), "_law_thing_due", "_law_thing_due", defArgs sThd, defBody sThd, defScope sThd, [], []⟩
def d__law_holding_due : DefD := ⟨("_law_holding_due", none), "_law_holding_due", "_law_holding_due", defArgs sHod, defBody sHod, defScope sHod, [], []⟩
def d__law_due : DefD := ⟨("_law_due", none), "_law_due", "_law_due", defArgs sDue, defBody sDue, defScope sDue, [], []⟩
def d__law_shown : DefD := ⟨("_law_shown", none), "_law_shown", "_law_shown", defArgs sSho, defBody sSho, defScope sSho, [], []⟩
def d__law_found : DefD := ⟨("_law_found", none), "_law_found", "_law_found", defArgs sFou, defBody sFou, defScope sFou, [], []⟩
def d__law_told_rows : DefD := ⟨("_law_told_rows", none), "_law_told_rows", "_law_told_rows", defArgs sTor, defBody sTor, defScope sTor, [], []⟩
def d__law_built : DefD := ⟨("_law_built", none), "_law_built", "_law_built", defArgs sBui, defBody sBui, defScope sBui, [], []⟩
def d_law : DefD := ⟨("law", none), "law", "law", defArgs sLaw, defBody sLaw, defScope sLaw, [], []⟩
def d_NoName___init__ : DefD := ⟨("NoName", some "__init__"), "__init__", "NoName.__init__", defArgs sNN, defBody sNN, defScope sNN, [], []⟩
def d_Taken___init__ : DefD := ⟨("Taken", some "__init__"), "__init__", "Taken.__init__", defArgs sTk, defBody sTk, defScope sTk, [], []⟩
def d_NoSort___init__ : DefD := ⟨("NoSort", some "__init__"), "__init__", "NoSort.__init__", defArgs sNS, defBody sNS, defScope sNS, [], []⟩
def d_NoThing___init__ : DefD := ⟨("NoThing", some "__init__"), "__init__", "NoThing.__init__", defArgs sNT, defBody sNT, defScope sNT, [], []⟩
def d_NoWord___init__ : DefD := ⟨("NoWord", some "__init__"), "__init__", "NoWord.__init__", defArgs sNW, defBody sNW, defScope sNW, [], []⟩
def d_Full___init__ : DefD := ⟨("Full", some "__init__"), "__init__", "Full.__init__", defArgs sFu, defBody sFu, defScope sFu, [], []⟩
def d_BadRow___init__ : DefD := ⟨("BadRow", some "__init__"), "__init__", "BadRow.__init__", defArgs sBR, defBody sBR, defScope sBR, [], []⟩
def d_Scheme_sorts : DefD := ⟨("Scheme", some "sorts"), "sorts", "Scheme.sorts", defArgs sSor, defBody sSor, defScope sSor, [], []⟩
def d_Scheme_words : DefD := ⟨("Scheme", some "words"), "words", "Scheme.words", defArgs sWor, defBody sWor, defScope sWor, [], []⟩
def d_House___init__ : DefD := ⟨("House", some "__init__"), "__init__", "House.__init__", defArgs sHin, defBody sHin, defScope sHin, [], []⟩
def d_House___len__ : DefD := ⟨("House", some "__len__"), "__len__", "House.__len__", defArgs sHln, defBody sHln, defScope sHln, [], []⟩
def d_House_things : DefD := ⟨("House", some "things"), "things", "House.things", defArgs sHth, defBody sHth, defScope sHth, [], []⟩
def d_House_give : DefD := ⟨("House", some "give"), "give", "House.give", defArgs sHgi, defBody sHgi, defScope sHgi, [], []⟩
def d_House_wake : DefD := ⟨("House", some "wake"), "wake", "House.wake", defArgs sHwa, defBody sHwa, defScope sHwa, [], []⟩
def d_House_sleep : DefD := ⟨("House", some "sleep"), "sleep", "House.sleep", defArgs sHsl, defBody sHsl, defScope sHsl, [], []⟩
def d_House_sort_of : DefD := ⟨("House", some "sort_of"), "sort_of", "House.sort_of", defArgs sHso, defBody sHso, defScope sHso, [], []⟩
def d_House_is_awake : DefD := ⟨("House", some "is_awake"), "is_awake", "House.is_awake", defArgs sHia, defBody sHia, defScope sHia, [], []⟩
def d_House_held : DefD := ⟨("House", some "held"), "held", "House.held", defArgs sHhe, defBody sHhe, defScope sHhe, [], []⟩
def d_House_refuse_no_thing : DefD := ⟨("House", some "refuse_no_thing"), "refuse_no_thing", "House.refuse_no_thing", defArgs sHrt, defBody sHrt, defScope sHrt, [], []⟩
def d_House_refuse_strange : DefD := ⟨("House", some "refuse_strange"), "refuse_strange", "House.refuse_strange", defArgs sHrs, defBody sHrs, defScope sHrs, [], []⟩
def dEnt : DefD := ⟨("House", some "enter"), "enter", "House.enter", defArgs sHen, defBody sHen, defScope sHen, [.bl true], []⟩
def dWho : DefD := ⟨("WhoError", some "__init__"), "__init__", "WhoError.__init__", defArgs sW0, defBody sW0, defScope sW0, [.str "whoerror"], []⟩
def dSch : DefD := ⟨("Scheme", some "__init__"), "__init__", "Scheme.__init__", defArgs sSch, defBody sSch, defScope sSch, [.non, .non, .non], []⟩
def fnL : List DefD := [d_is_name, d_refuse_no_name, d_first_twice, d_refuse_twice, d_refuse_count, d_own_list, d_refuse_makings_twice, d_refuse_no_sort, d_refuse_upward, d_refuse_no_word, d_check_scheme, d_parts_of, d_house_rows, d_house_parts, d_read_house, d__law_pot, d__law_mixed, d__law_take, d__law_name_by, d__law_names, d__law_good_rows, d__law_spoiled, d__law_is_name, d__law_formed, d__law_thing_due, d__law_holding_due, d__law_due, d__law_shown, d__law_found, d__law_told_rows, d__law_built, d_law, d_NoName___init__, d_Taken___init__, d_NoSort___init__, d_NoThing___init__, d_NoWord___init__, d_Full___init__, d_BadRow___init__, d_Scheme_sorts, d_Scheme_words, d_House___init__, d_House___len__, d_House_things, d_House_give, d_House_wake, d_House_sleep, d_House_sort_of, d_House_is_awake, d_House_held, d_House_refuse_no_thing, d_House_refuse_strange, dEnt, dWho, dSch]
end Wm
set_option maxHeartbeats 0
namespace Wm
open PySem PySem.W PySem.Calls PyProof.Rows
abbrev RW : OpenRow := OpenLaw.row PySem.Challenge.rw_whomay_k91_house_rows
noncomputable abbrev hkW : Hook := hookB 4 ck fnL
noncomputable def obW (s : SharedT) : He.AlD := obsBG 4 ck fnL (HandSHeadRun.getT s)
theorem obW_eq (s : SharedT) : obW s = hkW.obs s.abs := obsBG_eq (HandSHeadRun.getT_eq s)
def lo0 : List PySem.Str := ["_wall", "WhoError", "NoName", "BadCount", "Twice", "NoSort", "Upward", "NoWord", "NoRule", "NoBar", "NoThing", "Taken", "Full", "BadRow", "LETTERS", "FIGURES", "LONGEST_NAME", "is_name", "refuse_no_name", "first_twice", "refuse_twice", "refuse_count", "MOST_THINGS", "House", "MOST_SORTS", "MOST_WORDS", "MOST_RULES", "MOST_BARS", "own_list", "refuse_makings_twice"]
def lo1 : List PySem.Str := ["refuse_no_sort", "refuse_upward", "refuse_no_word", "check_scheme", "Scheme", "parts_of", "house_rows", "house_parts", "read_house", "_law_pot", "_law_mixed", "_law_take", "_law_name_by", "_law_names", "_law_good_rows", "_law_spoiled", "_law_is_name", "_law_formed", "_law_thing_due", "_law_holding_due", "_law_due", "_law_shown", "_law_found", "_law_told_rows", "_law_built"]
def loW : List PySem.Str := lo0 ++ lo1
theorem runWA (w : World) : RunA RW (view RW.prog [61]) 20000 loW w := by
  intro os
  kernel_rfl
theorem runWB (w : World) : RunB RW hkW obW 20000 w := by
  intro os
  kernel_rfl
theorem runW (w : World) : HandSHeadRun.RunEq RW (view RW.prog [61]) hkW obW 20000 loW w := runEq_of (runWA w) (runWB w)
end Wm
namespace Wm
open PySem L2
/-- all that was tracked is as it was, but at p -/
def But (p : Addr) (H H' : Hp) : Prop := ∀ q o, q ≠ p → H q = some o → H' q = some o
theorem But.refl (p : Addr) (H : Hp) : But p H H := fun _ _ _ h => h
theorem But.trans {p : Addr} {H H1 H2 : Hp} (a : But p H H1) (b : But p H1 H2) : But p H H2 := fun q o n h => b q o n (a q o n h)
theorem But.upd {p : Addr} {H : Hp} {o : HO} : But p H (upd H p o) := fun q o n h => by rw [upd_ne n]; exact h
theorem Same.but {p : Addr} {H H1 : Hp} (a : Same H H1) : But p H H1 := fun q o _ h => a q o h
theorem Same.upd {p : Addr} {H : Hp} {o : HO} (n : H p = none) : Same H (upd H p o) := fun q o h => by rw [upd_ne (ne_of_none h n)]; exact h
theorem But.same {p : Addr} {H0 H H1 : Hp} (n : H0 p = none) (a : Same H0 H) (b : But p H H1) : Same H0 H1 := fun q o h => b q o (ne_of_none h n) (a q o h)
structure TxB (mg : Str → Option Value) : Prop where
  abs : mg "abs" = none
  int : mg "int" = none
  len : mg "len" = none
  range : mg "range" = none
  all : mg "all" = none
  tuple : mg "tuple" = none
  enumerate : mg "enumerate" = none
  isinstance : mg "isinstance" = none
  ve : mg "ValueError" = none
section
variable {P : Program} {w : World} {K : PySem.W.Frag} {mg : Str → Option Value} {base : Heap}
end
end Wm
namespace Wm
open PySem L2
/-- a def of the module's top -/
structure Dn (K : PySem.W.Frag) (mg : Str → Option Value) (x : Str) (st : Stmt) (ps : List Str) (f : Addr) (fd : FuncData) : Prop where
  F : Fun K x x st f fd
  g : mg x = some (.ref f)
  b : Binds K fd ps []
theorem str_at (z : Str) {i : Int} (h0 : 0 ≤ i) (h1 : i < z.length) : ∃ c, z.cps[i.toNat]? = some c := by
  have h : i.toNat < z.cps.size := by
    have e : z.length = z.cps.size := rfl
    omega
  exact ⟨z.cps[i.toNat], Array.getElem?_eq_getElem h⟩
/-- every sign is one of unicode's -/
def okS (z : Str) : Prop := ∀ c ∈ z.cps.toList, c < 1114112
theorem okS_one {c : Nat} (h : c < 1114112) : okS ⟨#[c]⟩ := fun d hd => by
  have e : d = c := by simpa using hd
  rw [e]
  exact h
theorem okS_app {a b : Str} (ha : okS a) (hb : okS b) : okS (a ++ b) := fun c hc => by
  have e : (a ++ b).cps.toList = a.cps.toList ++ b.cps.toList := by
    show (a.cps ++ b.cps).toList = _
    simp
  rw [e] at hc
  rcases List.mem_append.mp hc with h | h
  · exact ha c h
  · exact hb c h
theorem rdItem {z : Str} {i : Int} {n : Nat} {H : Hp} {Q : VK} (hz : z.length = n) (h0 : 0 ≤ i) (h1 : i < n) (hn : n < 1000000) (h : ∀ c, z.cps.toList[i.toNat]? = some c → Q (.str ⟨#[c]⟩) H) : rIxS (.str z) (.int i) H Q := by
  have h2 : i < z.length := by rw [hz]; exact h1
  obtain ⟨c, hc⟩ := str_at z h0 h2
  have hl : z.cps.toList[i.toNat]? = some c := by simpa using hc
  have e : i = ((i.toNat : Nat) : Int) := by omega
  refine ⟨z, i, c, rfl, rfl, by rw [hz]; exact Nat.le_trans (Nat.le_of_lt hn) (by decide), ?_, h c hl⟩
  rw [e]
  exact atI_nat hl
theorem abcOk : ∀ c ∈ (PySem.Str.ofString "abcdefghijklmnopqrstuvwxyz0123456789").cps.toList, c < 1114112 := by decide +kernel
theorem abc36 : (PySem.Str.ofString "abcdefghijklmnopqrstuvwxyz0123456789").length = 36 := by decide +kernel
theorem len_app (a b : Str) : (a ++ b).length = a.length + b.length := by
  show (a.cps ++ b.cps).size = a.cps.size + b.cps.size
  exact Array.size_append
theorem len_one (c : Nat) : (⟨#[c]⟩ : Str).length = 1 := rfl
section
variable {P : Program} {w : World} {K : PySem.W.Frag} {mg : Str → Option Value} {base : Heap}
end
end Wm
namespace Wm
open PySem L2
theorem strs_at {zs : List Str} {n : Nat} (h : ∀ z ∈ zs, z.length ≤ n) (ho : ∀ z ∈ zs, ∀ c ∈ z.cps.toList, c < 1114112) {j : Nat} (hj : j < zs.length) : ∃ z, (zs.map V.str)[j]? = some (.str z) ∧ z.length ≤ n ∧ okS z :=
  ⟨zs[j], by simp [hj], h _ (List.getElem_mem hj), ho _ (List.getElem_mem hj)⟩
theorem okS_cut {z : Str} (h : okS z) (lo hi : Option Int) : okS (cutS z lo hi) := fun c hc => by
  have hc' : c ∈ (z.cps.toList.drop (HT.sIx z.length 0 lo)).take (HT.sIx z.length z.length hi - HT.sIx z.length 0 lo) := hc
  exact h c (List.mem_of_mem_drop (List.mem_of_mem_take hc'))
theorem okS_join {a : Str} {ys : List Str} (ha : okS a) (h : ∀ y ∈ ys, okS y) : okS (Txt.join a ys) := by
  have e : Txt.join a ys = Str.join a ys := StrLaws.glued_eq_join a ys
  rw [e]
  clear e
  induction ys with
  | nil => exact fun c hc => (List.not_mem_nil (show c ∈ ([] : List Nat) from hc)).elim
  | cons y r ih =>
    cases r with
    | nil => exact h y List.mem_cons_self
    | cons z r =>
      show okS (y ++ a ++ Str.join a (z :: r))
      exact okS_app (okS_app (h y List.mem_cons_self) ha) (ih fun x hx => h x (List.mem_cons_of_mem _ hx))
theorem rdList {K : PySem.W.Frag} {p : Addr} {xs : List V} {i : Int} {j : Nat} {v : V} {H : Hp} {Q : VK} (hp : H p = some (.lst xs)) (e : i = (j : Int)) (hv : xs[j]? = some v) (h : Q v H) : rIxL K (.ref p) (.int i) H Q :=
  ⟨p, xs, i, v, rfl, rfl, SqL.of hp, at_of e hv, h⟩
theorem But.free {p D : Addr} {H H' : Hp} (b : But p H H') (n : D ≠ p) (h : H' D = none) : H D = none := by
  cases e : H D with
  | none => rfl
  | some o =>
    rw [b D o n e] at h
    cases h
theorem sum_ones : ∀ {ys : List Str}, (∀ y ∈ ys, y.length = 1) → (ys.map (·.length)).sum = ys.length
  | [], _ => rfl
  | y :: ys, h => by
    rw [List.map_cons, List.sum_cons, List.length_cons, h y List.mem_cons_self, sum_ones fun z hz => h z (List.mem_cons_of_mem _ hz)]
    omega
theorem join_len (a : Str) (ys : List Str) : (Txt.join a ys).length ≤ (ys.map (·.length)).sum + ys.length * a.length := by
  show (Builtin.Str.glued a ys).length ≤ _
  rw [StrLaws.glued_eq_join]
  exact StrLaws.join_length_le a ys
section
variable {P : Program} {w : World} {K : PySem.W.Frag} {mg : Str → Option Value} {base : Heap}
end
end Wm
namespace Wm
open PySem PySem.Spec PyProof.Rows L2 ClX
section
variable {X : Cx} {CX : CXT} {k : Nat} {C f : Addr} {fd : FuncData} {ps : List Str} {sp : Sp} {E : XK} {e : Expr} {es : List Expr} {t : TA} {x m : Str} {p1 p2 pos : Pos} {ds : List Value} {dvs : List V}
/-- C.f(e, ..), f a def of the class C -/
theorem pe_clsFn {pl : Sem Bool} {mc : Value} (hg : Gl X x) (hm : X.mg x = some (.ref C)) (r : CRead X.K C mc) (ht : PySem.W.findCls X.K (.ref C) mc m = some (.val (.ref f))) (hk : PySem.W.keepIn X.K (.ref f) = true) (F : FnOk X.prog X.w X.K X.mg X.base CX k f fd ps sp)
    (hr : Room k X.A) (hb : Binds X.K fd ps ds) (hd : Vals dvs ds) (hx : Passes CX X E) (ha : PA X (e :: es) t)
    (hc : eval (.Call (.Attribute (.Name x p1) m p2) (e :: es) [] pos) X.env = (do
      let ov ← eval (.Name x p1) X.env
      standAt p2.atName
      let (f, first) ← holding [ov] (getMethod ov m pl)
      callWith pos f first (backTo pos (starEach (e :: es) X.env)) (backToKw pos (keywordEach [] X.env))) := by rfl)
    (hdb : (x == ("__debug__" : Str)) = false := by decide) (he : starEach (e :: es) X.env = (false, eval e X.env) :: starEach es X.env := by rfl) (hpl : (backTo pos (starEach es X.env)).any (·.1) = false := by rfl) :
    PE X (.Call (.Attribute (.Name x p1) m p2) (e :: es) [] pos) (tCall sp dvs E t) := by
  refine ⟨fun pins s σ H Q I h => ?_⟩
  refine PySem.W.methodCall_KW (ld_glob I hg hm ?_ hdb) hc
  refine PySem.W.method_cls I.kIn r.ga (PySem.W.cls_value I.kIn r.rd ht rfl ?_)
  show wpAny _ _ (callWith pos (Value.ref f) [] (backTo pos (starEach (e :: es) X.env)) []) _ _ _
  refine PySem.W.callWith_K (h₀ := X.base) I.ok.mod.kin hk (thn (ha.run pos pins _ σ H _ (I.tok _) h) fun us s1 ⟨vs, H1, I1, r1, q⟩ => ⟨I1.kIn, ?_⟩) he hpl
  exact run_fn F hr hb hd hx I1 r1 q
/-- xs + ys, both to be read -/
def rCatR (K : PySem.W.Frag) : R2 := fun x y H Q => ∃ l b xs zs, x = .ref l ∧ y = .ref b ∧ SqL K H l xs ∧ SqL K H b zs ∧ xs.length + zs.length ≤ sizeLine ∧ ∀ p, H p = none → Q (.ref p) (upd H p (.lst (xs ++ zs)))
theorem op_catR : OpR X (binaryOp .Add) (rCatR X.K) := by
  intro pins s σ H x y v u Q I rx ry h
  obtain ⟨l, b, xs, zs, rfl, rfl, hH, hB, hz, q⟩ := h
  cases rx
  cases ry
  obtain ⟨its, r, e, hl⟩ := I.list hH
  obtain ⟨its2, r2, e2, hl2⟩ := I.list hB
  have l1 := r.length
  have l2 := r2.length
  obtain ⟨⟨cls, dd, data, sl⟩, ho, hc, n, hd⟩ := e.isList
  obtain ⟨⟨cls2, dd2, data2, sl2⟩, ho2, hc2, n2, hd2⟩ := e2.isList
  simp only at hc hd hc2 hd2
  subst hc hd hc2 hd2
  refine concat_meets ⟨_, ho, rfl⟩ ⟨_, ho2, rfl⟩ noFill_list_add seq_list_add PySem.F.slot_list_add PySem.F.entry_list_add (PySem.F.args_list_add_2 _ _) (list_addW l b its.toArray its2.toArray n n2 dd dd2 sl sl2 (by rw [List.size_toArray, List.size_toArray]; omega)) ⟨ho, ho2, ?_⟩
  have ea : its.toArray ++ its2.toArray = (its ++ its2).toArray := by simp
  rw [ea]
  exact ⟨.ref _, _, I.lnew (t' := s.toks) (r.append r2) (by rw [List.length_append]; omega), rfl, q _ I.fresh⟩
end
end Wm
namespace Wm
open PySem PySem.Spec PyProof.Rows L2 ClX
/-- isinstance(e, c) in an except suite, e the exception that it holds (its class D, its dict at dd) -/
def rIsX (K : PySem.W.Frag) (D a dd : Addr) : List V → Hp → VK → Prop := fun xs H Q => ∃ (c : V) (cv : Value) (b : Bool) (fs : List (Str × V)), xs = [.ref a, c] ∧ H dd = some (.xd fs) ∧ (∀ u, RelV c u → u = cv) ∧ PySem.W.kitOne K (.ref D) cv = some b ∧ Q (.bl b) H
theorem call_isX {X : Cx} {a D dd : Addr} {oe : Obj} {pn : List (Addr × Obj)} (C : ExcC X.K D) (hz : Zc (.ref D) (some dd) oe) (hf : ∃ vs, oe.data = .fields vs) : CallR (X.suite a ((a, oe) :: pn)) (.builtin "isinstance") (rIsX X.K D a dd) := by
  intro pins s σ H xs us Q I r h
  obtain ⟨c, cv, b, fs, rfl, hdd, hcv, e, q⟩ := h
  cases r with
  | cons rx rr =>
    cases rr with
    | cons rt rr =>
      cases rr
      cases rx
      have ec := hcv _ rt
      subst ec
      obtain ⟨hget, _⟩ := I.pin (a, oe) (List.mem_append.mpr (.inl List.mem_cons_self))
      obtain ⟨vs, hv⟩ := hf
      have hx : ObjOk X.prog X.w H s.heap dd (.xd fs) := I.hok dd _ hdd
      obtain ⟨mA, hns, hr⟩ := hx
      obtain ⟨od, ho, hl⟩ := lookIn_ns hns
      have J : PySem.W.InstAt s.heap a oe D (some od) := ⟨hget, hz.1, by unfold PySem.W.notCls; rw [hv] <;> rfl, by rw [hz.2]; exact ho⟩
      have hcl : (PySem.W.clsIn X.K D).isSome = true := by
        obtain ⟨cd, hc, _⟩ := PySem.W.any_some C.hd
        rw [hc]
        rfl
      exact PySem.W.kia_one (PySem.W.kitx_exc hcl C.hg C.hk C.hs C.ha C.hn C.ht C.hm) I.kIn J e (fun z => nomatch z) fun tk => ⟨.bl b, H, I.kept (t' := tk) fun _ _ z => z, rfl, q⟩
/-! ### errors of one field -/
def spWI (K : PySem.W.Frag) : Sp := fun vs H Q _ => ∃ (a C : Addr) (v : V), vs = [.ref a, v] ∧ OexC K C ∧ PySem.W.findIn K (.ref C) "kind" = some none ∧ H a = some (exo a C none) ∧ ∀ dx, H dx = none → dx ≠ a → Q .non (upd (upd H dx (exd dx [("kind", v)])) a (exo a C (some dx)))
/-- the dict of an error of one field -/
def ef1 (f kd : Str) (v : V) : List (Str × V) := [(f, v), ("kind", .str kd)]
def spE1 (C : Addr) (f kd : Str) : Sp := fun vs H Q _ => ∃ (a : Addr) (v : V), vs = [.ref a, v] ∧ H a = some (exo a C none) ∧ ∀ dx H', H dx = none → dx ≠ a → (∀ b o, b ≠ a → H b = some o → H' b = some o) → H' a = some (exo a C (some dx)) → H' dx = some (exd dx (ef1 f kd v)) → Q .non H'
/-- what is known of WhoError -/
structure WhoT (K : PySem.W.Frag) (mg : Str → Option Value) (W f0 : Addr) (fd0 : FuncData) : Prop where
  g : mg "WhoError" = some (.ref W)
  r : CRead K W (.type "type")
  m : PySem.W.findCls K (.ref W) (.type "type") "__init__" = some (.val (.ref f0))
  k : PySem.W.keepIn K (.ref f0) = true
  b : Binds K fd0 ["self", "kind"] []
/-- what is known of an error class of one field -/
structure ErrT (K : PySem.W.Frag) (mg : Str → Option Value) (x f : Str) (C fI : Addr) : Prop where
  o : OexC K C
  g : mg x = some (.ref C)
  iC : PySem.W.findIn K (.ref C) "__init__" = some (some (.ref fI))
  tI : PySem.W.typeIn K (.ref fI) = some (.type "function")
  nk : PySem.W.findIn K (.ref C) "kind" = some none
  nf : PySem.W.findIn K (.ref C) f = some none
end Wm
namespace Wm
open PySem L2
def ef0 : List (Str × V) := [("kind", .str "full")]
def spE0 (C : Addr) : Sp := fun vs H Q _ => ∃ (a : Addr), vs = [.ref a] ∧ H a = some (exo a C none) ∧ ∀ dx H', H dx = none → dx ≠ a → (∀ b o, b ≠ a → H b = some o → H' b = some o) → H' a = some (exo a C (some dx)) → H' dx = some (exd dx ef0) → Q .non H'
section
variable {P : Program} {w : World} {K : PySem.W.Frag} {mg : Str → Option Value} {base : Heap}
theorem scW0 : FnScope ["self", "kind"] ["self", "kind"] (defScope sW0) := ⟨rfl, rfl, rfl, by decide +kernel, rfl, by decide +kernel, by decide +kernel⟩
theorem ok_who {f : Addr} {fd : FuncData} {dvs : List V} (F : FunD K "__init__" "WhoError.__init__" (defArgs sW0) (defBody sW0) (defScope sW0) dvs [] f fd) : FnOk P w K mg base CX0 1 f fd ["self", "kind"] (spWI K) := by
  refine F.ok scW0 (fun vs H Q E h => ?_) (fun cdv A outer s H vs Q E hr h => ?_)
  · obtain ⟨a, C, v, rfl, _⟩ := h
    rfl
  · obtain ⟨a, C, v, rfl, o, nk, ha, k⟩ := h
    refine ⟨_, pss_one (ps_ost (pv 0) (pv 1)), ?_⟩
    exact ⟨_, rfl, _, rfl, a, C, rfl, o, nk, .inl ⟨ha, fun dx n ne => k dx n ne⟩⟩
theorem scNT : FnScope ["self", "name"] ["self", "name"] (defScope sNT) := ⟨rfl, rfl, rfl, by decide +kernel, rfl, by decide +kernel, by decide +kernel⟩
theorem ok_noth {f C f0 W : Addr} {fd fd0 : FuncData} (F : Fun K "__init__" "NoThing.__init__" sNT f fd) (T : ErrT K mg "NoThing" "name" C f) (TW : WhoT K mg W f0 fd0) (G0 : FnOk P w K mg base CX0 1 f0 fd0 ["self", "kind"] (spWI K)) :
    FnOk P w K mg base CX0 2 f fd ["self", "name"] (spE1 C "name" "nothing") := by
  refine F.ok scNT (fun vs H Q E h => ?_) (fun cdv A outer s H vs Q E hr h => ?_)
  · obtain ⟨a, v, rfl, _⟩ := h
    rfl
  · obtain ⟨a, v, rfl, ha, k⟩ := h
    refine ⟨_, pss_cons (ps_expr (pe_clsFn rfl TW.g TW.r TW.m TW.k G0 hr TW.b .nil pass0 (pa_cons (pv 0) (pa_cons pe_str pa_nil)))) (pss_one (ps_ost (pv 0) (pv 1))), ?_⟩
    refine ⟨_, rfl, a, C, _, rfl, T.o, T.nk, ha, fun dx n ne => ?_⟩
    refine ⟨_, rfl, _, rfl, a, C, rfl, T.o, T.nf, .inr ⟨dx, _, upd_same, Eq.trans (upd_ne ne) upd_same, by decide, ?_⟩⟩
    refine k dx _ n ne (fun b o nb e => ?_) ?_ upd_same
    · have nd : b ≠ dx := ne_of_none e n
      rw [upd_ne nd, upd_ne nb, upd_ne nd]
      exact e
    · rw [upd_ne ne.symm, upd_same]
theorem scNN : FnScope ["self", "name"] ["self", "name"] (defScope sNN) := ⟨rfl, rfl, rfl, by decide +kernel, rfl, by decide +kernel, by decide +kernel⟩
theorem ok_noname {f C f0 W : Addr} {fd fd0 : FuncData} (F : Fun K "__init__" "NoName.__init__" sNN f fd) (T : ErrT K mg "NoName" "name" C f) (TW : WhoT K mg W f0 fd0) (G0 : FnOk P w K mg base CX0 1 f0 fd0 ["self", "kind"] (spWI K)) :
    FnOk P w K mg base CX0 2 f fd ["self", "name"] (spE1 C "name" "noname") := by
  refine F.ok scNN (fun vs H Q E h => ?_) (fun cdv A outer s H vs Q E hr h => ?_)
  · obtain ⟨a, v, rfl, _⟩ := h
    rfl
  · obtain ⟨a, v, rfl, ha, k⟩ := h
    refine ⟨_, pss_cons (ps_expr (pe_clsFn rfl TW.g TW.r TW.m TW.k G0 hr TW.b .nil pass0 (pa_cons (pv 0) (pa_cons pe_str pa_nil)))) (pss_one (ps_ost (pv 0) (pv 1))), ?_⟩
    refine ⟨_, rfl, a, C, _, rfl, T.o, T.nk, ha, fun dx n ne => ?_⟩
    refine ⟨_, rfl, _, rfl, a, C, rfl, T.o, T.nf, .inr ⟨dx, _, upd_same, Eq.trans (upd_ne ne) upd_same, by decide, ?_⟩⟩
    refine k dx _ n ne (fun b o nb e => ?_) ?_ upd_same
    · have nd : b ≠ dx := ne_of_none e n
      rw [upd_ne nd, upd_ne nb, upd_ne nd]
      exact e
    · rw [upd_ne ne.symm, upd_same]
theorem scTk : FnScope ["self", "name"] ["self", "name"] (defScope sTk) := ⟨rfl, rfl, rfl, by decide +kernel, rfl, by decide +kernel, by decide +kernel⟩
theorem ok_taken {f C f0 W : Addr} {fd fd0 : FuncData} (F : Fun K "__init__" "Taken.__init__" sTk f fd) (T : ErrT K mg "Taken" "name" C f) (TW : WhoT K mg W f0 fd0) (G0 : FnOk P w K mg base CX0 1 f0 fd0 ["self", "kind"] (spWI K)) :
    FnOk P w K mg base CX0 2 f fd ["self", "name"] (spE1 C "name" "taken") := by
  refine F.ok scTk (fun vs H Q E h => ?_) (fun cdv A outer s H vs Q E hr h => ?_)
  · obtain ⟨a, v, rfl, _⟩ := h
    rfl
  · obtain ⟨a, v, rfl, ha, k⟩ := h
    refine ⟨_, pss_cons (ps_expr (pe_clsFn rfl TW.g TW.r TW.m TW.k G0 hr TW.b .nil pass0 (pa_cons (pv 0) (pa_cons pe_str pa_nil)))) (pss_one (ps_ost (pv 0) (pv 1))), ?_⟩
    refine ⟨_, rfl, a, C, _, rfl, T.o, T.nk, ha, fun dx n ne => ?_⟩
    refine ⟨_, rfl, _, rfl, a, C, rfl, T.o, T.nf, .inr ⟨dx, _, upd_same, Eq.trans (upd_ne ne) upd_same, by decide, ?_⟩⟩
    refine k dx _ n ne (fun b o nb e => ?_) ?_ upd_same
    · have nd : b ≠ dx := ne_of_none e n
      rw [upd_ne nd, upd_ne nb, upd_ne nd]
      exact e
    · rw [upd_ne ne.symm, upd_same]
theorem scNS : FnScope ["self", "name"] ["self", "name"] (defScope sNS) := ⟨rfl, rfl, rfl, by decide +kernel, rfl, by decide +kernel, by decide +kernel⟩
theorem ok_nosort {f C f0 W : Addr} {fd fd0 : FuncData} (F : Fun K "__init__" "NoSort.__init__" sNS f fd) (T : ErrT K mg "NoSort" "name" C f) (TW : WhoT K mg W f0 fd0) (G0 : FnOk P w K mg base CX0 1 f0 fd0 ["self", "kind"] (spWI K)) :
    FnOk P w K mg base CX0 2 f fd ["self", "name"] (spE1 C "name" "nosort") := by
  refine F.ok scNS (fun vs H Q E h => ?_) (fun cdv A outer s H vs Q E hr h => ?_)
  · obtain ⟨a, v, rfl, _⟩ := h
    rfl
  · obtain ⟨a, v, rfl, ha, k⟩ := h
    refine ⟨_, pss_cons (ps_expr (pe_clsFn rfl TW.g TW.r TW.m TW.k G0 hr TW.b .nil pass0 (pa_cons (pv 0) (pa_cons pe_str pa_nil)))) (pss_one (ps_ost (pv 0) (pv 1))), ?_⟩
    refine ⟨_, rfl, a, C, _, rfl, T.o, T.nk, ha, fun dx n ne => ?_⟩
    refine ⟨_, rfl, _, rfl, a, C, rfl, T.o, T.nf, .inr ⟨dx, _, upd_same, Eq.trans (upd_ne ne) upd_same, by decide, ?_⟩⟩
    refine k dx _ n ne (fun b o nb e => ?_) ?_ upd_same
    · have nd : b ≠ dx := ne_of_none e n
      rw [upd_ne nd, upd_ne nb, upd_ne nd]
      exact e
    · rw [upd_ne ne.symm, upd_same]
theorem scFu : FnScope ["self"] ["self"] (defScope sFu) := ⟨rfl, rfl, rfl, by decide +kernel, rfl, by decide +kernel, by decide +kernel⟩
theorem ok_full {f C f0 W : Addr} {fd fd0 : FuncData} (F : Fun K "__init__" "Full.__init__" sFu f fd) (T : ErrT K mg "Full" "kind" C f) (TW : WhoT K mg W f0 fd0) (G0 : FnOk P w K mg base CX0 1 f0 fd0 ["self", "kind"] (spWI K)) :
    FnOk P w K mg base CX0 2 f fd ["self"] (spE0 C) := by
  refine F.ok scFu (fun vs H Q E h => ?_) (fun cdv A outer s H vs Q E hr h => ?_)
  · obtain ⟨a, rfl, _⟩ := h
    rfl
  · obtain ⟨a, rfl, ha, k⟩ := h
    refine ⟨_, pss_one (ps_expr (pe_clsFn rfl TW.g TW.r TW.m TW.k G0 hr TW.b .nil pass0 (pa_cons (pv 0) (pa_cons pe_str pa_nil)))), ?_⟩
    refine ⟨_, rfl, a, C, _, rfl, T.o, T.nk, ha, fun dx n ne => ?_⟩
    refine k dx _ n ne (fun b o nb e => ?_) upd_same (Eq.trans (upd_ne ne) upd_same)
    have nd : b ≠ dx := ne_of_none e n
    rw [upd_ne nb, upd_ne nd]
    exact e
/-- an error of one field, raised -/
theorem mk1 {C : Addr} {f kd : Str} {v : V} {H : Hp} {E : XK} (k : ∀ d H', H d = none → Same H H' → H' d = some (.xd (ef1 f kd v)) → E (.ref C) (some d) H') :
    [v].length ≤ 1000 ∧ ∀ a, H a = none → spE1 C f kd (.ref a :: ([v] ++ [])) (upd H a (exo a C none)) (fun w H2 => w = .non ∧ ∃ (d : Addr) (fs : List (Str × V)), H2 a = some (exo a C (some d)) ∧ H2 d = some (exd d fs) ∧ H d = none ∧ E (.ref C) (some d) (upd (del H2 a) d (.xd fs))) (fun _ _ _ => False) := by
  refine ⟨by show 1 ≤ 1000; decide, fun a na => ⟨a, v, rfl, upd_same, fun dx H' n ne kp ha hd => ⟨rfl, dx, _, ha, hd, ?_, ?_⟩⟩⟩
  · rw [upd_ne ne] at n
    exact n
  · rw [upd_ne ne] at n
    refine k dx _ n (fun b o e => ?_) upd_same
    have nb : b ≠ a := ne_of_none e na
    rw [upd_ne (ne_of_none e n), del_ne nb]
    exact kp b o nb (by rw [upd_ne nb]; exact e)
theorem mk0 {C : Addr} {H : Hp} {E : XK} (k : ∀ d H', H d = none → Same H H' → H' d = some (.xd ef0) → E (.ref C) (some d) H') :
    ([] : List V).length ≤ 1000 ∧ ∀ a, H a = none → spE0 C (.ref a :: ([] ++ [])) (upd H a (exo a C none)) (fun w H2 => w = .non ∧ ∃ (d : Addr) (fs : List (Str × V)), H2 a = some (exo a C (some d)) ∧ H2 d = some (exd d fs) ∧ H d = none ∧ E (.ref C) (some d) (upd (del H2 a) d (.xd fs))) (fun _ _ _ => False) := by
  refine ⟨by show 0 ≤ 1000; decide, fun a na => ⟨a, rfl, upd_same, fun dx H' n ne kp ha hd => ⟨rfl, dx, _, ha, hd, ?_, ?_⟩⟩⟩
  · rw [upd_ne ne] at n
    exact n
  · rw [upd_ne ne] at n
    refine k dx _ n (fun b o e => ?_) upd_same
    have nb : b ≠ a := ne_of_none e na
    rw [upd_ne (ne_of_none e n), del_ne nb]
    exact kp b o nb (by rw [upd_ne nb]; exact e)
theorem scNW : FnScope ["self", "name"] ["self", "name"] (defScope sNW) := ⟨rfl, rfl, rfl, by decide +kernel, rfl, by decide +kernel, by decide +kernel⟩
theorem ok_noword {f C f0 W : Addr} {fd fd0 : FuncData} (F : Fun K "__init__" "NoWord.__init__" sNW f fd) (T : ErrT K mg "NoWord" "name" C f) (TW : WhoT K mg W f0 fd0) (G0 : FnOk P w K mg base CX0 1 f0 fd0 ["self", "kind"] (spWI K)) :
    FnOk P w K mg base CX0 2 f fd ["self", "name"] (spE1 C "name" "noword") := by
  refine F.ok scNW (fun vs H Q E h => ?_) (fun cdv A outer s H vs Q E hr h => ?_)
  · obtain ⟨a, v, rfl, _⟩ := h
    rfl
  · obtain ⟨a, v, rfl, ha, k⟩ := h
    refine ⟨_, pss_cons (ps_expr (pe_clsFn rfl TW.g TW.r TW.m TW.k G0 hr TW.b .nil pass0 (pa_cons (pv 0) (pa_cons pe_str pa_nil)))) (pss_one (ps_ost (pv 0) (pv 1))), ?_⟩
    refine ⟨_, rfl, a, C, _, rfl, T.o, T.nk, ha, fun dx n ne => ?_⟩
    refine ⟨_, rfl, _, rfl, a, C, rfl, T.o, T.nf, .inr ⟨dx, _, upd_same, Eq.trans (upd_ne ne) upd_same, by decide, ?_⟩⟩
    refine k dx _ n ne (fun b o nb e => ?_) ?_ upd_same
    · have nd : b ≠ dx := ne_of_none e n
      rw [upd_ne nd, upd_ne nb, upd_ne nd]
      exact e
    · rw [upd_ne ne.symm, upd_same]
theorem scBR : FnScope ["self", "row"] ["self", "row"] (defScope sBR) := ⟨rfl, rfl, rfl, by decide +kernel, rfl, by decide +kernel, by decide +kernel⟩
theorem ok_badrow {f C f0 W : Addr} {fd fd0 : FuncData} (F : Fun K "__init__" "BadRow.__init__" sBR f fd) (T : ErrT K mg "BadRow" "row" C f) (TW : WhoT K mg W f0 fd0) (G0 : FnOk P w K mg base CX0 1 f0 fd0 ["self", "kind"] (spWI K)) :
    FnOk P w K mg base CX0 2 f fd ["self", "row"] (spE1 C "row" "badrow") := by
  refine F.ok scBR (fun vs H Q E h => ?_) (fun cdv A outer s H vs Q E hr h => ?_)
  · obtain ⟨a, v, rfl, _⟩ := h
    rfl
  · obtain ⟨a, v, rfl, ha, k⟩ := h
    refine ⟨_, pss_cons (ps_expr (pe_clsFn rfl TW.g TW.r TW.m TW.k G0 hr TW.b .nil pass0 (pa_cons (pv 0) (pa_cons pe_str pa_nil)))) (pss_one (ps_ost (pv 0) (pv 1))), ?_⟩
    refine ⟨_, rfl, a, C, _, rfl, T.o, T.nk, ha, fun dx n ne => ?_⟩
    refine ⟨_, rfl, _, rfl, a, C, rfl, T.o, T.nf, .inr ⟨dx, _, upd_same, Eq.trans (upd_ne ne) upd_same, by decide, ?_⟩⟩
    refine k dx _ n ne (fun b o nb e => ?_) ?_ upd_same
    · have nd : b ≠ dx := ne_of_none e n
      rw [upd_ne nd, upd_ne nb, upd_ne nd]
      exact e
    · rw [upd_ne ne.symm, upd_same]
end
end Wm
namespace Wm
open PySem L2
/-! ### names -/
def LET : List Nat := (PySem.Str.ofString "abcdefghijklmnopqrstuvwxyz").cps.toList
def FIG : List Nat := (PySem.Str.ofString "0123456789").cps.toList
def okc (c : Nat) : Bool := decide (c ∈ LET) || decide (c ∈ FIG)
def first (l : List Nat) : Bool := match l with
  | [] => false
  | c :: _ => decide (c ∈ LET)
def isNm (z : Str) : Bool := decide (1 ≤ z.length) && (decide (z.length ≤ 12) && (first z.cps.toList && z.cps.toList.all okc))
theorem alnum : (PySem.Str.ofString "abcdefghijklmnopqrstuvwxyz0123456789").cps.toList = LET ++ FIG := by decide +kernel
theorem let_fig : ∀ c ∈ LET, ¬ c ∈ FIG := by decide +kernel
theorem okc_alnum (c : Nat) : decide (c ∈ (PySem.Str.ofString "abcdefghijklmnopqrstuvwxyz0123456789").cps.toList) = okc c := by
  rw [alnum]
  unfold okc
  by_cases h : c ∈ LET <;> by_cases h2 : c ∈ FIG <;> simp [h, h2]
theorem len_eq (z : Str) : z.length = z.cps.toList.length := by
  show z.cps.size = _
  simp
theorem isNm_small {z : Str} (h : z.length < 1 ∨ 12 < z.length) : isNm z = false := by
  unfold isNm
  rcases h with h | h
  · rw [decide_eq_false (by omega)]
    rfl
  · rw [decide_eq_false (p := z.length ≤ 12) (by omega)]
    simp
theorem isNm_first {z : Str} {c : Nat} (h1 : z.cps.toList[0]? = some c) (hc : ¬ c ∈ LET) : isNm z = false := by
  unfold isNm
  have e : first z.cps.toList = false := by
    cases q : z.cps.toList with
    | nil => rfl
    | cons d r =>
      rw [q] at h1
      have e : d = c := Option.some.inj h1
      rw [e]
      exact decide_eq_false hc
  rw [e]
  simp
theorem isNm_all {z : Str} {c : Nat} (h0 : ¬ z.length < 1) (h12 : ¬ 12 < z.length) (h1 : z.cps.toList[0]? = some c) (hc : c ∈ LET) : isNm z = z.cps.toList.all okc := by
  unfold isNm
  have e : first z.cps.toList = true := by
    cases q : z.cps.toList with
    | nil =>
      rw [q] at h1
      cases h1
    | cons d r =>
      rw [q] at h1
      have e : d = c := Option.some.inj h1
      rw [e]
      exact decide_eq_true hc
  rw [e, decide_eq_true (by omega), decide_eq_true (by omega)]
  rfl
theorem isNm_fig {z : Str} {c : Nat} (h1 : z.cps.toList[0]? = some c) (hc : c ∈ FIG) : isNm z = false := isNm_first h1 fun h => let_fig c h hc
theorem isNm_all2 {z : Str} {c : Nat} (h0 : ¬ z.length < 1) (h12 : ¬ 12 < z.length) (h1 : z.cps.toList[0]? = some c) (hc : ¬ c ∈ FIG) : isNm z = z.cps.toList.all okc := by
  by_cases h : c ∈ LET
  · exact isNm_all h0 h12 h1 h
  · rw [isNm_first h1 h]
    have hm : c ∈ z.cps.toList := List.mem_of_getElem? h1
    have e : okc c = false := by
      unfold okc
      rw [decide_eq_false h, decide_eq_false hc]
      rfl
    symm
    rw [List.all_eq_false]
    exact ⟨c, hm, by rw [e]; decide⟩
theorem all_map {l : List Nat} {f : Nat → Bool} : (l.map f).all id = l.all f := by
  induction l with
  | nil => rfl
  | cons a r ih => rw [List.map_cons, List.all_cons, List.all_cons, ih]; rfl
def spName : Sp := fun vs H Q _ => ∃ z : Str, vs = [.str z] ∧ z.length ≤ 1000 ∧ ∀ H', Same H H' → Q (.bl (isNm z)) H'
/-- the constants of names.py -/
structure TxN (mg : Str → Option Value) : Prop where
  lets : ∃ t, mg "LETTERS" = some (.str (PySem.Str.ofString "abcdefghijklmnopqrstuvwxyz") t)
  figs : ∃ t, mg "FIGURES" = some (.str (PySem.Str.ofString "0123456789") t)
  long : ∃ t, mg "LONGEST_NAME" = some (.int 12 t)
/-- the reading of [f(sign) for sign in text] -/
theorem lc_signs {z : Str} {f : Nat → Bool} {g : TG} {te : TE} {vs : List Nat} {σ : St} {H1 : Hp} {D : Addr} {Qd : Hp → Prop} (hz : z.length ≤ 1000) (hD : H1 D = none)
    (he : ∀ (c : Nat) (H : Hp) (Q : St → Hp → Prop), (∀ σ2, wipe σ2 vs = wipe σ vs → (∀ Q2 : VK, Q2 (.bl (f c)) H → te σ2 H Q2) → Q σ2 H) → g (.str ⟨#[c]⟩) (wipe σ vs) H Q)
    (hd : ∀ H, Same H1 H → H D = some (.lst ((z.cps.toList.map f).map V.bl)) → Qd H) :
    ∃ W : Nat → Nat → Hp → Prop, (∃ m, W 0 m (upd H1 D (.lst []))) ∧ ∀ i m H, W i m H →
      ((Its z).stop i H ∧ Qd H) ∨ ((Its z).go i H ∧ ∃ Nx : Hp → Prop, (∀ H', Nx H' → ∃ m', m' < m ∧ W (i + 1) m' H') ∧ ∀ x H', (Its z).yld i H x H' → g x (wipe σ vs) H' fun σ2 H2 => wipe σ2 vs = wipe σ vs ∧ tYes σ2 H2 fun b H3 =>
        if b = true then te σ2 H3 fun y H4 => ∃ acc, H4 D = some (.lst acc) ∧ acc.length < sizeLine ∧ Nx (upd H4 D (.lst (acc ++ [y]))) else Nx H3) := by
  refine lc_it (walk_str (z := z)) (fun i H' => Same H1 H' ∧ H' D = some (.lst (((z.cps.toList.take i).map f).map V.bl))) ⟨Same.upd hD, upd_same⟩ (fun _ _ _ _ => True.intro) ?_ ?_
  · rintro i x H H' hi ⟨hS, hl⟩ ⟨rfl, c, hc, rfl⟩
    refine he c H' _ fun σ2 hw hq => ⟨hw, hq _ ?_⟩
    refine ⟨_, hl, ?_, ?_, ?_⟩
    · rw [List.length_map, List.length_map, List.length_take]
      have e := len_eq z
      exact Nat.lt_of_le_of_lt (show _ ≤ 1000 by omega) (by decide)
    · intro b o h
      have nb : b ≠ D := ne_of_none h hD
      rw [upd_ne nb]
      exact hS b o h
    · rw [upd_same]
      have e : z.cps.toList[i]? = some c := by simpa using hc
      have hlt : i < z.cps.toList.length := (List.getElem?_eq_some_iff.mp e).1
      rw [List.take_add_one, e, List.map_append, List.map_append]
      rfl
  · rintro H ⟨hS, hl⟩
    refine hd H hS ?_
    rw [hl, List.take_of_length_le (by simp)]
section
variable {P : Program} {w : World} {K : PySem.W.Frag} {mg : Str → Option Value} {base : Heap}
theorem scName : FnScope ["text", "sign"] ["text"] (defScope sName) := ⟨rfl, rfl, rfl, by decide +kernel, rfl, by decide +kernel, by decide +kernel⟩
theorem ok_name {f : Addr} {fd : FuncData} (F : Fun K "is_name" "is_name" sName f fd) (T : TxB mg) (TN : TxN mg) : FnOk P w K mg base CX0 1 f fd ["text"] spName := by
  obtain ⟨t1, hlet⟩ := TN.lets
  obtain ⟨t2, hfig⟩ := TN.figs
  obtain ⟨t3, hlong⟩ := TN.long
  refine F.ok scName (fun vs H Q E h => ?_) (fun cdv A outer s H vs Q E hr h => ?_)
  · obtain ⟨z, rfl, _⟩ := h
    rfl
  · obtain ⟨z, rfl, hz, k⟩ := h
    have hzl : z.length ≤ sizeLine := Nat.le_trans hz (by decide)
    refine ⟨_, (pss_cons (ps_if (PW.pt (pw_or (pt_cmpR op_lt (pe_callB call_len_str (by rfl) T.len (by decide +kernel) (pa_cons (pv 0) pa_nil)) pe_int (nomark _)) (pw_or1 (pt_cmpR op_gt (pe_callB call_len_str (by rfl) T.len (by decide +kernel) (pa_cons (pv 0) pa_nil)) (pe_glob (v := .int 12) (by rfl) hlong ⟨_, rfl⟩) (nomark _))))) (pss_one (ps_ret pe_bl)) pss_nil)
      (pss_cons (ps_if (pt_cmpR op_notIn_sign (pe_ix ix_str (pv 0) pe_int (fun _ _ => rfl)) (pe_glob (v := .str (PySem.Str.ofString "abcdefghijklmnopqrstuvwxyz")) (by rfl) hlet ⟨_, rfl⟩) (by rfl)) (pss_one (ps_ret pe_bl)) pss_nil)
      (pss_one (ps_ret (pe_callB (cr_all rfl) (by rfl) T.all (by decide +kernel) (pa_cons (pe_lc (own := [("sign", 1)]) (g := gName 1) rfl scName.nd (pi_str (pv 0)) (blkOk_by (N := ["text", "sign"]) (sc := defScope sName) (by decide +kernel)) (fun _ _ _ _ _ => (pg_name (i := 1) scName.nd rfl (Or.inl rfl))) (fun _ _ _ _ _ => pts_nil) (fun _ _ _ _ _ => (pe_or (pe_cmpR op_in_sign (pv 1) (pe_glob (v := .str (PySem.Str.ofString "abcdefghijklmnopqrstuvwxyz")) (by rfl) hlet ⟨_, rfl⟩) (by rfl)) (pe_one (pe_cmpR op_in_sign (pv 1) (pe_glob (v := .str (PySem.Str.ofString "0123456789")) (by rfl) hfig ⟨_, rfl⟩) (by rfl)))))) pa_nil)))))), ?_⟩
    refine ⟨_, rfl, z, rfl, hzl, _, _, rfl, rfl, _, rfl, ?_⟩
    refine ite2 (fun h1 => ?_) (fun h1 => ?_)
    · have h1' : (z.length : Int) < 1 := of_decide_eq_true h1
      refine iteT ?_
      have e : isNm z = false := isNm_small (.inl (by omega))
      have q := k H (Same.refl H)
      rw [e] at q
      exact q
    refine ⟨_, rfl, z, rfl, hzl, _, _, rfl, rfl, _, rfl, ?_⟩
    refine ite2 (fun h2 => ?_) (fun h2 => ?_)
    · have h2' : (12 : Int) < z.length := of_decide_eq_true h2
      have e : isNm z = false := isNm_small (.inr (by omega))
      have q := k H (Same.refl H)
      rw [e] at q
      exact q
    have h1' : ¬ z.length < 1 := fun x => h1 (decide_eq_true (by omega))
    have h2' : ¬ 12 < z.length := fun x => h2 (decide_eq_true (by omega))
    refine ⟨_, rfl, ?_⟩
    dsimp only [tC]
    refine rdItem (n := z.length) rfl (by decide) (by omega) (by omega) fun c hc => ?_
    refine ⟨c, _, rfl, rfl, _, rfl, ?_⟩
    refine ite2 (fun h3 => ?_) (fun h3 => ?_)
    · have h3' : ¬ c ∈ LET := fun x => by
        rw [show decide (c ∈ (PySem.Str.ofString "abcdefghijklmnopqrstuvwxyz").cps.toList) = true from decide_eq_true x] at h3
        cases h3
      have q := k H (Same.refl H)
      rw [isNm_first hc h3'] at q
      exact q
    have h3' : c ∈ LET := by
      by_cases x : c ∈ LET
      · exact x
      · rw [show decide (c ∈ (PySem.Str.ofString "abcdefghijklmnopqrstuvwxyz").cps.toList) = false from decide_eq_false x] at h3
        exact absurd rfl h3
    refine ⟨_, rfl, z, rfl, fun D hD => ?_⟩
    refine lc_signs (z := z) (f := okc) hz hD (fun c H Q q => ?_) fun H' hS hl => ?_
    · refine q _ rfl fun Q2 q2 => ?_
      refine ⟨_, rfl, c, _, rfl, rfl, _, rfl, ?_⟩
      unfold okc at q2
      refine ite2 (fun h => ?_) (fun h => ?_)
      · have h' : decide (c ∈ LET) = true := h
        rw [h'] at q2
        exact q2
      · have h' : decide (c ∈ LET) = false := Bool.eq_false_iff.mpr h
        rw [h'] at q2
        exact ⟨_, rfl, c, _, rfl, rfl, q2⟩
    · refine ⟨D, _, rfl, SqL.of hl, ?_⟩
      have q := k H' hS
      rw [isNm_all h1' h2' hc h3', ← all_map] at q
      exact q
end
end Wm
namespace Wm
open PySem PySem.Spec PyProof.Rows L2
/-- enumerate(v): its two new cells -/
theorem meets_enum1 {v : Value} {o : Obj} {H : Heap → Prop} (B : Begins v o H) :
    Meets (Builtin.«enumerate.__new__» ⟨[.type "enumerate", v], []⟩) (fun _ R s => H s.heap ∧
      R (.ok (.ret (.ref (s.heap.push o).objs.size))) { s with heap := (s.heap.push o).push { cls := .type "enumerate", data := .fields #[.none, .bool false, .ref s.heap.objs.size, rawInt 0, .none, .none] } }) :=
  .of_wp fun prog w A R s hh => by
    obtain ⟨hp, g, d, tk, os⟩ := s
    obtain ⟨h1, h⟩ := hh
    have hsub := sub_enumerate
    have q1 : ∀ {A' : Around} {E : Value → Shared → Prop} {Q : Value → Shared → Prop}, Q (.ref hp.objs.size) ⟨hp.push o, g, d, tk, os⟩ → wpAny (model prog w) A' (pyIter v) Q E ⟨hp, g, d, tk, os⟩ := fun q => B.iter prog w _ _ ⟨hp, g, d, tk, os⟩ _ h1 q
    wp_walk using q1
    refine wpAny_stack_any fun stk => wpAny_pure ?_
    split
    · rename_i c _ _ _ _ _
      cases (c == Value.type "enumerate") <;> (wp_walk using q1; exact ⟨_, rfl, h⟩)
    · wp_walk using q1
      exact ⟨_, rfl, h⟩
theorem call_enum_tup {prog : Program} {w : World} {A : Around} {E : Value → Shared → Prop} {s : Shared} {t : Addr} {items : Array Value} {Q : Value → Shared → Prop} (hL : s.heap.IsTuple t items)
    (h : ∀ h', IsEnum h' (s.heap.objs.size + 1) s.heap.objs.size 0 .none → h'.IsTupleIter s.heap.objs.size t 0 → (∀ b o, s.heap.get? b = some o → h'.get? b = some o) → Q (.ref (s.heap.objs.size + 1)) { s with heap := h' }) :
    wpAny (model prog w) A (call (.type "enumerate") [.ref t]) Q E s := by
  refine callType_new F.called_enumerate (by decide) (F.typeCall_enumerate_1 _) (F.newCall_enumerate_1 _) (fun obj => F.args_object_init_2 obj _) F.entry_enumerate_new (meets_enum1 (begins_tuple t items)) ⟨hL, ?_⟩
  generalize ho : ({ cls := .type "tuple_iterator", data := .fields #[.ref t, .int 0 0] } : Obj) = o
  have hz : (s.heap.push o).objs.size = s.heap.objs.size + 1 := Heap.size_push ..
  show _ ∧ _
  rw [hz]
  generalize he : ({ cls := .type "enumerate", data := .fields #[.none, .bool false, .ref s.heap.objs.size, rawInt 0, .none, .none] } : Obj) = eo
  have h2 : ((s.heap.push o).push eo).get? (s.heap.objs.size + 1) = some eo := by
    have q := Heap.get?_push_size (s.heap.push o) (o := eo) (by rw [← he]; rfl)
    rw [hz] at q
    exact q
  have h3 : ((s.heap.push o).push eo).get? s.heap.objs.size = some o := Heap.get?_push_of_some _ (Heap.get?_push_size _ (by rw [← ho]; rfl))
  refine ⟨⟨_, h2, by rw [← he]⟩, h _ ?_ ⟨o, h3, by rw [← ho], by rw [← ho]; rfl⟩ fun b o x => Heap.get?_push_of_some _ (Heap.get?_push_of_some _ x)⟩
  show ((s.heap.push o).push eo).get? (s.heap.objs.size + 1) = some _
  rw [h2, ← he]
/-- the tuple at a, each item in a new pair -/
def IteT (K : PySem.W.Frag) (a : Addr) (xs : List V) : It :=
  ⟨fun i H => SqT K H a xs ∧ i < xs.length, fun i H v H' => ∃ T x, v = .ref T ∧ H T = none ∧ H' = upd H T (.tup [.int (i : Nat), x]) ∧ xs[i]? = some x, fun i H => SqT K H a xs ∧ i = xs.length⟩
theorem turn_enumT {P : Program} {w : World} {K : PySem.W.Frag} {elts : List Expr} {kk : Nat} {tpos : Pos} {xs : List V} (a e it : Addr) (his : List Value) :
    Turn P w K (.Tuple elts kk tpos) (IteT K a xs) [e, it] e (fun i h => (∃ old, IsEnum h e it ((i : Nat) : Int) old) ∧ h.IsTupleIter it a i ∧ e ≠ it ∧ a ≠ it ∧ a ≠ e) where
  mem := by simp
  obj := fun i h st b hb => by
    obtain ⟨⟨old, he⟩, ⟨o, ho, hc, hd⟩, _⟩ := st
    rcases (show b = e ∨ b = it by simpa using hb) with z | z
    · rw [z]
      exact ⟨_, he, fun v q => nomatch q⟩
    · rw [z]
      exact ⟨o, ho, fun v q => by rw [hd] at q; cases q⟩
  keep := fun i h h' st k => let ⟨⟨old, he⟩, hi, hne⟩ := st; ⟨⟨old, k e (by simp) _ he⟩, hi.at fun o q => k it (by simp) o q, hne⟩
  item := by
    intro X hP hw hK hc i pins s σ H E I hf st hg
    subst hP hw hK
    obtain ⟨⟨old, he⟩, hit, hne, nai, nae⟩ := st
    obtain ⟨hq, hlt⟩ := hg
    obtain ⟨its, rv, p, hz⟩ := I.tuple hq
    have hlen := rv.length
    have hel : e < s.heap.objs.size := Heap.lt_size he
    have hil : it < s.heap.objs.size := by obtain ⟨_, q, _⟩ := hit; exact Heap.lt_size q
    have D : Draws X.prog X.w X.A.in1 it [it, a] its.toArray.size (fun i v => its.toArray[i]? = some v) (fun i h => h.IsTupleIter it a i ∧ h.IsTuple a its.toArray) := Draws.tuple (A := X.A.in1) (show X.A.in1.handled = none from I.ok.hd hc) it a nai its.toArray
    refine wpAny_pyNext_enum_itemC D he ⟨hit, p⟩ (by rw [List.size_toArray]; omega) hne (by simp [hne, Ne.symm nae]) fun u h' tk hu ho hst' hT hsz hk => ?_
    have hu' : its[i]? = some u := by simpa using hu
    obtain ⟨x, hx, ru⟩ : ∃ x, xs[i]? = some x ∧ RelV x u := by
      obtain ⟨u2, h2, r2⟩ := rv.get (List.getElem?_eq_getElem hlt)
      rw [hu'] at h2
      cases h2
      exact ⟨_, List.getElem?_eq_getElem hlt, r2⟩
    refine ⟨_, rfl, wpAny_letOwnedTupleGo_enum (s := { s with heap := h', toks := tk + 1 }) ho fun h'' he' sb => ?_⟩
    have hT2 : h''.get? s.heap.objs.size = some { cls := .type "tuple", data := .seq #[.int i tk, u] } := (sb.2 _ (Nat.ne_of_gt hel)).trans hT
    have new : ObjOk X.prog X.w (upd H s.heap.objs.size (.tup [.int (i : Nat), x])) h'' s.heap.objs.size (.tup [.int (i : Nat), x]) := ⟨by show 2 ≤ sizeLine; decide, [.int i tk, u], .cons ⟨_, rfl⟩ (.cons ru .nil), ⟨_, hT2, rfl, _, rfl⟩⟩
    have I1 : Inv X pins σ (upd H s.heap.objs.size (.tup [.int (i : Nat), x])) { s with heap := h'', toks := tk + 1 } :=
      I.turnedNew (ch := [e, it]) (fun b ob hb q => (sb.2 b (fun z => hb (by simp [z]))).trans (hk b ob (fun z => hb (by simp [z])) (fun z => hb (by simp [z])) q)) hf (Nat.le_refl _) new
    refine ⟨.ref s.heap.objs.size, _, I1, rfl, ⟨_, x, rfl, I.hok.fresh (Nat.le_refl _), rfl, hx⟩, ⟨⟨u, ?_⟩, hst'.1.at fun o q => (sb.2 it (Ne.symm hne)).trans q, hne, nai, nae⟩, fun b hb => ?_⟩
    · have e1 : ((i + 1 : Nat) : Int) = (i : Int) + 1 := by omega
      rw [e1]
      exact he'
    · have hb' : b < s.heap.objs.size := by
        rcases (show b = e ∨ b = it by simpa using hb) with z | z
        · rw [z]; exact hel
        · rw [z]; exact hil
      rw [upd_ne (Nat.ne_of_lt hb')]
      exact (hf b hb).1
  done := by
    intro X hP hw hK hc i pins s σ H E I hf st hg
    subst hP hw hK
    obtain ⟨⟨old, he⟩, hit, hne, nai, nae⟩ := st
    obtain ⟨hq, hi⟩ := hg
    obtain ⟨its, rv, p, hz⟩ := I.tuple hq
    have hlen := rv.length
    obtain ⟨f0, f1, f2, f3, f4, f5⟩ := hf it (by simp)
    have D : Draws X.prog X.w X.A.in1 it [it, a] its.toArray.size (fun i v => its.toArray[i]? = some v) (fun i h => h.IsTupleIter it a i ∧ h.IsTuple a its.toArray) := Draws.tuple (A := X.A.in1) (show X.A.in1.handled = none from I.ok.hd hc) it a nai its.toArray
    have en : i = its.toArray.size := by rw [List.size_toArray]; omega
    rw [en] at he hit
    exact wpAny_pyNext_enum_endD D he ⟨hit, p⟩ fun h' eb => ⟨rfl, I.turned (t' := s.toks) (fun b o hb q => eb b o hb q) f0 f1 f3 f4 f5⟩
  self := fun A i s Q E st h => let ⟨⟨_, he⟩, _⟩ := st; wpAny_pyIter_enum he h
def iEnumT (K : PySem.W.Frag) (ta : TA) : TI := fun σ H R => ta σ H fun vs H1 => ∃ a xs, vs = [.ref a] ∧ SqT K H1 a xs ∧ R (IteT K a xs) H1
theorem pi_enumT {X : Cx} {e : Expr} {ta : TA} {p pos tpos : Pos} {elts : List Expr} {kk : Nat} (hg : Gl X "enumerate") (hm : X.mg "enumerate" = none) (ha : PA X [e] ta) (hs : starEach [e] X.env = [(false, eval e X.env)] := by rfl) :
    PI X (.Tuple elts kk tpos) (.Call (.Name "enumerate" p) [e] [] pos) (iEnumT X.K ta) := by
  refine ⟨fun pins s σ H R I h => ?_⟩
  refine Call_ (ld_blt I hg hm boot_enumerate (PyProof.Rows.callWith_type1 (thn (ha.run pos pins s σ H _ I h) fun us s1 ⟨vs, H1, I1, r1, a, xs, ex, hq, q⟩ => ?_) hs rfl))
  subst ex
  cases r1 with
  | cons r rr =>
    cases rr
    cases r
    obtain ⟨its, rv, p', hz⟩ := I1.tuple hq
    have hal : a < s1.heap.objs.size := by obtain ⟨_, z, _⟩ := p'; exact Heap.lt_size z
    refine call_enum_tup (items := its.toArray) p' fun h' he hit hk => wpAny_pyIter_enum he ?_
    have I2 : Inv X pins σ H1 { s1 with heap := h' } := I1.kept (t' := s1.toks) hk
    refine ⟨s1.heap.objs.size + 1, [s1.heap.objs.size + 1, s1.heap.objs.size], _, _, H1, rfl, I2, turn_enumT a (s1.heap.objs.size + 1) s1.heap.objs.size its, ⟨⟨.none, he⟩, hit, Nat.succ_ne_self _, Nat.ne_of_lt hal, Nat.ne_of_lt (Nat.lt_succ_of_lt hal)⟩, fun b hb => ?_, q⟩
    have hle : s1.heap.objs.size ≤ b := by
      rcases (show b = s1.heap.objs.size + 1 ∨ b = s1.heap.objs.size by simpa using hb) with z | z
      · rw [z]; exact Nat.le_add_right _ _
      · rw [z]; exact Nat.le_refl _
    exact I1.fpOk hle (I1.hok.fresh hle)
theorem walk_enumT {K : PySem.W.Frag} {a : Addr} {xs : List V} : Walk (IteT K a xs) xs.length (fun H => SqT K H a xs) (YPair (fun i => some (.int (i : Nat))) (fun i => xs[i]?)) := by
  refine ⟨fun i _ hi q => ⟨q, hi⟩, fun _ q => ⟨q, rfl⟩, fun i H v H' _ q y => ?_⟩
  obtain ⟨T, x, h1, h2, h3, h4⟩ := y
  exact ⟨T, .int (i : Nat), x, h1, h2, h3, rfl, h4⟩
end Wm
namespace Wm
open PySem L2
/-- the outer walk of a comprehension of two clauses -/
theorem lc2_it {J : It} {n : Nat} {G : Hp → Prop} {Y : Nat → Hp → V → Hp → Prop} (w : Walk J n G Y) {g : TG} {vs : List Nat} {σ : St} {H1 : Hp} {D : Addr} {Qd : Hp → Prop} {inner : St → Hp → (Hp → Prop) → Prop} (Pv : Nat → Hp → Prop) (h0 : Pv 0 (upd H1 D (.lst []))) (hG : ∀ i H, i ≤ n → Pv i H → G H)
    (hs : ∀ i x H H', i < n → Pv i H → Y i H x H' → g x (wipe σ vs) H' fun σ2 H2 => wipe σ2 vs = wipe σ vs ∧ inner σ2 H2 (Pv (i + 1))) (hd : ∀ H, Pv n H → Qd H) :
    ∃ W : Nat → Nat → Hp → Prop, (∃ m, W 0 m (upd H1 D (.lst []))) ∧ ∀ i m H, W i m H →
      (J.stop i H ∧ Qd H) ∨ (J.go i H ∧ ∃ Nx : Hp → Prop, (∀ H', Nx H' → ∃ m', m' < m ∧ W (i + 1) m' H') ∧ ∀ x H', J.yld i H x H' → g x (wipe σ vs) H' fun σ2 H2 => wipe σ2 vs = wipe σ vs ∧ inner σ2 H2 Nx) := by
  refine ⟨fun i m H => m = n - i ∧ i ≤ n ∧ Pv i H, ⟨n, by simp, Nat.zero_le _, h0⟩, ?_⟩
  rintro i m H ⟨rfl, hi, p⟩
  have q := hG i H hi p
  by_cases hlt : i < n
  · exact .inr ⟨w.goes i H hlt q, Pv (i + 1), fun H' p' => ⟨n - (i + 1), by omega, rfl, hlt, p'⟩, fun x H' y => hs i x H H' hlt p (w.yields i H x H' hlt q y)⟩
  · have e : i = n := by omega
    subst e
    exact .inl ⟨w.stops H q, hd H p⟩
/-- the inner one -/
theorem lc1_it {J : It} {n : Nat} {G : Hp → Prop} {Y : Nat → Hp → V → Hp → Prop} (w : Walk J n G Y) {g : TG} {te : TE} {vs : List Nat} {σ : St} {H4 : Hp} {D : Addr} {Nx : Hp → Prop} (Pv : Nat → Hp → Prop) (h0 : Pv 0 H4) (hG : ∀ i H, i ≤ n → Pv i H → G H)
    (hs : ∀ i x H H', i < n → Pv i H → Y i H x H' → g x (wipe σ vs) H' fun σ3 H5 => wipe σ3 vs = wipe σ vs ∧ te σ3 H5 fun y H7 => ∃ acc, H7 D = some (.lst acc) ∧ acc.length < sizeLine ∧ Pv (i + 1) (upd H7 D (.lst (acc ++ [y])))) (hd : ∀ H, Pv n H → Nx H) :
    ∃ W1 : Nat → Nat → Hp → Prop, (∃ m, W1 0 m H4) ∧ ∀ j k H, W1 j k H →
      (J.stop j H ∧ Nx H) ∨ (J.go j H ∧ ∃ Nx1 : Hp → Prop, (∀ H', Nx1 H' → ∃ k', k' < k ∧ W1 (j + 1) k' H') ∧ ∀ x H', J.yld j H x H' → g x (wipe σ vs) H' fun σ3 H5 => wipe σ3 vs = wipe σ vs ∧ tYes σ3 H5 fun b H6 =>
        if b = true then te σ3 H6 fun y H7 => ∃ acc, H7 D = some (.lst acc) ∧ acc.length < sizeLine ∧ Nx1 (upd H7 D (.lst (acc ++ [y]))) else Nx1 H6) := by
  refine ⟨fun i m H => m = n - i ∧ i ≤ n ∧ Pv i H, ⟨n, by simp, Nat.zero_le _, h0⟩, ?_⟩
  rintro i m H ⟨rfl, hi, p⟩
  have q := hG i H hi p
  by_cases hlt : i < n
  · exact .inr ⟨w.goes i H hlt q, Pv (i + 1), fun H' p' => ⟨n - (i + 1), by omega, rfl, hlt, p'⟩, fun x H' y => hs i x H H' hlt p (w.yields i H x H' hlt q y)⟩
  · have e : i = n := by omega
    subst e
    exact .inl ⟨w.stops H q, hd H p⟩
/-- tuple(x) of a list or a tuple -/
def rTupOf (K : PySem.W.Frag) : List V → Hp → VK → Prop := fun xs H Q => ∃ p ys, xs = [.ref p] ∧ ((SqL K H p ys ∧ ∀ l, H l = none → Q (.ref l) (upd H l (.tup ys))) ∨ (SqT K H p ys ∧ Q (.ref p) H))
theorem call_tupN {X : Cx} : CallR X (.type "tuple") (rTupOf X.K) := call_tuple_of
theorem same_seqT {K : PySem.W.Frag} {H H' : Hp} {a : Addr} {xs : List V} (e : Same H H') (h : SqT K H a xs) : SqT K H' a xs := by
  rcases h with (h | ⟨o, h⟩) | h
  · exact .inl (.inl (e _ _ h))
  · exact .inl (.inr ⟨o, e _ _ h⟩)
  · exact .inr h
/-- to be read as a list or a tuple -/
def Sq (K : PySem.W.Frag) (H : Hp) (a : Addr) (xs : List V) : Prop := SqL K H a xs ∨ SqT K H a xs
theorem same_sq {K : PySem.W.Frag} {H H' : Hp} {a : Addr} {xs : List V} (e : Same H H') (h : Sq K H a xs) : Sq K H' a xs := h.imp (fun h => e.seq h) (fun h => same_seqT e h)
theorem cut_take (xs : List V) (i : Nat) : cutV xs none (some (i : Int)) = xs.take i := by
  unfold cutV
  rw [HT.sIx_none, HT.sIx_nat, List.drop_zero, Nat.sub_zero]
  by_cases h : i ≤ xs.length
  · rw [Nat.min_eq_left h]
  · rw [Nat.min_eq_right (by omega), List.take_length, List.take_of_length_le (by omega)]
theorem all_take {xs : List V} (h : xs.all flatV = true) (i : Nat) : (xs.take i).all flatV = true := by
  rw [List.all_eq_true] at h ⊢
  exact fun x hx => h x (List.mem_of_mem_take hx)
end Wm
namespace Wm
open PySem L2
/-- no item stands ahead of itself -/
def NoTw (xs : List V) : Prop := ∀ (i : Nat) (x : V), xs[i]? = some x → inV x (xs.take i) = false
def spFT (K : PySem.W.Frag) : Sp := fun vs H Q _ => ∃ (l : Addr) (xs : List V), vs = [.ref l] ∧ Sq K H l xs ∧ xs.all flatV = true ∧ NoTw xs ∧ ∀ H', Same H H' → Q .non H'
def spRC : Sp := fun vs H Q _ => ∃ (z : V) (c lo hi : Int), vs = [z, .int c, .int lo, .int hi] ∧ lo ≤ c ∧ c ≤ hi ∧ Q .non H
section
variable {P : Program} {w : World} {K : PySem.W.Frag} {mg : Str → Option Value} {base : Heap}
theorem scRC : FnScope ["what", "count", "least", "most"] ["what", "count", "least", "most"] (defScope sRC) := ⟨rfl, rfl, rfl, by decide +kernel, rfl, by decide +kernel, by decide +kernel⟩
theorem ok_rc {f : Addr} {fd : FuncData} (F : Fun K "refuse_count" "refuse_count" sRC f fd) : FnOk P w K mg base CX0 1 f fd ["what", "count", "least", "most"] spRC := by
  refine F.ok scRC (fun vs H Q E h => ?_) (fun cdv A outer s H vs Q E hr h => ?_)
  · obtain ⟨z, c, lo, hi, rfl, _⟩ := h
    rfl
  · obtain ⟨z, c, lo, hi, rfl, h1, h2, k⟩ := h
    refine ⟨_, (pss_one (ps_if (PW.pt (pw_or (pt_cmpR op_lt (pv 1) (pv 2) (nomark _)) (pw_or1 (pt_cmpR op_gt (pv 1) (pv 3) (nomark _))))) (pss_one ps_never) pss_nil)), ?_⟩
    refine ⟨_, rfl, _, rfl, _, _, rfl, rfl, _, rfl, ?_⟩
    refine ite2 (fun h => absurd (of_decide_eq_true h) (by omega)) (fun _ => ?_)
    refine ⟨_, rfl, _, rfl, _, _, rfl, rfl, _, rfl, ?_⟩
    exact ite2 (fun h => absurd (of_decide_eq_true h) (by omega)) (fun _ => k)
theorem scFT : FnScope ["row", "place", "part"] ["row"] (defScope sFT) := ⟨rfl, rfl, rfl, by decide +kernel, rfl, by decide +kernel, by decide +kernel⟩
theorem ok_ft {f : Addr} {fd : FuncData} (F : Fun K "first_twice" "first_twice" sFT f fd) (T : TxB mg) : FnOk P w K mg base CX0 1 f fd ["row"] (spFT K) := by
  refine F.ok scFT (fun vs H Q E h => ?_) (fun cdv A outer s H vs Q E hr h => ?_)
  · obtain ⟨l, xs, rfl, _⟩ := h
    rfl
  · obtain ⟨l, xs, rfl, hl, hf, hno, k⟩ := h
    rcases hl with hl | hl
    · refine ⟨_, (pss_cons (ps_for PassesOwn.never rfl (pi_enum rfl T.enumerate (pa_cons (pv 0) pa_nil)) (pg_tup rfl (pgs_cons (pg_name (i := 1) scFT.nd rfl (Or.inl rfl)) (pgs_cons (pg_name (i := 2) scFT.nd rfl (Or.inl rfl)) pgs_nil))) (pss_one (ps_if (pt_cmpR op_in_seq (pv 2) (pe_slice sl_list (pv 0) po_none (po_some (pv 1))) (by rfl)) (pss_one (ps_ret (pv 1))) pss_nil)))
      (pss_one (ps_ret pe_non))), ?_⟩
      refine ⟨_, rfl, l, xs, rfl, hl, for_it walk_enum (fun i σ H' => (∃ u v, σ = [some (.ref l), u, v]) ∧ Same H H') ⟨⟨none, none, rfl⟩, Same.refl H⟩ (fun i σ H' _ p => p.2.seq hl) ?_ ?_⟩
      · rintro i x σ H1 H2 hi ⟨⟨u, v, rfl⟩, hS⟩ ⟨t, y, z, rfl, ht, rfl, e1, e2⟩
        cases e1
        refine ⟨t, _, rfl, SqT.of upd_same, rfl, _, _, rfl, _, _, rfl, rfl, ?_⟩
        have S2 := hS.trans (Same.upd (o := .tup [.int (i : Nat), z]) ht)
        refine ⟨_, rfl, _, rfl, _, rfl, _, rfl, l, xs, rfl, S2.seq hl, fun p hp => ?_⟩
        refine ⟨p, _, rfl, .inl (SqL.of upd_same), ?_, ?_, _, rfl, ?_⟩
        · exact List.all_eq_true.mp hf _ (List.mem_of_getElem? e2)
        · show (cutV xs none (some (i : Int))).all flatV = true
          rw [cut_take]
          exact all_take hf i
        · have e : inV z (cutV xs none (some (i : Int))) = false := by
            rw [cut_take]
            exact hno i z e2
          show if inV z (cutV xs none (some (i : Int))) = true then _ else _
          rw [e]
          exact iteF ⟨⟨_, _, rfl⟩, S2.trans (Same.upd hp)⟩
      · rintro σ H' ⟨_, hS⟩
        exact k H' hS
    · refine ⟨_, (pss_cons (ps_for PassesOwn.never rfl (pi_enumT rfl T.enumerate (pa_cons (pv 0) pa_nil)) (pg_tup rfl (pgs_cons (pg_name (i := 1) scFT.nd rfl (Or.inl rfl)) (pgs_cons (pg_name (i := 2) scFT.nd rfl (Or.inl rfl)) pgs_nil))) (pss_one (ps_if (pt_cmpR op_in_seq (pv 2) (pe_slice sl_tupA (pv 0) po_none (po_some (pv 1))) (by rfl)) (pss_one (ps_ret (pv 1))) pss_nil)))
      (pss_one (ps_ret pe_non))), ?_⟩
      refine ⟨_, rfl, l, xs, rfl, hl, for_it walk_enumT (fun i σ H' => (∃ u v, σ = [some (.ref l), u, v]) ∧ Same H H') ⟨⟨none, none, rfl⟩, Same.refl H⟩ (fun i σ H' _ p => same_seqT p.2 hl) ?_ ?_⟩
      · rintro i x σ H1 H2 hi ⟨⟨u, v, rfl⟩, hS⟩ ⟨t, y, z, rfl, ht, rfl, e1, e2⟩
        cases e1
        refine ⟨t, _, rfl, SqT.of upd_same, rfl, _, _, rfl, _, _, rfl, rfl, ?_⟩
        have S2 := hS.trans (Same.upd (o := .tup [.int (i : Nat), z]) ht)
        refine ⟨_, rfl, _, rfl, _, rfl, _, rfl, l, xs, rfl, same_seqT S2 hl, fun h => ?_, fun h p hp => ?_⟩
        · have en : xs.take i = xs := by
            rw [HT.sIx_nat] at h
            exact List.take_of_length_le (by omega)
          have e : inV z xs = false := by
            have q := hno i z e2
            rw [en] at q
            exact q
          refine ⟨l, xs, rfl, .inr (same_seqT S2 hl), List.all_eq_true.mp hf _ (List.mem_of_getElem? e2), hf, _, rfl, ?_⟩
          show if inV z xs = true then _ else _
          rw [e]
          exact iteF ⟨⟨_, _, rfl⟩, S2⟩
        · refine ⟨p, _, rfl, .inr (SqT.of upd_same), List.all_eq_true.mp hf _ (List.mem_of_getElem? e2), ?_, _, rfl, ?_⟩
          · show (cutV xs none (some (i : Int))).all flatV = true
            rw [cut_take]
            exact all_take hf i
          · have e : inV z (cutV xs none (some (i : Int))) = false := by
              rw [cut_take]
              exact hno i z e2
            show if inV z (cutV xs none (some (i : Int))) = true then _ else _
            rw [e]
            exact iteF ⟨⟨_, _, rfl⟩, S2.trans (Same.upd hp)⟩
      · rintro σ H' ⟨_, hS⟩
        exact k H' hS
theorem scRT : FnScope ["names", "place"] ["names"] (defScope sRT) := ⟨rfl, rfl, rfl, by decide +kernel, rfl, by decide +kernel, by decide +kernel⟩
theorem ok_rt {f fF : Addr} {fd fdF : FuncData} (F : Fun K "refuse_twice" "refuse_twice" sRT f fd) (T : TxB mg) (D : Dn K mg "first_twice" sFT ["row"] fF fdF) : FnOk P w K mg base CX0 2 f fd ["names"] (spFT K) := by
  have G : FnOk P w K mg base CX0 1 fF fdF ["row"] (spFT K) := ok_ft D.F T
  refine F.ok scRT (fun vs H Q E h => ?_) (fun cdv A outer s H vs Q E hr h => ?_)
  · obtain ⟨l, xs, rfl, _⟩ := h
    rfl
  · obtain ⟨l, xs, rfl, hl, hf, hno, k⟩ := h
    refine ⟨_, (pss_cons (ps_set (i := 1) scRT.nd rfl (Or.inl rfl) (pe_call G hr rfl D.g D.F.kp D.b .nil pass0 (pa_cons (pv 0) pa_nil)))
      (pss_one (ps_if (pt_cmp (pc_notN (pv 1))) (pss_one ps_never) pss_nil))), ?_⟩
    refine ⟨_, rfl, l, xs, rfl, hl, hf, hno, fun H' hS => ?_⟩
    refine ⟨_, rfl, _, rfl, ?_⟩
    exact iteF (k H' hS)
end
end Wm
/-! names as the laws draw them: texts of at most six signs -/
namespace Wm
open PySem L2
def lowC (c : Nat) : Prop := 97 ≤ c ∧ c ≤ 122
def figC (c : Nat) : Prop := 48 ≤ c ∧ c ≤ 57
/-- a text of small letters and figures, the first a letter -/
def NmP (z : Str) : Prop := ∃ c cs, z.cps.toList = c :: cs ∧ lowC c ∧ ∀ d ∈ cs, lowC d ∨ figC d
theorem toList_app (a b : Str) : (a ++ b).cps.toList = a.cps.toList ++ b.cps.toList := by
  show (a.cps ++ b.cps).toList = _
  simp
theorem NmP.app {a b : Str} (h : NmP a) (hb : ∀ d ∈ b.cps.toList, lowC d ∨ figC d) : NmP (a ++ b) := by
  obtain ⟨c, cs, e, l, r⟩ := h
  refine ⟨c, cs ++ b.cps.toList, by rw [toList_app, e]; rfl, l, fun d hd => ?_⟩
  rcases List.mem_append.mp hd with h | h
  · exact r d h
  · exact hb d h
theorem NmP.one {c : Nat} (h : lowC c) : NmP ⟨#[c]⟩ := ⟨c, [], rfl, h, fun _ z => nomatch z⟩
theorem NmP.ok {z : Str} (h : NmP z) : ∀ c ∈ z.cps.toList, c < 1114112 := by
  obtain ⟨c, cs, e, l, r⟩ := h
  intro d hd
  rw [e] at hd
  rcases List.mem_cons.mp hd with h | h
  · rw [h]
    exact Nat.lt_of_le_of_lt l.2 (by decide)
  · rcases r d h with q | q
    · exact Nat.lt_of_le_of_lt q.2 (by decide)
    · exact Nat.lt_of_le_of_lt q.2 (by decide)
def ABC36 : Str := PySem.Str.ofString "abcdefghijklmnopqrstuvwxyz0123456789"
theorem abc36_len : ABC36.length = 36 := by decide +kernel
theorem abc_low {i : Nat} {c : Nat} (hi : i < 26) (h : ABC36.cps.toList[i]? = some c) : lowC c := by
  have q : ∀ j : Fin 26, ∀ d ∈ ABC36.cps.toList[j.1]?, 97 ≤ d ∧ d ≤ 122 := by decide +kernel
  exact q ⟨i, hi⟩ c (by rw [h]; exact rfl)
theorem abc_any {i : Nat} {c : Nat} (h : ABC36.cps.toList[i]? = some c) : lowC c ∨ figC c := by
  have q : ∀ d ∈ ABC36.cps.toList, (97 ≤ d ∧ d ≤ 122) ∨ (48 ≤ d ∧ d ≤ 57) := by decide +kernel
  exact q c (List.mem_of_getElem? h)
/-- the text of a number -/
def numS (n : Nat) : Str := PySem.Str.ofString (toString (n : Int))
def numB (n : Nat) : Bool := (numS n).cps.toList.all (fun d => decide (48 ≤ d ∧ d ≤ 57)) && (decide ((numS n).length ≤ 2) && decide (1 ≤ (numS n).length))
theorem num_all : ∀ n : Fin 70, numB n.1 = true := by decide +kernel
theorem num_inj0 : ∀ n m : Fin 70, (numS n.1).cps.toList = (numS m.1).cps.toList → n = m := by decide +kernel
theorem num_sign {n : Nat} (h : n < 70) : (∀ d ∈ (numS n).cps.toList, lowC d ∨ figC d) ∧ (numS n).length ≤ 2 ∧ 1 ≤ (numS n).length := by
  obtain ⟨a, b⟩ := Bool.and_eq_true_iff.mp (num_all ⟨n, h⟩)
  obtain ⟨b, c⟩ := Bool.and_eq_true_iff.mp b
  refine ⟨fun d hd => .inr ?_, of_decide_eq_true b, of_decide_eq_true c⟩
  have q := List.all_eq_true.mp a d hd
  exact of_decide_eq_true (p := 48 ≤ d ∧ d ≤ 57) q
theorem num_inj {n m : Nat} (hn : n < 70) (hm : m < 70) (h : numS n = numS m) : n = m := congrArg Fin.val (num_inj0 ⟨n, hn⟩ ⟨m, hm⟩ (by rw [h]))
/-- the tries for a name: the word, then the word with 1, 2 .. -/
def tryS (z : Str) : Nat → Str
  | 0 => z
  | n + 1 => z ++ numS (n + 1)
theorem app_inj {a b c : Str} (h : a ++ b = a ++ c) : b = c := by
  have e := congrArg (fun z : Str => z.cps.toList) h
  simp only [toList_app] at e
  have q := List.append_cancel_left e
  cases b; cases c
  simp only at q
  congr
  exact Array.toList_inj.mp q
theorem try_inj {z : Str} {n m : Nat} (hn : n < 70) (hm : m < 70) (h : tryS z n = tryS z m) : n = m := by
  have key : ∀ k, k + 1 < 70 → z ≠ z ++ numS (k + 1) := fun k hk e => by
    have l := congrArg (fun z : Str => z.cps.toList.length) e
    simp only [toList_app, List.length_append] at l
    have q := (num_sign hk).2.2
    have q' : 1 ≤ (numS (k + 1)).cps.toList.length := by simpa [PySem.Str.length] using q
    omega
  cases n with
  | zero =>
    cases m with
    | zero => rfl
    | succ m => exact (key m hm h).elim
  | succ n =>
    cases m with
    | zero => exact (key n hn h.symm).elim
    | succ m => exact num_inj hn hm (app_inj h)
theorem holes {α : Type} [BEq α] [LawfulBEq α] {f : Nat → α} : ∀ {n : Nat} {l : List α}, (∀ i j, i < n → j < n → f i = f j → i = j) → (∀ i, i < n → f i ∈ l) → n ≤ l.length
  | 0, _, _, _ => Nat.zero_le _
  | n + 1, l, inj, h => by
    have hm := h n (Nat.lt_succ_self n)
    have q := holes (n := n) (l := l.erase (f n)) (fun i j hi hj => inj i j (by omega) (by omega)) (fun i hi => by
      refine (List.mem_erase_of_ne fun e => ?_).mpr (h i (by omega))
      have := inj i n (by omega) (by omega) e
      omega)
    rw [List.length_erase_of_mem hm] at q
    have := List.length_pos_of_mem hm
    omega
theorem try_end {z : Str} {taken : List Str} {n : Nat} (ht : taken.length ≤ 60) (h : ∀ i, i < n → tryS z i ∈ taken) (hn : n ≤ 61) : n ≤ taken.length :=
  holes (f := tryS z) (fun i j hi hj e => try_inj (by omega) (by omega) e) h
theorem inV_strs {z : Str} {ns : List Str} : inV (.str z) (ns.map V.str) = decide (z ∈ ns) := by
  unfold inV
  rw [List.any_map]
  induction ns with
  | nil => simp
  | cons a r ih =>
    rw [List.any_cons, ih]
    have e : eqV (.str a) (.str z) = decide (a = z) := by
      unfold eqV
      by_cases h : a = z
      · simp [h]
      · simp [h]
    show (eqV (.str a) (.str z) || _) = _
    rw [e]
    by_cases h : a = z
    · simp [h]
    · have h' : ¬ z = a := fun x => h x.symm
      simp [h, h']
end Wm
namespace Wm
open PySem L2 StX
/-! ### what is never walked -/
theorem flats (ns : List Str) : (ns.map V.str).all flatV = true := by
  induction ns with
  | nil => rfl
  | cons a r ih => rw [List.map_cons, List.all_cons, ih]; rfl
def tNo : TE := fun _ _ _ => False
theorem pe_never {X : Cx} {e : Expr} : PE X e tNo := ⟨fun _ _ _ _ _ _ h => h.elim⟩
theorem for_nil {K : PySem.W.Frag} {a : Addr} {g : TG} {tb : TS} {D : Ends} {σ : L2.St} {H : Hp} (hl : SqL K H a []) (h : D.nx σ H) :
    ∃ W : Nat → Nat → L2.St → Hp → Prop, (∃ m, W 0 m σ H) ∧ ∀ i m σ H, W i m σ H →
      ((Itl K a).stop i H ∧ D.nx σ H) ∨ ((Itl K a).go i H ∧ ∃ N : L2.St → Hp → Prop, (∀ σ' H', N σ' H' → ∃ m', m' < m ∧ W (i + 1) m' σ' H') ∧ ∀ x H', (Itl K a).yld i H x H' → g x σ H' fun σ2 H2 => tb { D with nx := N, ct := N, bk := D.nx } σ2 H2) :=
  for_list (K := K) (a := a) (xs := []) (fun _ σ' H' => σ' = σ ∧ H' = H) ⟨rfl, rfl⟩ (fun i σ' H' _ p => by rw [p.2]; exact hl) (fun i x σ' H' e _ => by simp at e) (fun σ' H' p => by rw [p.1, p.2]; exact h)
/-- names in a row, of which the program refuses none -/
structure Row (zs : List Str) : Prop where
  nm : ∀ z ∈ zs, isNm z = true ∧ z.length ≤ 12
  nd : zs.Nodup
theorem Row.noTw {zs : List Str} (h : Row zs) : NoTw (zs.map V.str) := fun i x e => by
  rw [List.getElem?_map] at e
  obtain ⟨z, ez, rfl⟩ := Option.map_eq_some_iff.mp e
  rw [← List.map_take, inV_strs]
  refine decide_eq_false fun hm => ?_
  obtain ⟨j, hj⟩ := List.mem_iff_getElem?.mp hm
  have hlt : j < i := by
    have q := (List.getElem?_eq_some_iff.mp hj).1
    rw [List.length_take] at q
    omega
  rw [List.getElem?_take_of_lt hlt] at hj
  have hil := (List.getElem?_eq_some_iff.mp ez).1
  have e1 := (List.getElem?_eq_some_iff.mp ez).2
  have hjl := (List.getElem?_eq_some_iff.mp hj).1
  have e2 := (List.getElem?_eq_some_iff.mp hj).2
  exact (List.pairwise_iff_getElem.mp h.nd) j i hjl hil hlt (e2.trans e1.symm)
theorem noTw_nil : NoTw [] := fun i x e => by simp at e
structure TxS (mg : Str → Option Value) : Prop where
  so : ∃ t, mg "MOST_SORTS" = some (.int 4 t)
  wo : ∃ t, mg "MOST_WORDS" = some (.int 5 t)
  ru : ∃ t, mg "MOST_RULES" = some (.int 8 t)
  ba : ∃ t, mg "MOST_BARS" = some (.int 4 t)
def spRNv (K : PySem.W.Frag) : Sp := fun vs H Q _ => ∃ (l : Addr) (zs : List Str), vs = [.ref l] ∧ SqL K H l (zs.map V.str) ∧ (∀ z ∈ zs, isNm z = true ∧ z.length ≤ 12) ∧ ∀ H', Same H H' → Q .non H'
def spE1L (K : PySem.W.Frag) : Sp := fun vs H Q _ => ∃ (m : Addr), vs = [.ref m] ∧ SqL K H m [] ∧ ∀ H', Same H H' → Q .non H'
def spE3L (K : PySem.W.Frag) : Sp := fun vs H Q _ => ∃ (s m p : Addr), vs = [.ref s, .ref m, .ref p] ∧ SqL K H m [] ∧ SqL K H p [] ∧ ∀ H', Same H H' → Q .non H'
def spE2L (K : PySem.W.Frag) : Sp := fun vs H Q _ => ∃ (s m : Addr), vs = [.ref s, .ref m] ∧ SqL K H m [] ∧ ∀ H', Same H H' → Q .non H'
def spE4L (K : PySem.W.Frag) : Sp := fun vs H Q _ => ∃ (s m r b : Addr), vs = [.ref s, .ref m, .ref r, .ref b] ∧ SqL K H m [] ∧ SqL K H r [] ∧ SqL K H b [] ∧ ∀ H', Same H H' → Q .non H'
def spOL : Sp := fun vs H Q _ => vs = [.non] ∧ ∀ d, H d = none → Q (.ref d) (upd H d (.lst []))
def spCS (K : PySem.W.Frag) : Sp := fun vs H Q _ => ∃ (s w m r b : Addr) (ss ws : List Str), vs = [.ref s, .ref w, .ref m, .ref r, .ref b] ∧ SqL K H s (ss.map V.str) ∧ SqL K H w (ws.map V.str) ∧ SqL K H m [] ∧ SqL K H r [] ∧ SqL K H b [] ∧
  Row ss ∧ Row ws ∧ 1 ≤ ss.length ∧ ss.length ≤ 4 ∧ 1 ≤ ws.length ∧ ws.length ≤ 5 ∧ ∀ H', Same H H' → Q .non H'
def schF (l1 l2 l3 l4 l5 : Addr) : List (Str × V) := putF "own_bars" (.ref l5) (putF "own_rules" (.ref l4) (putF "own_makings" (.ref l3) (putF "own_words" (.ref l2) (putF "own_sorts" (.ref l1) []))))
theorem putF_len (f : Str) (v : V) (fs : List (Str × V)) : (putF f v fs).length ≤ fs.length + 1 := length_putF f v fs
theorem lookF {f : Str} {v : V} {fs : List (Str × V)} : (putF f v fs).lookup f = some v := by rw [lookup_putF, if_pos rfl]
theorem lookN {f g : Str} {v : V} {fs : List (Str × V)} (h : ¬ g = f) : (putF f v fs).lookup g = fs.lookup g := by rw [lookup_putF, if_neg h]
theorem schF_so (l1 l2 l3 l4 l5 : Addr) : (schF l1 l2 l3 l4 l5).lookup ("own_sorts" : Str) = some (.ref l1) := by
  unfold schF
  rw [lookN (by decide +kernel), lookN (by decide +kernel), lookN (by decide +kernel), lookN (by decide +kernel), lookF]
theorem schF_wo (l1 l2 l3 l4 l5 : Addr) : (schF l1 l2 l3 l4 l5).lookup ("own_words" : Str) = some (.ref l2) := by
  unfold schF
  rw [lookN (by decide +kernel), lookN (by decide +kernel), lookN (by decide +kernel), lookF]
structure TxSch (K : PySem.W.Frag) (mg : Str → Option Value) (S fS : Addr) : Prop where
  cl : Cls K S
  n1 : NoAttr K S "own_sorts"
  n2 : NoAttr K S "own_words"
  n3 : NoAttr K S "own_makings"
  n4 : NoAttr K S "own_rules"
  n5 : NoAttr K S "own_bars"
  g : mg "Scheme" = some (.ref S)
  m : Mk K S fS
/-- a scheme at x, of these sorts and words -/
structure SchAt (S : Addr) (H : Hp) (x : Addr) (ss ws : List Str) : Prop where
  ex : ∃ dx l1 l2 l3 l4 l5, H x = some (.ins S dx (schF l1 l2 l3 l4 l5)) ∧ H l1 = some (.lst (ss.map V.str)) ∧ H l2 = some (.lst (ws.map V.str))
def spSch (K : PySem.W.Frag) (S : Addr) : Sp := fun vs H Q _ => ∃ (H0 : Hp) (x dx s w : Addr) (ss ws : List Str), vs = [.ref x, .ref s, .ref w, .non, .non, .non] ∧ Same H0 H ∧ H0 x = none ∧ H x = some (.ins S dx []) ∧ SqL K H0 s (ss.map V.str) ∧ SqL K H0 w (ws.map V.str) ∧
  Row ss ∧ Row ws ∧ 1 ≤ ss.length ∧ ss.length ≤ 4 ∧ 1 ≤ ws.length ∧ ws.length ≤ 5 ∧ ∀ H', Same H0 H' → SchAt S H' x ss ws → Q .non H'
section
variable {P : Program} {w : World} {K : PySem.W.Frag} {mg : Str → Option Value} {base : Heap}
theorem scRN : FnScope ["texts", "text"] ["texts"] (defScope sRN) := ⟨rfl, rfl, rfl, by decide +kernel, rfl, by decide +kernel, by decide +kernel⟩
theorem ok_rnv {f fN : Addr} {fd fdN : FuncData} (F : Fun K "refuse_no_name" "refuse_no_name" sRN f fd) (D : Dn K mg "is_name" sName ["text"] fN fdN) (GN : FnOk P w K mg base CX0 1 fN fdN ["text"] spName) : FnOk P w K mg base CX0 2 f fd ["texts"] (spRNv K) := by
  refine F.ok scRN (fun vs H Q E h => ?_) (fun cdv A outer s H vs Q E hr h => ?_)
  · obtain ⟨l, zs, rfl, _⟩ := h
    rfl
  · obtain ⟨l, zs, rfl, hl, hn, k⟩ := h
    refine ⟨_, (pss_one (ps_for PassesOwn.never rfl (pi_list (pv 0)) (pg_name (i := 1) scRN.nd rfl (Or.inl rfl)) (pss_one (ps_if (pt_not (pt_val (pe_call GN hr rfl D.g D.F.kp D.b .nil pass0 (pa_cons (pv 1) pa_nil)))) (pss_one ps_never) pss_nil)))), ?_⟩
    refine ⟨_, rfl, l, rfl, ⟨_, hl⟩, for_list (K := K) (a := l) (xs := zs.map V.str) (fun i σ H' => (∃ v, σ = [some (.ref l), v]) ∧ Same H H') ⟨⟨none, rfl⟩, Same.refl H⟩ (fun i σ H' _ p => p.2.seq hl) ?_ (fun σ H' p => k H' p.2)⟩
    rintro i y σ H' hi ⟨⟨v, rfl⟩, hS⟩
    rw [List.getElem?_map] at hi
    obtain ⟨z, hz, rfl⟩ := Option.map_eq_some_iff.mp hi
    have hq := hn z (List.mem_of_getElem? hz)
    refine ⟨_, rfl, z, rfl, Nat.le_trans hq.2 (by decide), fun H2 hS2 => ⟨_, rfl, ?_⟩⟩
    rw [hq.1]
    exact iteF ⟨⟨_, rfl⟩, hS.trans hS2⟩
theorem scRMT : FnScope ["makings", "pairs", "place", "making"] ["makings"] (defScope sRMT) := ⟨rfl, rfl, rfl, by decide +kernel, rfl, by decide +kernel, by decide +kernel⟩
theorem lc_nil {a : Addr} {g : TG} {tt : TT} {te : TE} {vs : List Nat} {σ : L2.St} {H1 : Hp} {D : Addr} {Qd : Hp → Prop} (hl : SqL K H1 a []) (hD : H1 D = none) (h : Qd (upd H1 D (.lst []))) :
    ∃ W : Nat → Nat → Hp → Prop, (∃ m, W 0 m (upd H1 D (.lst []))) ∧ ∀ i m H, W i m H →
      ((Itl K a).stop i H ∧ Qd H) ∨ ((Itl K a).go i H ∧ ∃ Nx : Hp → Prop, (∀ H', Nx H' → ∃ m', m' < m ∧ W (i + 1) m' H') ∧ ∀ x H', (Itl K a).yld i H x H' → g x (wipe σ vs) H' fun σ2 H2 => wipe σ2 vs = wipe σ vs ∧ tt σ2 H2 fun b H3 =>
        if b = true then te σ2 H3 fun y H4 => ∃ acc, H4 D = some (.lst acc) ∧ acc.length < sizeLine ∧ Nx (upd H4 D (.lst (acc ++ [y]))) else Nx H3) :=
  lc_list (K := K) (a := a) (xs := []) (fun _ H' => H' = upd H1 D (.lst [])) rfl (fun i H' _ p => by rw [p]; exact (Same.upd hD).seq hl) (fun i x H' e _ => by simp at e) (fun H' p => by rw [p]; exact h)
theorem ok_rmt {f fF : Addr} {fd fdF : FuncData} (F : Fun K "refuse_makings_twice" "refuse_makings_twice" sRMT f fd) (T : TxB mg) (D : Dn K mg "first_twice" sFT ["row"] fF fdF) : FnOk P w K mg base CX0 2 f fd ["makings"] (spE1L K) := by
  have G : FnOk P w K mg base CX0 1 fF fdF ["row"] (spFT K) := ok_ft D.F T
  refine F.ok scRMT (fun vs H Q E h => ?_) (fun cdv A outer s H vs Q E hr h => ?_)
  · obtain ⟨m, rfl, _⟩ := h
    rfl
  · obtain ⟨m, rfl, hm, k⟩ := h
    refine ⟨_, (pss_cons (ps_setLc (i := 1) (own := [("making", 3)]) (g := gName 3) (te := tNo) rfl scRMT.nd rfl rfl (sw_true rfl rfl rfl (by decide +kernel)) (pi_list (pv 0)) (blkOk_by (N := ["makings", "pairs", "place", "making"]) (sc := defScope sRMT) (by decide +kernel)) (fun _ _ _ _ _ => (pg_name (i := 3) scRMT.nd rfl (Or.inl rfl))) (fun _ _ _ _ _ => pts_nil) (fun _ _ _ _ _ => pe_never))
      (pss_cons (ps_set (i := 2) scRMT.nd rfl (Or.inl rfl) (pe_call G hr rfl D.g D.F.kp D.b .nil pass0 (pa_cons (pv 1) pa_nil)))
      (pss_one (ps_if (pt_cmp (pc_notN (pv 2))) (pss_one ps_never) pss_nil)))), ?_⟩
    refine ⟨_, rfl, m, rfl, ⟨_, hm⟩, fun D hD => lc_nil hm hD ?_⟩
    refine ⟨_, rfl, D, [], rfl, .inl (SqL.of upd_same), rfl, noTw_nil, fun H' hS => ?_⟩
    refine ⟨_, rfl, _, rfl, ?_⟩
    exact iteF (k H' ((Same.upd hD).trans hS))
theorem scRNS : FnScope ["sorts", "makings", "patterns", "asked", "making", "pattern", "name"] ["sorts", "makings", "patterns"] (defScope sRNS) := ⟨rfl, rfl, rfl, by decide +kernel, rfl, by decide +kernel, by decide +kernel⟩
theorem ok_rns {f : Addr} {fd : FuncData} (F : Fun K "refuse_no_sort" "refuse_no_sort" sRNS f fd) : FnOk P w K mg base CX0 1 f fd ["sorts", "makings", "patterns"] (spE3L K) := by
  refine F.ok scRNS (fun vs H Q E h => ?_) (fun cdv A outer s H vs Q E hr h => ?_)
  · obtain ⟨s, m, p, rfl, _⟩ := h
    rfl
  · obtain ⟨s, m, p, rfl, hm, hp, k⟩ := h
    refine ⟨_, (pss_cons (ps_set (i := 3) scRNS.nd rfl (Or.inl rfl) (pe_lst pa_nil))
      (pss_cons (ps_for PassesOwn.never rfl (pi_list (pv 1)) (pg_name (i := 4) scRNS.nd rfl (Or.inl rfl)) (pss_one ps_never))
      (pss_cons (ps_for PassesOwn.never rfl (pi_list (pv 2)) (pg_name (i := 5) scRNS.nd rfl (Or.inl rfl)) (pss_one ps_never))
      (pss_one (ps_for PassesOwn.never rfl (pi_list (pv 3)) (pg_name (i := 6) scRNS.nd rfl (Or.inl rfl)) (pss_one ps_never)))))), ?_⟩
    refine ⟨Nat.zero_le _, fun d hd => ?_⟩
    have S := Same.upd (o := .lst []) hd
    refine ⟨_, rfl, m, rfl, ⟨_, S.seq hm⟩, for_nil (S.seq hm) ?_⟩
    refine ⟨_, rfl, p, rfl, ⟨_, S.seq hp⟩, for_nil (S.seq hp) ?_⟩
    exact ⟨_, rfl, d, rfl, ⟨_, SqL.of upd_same⟩, for_nil (SqL.of upd_same) (k _ S)⟩
theorem scRU : FnScope ["sorts", "makings", "making"] ["sorts", "makings"] (defScope sRU) := ⟨rfl, rfl, rfl, by decide +kernel, rfl, by decide +kernel, by decide +kernel⟩
theorem ok_ru {f : Addr} {fd : FuncData} (F : Fun K "refuse_upward" "refuse_upward" sRU f fd) : FnOk P w K mg base CX0 1 f fd ["sorts", "makings"] (spE2L K) := by
  refine F.ok scRU (fun vs H Q E h => ?_) (fun cdv A outer s H vs Q E hr h => ?_)
  · obtain ⟨s, m, rfl, _⟩ := h
    rfl
  · obtain ⟨s, m, rfl, hm, k⟩ := h
    refine ⟨_, (pss_one (ps_for PassesOwn.never rfl (pi_list (pv 1)) (pg_name (i := 2) scRU.nd rfl (Or.inl rfl)) (pss_one ps_never))), ?_⟩
    exact ⟨_, rfl, m, rfl, ⟨_, hm⟩, for_nil hm (k _ (Same.refl H))⟩
theorem scRNW : FnScope ["words", "makings", "rules", "bars", "asked", "making", "rule", "bar", "name"] ["words", "makings", "rules", "bars"] (defScope sRNW) := ⟨rfl, rfl, rfl, by decide +kernel, rfl, by decide +kernel, by decide +kernel⟩
theorem ok_rnw {f : Addr} {fd : FuncData} (F : Fun K "refuse_no_word" "refuse_no_word" sRNW f fd) : FnOk P w K mg base CX0 1 f fd ["words", "makings", "rules", "bars"] (spE4L K) := by
  refine F.ok scRNW (fun vs H Q E h => ?_) (fun cdv A outer s H vs Q E hr h => ?_)
  · obtain ⟨s, m, r, b, rfl, _⟩ := h
    rfl
  · obtain ⟨s, m, r, b, rfl, hm, hr', hb, k⟩ := h
    refine ⟨_, (pss_cons (ps_set (i := 4) scRNW.nd rfl (Or.inl rfl) (pe_lst pa_nil))
      (pss_cons (ps_for PassesOwn.never rfl (pi_list (pv 1)) (pg_name (i := 5) scRNW.nd rfl (Or.inl rfl)) (pss_one ps_never))
      (pss_cons (ps_for PassesOwn.never rfl (pi_list (pv 2)) (pg_name (i := 6) scRNW.nd rfl (Or.inl rfl)) (pss_one ps_never))
      (pss_cons (ps_for PassesOwn.never rfl (pi_list (pv 3)) (pg_name (i := 7) scRNW.nd rfl (Or.inl rfl)) (pss_one ps_never))
      (pss_one (ps_for PassesOwn.never rfl (pi_list (pv 4)) (pg_name (i := 8) scRNW.nd rfl (Or.inl rfl)) (pss_one ps_never))))))), ?_⟩
    refine ⟨Nat.zero_le _, fun d hd => ?_⟩
    have S := Same.upd (o := .lst []) hd
    refine ⟨_, rfl, m, rfl, ⟨_, S.seq hm⟩, for_nil (S.seq hm) ?_⟩
    refine ⟨_, rfl, r, rfl, ⟨_, S.seq hr'⟩, for_nil (S.seq hr') ?_⟩
    refine ⟨_, rfl, b, rfl, ⟨_, S.seq hb⟩, for_nil (S.seq hb) ?_⟩
    exact ⟨_, rfl, d, rfl, ⟨_, SqL.of upd_same⟩, for_nil (SqL.of upd_same) (k _ S)⟩
theorem scOL : FnScope ["rows"] ["rows"] (defScope sOL) := ⟨rfl, rfl, rfl, by decide +kernel, rfl, by decide +kernel, by decide +kernel⟩
theorem ok_ol {f : Addr} {fd : FuncData} (F : Fun K "own_list" "own_list" sOL f fd) : FnOk P w K mg base CX0 1 f fd ["rows"] spOL := by
  refine F.ok scOL (fun vs H Q E h => ?_) (fun cdv A outer s H vs Q E hr h => ?_)
  · obtain ⟨rfl, _⟩ := h
    rfl
  · obtain ⟨rfl, k⟩ := h
    refine ⟨_, (pss_cons (ps_if (pt_cmp (pc_isN (pv 0))) (pss_one (ps_ret (pe_lst pa_nil))) pss_nil) (pss_one ps_never)), ?_⟩
    refine ⟨_, rfl, _, rfl, ?_⟩
    exact iteT ⟨Nat.zero_le _, fun d hd => k d hd⟩
theorem scCS : FnScope ["sorts", "words", "makings", "rules", "bars", "rule", "bar"] ["sorts", "words", "makings", "rules", "bars"] (defScope sCS) := ⟨rfl, rfl, rfl, by decide +kernel, rfl, by decide +kernel, by decide +kernel⟩
theorem ok_cs {f fRC fRN fRT fRM fNS fRU fNW : Addr} {fd dRC dRN dRT dRM dNS dRU dNW : FuncData} (F : Fun K "check_scheme" "check_scheme" sCS f fd) (T : TxB mg) (TS : TxS mg)
    (DC : Dn K mg "refuse_count" sRC ["what", "count", "least", "most"] fRC dRC) (DN : Dn K mg "refuse_no_name" sRN ["texts"] fRN dRN) (DT : Dn K mg "refuse_twice" sRT ["names"] fRT dRT) (DM : Dn K mg "refuse_makings_twice" sRMT ["makings"] fRM dRM) (DS : Dn K mg "refuse_no_sort" sRNS ["sorts", "makings", "patterns"] fNS dNS) (DU : Dn K mg "refuse_upward" sRU ["sorts", "makings"] fRU dRU) (DW : Dn K mg "refuse_no_word" sRNW ["words", "makings", "rules", "bars"] fNW dNW)
    (GN : FnOk P w K mg base CX0 2 fRN dRN ["texts"] (spRNv K)) (GT : FnOk P w K mg base CX0 2 fRT dRT ["names"] (spFT K)) (GM : FnOk P w K mg base CX0 2 fRM dRM ["makings"] (spE1L K)) : FnOk P w K mg base CX0 3 f fd ["sorts", "words", "makings", "rules", "bars"] (spCS K) := by
  have GC : FnOk P w K mg base CX0 1 fRC dRC _ spRC := ok_rc DC.F
  have GS : FnOk P w K mg base CX0 1 fNS dNS _ (spE3L K) := ok_rns DS.F
  have GU : FnOk P w K mg base CX0 1 fRU dRU _ (spE2L K) := ok_ru DU.F
  have GW : FnOk P w K mg base CX0 1 fNW dNW _ (spE4L K) := ok_rnw DW.F
  refine F.ok scCS (fun vs H Q E h => ?_) (fun cdv A outer s H vs Q E hr h => ?_)
  · obtain ⟨s, w, m, r, b, ss, ws, rfl, _⟩ := h
    rfl
  · obtain ⟨s, w, m, r, b, ss, ws, rfl, hs, hw, hm, hr', hb, rs, rw', s1, s4, w1, w5, k⟩ := h
    have hr1 : Room 1 _ := hr.mono (by decide)
    obtain ⟨t1, g1⟩ := TS.so
    obtain ⟨t2, g2⟩ := TS.wo
    obtain ⟨t3, g3⟩ := TS.ru
    obtain ⟨t4, g4⟩ := TS.ba
    refine ⟨_, (pss_cons (ps_expr (pe_call GC hr1 rfl DC.g DC.F.kp DC.b .nil pass0 (pa_cons pe_str (pa_cons (pe_callB call_len_seq (by rfl) T.len (by decide +kernel) (pa_cons (pv 0) pa_nil)) (pa_cons pe_int (pa_cons (pe_glob (v := .int 4) rfl g1 ⟨t1, rfl⟩) pa_nil))))))
      (pss_cons (ps_expr (pe_call GC hr1 rfl DC.g DC.F.kp DC.b .nil pass0 (pa_cons pe_str (pa_cons (pe_callB call_len_seq (by rfl) T.len (by decide +kernel) (pa_cons (pv 1) pa_nil)) (pa_cons pe_int (pa_cons (pe_glob (v := .int 5) rfl g2 ⟨t2, rfl⟩) pa_nil))))))
      (pss_cons (ps_expr (pe_call GC hr1 rfl DC.g DC.F.kp DC.b .nil pass0 (pa_cons pe_str (pa_cons (pe_callB call_len_seq (by rfl) T.len (by decide +kernel) (pa_cons (pv 3) pa_nil)) (pa_cons pe_int (pa_cons (pe_glob (v := .int 8) rfl g3 ⟨t3, rfl⟩) pa_nil))))))
      (pss_cons (ps_expr (pe_call GC hr1 rfl DC.g DC.F.kp DC.b .nil pass0 (pa_cons pe_str (pa_cons (pe_callB call_len_seq (by rfl) T.len (by decide +kernel) (pa_cons (pv 4) pa_nil)) (pa_cons pe_int (pa_cons (pe_glob (v := .int 4) rfl g4 ⟨t4, rfl⟩) pa_nil))))))
      (pss_cons (ps_expr (pe_call GN hr rfl DN.g DN.F.kp DN.b .nil pass0 (pa_cons (pv 0) pa_nil)))
      (pss_cons (ps_expr (pe_call GN hr rfl DN.g DN.F.kp DN.b .nil pass0 (pa_cons (pv 1) pa_nil)))
      (pss_cons (ps_expr (pe_call GT hr rfl DT.g DT.F.kp DT.b .nil pass0 (pa_cons (pv 0) pa_nil)))
      (pss_cons (ps_expr (pe_call GT hr rfl DT.g DT.F.kp DT.b .nil pass0 (pa_cons (pv 1) pa_nil)))
      (pss_cons (ps_expr (pe_call GM hr rfl DM.g DM.F.kp DM.b .nil pass0 (pa_cons (pv 2) pa_nil)))
      (pss_cons (ps_expr (pe_call GT hr rfl DT.g DT.F.kp DT.b .nil pass0 (pa_cons (pe_lc (own := [("rule", 5)]) (g := gName 5) (te := tNo) rfl scCS.nd (pi_list (pv 3)) (blkOk_by (N := ["sorts", "words", "makings", "rules", "bars", "rule", "bar"]) (sc := defScope sCS) (by decide +kernel)) (fun _ _ _ _ _ => (pg_name (i := 5) scCS.nd rfl (Or.inl rfl))) (fun _ _ _ _ _ => pts_nil) (fun _ _ _ _ _ => pe_never)) pa_nil)))
      (pss_cons (ps_expr (pe_call GT hr rfl DT.g DT.F.kp DT.b .nil pass0 (pa_cons (pe_lc (own := [("bar", 6)]) (g := gName 6) (te := tNo) rfl scCS.nd (pi_list (pv 4)) (blkOk_by (N := ["sorts", "words", "makings", "rules", "bars", "rule", "bar"]) (sc := defScope sCS) (by decide +kernel)) (fun _ _ _ _ _ => (pg_name (i := 6) scCS.nd rfl (Or.inl rfl))) (fun _ _ _ _ _ => pts_nil) (fun _ _ _ _ _ => pe_never)) pa_nil)))
      (pss_cons (ps_expr (pe_call GS hr1 rfl DS.g DS.F.kp DS.b .nil pass0 (pa_cons (pv 0) (pa_cons (pv 2) (pa_cons (pe_lst (pa_star (pv 3) (pa_star (pv 4) pa_nil))) pa_nil)))))
      (pss_cons (ps_expr (pe_call GU hr1 rfl DU.g DU.F.kp DU.b .nil pass0 (pa_cons (pv 0) (pa_cons (pv 2) pa_nil))))
      (pss_one (ps_expr (pe_call GW hr1 rfl DW.g DW.F.kp DW.b .nil pass0 (pa_cons (pv 1) (pa_cons (pv 2) (pa_cons (pv 3) (pa_cons (pv 4) pa_nil)))))))))))))))))))), ?_⟩
    refine ⟨_, rfl, s, _, rfl, .inl hs, _, _, _, _, rfl, by rw [List.length_map]; omega, by rw [List.length_map]; omega, ?_⟩
    refine ⟨_, rfl, w, _, rfl, .inl hw, _, _, _, _, rfl, by rw [List.length_map]; omega, by rw [List.length_map]; omega, ?_⟩
    refine ⟨_, rfl, r, _, rfl, .inl hr', _, _, _, _, rfl, by decide, by decide, ?_⟩
    refine ⟨_, rfl, b, _, rfl, .inl hb, _, _, _, _, rfl, by decide, by decide, ?_⟩
    refine ⟨_, rfl, s, ss, rfl, hs, rs.nm, fun H1 S1 => ?_⟩
    refine ⟨_, rfl, w, ws, rfl, S1.seq hw, rw'.nm, fun H2 S2 => ?_⟩
    have S12 := S1.trans S2
    refine ⟨_, rfl, s, _, rfl, .inl (S12.seq hs), flats ss, rs.noTw, fun H3 S3 => ?_⟩
    have S13 := S12.trans S3
    refine ⟨_, rfl, w, _, rfl, .inl (S13.seq hw), flats ws, rw'.noTw, fun H4 S4 => ?_⟩
    have S14 := S13.trans S4
    refine ⟨_, rfl, m, rfl, S14.seq hm, fun H5 S5 => ?_⟩
    have S15 := S14.trans S5
    refine ⟨_, rfl, r, rfl, ⟨_, S15.seq hr'⟩, fun D hD => lc_nil (S15.seq hr') hD ⟨D, [], rfl, .inl (SqL.of upd_same), rfl, noTw_nil, fun H6 S6 => ?_⟩⟩
    have S16 := (S15.trans (Same.upd hD)).trans S6
    refine ⟨_, rfl, b, rfl, ⟨_, S16.seq hb⟩, fun D2 hD2 => lc_nil (S16.seq hb) hD2 ⟨D2, [], rfl, .inl (SqL.of upd_same), rfl, noTw_nil, fun H7 S7 => ?_⟩⟩
    have S17 := (S16.trans (Same.upd hD2)).trans S7
    refine ⟨_, rfl, _, rfl, _, rfl, r, [], rfl, .inr (S17.seq hr'), _, rfl, b, [], rfl, .inr (S17.seq hb), Nat.zero_le _, fun q hq => ?_⟩
    have S18 := S17.trans (Same.upd (o := .lst []) hq)
    refine ⟨s, m, q, rfl, S18.seq hm, SqL.of upd_same, fun H8 S8 => ?_⟩
    have S19 := S18.trans S8
    refine ⟨_, rfl, _, rfl, s, m, rfl, S19.seq hm, fun H9 S9 => ?_⟩
    have S20 := S19.trans S9
    exact ⟨_, rfl, _, rfl, _, rfl, _, rfl, w, m, r, b, rfl, S20.seq hm, S20.seq hr', S20.seq hb, fun H10 S10 => k H10 (S20.trans S10)⟩
theorem scSch : FnScope ["self", "sorts", "words", "makings", "rules", "bars"] ["self", "sorts", "words", "makings", "rules", "bars"] (defScope sSch) := ⟨rfl, rfl, rfl, by decide +kernel, rfl, by decide +kernel, by decide +kernel⟩
theorem ok_sch {f fO fC S : Addr} {fd dO dC : FuncData} {dvs : List V} (F : FunD K "__init__" "Scheme.__init__" (defArgs sSch) (defBody sSch) (defScope sSch) dvs [] f fd) (tl : mg "list" = none) (TC : TxSch K mg S f) (DO : Dn K mg "own_list" sOL ["rows"] fO dO) (DC : Dn K mg "check_scheme" sCS ["sorts", "words", "makings", "rules", "bars"] fC dC)
    (GC : FnOk P w K mg base CX0 3 fC dC ["sorts", "words", "makings", "rules", "bars"] (spCS K)) : FnOk P w K mg base CX0 4 f fd ["self", "sorts", "words", "makings", "rules", "bars"] (spSch K S) := by
  have GO : FnOk P w K mg base CX0 1 fO dO _ spOL := ok_ol DO.F
  refine F.ok scSch (fun vs H Q E h => ?_) (fun cdv A outer s H vs Q E hr h => ?_)
  · obtain ⟨H0, x, dx, s, w, ss, ws, rfl, _⟩ := h
    rfl
  · obtain ⟨H0, x, dx, s, w, ss, ws, rfl, S0, x0, hx, hs, hw, rs, rw', s1, s4, w1, w5, k⟩ := h
    have hr1 : Room 1 _ := hr.mono (by decide)
    have Sx : ∀ {H1 : Hp} {o : HO}, Same H0 H1 → Same H0 (upd H1 x o) := fun hs b o e => by
      rw [upd_ne (ne_of_none e x0)]
      exact hs b o e
    refine ⟨_, (pss_cons (ps_fld (pv 0) (pe_callTy call_list_of (by rfl) tl (by decide +kernel) (pa_cons (pv 1) pa_nil)) rfl)
      (pss_cons (ps_fld (pv 0) (pe_callTy call_list_of (by rfl) tl (by decide +kernel) (pa_cons (pv 2) pa_nil)) rfl)
      (pss_cons (ps_fld (pv 0) (pe_call GO hr1 rfl DO.g DO.F.kp DO.b .nil pass0 (pa_cons (pv 3) pa_nil)) rfl)
      (pss_cons (ps_fld (pv 0) (pe_call GO hr1 rfl DO.g DO.F.kp DO.b .nil pass0 (pa_cons (pv 4) pa_nil)) rfl)
      (pss_cons (ps_fld (pv 0) (pe_call GO hr1 rfl DO.g DO.F.kp DO.b .nil pass0 (pa_cons (pv 5) pa_nil)) rfl)
      (pss_one (ps_expr (pe_call GC hr rfl DC.g DC.F.kp DC.b .nil pass0 (pa_cons (pe_fld (pv 0) rfl) (pa_cons (pe_fld (pv 0) rfl) (pa_cons (pe_fld (pv 0) rfl) (pa_cons (pe_fld (pv 0) rfl) (pa_cons (pe_fld (pv 0) rfl) pa_nil))))))))))))), ?_⟩
    refine ⟨_, rfl, s, _, rfl, .inl (S0.seq hs), fun l1 h1 => ?_⟩
    have n1 : l1 ≠ x := fun z => by
      rw [z, hx] at h1
      cases h1
    have hx1 : upd H l1 (.lst (ss.map V.str)) x = some (.ins S dx []) := (upd_ne n1.symm).trans hx
    refine ⟨_, rfl, x, S, dx, _, rfl, hx1, TC.cl, TC.n1, by show 0 < 1000; decide, ?_⟩
    have S1 : Same H0 (upd (upd H l1 (.lst (ss.map V.str))) x (.ins S dx (putF "own_sorts" (.ref l1) []))) := Sx (S0.trans (Same.upd h1))
    have e1 : (upd (upd H l1 (.lst (ss.map V.str))) x (.ins S dx (putF "own_sorts" (.ref l1) []))) l1 = some (.lst (ss.map V.str)) := (upd_ne n1).trans upd_same
    have ex1 : (upd (upd H l1 (.lst (ss.map V.str))) x (.ins S dx (putF "own_sorts" (.ref l1) []))) x = some (.ins S dx (putF "own_sorts" (.ref l1) [])) := upd_same
    generalize upd (upd H l1 (.lst (ss.map V.str))) x (.ins S dx (putF "own_sorts" (.ref l1) [])) = H1 at S1 e1 ex1
    refine ⟨_, rfl, w, _, rfl, .inl (S1.seq hw), fun l2 h2 => ?_⟩
    have n2 : l2 ≠ x := fun z => by
      rw [z, ex1] at h2
      cases h2
    refine ⟨_, rfl, x, S, dx, _, rfl, (upd_ne n2.symm).trans ex1, TC.cl, TC.n2, Nat.lt_of_le_of_lt (putF_len _ _ _) (by decide), ?_⟩
    have S2 := Sx (o := .ins S dx (putF "own_words" (.ref l2) (putF "own_sorts" (.ref l1) []))) (S1.trans (Same.upd (o := .lst (ws.map V.str)) h2))
    have e2 : (upd (upd H1 l2 (.lst (ws.map V.str))) x (.ins S dx (putF "own_words" (.ref l2) (putF "own_sorts" (.ref l1) [])))) l2 = some (.lst (ws.map V.str)) := (upd_ne n2).trans upd_same
    have e12 : (upd (upd H1 l2 (.lst (ws.map V.str))) x (.ins S dx (putF "own_words" (.ref l2) (putF "own_sorts" (.ref l1) [])))) l1 = some (.lst (ss.map V.str)) := (upd_ne n1).trans ((upd_ne (ne_of_none e1 h2)).trans e1)
    have ex2 : (upd (upd H1 l2 (.lst (ws.map V.str))) x (.ins S dx (putF "own_words" (.ref l2) (putF "own_sorts" (.ref l1) [])))) x = _ := upd_same
    generalize upd (upd H1 l2 (.lst (ws.map V.str))) x (.ins S dx (putF "own_words" (.ref l2) (putF "own_sorts" (.ref l1) []))) = H2 at S2 e2 e12 ex2
    refine ⟨_, rfl, rfl, fun l3 h3 => ?_⟩
    have n3 : l3 ≠ x := fun z => by
      rw [z, ex2] at h3
      cases h3
    refine ⟨_, rfl, x, S, dx, _, rfl, (upd_ne n3.symm).trans ex2, TC.cl, TC.n3, ?_, ?_⟩
    · have q1 := putF_len "own_sorts" (.ref l1) []
      have q2 := putF_len "own_words" (.ref l2) (putF "own_sorts" (.ref l1) [])
      simp only [List.length_nil] at *
      omega
    have S3 := Sx (o := .ins S dx (putF "own_makings" (.ref l3) (putF "own_words" (.ref l2) (putF "own_sorts" (.ref l1) [])))) (S2.trans (Same.upd (o := .lst []) h3))
    have e33 : (upd (upd H2 l3 (.lst [])) x (.ins S dx (putF "own_makings" (.ref l3) (putF "own_words" (.ref l2) (putF "own_sorts" (.ref l1) []))))) l3 = some (.lst []) := (upd_ne n3).trans upd_same
    have e13 : (upd (upd H2 l3 (.lst [])) x (.ins S dx (putF "own_makings" (.ref l3) (putF "own_words" (.ref l2) (putF "own_sorts" (.ref l1) []))))) l1 = some (.lst (ss.map V.str)) := (upd_ne n1).trans ((upd_ne (ne_of_none e12 h3)).trans e12)
    have e23 : (upd (upd H2 l3 (.lst [])) x (.ins S dx (putF "own_makings" (.ref l3) (putF "own_words" (.ref l2) (putF "own_sorts" (.ref l1) []))))) l2 = some (.lst (ws.map V.str)) := (upd_ne n2).trans ((upd_ne (ne_of_none e2 h3)).trans e2)
    have ex3 : (upd (upd H2 l3 (.lst [])) x (.ins S dx (putF "own_makings" (.ref l3) (putF "own_words" (.ref l2) (putF "own_sorts" (.ref l1) []))))) x = _ := upd_same
    generalize upd (upd H2 l3 (.lst [])) x (.ins S dx (putF "own_makings" (.ref l3) (putF "own_words" (.ref l2) (putF "own_sorts" (.ref l1) [])))) = H3 at S3 ex3 e13 e23 e33
    refine ⟨_, rfl, rfl, fun l4 h4 => ?_⟩
    have n4 : l4 ≠ x := fun z => by
      rw [z, ex3] at h4
      cases h4
    refine ⟨_, rfl, x, S, dx, _, rfl, (upd_ne n4.symm).trans ex3, TC.cl, TC.n4, ?_, ?_⟩
    · have q1 := putF_len "own_sorts" (.ref l1) []
      have q2 := putF_len "own_words" (.ref l2) (putF "own_sorts" (.ref l1) [])
      have q3 := putF_len "own_makings" (.ref l3) (putF "own_words" (.ref l2) (putF "own_sorts" (.ref l1) []))
      simp only [List.length_nil] at *
      omega
    have S4 := Sx (o := .ins S dx (putF "own_rules" (.ref l4) (putF "own_makings" (.ref l3) (putF "own_words" (.ref l2) (putF "own_sorts" (.ref l1) []))))) (S3.trans (Same.upd (o := .lst []) h4))
    have e44 : (upd (upd H3 l4 (.lst [])) x (.ins S dx (putF "own_rules" (.ref l4) (putF "own_makings" (.ref l3) (putF "own_words" (.ref l2) (putF "own_sorts" (.ref l1) [])))))) l4 = some (.lst []) := (upd_ne n4).trans upd_same
    have e14 : (upd (upd H3 l4 (.lst [])) x (.ins S dx (putF "own_rules" (.ref l4) (putF "own_makings" (.ref l3) (putF "own_words" (.ref l2) (putF "own_sorts" (.ref l1) [])))))) l1 = some (.lst (ss.map V.str)) := (upd_ne n1).trans ((upd_ne (ne_of_none e13 h4)).trans e13)
    have e24 : (upd (upd H3 l4 (.lst [])) x (.ins S dx (putF "own_rules" (.ref l4) (putF "own_makings" (.ref l3) (putF "own_words" (.ref l2) (putF "own_sorts" (.ref l1) [])))))) l2 = some (.lst (ws.map V.str)) := (upd_ne n2).trans ((upd_ne (ne_of_none e23 h4)).trans e23)
    have e34 : (upd (upd H3 l4 (.lst [])) x (.ins S dx (putF "own_rules" (.ref l4) (putF "own_makings" (.ref l3) (putF "own_words" (.ref l2) (putF "own_sorts" (.ref l1) [])))))) l3 = some (.lst []) := (upd_ne n3).trans ((upd_ne (ne_of_none e33 h4)).trans e33)
    have ex4 : (upd (upd H3 l4 (.lst [])) x (.ins S dx (putF "own_rules" (.ref l4) (putF "own_makings" (.ref l3) (putF "own_words" (.ref l2) (putF "own_sorts" (.ref l1) [])))))) x = _ := upd_same
    generalize upd (upd H3 l4 (.lst [])) x (.ins S dx (putF "own_rules" (.ref l4) (putF "own_makings" (.ref l3) (putF "own_words" (.ref l2) (putF "own_sorts" (.ref l1) []))))) = H4 at S4 ex4 e14 e24 e34 e44
    refine ⟨_, rfl, rfl, fun l5 h5 => ?_⟩
    have n5 : l5 ≠ x := fun z => by
      rw [z, ex4] at h5
      cases h5
    refine ⟨_, rfl, x, S, dx, _, rfl, (upd_ne n5.symm).trans ex4, TC.cl, TC.n5, ?_, ?_⟩
    · have q1 := putF_len "own_sorts" (.ref l1) []
      have q2 := putF_len "own_words" (.ref l2) (putF "own_sorts" (.ref l1) [])
      have q3 := putF_len "own_makings" (.ref l3) (putF "own_words" (.ref l2) (putF "own_sorts" (.ref l1) []))
      have q4 := putF_len "own_rules" (.ref l4) (putF "own_makings" (.ref l3) (putF "own_words" (.ref l2) (putF "own_sorts" (.ref l1) [])))
      simp only [List.length_nil] at *
      omega
    have S5 := Sx (o := .ins S dx (putF "own_bars" (.ref l5) (putF "own_rules" (.ref l4) (putF "own_makings" (.ref l3) (putF "own_words" (.ref l2) (putF "own_sorts" (.ref l1) [])))))) (S4.trans (Same.upd (o := .lst []) h5))
    have e55 : (upd (upd H4 l5 (.lst [])) x (.ins S dx (putF "own_bars" (.ref l5) (putF "own_rules" (.ref l4) (putF "own_makings" (.ref l3) (putF "own_words" (.ref l2) (putF "own_sorts" (.ref l1) []))))))) l5 = some (.lst []) := (upd_ne n5).trans upd_same
    have e15 : (upd (upd H4 l5 (.lst [])) x (.ins S dx (putF "own_bars" (.ref l5) (putF "own_rules" (.ref l4) (putF "own_makings" (.ref l3) (putF "own_words" (.ref l2) (putF "own_sorts" (.ref l1) []))))))) l1 = some (.lst (ss.map V.str)) := (upd_ne n1).trans ((upd_ne (ne_of_none e14 h5)).trans e14)
    have e25 : (upd (upd H4 l5 (.lst [])) x (.ins S dx (putF "own_bars" (.ref l5) (putF "own_rules" (.ref l4) (putF "own_makings" (.ref l3) (putF "own_words" (.ref l2) (putF "own_sorts" (.ref l1) []))))))) l2 = some (.lst (ws.map V.str)) := (upd_ne n2).trans ((upd_ne (ne_of_none e24 h5)).trans e24)
    have e35 : (upd (upd H4 l5 (.lst [])) x (.ins S dx (putF "own_bars" (.ref l5) (putF "own_rules" (.ref l4) (putF "own_makings" (.ref l3) (putF "own_words" (.ref l2) (putF "own_sorts" (.ref l1) []))))))) l3 = some (.lst []) := (upd_ne n3).trans ((upd_ne (ne_of_none e34 h5)).trans e34)
    have e45 : (upd (upd H4 l5 (.lst [])) x (.ins S dx (putF "own_bars" (.ref l5) (putF "own_rules" (.ref l4) (putF "own_makings" (.ref l3) (putF "own_words" (.ref l2) (putF "own_sorts" (.ref l1) []))))))) l4 = some (.lst []) := (upd_ne n4).trans ((upd_ne (ne_of_none e44 h5)).trans e44)
    have ex5 : (upd (upd H4 l5 (.lst [])) x (.ins S dx (putF "own_bars" (.ref l5) (putF "own_rules" (.ref l4) (putF "own_makings" (.ref l3) (putF "own_words" (.ref l2) (putF "own_sorts" (.ref l1) []))))))) x = _ := upd_same
    generalize upd (upd H4 l5 (.lst [])) x (.ins S dx (putF "own_bars" (.ref l5) (putF "own_rules" (.ref l4) (putF "own_makings" (.ref l3) (putF "own_words" (.ref l2) (putF "own_sorts" (.ref l1) [])))))) = H5 at S5 ex5 e15 e25 e35 e45 e55
    have ex5 : H5 x = some (.ins S dx (schF l1 l2 l3 l4 l5)) := ex5
    have lkM : (schF l1 l2 l3 l4 l5).lookup ("own_makings" : Str) = some (.ref l3) := by
      unfold schF
      rw [lookN (by decide +kernel), lookN (by decide +kernel), lookF]
    have lkR : (schF l1 l2 l3 l4 l5).lookup ("own_rules" : Str) = some (.ref l4) := by
      unfold schF
      rw [lookN (by decide +kernel), lookF]
    have lkB : (schF l1 l2 l3 l4 l5).lookup ("own_bars" : Str) = some (.ref l5) := by
      unfold schF
      rw [lookF]
    refine ⟨_, rfl, x, S, dx, _, _, rfl, ex5, TC.cl, TC.n1, schF_so _ _ _ _ _, _, rfl, x, S, dx, _, _, rfl, ex5, TC.cl, TC.n2, schF_wo _ _ _ _ _, _, rfl, x, S, dx, _, _, rfl, ex5, TC.cl, TC.n3, lkM, _, rfl, x, S, dx, _, _, rfl, ex5, TC.cl, TC.n4, lkR, _, rfl, x, S, dx, _, _, rfl, ex5, TC.cl, TC.n5, lkB, ?_⟩
    exact ⟨l1, l2, l3, l4, l5, ss, ws, rfl, SqL.of e15, SqL.of e25, SqL.of e35, SqL.of e45, SqL.of e55, rs, rw', s1, s4, w1, w5, fun H6 S6 => k H6 (S5.trans S6) ⟨⟨dx, l1, l2, l3, l4, l5, S6 _ _ ex5, S6 _ _ e15, S6 _ _ e25⟩⟩⟩
theorem scSor : FnScope ["self"] ["self"] (defScope sSor) := ⟨rfl, rfl, rfl, by decide +kernel, rfl, by decide +kernel, by decide +kernel⟩
def spSor (S : Addr) : Sp := fun vs H Q _ => ∃ (x : Addr) (ss ws : List Str), vs = [.ref x] ∧ SchAt S H x ss ws ∧ ∀ l, H l = none → Q (.ref l) (upd H l (.lst (ss.map V.str)))
def spWor (S : Addr) : Sp := fun vs H Q _ => ∃ (x : Addr) (ss ws : List Str), vs = [.ref x] ∧ SchAt S H x ss ws ∧ ∀ l, H l = none → Q (.ref l) (upd H l (.lst (ws.map V.str)))
theorem ok_sor {f S fS : Addr} {fd : FuncData} (F : Fun K "sorts" "Scheme.sorts" sSor f fd) (tl : mg "list" = none) (TC : TxSch K mg S fS) : FnOk P w K mg base CX0 1 f fd ["self"] (spSor S) := by
  refine F.ok scSor (fun vs H Q E h => ?_) (fun cdv A outer s H vs Q E hr h => ?_)
  · obtain ⟨x, ss, ws, rfl, _⟩ := h
    rfl
  · obtain ⟨x, ss, ws, rfl, hx, k⟩ := h
    obtain ⟨dx, l1, l2, l3, l4, l5, hx, h1, h2⟩ := hx.ex
    refine ⟨_, (pss_one (ps_ret (pe_callTy call_list_of (by rfl) tl (by decide +kernel) (pa_cons (pe_fld (pv 0) rfl) pa_nil)))), ?_⟩
    exact ⟨_, rfl, x, S, dx, _, _, rfl, hx, TC.cl, TC.n1, schF_so _ _ _ _ _, l1, _, rfl, .inl (SqL.of h1), fun l hl => k l hl⟩
theorem scWor : FnScope ["self"] ["self"] (defScope sWor) := ⟨rfl, rfl, rfl, by decide +kernel, rfl, by decide +kernel, by decide +kernel⟩
theorem ok_wor {f S fS : Addr} {fd : FuncData} (F : Fun K "words" "Scheme.words" sWor f fd) (tl : mg "list" = none) (TC : TxSch K mg S fS) : FnOk P w K mg base CX0 1 f fd ["self"] (spWor S) := by
  refine F.ok scWor (fun vs H Q E h => ?_) (fun cdv A outer s H vs Q E hr h => ?_)
  · obtain ⟨x, ss, ws, rfl, _⟩ := h
    rfl
  · obtain ⟨x, ss, ws, rfl, hx, k⟩ := h
    obtain ⟨dx, l1, l2, l3, l4, l5, hx, h1, h2⟩ := hx.ex
    refine ⟨_, (pss_one (ps_ret (pe_callTy call_list_of (by rfl) tl (by decide +kernel) (pa_cons (pe_fld (pv 0) rfl) pa_nil)))), ?_⟩
    exact ⟨_, rfl, x, S, dx, _, _, rfl, hx, TC.cl, TC.n2, schF_wo _ _ _ _ _, l2, _, rfl, .inl (SqL.of h2), fun l hl => k l hl⟩
end
end Wm
namespace Wm
open PySem L2
/-- all that was tracked is as it was, but at p and q -/
def Bt (p q : Addr) (H H' : Hp) : Prop := ∀ a o, a ≠ p → a ≠ q → H a = some o → H' a = some o
theorem Bt.refl (p q : Addr) (H : Hp) : Bt p q H H := fun _ _ _ _ h => h
theorem Bt.trans {p q : Addr} {H H1 H2 : Hp} (a : Bt p q H H1) (b : Bt p q H1 H2) : Bt p q H H2 := fun x o n m h => b x o n m (a x o n m h)
theorem Same.bt {p q : Addr} {H H1 : Hp} (a : Same H H1) : Bt p q H H1 := fun x o _ _ h => a x o h
theorem Bt.updq {p q : Addr} {H : Hp} {o : HO} : Bt p q H (upd H q o) := fun x u _ m h => by rw [upd_ne m]; exact h
theorem Bt.updp {p q : Addr} {H : Hp} {o : HO} : Bt p q H (upd H p o) := fun x u n _ h => by rw [upd_ne n]; exact h
theorem Bt.new {p q d : Addr} {H H1 : Hp} {o : HO} (b : Bt p q H H1) (h0 : H d = none) : Bt p q H (upd H1 d o) := fun x u n m e => by
  rw [upd_ne (ne_of_none e h0)]
  exact b x u n m e
theorem Bt.free {p q d : Addr} {H H' : Hp} (b : Bt p q H H') (n : d ≠ p) (m : d ≠ q) (h : H' d = none) : H d = none := by
  cases e : H d with
  | none => rfl
  | some o =>
    rw [b d o n m e] at h
    cases h
/-- the pot: large numbers, how many were drawn, the cells -/
structure PotAt (H : Hp) (p q r : Addr) (n : Nat) : Prop where
  ex : ∃ (k : Nat) (xs ys : List Int), H p = some (.lst [.ref q, .int k, .ref r]) ∧ H q = some (.lst (xs.map V.int)) ∧ H r = some (.lst (ys.map V.int)) ∧ k ≤ n ∧ (∀ x ∈ xs, 0 ≤ x) ∧ ys ≠ [] ∧ xs.length ≤ 100 ∧ ys.length ≤ 100
  pq : p ≠ q
  pr : p ≠ r
  qr : q ≠ r
theorem PotAt.same {H H' : Hp} {p q r : Addr} {n : Nat} (s : Same H H') (h : PotAt H p q r n) : PotAt H' p q r n := by
  obtain ⟨k, xs, ys, a, b, c, d⟩ := h.ex
  exact ⟨⟨k, xs, ys, s _ _ a, s _ _ b, s _ _ c, d⟩, h.pq, h.pr, h.qr⟩
theorem PotAt.mono {H : Hp} {p q r : Addr} {n m : Nat} (le : n ≤ m) (h : PotAt H p q r n) : PotAt H p q r m := by
  obtain ⟨k, xs, ys, a, b, c, d, e⟩ := h.ex
  exact ⟨⟨k, xs, ys, a, b, c, Nat.le_trans d le, e⟩, h.pq, h.pr, h.qr⟩
theorem PotAt.ne {H : Hp} {p q r d : Addr} {n : Nat} (h : PotAt H p q r n) (e : H d = none) : d ≠ p ∧ d ≠ q ∧ d ≠ r := by
  obtain ⟨k, xs, ys, a, b, c, _⟩ := h.ex
  exact ⟨(ne_of_none a e).symm, (ne_of_none b e).symm, (ne_of_none c e).symm⟩
theorem PotAt.upd {H : Hp} {p q r d : Addr} {n : Nat} {o : HO} (h : PotAt H p q r n) (n1 : d ≠ p) (n2 : d ≠ q) (n3 : d ≠ r) : PotAt (L2.upd H d o) p q r n := by
  obtain ⟨k, xs, ys, a, b, c, e⟩ := h.ex
  exact ⟨⟨k, xs, ys, by rw [upd_ne n1.symm]; exact a, by rw [upd_ne n2.symm]; exact b, by rw [upd_ne n3.symm]; exact c, e⟩, h.pq, h.pr, h.qr⟩
def spMix : Sp := fun vs H Q _ => ∃ (c : Int) (k : Nat), vs = [.int c, .int k] ∧ k ≤ 1000000 ∧ ∀ d : Int, 0 ≤ d → d < 2147483399 → Q (.int d) H
def spTak : Sp := fun vs H Q _ => ∃ (p q r : Addr) (n : Nat) (m : Int), vs = [.ref p, .int m] ∧ PotAt H p q r n ∧ n ≤ 100000 ∧ 0 < m ∧ m < 1073741824 ∧ ∀ (d : Int) H', 0 ≤ d → d < m → Bt p q H H' → PotAt H' p q r (n + 1) → Q (.int d) H'
theorem dp_ints {K : PySem.W.Frag} {H : Hp} : ∀ zs : List Int, DpAll K H (zs.map V.int) (zs.map PyData.int)
  | [] => .nil
  | z :: r => .cons (.int z) (dp_ints r)
theorem lay_ints : ∀ zs : List Int, PyData.canLayAll0 (zs.map PyData.int) = true ∧ PyData.depthAll (zs.map PyData.int) ≤ 1
  | [] => by simp [PyData.canLayAll0, PyData.depthAll]
  | z :: r => by
    obtain ⟨h2, h3⟩ := lay_ints r
    refine ⟨by simp only [List.map_cons, PyData.canLayAll0, PyData.canLay0, h2, Bool.and_self], ?_⟩
    simp [PyData.depthAll, PyData.depth]
    omega
theorem shaped_ints (zs : List Int) : SeqAt.shaped (.list (zs.map PyData.int)) = true := by
  obtain ⟨h1, h2⟩ := lay_ints zs
  simp [SeqAt.shaped, PyData.canLay0, PyData.depth, h1]
  omega
theorem eqv_nil_ints (zs : List Int) : PyData.eqv (.list (zs.map PyData.int)) (.list []) = decide (zs = []) := by
  cases zs with
  | nil => decide +kernel
  | cons a r => simp [PyData.eqv, PyData.eqvAll]
def lenAt (q : Addr) (H : Hp) : Nat := match H q with
  | some (.lst xs) => xs.length
  | _ => 0
def spPot (K : PySem.W.Frag) : Sp := fun vs H Q _ => ∃ (a : Addr) (ns : List Int), vs = [.ref a] ∧ SqL K H a (ns.map V.int) ∧ ns.length ≤ 63 ∧ ∀ p q r H', H p = none → H q = none → H r = none → Same H H' → PotAt H' p q r 0 → Q (.ref p) H'
theorem cut1 {a R : TS} {D : Ends} {σ : L2.St} {H : Hp} (Good : L2.St → Hp → Prop) (fin : ∀ σ' H', Good σ' H' → R D σ' H') (h : ∀ R' : TS, (∀ σ' H', Good σ' H' → R' D σ' H') → tSeq a R' D σ H) : tSeq a R D σ H := h R fin
section
variable {P : Program} {w : World} {K : PySem.W.Frag} {mg : Str → Option Value} {base : Heap}
theorem scMix : FnScope ["_law_cell", "_law_k", "_law_number"] ["_law_cell", "_law_k"] (defScope sMix) := ⟨rfl, rfl, rfl, by decide +kernel, rfl, by decide +kernel, by decide +kernel⟩
theorem ok_mix {f : Addr} {fd : FuncData} (F : Fun K "_law_mixed" "_law_mixed" sMix f fd) : FnOk P w K mg base CX0 1 f fd ["_law_cell", "_law_k"] spMix := by
  refine F.ok scMix (fun vs H Q E h => ?_) (fun cdv A outer s H vs Q E hr h => ?_)
  · obtain ⟨c, k, rfl, _⟩ := h
    rfl
  · obtain ⟨c, k, rfl, hk, kk⟩ := h
    have k0 : (0 : Int) ≤ (k : Int) := by omega
    have k1 : (k : Int) ≤ 1000000 := by omega
    have kk0 : (0 : Int) ≤ (k : Int) * k := Int.mul_nonneg k0 k0
    have kk1 : (k : Int) * k ≤ 1000000 * 1000000 := Int.mul_le_mul k1 k1 k0 (by decide)
    refine ⟨_, (pss_cons (ps_set (i := 2) scMix.nd rfl (Or.inl rfl) (pe_op op_mod (pe_op op_mul (pe_op op_add (pv 0) pe_int) (pe_op op_add (pe_op op_mul (pv 1) (pv 1)) pe_int)) pe_int))
      (pss_cons (ps_set (i := 2) scMix.nd rfl (Or.inl rfl) (pe_op op_mod (pe_op op_pow (pe_op op_add (pe_op op_add (pv 2) (pe_op op_mul pe_int (pv 1))) pe_int) pe_int) pe_int))
      (pss_cons (ps_set (i := 2) scMix.nd rfl (Or.inl rfl) (pe_op op_mod (pe_op op_mul (pv 2) (pe_op op_add (pe_op op_add (pe_op op_fdiv (pv 2) pe_int) pe_int) (pe_op op_mul pe_int (pv 1)))) pe_int))
      (pss_one (ps_ret (pe_op op_mod (pe_op op_mul (pv 2) (pe_op op_add (pe_op op_fdiv (pv 2) pe_int) pe_int)) pe_int)))))), ?_⟩
    refine ⟨_, rfl, _, _, rfl, rfl, _, rfl, _, rfl, _, _, rfl, rfl, .inl ⟨by omega, by omega⟩, _, _, rfl, rfl, _, _, rfl, rfl, .inr ⟨by omega, by omega⟩, _, _, rfl, rfl, (show (0 : Int) < 2147483647 by decide), ?_⟩
    dsimp only [List.set_cons_succ, List.set_cons_zero]
    generalize ha : (c + 1) * ((k : Int) * k + 48271) % 2147483647 = a
    have a0 : 0 ≤ a := by rw [← ha]; exact Int.emod_nonneg _ (by decide)
    have a1 : a < 2147483647 := by rw [← ha]; exact Int.emod_lt_of_pos _ (by decide)
    refine ⟨_, rfl, _, rfl, _, _, rfl, rfl, .inl ⟨by omega, by omega⟩, _, _, rfl, rfl, _, _, rfl, rfl, _, _, rfl, rfl, ⟨by decide, by decide, by omega⟩, _, _, rfl, rfl, (show (0 : Int) < 2147483399 by decide), ?_⟩
    dsimp only [List.set_cons_succ, List.set_cons_zero]
    generalize hb : (a + 7919 * (k : Int) + 1) ^ Int.toNat 5 % 2147483399 = b
    have b0 : 0 ≤ b := by rw [← hb]; exact Int.emod_nonneg _ (by decide)
    have b1 : b < 2147483399 := by rw [← hb]; exact Int.emod_lt_of_pos _ (by decide)
    refine ⟨_, rfl, _, rfl, _, _, rfl, rfl, ⟨by decide, by decide⟩, _, _, rfl, rfl, _, rfl, _, _, rfl, rfl, .inl ⟨by omega, by omega⟩, _, _, rfl, rfl, _, _, rfl, rfl, .inl ⟨by omega, by omega⟩, _, _, rfl, rfl, (show (0 : Int) < 2147483647 by decide), ?_⟩
    dsimp only [List.set_cons_succ, List.set_cons_zero]
    generalize hc : b * (b / 1009 + 69621 + 2 * (k : Int)) % 2147483647 = c'
    have c0 : 0 ≤ c' := by rw [← hc]; exact Int.emod_nonneg _ (by decide)
    have c1 : c' < 2147483647 := by rw [← hc]; exact Int.emod_lt_of_pos _ (by decide)
    refine ⟨_, rfl, _, rfl, _, _, rfl, rfl, ⟨by decide, by decide⟩, _, _, rfl, rfl, _, _, rfl, rfl, .inl ⟨by omega, by omega⟩, _, _, rfl, rfl, (show (0 : Int) < 2147483399 by decide), ?_⟩
    exact kk _ (Int.emod_nonneg _ (by decide)) (Int.emod_lt_of_pos _ (by decide))
theorem scTak : FnScope ["_law_pot_here", "_law_many", "_law_found_here"] ["_law_pot_here", "_law_many"] (defScope sTak) := ⟨rfl, rfl, rfl, by decide +kernel, rfl, by decide +kernel, by decide +kernel⟩
theorem ok_tak {f fM : Addr} {fd dM : FuncData} (F : Fun K "_law_take" "_law_take" sTak f fd) (T : TxB mg) (DM : Dn K mg "_law_mixed" sMix ["_law_cell", "_law_k"] fM dM) : FnOk P w K mg base CX0 2 f fd ["_law_pot_here", "_law_many"] spTak := by
  have GM : FnOk P w K mg base CX0 1 fM dM _ spMix := ok_mix DM.F
  refine F.ok scTak (fun vs H Q E h => ?_) (fun cdv A outer s H vs Q E hr h => ?_)
  · obtain ⟨p, q, r, n, m, rfl, _⟩ := h
    rfl
  · obtain ⟨p, q, r, n, m, rfl, hP, hn, m0, m1, k⟩ := h
    have hr1 : Room 1 _ := hr
    refine ⟨_, (pss_cons (ps_while PassesOwn.never (PW.pt (pw_and (pt_cmpR (op_neD hr.units) (pe_ix ix_list (pv 0) pe_int (fun _ _ => rfl)) (pe_lst pa_nil) (nomark _)) (pw_and1 (pt_cmpR op_eq (pe_ix ix_list (pe_ix ix_list (pv 0) pe_int (fun _ _ => rfl)) pe_int (fun _ _ => rfl)) pe_int (nomark _))))) (pss_one (ps_expr (pe_bm PySem.F.plainAttrs_list PySem.F.slot_list_pop PySem.F.type_list_pop mt_popAt (pe_ix ix_list (pv 0) pe_int (fun _ _ => rfl)) (pa_cons pe_int pa_nil)))))
      (pss_cons (ps_if (pt_cmpR (op_neD hr.units) (pe_ix ix_list (pv 0) pe_int (fun _ _ => rfl)) (pe_lst pa_nil) (nomark _)) (pss_cons (ps_set (i := 2) scTak.nd rfl (Or.inl rfl) (pe_op op_mod (pe_ix ix_list (pe_ix ix_list (pv 0) pe_int (fun _ _ => rfl)) pe_int (fun _ _ => rfl)) (pv 1)))
      (pss_cons (ps_asg (pe_op op_fdiv (pe_ix ix_list (pe_ix ix_list (pv 0) pe_int (fun _ _ => rfl)) pe_int (fun _ _ => rfl)) (pv 1)) (pg_sub (pe_ix ix_list (pv 0) pe_int (fun _ _ => rfl)) pe_int set_list))
      (pss_one (ps_ret (pv 2))))) pss_nil)
      (pss_cons (ps_asg (pe_op op_add (pe_ix ix_list (pv 0) pe_int (fun _ _ => rfl)) pe_int) (pg_sub (pv 0) pe_int set_list))
      (pss_one (ps_ret (pe_op op_mod (pe_call GM hr1 rfl DM.g DM.F.kp DM.b .nil pass0 (pa_cons (pe_ix ix_list (pe_ix ix_list (pv 0) pe_int (fun _ _ => rfl)) (pe_op op_mod (pe_ix ix_list (pv 0) pe_int (fun _ _ => rfl)) (pe_callB call_len_seq (by rfl) T.len (by decide +kernel) (pa_cons (pe_ix ix_list (pv 0) pe_int (fun _ _ => rfl)) pa_nil))) (fun _ _ => rfl)) (pa_cons (pe_ix ix_list (pv 0) pe_int (fun _ _ => rfl)) pa_nil))) (pv 1))))))), ?_⟩
    refine while_by (fun σ H' => σ = [some (.ref p), some (.int m), none] ∧ PotAt H' p q r n ∧ Bt p q H H') (fun _ H' => lenAt q H') ⟨rfl, hP, Bt.refl _ _ _⟩ ?_ ?_
    · rintro σ H1 ⟨rfl, P1, B1⟩
      obtain ⟨kc, xs, ys, e1, e2, e3, hk, hx, hy, x100, y100⟩ := P1.ex
      refine ⟨_, rfl, ?_⟩
      dsimp only [tC]
      refine rdList e1 (j := 0) (v := .ref q) rfl rfl ?_
      refine ⟨Nat.zero_le _, fun l hl => ?_⟩
      have SL : Same H1 (upd H1 l (.lst [])) := Same.upd hl
      have el : (upd H1 l (.lst [])) l = some (.lst []) := upd_same
      have P2 := P1.same SL
      have lenE : lenAt q (upd H1 l (.lst [])) = lenAt q H1 := by
        unfold lenAt
        rw [SL _ _ e2, e2]
      generalize upd H1 l (.lst []) = H2 at SL el P2 lenE
      have e1' := SL _ _ e1
      have e2' := SL _ _ e2
      have e3' := SL _ _ e3
      refine ⟨_, _, .lst (SqL.of e2') (dp_ints xs), .lst (SqL.of el) .nil, shaped_ints xs, by decide +kernel, _, rfl, ?_⟩
      rw [eqv_nil_ints]
      have B2 : Bt p q H H2 := B1.trans (Same.bt SL)
      by_cases hxs : xs = []
      · subst hxs
        rw [decide_eq_true rfl]
        refine iteF ?_
        refine iteF ?_
        -- no large number is left
        refine ⟨_, rfl, ?_⟩
        dsimp only [tC]
        refine rdList e1' (j := 0) (v := .ref q) rfl rfl ?_
        refine ⟨Nat.zero_le _, fun l3 hl3 => ?_⟩
        have S3 : Same H2 (upd H2 l3 (.lst [])) := Same.upd hl3
        have el3 : (upd H2 l3 (.lst [])) l3 = some (.lst []) := upd_same
        have P3 := P2.same S3
        generalize upd H2 l3 (.lst []) = H3 at S3 el3 P3
        refine ⟨_, _, .lst (SqL.of (S3 _ _ e2')) (dp_ints []), .lst (SqL.of el3) .nil, by decide +kernel, by decide +kernel, _, rfl, ?_⟩
        rw [show PyData.eqv (.list (([] : List Int).map PyData.int)) (.list []) = true by decide +kernel]
        refine iteF ?_
        have e13 := S3 _ _ e1'
        have e23 := S3 _ _ e2'
        have e33 := S3 _ _ e3'
        refine ⟨_, rfl, ?_⟩
        dsimp only [tC]
        refine rdList e13 (j := 1) (v := .int kc) rfl rfl ?_
        refine ⟨_, _, rfl, rfl, ?_⟩
        refine ⟨_, rfl, p, _, _, 1, rfl, rfl, e13, rfl, ?_⟩
        have B4 : Bt p q H (upd H3 p (.lst [.ref q, .int (kc + 1), .ref r])) := (B2.trans (Same.bt S3)).trans Bt.updp
        have f1 : (upd H3 p (.lst [.ref q, .int ((kc : Int) + 1), .ref r])) p = some (.lst [.ref q, .int ((kc + 1 : Nat) : Int), .ref r]) := upd_same
        have f2 : (upd H3 p (.lst [.ref q, .int ((kc : Int) + 1), .ref r])) q = some (.lst (([] : List Int).map V.int)) := (upd_ne P1.pq.symm).trans e23
        have f3 : (upd H3 p (.lst [.ref q, .int ((kc : Int) + 1), .ref r])) r = some (.lst (ys.map V.int)) := (upd_ne P1.pr.symm).trans e33
        show tRet _ _ _ (upd H3 p (.lst [.ref q, .int ((kc : Int) + 1), .ref r]))
        have B4 : Bt p q H (upd H3 p (.lst [.ref q, .int ((kc : Int) + 1), .ref r])) := (B2.trans (Same.bt S3)).trans Bt.updp
        generalize upd H3 p (.lst [.ref q, .int ((kc : Int) + 1), .ref r]) = H4 at B4 f1 f2 f3
        have P4 : PotAt H4 p q r (n + 1) := ⟨⟨kc + 1, [], ys, f1, f2, f3, by omega, hx, hy, by simp, y100⟩, P1.pq, P1.pr, P1.qr⟩
        have ypos : 0 < ys.length := List.length_pos_iff.mpr hy
        refine ⟨_, rfl, ?_⟩
        dsimp only [tC]
        refine rdList f1 (j := 2) (v := .ref r) rfl rfl ?_
        refine ⟨_, rfl, ?_⟩
        dsimp only [tC]
        refine rdList f1 (j := 1) (v := .int ((kc + 1 : Nat) : Int)) rfl rfl ?_
        refine ⟨_, rfl, ?_⟩
        dsimp only [tC]
        refine rdList f1 (j := 2) (v := .ref r) rfl rfl ?_
        refine ⟨r, _, rfl, .inl (SqL.of f3), _, _, rfl, rfl, (show (0 : Int) < _ by rw [List.length_map]; omega), ?_⟩
        have jlt : (kc + 1) % ys.length < ys.length := Nat.mod_lt _ ypos
        refine rdList f3 (j := (kc + 1) % ys.length) (v := .int (ys[(kc + 1) % ys.length]'jlt)) (by rw [List.length_map]; omega) (by rw [List.getElem?_map, List.getElem?_eq_getElem jlt]; rfl) ?_
        refine ⟨_, rfl, ?_⟩
        dsimp only [tC]
        refine rdList f1 (j := 1) (v := .int ((kc + 1 : Nat) : Int)) rfl rfl ?_
        refine ⟨_, kc + 1, rfl, by omega, fun d d0 d1 => ?_⟩
        refine ⟨_, rfl, _, _, rfl, rfl, m0, ?_⟩
        exact k _ _ (Int.emod_nonneg _ (by omega)) (Int.emod_lt_of_pos _ m0) B4 P4
      · rw [decide_eq_false hxs]
        refine iteT ?_
        obtain ⟨x0, xr, rfl⟩ : ∃ x0 xr, xs = x0 :: xr := by
          cases xs with
          | nil => exact absurd rfl hxs
          | cons a b => exact ⟨a, b, rfl⟩
        refine ⟨_, rfl, ?_⟩
        dsimp only [tC]
        refine rdList e1' (j := 0) (v := .ref q) rfl rfl ?_
        refine rdList e2' (j := 0) (v := .int x0) rfl rfl ?_
        refine ⟨rfl, _, rfl, ?_⟩
        refine ite2 (fun z => ?_) (fun z => ?_)
        · -- a nought goes
          refine ⟨_, rfl, ?_⟩
          dsimp only [tC]
          refine rdList e1' (j := 0) (v := .ref q) rfl rfl ?_
          have sq : seqIndex? 0 ((x0 :: xr).map V.int).length = some 0 := by
            unfold seqIndex?
            simp
          refine ⟨.inl ⟨rfl, _, SqL.of e2'⟩, q, _, 0, 0, .int x0, rfl, rfl, e2', by decide, by decide, sq, rfl, ?_⟩
          have f1 : (upd H2 q (.lst (xr.map V.int))) p = _ := (upd_ne P1.pq).trans e1'
          have f3 : (upd H2 q (.lst (xr.map V.int))) r = _ := (upd_ne P1.qr.symm).trans e3'
          refine ⟨⟨rfl, ⟨⟨kc, xr, ys, f1, upd_same, f3, hk, fun x hxm => hx x (List.mem_cons_of_mem _ hxm), hy, by simp at x100; omega, y100⟩, P1.pq, P1.pr, P1.qr⟩, B2.trans Bt.updq⟩, ?_⟩
          show lenAt q (upd H2 q (.lst (xr.map V.int))) < lenAt q H1
          unfold lenAt
          rw [upd_same, e2]
          simp
        · -- a large number is used
          have x0p : 0 < x0 := by
            have a := hx x0 List.mem_cons_self
            have b : x0 ≠ 0 := fun e => z (by rw [e]; rfl)
            omega
          refine ⟨_, rfl, ?_⟩
          dsimp only [tC]
          refine rdList e1' (j := 0) (v := .ref q) rfl rfl ?_
          refine ⟨Nat.zero_le _, fun l3 hl3 => ?_⟩
          have S3 : Same H2 (upd H2 l3 (.lst [])) := Same.upd hl3
          have el3 : (upd H2 l3 (.lst [])) l3 = some (.lst []) := upd_same
          generalize upd H2 l3 (.lst []) = H3 at S3 el3
          refine ⟨_, _, .lst (SqL.of (S3 _ _ e2')) (dp_ints _), .lst (SqL.of el3) .nil, shaped_ints _, by decide +kernel, _, rfl, ?_⟩
          rw [eqv_nil_ints, decide_eq_false hxs]
          refine iteT ?_
          have e13 := S3 _ _ e1'
          have e23 := S3 _ _ e2'
          have e33 := S3 _ _ e3'
          refine ⟨_, rfl, ?_⟩
          dsimp only [tC]
          refine rdList e13 (j := 0) (v := .ref q) rfl rfl ?_
          refine rdList e23 (j := 0) (v := .int x0) rfl rfl ?_
          refine ⟨_, rfl, _, _, rfl, rfl, m0, ?_⟩
          dsimp only [List.set_cons_succ, List.set_cons_zero]
          refine ⟨_, rfl, ?_⟩
          dsimp only [tC]
          refine rdList e13 (j := 0) (v := .ref q) rfl rfl ?_
          refine rdList e23 (j := 0) (v := .int x0) rfl rfl ?_
          refine ⟨_, rfl, _, _, rfl, rfl, ⟨m0, m1⟩, ?_⟩
          refine ⟨_, rfl, ?_⟩
          dsimp only [tC]
          refine rdList e13 (j := 0) (v := .ref q) rfl rfl ?_
          have ix : ixN ((x0 :: xr).map V.int).length 0 = some 0 := by
            unfold ixN
            simp
          refine ⟨q, _, _, 0, rfl, rfl, e23, ix, ?_⟩
          refine ⟨_, rfl, ?_⟩
          have f1 : (upd H3 q (.lst ((x0 / m :: xr).map V.int))) p = _ := (upd_ne P1.pq).trans e13
          have f3 : (upd H3 q (.lst ((x0 / m :: xr).map V.int))) r = _ := (upd_ne P1.qr.symm).trans e33
          refine k _ _ (Int.emod_nonneg _ (by omega)) (Int.emod_lt_of_pos _ m0) ((B2.trans (Same.bt S3)).trans Bt.updq) ⟨⟨kc, x0 / m :: xr, ys, f1, upd_same, f3, by omega, fun x hxm => ?_, hy, x100, y100⟩, P1.pq, P1.pr, P1.qr⟩
          rcases List.mem_cons.mp hxm with e | e
          · rw [e]
            exact Int.ediv_nonneg (by omega) (by omega)
          · exact hx x (List.mem_cons_of_mem _ e)
    · intro σ H' Q1 Q2 f h
      obtain ⟨v, e0, p1, xs1, i1, v1, a1, a2, a3, a4, sz, h⟩ := h
      refine ⟨v, e0, p1, xs1, i1, v1, a1, a2, a3, a4, sz, fun d hd => ?_⟩
      obtain ⟨d1, d2, b1, b2, b3, b4, kb, ek, h2⟩ := h d hd
      refine ⟨d1, d2, b1, b2, b3, b4, kb, ek, ?_⟩
      cases kb with
      | false => exact f _ _ h2
      | true =>
        obtain ⟨w0, e1, p2, xs2, i2, w2, c1, c2, c3, c4, p3, xs3, i3, w3, g1, g2, g3, g4, fl, kc, ec, q⟩ := h2
        exact ⟨w0, e1, p2, xs2, i2, w2, c1, c2, c3, c4, p3, xs3, i3, w3, g1, g2, g3, g4, fl, kc, ec, f _ _ q⟩
theorem scPot : FnScope ["_law_script", "_law_cells", "_law_cell"] ["_law_script"] (defScope sPot) := ⟨rfl, rfl, rfl, by decide +kernel, rfl, by decide +kernel, by decide +kernel⟩
theorem ok_pot {f : Addr} {fd : FuncData} (F : Fun K "_law_pot" "_law_pot" sPot f fd) (T : TxB mg) (tl : mg "list" = none) : FnOk P w K mg base CX0 1 f fd ["_law_script"] (spPot K) := by
  refine F.ok scPot (fun vs H Q E h => ?_) (fun cdv A outer s H vs Q E hr h => ?_)
  · obtain ⟨a, ns, rfl, _⟩ := h
    rfl
  · obtain ⟨a, ns, rfl, hA, hlen, k⟩ := h
    refine ⟨_, (pss_cons (ps_set (i := 1) scPot.nd rfl (Or.inl rfl) (pe_callTy call_list_of (by rfl) tl (by decide +kernel) (pa_cons (pe_slice sl_list (pv 0) po_none (po_some pe_int)) pa_nil)))
      (pss_cons (ps_if (pt_cmpR (op_eqD hr.units) (pv 1) (pe_lst pa_nil) (nomark _)) (pss_one (ps_set (i := 1) scPot.nd rfl (Or.inl rfl) (pe_lst (pa_cons pe_int pa_nil)))) pss_nil)
      (pss_one (ps_ret (pe_lst (pa_cons (pe_lc (own := [("_law_cell", 2)]) (g := gName 2) rfl scPot.nd (pi_list (pv 1)) (blkOk_by (N := ["_law_script", "_law_cells", "_law_cell"]) (sc := defScope sPot) (by decide +kernel)) (fun _ _ _ _ _ => (pg_name (i := 2) scPot.nd rfl (Or.inl rfl))) (fun _ _ _ _ _ => (pts_one (pt_cmpR op_ge (pe_callB call_abs (by rfl) T.abs (by decide +kernel) (pa_cons (pv 2) pa_nil)) (pe_op op_pow pe_int pe_int) (nomark _)))) (fun _ _ _ _ _ => (pe_callB call_abs (by rfl) T.abs (by decide +kernel) (pa_cons (pv 2) pa_nil)))) (pa_cons pe_int (pa_cons (pv 1) pa_nil)))))))), ?_⟩
    refine ⟨_, rfl, _, rfl, a, _, rfl, hA, fun l1 n1 => ?_⟩
    rw [show cutV (ns.map V.int) none (some 63) = (ns.take 63).map V.int by rw [List.map_take]; exact cut_take _ 63]
    rw [List.take_of_length_le hlen]
    refine ⟨l1, _, rfl, .inl (SqL.of upd_same), fun l2 n2 => ?_⟩
    dsimp only [List.set_cons_succ, List.set_cons_zero]
    have S2 : Same H (upd (upd H l1 (.lst (ns.map V.int))) l2 (.lst (ns.map V.int))) := (Same.upd n1).trans (Same.upd n2)
    have f2 : H l2 = none := (Same.upd (o := .lst (ns.map V.int)) n1).free n2
    have e2 : (upd (upd H l1 (.lst (ns.map V.int))) l2 (.lst (ns.map V.int))) l2 = some (.lst (ns.map V.int)) := upd_same
    generalize upd (upd H l1 (.lst (ns.map V.int))) l2 (.lst (ns.map V.int)) = H2 at S2 e2
    refine cut1 (fun σ' H' => ∃ (l : Addr) (ys : List Int), σ' = [some (.ref a), some (.ref l), none] ∧ H l = none ∧ Same H H' ∧ H' l = some (.lst (ys.map V.int)) ∧ ys ≠ [] ∧ ys.length ≤ 100) ?_ (fun R' fin => ?_)
    · rintro σ' H3 ⟨l, ys, rfl, fl, S3, el, yne, y100⟩
      refine ⟨_, rfl, l, rfl, ⟨_, SqL.of el⟩, fun D hD => ?_⟩
      have nlD : l ≠ D := ne_of_none el hD
      refine lc_list (K := K) (a := l) (xs := ys.map V.int) (fun i H' => Same H3 H' ∧ ∃ xs : List Int, H' D = some (.lst (xs.map V.int)) ∧ xs.length ≤ i ∧ ∀ x ∈ xs, 0 ≤ x) ⟨Same.upd hD, [], upd_same, Nat.le_refl _, fun x hx => (List.not_mem_nil hx).elim⟩ (fun i H' _ p => SqL.of (p.1 _ _ el)) ?_ ?_
      · rintro i x H' hi ⟨hS, xs, hx, xl, xp⟩
        rw [List.getElem?_map] at hi
        obtain ⟨c, hc, rfl⟩ := Option.map_eq_some_iff.mp hi
        have il : i < ys.length := (List.getElem?_eq_some_iff.mp hc).1
        refine ⟨rfl, ?_⟩
        refine ⟨_, rfl, _, rfl, _, _, rfl, rfl, ⟨by decide, by decide, by decide⟩, _, _, rfl, rfl, _, rfl, ?_⟩
        refine ite2 (fun _ => ?_) (fun _ => ?_)
        · refine ⟨_, rfl, _, rfl, _, hx, ?_, ?_, ?_⟩
          · rw [List.length_map]
            exact Nat.lt_of_le_of_lt (show xs.length ≤ 100 by omega) (by decide)
          · intro b o h
            rw [upd_ne (ne_of_none h hD)]
            exact hS b o h
          · refine ⟨xs ++ [if c < 0 then -c else c], by rw [upd_same, List.map_append]; rfl, by rw [List.length_append, List.length_singleton]; omega, fun x hx' => ?_⟩
            rcases List.mem_append.mp hx' with q | q
            · exact xp x q
            · rw [List.mem_singleton.mp q]
              split <;> omega
        · exact ⟨hS, xs, hx, by omega, xp⟩
      · rintro H4 ⟨S4, xs, hx, xl, xp⟩
        rw [List.length_map] at xl
        refine ⟨_, rfl, by show 3 ≤ sizeLine; decide, fun pp np => ?_⟩
        have S5 : Same H4 (upd H4 pp (.lst [.ref D, .int 0, .ref l])) := Same.upd np
        exact k pp D l _ (S3.free (S4.free np)) (S3.free hD) fl ((S3.trans S4).trans S5) ⟨⟨0, xs, ys, upd_same, S5 _ _ hx, S5 _ _ (S4 _ _ el), Nat.le_refl _, xp, yne, by omega, y100⟩, (ne_of_none hx np).symm, (ne_of_none (S4 _ _ el) np).symm, nlD.symm⟩
    refine ⟨_, rfl, Nat.zero_le _, fun l3 n3 => ?_⟩
    have S3 : Same H2 (upd H2 l3 (.lst [])) := Same.upd n3
    have e3 : (upd H2 l3 (.lst [])) l3 = some (.lst []) := upd_same
    generalize upd H2 l3 (.lst []) = H3 at S3 e3
    refine ⟨_, _, .lst (SqL.of (S3 _ _ e2)) (dp_ints _), .lst (SqL.of e3) .nil, shaped_ints _, by decide +kernel, _, rfl, ?_⟩
    rw [eqv_nil_ints]
    by_cases hns : ns = []
    · rw [decide_eq_true hns]
      refine iteT ?_
      refine ⟨by show 1 ≤ sizeLine; decide, fun l4 n4 => ?_⟩
      exact fin _ _ ⟨l4, [0], rfl, (S2.trans S3).free n4, (S2.trans S3).trans (Same.upd n4), upd_same, by simp, by decide⟩
    · rw [decide_eq_false hns]
      refine iteF ?_
      exact fin _ _ ⟨l2, ns, rfl, f2, S2.trans S3, S3 _ _ e2, hns, by omega⟩
end
end Wm
namespace Wm
open PySem L2
def abcZ : Str := PySem.Str.ofString "abcdefghijklmnopqrstuvwxyz0123456789"
def sg (j : Nat) : Nat := abcZ.cps.toList.getD j 0
theorem sg_inj0 : ∀ i j : Fin 36, sg i.1 = sg j.1 → i = j := by decide +kernel
theorem sg_inj {i j : Nat} (hi : i < 36) (hj : j < 36) (h : sg i = sg j) : i = j := congrArg Fin.val (sg_inj0 ⟨i, hi⟩ ⟨j, hj⟩ h)
theorem sg_ok0 : ∀ i : Fin 36, lowC (sg i.1) ∨ figC (sg i.1) := by
  unfold lowC figC
  decide +kernel
theorem sg_lo0 : ∀ i : Fin 26, lowC (sg i.1) := by
  unfold lowC
  decide +kernel
theorem sg_at0 : ∀ i : Fin 36, abcZ.cps.toList[i.1]? = some (sg i.1) := by decide +kernel
theorem sg_at {j : Nat} (h : j < 36) : abcZ.cps.toList[j]? = some (sg j) := sg_at0 ⟨j, h⟩
theorem sg_le0 : ∀ i : Fin 26, (PySem.Str.ofString "abcdefghijklmnopqrstuvwxyz").cps.toList[i.1]? = some (sg i.1) := by decide +kernel
theorem abc26 : (PySem.Str.ofString "abcdefghijklmnopqrstuvwxyz").length = 26 := by decide +kernel
/-- the signs behind the first, of a number -/
def tlL (m : Nat) : List Nat := if h : m = 0 then [] else sg ((m - 1) % 36) :: tlL ((m - 1) / 36)
termination_by m
decreasing_by
  have := Nat.div_le_self (m - 1) 36
  omega
theorem tlL_0 : tlL 0 = [] := by
  rw [tlL]
  rfl
theorem tlL_s {m : Nat} (h : m ≠ 0) : tlL m = sg ((m - 1) % 36) :: tlL ((m - 1) / 36) := by
  rw [tlL, dif_neg h]
theorem tlL_inj : ∀ (n m m' : Nat), m ≤ n → tlL m = tlL m' → m = m' := by
  intro n
  induction n with
  | zero =>
    intro m m' hm e
    have m0 : m = 0 := by omega
    subst m0
    by_cases h : m' = 0
    · exact h.symm
    · rw [tlL_0, tlL_s h] at e
      cases e
  | succ n ih =>
    intro m m' hm e
    by_cases h : m = 0
    · subst h
      by_cases h' : m' = 0
      · exact h'.symm
      · rw [tlL_0, tlL_s h'] at e
        cases e
    · by_cases h' : m' = 0
      · subst h'
        rw [tlL_0, tlL_s h] at e
        cases e
      · rw [tlL_s h, tlL_s h'] at e
        have e1 := List.cons.inj e
        have a := sg_inj (Nat.mod_lt _ (by decide)) (Nat.mod_lt _ (by decide)) e1.1
        have b := ih _ _ (by have := Nat.div_le_self (m - 1) 36; omega) e1.2
        omega
/-- how many numbers have fewer than j signs -/
def Sz (j : Nat) : Nat := (36 ^ j - 1) / 35
theorem Sz_0 : Sz 0 = 0 := by decide
theorem Sz_step : ∀ j : Fin 12, Sz (j.1 + 1) = 36 * Sz j.1 + 1 := by decide +kernel
theorem tlL_len : ∀ (j : Nat), j < 12 → ∀ m, m < Sz (j + 1) → (tlL m).length ≤ j := by
  intro j
  induction j with
  | zero =>
    intro _ m h
    have e : Sz (0 + 1) = 1 := by decide
    rw [e] at h
    have m0 : m = 0 := by omega
    subst m0
    rw [tlL_0]
    exact Nat.le_refl _
  | succ j ih =>
    intro hj m h
    by_cases hm : m = 0
    · subst hm
      rw [tlL_0]
      exact Nat.zero_le _
    · rw [tlL_s hm, List.length_cons]
      have st := Sz_step ⟨j + 1, hj⟩
      have st : Sz (j + 1 + 1) = 36 * Sz (j + 1) + 1 := st
      have q := ih (by omega) ((m - 1) / 36) (by omega)
      omega
theorem tlL_ok : ∀ (n m : Nat), m ≤ n → ∀ d ∈ tlL m, lowC d ∨ figC d := by
  intro n
  induction n with
  | zero =>
    intro m hm d hd
    have m0 : m = 0 := by omega
    subst m0
    rw [tlL_0] at hd
    cases hd
  | succ n ih =>
    intro m hm d hd
    by_cases h : m = 0
    · subst h
      rw [tlL_0] at hd
      cases hd
    · rw [tlL_s h] at hd
      rcases List.mem_cons.mp hd with e | e
      · rw [e]
        exact sg_ok0 ⟨(m - 1) % 36, Nat.mod_lt _ (by decide)⟩
      · exact ih _ (by have := Nat.div_le_self (m - 1) 36; omega) d e
def nmD (i : Nat) : List Nat := sg (i % 26) :: tlL (i / 26)
def nmW (i : Nat) : Str := ⟨(nmD i).toArray⟩
def nmB (k i : Nat) : Str := if k = 0 then "m" ++ numS (1 + i) else nmW i
theorem nmD_inj {i j : Nat} (h : nmD i = nmD j) : i = j := by
  have e := List.cons.inj h
  have a := sg_inj (show i % 26 < 36 by omega) (show j % 26 < 36 by omega) e.1
  have b := tlL_inj _ _ _ (Nat.le_refl _) e.2
  omega
theorem nmW_inj {i j : Nat} (h : nmW i = nmW j) : i = j := by
  refine nmD_inj ?_
  have e := congrArg (fun z : Str => z.cps.toList) h
  simpa [nmW] using e
theorem Sz12 : Sz 12 = 135382323952046197 := by decide +kernel
theorem Sz11 : Sz 11 = 3760620109779061 := by decide +kernel
def Mx : Nat := 3519940422753201122
theorem nmW_nm {i : Nat} (h : i < Mx) : NmP (nmW i) ∧ (nmW i).length ≤ 12 := by
  constructor
  · exact ⟨sg (i % 26), tlL (i / 26), by simp [nmW, nmD], sg_lo0 ⟨i % 26, Nat.mod_lt _ (by decide)⟩, fun d hd => tlL_ok _ _ (Nat.le_refl _) d hd⟩
  · have q := tlL_len 11 (by decide) (i / 26) (by
      have e : Sz (11 + 1) = 135382323952046197 := Sz12
      rw [e]
      have : i < 3519940422753201122 := h
      omega)
    have e : (nmW i).length = (tlL (i / 26)).length + 1 := by simp [nmW, nmD, PySem.Str.length]
    omega
theorem m_nm0 : ∀ k : Fin 70, ("m" ++ numS k.1 : Str).cps.toList = 109 :: (numS k.1).cps.toList := by decide +kernel
theorem m_nm {k : Nat} (h : k < 70) : NmP ("m" ++ numS k) ∧ ("m" ++ numS k : Str).length ≤ 12 := by
  have q := num_sign h
  refine ⟨⟨109, (numS k).cps.toList, m_nm0 ⟨k, h⟩, by unfold lowC; decide, q.1⟩, ?_⟩
  have e : ("m" ++ numS k : Str).length = 1 + (numS k).length := len_app _ _
  omega
def okI (k i : Nat) : Prop := (k = 0 → i < 69) ∧ (k ≠ 0 → i < Mx)
theorem nmB_nm {k i : Nat} (h : okI k i) : NmP (nmB k i) ∧ (nmB k i).length ≤ 12 := by
  unfold nmB
  by_cases e : k = 0
  · rw [if_pos e]
    have := h.1 e
    exact m_nm (by omega)
  · rw [if_neg e]
    exact nmW_nm (h.2 e)
theorem nmB_inj {k i j : Nat} (hi : okI k i) (hj : okI k j) (h : nmB k i = nmB k j) : i = j := by
  unfold nmB at h
  by_cases e : k = 0
  · rw [if_pos e, if_pos e] at h
    have a := hi.1 e
    have b := hj.1 e
    have := num_inj (show 1 + i < 70 by omega) (show 1 + j < 70 by omega) (app_inj h)
    omega
  · rw [if_neg e, if_neg e] at h
    exact nmW_inj h
theorem log_sm {n : Nat} (h : n ≤ 100) : (n : Int).natAbs.log2 < 1920 := by
  have e : (n : Int).natAbs = n := by omega
  rw [e]
  have q : n.log2 ≤ n := Nat.log2_le_self _
  omega
def spNBy : Sp := fun vs H Q _ => ∃ k i : Nat, vs = [.int k, .int i] ∧ okI k i ∧ Q (.str (nmB k i)) H
def spNms : Sp := fun vs H Q _ => ∃ (p q r : Addr) (n : Nat) (m : Int), vs = [.ref p, .int m] ∧ PotAt H p q r n ∧ n ≤ 50000 ∧ 0 ≤ m ∧ m ≤ 60 ∧ ∀ (zs : List Str) d H', H d = none → zs.Nodup → Bt p q H H' → PotAt H' p q r (n + 3 * m.toNat) → H' d = some (.lst (zs.map V.str)) → zs.length = m.toNat → (∀ z ∈ zs, NmP z ∧ z.length ≤ 12) → Q (.ref d) H'
def muN (σ : L2.St) : Nat := match σ with
  | [_, some (.int i), _] => i.toNat
  | _ => 0
def muT (j : Nat) (σ : L2.St) : Nat := match σ with
  | [_, _, _, _, _, some (.int i)] => j + 62 - i.toNat
  | _ => 0
section
variable {P : Program} {w : World} {K : PySem.W.Frag} {mg : Str → Option Value} {base : Heap}
theorem scNBy : FnScope ["_law_kind", "_law_index", "_law_word"] ["_law_kind", "_law_index"] (defScope sNBy) := ⟨rfl, rfl, rfl, by decide +kernel, rfl, by decide +kernel, by decide +kernel⟩
theorem ok_nby {f : Addr} {fd : FuncData} (F : Fun K "_law_name_by" "_law_name_by" sNBy f fd) (T : TxB mg) (tstr : mg "str" = none) : FnOk P w K mg base CX0 1 f fd ["_law_kind", "_law_index"] spNBy := by
  refine F.ok scNBy (fun vs H Q E h => ?_) (fun cdv A outer s H vs Q E hr h => ?_)
  · obtain ⟨k, i, rfl, _⟩ := h
    rfl
  · obtain ⟨k, i, rfl, ok, kk⟩ := h
    refine ⟨_, (pss_cons (ps_if (pt_cmpR op_eq (pv 0) pe_int (nomark _)) (pss_one (ps_ret (pe_op op_add_str pe_str (pe_callTy call_str_int (by rfl) tstr (by decide +kernel) (pa_cons (pe_op op_add pe_int (pv 1)) pa_nil))))) pss_nil)
      (pss_cons (ps_set (i := 2) scNBy.nd rfl (Or.inl rfl) (pe_ix ix_str pe_str (pe_op op_mod (pv 1) pe_int) (fun _ _ => rfl)))
      (pss_cons (ps_set (i := 1) scNBy.nd rfl (Or.inl rfl) (pe_op op_fdiv (pv 1) pe_int))
      (pss_cons (ps_while PassesOwn.never (pt_cmpR op_gt (pv 1) pe_int (nomark _)) (pss_cons (ps_set (i := 2) scNBy.nd rfl (Or.inl rfl) (pe_op op_add_str (pv 2) (pe_ix ix_str pe_str (pe_op op_mod (pe_op op_sub (pv 1) pe_int) pe_int) (fun _ _ => rfl))))
      (pss_one (ps_set (i := 1) scNBy.nd rfl (Or.inl rfl) (pe_op op_fdiv (pe_op op_sub (pv 1) pe_int) pe_int)))))
      (pss_one (ps_ret (pv 2))))))), ?_⟩
    refine ⟨_, rfl, rfl, _, rfl, ?_⟩
    refine ite2 (fun z => ?_) (fun z => ?_)
    · have e0 : k = 0 := by
        have := V.int.inj (of_decide_eq_true z)
        omega
      have i0 := ok.1 e0
      have ei : (1 : Int) + (i : Int) = ((1 + i : Nat) : Int) := by omega
      refine ⟨_, rfl, _, _, rfl, rfl, ?_⟩
      dsimp only
      rw [ei]
      have nq := num_sign (n := 1 + i) (by omega)
      refine ⟨_, rfl, log_sm (by omega), _, _, rfl, rfl, Nat.le_trans (show 1 + (numS (1 + i)).length ≤ 100 by omega) (by decide), ?_⟩
      have en : nmB k i = "m" ++ numS (1 + i) := if_pos e0
      rw [en] at kk
      exact kk
    · have e0 : k ≠ 0 := fun e => z (by subst e; rfl)
      have i1 := ok.2 e0
      have en : nmB k i = nmW i := if_neg e0
      rw [en] at kk
      refine ⟨_, rfl, _, _, rfl, rfl, (by show (0 : Int) < 26; decide), ?_⟩
      refine rdItem (n := 26) abc26 (Int.emod_nonneg _ (by decide)) (Int.emod_lt_of_pos _ (by decide)) (by decide) fun c hc => ?_
      have em : ((i : Int) % 26).toNat = i % 26 := by omega
      rw [em] at hc
      have ec : c = sg (i % 26) := Option.some.inj (hc.symm.trans (sg_le0 ⟨i % 26, Nat.mod_lt _ (by decide)⟩))
      subst ec
      dsimp only [gName, List.set_cons_succ, List.set_cons_zero]
      refine ⟨_, rfl, _, _, rfl, rfl, ⟨by decide, by decide⟩, ?_⟩
      dsimp only [gName, List.set_cons_succ, List.set_cons_zero]
      have ed : (i : Int) / 26 = ((i / 26 : Nat) : Int) := by omega
      rw [ed]
      refine while_by (fun σ H' => H' = H ∧ ∃ (j : Nat) (z : Str), σ = [some (.int k), some (.int (j : Int)), some (.str z)] ∧ z.cps.toList ++ tlL j = nmD i ∧ j ≤ 10000000000000000000) (fun σ _ => muN σ) ⟨rfl, i / 26, _, rfl, by simp [nmD], by have : i < 3519940422753201122 := i1; omega⟩ ?_ ?_
      · rintro σ H' ⟨rfl, j, z, rfl, inv, jb⟩
        refine ⟨_, rfl, _, _, rfl, rfl, _, rfl, ?_⟩
        have zl : z.length ≤ 12 := by
          have a := congrArg List.length inv
          have b : (nmD i).length ≤ 12 := by
            have := (nmW_nm i1).2
            simpa [nmW, PySem.Str.length] using this
          rw [List.length_append] at a
          have c : z.length = z.cps.toList.length := by simp [PySem.Str.length]
          omega
        refine ite2 (fun q => ?_) (fun q => ?_)
        · have j0 : j ≠ 0 := by
            have := of_decide_eq_true q
            omega
          have e1 : (j : Int) - 1 = ((j - 1 : Nat) : Int) := by omega
          refine ⟨_, rfl, _, rfl, _, _, rfl, rfl, ?_⟩
          dsimp only
          rw [e1]
          refine ⟨_, _, rfl, rfl, (by show (0 : Int) < 36; decide), ?_⟩
          refine rdItem (n := 36) abc36 (Int.emod_nonneg _ (by decide)) (Int.emod_lt_of_pos _ (by decide)) (by decide) fun c hc => ?_
          have em : (((j - 1 : Nat) : Int) % 36).toNat = (j - 1) % 36 := by omega
          rw [em] at hc
          have ec : c = sg ((j - 1) % 36) := Option.some.inj (hc.symm.trans (sg_at (Nat.mod_lt _ (by decide))))
          subst ec
          refine ⟨_, _, rfl, rfl, Nat.le_trans (show z.length + 1 ≤ 100 by omega) (by decide), ?_⟩
          dsimp only [gName, List.set_cons_succ, List.set_cons_zero]
          refine ⟨_, rfl, _, _, rfl, rfl, ?_⟩
          dsimp only
          rw [e1]
          refine ⟨_, _, rfl, rfl, ⟨by decide, by decide⟩, ?_⟩
          dsimp only [gName, List.set_cons_succ, List.set_cons_zero]
          have e2 : ((j - 1 : Nat) : Int) / 36 = (((j - 1) / 36 : Nat) : Int) := by omega
          rw [e2]
          refine ⟨⟨rfl, (j - 1) / 36, _, rfl, ?_, by omega⟩, ?_⟩
          · rw [toList_app, List.append_assoc]
            rw [tlL_s j0] at inv
            exact inv
          · show (((j - 1) / 36 : Nat) : Int).toNat < (j : Int).toNat
            omega
        · have j0 : j = 0 := by
            rcases Nat.eq_zero_or_pos j with h | h
            · exact h
            · exact absurd (decide_eq_true (show (0 : Int) < (j : Int) by omega)) q
          subst j0
          rw [tlL_0, List.append_nil] at inv
          refine ⟨_, rfl, ?_⟩
          have ez : z = nmW i := by
            cases z
            simp only at inv
            unfold nmW
            congr
            rw [← inv]
          rw [ez]
          exact kk
      · intro σ H' Q1 Q2 f h
        obtain ⟨x, e1, a, b, ea, eb, u, eu, q⟩ := h
        exact ⟨x, e1, a, b, ea, eb, u, eu, f _ _ q⟩
theorem scNms : FnScope ["_law_pot_here", "_law_many", "_law_found_here", "_law_k", "_law_kind", "_law_index"] ["_law_pot_here", "_law_many"] (defScope sNms) := ⟨rfl, rfl, rfl, by decide +kernel, rfl, by decide +kernel, by decide +kernel⟩
theorem bndL (i : Nat) (h : i < 5) : ∃ m : Int, ([V.int 6, .int 26, .int 962, .int 1000000000, .int 1000000000])[i]? = some (.int m) ∧ 0 < m ∧ m ≤ 1000000000 ∧ (i = 0 → m = 6) := by
  have : i = 0 ∨ i = 1 ∨ i = 2 ∨ i = 3 ∨ i = 4 := by omega
  rcases this with rfl | rfl | rfl | rfl | rfl
  · exact ⟨6, rfl, by decide, by decide, fun _ => rfl⟩
  · exact ⟨26, rfl, by decide, by decide, fun h => by cases h⟩
  · exact ⟨962, rfl, by decide, by decide, fun h => by cases h⟩
  · exact ⟨1000000000, rfl, by decide, by decide, fun h => by cases h⟩
  · exact ⟨1000000000, rfl, by decide, by decide, fun h => by cases h⟩
theorem ok_nms {f fT fB : Addr} {fd dT dB : FuncData} (F : Fun K "_law_names" "_law_names" sNms f fd) (T : TxB mg) (tstr : mg "str" = none) (DT : Dn K mg "_law_take" sTak ["_law_pot_here", "_law_many"] fT dT) (GT : FnOk P w K mg base CX0 2 fT dT ["_law_pot_here", "_law_many"] spTak) (DB : Dn K mg "_law_name_by" sNBy ["_law_kind", "_law_index"] fB dB) : FnOk P w K mg base CX0 3 f fd ["_law_pot_here", "_law_many"] spNms := by
  have GB : FnOk P w K mg base CX0 1 fB dB ["_law_kind", "_law_index"] spNBy := ok_nby DB.F T tstr
  refine F.ok scNms (fun vs H Q E h => ?_) (fun cdv A outer s H vs Q E hr h => ?_)
  · obtain ⟨p, q, r, n, m, rfl, _⟩ := h
    rfl
  · obtain ⟨p, q, r, n, m, rfl, hP, hn, m0, m6, k⟩ := h
    have hr1 : Room 1 _ := hr.mono (by decide)
    have hr2 : Room 2 _ := hr.mono (by decide)
    refine ⟨_, (pss_cons (ps_set (i := 2) scNms.nd rfl (Or.inl rfl) (pe_lst pa_nil))
      (pss_cons (ps_for PassesOwn.never rfl (pi_range1 rfl T.range (pa_cons (pv 1) pa_nil)) (pg_name (i := 3) scNms.nd rfl (Or.inl rfl)) (pss_cons (ps_set (i := 4) scNms.nd rfl (Or.inl rfl) (pe_call GT hr2 rfl DT.g DT.F.kp DT.b .nil pass0 (pa_cons (pv 0) (pa_cons pe_int pa_nil))))
      (pss_cons (ps_set (i := 5) scNms.nd rfl (Or.inl rfl) (pe_call GT hr2 rfl DT.g DT.F.kp DT.b .nil pass0 (pa_cons (pv 0) (pa_cons (pe_ix ix_list (pe_lst (pa_cons pe_int (pa_cons pe_int (pa_cons pe_int (pa_cons (pe_op op_pow pe_int pe_int) (pa_cons (pe_op op_pow pe_int pe_int) pa_nil)))))) (pv 4) (fun _ _ => rfl)) pa_nil))))
      (pss_cons (ps_if (pt_cmpR op_eq (pv 4) pe_int (nomark _)) (pss_one (ps_set (i := 5) scNms.nd rfl (Or.inl rfl) (pe_op op_add (pe_op op_mul pe_int (pe_op op_add (pe_op op_fdiv (pe_op op_sub (pe_op op_pow pe_int pe_int) pe_int) pe_int) (pv 5))) (pe_call GT hr2 rfl DT.g DT.F.kp DT.b .nil pass0 (pa_cons (pv 0) (pa_cons pe_int pa_nil)))))) pss_nil)
      (pss_cons (ps_while PassesOwn.never (pt_cmpR op_in_seq (pe_call GB hr1 rfl DB.g DB.F.kp DB.b .nil pass0 (pa_cons (pv 4) (pa_cons (pv 5) pa_nil))) (pv 2) (by rfl)) (pss_one (ps_set (i := 5) scNms.nd rfl (Or.inl rfl) (pe_op op_add (pv 5) pe_int))))
      (pss_one (ps_expr (pe_bm PySem.F.plainAttrs_list PySem.F.slot_list_append PySem.F.type_list_append mt_append (pv 2) (pa_cons (pe_call GB hr1 rfl DB.g DB.F.kp DB.b .nil pass0 (pa_cons (pv 4) (pa_cons (pv 5) pa_nil))) pa_nil)))))))))
      (pss_one (ps_ret (pv 2))))), ?_⟩
    refine ⟨Nat.zero_le _, fun d hd => ?_⟩
    have nd3 := hP.ne hd
    refine ⟨_, rfl, m, rfl, by omega, by omega, ?_⟩
    refine for_range (n := m.toNat) (fun i σ H' => (∃ u v x, σ = [some (.ref p), some (.int m), some (.ref d), u, v, x]) ∧ ∃ zs : List Str, H' d = some (.lst (zs.map V.str)) ∧ zs.Nodup ∧ (∀ z ∈ zs, NmP z ∧ z.length ≤ 12) ∧ zs.length = i ∧ Bt p q H H' ∧ PotAt H' p q r (n + 3 * i))
      ⟨⟨none, none, none, rfl⟩, [], upd_same, List.nodup_nil, fun z hz => (List.not_mem_nil hz).elim, rfl, (Bt.refl p q H).new hd, hP.upd nd3.1 nd3.2.1 nd3.2.2⟩ ?_ ?_
    · rintro i σ H1 hi ⟨⟨u, v, x, rfl⟩, zs, hl, nd, nm, len, B, PA⟩
      dsimp only [gName, List.set_cons_succ, List.set_cons_zero]
      refine ⟨_, rfl, p, q, r, _, 5, rfl, PA, by omega, by decide, by decide, fun kd H2 k0 k5 B2 P2 => ?_⟩
      dsimp only [gName, List.set_cons_succ, List.set_cons_zero]
      have hl2 := B2 d _ nd3.1 nd3.2.1 hl
      obtain ⟨kn, rfl⟩ : ∃ kn : Nat, kd = (kn : Int) := ⟨kd.toNat, by omega⟩
      obtain ⟨bm, eb, b0, b1, b6⟩ := bndL kn (by omega)
      refine ⟨_, rfl, _, _, rfl, rfl, ⟨by decide, by decide, by decide⟩, _, _, rfl, rfl, ⟨by decide, by decide, by decide⟩, by show 5 ≤ sizeLine; decide, fun la hla => ?_⟩
      dsimp only
      rw [show ((10 : Int) ^ Int.toNat 9) = 1000000000 by decide +kernel]
      have SA : Same H2 (upd H2 la (.lst [V.int 6, .int 26, .int 962, .int 1000000000, .int 1000000000])) := Same.upd hla
      have ea : (upd H2 la (.lst [V.int 6, .int 26, .int 962, .int 1000000000, .int 1000000000])) la = some (.lst [V.int 6, .int 26, .int 962, .int 1000000000, .int 1000000000]) := upd_same
      generalize upd H2 la (.lst [V.int 6, .int 26, .int 962, .int 1000000000, .int 1000000000]) = H3 at SA ea
      refine ⟨_, rfl, rdList ea (j := kn) (v := .int bm) rfl eb ?_⟩
      refine ⟨p, q, r, _, bm, rfl, P2.same SA, by omega, b0, by omega, fun ix H4 x0 x1 B4 P4 => ?_⟩
      dsimp only [gName, List.set_cons_succ, List.set_cons_zero]
      have hl4 := B4 d _ nd3.1 nd3.2.1 (SA _ _ hl2)
      have BB4 : Bt p q H H4 := (B.trans B2).trans ((Same.bt SA).trans B4)
      obtain ⟨xn, rfl⟩ : ∃ xn : Nat, ix = (xn : Int) := ⟨ix.toNat, by omega⟩
      refine cut1 (fun σ' H' => ∃ (j : Nat) (xx : Option V), σ' = [some (.ref p), some (.int m), some (.ref d), xx, some (.int kn), some (.int j)] ∧ (kn = 0 → j < 6) ∧ (kn ≠ 0 → j + 100 < Mx) ∧ Bt p q H H' ∧ PotAt H' p q r (n + 3 * i + 3) ∧ H' d = some (.lst (zs.map V.str))) ?_ (fun R' fin => ?_)
      · rintro σ' H5 ⟨j, xx, rfl, j0, j1, B5, P5, l5⟩
        have inj : ∀ a b, a < 62 → b < 62 → nmB kn (j + a) = nmB kn (j + b) → a = b := fun a b ha hb e => by
          have ok : ∀ c, c < 62 → okI kn (j + c) := fun c hc => ⟨fun z => by have := j0 z; omega, fun z => by have := j1 z; omega⟩
          have := nmB_inj (ok a ha) (ok b hb) e
          omega
        have okc : ∀ c, c < 62 → okI kn (j + c) := fun c hc => ⟨fun z => by have := j0 z; omega, fun z => by have := j1 z; omega⟩
        refine while_by (fun σ H' => H' = H5 ∧ ∃ t : Nat, σ = [some (.ref p), some (.int m), some (.ref d), xx, some (.int kn), some (.int ((j + t : Nat) : Int))] ∧ t ≤ 60 ∧ ∀ a, a < t → nmB kn (j + a) ∈ zs) (fun σ _ => muT j σ) ⟨rfl, 0, rfl, by omega, fun a ha => absurd ha (Nat.not_lt_zero a)⟩ ?_ ?_
        · rintro σ H' ⟨rfl, t, rfl, t6, al⟩
          refine ⟨_, rfl, _, rfl, kn, j + t, rfl, okc t (by omega), _, rfl, ?_⟩
          refine ⟨d, _, rfl, .inl (SqL.of l5), rfl, flats zs, _, rfl, ?_⟩
          show if inV (.str (nmB kn (j + t))) (zs.map V.str) = true then _ else _
          rw [inV_strs]
          by_cases hm : nmB kn (j + t) ∈ zs
          · rw [decide_eq_true hm]
            refine iteT ?_
            have al' : ∀ a, a < t + 1 → nmB kn (j + a) ∈ zs := fun a ha => by
              by_cases e : a = t
              · rw [e]
                exact hm
              · exact al a (by omega)
            have hle := holes (f := fun a => nmB kn (j + a)) (n := t + 1) (fun a b ha hb e => inj a b (by omega) (by omega) e) al'
            refine ⟨_, rfl, _, _, rfl, rfl, ?_⟩
            refine ⟨⟨rfl, t + 1, ?_, by omega, al'⟩, ?_⟩
            · have e : ((j + t : Nat) : Int) + 1 = ((j + (t + 1) : Nat) : Int) := by omega
              dsimp only [gName, List.set_cons_succ, List.set_cons_zero]
              rw [e]
            · show j + 62 - (((j + t : Nat) : Int) + 1).toNat < j + 62 - ((j + t : Nat) : Int).toNat
              omega
          · rw [decide_eq_false hm]
            refine iteF ?_
            have nz := nmB_nm (okc t (by omega))
            refine ⟨_, rfl, .inl ⟨rfl, _, SqL.of l5⟩, _, rfl, _, rfl, kn, j + t, rfl, okc t (by omega), ?_⟩
            refine ⟨d, _, _, rfl, rfl, l5, ?_, ?_⟩
            · rw [List.length_map]
              exact Nat.lt_of_le_of_lt (show _ ≤ 1000 by omega) (by decide)
            refine ⟨⟨_, _, _, rfl⟩, zs ++ [nmB kn (j + t)], ?_, ?_, ?_, ?_, B5.new hd, (P5.upd nd3.1 nd3.2.1 nd3.2.2).mono (by omega)⟩
            · rw [upd_same, List.map_append]
              rfl
            · rw [List.nodup_append]
              exact ⟨nd, (by simp : [nmB kn (j + t)].Nodup), fun a ha b hb e => by
                have eb : b = nmB kn (j + t) := by simpa using hb
                rw [e, eb] at ha
                exact hm ha⟩
            · intro y hy
              rcases List.mem_append.mp hy with hy | hy
              · exact nm y hy
              · rw [List.mem_singleton.mp hy]
                exact nz
            · rw [List.length_append, List.length_singleton]
              omega
        · intro σ H' Q1 Q2 f h
          obtain ⟨x, e1, y, e2, k', i', e3, ok', u', e4, p', xs, e5, a, b, c, bb, e6, q⟩ := h
          exact ⟨x, e1, y, e2, k', i', e3, ok', u', e4, p', xs, e5, a, b, c, bb, e6, f _ _ q⟩
      · refine ⟨_, rfl, rfl, _, rfl, ?_⟩
        refine ite2 (fun z => ?_) (fun z => ?_)
        · have e4 : kn = 4 := by
            have := V.int.inj (of_decide_eq_true z)
            omega
          refine ⟨_, _, rfl, rfl, ⟨by decide, by decide, by decide⟩, _, _, rfl, rfl, _, _, rfl, rfl, ⟨by decide, by decide⟩, _, rfl, _, _, rfl, rfl, _, _, rfl, rfl, .inl ⟨by decide, by decide⟩, ?_⟩
          dsimp only
          rw [show (((36 : Int) ^ Int.toNat 11 - 1) / 35) = 3760620109779061 by decide +kernel]
          refine ⟨_, rfl, p, q, r, _, 26, rfl, P4, by omega, by decide, by decide, fun y H5 y0 y1 B5 P5 => ⟨_, _, rfl, rfl, ?_⟩⟩
          obtain ⟨yn, rfl⟩ : ∃ yn : Nat, y = (yn : Int) := ⟨y.toNat, by omega⟩
          have e : (26 : Int) * (3760620109779061 + (xn : Int)) + (yn : Int) = ((26 * (3760620109779061 + xn) + yn : Nat) : Int) := by omega
          dsimp only [gName, List.set_cons_succ, List.set_cons_zero]
          rw [e]
          refine fin _ _ ⟨_, _, rfl, fun z => by omega, fun _ => ?_, BB4.trans B5, P5.mono (by omega), B5 d _ nd3.1 nd3.2.1 hl4⟩
          show 26 * (3760620109779061 + xn) + yn + 100 < 3519940422753201122
          omega
        · refine fin _ _ ⟨_, _, rfl, fun z => ?_, fun _ => ?_, BB4, P4.mono (by omega), hl4⟩
          · have := b6 z
            omega
          · show xn + 100 < 3519940422753201122
            omega
    · rintro σ H1 ⟨⟨u, v, x, rfl⟩, zs, hl, nd, nm, len, B, PA⟩
      exact ⟨_, rfl, k zs d H1 hd nd B PA hl len nm⟩
end
end Wm
/-! sorted of triples of texts, as a list and as the keys of a dict -/
namespace Wm
open PySem PySem.Spec PyProof.Rows L2
def triD3 (t : Str × Str × Str) : PyData := .tuple [.str t.1, .str t.2.1, .str t.2.2]
def triV3 (t : Str × Str × Str) : List V := [.str t.1, .str t.2.1, .str t.2.2]
/-- the triples in their order -/
def sortT (ts : List (Str × Str × Str)) : List (Str × Str × Str) := ts.mergeSort (PySem.W.dataLe false triD3)
def TrisAt (K : PySem.W.Frag) (H : Hp) : List Addr → List (Str × Str × Str) → Prop
  | [], [] => True
  | p :: ps, t :: ts => SqT K H p (triV3 t) ∧ TrisAt K H ps ts
  | [], _ :: _ => False
  | _ :: _, [] => False
theorem TrisAt.len {K : PySem.W.Frag} {H : Hp} : ∀ {ps : List Addr} {ts : List (Str × Str × Str)}, TrisAt K H ps ts → ps.length = ts.length
  | [], [], _ => rfl
  | _ :: _, _ :: _, h => by rw [List.length_cons, List.length_cons, TrisAt.len h.2]
  | [], _ :: _, h => h.elim
  | _ :: _, [], h => h.elim
theorem TrisAt.same {K : PySem.W.Frag} {H H' : Hp} (e : ∀ {a : Addr} {xs : List V}, SqT K H a xs → SqT K H' a xs) : ∀ {ps : List Addr} {ts : List (Str × Str × Str)}, TrisAt K H ps ts → TrisAt K H' ps ts
  | [], [], _ => True.intro
  | _ :: _, _ :: _, h => ⟨e h.1, TrisAt.same e h.2⟩
  | [], _ :: _, h => h.elim
  | _ :: _, [], h => h.elim
/-- a value that is a triple -/
def isTri (K : PySem.W.Frag) (H : Hp) (u : Value) (t : Str × Str × Str) : Prop := ∃ p, u = .ref p ∧ SqT K H p (triV3 t)
theorem tris_each {K : PySem.W.Frag} {H : Hp} : ∀ {ps : List Addr} {ts : List (Str × Str × Str)} {us : List Value}, TrisAt K H ps ts → Vals (ps.map V.ref) us → PySem.W.EachIs (isTri K H) us ts
  | [], [], _, _, r => by
    cases r
    exact .nil
  | p :: ps, t :: ts, _, h, r => by
    cases r with
    | cons r1 r2 =>
      cases r1
      exact .cons ⟨p, rfl, h.1⟩ (tris_each h.2 r2)
  | [], _ :: _, _, h, _ => h.elim
  | _ :: _, [], _, h, _ => h.elim
theorem each_tris {K : PySem.W.Frag} {H : Hp} : ∀ {us : List Value} {ts : List (Str × Str × Str)}, PySem.W.EachIs (isTri K H) us ts → ∃ qs : List Addr, TrisAt K H qs ts ∧ Vals (qs.map V.ref) us
  | _, _, .nil => ⟨[], True.intro, .nil⟩
  | _, _, .cons h r => by
    obtain ⟨p, rfl, hp⟩ := h
    obtain ⟨qs, hq, hv⟩ := each_tris r
    exact ⟨p :: qs, ⟨hp, hq⟩, .cons rfl hv⟩
theorem tri_dp {K : PySem.W.Frag} {H : Hp} {p : Addr} {t : Str × Str × Str} (h : SqT K H p (triV3 t)) : Dp K H (.ref p) (triD3 t) := .tup h (.cons (.str _) (.cons (.str _) (.cons (.str _) .nil)))
theorem tri_depth (t : Str × Str × Str) : (triD3 t).depth ≤ 2 := by
  simp [triD3, PyData.depth, PyData.depthAll]
section
variable {X : Cx} {pins : List (Addr × Obj)} {σ : L2.St} {H : Hp} {s : Shared}
theorem tri_reads (I : Inv X pins σ H s) : ∀ {us : List Value} {ts : List (Str × Str × Str)}, PySem.W.EachIs (isTri X.K H) us ts → PySem.W.EachIs (fun v b => ∃ as, Reads s.heap v (triD3 b) as) us ts
  | _, _, .nil => .nil
  | _, _, .cons h r => by
    obtain ⟨p, rfl, hp⟩ := h
    exact .cons (Dp.reads I _ _ _ (tri_dp hp) rfl) (tri_reads I r)
theorem tri_alike (ts : List (Str × Str × Str)) : PySem.W.AllAlike (ts.map triD3) := PySem.W.AllAlike.of fun b b' => by
  simp [triD3, PySem.W.alike, PySem.W.alikeAll]
theorem tri_sortable (ts : List (Str × Str × Str)) : PySem.W.Sortable (ts.map triD3) := PySem.W.Sortable.tuples fun b => ⟨_, _, rfl⟩
theorem sortT_len (ts : List (Str × Str × Str)) : (sortT ts).length = ts.length := List.length_mergeSort _
/-- sorted(xs) -/
def rSortTL (K : PySem.W.Frag) : List V → Hp → VK → Prop := fun vs H Q => ∃ (a : Addr) (ps : List Addr) (ts : List (Str × Str × Str)), vs = [.ref a] ∧ SqL K H a (ps.map V.ref) ∧ TrisAt K H ps ts ∧
  ∀ (qs : List Addr) (p : Addr), TrisAt K H qs (sortT ts) → H p = none → Q (.ref p) (upd H p (.lst (qs.map V.ref)))
theorem cr_sortTL (hu : X.A.units + 64 < cLine) : CallR X (.builtin "sorted") (rSortTL X.K) := by
  intro pins s σ H xs us Q I r h
  obtain ⟨a, ps, ts, rfl, hs, ht, q⟩ := h
  obtain ⟨its, rv, hl, hz⟩ := I.list hs
  obtain ⟨u, rfl, ru⟩ := vals1 r
  obtain rfl : u = Value.ref a := ru
  have he := tris_each ht rv
  have hlen : ts.length ≤ sizeLine := by
    rw [← ht.len]
    rw [List.length_map] at hz
    exact hz
  refine PySem.W.sorted_data (bs := ts) (enc := triD3) (R := isTri X.K H) hl.isList he (tri_reads I he) (tri_alike ts) (tri_sortable ts) hlen (fun b _ => by have := tri_depth b; omega) fun out ho hout => ?_
  obtain ⟨qs, hq, hv⟩ := each_tris hout
  obtain ⟨e, hat⟩ := sortedAll_at s.heap its out.toArray
  have hle : s.heap.objs.size ≤ s.heap.objs.size + 1 := Nat.le_succ _
  refine ⟨.ref (s.heap.objs.size + 1), upd H (s.heap.objs.size + 1) (.lst (qs.map V.ref)), I.laid (t' := s.toks) (fun b o z => sortedAll_old z) hle ⟨?_, out, e, hv, hat⟩, rfl, q qs _ hq (I.hok.fresh hle)⟩
  rw [List.length_map, hq.len, List.length_mergeSort]
  exact hlen
def triK (t : Str × Str × Str) : List L2.Key := [Sum.inr t.1, Sum.inr t.2.1, Sum.inr t.2.2]
/-- sorted(d), d a dict whose keys are triples -/
def rSortTD (K : PySem.W.Frag) : List V → Hp → VK → Prop := fun vs H Q => ∃ (a : Addr) (kvs : List (List L2.Key × V)) (ts : List (Str × Str × Str)), vs = [.ref a] ∧ H a = some (.dT kvs) ∧ kvs.map (·.1) = ts.map triK ∧
  ∀ (qs : List Addr) (p : Addr), TrisAt K H qs (sortT ts) → H p = none → Q (.ref p) (upd H p (.lst (qs.map V.ref)))
theorem keys_tris {K : PySem.W.Frag} {H : Hp} : ∀ {kvs : List (List L2.Key × V)} {bs : List Addr} {ts : List (Str × Str × Str)}, IsKeys H kvs bs → kvs.map (·.1) = ts.map triK → TrisAt K H bs ts
  | [], _, ts, h, e => by
    cases h
    cases ts with
    | nil => exact True.intro
    | cons t r => cases e
  | kv :: kvs, _, ts, h, e => by
    cases h with
    | cons h1 h2 =>
      cases ts with
      | nil => cases e
      | cons t r =>
        have e1 : kv.1 = triK t := (List.cons.inj e).1
        rw [e1] at h1
        exact ⟨SqT.of h1, keys_tris h2 (List.cons.inj e).2⟩
theorem cr_sortTD (hc : X.calm = true) (hu : X.A.units + 64 < cLine) : CallR X (.builtin "sorted") (rSortTD X.K) := by
  intro pins s σ H xs us Q I r h
  obtain ⟨d, kvs, ts, rfl, hd, hk, q⟩ := h
  obtain ⟨u, rfl, ru⟩ := vals1 r
  obtain rfl : u = Value.ref d := ru
  obtain ⟨z, hs, ks, pr, o, es, ep, ho, hx, hdt, he, hn⟩ := (show ObjOk X.prog X.w H s.heap d (.dT kvs) from I.hok d _ hd)
  have l1 : es.size = ks.length := size_of_entries he
  have l2 : kvs.length = ks.length := Paired.length pr
  have l3 : ts.length = kvs.length := by
    have e := congrArg List.length hk
    rw [List.length_map, List.length_map] at e
    exact e.symm
  have hT : TrisAt X.K H (ks.map fun x => x.2.1) ts := keys_tris (isKeys_of pr) hk
  refine Calls.call_function_entry kind_sorted plain_sorted entry_sorted (args_sorted1 _) ?_
  unfold Builtin.«sorted»
  refine wpAny_bind (m := checkCount "sorted" 1 1 _) (wpAny_pure ?_)
  refine wpAny_bind (PySem.W.kdu_collect (A := X.A.in1) (kdl_raw hs hx hdt) (I.ok.hd hc) ho (by omega) fun h' tk acc kp it => ?_)
  have ea : acc.toList = (ks.map fun x => x.2.1).map Value.ref := by
    apply List.ext_getElem?
    intro j
    have hl : acc.toList.length = ks.length := by rw [Array.length_toList, it.1]; exact l1
    rw [List.getElem?_map, List.getElem?_map]
    cases hb : ks[j]? with
    | none =>
      have := List.getElem?_eq_none_iff.mp hb
      rw [List.getElem?_eq_none (by omega)]
      rfl
    | some b =>
      have hj : j < acc.toList.length := by rw [hl]; exact (List.getElem?_eq_some_iff.mp hb).1
      have e1 := List.getElem?_eq_getElem hj
      obtain ⟨en, hen, hv⟩ := it.2 j _ (by rw [← Array.getElem?_toList]; exact e1)
      have qe := entry_at he j
      rw [hen, hb] at qe
      have e2 : en = entryOfKey (tupleKind (mixKind X.prog X.w)) b := Option.some.inj qe
      rw [e1, hv, e2]
      rfl
  have I1 : Inv X pins σ H { s with heap := h', toks := tk } := I.kept (t' := tk) kp
  have rv : Vals ((ks.map fun x => x.2.1).map V.ref) acc.toList := by rw [ea]; exact vals_refs _
  have each := tris_each hT rv
  have alen : acc.toList.length ≤ sizeLine := by
    rw [Array.length_toList, it.1]
    omega
  refine wpAny_bind (wpAny_newList ?_ alen)
  have hoL : (h'.push (seqObj "list" acc.toList.toArray 0)).get? h'.objs.size = some (seqObj "list" acc.toList.toArray 0) := Heap.get?_push_size _ rfl
  show wpAny _ _ _ _ _ { s with heap := h'.push (seqObj "list" acc.toList.toArray 0), toks := tk }
  have er : PySem.W.EachIs (fun v b => ∃ as, Reads (PySem.W.sortingHeap (h'.push (seqObj "list" acc.toList.toArray 0)) h'.objs.size acc.toList) v (triD3 b) as) acc.toList ts :=
    (tri_reads I1 each).mono fun _ _ ⟨as, rr⟩ => ⟨as, Reads.keeps (fun b o zz => PySem.W.sortingHeap_old (Nat.ne_of_lt (Heap.lt_size zz)) (Heap.get?_push_of_some _ zz)) rr⟩
  refine wpAny_bind (wpAny_holding (wpAny_call_entry slot_list_sort ⟨_, hoL, rfl⟩ entry_list_sort
    (PySem.W.list_sort_vals (s := { s with heap := h'.push (seqObj "list" acc.toList.toArray 0), toks := tk }) hoL
      (PySem.W.SortsAt.data (A := X.A.in1.in1) (s := { s with heap := PySem.W.sortingHeap (h'.push (seqObj "list" acc.toList.toArray 0)) h'.objs.size acc.toList, toks := tk }) (PySem.W.each_map (R := fun v d => ∃ as, Reads (PySem.W.sortingHeap (h'.push (seqObj "list" acc.toList.toArray 0)) h'.objs.size acc.toList) v d as) triD3 er) (tri_alike ts) (tri_sortable ts) (PySem.W.bound_map fun b _ => by
        have := tri_depth b
        have e2 : X.A.in1.in1.units ≤ X.A.units + 2 := Nat.le_refl _
        omega)) alen ⟨_, rfl, ?_⟩)
    (args_list_sort _)))
  have hout := PySem.W.sortVals_data (R := isTri X.K H) false each er (tri_alike ts)
  obtain ⟨qs, hq, hv⟩ := each_tris hout
  obtain ⟨e, hat⟩ := sortedHeap_at (vs := acc.toList) (out := (PySem.W.sortVals _ false acc.toList acc.toList).toArray) hoL
  refine wpAny_pure ⟨_, rfl, .ref h'.objs.size, upd H h'.objs.size (.lst (qs.map V.ref)), I1.laid (t' := tk) (fun b o zz => ?_) (Nat.le_refl _) ⟨?_, _, e, hv, hat⟩, rfl, q qs _ hq (I1.hok.fresh (Nat.le_refl _))⟩
  · have lt := Heap.lt_size zz
    have lt2 : b < (h'.push (seqObj "list" acc.toList.toArray 0)).objs.size := Heap.lt_size (Heap.get?_push_of_some _ zz)
    rw [sortedHeap_old (Nat.ne_of_lt lt) lt2]
    exact Heap.get?_push_of_some _ zz
  · rw [List.length_map, hq.len, List.length_mergeSort]
    omega
end
end Wm
/-! del d[t], d.pop(t): keys that are tuples -/
namespace Wm
open PySem PySem.Spec PyProof.Rows L2 L2.DX
section
variable {X : Cx} {pins : List (Addr × Obj)} {σ : L2.St} {H : Hp} {s : Shared} {a b : Addr} {kvs : List (List L2.Key × V)} {k : List L2.Key} {o i e : Expr} {td ty : TE} {tpos pos apos cpos : Pos}
theorem at_of {H : Hp} {kvs : List (List L2.Key × V)} {xs : List (List L2.Key × Addr × Value)} {v : V} (rel : KT H kvs xs) (ev : valV kvs k = some v) : ∃ p, atKey xs k = some p ∧ RelV v p.2 := by
  have r := rel.val k
  rw [ev] at r
  cases h : atKey xs k with
  | none =>
    rw [h] at r
    exact (show False from r).elim
  | some p =>
    rw [h] at r
    exact ⟨p, rfl, r⟩
theorem inv_drop {h' : Heap} {tk : Nat} {xs : List (List L2.Key × Addr × Value)} (I : Inv X pins σ H s) (ha : H a = some (.dT kvs)) (z : kvs.length ≤ sizeLine) (hd : (a == sysModules) = false) (rel : KT H kvs xs)
    (dd : h'.DictOfH (tupleKind (mixKind X.prog X.w)) a (withoutH xs k)) (hs : Heap.SameBut a s.heap h') : Inv X pins σ (upd H a (.dT (dropK kvs k))) { s with heap := h', toks := tk } := by
  obtain ⟨o, es, ep, hq, h2, h3, h4, _, h5⟩ := dd
  exact d_write I (by rw [ha]; exact True.intro) hs ⟨o, hq⟩ ⟨Nat.le_trans (dropK_le kvs k) z, hd, _, (KT_drop k rel).keeps (fun c ys ec => (by rw [upd_ne (ne_of ec ha (fun z => nomatch z))]; exact ec)), o, es, ep, hq, h2, h3, h4, h5⟩
def sDDelT (td ty : TE) : TS := fun D σ H => td σ H fun x H1 => ty σ H1 fun y H2 => ∃ a kvs k b, x = .ref a ∧ y = .ref b ∧ H2 a = some (.dT kvs) ∧ H2 b = some (.tup (k.map kV)) ∧ (valV kvs k).isSome = true ∧ D.nx σ (upd H2 a (.dT (dropK kvs k)))
theorem ps_ddelT (hu : X.A.units + 1 < cLine) (ho : PE X o td) (hi : PE X i ty) : PS X (.Delete [.Subscript o i tpos] pos) (sDDelT td ty) := by
  refine ⟨fun pins s σ H D I h => ?_⟩
  refine wpAny_Delete (wpAny_deleteEach_cons (wpAny_delete_Subscript (thn (ho.run pins s σ H _ I h) fun u s1 ⟨x, H1, I1, rx, q1⟩ => thn (hi.run pins s1 σ H1 _ I1 q1) fun iv s2 ⟨y, H2, I2, ry, a, kvs, k, b, ex, ey, ea, eb, l, q2⟩ => ?_)))
  subst ex ey
  obtain rfl : u = Value.ref a := rx
  obtain rfl : iv = Value.ref b := ry
  obtain ⟨z, hd, xs, rel, dd⟩ := dt_of I2.hok ea
  obtain ⟨v, ev⟩ := Option.isSome_iff_exists.mp l
  obtain ⟨p, hp, _⟩ := at_of rel ev
  exact wpAny_delItem_heap (hsz := by rw [← Paired.length rel]; exact z) (knd := tupleKind (mixKind X.prog X.w)) (tupleKind_room_in1 hu) (key_of I2.hok eb) hd dd hp fun h' hm' hs => wpAny_deleteEach_nil ⟨σ, _, inv_drop I2 ea z hd rel hm' hs, q2⟩
def tDPopT1 (td ty : TE) : TE := fun σ H Q => td σ H fun x H1 => ∃ a, x = .ref a ∧ IsD H1 a ∧ ty σ H1 fun y H2 => ∃ kvs k b v, y = .ref b ∧ H2 a = some (.dT kvs) ∧ H2 b = some (.tup (k.map kV)) ∧ valV kvs k = some v ∧ Q v (upd H2 a (.dT (dropK kvs k)))
theorem pe_dpopT1 (hu : X.A.units + 1 < cLine) (ho : PE X o td) (he : PE X e ty) (m : M1 X o "pop" apos e cpos) : PE X (.Call (.Attribute o "pop" apos) [e] [] cpos) (tDPopT1 td ty) := by
  refine ⟨fun pins s σ H Q I h => ?_⟩
  refine wpAny_Call_method m.base m.few m.line PySem.F.plainAttrs_dict PySem.F.slot_dict_pop PySem.F.type_dict_pop (thn (ho.run pins s σ H _ I h) fun u s1 ⟨x, H1, I1, rx, a, ex, d, q1⟩ => ?_)
  subst ex
  obtain rfl : u = Value.ref a := rx
  obtain ⟨t1, t2, _⟩ := isD_at I1 d
  refine ⟨t1, t2, ?_⟩
  rw [m.trees]
  refine Calls.callWith_builtin rfl (Calls.evalArgs_plain (Calls.spliced_cons (thn (he.run pins s1 σ H1 _ I1 q1) fun iv s2 ⟨y, H2, I2, ry, kvs, k, b, v, ey, ea, eb, ev, q2⟩ => Calls.spliced_nil ?_)))
  subst ey
  obtain rfl : iv = Value.ref b := ry
  obtain ⟨z, hd, xs, rel, dd⟩ := dt_of I2.hok ea
  obtain ⟨p, hp, rp⟩ := at_of rel ev
  exact call_pop_heap (more := []) (hsz := by rw [← Paired.length rel]; exact z) (knd := tupleKind (mixKind X.prog X.w)) (.inl rfl) (PySem.F.args_dict_pop_2 _ _) (tupleKind_room_in1 hu) (key_of I2.hok eb) hd dd hp fun h' hm' hs => ⟨v, _, inv_drop I2 ea z hd rel hm' hs, rp, q2⟩
end
end Wm
/-! lists walked to their end while an error is handled: sum, comprehensions -/
namespace Wm
open PySem PySem.Spec PyProof.Rows L2 HotX
section
variable {prog : Program} {w : World} {A : Around} {E : Value → Shared → Prop} {s : Shared}
/-- a list iterator at its end: the StopIteration gets the handled error as its context, nothing else is touched -/
theorem next_end_hot {it l x1 : Addr} {i : Nat} {items : Array Value} {Q : Option Value → Shared → Prop} (hot : HotAt A x1 s.heap) (hne : x1 ≠ it) (hit : s.heap.IsListIter it l i) (hl : s.heap.IsList l items) (hx : items[i]? = none)
    (hQ : ∀ h', Heap.ExtBut it s.heap h' → Q none { s with heap := h' }) : wpAny (model prog w) A (pyNext (.ref it)) Q E s := by
  obtain ⟨hh, o1, vs1, g1, f1, c1⟩ := hot
  obtain ⟨oi, gi, ci, di⟩ := id hit
  obtain ⟨ol, gl, _, nl, dl⟩ := hl
  have slot := slot_listiter_next
  unfold pyNext
  refine wpAny_bind (wpAny_attempt (wpAny_callSpecial?_slot (name := Str.ofString "__next__") hit.typeIs slot (wpAny_call_entry slot hit.typeIs entry_listiter_next ?_ (args_listiter_next _))))
  have rd0 : ∀ {Q' : Value → Shared → Prop} {E'} {A'}, Q' (.ref l) s → wpAny (model prog w) A' (field (.ref it) 0) Q' E' s := fun q => wpAny_field gi di (x := .ref l) rfl q
  have rd1 : ∀ {Q' : Value → Shared → Prop} {E'} {A'}, Q' (.int i 0) s → wpAny (model prog w) A' (field (.ref it) 1) Q' E' s := fun q => wpAny_field gi di (x := .int i 0) rfl q
  show wpAny _ _ (field (.ref it) 0 >>= _) _ _ s
  refine wpAny_bind (rd0 ?_)
  show wpAny _ _ (if (Value.ref l == Value.none) = true then _ else _) _ _ s
  rw [if_neg (show ¬ ((Value.ref l == Value.none) = true) from Bool.false_ne_true)]
  show wpAny _ _ (field (.ref it) 1 >>= _) _ _ s
  refine wpAny_bind (rd1 ?_)
  show wpAny _ _ (seqItems? (.ref l) >>= _) _ _ s
  refine wpAny_bind (wpAny_seqItems gl dl ?_)
  simp only [Int.toNat_natCast, hx]
  refine wpAny_bind (wpAny_rule (wpAny_bind (wpAny_setField gi di (by simp) ?_)))
  show wpAny _ _ (newExc (.type "StopIteration") [] >>= _) _ _ _
  refine wpAny_bind ?_
  simp only [newExc, newTuple]
  refine wpAny_bind (wpAny_newObj_type ?_ (by size_fits))
  refine wpAny_bind (m := firstArgMember _ _) (wpAny_of_eq (a := Value.none) (by first | rfl | (simp only [firstArgMember]; rfl)) ?_)
  refine wpAny_newObj_type ?_ (by size_fits)
  refine raiseNew_hot ⟨hh, o1, vs1, (((Heap.SameBut.update ..).extBut.push _).push _) x1 o1 hne g1, f1, c1⟩ (Nat.ne_of_lt (Heap.lt_size (((Heap.SameBut.update ..).extBut.push _) x1 o1 hne g1))) (Heap.get?_push_size _ rfl) rfl (by first | (simp; done) | (simp; omega) | (simp only [Array.size_append]; simp; omega)) ?_
  refine wpAny_bind (wpAny_isInstance (T := "StopIteration") (b := true) ⟨_, Heap.get?_update_self _ (Heap.get?_push_size _ rfl) rfl, rfl⟩ isSubtype_stop ?_)
  refine wpAny_pure (hQ _ fun b o nb e => ?_)
  rw [Heap.get?_update_other _ _ (Nat.ne_of_gt (Heap.lt_size (((Heap.SameBut.update ..).extBut.push _) b o nb e)))]
  exact (((Heap.SameBut.update ..).extBut.push _).push _) b o nb e
/-- the walk over a list, the handled error's object kept in sight -/
theorem walks_hot {x1 : Addr} {o1 : Obj} {v1 : Array Value} (hh : A.handled = some (.ref x1)) (d1 : o1.data = .fields v1) (c1 : v1[2]? = some .none) (I ax : Addr) (hne : ax ≠ I) (hx : x1 ≠ I) (items : Array Value) :
    Walks prog w A I [I, ax, x1] [I] items.size (fun i v => items[i]? = some v) (fun i h => h.IsListIter I ax i ∧ h.IsList ax items ∧ h.get? x1 = some o1) where
  sub := fun b hb => by
    rw [List.mem_singleton.mp hb]
    exact List.mem_cons_self
  frame := fun i h h' ⟨a, b, c⟩ k => ⟨a.at fun o e => k I (by simp) o e, b.at fun o e => k ax (by simp) o e, k x1 (by simp) o1 c⟩
  item := fun i s Q E hi ⟨a, b, c⟩ q => by
    refine wpAny_pyNext_list_item a b (Array.getElem?_eq_getElem hi) fun h' a' sb => ?_
    exact q _ h' s.toks (Array.getElem?_eq_getElem hi) ⟨a', b.at fun o e => (sb.2 ax hne).trans e, (sb.2 x1 hx).trans c⟩ fun y o ny e => (sb.2 y (fun z => ny (by rw [z]; exact List.mem_cons_self))).trans e
  done := fun s Q E ⟨a, b, c⟩ q => next_end_hot ⟨hh, o1, v1, c, d1, c1⟩ hx a b (Array.getElem?_eq_none (Nat.le_refl _)) fun h' eb => q h' s.toks fun y o ny e => eb y o (fun z => ny (by rw [z]; exact List.mem_cons_self)) e
  self := fun i s Q E ⟨a, _, _⟩ q => wpAny_pyIter_listiter a q
theorem sum_hot {l x1 : Addr} {o1 : Obj} {v1 : Array Value} {its : List Value} {ns : List Int} {Q : Value → Shared → Prop} (hh : A.handled = some (.ref x1)) (g1 : s.heap.get? x1 = some o1) (d1 : o1.data = .fields v1) (c1 : v1[2]? = some .none) (hl : s.heap.IsList l its.toArray) (hi : IntsAre its ns)
    (h : ∀ h' tk t', (∀ b o, s.heap.get? b = some o → h'.get? b = some o) → Q (.int ns.sum t') { s with heap := h', toks := tk }) : wpAny (model prog w) A (call (.builtin "sum") [.ref l]) Q E s := by
  obtain ⟨xs, e⟩ := hi.allInts.items
  have hn : numsOf (intItems xs).toList = ns := by rw [← e]; exact hi.numsOf
  rw [nums_intItems] at hn
  rw [e] at hl
  refine call_sum_walkG (iter_intList hl fun s2 e2 st fpl hlI => ?_)
  subst e2
  have hx : x1 ≠ s.heap.objs.size := Nat.ne_of_lt (Heap.lt_size g1)
  refine ⟨_, _, _, _, _, _, numAt xs, rfl, walks_hot (A := A.in1) hh d1 c1 _ l hlI hx (intItems xs), ⟨st.1, st.2, Heap.get?_push_of_some _ g1⟩, fun b hb => ?_, (fun _ _ => intItems_at), fun h' tk t' hk => ?_⟩
  · rcases List.mem_cons.mp hb with z | hb
    · exact fpl b (by rw [z]; simp)
    rcases List.mem_cons.mp hb with z | hb
    · exact fpl b (by rw [z]; simp)
    · rw [List.mem_singleton.mp hb]
      exact Heap.lt_size (Heap.get?_push_of_some _ g1)
  · have q := h h' tk t' (old_kept hk)
    have e3 : preSum (numAt xs) (intItems xs).size = ns.sum := by
      rw [preSum_eq, List.take_of_length_le (by simp [intItems]), hn]
    rw [e3]
    exact q
end
section
variable {X : Cx} {a : Addr} {oe : Obj} {vf : Array Value} {pn : List (Addr × Obj)}
theorem cr_sumH (hf : oe.data = .fields vf) (hn : vf[2]? = some .none) : CallR (X.suite a ((a, oe) :: pn)) (.builtin "sum") (rSum X.K) := by
  intro pins s σ H vs us Q I r h
  obtain ⟨l, ns, rfl, hs, q⟩ := h
  obtain ⟨its, rv, hl, _⟩ := I.list hs
  have P1 := I.pin (a, oe) (List.mem_append_left _ (List.mem_cons_self ..))
  rw [Vals.ref1 r]
  exact sum_hot (x1 := a) rfl P1.1 hf hn hl.isList rv.ints fun h' tk t' hk => ⟨.int _, H, I.kept hk, ⟨_, rfl⟩, q⟩
end
end Wm
/-! [elt for target in a list], no tests, while an error is handled -/
namespace Wm
open PySem PySem.Spec PyProof.Rows L2 HotX
/-- W i: what holds ahead of the turn i -/
def tLcH (K : PySem.W.Frag) (tl : TE) (g : TG) (te : TE) (vs : List Nat) : TE := fun σ H Q => tl σ H fun v H1 => ∃ (l : Addr) (xs : List V), v = .ref l ∧ SqL K H1 l xs ∧ ∀ D, H1 D = none → ∃ W : Nat → Hp → Prop, W 0 (upd H1 D (.lst [])) ∧ (∀ i H', W i H' → SqL K H' l xs) ∧
  (∀ i x H', xs[i]? = some x → W i H' → g x (wipe σ vs) H' fun σ2 H2 => wipe σ2 vs = wipe σ vs ∧ te σ2 H2 fun y H4 => ∃ acc, H4 D = some (.lst acc) ∧ acc.length < sizeLine ∧ W (i + 1) (upd H4 D (.lst (acc ++ [y])))) ∧ ∀ H', W xs.length H' → Q (.ref D) H'
section
variable {X : Cx} {a : Addr} {oe : Obj} {vf : Array Value}
theorem pe_lcH {elt tg l : Expr} {scope : Scope} {own : List (Str × Nat)} {pos : Pos} {tl : TE} {g : TG} {te : TE} (hA : X.A.handled = some (.ref a)) (hpn : (a, oe) ∈ X.pn) (hf : oe.data = .fields vf) (hn : vf[2]? = some .none) (hN : X.N.Nodup) (hl : PE X l tl) (ok : BlkOk X.N X.env.scope scope own)
    (hg : ∀ (s : Shared) (H : Hp) (C : Addr) (cl : List (Str × Addr)) (fp : List Addr), PG (X.blk s H scope (compEnvC scope cl C X.env) fp) tg g)
    (he : ∀ (s : Shared) (H : Hp) (C : Addr) (cl : List (Str × Addr)) (fp : List Addr), PE (X.blk s H scope (compEnvC scope cl C X.env) fp) elt te) (hs : ∀ x, foldedSetIterable l X.env x = pure x := by intro _; rfl) :
    PE X (.ListComp elt [⟨tg, l, [], 0⟩] scope pos) (tLcH X.K tl g te (own.map (·.2))) := by
  refine ⟨fun pins s σ H Q I h => ?_⟩
  rw [eval_ListComp]
  have cells : ∀ y ∈ scope.names, y.2 = .free → ∃ c, X.env.cells.lookup y.1 = some c := fun y hy e => (ok.free y hy e).elim (fun k => I.ok.has _ (.inl k)) (fun k => I.ok.has _ (.inr k))
  refine wpAny_comprehension_free (use := none) rfl hs (closure_ok cells) ok.kind (fun y hy e => by rw [ok.uniq y hy, e]) (thn (hl.run pins s σ H _ I h) fun v s1 ⟨x, H1, I1, r1, q1⟩ => ?_)
  obtain ⟨la, xs, rfl, hq, q⟩ := q1
  cases r1
  obtain ⟨its, rv, p, hz⟩ := I1.list hq
  refine wpAny_pyIter_list p.isList ?_
  -- the iterator, the new list, the block
  generalize hit : s1.heap.objs.size = it
  have itn : H1 it = none := I1.hok.fresh (Nat.le_of_eq hit)
  have I2 : Inv X pins σ H1 { s1 with heap := s1.heap.push { cls := .type "list_iterator", data := .fields #[.ref la, .int 0 0] } } := I1.kept (t' := s1.toks) fun b o e => Heap.get?_push_of_some _ e
  have st2 : ({ s1 with heap := s1.heap.push { cls := .type "list_iterator", data := .fields #[.ref la, .int 0 0] } } : Shared).heap.IsListIter it la 0 := by
    rw [← hit]
    exact ⟨_, Heap.get?_push_size _ rfl, rfl, rfl⟩
  have fp2 : FpOk X pins H1 it := I1.fpOk (Nat.le_of_eq hit) itn
  generalize hs2 : ({ s1 with heap := s1.heap.push { cls := .type "list_iterator", data := .fields #[.ref la, .int 0 0] } } : Shared) = s2 at I2 st2 ⊢
  refine wpAny_newObj_type (newEnv_comp ?_) (by show 0 ≤ sizeLine; decide)
  generalize hD : s2.heap.objs.size = D
  have Dn : H1 D = none := I2.hok.fresh (Nat.le_of_eq hD)
  have itD : it ≠ D := fun z => by
    obtain ⟨o, e, _⟩ := st2
    exact absurd (Heap.lt_size e) (by rw [z, ← hD]; exact Nat.lt_irrefl _)
  obtain ⟨W, w0, wq, step, fin⟩ := q D Dn
  have I3 : Inv X pins σ (upd H1 D (.lst [])) { s2 with heap := s2.heap.push { cls := .type "list", data := .seq ([] : List Value).toArray } } := by
    refine I2.laid (t' := s2.toks) (fun b o e => Heap.get?_push_of_some _ e) (Nat.le_of_eq hD) ⟨Nat.zero_le _, [], 0, .nil, ?_⟩
    rw [← hD]
    exact Heap.get?_push_size _ rfl
  have st3 : ({ s2 with heap := s2.heap.push { cls := .type "list", data := .seq ([] : List Value).toArray } } : Shared).heap.IsListIter it la 0 := st2.at fun o e => Heap.get?_push_of_some _ e
  generalize ({ s2 with heap := s2.heap.push { cls := .type "list", data := .seq ([] : List Value).toArray } } : Shared) = s3 at I3 st3 ⊢
  generalize hH3 : upd H1 D (.lst []) = H3 at I3 w0
  have it3 : H3 it = none := by rw [← hH3, upd_ne itD]; exact itn
  have fp3 : ∀ b ∈ [it], FpOk X pins H3 b ∧ b < s3.heap.objs.size := fun b hb => by
    rw [List.mem_singleton.mp hb]
    obtain ⟨o, e, _⟩ := st3
    exact ⟨⟨it3, fp2.2⟩, Heap.lt_size e⟩
  have I4 := block_start I3 ok hN fp3
  have pg := hg s3 H3 s3.heap.objs.size (cellsFrom (s3.heap.objs.size + 1) scope.names (cloFrom X.env.cells scope.names [])) [it]
  have pe := he s3 H3 s3.heap.objs.size (cellsFrom (s3.heap.objs.size + 1) scope.names (cloFrom X.env.cells scope.names [])) [it]
  have P3 := I3.pin (a, oe) (List.mem_append_left _ hpn)
  have aS : a ∉ frs X.stack := fun z => (List.mem_cons.mp (I3.stkSub a z)).elim P3.2.2.1 P3.2.2.2.1
  have aI : a ≠ it := fun z => fp2.2.2.2.2.2 (a, oe) (List.mem_append_left _ hpn) z
  show codeAny _ _ (.compStart (.ListComp elt [⟨tg, l, [], 0⟩] scope pos) 0 (.ref it) (.ref D) (compEnvC scope (cellsFrom (s3.heap.objs.size + 1) scope.names (cloFrom X.env.cells scope.names [])) s3.heap.objs.size X.env)) _ { s3 with heap := pushCells (s3.heap.push { cls := .type "dict", data := .dict #[] }) scope.names }
  generalize hce : compEnvC scope (cellsFrom (s3.heap.objs.size + 1) scope.names (cloFrom X.env.cells scope.names [])) s3.heap.objs.size X.env = ce at I4 pg pe ⊢
  have cL : ce.locals = s3.heap.objs.size := by subst hce; rfl
  have st4 : ({ s3 with heap := pushCells (s3.heap.push { cls := .type "dict", data := .dict #[] }) scope.names } : Shared).heap.IsListIter it la 0 := st3.at fun o e => pushCells_keeps _ _ _ _ (Heap.get?_push_of_some _ e)
  generalize ({ s3 with heap := pushCells (s3.heap.push { cls := .type "dict", data := .dict #[] }) scope.names } : Shared) = s4 at I4 st4 ⊢
  -- the iterator stands apart in every state of the block
  have apart : ∀ {σ' : L2.St} {H' : Hp} {s' : Shared}, Inv (X.blk s3 H3 scope ce [it]) [] σ' H' s' → H' it = none → FpOk (X.blk s3 H3 scope ce [it]) [] H' it := fun {σ' H' s'} I' z =>
    have m : it ∈ [it] := List.mem_cons_self
    ⟨z, (I'.ok.exf it m).1, I'.ok.exfs it m, .inl m, fun y c e => (I'.ok.exf it m).2 y c e, fun p hp => (List.not_mem_nil (show p ∈ ([] : List (Addr × Obj)) from hp)).elim⟩
  have loop : codeAny (model X.prog X.w) X.A (.compLoop (.ListComp elt [⟨tg, l, [], 0⟩] scope pos) 0 (.ref it) (.ref D) ce) (compPost (model X.prog X.w) X.A X.xe none (EP X pins σ Q) (.ref D) s3.heap.objs.size) s4 := by
    refine compLoop_any (fun n s' => ∃ i H', i + n = xs.length ∧ Inv (X.blk s3 H3 scope ce [it]) [] (wipe σ (own.map (·.2))) H' s' ∧ s'.heap.IsListIter it la i ∧ H' it = none ∧ W i H') ?_ xs.length ⟨0, H3, Nat.zero_add _, I4, st4, it3, w0⟩
    rintro n s5 ⟨i, H5, hi, I5, st5, n5, w5⟩
    obtain ⟨its5, rv5, p5, _⟩ := I5.list (wq i H5 w5)
    have hl5 := rv5.length
    have F5 := apart I5 n5
    obtain ⟨f0, f1, f2, f3, f4, f5⟩ := F5
    cases n with
    | zero =>
      have hot : HotAt X.A a s5.heap := ⟨hA, oe, vf, I5.base.keep a oe P3.1 P3.2.1 aS (fun z => aI (List.mem_singleton.mp z)), hf, hn⟩
      refine next_end_hot hot aI st5 p5.isList (by simp; omega) fun h' eb => ?_
      have I6 : Inv (X.blk s3 H3 scope ce [it]) [] (wipe σ (own.map (·.2))) H5 { s5 with heap := h' } := I5.turned (t' := s5.toks) (fun b o hb e => eb b o hb e) f0 f1 f3 f4 f5
      have I7 : Inv X pins σ H5 { s5 with heap := h' } := I3.call' (ch := [it]) I6.os I6.base I6.hok I6.bare fun b hb => ⟨(fp3 b hb).1.2.2.2.1, (fp3 b hb).1.2.1, (fp3 b hb).1.2.2.2.2.1, (fp3 b hb).1.2.2.2.2.2⟩
      have nC : H5 s3.heap.objs.size = none := by
        rw [← cL]
        exact I6.free
      obtain ⟨m, hm, _⟩ := I6.loc
      have hm : ({ s5 with heap := h' } : Shared).heap.Ns ce.locals m := hm
      rw [cL] at hm
      obtain ⟨k0, k1, k2, k3, k4, k5⟩ := I3.fpOk (Nat.le_refl _) nC
      refine ⟨m, hm, fun h'' sb => ⟨.ref D, H5, I7.turned (t' := s5.toks) (fun b o hb e => (sb.2 b hb).trans e) k0 k1 k3 k4 k5, rfl, fin H5 ?_⟩⟩
      have e : i = xs.length := by omega
      rw [← e]
      exact w5
    | succ n =>
      have hlt : i < xs.length := by omega
      obtain ⟨u, hu, ru⟩ := rv5.get (List.getElem?_eq_getElem hlt)
      refine wpAny_pyNext_list_item st5 p5.isList (x := u) (by simpa using hu) fun h' st6 sb => ?_
      have I6 : Inv (X.blk s3 H3 scope ce [it]) [] (wipe σ (own.map (·.2))) H5 { s5 with heap := h' } := I5.turned (t' := s5.toks) (fun b o hb e => (sb.2 b hb).trans e) f0 f1 f3 f4 f5
      obtain ⟨o6, e6, c6, d6⟩ := id st6
      refine go_of (s := { s5 with heap := h' }) e6 c6 d6 (by decide) ?_
      have I6' := I6.pinned (fp := [it]) (fun b hb => by rw [List.mem_singleton.mp hb]; exact apart I6 n5) (fun b hb => by rw [List.mem_singleton.mp hb]; exact ⟨o6, e6, fun v z => by rw [d6] at z; cases z⟩)
      refine thnF (pg.run _ _ _ H5 _ u _ I6' ru (step i _ H5 (List.getElem?_eq_getElem hlt) w5)) fun _ s8 ⟨σ8, H8, I8, hw8, q8⟩ => ?_
      refine wpAny_tests_nil ?_
      simp only [if_true]
      refine thnF (pe.run _ s8 σ8 H8 _ I8 q8) fun z s10 ⟨yv, H10, I10, r10, acc, hD10, hz10, nx⟩ => ?_
      refine app_ok (X := X.blk s3 H3 scope ce [it]) I10 hD10 hz10 r10 fun s11 I11 => ?_
      have pin := I11.pin (it, o6) (List.mem_append_right _ (List.mem_append_right _ (mem_pinsAt List.mem_cons_self e6)))
      refine ⟨n, Nat.lt_succ_self n, i + 1, _, by omega, (I11.unpinned (pins := [])).weak (by rw [← hw8, wipe_length]) (fun j v e => ?_), st6.at fun o e => ?_, pin.2.1, nx⟩
      · rw [← hw8] at e
        exact (wipe_some e).1
      · rw [e6] at e
        cases e
        exact pin.1
  exact codeAny_compStart_list loop (wpAny_pyIter_listiter st4 loop)
end
end Wm
namespace Wm
open PySem L2
/-- str(o), o an instance of the class at C, whose __str__ is the def at f -/
def rStrO (C : Addr) (sp : Sp) : List V → Hp → VK → Prop := fun xs H Q => ∃ (a dx : Addr) (fs : List (Str × V)), xs = [.ref a] ∧ H a = some (.ins C dx fs) ∧ sp [.ref a] H (fun v H' => ∃ z : Str, v = .str z ∧ Q (.str z) H') E0
theorem call_strO {X : Cx} {C f : Addr} {fd : FuncData} {k : Nat} {sp : Sp} (hs : PySem.W.findIn X.K (.ref C) "__str__" = some (some (.ref f))) (hf : PySem.W.isFn X.K (.ref f) = true) (F : FnOk X.prog X.w X.K X.mg X.base CX0 k f fd ["self"] sp) (hr : Room (k + 2) X.A) (hb : Binds X.K fd ["self"] []) :
    CallR X (.type "str") (rStrO C sp) := by
  intro pins s σ H xs us Q I r h
  obtain ⟨a, dx, fs, rfl, ha, h⟩ := h
  cases r with
  | cons rx rr =>
    cases rr
    cases rx
    obtain ⟨mA, ob, _⟩ := ins_get I.hok ha
    obtain ⟨od, J, _⟩ := ob.look
    have hr1 : Room (k + 1) X.A.in1 := hr.in1
    have hr2 : Room k X.A.in1.in1 := hr1.in1
    refine PySem.W.kso_call hr2.units0 I.kIn J hs hf ?_
    have hl : ([Value.ref a] ++ []).length = (["self"] : List Str).length := rfl
    have rv : Vals [V.ref a] [Value.ref a] := .cons rfl .nil
    refine wpAny_call (codeAny_mono (F.run X.A.in1.in1 X.stack s H ⟨[Value.ref a], []⟩ [Value.ref a] [V.ref a] _ E0 hr2 I.env0.in1.in1 (hb s [Value.ref a] I.kIn hl) rv h) fun r s' hq => ?_)
    cases r with
    | error e => exact hq.elim
    | ok fl =>
      cases fl with
      | ret u =>
        obtain ⟨v, H', J', ru, z, rfl, q⟩ := I.after (Q := fun v H' => ∃ z : Str, v = .str z ∧ Q (.str z) H') hq
        obtain ⟨t, rfl⟩ := ru
        exact ⟨.str z, H', J', ⟨t, rfl⟩, q⟩
      | next => exact False.elim hq
      | brk => exact False.elim hq
      | cont => exact False.elim hq
end Wm
namespace Wm
open L2 PySem PySem.W
/-- a def to which a caught error is handed within the suite that caught it -/
structure FnE (P : Program) (w : World) (K : Frag) (mg : Str → Option Value) (base : Heap) (k : Nat) (f : Addr) (fd : FuncData) (ps : List Str)
    (sp : Addr → Value → Option Addr → Sp) : Prop where
  len : ∀ a cls d vs H Q E, sp a cls d vs H Q E → vs.length = ps.length
  run : ∀ (A : Around) (outer : List Env) (s : Shared) (H : Hp) (args : Args) (us : List Value) (vs : List V) (Q : VK) (E : XK) (a : Addr) (oe : Obj) (cls : Value) (d : Option Addr),
    L2H.RoomH k A → A.handled = some (.ref a) → Zc cls d oe → (∃ vs, oe.data = .fields vs) → L2H.PinOk outer H s (a, oe) → Env0 P w K mg base A outer s H →
    BindsTo s fd args (ps.zip us) → Vals vs us → sp a cls d vs H Q E → codeAny (model P w) A (.call (.ref f) args) (CR CX0 outer P w H s Q E) s
theorem mark_self {A : Around} {a : Addr} (h : A.handled = some (.ref a)) : A.mark (some (.ref a)) = A := by
  cases A
  simp only at h
  subst h
  rfl
theorem fn_ofE {P : Program} {w : World} {K : Frag} {mg : Str → Option Value} {base : Heap} {k : Nat} {f : Addr} {name qual : Str} {params : Arguments} {body : List Stmt} {scope : Scope}
    {dV kV doc pm cdv ct oc : Value} {an od : Option Addr} {osl : Array (Option Value)} {N ps : List Str} {sp : Addr → Value → Option Addr → Sp}
    (lk : List.lookup f K = some { cls := oc, dict := od, data := .func (fnOf name qual params body scope dV kV doc pm an cdv ct), slots := osl })
    (hcd : codeIn K cdv qual = true) (S : FnScope N ps scope)
    (len : ∀ a cls d vs H Q E, sp a cls d vs H Q E → vs.length = ps.length)
    (hbody : ∀ (A : Around) (outer : List Env) (s : Shared) (H : Hp) (vs : List V) (Q : VK) (E : XK) (a : Addr) (oe : Obj) (cls : Value) (d : Option Addr),
      Zc cls d oe → (∃ vs, oe.data = .fields vs) → L2H.RoomH k (A.deeper (PyProof.Rows.envOfC qual scope s.heap.objs.size f cdv)) → sp a cls d vs H Q E →
      ∃ t, PSs ((cxOf CX0 P w K mg base N qual scope f cdv A outer s H E).suite a [(a, oe)]) body t ∧ t { nx := fun _ H' => Q .non H', rt := Q } (L2.start N vs) H) :
    FnE P w K mg base (k + 1) f (fnOf name qual params body scope dV kV doc pm an cdv ct) ps sp where
  len := len
  run := by
    intro A outer s H args us vs Q E a oe cls d hr hh hz hf hpin e0 hb r hsp
    have KX := Frag.In.keeps e0.mod.kin fun b o e => (e0.bs b o e).1
    have lim := Heap.NoLimit.keeps e0.mod.nolimit fun b o e => (e0.bs b o e).1
    refine codeAny_call_function hr.depth (KX f _ lk) rfl S.co S.gen rfl (codeRec_of KX hcd) (hb _ A.in1 _ _ (wpAny_newFunctionEnv_cells S.kind ?_ ?_))
    · rintro ⟨n, v⟩ hy
      rcases S.par n (List.of_mem_zip hy).1 with q | q
      · exact Or.inl q
      · exact Or.inr ⟨q, cellsFrom_some scope.names (s.heap.objs.size + 1) [] (Or.inl q)⟩
    · intro env he s1 x
      subst he
      refine ⟨Heap.NoLimit.keeps lim x.toInCall.keep, codeAny_func ?_⟩
      obtain ⟨t, ht, hq⟩ := hbody A outer s H vs Q E a oe cls d hz hf (L2H.RoomH.deeper hr _) hsp
      have I := L2H.inv_startH (CX := CX0) (E := E) S hpin e0 (len _ _ _ _ _ _ _ hsp) r x
      have hm : (A.deeper (PyProof.Rows.envOfC qual scope s.heap.objs.size f cdv)).mark (some (.ref a)) = A.deeper (PyProof.Rows.envOfC qual scope s.heap.objs.size f cdv) := mark_self hh
      have o := I.ok
      have I2 : Inv ((cxOf CX0 P w K mg base N qual scope f cdv A outer s H E).suite a [(a, oe)]) [] (L2.start N vs) H s1 :=
        ⟨⟨o.mod, o.kind, o.glob, o.blt, o.above, o.inj, o.has, o.cab, (fun h => by cases h), o.frames, o.stk, o.exf, o.bs, o.bsz, o.noex, o.exfs, o.funs, o.frf⟩,
          I.os, I.bare, I.base, I.loc, I.cell, I.free, I.freeC, I.pin, I.hok, I.len⟩
      have go := ht.run [] s1 (L2.start N vs) H { nx := fun _ H' => Q .non H', rt := Q } I2 hq
      dsimp only [Cx.suite, cxOf] at go
      rw [hm] at go
      refine wpAny_mono go (fun fl s' hs => ?_) fun e s' hs => hs.elim
      cases fl with
      | next =>
        obtain ⟨σ', H', J, q⟩ := hs
        exact ⟨.non, H', J.os, J.bare, J.base, J.hok, rfl, q⟩
      | brk =>
        obtain ⟨_, _, _, q⟩ := hs
        exact q.elim
      | cont =>
        obtain ⟨_, _, _, q⟩ := hs
        exact q.elim
      | ret u =>
        obtain ⟨v, σ', H', J, rv, q⟩ := hs
        exact ⟨v, H', J.os, J.bare, J.base, J.hok, rv, q⟩
theorem FunE_ok {P : Program} {w : World} {K : Frag} {mg : Str → Option Value} {base : Heap} {x qual : Str} {st : Stmt} {f : Addr} {fd : FuncData} {N ps : List Str} {k : Nat} {sp : Addr → Value → Option Addr → Sp}
    (F : Fun K x qual st f fd) (S : FnScope N ps (defScope st))
    (len : ∀ a cls d vs H Q E, sp a cls d vs H Q E → vs.length = ps.length)
    (hbody : ∀ (cdv : Value) (A : Around) (outer : List Env) (s : Shared) (H : Hp) (vs : List V) (Q : VK) (E : XK) (a : Addr) (oe : Obj) (cls : Value) (d : Option Addr),
      Zc cls d oe → (∃ vs, oe.data = .fields vs) → L2H.RoomH k (A.deeper (PyProof.Rows.envOfC qual (defScope st) s.heap.objs.size f cdv)) → sp a cls d vs H Q E →
      ∃ t, PSs ((cxOf CX0 P w K mg base N qual (defScope st) f cdv A outer s H E).suite a [(a, oe)]) (defBody st) t ∧ t { nx := fun _ H' => Q .non H', rt := Q } (L2.start N vs) H) :
    FnE P w K mg base (k + 1) f fd ps sp := by
  obtain ⟨oc, od, kV, doc, pm, an, cdv, ct, osl, rfl, lk, hcd⟩ := F.ex
  exact fn_ofE lk hcd S len fun A outer s H vs Q E a oe cls d hz hf hr hsp => hbody cdv A outer s H vs Q E a oe cls d hz hf hr hsp
/-- the call f(e, ..) of such a def within the suite -/
def tCallE (sp : Sp) (t : TA) : TE := fun σ H Q => t σ H fun vs H1 => sp vs H1 Q (fun _ _ _ => False)
theorem pe_callE {X : Cx} {k : Nat} {f : Addr} {fd : FuncData} {ps : List Str} {sp : Addr → Value → Option Addr → Sp} {a : Addr} {oe : Obj} {cls : Value} {d : Option Addr} {pn : List (Addr × Obj)}
    {x : Str} {q pos : Pos} {e : Expr} {es : List Expr} {t : TA}
    (F : FnE X.prog X.w X.K X.mg X.base k f fd ps sp) (hr : L2H.RoomH k X.A) (hz : Zc cls d oe) (hf : ∃ vs, oe.data = .fields vs) (hg : Gl X x) (hm : X.mg x = some (.ref f))
    (hk : keepIn X.K (.ref f) = true) (hb : L2.Binds X.K fd ps []) (ha : PA (X.suite a ((a, oe) :: pn)) (e :: es) t)
    (hdb : (x == Str.ofString "__debug__") = false := by rfl) (he : starEach (e :: es) X.env = (false, eval e X.env) :: starEach es X.env := by rfl)
    (hpl : ((backTo pos (starEach es X.env)).any fun x => x.1) = false := by rfl) :
    PE (X.suite a ((a, oe) :: pn)) (.Call (.Name x q) (e :: es) [] pos) (tCallE (sp a cls d) t) where
  run := by
    intro pins s σ H Q I h
    refine wpAny_Call_Name_kw (ld_glob I hg hm (callWith_K I.ok.mod.kin hk (thn (ha.run pos pins s σ H _ I h) ?_) he hpl) hdb)
    rintro us s1 ⟨vs, H1, I1, r, h1⟩
    refine ⟨I1.kIn, ?_⟩
    have P1 := I1.pin (a, oe) (List.mem_append_left _ (List.mem_cons_self ..))
    have hp : L2H.PinOk X.stack H1 s1 (a, oe) := ⟨P1.1, P1.2.1, fun hx => (List.mem_cons.mp (I1.stkSub a hx)).elim P1.2.2.1 P1.2.2.2.1, P1.2.2.2.2⟩
    have hl : (us ++ []).length = ps.length := by rw [List.append_nil, ← r.length]; exact F.len _ _ _ _ _ _ _ h1
    have b := hb s1 us I1.kIn hl
    rw [List.append_nil] at b
    have hr2 : L2H.RoomH k (X.suite a ((a, oe) :: pn)).A := ⟨hr.dp, hr.un⟩
    refine wpAny_call (codeAny_mono (F.run (X.suite a ((a, oe) :: pn)).A X.stack s1 H1 ⟨us, []⟩ us vs Q _ a oe cls d hr2 rfl hz hf hp I1.env0 b r h1) fun r s' hq => ?_)
    cases r with
    | error e => exact hq.elim
    | ok fl =>
      cases fl with
      | next => exact hq.elim
      | brk => exact hq.elim
      | cont => exact hq.elim
      | ret u => exact I1.after hq
end Wm
/-! own errors whose context is known to be None, from raise to the suite that hands them on -/
namespace Wm
open PySem PySem.Spec PyProof.Rows L2
section
variable {X : Cx} {e : Expr} {es : List Expr} {ta : TA} {p pos : Pos}
/-- an own error made: its context is None -/
theorem pmkN_oex {CX : CXT} {x : Str} {C fI : Addr} {k : Nat} {fd : FuncData} {ps : List Str} {sp : Sp} (T : OexC X.K C) (iC : PySem.W.findIn X.K (.ref C) "__init__" = some (some (.ref fI))) (tI : PySem.W.typeIn X.K (.ref fI) = some (.type "function"))
    (G : FnOk X.prog X.w X.K X.mg X.base CX k fI fd ps sp) (hr : Room (k + 1) X.A) (hb : L2.Binds X.K fd ps []) (hx : Passes CX X (fun _ _ _ => False)) (hg : Gl X x) (hm : X.mg x = some (.ref C)) (ha : PA X (e :: es) ta)
    (hdb : (x == ("__debug__" : Str)) = false := by decide) (he : starEach (e :: es) X.env = (false, eval e X.env) :: starEach es X.env := by rfl) (hpl : (backTo pos (starEach es X.env)).any (·.1) = false := by rfl) :
    L2N.PMk X (.Call (.Name x p) (e :: es) [] pos) (tMkO C sp [] ta) := by
  intro pins s σ H Q I h
  obtain ⟨nm, q, N, bs, bm, sn, sub, ab, col, dd, k0, k1, k2, k3, k5, hC, hbm⟩ := T.cls
  refine wpAny_Call_Name_kw (ld_glob I hg hm (PySem.W.callWith_K (h₀ := X.base) I.ok.mod.kin T.kC (thn (ha.run pos pins s σ H _ I h) ?_) he hpl) hdb)
  rintro us ⟨hp, g, dr, tk, os⟩ ⟨vs, H1, I1, r1, hz, q1⟩
  refine ⟨I1.kIn, ?_⟩
  generalize hA : hp.objs.size + 1 = A1 at *
  have le : hp.objs.size ≤ A1 := by omega
  have fr : H1 A1 = none := I1.hok.fresh le
  have hq := q1 A1 fr
  rw [List.append_nil] at hq
  have kp : ∀ b o, hp.get? b = some o → ((hp.push (PySem.W.kdv_tup us)).push (PySem.HandSPX.excO C hp.objs.size)).get? b = some o := fun b o z => Heap.get?_push_of_some _ (Heap.get?_push_of_some _ z)
  have new : ((hp.push (PySem.W.kdv_tup us)).push (PySem.HandSPX.excO C hp.objs.size)).get? A1 = some (PySem.HandSPX.excO C hp.objs.size) := by
    rw [← hA]
    heap_get
  have I2 : Inv X pins σ (upd H1 A1 (exo A1 C none)) ⟨(hp.push (PySem.W.kdv_tup us)).push (PySem.HandSPX.excO C hp.objs.size), g, dr, tk, os⟩ := I1.laid (t' := tk) (a := A1) (o := exo A1 C none) kp le (exo_ok new)
  have r2 : Vals (V.ref A1 :: vs) (Value.ref A1 :: us) := .cons rfl r1
  have ln : (Value.ref A1 :: us ++ []).length = ps.length := by
    rw [List.append_nil, ← r2.length]
    exact G.len _ _ _ _ hq
  have b2 := hb _ (Value.ref A1 :: us) I2.kIn ln
  rw [List.append_nil] at b2
  have big : us.length ≤ sizeLine := by
    rw [← Paired.length r1, sizeLine_eq]
    omega
  subst hA
  refine wpAny_call (PySem.HandSPX.call_own F.excBase_ValueError (fun Y => PySem.HandSPX.refsVE_contains Y bm hbm) (I1.kIn _ _ hC) (PySem.W.looks_findIn I1.kIn iC) (fun self => PySem.W.bind_fn I1.kIn self tI) big
    (codeAny_mono (G.run _ X.stack _ _ _ _ _ _ (fun _ _ _ => False) (hr.make C us []) (I2.env0.make C us []) b2 r2 hq) fun r s' hq' => ?_))
  cases r with
  | error er => exact hx pins σ _ _ er s' I2 hq'
  | ok fl =>
    cases fl with
    | next => exact hq'.elim
    | brk => exact hq'.elim
    | cont => exact hq'.elim
    | ret u =>
      obtain ⟨v, H2, os2, bare2, un2, hok2, rv, rfl, d, fs, ea, ed, hd1, q2⟩ := hq'
      obtain ⟨h2, g2, d2, t2, os'⟩ := s'
      obtain ⟨t0, W, J, kW, ge, hoe, na⟩ := mk_end0 (d2 := d2) (t2 := t2) I1 le kp un2 hok2 os2 bare2 ea ed hd1
      refine ⟨rv, hp.objs.size + 1, _, _, ⟨W, g2, d2, t2, os'⟩, _, .ref C, some d, rfl, J, kW, ge, hoe, ⟨rfl, rfl, fun vs hv => ?_⟩, rfl, rfl, na, rfl, bare2, raises_own T.exC T.tyC, q2⟩
      cases hv
      rfl
end
section
variable {P : Program} {w : World} {K : PySem.W.Frag} {mg : Str → Option Value} {base : Heap}
theorem okN {x qual : Str} {st : Stmt} {f : Addr} {fd : FuncData} {N ps : List Str} {k : Nat} {sp : Sp} (F : Fun K x qual st f fd) (S : FnScope N ps (defScope st)) (len : ∀ vs H Q E, sp vs H Q E → vs.length = ps.length)
    (hbody : ∀ (cdv : Value) (A : Around) (outer : List Env) (s : Shared) (H : Hp) (vs : List V) (Q : VK) (E : XK), Room k (A.deeper (envOfC qual (defScope st) s.heap.objs.size f cdv)) → sp vs H Q E →
      ∃ t, PSs (cxOf (L2N.CX P w) P w K mg base N qual (defScope st) f cdv A outer s H E) (defBody st) t ∧ t { nx := fun _ H' => Q .non H', rt := Q } (L2.start N vs) H) : FnOk P w K mg base (L2N.CX P w) (k + 1) f fd ps sp := by
  obtain ⟨oc, od, kV, doc, pm, an, cdv, ct, osl, rfl, lk, hcd⟩ := F.ex
  exact fn_of lk hcd S len fun A outer s H vs Q E hr hsp => hbody cdv A outer s H vs Q E hr hsp
end
/-- around a body nothing is let out -/
theorem takesN0 {X : Cx} : L2N.Takes X (fun _ _ _ _ => False) := fun _ _ x => by
  obtain ⟨_, _, _, _, _, _, _, _, _, _, _, _, _, _, _, _, z⟩ := x
  exact z.elim
end Wm
namespace Wm
open PySem PySem.Spec PyProof.Rows L2
/-- len(o), o an instance of the class at C, whose __len__ is the def at f -/
def rLenO (C : Addr) (sp : Sp) : List V → Hp → VK → Prop := fun xs H Q => ∃ (a dx : Addr) (fs : List (Str × V)), xs = [.ref a] ∧ H a = some (.ins C dx fs) ∧ sp [.ref a] H (fun v H' => ∃ n : Nat, v = .int n ∧ n ≤ 1000000 ∧ Q (.int n) H') E0
theorem call_lenO {X : Cx} {C f : Addr} {fd : FuncData} {k : Nat} {sp : Sp} (hs : PySem.W.findIn X.K (.ref C) "__len__" = some (some (.ref f))) (hf : PySem.W.isFn X.K (.ref f) = true) (F : FnOk X.prog X.w X.K X.mg X.base CX0 k f fd ["self"] sp) (hr : Room (k + 1) X.A) (hb : L2.Binds X.K fd ["self"] []) :
    CallR X (.builtin "len") (rLenO C sp) := by
  intro pins s σ H xs us Q I r h
  obtain ⟨a, dx, fs, rfl, ha, h⟩ := h
  cases r with
  | cons rx rr =>
    cases rr
    cases rx
    obtain ⟨mA, ob, _⟩ := ins_get I.hok ha
    obtain ⟨od, J, _⟩ := ob.look
    have hr1 : Room k X.A.in1 := hr.in1
    obtain ⟨m, hF⟩ := I.fr
    refine PySem.W.len_K hF I.ok.mod.kin J hs hf ?_
    have hl : ([Value.ref a] ++ []).length = (["self"] : List Str).length := rfl
    have rv : Vals [V.ref a] [Value.ref a] := .cons rfl .nil
    refine wpAny_call (codeAny_mono (F.run X.A.in1 X.stack s H ⟨[Value.ref a], []⟩ [Value.ref a] [V.ref a] _ E0 hr1 I.env0.in1 (hb s [Value.ref a] I.kIn hl) rv h) fun r s' hq => ?_)
    cases r with
    | error e => exact hq.elim
    | ok fl =>
      cases fl with
      | ret u =>
        obtain ⟨v, H', J', ru, n, rfl, hn, q⟩ := I.after (Q := fun v H' => ∃ n : Nat, v = .int n ∧ n ≤ 1000000 ∧ Q (.int n) H') hq
        obtain ⟨t, rfl⟩ := ru
        exact ⟨⟨by omega, by omega⟩, .int n, H', J'.tok _, ⟨_, rfl⟩, q⟩
      | next => exact False.elim hq
      | brk => exact False.elim hq
      | cont => exact False.elim hq
section
variable {X : Cx} {p pos : Pos}
/-- an own error made with nothing handed in: its context is None -/
theorem pmkN_oex0 {CX : CXT} {x : Str} {C fI : Addr} {k : Nat} {fd : FuncData} {ps : List Str} {sp : Sp} (T : OexC X.K C) (iC : PySem.W.findIn X.K (.ref C) "__init__" = some (some (.ref fI))) (tI : PySem.W.typeIn X.K (.ref fI) = some (.type "function"))
    (G : FnOk X.prog X.w X.K X.mg X.base CX k fI fd ps sp) (hr : Room (k + 1) X.A) (hb : L2.Binds X.K fd ps []) (hx : Passes CX X (fun _ _ _ => False)) (hg : Gl X x) (hm : X.mg x = some (.ref C))
    (hdb : (x == ("__debug__" : Str)) = false := by decide) :
    L2N.PMk X (.Call (.Name x p) [] [] pos) (tMkO C sp [] tNil) := by
  intro pins s σ H Q I h
  obtain ⟨nm, q, N, bs, bm, sn, sub, ab, col, dd, k0, k1, k2, k3, k5, hC, hbm⟩ := T.cls
  refine wpAny_Call_Name_kw (ld_glob I hg hm (PySem.W.callWith_K0 I.kIn T.kC ?_) hdb)
  obtain ⟨hp, g, dr, tk, os⟩ := s
  obtain ⟨hz, q1⟩ := h
  generalize hA : hp.objs.size + 1 = A1 at *
  have le : hp.objs.size ≤ A1 := by omega
  have fr : H A1 = none := I.hok.fresh le
  have hq := q1 A1 fr
  rw [List.append_nil] at hq
  have kp : ∀ b o, hp.get? b = some o → ((hp.push (PySem.W.kdv_tup [])).push (PySem.HandSPX.excO C hp.objs.size)).get? b = some o := fun b o z => Heap.get?_push_of_some _ (Heap.get?_push_of_some _ z)
  have new : ((hp.push (PySem.W.kdv_tup [])).push (PySem.HandSPX.excO C hp.objs.size)).get? A1 = some (PySem.HandSPX.excO C hp.objs.size) := by
    rw [← hA]
    heap_get
  have I2 : Inv X pins σ (upd H A1 (exo A1 C none)) ⟨(hp.push (PySem.W.kdv_tup [])).push (PySem.HandSPX.excO C hp.objs.size), g, dr, tk, os⟩ := I.laid (t' := tk) (a := A1) (o := exo A1 C none) kp le (exo_ok new)
  have r2 : Vals (V.ref A1 :: []) (Value.ref A1 :: []) := .cons rfl .nil
  have ln : (Value.ref A1 :: [] ++ []).length = ps.length := by
    rw [List.append_nil, ← r2.length]
    exact G.len _ _ _ _ hq
  have b2 := hb _ (Value.ref A1 :: []) I2.kIn ln
  rw [List.append_nil] at b2
  subst hA
  refine wpAny_call (PySem.HandSPX.call_own F.excBase_ValueError (fun Y => PySem.HandSPX.refsVE_contains Y bm hbm) (I.kIn _ _ hC) (PySem.W.looks_findIn I.kIn iC) (fun self => PySem.W.bind_fn I.kIn self tI) (Nat.zero_le _)
    (codeAny_mono (G.run _ X.stack _ _ _ _ _ _ (fun _ _ _ => False) (hr.make C [] []) (I2.env0.make C [] []) b2 r2 hq) fun r s' hq' => ?_))
  cases r with
  | error er => exact hx pins σ _ _ er s' I2 hq'
  | ok fl =>
    cases fl with
    | next => exact hq'.elim
    | brk => exact hq'.elim
    | cont => exact hq'.elim
    | ret u =>
      obtain ⟨v, H2, os2, bare2, un2, hok2, rv, rfl, d, fs, ea, ed, hd1, q2⟩ := hq'
      obtain ⟨h2, g2, d2, t2, os'⟩ := s'
      obtain ⟨t0, W, J, kW, ge, hoe, na⟩ := mk_end0 (d2 := d2) (t2 := t2) I le kp un2 hok2 os2 bare2 ea ed hd1
      refine ⟨rv, hp.objs.size + 1, _, _, ⟨W, g2, d2, t2, os'⟩, _, .ref C, some d, rfl, J, kW, ge, hoe, ⟨rfl, rfl, fun vs hv => ?_⟩, rfl, rfl, na, rfl, bare2, raises_own T.exC T.tyC, q2⟩
      cases hv
      rfl
end
end Wm
namespace Wm
open PySem L2 StX
abbrev Thing := Str × Str × Bool
abbrev T3 := Str × Str × Str
def k1 (th : List Thing) : List (L2.Key × V) := th.map fun t => (Sum.inr t.1, .str t.2.1)
def k2 (th : List Thing) : List (L2.Key × V) := th.map fun t => (Sum.inr t.1, .bl t.2.2)
def k3 (ts : List T3) : List (List L2.Key × V) := ts.map fun t => (triK t, .bl true)
def nmL (th : List Thing) : List Str := th.map (·.1)
theorem val_is {κ : Type} [DecidableEq κ] (kvs : List (κ × V)) (k : κ) : (valV kvs k).isSome = decide (k ∈ kvs.map (·.1)) := by
  unfold valV
  rw [Option.isSome_map]
  by_cases h : k ∈ kvs.map (·.1)
  · rw [decide_eq_true h, List.find?_isSome]
    obtain ⟨x, hx, e⟩ := List.mem_map.mp h
    exact ⟨x, hx, decide_eq_true e⟩
  · rw [decide_eq_false h]
    cases e : kvs.find? (fun kv => decide (kv.1 = k)) with
    | none => rfl
    | some x =>
      have q := List.find?_some e
      exact (h (List.mem_map.mpr ⟨x, List.mem_of_find?_eq_some e, of_decide_eq_true q⟩)).elim
theorem keys1 (th : List Thing) : (k1 th).map (·.1) = (nmL th).map Sum.inr := by
  unfold k1 nmL
  rw [List.map_map, List.map_map]
  rfl
theorem keys2 (th : List Thing) : (k2 th).map (·.1) = (nmL th).map Sum.inr := by
  unfold k2 nmL
  rw [List.map_map, List.map_map]
  rfl
theorem inr_mem {n : Str} {l : List Str} : (Sum.inr n : L2.Key) ∈ l.map Sum.inr ↔ n ∈ l := by
  rw [List.mem_map]
  exact ⟨fun ⟨x, hx, e⟩ => by cases e; exact hx, fun h => ⟨n, h, rfl⟩⟩
theorem is1 (th : List Thing) (n : Str) : (valV (k1 th) (Sum.inr n)).isSome = decide (n ∈ nmL th) := by
  rw [val_is, keys1]
  exact decide_eq_decide.mpr inr_mem
theorem is2 (th : List Thing) (n : Str) : (valV (k2 th) (Sum.inr n)).isSome = decide (n ∈ nmL th) := by
  rw [val_is, keys2]
  exact decide_eq_decide.mpr inr_mem
theorem put_new {κ : Type} [DecidableEq κ] {kvs : List (κ × V)} {k : κ} {v : V} (h : k ∉ kvs.map (·.1)) : putK kvs k v = kvs ++ [(k, v)] := by
  unfold putK
  rw [if_neg]
  intro e
  obtain ⟨x, hx, q⟩ := List.any_eq_true.mp e
  exact h (List.mem_map.mpr ⟨x, hx, of_decide_eq_true q⟩)
theorem new1 {th : List Thing} {n s : Str} {b : Bool} (h : n ∉ nmL th) : putK (k1 th) (Sum.inr n) (.str s) = k1 (th ++ [(n, s, b)]) := by
  rw [put_new (by rw [keys1]; exact fun z => h (inr_mem.mp z))]
  unfold k1
  rw [List.map_append]
  rfl
theorem new2 {th : List Thing} {n s : Str} {b : Bool} (h : n ∉ nmL th) : putK (k2 th) (Sum.inr n) (.bl b) = k2 (th ++ [(n, s, b)]) := by
  rw [put_new (by rw [keys2]; exact fun z => h (inr_mem.mp z))]
  unfold k2
  rw [List.map_append]
  rfl
theorem triK_inj {t u : T3} (h : triK t = triK u) : t = u := by
  obtain ⟨a, b, c⟩ := t
  obtain ⟨d, e, f⟩ := u
  simp only [triK, List.cons.injEq, Sum.inr.injEq, and_true] at h
  obtain ⟨rfl, rfl, rfl⟩ := h
  rfl
theorem keys3 (ts : List T3) : (k3 ts).map (·.1) = ts.map triK := by
  unfold k3
  rw [List.map_map]
  rfl
/-- who is awake -/
def awk (th : List Thing) (n : Str) : Option Bool := (th.find? fun t => decide (t.1 = n)).map (·.2.2)
theorem val2 (th : List Thing) (n : Str) : valV (k2 th) (Sum.inr n) = (awk th n).map V.bl := by
  unfold valV k2 awk
  rw [List.find?_map]
  have e : ((fun kv : L2.Key × V => decide (kv.1 = Sum.inr n)) ∘ fun t : Thing => ((Sum.inr t.1 : L2.Key), V.bl t.2.2)) = fun t : Thing => decide (t.1 = n) := by
    funext t
    exact decide_eq_decide.mpr ⟨fun z => Sum.inr.inj z, fun z => congrArg Sum.inr z⟩
  rw [e, Option.map_map, Option.map_map]
  rfl
theorem awk_some {th : List Thing} {n : Str} (h : n ∈ nmL th) : ∃ b, awk th n = some b := by
  have q : (valV (k2 th) (Sum.inr n)).isSome = true := by
    rw [is2]
    exact decide_eq_true h
  rw [val2, Option.isSome_map] at q
  exact Option.isSome_iff_exists.mp q
def srt (th : List Thing) (n : Str) : Option Str := (th.find? fun t => decide (t.1 = n)).map (·.2.1)
theorem val1s (th : List Thing) (n : Str) : valV (k1 th) (Sum.inr n) = (srt th n).map V.str := by
  unfold valV k1 srt
  rw [List.find?_map]
  have e : ((fun kv : L2.Key × V => decide (kv.1 = Sum.inr n)) ∘ fun t : Thing => ((Sum.inr t.1 : L2.Key), V.str t.2.1)) = fun t : Thing => decide (t.1 = n) := by
    funext t
    exact decide_eq_decide.mpr ⟨fun z => Sum.inr.inj z, fun z => congrArg Sum.inr z⟩
  rw [e, Option.map_map, Option.map_map]
  rfl
theorem find_nd {th : List Thing} {t : Thing} (nd : (nmL th).Nodup) (h : t ∈ th) : (th.find? fun u => decide (u.1 = t.1)) = some t := by
  induction th with
  | nil => cases h
  | cons u r ih =>
    have nd' : (u.1 :: nmL r).Nodup := nd
    rw [List.nodup_cons] at nd'
    rcases List.mem_cons.mp h with e | h
    · rw [← e, List.find?_cons_of_pos (by exact decide_eq_true rfl)]
    · have ne : ¬ u.1 = t.1 := fun e => nd'.1 (by rw [e]; exact List.mem_map.mpr ⟨t, h, rfl⟩)
      rw [List.find?_cons_of_neg (by simpa using ne)]
      exact ih nd'.2 h
def hsF (sc d1 d2 d3 : Addr) : List (Str × V) := putF "standing" (.ref d3) (putF "awake_by_name" (.ref d2) (putF "sort_by_name" (.ref d1) (putF "own_scheme" (.ref sc) [])))
theorem hsF_sc (sc d1 d2 d3 : Addr) : (hsF sc d1 d2 d3).lookup ("own_scheme" : Str) = some (.ref sc) := by
  unfold hsF
  rw [lookN (by decide +kernel), lookN (by decide +kernel), lookN (by decide +kernel), lookF]
theorem hsF_1 (sc d1 d2 d3 : Addr) : (hsF sc d1 d2 d3).lookup ("sort_by_name" : Str) = some (.ref d1) := by
  unfold hsF
  rw [lookN (by decide +kernel), lookN (by decide +kernel), lookF]
theorem hsF_2 (sc d1 d2 d3 : Addr) : (hsF sc d1 d2 d3).lookup ("awake_by_name" : Str) = some (.ref d2) := by
  unfold hsF
  rw [lookN (by decide +kernel), lookF]
theorem hsF_3 (sc d1 d2 d3 : Addr) : (hsF sc d1 d2 d3).lookup ("standing" : Str) = some (.ref d3) := by
  unfold hsF
  rw [lookF]
theorem hsF_no {f : Str} (h1 : ¬ f = "standing") (h2 : ¬ f = "awake_by_name") (h3 : ¬ f = "sort_by_name") (h4 : ¬ f = "own_scheme") (sc d1 d2 d3 : Addr) : (hsF sc d1 d2 d3).lookup f = none := by
  unfold hsF
  rw [lookN h1, lookN h2, lookN h3, lookN h4]
  rfl
theorem schF_no {f : Str} (h1 : ¬ f = "own_bars") (h2 : ¬ f = "own_rules") (h3 : ¬ f = "own_makings") (h4 : ¬ f = "own_words") (h5 : ¬ f = "own_sorts") (l1 l2 l3 l4 l5 : Addr) : (schF l1 l2 l3 l4 l5).lookup f = none := by
  unfold schF
  rw [lookN h1, lookN h2, lookN h3, lookN h4, lookN h5]
  rfl
structure TxH (K : PySem.W.Frag) (mg : Str → Option Value) (HC fH : Addr) : Prop where
  cl : Cls K HC
  n0 : NoAttr K HC "own_scheme"
  n1 : NoAttr K HC "sort_by_name"
  n2 : NoAttr K HC "awake_by_name"
  n3 : NoAttr K HC "standing"
  g : mg "House" = some (.ref HC)
  m : Mk K HC fH
structure HsAt (HC S : Addr) (H : Hp) (x dx sc d1 d2 d3 : Addr) (ss ws : List Str) (th : List Thing) (ts : List T3) : Prop where
  hx : H x = some (.ins HC dx (hsF sc d1 d2 d3))
  hs : SchAt S H sc ss ws
  h1 : H d1 = some (.dK (k1 th))
  h2 : H d2 = some (.dK (k2 th))
  h3 : H d3 = some (.dT (k3 ts))
  ne : d1 ≠ d2
theorem SchAt.same {S x : Addr} {H H' : Hp} {ss ws : List Str} (s : Same H H') (h : SchAt S H x ss ws) : SchAt S H' x ss ws := by
  obtain ⟨dx, l1, l2, l3, l4, l5, a, b, c⟩ := h.ex
  exact ⟨dx, l1, l2, l3, l4, l5, s _ _ a, s _ _ b, s _ _ c⟩
theorem SchAt.but {S x d : Addr} {H H' : Hp} {ss ws : List Str} {o : HO} (s : But d H H') (hd : H d = some o) (n1 : ∀ C dx fs, o ≠ .ins C dx fs) (n2 : ∀ xs, o ≠ .lst xs) (h : SchAt S H x ss ws) : SchAt S H' x ss ws := by
  obtain ⟨dx, l1, l2, l3, l4, l5, a, b, c⟩ := h.ex
  exact ⟨dx, l1, l2, l3, l4, l5, s _ _ (ne_of a hd (n1 _ _ _).symm) a, s _ _ (ne_of b hd (n2 _).symm) b, s _ _ (ne_of c hd (n2 _).symm) c⟩
theorem HsAt.same {HC S x dx sc d1 d2 d3 : Addr} {H H' : Hp} {ss ws : List Str} {th : List Thing} {ts : List T3} (s : Same H H') (h : HsAt HC S H x dx sc d1 d2 d3 ss ws th ts) : HsAt HC S H' x dx sc d1 d2 d3 ss ws th ts :=
  ⟨s _ _ h.hx, h.hs.same s, s _ _ h.h1, s _ _ h.h2, s _ _ h.h3, h.ne⟩
theorem put_old {κ : Type} [DecidableEq κ] {kvs : List (κ × V)} {k : κ} {v : V} (h : k ∈ kvs.map (·.1)) : putK kvs k v = kvs.map (fun kv => if kv.1 = k then (kv.1, v) else kv) := by
  unfold putK
  rw [if_pos]
  obtain ⟨x, hx, e⟩ := List.mem_map.mp h
  exact List.any_eq_true.mpr ⟨x, hx, decide_eq_true e⟩
def setA (th : List Thing) (n : Str) (b : Bool) : List Thing := th.map fun t => if t.1 = n then (t.1, t.2.1, b) else t
theorem setA_nm (th : List Thing) (n : Str) (b : Bool) : nmL (setA th n b) = nmL th := by
  unfold nmL setA
  rw [List.map_map]
  refine List.map_congr_left fun t _ => ?_
  show (if t.1 = n then (t.1, t.2.1, b) else t).1 = t.1
  split <;> rfl
theorem setA_k1 (th : List Thing) (n : Str) (b : Bool) : k1 (setA th n b) = k1 th := by
  unfold k1 setA
  rw [List.map_map]
  refine List.map_congr_left fun t _ => ?_
  show (Sum.inr (if t.1 = n then (t.1, t.2.1, b) else t).1, V.str (if t.1 = n then (t.1, t.2.1, b) else t).2.1) = _
  split <;> rfl
theorem setA_put {th : List Thing} {n : Str} (b : Bool) (h : n ∈ nmL th) : putK (k2 th) (Sum.inr n) (.bl b) = k2 (setA th n b) := by
  rw [put_old (by rw [keys2]; exact inr_mem.mpr h)]
  unfold k2 setA
  rw [List.map_map, List.map_map]
  refine List.map_congr_left fun t _ => ?_
  show (if (Sum.inr t.1 : L2.Key) = Sum.inr n then (Sum.inr t.1, V.bl b) else (Sum.inr t.1, V.bl t.2.2)) = (Sum.inr (if t.1 = n then (t.1, t.2.1, b) else t).1, V.bl (if t.1 = n then (t.1, t.2.1, b) else t).2.2)
  by_cases e : t.1 = n
  · rw [if_pos e, if_pos (by rw [e])]
  · rw [if_neg e, if_neg (fun z => e (Sum.inr.inj z))]
def addT (ts : List T3) (t : T3) : List T3 := if t ∈ ts then ts else ts ++ [t]
theorem triK_mem {t : T3} {ts : List T3} : triK t ∈ ts.map triK ↔ t ∈ ts := by
  rw [List.mem_map]
  exact ⟨fun ⟨x, hx, e⟩ => by rw [← triK_inj e]; exact hx, fun h => ⟨t, h, rfl⟩⟩
theorem put3 (ts : List T3) (t : T3) : putK (k3 ts) (triK t) (.bl true) = k3 (addT ts t) := by
  unfold addT
  by_cases h : t ∈ ts
  · rw [if_pos h, put_old (by rw [keys3]; exact triK_mem.mpr h)]
    unfold k3
    rw [List.map_map]
    refine List.map_congr_left fun u _ => ?_
    show (if triK u = triK t then (triK u, V.bl true) else (triK u, V.bl true)) = _
    split <;> rfl
  · rw [if_neg h, put_new (by rw [keys3]; exact fun z => h (triK_mem.mp z))]
    unfold k3
    rw [List.map_append]
    rfl
theorem val1 {th : List Thing} {n s : Str} (hs : ∀ t ∈ th, t.2.1 = s) (h : n ∈ nmL th) : valV (k1 th) (Sum.inr n) = some (.str s) := by
  have q : (valV (k1 th) (Sum.inr n)).isSome = true := by rw [is1]; exact decide_eq_true h
  unfold valV at q ⊢
  cases e : (k1 th).find? (fun kv => decide (kv.1 = Sum.inr n)) with
  | none =>
    rw [e] at q
    cases q
  | some x =>
    obtain ⟨t, ht, rfl⟩ := List.mem_map.mp (List.mem_of_find?_eq_some e)
    show some (V.str t.2.1) = _
    rw [hs t ht]
/-- what is strange of a holding -/
def unk (C D : Addr) (ws : List Str) (nms : List Str) (n wd m : Str) : Option (Addr × Str × Str) := if n ∈ nms then (if m ∈ nms then (if wd ∈ ws then none else some (D, "noword", wd)) else some (C, "nothing", m)) else some (C, "nothing", n)
def Out (u : Option (Addr × Str × Str)) (H : Hp) (E : XK) (Q : Prop) : Prop := match u with
  | none => Q
  | some (X, kd, z) => ∀ d H', H d = none → Same H H' → H' d = some (.xd (ef1 "name" kd (.str z))) → E (.ref X) (some d) H'
def DueT (C : Addr) (n : Str) (th : List Thing) (H : Hp) (Q : Prop) (E : XK) : Prop := if n ∈ nmL th then Q else ∀ d H', H d = none → Same H H' → H' d = some (.xd (ef1 "name" "nothing" (.str n))) → E (.ref C) (some d) H'
def spHrsX (HC S C D : Addr) : Sp := fun vs H Q E => ∃ (x dx sc d1 d2 d3 : Addr) (n wd m : Str) (ss ws : List Str) (th : List Thing) (ts : List T3), vs = [.ref x, .str n, .str wd, .str m] ∧ HsAt HC S H x dx sc d1 d2 d3 ss ws th ts ∧ Out (unk C D ws (nmL th) n wd m) H E (∀ H', Same H H' → Q .non H')
def spGiv (HC S C D : Addr) : Sp := fun vs H Q E => ∃ (x dx sc d1 d2 d3 : Addr) (n wd m : Str) (ss ws : List Str) (th : List Thing) (ts : List T3), vs = [.ref x, .str n, .str wd, .str m] ∧ HsAt HC S H x dx sc d1 d2 d3 ss ws th ts ∧ ts.length ≤ 1000 ∧
  Out (unk C D ws (nmL th) n wd m) H E (∀ H', But d3 H H' → HsAt HC S H' x dx sc d1 d2 d3 ss ws th (addT ts (n, wd, m)) → Q .non H')
/-- behind a change of what stands -/
theorem HsAt.put3 {HC S x dx sc d1 d2 d3 : Addr} {H : Hp} {ss ws : List Str} {th : List Thing} {ts us : List T3} (h2 : HsAt HC S H x dx sc d1 d2 d3 ss ws th ts) : HsAt HC S (upd H d3 (.dT (k3 us))) x dx sc d1 d2 d3 ss ws th us := by
  refine ⟨?_, h2.hs.but But.upd h2.h3 (fun _ _ _ z => by cases z) (fun _ z => by cases z), ?_, ?_, upd_same, h2.ne⟩
  · rw [upd_ne (ne_of h2.hx h2.h3 (by intro z; cases z))]
    exact h2.hx
  · rw [upd_ne (ne_of h2.h1 h2.h3 (by intro z; cases z))]
    exact h2.h1
  · rw [upd_ne (ne_of h2.h2 h2.h3 (by intro z; cases z))]
    exact h2.h2
def spHrtX (HC S C : Addr) : Sp := fun vs H Q E => ∃ (x dx sc d1 d2 d3 : Addr) (n : Str) (ss ws : List Str) (th : List Thing) (ts : List T3), vs = [.ref x, .str n] ∧ HsAt HC S H x dx sc d1 d2 d3 ss ws th ts ∧ DueT C n th H (Q .non H) E
def spHwa (HC S C : Addr) (b : Bool) : Sp := fun vs H Q E => ∃ (x dx sc d1 d2 d3 : Addr) (n : Str) (ss ws : List Str) (th : List Thing) (ts : List T3), vs = [.ref x, .str n] ∧ HsAt HC S H x dx sc d1 d2 d3 ss ws th ts ∧ th.length ≤ 1000 ∧
  DueT C n th H (∀ H', But d2 H H' → HsAt HC S H' x dx sc d1 d2 d3 ss ws (setA th n b) ts → Q .non H') E
def spHin (HC : Addr) : Sp := fun vs H Q _ => ∃ (H0 : Hp) (x dx sc : Addr), vs = [.ref x, .ref sc] ∧ Same H0 H ∧ H0 x = none ∧ H x = some (.ins HC dx []) ∧
  ∀ d1 d2 d3 H', H0 d1 = none → H0 d2 = none → H0 d3 = none → d1 ≠ d2 → Same H0 H' → H' x = some (.ins HC dx (hsF sc d1 d2 d3)) → H' d1 = some (.dK []) → H' d2 = some (.dK []) → H' d3 = some (.dT []) → Q .non H'
/-- why a thing is not let in -/
inductive Rf where
  | one (i : Nat) (z : Str)
  | full
def kdOf : Nat → Str
  | 0 => "noname"
  | 1 => "taken"
  | _ => "nosort"
structure Er4 where
  c0 : Addr
  c1 : Addr
  c2 : Addr
  c8 : Addr
def clsOf (e : Er4) : Rf → Addr
  | .one 0 _ => e.c0
  | .one 1 _ => e.c1
  | .one _ _ => e.c2
  | .full => e.c8
def fsOf : Rf → List (Str × V)
  | .one i z => ef1 "name" (kdOf i) (.str z)
  | .full => ef0
def tupOf : Rf → List V
  | .one i z => [.str (kdOf i), .str z]
  | .full => [.str "full"]
def entD (ss : List Str) (th : List Thing) (n so : Str) : Option Rf :=
  if isNm n = true then (if n ∈ nmL th then some (.one 1 n) else if so ∈ ss then (if th.length < 60 then none else some .full) else some (.one 2 so)) else some (.one 0 n)
def DueR (e : Er4) (o : Option Rf) (H : Hp) (Q : Prop) (E : XK) : Prop := match o with
  | none => Q
  | some r => ∀ d H', H d = none → Same H H' → H' d = some (.xd (fsOf r)) → E (.ref (clsOf e r)) (some d) H'
def spRNx (K : PySem.W.Frag) (C : Addr) : Sp := fun vs H Q E => ∃ (l : Addr) (z : Str), vs = [.ref l] ∧ SqL K H l [.str z] ∧ z.length ≤ 1000 ∧ if isNm z = true then ∀ H', Same H H' → Q .non H' else ∀ d H', H d = none → Same H H' → H' d = some (.xd (ef1 "name" "noname" (.str z))) → E (.ref C) (some d) H'
def spHln (HC S : Addr) : Sp := fun vs H Q _ => ∃ (x dx sc d1 d2 d3 : Addr) (ss ws : List Str) (th : List Thing) (ts : List T3), vs = [.ref x] ∧ HsAt HC S H x dx sc d1 d2 d3 ss ws th ts ∧ Q (.int th.length) H
def spHrt (HC S : Addr) : Sp := fun vs H Q _ => ∃ (x dx sc d1 d2 d3 : Addr) (n : Str) (ss ws : List Str) (th : List Thing) (ts : List T3), vs = [.ref x, .str n] ∧ HsAt HC S H x dx sc d1 d2 d3 ss ws th ts ∧ n ∈ nmL th ∧ Q .non H
def spHrtN (HC S C : Addr) : Sp := fun vs H Q E => ∃ (x dx sc d1 d2 d3 : Addr) (n : Str) (ss ws : List Str) (th : List Thing) (ts : List T3), vs = [.ref x, .str n] ∧ HsAt HC S H x dx sc d1 d2 d3 ss ws th ts ∧ n ∉ nmL th ∧ ∀ d H', H d = none → Same H H' → H' d = some (.xd (ef1 "name" "nothing" (.str n))) → E (.ref C) (some d) H'
def spHso (HC S : Addr) : Sp := fun vs H Q _ => ∃ (x dx sc d1 d2 d3 : Addr) (n s0 : Str) (ss ws : List Str) (th : List Thing) (ts : List T3), vs = [.ref x, .str n] ∧ HsAt HC S H x dx sc d1 d2 d3 ss ws th ts ∧ n ∈ nmL th ∧ srt th n = some s0 ∧ Q (.str s0) H
def spHia (HC S : Addr) : Sp := fun vs H Q _ => ∃ (x dx sc d1 d2 d3 : Addr) (n : Str) (b : Bool) (ss ws : List Str) (th : List Thing) (ts : List T3), vs = [.ref x, .str n] ∧ HsAt HC S H x dx sc d1 d2 d3 ss ws th ts ∧ n ∈ nmL th ∧ awk th n = some b ∧ Q (.bl b) H
def spHth (HC S : Addr) : Sp := fun vs H Q _ => ∃ (x dx sc d1 d2 d3 : Addr) (ss ws : List Str) (th : List Thing) (ts : List T3), vs = [.ref x] ∧ HsAt HC S H x dx sc d1 d2 d3 ss ws th ts ∧ ∀ l, H l = none → Q (.ref l) (upd H l (.lst ((nmL th).map V.str)))
def spHhe (K : PySem.W.Frag) (HC S : Addr) : Sp := fun vs H Q _ => ∃ (x dx sc d1 d2 d3 : Addr) (ss ws : List Str) (th : List Thing) (ts : List T3), vs = [.ref x] ∧ HsAt HC S H x dx sc d1 d2 d3 ss ws th ts ∧ ∀ qs l, TrisAt K H qs (sortT ts) → H l = none → Q (.ref l) (upd H l (.lst (qs.map V.ref)))
def spHen (HC S : Addr) : Sp := fun vs H Q _ => ∃ (x dx sc d1 d2 d3 : Addr) (n so : Str) (b : Bool) (ss ws : List Str) (th : List Thing) (ts : List T3), vs = [.ref x, .str n, .str so, .bl b] ∧ HsAt HC S H x dx sc d1 d2 d3 ss ws th ts ∧ isNm n = true ∧ n.length ≤ 12 ∧ n ∉ nmL th ∧ so ∈ ss ∧ th.length < 60 ∧
  ∀ H', (∀ q o, q ≠ d1 → q ≠ d2 → H q = some o → H' q = some o) → HsAt HC S H' x dx sc d1 d2 d3 ss ws (th ++ [(n, so, b)]) ts → Q .non H'
def spHenX (HC S : Addr) (e : Er4) : Sp := fun vs H Q E => ∃ (x dx sc d1 d2 d3 : Addr) (n so : Str) (b : Bool) (ss ws : List Str) (th : List Thing) (ts : List T3), vs = [.ref x, .str n, .str so, .bl b] ∧ HsAt HC S H x dx sc d1 d2 d3 ss ws th ts ∧ n.length ≤ 1000 ∧ th.length ≤ 60 ∧
  DueR e (entD ss th n so) H (∀ H', (∀ q o, q ≠ d1 → q ≠ d2 → H q = some o → H' q = some o) → HsAt HC S H' x dx sc d1 d2 d3 ss ws (th ++ [(n, so, b)]) ts → Q .non H') E
section
variable {P : Program} {w : World} {K : PySem.W.Frag} {mg : Str → Option Value} {base : Heap}
theorem scHin : FnScope ["self", "scheme"] ["self", "scheme"] (defScope sHin) := ⟨rfl, rfl, rfl, by decide +kernel, rfl, by decide +kernel, by decide +kernel⟩
theorem ok_hin {f HC : Addr} {fd : FuncData} (F : Fun K "__init__" "House.__init__" sHin f fd) (TH : TxH K mg HC f) : FnOk P w K mg base CX0 1 f fd ["self", "scheme"] (spHin HC) := by
  refine F.ok scHin (fun vs H Q E h => ?_) (fun cdv A outer s H vs Q E hr h => ?_)
  · obtain ⟨H0, x, dx, sc, rfl, _⟩ := h
    rfl
  · obtain ⟨H0, x, dx, sc, rfl, S0, x0, hx, k⟩ := h
    have Sx : ∀ {H1 : Hp} {o : HO}, Same H0 H1 → Same H0 (upd H1 x o) := fun hs b o e => by
      rw [upd_ne (ne_of_none e x0)]
      exact hs b o e
    refine ⟨_, (pss_cons (ps_fld (pv 0) (pv 1) rfl) (pss_cons (ps_fld (pv 0) pe_dnewK rfl) (pss_cons (ps_fld (pv 0) pe_dnewK rfl) (pss_one (ps_fld (pv 0) pe_dnewT rfl))))), ?_⟩
    have L1 := putF_len "own_scheme" (.ref sc) []
    refine ⟨_, rfl, _, rfl, x, HC, dx, _, rfl, hx, TH.cl, TH.n0, by show 0 < 1000; decide, fun d1 g1 => ?_⟩
    have n1 : d1 ≠ x := fun z => by
      rw [z, upd_same] at g1
      cases g1
    have L2' := putF_len "sort_by_name" (.ref d1) (putF "own_scheme" (.ref sc) [])
    have L3 : ∀ d2, (putF "awake_by_name" (.ref d2) (putF "sort_by_name" (.ref d1) (putF "own_scheme" (.ref sc) []))).length ≤ _ := fun d2 => putF_len "awake_by_name" (.ref d2) (putF "sort_by_name" (.ref d1) (putF "own_scheme" (.ref sc) []))
    simp only [List.length_nil] at L1
    refine ⟨_, rfl, x, HC, dx, _, rfl, (upd_ne n1.symm).trans upd_same, TH.cl, TH.n1, by omega, fun d2 g2 => ?_⟩
    have n2 : d2 ≠ x := fun z => by
      rw [z, upd_same] at g2
      cases g2
    have n12 : d1 ≠ d2 := fun z => by
      rw [← z, upd_ne n1, upd_same] at g2
      cases g2
    refine ⟨_, rfl, x, HC, dx, _, rfl, (upd_ne n2.symm).trans upd_same, TH.cl, TH.n2, by omega, fun d3 g3 => ?_⟩
    have n3 : d3 ≠ x := fun z => by
      rw [z, upd_same] at g3
      cases g3
    have n23 : d2 ≠ d3 := fun z => by
      rw [← z, upd_ne n2, upd_same] at g3
      cases g3
    have n13 : d1 ≠ d3 := fun z => by
      rw [← z, upd_ne n1, upd_ne n12, upd_ne n1, upd_same] at g3
      cases g3
    refine ⟨_, rfl, x, HC, dx, _, rfl, (upd_ne n3.symm).trans upd_same, TH.cl, TH.n3, by have := L3 d2; omega, ?_⟩
    have SA := Sx (o := .ins HC dx (putF "own_scheme" (.ref sc) [])) S0
    have SB := Sx (o := .ins HC dx (putF "sort_by_name" (.ref d1) (putF "own_scheme" (.ref sc) []))) (SA.trans (Same.upd (o := .dK []) g1))
    have SC := Sx (o := .ins HC dx (putF "awake_by_name" (.ref d2) (putF "sort_by_name" (.ref d1) (putF "own_scheme" (.ref sc) [])))) (SB.trans (Same.upd (o := .dK []) g2))
    refine k d1 d2 d3 _ (SA.free g1) (SB.free g2) (SC.free g3) n12 (Sx (SC.trans (Same.upd g3))) upd_same ?_ ?_ ?_
    · rw [upd_ne n1, upd_ne n13, upd_ne n1, upd_ne n12, upd_ne n1, upd_same]
    · rw [upd_ne n2, upd_ne n23, upd_ne n2, upd_same]
    · rw [upd_ne n3, upd_same]
theorem scHrt : FnScope ["self", "name"] ["self", "name"] (defScope sHrt) := ⟨rfl, rfl, rfl, by decide +kernel, rfl, by decide +kernel, by decide +kernel⟩
theorem ok_hrt {f HC S fH : Addr} {fd : FuncData} (F : Fun K "refuse_no_thing" "House.refuse_no_thing" sHrt f fd) (TH : TxH K mg HC fH) : FnOk P w K mg base CX0 1 f fd ["self", "name"] (spHrt HC S) := by
  refine F.ok scHrt (fun vs H Q E h => ?_) (fun cdv A outer s H vs Q E hr h => ?_)
  · obtain ⟨x, dx, sc, d1, d2, d3, n, ss, ws, th, ts, rfl, _⟩ := h
    rfl
  · obtain ⟨x, dx, sc, d1, d2, d3, n, ss, ws, th, ts, rfl, hh, hn, q⟩ := h
    refine ⟨_, (pss_one (ps_if (pt_cmp (pc_dnotin (hu_of hr) (pv 1) (pe_fld (pv 0) rfl))) (pss_one ps_never) pss_nil)), ?_⟩
    refine ⟨_, rfl, _, rfl, x, HC, dx, _, _, rfl, hh.hx, TH.cl, TH.n1, hsF_1 _ _ _ _, d1, _, rfl, DGet.k (k := Sum.inr n) hh.h1, _, rfl, ?_⟩
    rw [is1, decide_eq_true hn]
    exact iteF q
theorem ok_hrtN {f HC S C fI fH : Addr} {fd fdI : FuncData} (F : Fun K "refuse_no_thing" "House.refuse_no_thing" sHrt f fd) (TH : TxH K mg HC fH) (TE : ErrT K mg "NoThing" "name" C fI) (bI : Binds K fdI ["self", "name"] []) (GI : FnOk P w K mg base CX0 2 fI fdI ["self", "name"] (spE1 C "name" "nothing")) :
    FnOk P w K mg base (L2N.CX P w) 4 f fd ["self", "name"] (spHrtN HC S C) := by
  refine okN F scHrt (fun vs H Q E h => ?_) (fun cdv A outer s H vs Q E hr h => ?_)
  · obtain ⟨x, dx, sc, d1, d2, d3, n, ss, ws, th, ts, rfl, _⟩ := h
    rfl
  · obtain ⟨x, dx, sc, d1, d2, d3, n, ss, ws, th, ts, rfl, hh, hn, q⟩ := h
    have hr3 : Room 3 _ := hr
    refine ⟨_, (pss_one (ps_if (pt_cmp (pc_dnotin (hu_of hr) (pv 1) (pe_fld (pv 0) rfl))) (pss_one (L2N.ps_raise rfl (L2N.takes_of rfl rfl rfl rfl) (pmkN_oex TE.o TE.iC TE.tI GI hr3 bI pass0 rfl TE.g (pa_cons (pv 1) pa_nil)))) pss_nil)), ?_⟩
    refine ⟨_, rfl, _, rfl, x, HC, dx, _, _, rfl, hh.hx, TH.cl, TH.n1, hsF_1 _ _ _ _, d1, _, rfl, DGet.k (k := Sum.inr n) hh.h1, _, rfl, ?_⟩
    rw [is1, decide_eq_false hn]
    exact iteT ⟨_, rfl, mk1 q⟩
theorem scHso : FnScope ["self", "x"] ["self", "x"] (defScope sHso) := ⟨rfl, rfl, rfl, by decide +kernel, rfl, by decide +kernel, by decide +kernel⟩
theorem ok_hsoN {f HC S C fH fR : Addr} {fd dR : FuncData} (F : Fun K "sort_of" "House.sort_of" sHso f fd) (TH : TxH K mg HC fH) (mR : Meth K HC "refuse_no_thing" fR) (bR : Binds K dR ["self", "name"] []) (GR : FnOk P w K mg base (L2N.CX P w) 4 fR dR ["self", "name"] (spHrtN HC S C)) : FnOk P w K mg base (L2N.CX P w) 5 f fd ["self", "x"] (spHrtN HC S C) := by
  refine okN F scHso (fun vs H Q E h => ?_) (fun cdv A outer s H vs Q E hr h => ?_)
  · obtain ⟨x, dx, sc, d1, d2, d3, n, ss, ws, th, ts, rfl, _⟩ := h
    rfl
  · obtain ⟨x, dx, sc, d1, d2, d3, n, ss, ws, th, ts, rfl, hh, hn, q⟩ := h
    refine ⟨_, (pss_cons (ps_expr (pe_meth (pv 0) TH.cl mR GR hr bR .nil (L2N.passes_call (L2N.takes_of rfl rfl rfl rfl) (fun _ _ _ _ h => h)) (pa_cons (pv 1) pa_nil))) (pss_one (ps_ret pe_never))), ?_⟩
    exact ⟨_, rfl, x, dx, _, rfl, hh.hx, hsF_no (by decide +kernel) (by decide +kernel) (by decide +kernel) (by decide +kernel) _ _ _ _, _, rfl, x, dx, sc, d1, d2, d3, n, ss, ws, th, ts, rfl, hh, hn, q⟩
theorem scHia : FnScope ["self", "x"] ["self", "x"] (defScope sHia) := ⟨rfl, rfl, rfl, by decide +kernel, rfl, by decide +kernel, by decide +kernel⟩
theorem ok_hiaN {f HC S C fH fR : Addr} {fd dR : FuncData} (F : Fun K "is_awake" "House.is_awake" sHia f fd) (TH : TxH K mg HC fH) (mR : Meth K HC "refuse_no_thing" fR) (bR : Binds K dR ["self", "name"] []) (GR : FnOk P w K mg base (L2N.CX P w) 4 fR dR ["self", "name"] (spHrtN HC S C)) : FnOk P w K mg base (L2N.CX P w) 5 f fd ["self", "x"] (spHrtN HC S C) := by
  refine okN F scHia (fun vs H Q E h => ?_) (fun cdv A outer s H vs Q E hr h => ?_)
  · obtain ⟨x, dx, sc, d1, d2, d3, n, ss, ws, th, ts, rfl, _⟩ := h
    rfl
  · obtain ⟨x, dx, sc, d1, d2, d3, n, ss, ws, th, ts, rfl, hh, hn, q⟩ := h
    refine ⟨_, (pss_cons (ps_expr (pe_meth (pv 0) TH.cl mR GR hr bR .nil (L2N.passes_call (L2N.takes_of rfl rfl rfl rfl) (fun _ _ _ _ h => h)) (pa_cons (pv 1) pa_nil))) (pss_one (ps_ret pe_never))), ?_⟩
    exact ⟨_, rfl, x, dx, _, rfl, hh.hx, hsF_no (by decide +kernel) (by decide +kernel) (by decide +kernel) (by decide +kernel) _ _ _ _, _, rfl, x, dx, sc, d1, d2, d3, n, ss, ws, th, ts, rfl, hh, hn, q⟩
theorem ok_hso {f HC S fH fR : Addr} {fd dR : FuncData} (F : Fun K "sort_of" "House.sort_of" sHso f fd) (TH : TxH K mg HC fH) (mR : Meth K HC "refuse_no_thing" fR) (bR : Binds K dR ["self", "name"] []) (GR : FnOk P w K mg base CX0 1 fR dR ["self", "name"] (spHrt HC S)) : FnOk P w K mg base CX0 2 f fd ["self", "x"] (spHso HC S) := by
  refine F.ok scHso (fun vs H Q E h => ?_) (fun cdv A outer s H vs Q E hr h => ?_)
  · obtain ⟨x, dx, sc, d1, d2, d3, n, s0, ss, ws, th, ts, rfl, _⟩ := h
    rfl
  · obtain ⟨x, dx, sc, d1, d2, d3, n, s0, ss, ws, th, ts, rfl, hh, hn, hs, q⟩ := h
    refine ⟨_, (pss_cons (ps_expr (pe_meth (pv 0) TH.cl mR GR hr bR .nil pass0 (pa_cons (pv 1) pa_nil))) (pss_one (ps_ret (pe_dget (hu_of hr) (pe_fld (pv 0) rfl) (pv 1) (fun _ _ => rfl))))), ?_⟩
    refine ⟨_, rfl, x, dx, _, rfl, hh.hx, hsF_no (by decide +kernel) (by decide +kernel) (by decide +kernel) (by decide +kernel) _ _ _ _, _, rfl, x, dx, sc, d1, d2, d3, n, ss, ws, th, ts, rfl, hh, hn, ?_⟩
    refine ⟨_, rfl, x, HC, dx, _, _, rfl, hh.hx, TH.cl, TH.n1, hsF_1 _ _ _ _, _, rfl, d1, .str s0, rfl, ?_, q⟩
    have e : valV (k1 th) (Sum.inr n) = some (.str s0) := by rw [val1s, hs]; rfl
    rw [← e]
    exact DGet.k (k := Sum.inr n) hh.h1
theorem ok_hia {f HC S fH fR : Addr} {fd dR : FuncData} (F : Fun K "is_awake" "House.is_awake" sHia f fd) (TH : TxH K mg HC fH) (mR : Meth K HC "refuse_no_thing" fR) (bR : Binds K dR ["self", "name"] []) (GR : FnOk P w K mg base CX0 1 fR dR ["self", "name"] (spHrt HC S)) : FnOk P w K mg base CX0 2 f fd ["self", "x"] (spHia HC S) := by
  refine F.ok scHia (fun vs H Q E h => ?_) (fun cdv A outer s H vs Q E hr h => ?_)
  · obtain ⟨x, dx, sc, d1, d2, d3, n, b, ss, ws, th, ts, rfl, _⟩ := h
    rfl
  · obtain ⟨x, dx, sc, d1, d2, d3, n, b, ss, ws, th, ts, rfl, hh, hn, hb, q⟩ := h
    refine ⟨_, (pss_cons (ps_expr (pe_meth (pv 0) TH.cl mR GR hr bR .nil pass0 (pa_cons (pv 1) pa_nil))) (pss_one (ps_ret (pe_dget (hu_of hr) (pe_fld (pv 0) rfl) (pv 1) (fun _ _ => rfl))))), ?_⟩
    refine ⟨_, rfl, x, dx, _, rfl, hh.hx, hsF_no (by decide +kernel) (by decide +kernel) (by decide +kernel) (by decide +kernel) _ _ _ _, _, rfl, x, dx, sc, d1, d2, d3, n, ss, ws, th, ts, rfl, hh, hn, ?_⟩
    refine ⟨_, rfl, x, HC, dx, _, _, rfl, hh.hx, TH.cl, TH.n2, hsF_2 _ _ _ _, _, rfl, d2, .bl b, rfl, ?_, q⟩
    have e : valV (k2 th) (Sum.inr n) = some (.bl b) := by rw [val2, hb]; rfl
    rw [← e]
    exact DGet.k (k := Sum.inr n) hh.h2
theorem scHth : FnScope ["self"] ["self"] (defScope sHth) := ⟨rfl, rfl, rfl, by decide +kernel, rfl, by decide +kernel, by decide +kernel⟩
theorem ok_hth {f HC S fH : Addr} {fd : FuncData} (F : Fun K "things" "House.things" sHth f fd) (tl : mg "list" = none) (TH : TxH K mg HC fH) : FnOk P w K mg base CX0 1 f fd ["self"] (spHth HC S) := by
  refine F.ok scHth (fun vs H Q E h => ?_) (fun cdv A outer s H vs Q E hr h => ?_)
  · obtain ⟨x, dx, sc, d1, d2, d3, ss, ws, th, ts, rfl, _⟩ := h
    rfl
  · obtain ⟨x, dx, sc, d1, d2, d3, ss, ws, th, ts, rfl, hh, q⟩ := h
    refine ⟨_, (pss_one (ps_ret (pe_callTy (call_listD rfl) (by rfl) tl (by decide +kernel) (pa_cons (pe_fld (pv 0) rfl) pa_nil)))), ?_⟩
    refine ⟨_, rfl, x, HC, dx, _, _, rfl, hh.hx, TH.cl, TH.n1, hsF_1 _ _ _ _, d1, _, rfl, .inl hh.h1, fun l hl => ?_⟩
    have e : ((k1 th).map fun kv => kV kv.1) = (nmL th).map V.str := by
      unfold k1 nmL
      rw [List.map_map, List.map_map]
      rfl
    rw [e]
    exact q l hl
theorem scHhe : FnScope ["self"] ["self"] (defScope sHhe) := ⟨rfl, rfl, rfl, by decide +kernel, rfl, by decide +kernel, by decide +kernel⟩
theorem ok_hhe {f HC S fH : Addr} {fd : FuncData} (F : Fun K "held" "House.held" sHhe f fd) (tsr : mg "sorted" = none) (TH : TxH K mg HC fH) : FnOk P w K mg base CX0 1 f fd ["self"] (spHhe K HC S) := by
  refine F.ok scHhe (fun vs H Q E h => ?_) (fun cdv A outer s H vs Q E hr h => ?_)
  · obtain ⟨x, dx, sc, d1, d2, d3, ss, ws, th, ts, rfl, _⟩ := h
    rfl
  · obtain ⟨x, dx, sc, d1, d2, d3, ss, ws, th, ts, rfl, hh, q⟩ := h
    refine ⟨_, (pss_one (ps_ret (pe_callB (cr_sortTD rfl hr.units) (by rfl) tsr (by decide +kernel) (pa_cons (pe_fld (pv 0) rfl) pa_nil)))), ?_⟩
    exact ⟨_, rfl, x, HC, dx, _, _, rfl, hh.hx, TH.cl, TH.n3, hsF_3 _ _ _ _, d3, _, ts, rfl, hh.h3, keys3 ts, fun qs l hq hl => q qs l hq hl⟩
theorem scHen : FnScope ["self", "name", "sort", "awake"] ["self", "name", "sort", "awake"] (defScope sHen) := ⟨rfl, rfl, rfl, by decide +kernel, rfl, by decide +kernel, by decide +kernel⟩
theorem ok_hen {f HC S fH fS fN fO : Addr} {fd dN dO : FuncData} {dvs : List V} (F : FunD K "enter" "House.enter" (defArgs sHen) (defBody sHen) (defScope sHen) dvs [] f fd) (T : TxB mg) (MT : ∃ t, mg "MOST_THINGS" = some (.int 60 t)) (TH : TxH K mg HC fH) (DN : Dn K mg "refuse_no_name" sRN ["texts"] fN dN) (GN : FnOk P w K mg base CX0 2 fN dN ["texts"] (spRNv K))
    (TC : TxSch K mg S fS) (mO : Meth K S "sorts" fO) (bO : Binds K dO ["self"] []) (GO : FnOk P w K mg base CX0 1 fO dO ["self"] (spSor S)) : FnOk P w K mg base CX0 3 f fd ["self", "name", "sort", "awake"] (spHen HC S) := by
  refine F.ok scHen (fun vs H Q E h => ?_) (fun cdv A outer s H vs Q E hr h => ?_)
  · obtain ⟨x, dx, sc, d1, d2, d3, n, so, b, ss, ws, th, ts, rfl, _⟩ := h
    rfl
  · obtain ⟨x, dx, sc, d1, d2, d3, n, so, b, ss, ws, th, ts, rfl, hh, hn, hn12, hnew, hso, h60, q⟩ := h
    have hr1 : Room 1 _ := hr.mono (by decide)
    obtain ⟨t60, g60⟩ := MT
    refine ⟨_, (pss_cons (ps_expr (pe_call GN hr rfl DN.g DN.F.kp DN.b .nil pass0 (pa_cons (pe_lst (pa_cons (pv 1) pa_nil)) pa_nil)))
      (pss_cons (ps_if (pt_cmp (pc_din (hu_of hr) (pv 1) (pe_fld (pv 0) rfl))) (pss_one ps_never) pss_nil)
      (pss_cons (ps_if (pt_cmpR op_notIn_seq (pv 2) (pe_meth0 (pe_fld (pv 0) rfl) TC.cl mO GO hr1 bO .nil pass0) (by rfl)) (pss_one ps_never) pss_nil)
      (pss_cons (ps_if (pt_cmpR op_ge (pe_callB call_lenD (by rfl) T.len (by decide +kernel) (pa_cons (pe_fld (pv 0) rfl) pa_nil)) (pe_glob (v := .int 60) rfl g60 ⟨t60, rfl⟩) (nomark _)) (pss_one ps_never) pss_nil)
      (pss_cons (ps_dput (hu_of hr) (pe_fld (pv 0) rfl) (pv 1) (pv 2) rfl)
      (pss_one (ps_dput (hu_of hr) (pe_fld (pv 0) rfl) (pv 1) (pv 3) rfl))))))), ?_⟩
    refine ⟨_, rfl, by show 1 ≤ sizeLine; decide, fun l0 hl0 => ?_⟩
    refine ⟨l0, [n], rfl, SqL.of upd_same, fun z hz => by rw [List.mem_singleton.mp hz]; exact ⟨hn, hn12⟩, fun H1 S1 => ?_⟩
    have SA : Same H H1 := (Same.upd hl0).trans S1
    have h1 := hh.same SA
    refine ⟨_, rfl, _, rfl, x, HC, dx, _, _, rfl, h1.hx, TH.cl, TH.n1, hsF_1 _ _ _ _, d1, _, rfl, DGet.k (k := Sum.inr n) h1.h1, _, rfl, ?_⟩
    rw [is1, decide_eq_false hnew]
    refine iteF ?_
    obtain ⟨dy, l1, l2, l3, l4, l5, e1, e2, e3⟩ := h1.hs.ex
    refine ⟨_, rfl, _, rfl, x, HC, dx, _, _, rfl, h1.hx, TH.cl, TH.n0, hsF_sc _ _ _ _, sc, dy, _, rfl, e1, schF_no (by decide +kernel) (by decide +kernel) (by decide +kernel) (by decide +kernel) (by decide +kernel) _ _ _ _ _, sc, ss, ws, rfl, h1.hs, fun l hl => ?_⟩
    refine ⟨l, _, rfl, .inl (SqL.of upd_same), rfl, flats ss, _, rfl, ?_⟩
    show if (!inV (.str so) (ss.map V.str)) = true then _ else _
    rw [inV_strs, decide_eq_true hso]
    refine iteF ?_
    have SB : Same H1 (upd H1 l (.lst (ss.map V.str))) := Same.upd hl
    have h2 := h1.same SB
    have S02 := SA.trans SB
    generalize upd H1 l (.lst (ss.map V.str)) = H2 at SB h2 S02
    refine ⟨_, rfl, x, HC, dx, _, _, rfl, h2.hx, TH.cl, TH.n1, hsF_1 _ _ _ _, d1, _, rfl, h2.h1, _, _, rfl, rfl, _, rfl, ?_⟩
    have el : (k1 th).length = th.length := by unfold k1; rw [List.length_map]
    have el2 : (k2 th).length = th.length := by unfold k2; rw [List.length_map]
    refine ite2 (fun z => absurd (of_decide_eq_true z) (by rw [el]; omega)) (fun _ => ?_)
    have lt1 : (k1 th).length < sizeLine := Nat.lt_of_lt_of_le (by rw [el]; exact h60) (by decide)
    have lt2 : (k2 th).length < sizeLine := Nat.lt_of_lt_of_le (by rw [el2]; exact h60) (by decide)
    refine ⟨_, rfl, _, rfl, x, HC, dx, _, _, rfl, h2.hx, TH.cl, TH.n1, hsF_1 _ _ _ _, _, rfl, d1, _, rfl, DPut.k (k := Sum.inr n) h2.h1 lt1, ?_⟩
    rw [new1 (b := b) hnew]
    have ne1x : x ≠ d1 := ne_of h2.hx h2.h1 (by intro z; cases z)
    refine ⟨_, rfl, _, rfl, x, HC, dx, _, _, rfl, (upd_ne ne1x).trans h2.hx, TH.cl, TH.n2, hsF_2 _ _ _ _, _, rfl, d2, _, rfl, DPut.k (k := Sum.inr n) ((upd_ne hh.ne.symm).trans h2.h2) lt2, ?_⟩
    rw [new2 (s := so) hnew]
    have ne2x : x ≠ d2 := ne_of h2.hx h2.h2 (by intro z; cases z)
    have ne31 : d3 ≠ d1 := ne_of h2.h3 h2.h1 (by intro z; cases z)
    have ne32 : d3 ≠ d2 := ne_of h2.h3 h2.h2 (by intro z; cases z)
    refine q _ (fun z o n1 n2 e => by rw [upd_ne n2, upd_ne n1]; exact S02 _ _ e) ⟨?_, ?_, ?_, upd_same, ?_, hh.ne⟩
    · rw [upd_ne ne2x, upd_ne ne1x]
      exact h2.hx
    · have q1 := h2.hs.but (But.upd (o := .dK (k1 (th ++ [(n, so, b)])))) h2.h1 (fun _ _ _ z => by cases z) (fun _ z => by cases z)
      exact q1.but But.upd ((upd_ne hh.ne.symm).trans h2.h2) (fun _ _ _ z => by cases z) (fun _ z => by cases z)
    · rw [upd_ne hh.ne, upd_same]
    · rw [upd_ne ne32, upd_ne ne31]
      exact h2.h3
theorem scHln : FnScope ["self"] ["self"] (defScope sHln) := ⟨rfl, rfl, rfl, by decide +kernel, rfl, by decide +kernel, by decide +kernel⟩
theorem ok_hln {f HC S fH : Addr} {fd : FuncData} (F : Fun K "__len__" "House.__len__" sHln f fd) (T : TxB mg) (TH : TxH K mg HC fH) : FnOk P w K mg base CX0 1 f fd ["self"] (spHln HC S) := by
  refine F.ok scHln (fun vs H Q E h => ?_) (fun cdv A outer s H vs Q E hr h => ?_)
  · obtain ⟨x, dx, sc, d1, d2, d3, ss, ws, th, ts, rfl, _⟩ := h
    rfl
  · obtain ⟨x, dx, sc, d1, d2, d3, ss, ws, th, ts, rfl, hh, q⟩ := h
    refine ⟨_, (pss_one (ps_ret (pe_callB call_lenD (by rfl) T.len (by decide +kernel) (pa_cons (pe_fld (pv 0) rfl) pa_nil)))), ?_⟩
    refine ⟨_, rfl, x, HC, dx, _, _, rfl, hh.hx, TH.cl, TH.n1, hsF_1 _ _ _ _, d1, _, rfl, hh.h1, ?_⟩
    have el : (k1 th).length = th.length := by unfold k1; rw [List.length_map]
    rw [el]
    exact q
theorem ok_rnX {f fN C fI : Addr} {fd fdN fdI : FuncData} (F : Fun K "refuse_no_name" "refuse_no_name" sRN f fd) (D : Dn K mg "is_name" sName ["text"] fN fdN) (GN : FnOk P w K mg base CX0 1 fN fdN ["text"] spName) (TE : ErrT K mg "NoName" "name" C fI) (bI : Binds K fdI ["self", "name"] [])
    (GI : FnOk P w K mg base CX0 2 fI fdI ["self", "name"] (spE1 C "name" "noname")) : FnOk P w K mg base (L2N.CX P w) 4 f fd ["texts"] (spRNx K C) := by
  refine okN F scRN (fun vs H Q E h => ?_) (fun cdv A outer s H vs Q E hr h => ?_)
  · obtain ⟨l, z, rfl, _⟩ := h
    rfl
  · obtain ⟨l, z, rfl, hl, hz, k⟩ := h
    have hr1 : Room 1 _ := hr.mono (by decide)
    have hr3 : Room 3 _ := hr
    refine ⟨_, (pss_one (ps_for (passes_of rfl) rfl (pi_list (pv 0)) (pg_name (i := 1) scRN.nd rfl (Or.inl rfl)) (pss_one (ps_if (pt_not (pt_val (pe_call GN hr1 rfl D.g D.F.kp D.b .nil pass0 (pa_cons (pv 1) pa_nil)))) (pss_one (L2N.ps_raise rfl (L2N.takes_of rfl rfl rfl rfl) (pmkN_oex TE.o TE.iC TE.tI GI hr3 bI pass0 rfl TE.g (pa_cons (pv 1) pa_nil)))) pss_nil)))), ?_⟩
    refine ⟨_, rfl, l, rfl, ⟨_, hl⟩, for_list (K := K) (a := l) (xs := [.str z]) (fun i σ H' => (∃ v, σ = [some (.ref l), v]) ∧ Same H H' ∧ (1 ≤ i → isNm z = true)) ⟨⟨none, rfl⟩, Same.refl H, fun q => absurd q (by decide)⟩ (fun i σ H' _ p => p.2.1.seq hl) ?_ ?_⟩
    · rintro i y σ H' hi ⟨⟨v, rfl⟩, hS, _⟩
      have ey : V.str z = y := by
        match i, hi with
        | 0, hi => exact Option.some.inj hi
        | k + 1, hi => simp at hi
      subst ey
      refine ⟨_, rfl, z, rfl, hz, fun H2 hS2 => ⟨_, rfl, ?_⟩⟩
      cases e : isNm z with
      | true => exact iteF ⟨⟨_, rfl⟩, hS.trans hS2, fun _ => rfl⟩
      | false =>
        rw [if_neg (by rw [e]; decide)] at k
        exact iteT ⟨_, rfl, mk1 fun d H3 hd hS3 hx => k d H3 (hS.free (hS2.free hd)) (hS.trans (hS2.trans hS3)) hx⟩
    · rintro σ H' ⟨⟨v, rfl⟩, hS, hi⟩
      rw [if_pos (hi (by show 1 ≤ 1; decide))] at k
      exact k _ hS
theorem ok_henX {f HC S fH fS fN fO cN cT cS cF iT iS iF : Addr} {fd dN dO dT dS dF : FuncData} {dvs : List V} (F : FunD K "enter" "House.enter" (defArgs sHen) (defBody sHen) (defScope sHen) dvs [] f fd) (T : TxB mg) (MT : ∃ t, mg "MOST_THINGS" = some (.int 60 t)) (TH : TxH K mg HC fH) (DN : Dn K mg "refuse_no_name" sRN ["texts"] fN dN) (GN : FnOk P w K mg base (L2N.CX P w) 4 fN dN ["texts"] (spRNx K cN))
    (TT : ErrT K mg "Taken" "name" cT iT) (bT : Binds K dT ["self", "name"] []) (GT : FnOk P w K mg base CX0 2 iT dT ["self", "name"] (spE1 cT "name" "taken")) (TS : ErrT K mg "NoSort" "name" cS iS) (bS : Binds K dS ["self", "name"] []) (GS : FnOk P w K mg base CX0 2 iS dS ["self", "name"] (spE1 cS "name" "nosort"))
    (TF : ErrT K mg "Full" "kind" cF iF) (bF : Binds K dF ["self"] []) (GF : FnOk P w K mg base CX0 2 iF dF ["self"] (spE0 cF))
    (TC : TxSch K mg S fS) (mO : Meth K S "sorts" fO) (bO : Binds K dO ["self"] []) (GO : FnOk P w K mg base CX0 1 fO dO ["self"] (spSor S)) : FnOk P w K mg base (L2N.CX P w) 5 f fd ["self", "name", "sort", "awake"] (spHenX HC S ⟨cN, cT, cS, cF⟩) := by
  refine F.ok scHen (fun vs H Q E h => ?_) (fun cdv A outer s H vs Q E hr h => ?_)
  · obtain ⟨x, dx, sc, d1, d2, d3, n, so, b, ss, ws, th, ts, rfl, _⟩ := h
    rfl
  · obtain ⟨x, dx, sc, d1, d2, d3, n, so, b, ss, ws, th, ts, rfl, hh, hn1000, h60', q⟩ := h
    have hr1 : Room 1 _ := hr.mono (by decide)
    have hr3 : Room 3 _ := hr.mono (by decide)
    obtain ⟨t60, g60⟩ := MT
    refine ⟨_, (pss_cons (ps_expr (pe_call GN hr rfl DN.g DN.F.kp DN.b .nil (L2N.passes_call (L2N.takes_of rfl rfl rfl rfl) (fun _ _ _ _ h => h)) (pa_cons (pe_lst (pa_cons (pv 1) pa_nil)) pa_nil)))
      (pss_cons (ps_if (pt_cmp (pc_din (hu_of hr) (pv 1) (pe_fld (pv 0) rfl))) (pss_one (L2N.ps_raise rfl (L2N.takes_of rfl rfl rfl rfl) (pmkN_oex TT.o TT.iC TT.tI GT hr3 bT pass0 rfl TT.g (pa_cons (pv 1) pa_nil)))) pss_nil)
      (pss_cons (ps_if (pt_cmpR op_notIn_seq (pv 2) (pe_meth0 (pe_fld (pv 0) rfl) TC.cl mO GO hr1 bO .nil pass0) (by rfl)) (pss_one (L2N.ps_raise rfl (L2N.takes_of rfl rfl rfl rfl) (pmkN_oex TS.o TS.iC TS.tI GS hr3 bS pass0 rfl TS.g (pa_cons (pv 2) pa_nil)))) pss_nil)
      (pss_cons (ps_if (pt_cmpR op_ge (pe_callB call_lenD (by rfl) T.len (by decide +kernel) (pa_cons (pe_fld (pv 0) rfl) pa_nil)) (pe_glob (v := .int 60) rfl g60 ⟨t60, rfl⟩) (nomark _)) (pss_one (L2N.ps_raise rfl (L2N.takes_of rfl rfl rfl rfl) (pmkN_oex0 TF.o TF.iC TF.tI GF hr3 bF pass0 rfl TF.g))) pss_nil)
      (pss_cons (ps_dput (hu_of hr) (pe_fld (pv 0) rfl) (pv 1) (pv 2) rfl)
      (pss_one (ps_dput (hu_of hr) (pe_fld (pv 0) rfl) (pv 1) (pv 3) rfl))))))), ?_⟩
    refine ⟨_, rfl, by show 1 ≤ sizeLine; decide, fun l0 hl0 => ?_⟩
    have S0 : Same H (upd H l0 (.lst [.str n])) := Same.upd hl0
    refine ⟨l0, n, rfl, SqL.of upd_same, hn1000, ?_⟩
    unfold entD at q
    by_cases hn : isNm n = true
    · rw [if_pos hn] at q ⊢
      intro H1 S1
      have SA : Same H H1 := S0.trans S1
      have h1 := hh.same SA
      refine ⟨_, rfl, _, rfl, x, HC, dx, _, _, rfl, h1.hx, TH.cl, TH.n1, hsF_1 _ _ _ _, d1, _, rfl, DGet.k (k := Sum.inr n) h1.h1, _, rfl, ?_⟩
      rw [is1]
      by_cases hin : n ∈ nmL th
      · rw [if_pos hin] at q
        rw [decide_eq_true hin]
        exact iteT ⟨_, rfl, mk1 fun d H3 hd hS3 hx => q d H3 (SA.free hd) (SA.trans hS3) hx⟩
      rw [if_neg hin] at q
      rw [decide_eq_false hin]
      refine iteF ?_
      obtain ⟨dy, l1, l2, l3, l4, l5, e1, e2, e3⟩ := h1.hs.ex
      refine ⟨_, rfl, _, rfl, x, HC, dx, _, _, rfl, h1.hx, TH.cl, TH.n0, hsF_sc _ _ _ _, sc, dy, _, rfl, e1, schF_no (by decide +kernel) (by decide +kernel) (by decide +kernel) (by decide +kernel) (by decide +kernel) _ _ _ _ _, sc, ss, ws, rfl, h1.hs, fun l hl => ?_⟩
      refine ⟨l, _, rfl, .inl (SqL.of upd_same), rfl, flats ss, _, rfl, ?_⟩
      show if (!inV (.str so) (ss.map V.str)) = true then _ else _
      rw [inV_strs]
      have SB : Same H1 (upd H1 l (.lst (ss.map V.str))) := Same.upd hl
      have h2 := h1.same SB
      have S02 := SA.trans SB
      generalize upd H1 l (.lst (ss.map V.str)) = H2 at SB h2 S02
      by_cases hso : so ∈ ss
      · rw [if_pos hso] at q
        rw [decide_eq_true hso]
        refine iteF ?_
        refine ⟨_, rfl, x, HC, dx, _, _, rfl, h2.hx, TH.cl, TH.n1, hsF_1 _ _ _ _, d1, _, rfl, h2.h1, _, _, rfl, rfl, _, rfl, ?_⟩
        have el : (k1 th).length = th.length := by unfold k1; rw [List.length_map]
        have el2 : (k2 th).length = th.length := by unfold k2; rw [List.length_map]
        by_cases h60 : th.length < 60
        · rw [if_pos h60] at q
          refine ite2 (fun z => absurd (of_decide_eq_true z) (by rw [el]; omega)) (fun _ => ?_)
          have lt1 : (k1 th).length < sizeLine := Nat.lt_of_lt_of_le (by rw [el]; exact h60) (by decide)
          have lt2 : (k2 th).length < sizeLine := Nat.lt_of_lt_of_le (by rw [el2]; exact h60) (by decide)
          refine ⟨_, rfl, _, rfl, x, HC, dx, _, _, rfl, h2.hx, TH.cl, TH.n1, hsF_1 _ _ _ _, _, rfl, d1, _, rfl, DPut.k (k := Sum.inr n) h2.h1 lt1, ?_⟩
          rw [new1 (b := b) hin]
          have ne1x : x ≠ d1 := ne_of h2.hx h2.h1 (by intro z; cases z)
          refine ⟨_, rfl, _, rfl, x, HC, dx, _, _, rfl, (upd_ne ne1x).trans h2.hx, TH.cl, TH.n2, hsF_2 _ _ _ _, _, rfl, d2, _, rfl, DPut.k (k := Sum.inr n) ((upd_ne hh.ne.symm).trans h2.h2) lt2, ?_⟩
          rw [new2 (s := so) hin]
          have ne2x : x ≠ d2 := ne_of h2.hx h2.h2 (by intro z; cases z)
          have ne31 : d3 ≠ d1 := ne_of h2.h3 h2.h1 (by intro z; cases z)
          have ne32 : d3 ≠ d2 := ne_of h2.h3 h2.h2 (by intro z; cases z)
          refine q _ (fun z o n1 n2 e => by rw [upd_ne n2, upd_ne n1]; exact S02 _ _ e) ⟨?_, ?_, ?_, upd_same, ?_, hh.ne⟩
          · rw [upd_ne ne2x, upd_ne ne1x]
            exact h2.hx
          · have q1 := h2.hs.but (But.upd (o := .dK (k1 (th ++ [(n, so, b)])))) h2.h1 (fun _ _ _ z => by cases z) (fun _ z => by cases z)
            exact q1.but But.upd ((upd_ne hh.ne.symm).trans h2.h2) (fun _ _ _ z => by cases z) (fun _ z => by cases z)
          · rw [upd_ne hh.ne, upd_same]
          · rw [upd_ne ne32, upd_ne ne31]
            exact h2.h3
        · rw [if_neg h60] at q
          refine ite2 (fun _ => ?_) (fun z => absurd (decide_eq_true (by rw [el]; omega)) z)
          exact mk0 fun d H3 hd hS3 hx => q d H3 (S02.free hd) (S02.trans hS3) hx
      · rw [if_neg hso] at q
        rw [decide_eq_false hso]
        exact iteT ⟨_, rfl, mk1 fun d H3 hd hS3 hx => q d H3 (S02.free hd) (S02.trans hS3) hx⟩
    · rw [if_neg hn] at q ⊢
      exact fun d H3 hd hS3 hx => q d H3 (S0.free hd) (S0.trans hS3) hx
theorem ok_hrtX {f HC S C fI fH : Addr} {fd fdI : FuncData} (F : Fun K "refuse_no_thing" "House.refuse_no_thing" sHrt f fd) (TH : TxH K mg HC fH) (TE : ErrT K mg "NoThing" "name" C fI) (bI : Binds K fdI ["self", "name"] []) (GI : FnOk P w K mg base CX0 2 fI fdI ["self", "name"] (spE1 C "name" "nothing")) :
    FnOk P w K mg base (L2N.CX P w) 4 f fd ["self", "name"] (spHrtX HC S C) := by
  refine okN F scHrt (fun vs H Q E h => ?_) (fun cdv A outer s H vs Q E hr h => ?_)
  · obtain ⟨x, dx, sc, d1, d2, d3, n, ss, ws, th, ts, rfl, _⟩ := h
    rfl
  · obtain ⟨x, dx, sc, d1, d2, d3, n, ss, ws, th, ts, rfl, hh, q⟩ := h
    refine ⟨_, (pss_one (ps_if (pt_cmp (pc_dnotin (hu_of hr) (pv 1) (pe_fld (pv 0) rfl))) (pss_one (L2N.ps_raise rfl (L2N.takes_of rfl rfl rfl rfl) (pmkN_oex TE.o TE.iC TE.tI GI hr bI pass0 rfl TE.g (pa_cons (pv 1) pa_nil)))) pss_nil)), ?_⟩
    refine ⟨_, rfl, _, rfl, x, HC, dx, _, _, rfl, hh.hx, TH.cl, TH.n1, hsF_1 _ _ _ _, d1, _, rfl, DGet.k (k := Sum.inr n) hh.h1, _, rfl, ?_⟩
    rw [is1]
    unfold DueT at q
    by_cases hn : n ∈ nmL th
    · rw [if_pos hn] at q
      rw [decide_eq_true hn]
      exact iteF q
    · rw [if_neg hn] at q
      rw [decide_eq_false hn]
      exact iteT ⟨_, rfl, mk1 q⟩
abbrev ps4 : List Str := ["self", "x", "word", "y"]
theorem scHrs : FnScope ps4 ps4 (defScope sHrs) := ⟨rfl, rfl, rfl, by decide +kernel, rfl, by decide +kernel, by decide +kernel⟩
theorem ok_hrsX {f HC S fH fR fS fW C D fI : Addr} {fd dR dW fdI : FuncData} (F : Fun K "refuse_strange" "House.refuse_strange" sHrs f fd) (TH : TxH K mg HC fH) (mR : Meth K HC "refuse_no_thing" fR) (bR : Binds K dR ["self", "name"] []) (GR : FnOk P w K mg base (L2N.CX P w) 4 fR dR ["self", "name"] (spHrtX HC S C))
    (TC : TxSch K mg S fS) (mW : Meth K S "words" fW) (bW : Binds K dW ["self"] []) (GW : FnOk P w K mg base CX0 1 fW dW ["self"] (spWor S)) (TE : ErrT K mg "NoWord" "name" D fI) (bI : Binds K fdI ["self", "name"] []) (GI : FnOk P w K mg base CX0 2 fI fdI ["self", "name"] (spE1 D "name" "noword")) : FnOk P w K mg base (L2N.CX P w) 5 f fd ps4 (spHrsX HC S C D) := by
  refine okN F scHrs (fun vs H Q E h => ?_) (fun cdv A outer s H vs Q E hr h => ?_)
  · obtain ⟨x, dx, sc, d1, d2, d3, n, wd, m, ss, ws, th, ts, rfl, _⟩ := h
    rfl
  · obtain ⟨x, dx, sc, d1, d2, d3, n, wd, m, ss, ws, th, ts, rfl, hh, q⟩ := h
    have hr1 : Room 1 _ := hr.mono (by decide)
    have hr3 : Room 3 _ := hr.mono (by decide)
    have no : (hsF sc d1 d2 d3).lookup ("refuse_no_thing" : Str) = none := hsF_no (by decide +kernel) (by decide +kernel) (by decide +kernel) (by decide +kernel) _ _ _ _
    refine ⟨_, (pss_cons (ps_expr (pe_meth (pv 0) TH.cl mR GR hr bR .nil (L2N.passes_call (L2N.takes_of rfl rfl rfl rfl) (fun _ _ _ _ h => h)) (pa_cons (pv 1) pa_nil))) (pss_cons (ps_expr (pe_meth (pv 0) TH.cl mR GR hr bR .nil (L2N.passes_call (L2N.takes_of rfl rfl rfl rfl) (fun _ _ _ _ h => h)) (pa_cons (pv 3) pa_nil)))
      (pss_one (ps_if (pt_cmpR op_notIn_seq (pv 2) (pe_meth0 (pe_fld (pv 0) rfl) TC.cl mW GW hr1 bW .nil pass0) (by rfl)) (pss_one (L2N.ps_raise rfl (L2N.takes_of rfl rfl rfl rfl) (pmkN_oex TE.o TE.iC TE.tI GI hr3 bI pass0 rfl TE.g (pa_cons (pv 2) pa_nil)))) pss_nil)))), ?_⟩
    refine ⟨_, rfl, x, dx, _, rfl, hh.hx, no, _, rfl, x, dx, sc, d1, d2, d3, n, ss, ws, th, ts, rfl, hh, ?_⟩
    unfold unk at q
    unfold DueT
    by_cases hn : n ∈ nmL th
    · rw [if_pos hn] at q ⊢
      refine ⟨_, rfl, x, dx, _, rfl, hh.hx, no, _, rfl, x, dx, sc, d1, d2, d3, m, ss, ws, th, ts, rfl, hh, ?_⟩
      unfold DueT
      by_cases hm : m ∈ nmL th
      · rw [if_pos hm] at q ⊢
        obtain ⟨dy, l1, l2, l3, l4, l5, e1, e2, e3⟩ := hh.hs.ex
        refine ⟨_, rfl, _, rfl, x, HC, dx, _, _, rfl, hh.hx, TH.cl, TH.n0, hsF_sc _ _ _ _, sc, dy, _, rfl, e1, schF_no (by decide +kernel) (by decide +kernel) (by decide +kernel) (by decide +kernel) (by decide +kernel) _ _ _ _ _, sc, ss, ws, rfl, hh.hs, fun l hl => ?_⟩
        refine ⟨l, _, rfl, .inl (SqL.of upd_same), rfl, flats ws, _, rfl, ?_⟩
        show if (!inV (.str wd) (ws.map V.str)) = true then _ else _
        have S1 : Same H (upd H l (.lst (ws.map V.str))) := Same.upd hl
        by_cases hw : wd ∈ ws
        · rw [if_pos hw] at q
          rw [inV_strs, decide_eq_true hw]
          exact iteF (q _ S1)
        · rw [if_neg hw] at q
          rw [inV_strs, decide_eq_false hw]
          exact iteT ⟨_, rfl, mk1 fun d H' nd S' e => q d H' (S1.free nd) (S1.trans S') e⟩
      · rw [if_neg hm] at q ⊢
        exact q
    · rw [if_neg hn] at q ⊢
      exact q
theorem scHgi : FnScope ps4 ps4 (defScope sHgi) := ⟨rfl, rfl, rfl, by decide +kernel, rfl, by decide +kernel, by decide +kernel⟩
theorem ok_giv {f HC S C D fH fR : Addr} {fd dR : FuncData} (F : Fun K "give" "House.give" sHgi f fd) (TH : TxH K mg HC fH) (mR : Meth K HC "refuse_strange" fR) (bR : Binds K dR ps4 []) (GR : FnOk P w K mg base (L2N.CX P w) 5 fR dR ps4 (spHrsX HC S C D)) : FnOk P w K mg base (L2N.CX P w) 6 f fd ps4 (spGiv HC S C D) := by
  refine okN F scHgi (fun vs H Q E h => ?_) (fun cdv A outer s H vs Q E hr h => ?_)
  · obtain ⟨x, dx, sc, d1, d2, d3, n, wd, m, ss, ws, th, ts, rfl, _⟩ := h
    rfl
  · obtain ⟨x, dx, sc, d1, d2, d3, n, wd, m, ss, ws, th, ts, rfl, hh, hts, q⟩ := h
    refine ⟨_, (pss_cons (ps_expr (pe_meth (pv 0) TH.cl mR GR hr bR .nil (L2N.passes_call (L2N.takes_of rfl rfl rfl rfl) (fun _ _ _ _ h => h)) (pa_cons (pv 1) (pa_cons (pv 2) (pa_cons (pv 3) pa_nil))))) (pss_one (ps_dput (hu_of hr) (pe_fld (pv 0) rfl) (pe_tup (pa_cons (pv 1) (pa_cons (pv 2) (pa_cons (pv 3) pa_nil)))) pe_bl rfl))), ?_⟩
    refine ⟨_, rfl, x, dx, _, rfl, hh.hx, hsF_no (by decide +kernel) (by decide +kernel) (by decide +kernel) (by decide +kernel) _ _ _ _, _, rfl, _, rfl, _, rfl, x, dx, sc, d1, d2, d3, n, wd, m, ss, ws, th, ts, rfl, hh, ?_⟩
    revert q
    cases unk C D ws (nmL th) n wd m with
    | some u => exact fun q => q
    | none =>
      intro q H1 S1
      have h1 := hh.same S1
      refine ⟨_, rfl, x, HC, dx, _, _, rfl, h1.hx, TH.cl, TH.n3, hsF_3 _ _ _ _, _, rfl, _, rfl, _, rfl, by show 3 ≤ sizeLine; decide, fun t ht => ?_⟩
      have S2 := Same.upd (o := .tup [.str n, .str wd, .str m]) ht
      have h2 := h1.same S2
      refine ⟨d3, _, rfl, DPut.t (k := triK (n, wd, m)) h2.h3 upd_same ?_, ?_⟩
      · unfold k3
        rw [List.length_map]
        exact Nat.lt_of_le_of_lt hts (by decide)
      · rw [put3]
        refine q _ (fun q o nq e => ?_) h2.put3
        rw [upd_ne nq]
        exact S2 _ _ (S1 _ _ e)
theorem scHwa : FnScope ["self", "x"] ["self", "x"] (defScope sHwa) := ⟨rfl, rfl, rfl, by decide +kernel, rfl, by decide +kernel, by decide +kernel⟩
theorem scHsl : FnScope ["self", "x"] ["self", "x"] (defScope sHsl) := ⟨rfl, rfl, rfl, by decide +kernel, rfl, by decide +kernel, by decide +kernel⟩
theorem ok_hwake {f HC S C fH fR : Addr} {fd dR : FuncData} (F : Fun K "wake" "House.wake" sHwa f fd) (TH : TxH K mg HC fH) (mR : Meth K HC "refuse_no_thing" fR) (bR : Binds K dR ["self", "name"] []) (GR : FnOk P w K mg base (L2.CX P w) 4 fR dR ["self", "name"] (spHrtX HC S C)) : FnOk P w K mg base (L2.CX P w) 5 f fd ["self", "x"] (spHwa HC S C true) := by
  refine F.okX scHwa (fun vs H Q E h => ?_) (fun cdv A outer s H vs Q E hr h => ?_)
  · obtain ⟨x, dx, sc, d1, d2, d3, n, ss, ws, th, ts, rfl, _⟩ := h
    rfl
  · obtain ⟨x, dx, sc, d1, d2, d3, n, ss, ws, th, ts, rfl, hh, hl, q⟩ := h
    refine ⟨_, (pss_cons (ps_expr (pe_meth (pv 0) TH.cl mR GR hr bR .nil (passes_call (takes_of rfl rfl rfl rfl) (fun _ _ _ _ h => h)) (pa_cons (pv 1) pa_nil))) (pss_one (ps_dput (hu_of hr) (pe_fld (pv 0) rfl) (pv 1) pe_bl rfl))), ?_⟩
    refine ⟨_, rfl, x, dx, _, rfl, hh.hx, hsF_no (by decide +kernel) (by decide +kernel) (by decide +kernel) (by decide +kernel) _ _ _ _, _, rfl, x, dx, sc, d1, d2, d3, n, ss, ws, th, ts, rfl, hh, ?_⟩
    unfold DueT at q ⊢
    by_cases hn : n ∈ nmL th
    · rw [if_pos hn] at q ⊢
      refine ⟨_, rfl, x, HC, dx, _, _, rfl, hh.hx, TH.cl, TH.n2, hsF_2 _ _ _ _, _, rfl, d2, _, rfl, DPut.k (k := Sum.inr n) hh.h2 ?_, ?_⟩
      · unfold k2
        rw [List.length_map]
        exact Nat.lt_of_le_of_lt hl (by decide)
      · rw [setA_put true hn]
        refine q _ But.upd ⟨?_, hh.hs.but But.upd hh.h2 (fun _ _ _ z => by cases z) (fun _ z => by cases z), ?_, upd_same, ?_, hh.ne⟩
        · rw [upd_ne (ne_of hh.hx hh.h2 (by intro z; cases z))]
          exact hh.hx
        · rw [upd_ne hh.ne, setA_k1]
          exact hh.h1
        · rw [upd_ne (ne_of hh.h3 hh.h2 (by intro z; cases z))]
          exact hh.h3
    · rw [if_neg hn] at q ⊢
      exact q
theorem ok_hsleep {f HC S C fH fR : Addr} {fd dR : FuncData} (F : Fun K "sleep" "House.sleep" sHsl f fd) (TH : TxH K mg HC fH) (mR : Meth K HC "refuse_no_thing" fR) (bR : Binds K dR ["self", "name"] []) (GR : FnOk P w K mg base (L2.CX P w) 4 fR dR ["self", "name"] (spHrtX HC S C)) : FnOk P w K mg base (L2.CX P w) 5 f fd ["self", "x"] (spHwa HC S C false) := by
  refine F.okX scHsl (fun vs H Q E h => ?_) (fun cdv A outer s H vs Q E hr h => ?_)
  · obtain ⟨x, dx, sc, d1, d2, d3, n, ss, ws, th, ts, rfl, _⟩ := h
    rfl
  · obtain ⟨x, dx, sc, d1, d2, d3, n, ss, ws, th, ts, rfl, hh, hl, q⟩ := h
    refine ⟨_, (pss_cons (ps_expr (pe_meth (pv 0) TH.cl mR GR hr bR .nil (passes_call (takes_of rfl rfl rfl rfl) (fun _ _ _ _ h => h)) (pa_cons (pv 1) pa_nil))) (pss_one (ps_dput (hu_of hr) (pe_fld (pv 0) rfl) (pv 1) pe_bl rfl))), ?_⟩
    refine ⟨_, rfl, x, dx, _, rfl, hh.hx, hsF_no (by decide +kernel) (by decide +kernel) (by decide +kernel) (by decide +kernel) _ _ _ _, _, rfl, x, dx, sc, d1, d2, d3, n, ss, ws, th, ts, rfl, hh, ?_⟩
    unfold DueT at q ⊢
    by_cases hn : n ∈ nmL th
    · rw [if_pos hn] at q ⊢
      refine ⟨_, rfl, x, HC, dx, _, _, rfl, hh.hx, TH.cl, TH.n2, hsF_2 _ _ _ _, _, rfl, d2, _, rfl, DPut.k (k := Sum.inr n) hh.h2 ?_, ?_⟩
      · unfold k2
        rw [List.length_map]
        exact Nat.lt_of_le_of_lt hl (by decide)
      · rw [setA_put false hn]
        refine q _ But.upd ⟨?_, hh.hs.but But.upd hh.h2 (fun _ _ _ z => by cases z) (fun _ z => by cases z), ?_, upd_same, ?_, hh.ne⟩
        · rw [upd_ne (ne_of hh.hx hh.h2 (by intro z; cases z))]
          exact hh.hx
        · rw [upd_ne hh.ne, setA_k1]
          exact hh.h1
        · rw [upd_ne (ne_of hh.h3 hh.h2 (by intro z; cases z))]
          exact hh.h3
    · rw [if_neg hn] at q ⊢
      exact q
end
end Wm
namespace Wm
open PySem L2
/-- x in a tuple, whatever its parts are made of -/
def rInTD (K : PySem.W.Frag) : R2 := fun x y H Q => ∃ d ds, Dp K H x d ∧ Dp K H y (.tuple ds) ∧ SeqAt.shaped d = true ∧ SeqAt.shaped (.tuple ds) = true ∧ Q (.bl (ds.any fun z => PyData.eqv z d)) H
theorem op_inTD {X : Cx} (hu : X.A.units + 65 < cLine) : OpR X (compareOp .In) (rInTD X.K) := by
  intro pins s σ H x y v u Q I rx ry h
  obtain ⟨d, ds, hd, he, sd, se, q⟩ := h
  obtain ⟨as, r1⟩ := Dp.reads I d x v hd rx
  obtain ⟨bs, r2⟩ := Dp.reads I (.tuple ds) y u he ry
  exact SeqAt.in_tuple_reads r2 r1 (SeqAt.canLay_of_shaped se) (SeqAt.canLay_of_shaped sd) (PyProof.Rows.room_in_shaped sd hu) ⟨.bl _, H, I, rfl, q⟩
theorem cut_inj {c : Nat} : ∀ {p q X Y : List Nat}, c ∉ p → c ∉ q → p ++ c :: X = q ++ c :: Y → p = q ∧ X = Y
  | [], [], _, _, _, _, h => ⟨rfl, (List.cons.inj h).2⟩
  | [], b :: q, _, _, _, hq, h => absurd (by rw [(List.cons.inj h).1]; exact List.mem_cons_self) hq
  | a :: p, [], _, _, hp, _, h => absurd (by rw [← (List.cons.inj h).1]; exact List.mem_cons_self) hp
  | a :: p, b :: q, X, Y, hp, hq, h => by
    obtain ⟨e, h⟩ := List.cons.inj h
    obtain ⟨e1, e2⟩ := cut_inj (fun z => hp (List.mem_cons_of_mem _ z)) (fun z => hq (List.mem_cons_of_mem _ z)) h
    exact ⟨by rw [e, e1], e2⟩
theorem str_ext {a b : Str} (h : a.cps.toList = b.cps.toList) : a = b := by
  cases a
  cases b
  congr
  exact Array.toList_inj.mp h
theorem join_two (c : Nat) (p q : Str) (r : List Str) : (Str.join ⟨#[c]⟩ (p :: q :: r)).cps.toList = p.cps.toList ++ c :: (Str.join ⟨#[c]⟩ (q :: r)).cps.toList := by
  show ((p.cps ++ #[c]) ++ (Str.join ⟨#[c]⟩ (q :: r)).cps).toList = _
  simp
theorem join_inj {c : Nat} : ∀ {ps qs : List Str}, ps ≠ [] → qs ≠ [] → (∀ p ∈ ps, c ∉ p.cps.toList) → (∀ p ∈ qs, c ∉ p.cps.toList) → (Str.join ⟨#[c]⟩ ps).cps.toList = (Str.join ⟨#[c]⟩ qs).cps.toList → ps = qs
  | [], _, h, _, _, _, _ => absurd rfl h
  | _ :: _, [], _, h, _, _, _ => absurd rfl h
  | [p], [q], _, _, _, _, h => by rw [str_ext (a := p) (b := q) h]
  | [p], q :: q2 :: r, _, _, hp, _, h => by
    rw [join_two] at h
    have e : p.cps.toList = q.cps.toList ++ c :: (Str.join ⟨#[c]⟩ (q2 :: r)).cps.toList := h
    exact absurd (by rw [e]; exact List.mem_append_right _ List.mem_cons_self) (hp p List.mem_cons_self)
  | p :: p2 :: r, [q], _, _, _, hq, h => by
    rw [join_two] at h
    have e : p.cps.toList ++ c :: (Str.join ⟨#[c]⟩ (p2 :: r)).cps.toList = q.cps.toList := h
    exact absurd (by rw [← e]; exact List.mem_append_right _ List.mem_cons_self) (hq q List.mem_cons_self)
  | p :: p2 :: r, q :: q2 :: t, _, _, hp, hq, h => by
    rw [join_two, join_two] at h
    obtain ⟨e1, e2⟩ := cut_inj (hp p List.mem_cons_self) (hq q List.mem_cons_self) h
    have e3 := join_inj (ps := p2 :: r) (qs := q2 :: t) (by simp) (by simp) (fun x hx => hp x (List.mem_cons_of_mem _ hx)) (fun x hx => hq x (List.mem_cons_of_mem _ hx)) e2
    rw [str_ext e1, e3]
theorem split_ne (x : Str) (c : Nat) : Txt.split x ⟨#[c]⟩ ≠ [] := fun h => by
  have e := StrLaws.join_split x ⟨#[c]⟩
  rw [h] at e
  have l : x.length = 0 := by
    rw [← e]
    rfl
  unfold Txt.split at h
  rw [if_pos (by rw [l]; simp; left; show 0 < 1; decide)] at h
  cases h
theorem split_join {c : Nat} {ps : List Str} (hne : ps ≠ []) (hf : ∀ p ∈ ps, c ∉ p.cps.toList) : Txt.split (Txt.join ⟨#[c]⟩ ps) ⟨#[c]⟩ = ps := by
  have e : Txt.join ⟨#[c]⟩ ps = Str.join ⟨#[c]⟩ ps := StrLaws.glued_eq_join ⟨#[c]⟩ ps
  rw [e]
  refine join_inj (split_ne _ _) hne (StrLaws.split_free _ _) hf ?_
  rw [StrLaws.join_split]
end Wm
namespace Wm
open PySem L2
theorem strOk_of {z : Str} (h : okS z) : PyData.strOk z = true := by
  unfold PyData.strOk
  rw [Array.all_eq_true_iff_forall_mem]
  intro c hc
  exact decide_eq_true (h c (by simpa using hc))
theorem eqv_self {d : PyData} (h : SeqAt.shaped d = true) : PyData.eqv d d = true := SeqAt.eqv_refl d (SeqAt.canLay_of_shaped h)
theorem dp_strs {K : PySem.W.Frag} {H : Hp} : ∀ zs : List Str, DpAll K H (zs.map V.str) (zs.map PyData.str)
  | [] => .nil
  | z :: r => .cons (.str z) (dp_strs r)
theorem lay_strs : ∀ {zs : List Str}, (∀ z ∈ zs, okS z) → PyData.canLayAll0 (zs.map PyData.str) = true ∧ PyData.depthAll (zs.map PyData.str) ≤ 1
  | [], _ => by simp [PyData.canLayAll0, PyData.depthAll]
  | z :: r, h => by
    have h1 := strOk_of (h z List.mem_cons_self)
    have h2 := lay_strs (zs := r) fun y hy => h y (List.mem_cons_of_mem _ hy)
    obtain ⟨h2, h3⟩ := h2
    refine ⟨by simp only [List.map_cons, PyData.canLayAll0, PyData.canLay0, h1, h2, Bool.and_self], ?_⟩
    simp [PyData.depthAll, PyData.depth]
    omega
theorem shaped_strs {zs : List Str} (h : ∀ z ∈ zs, okS z) : SeqAt.shaped (.list (zs.map PyData.str)) = true := by
  obtain ⟨h1, h2⟩ := lay_strs h
  simp [SeqAt.shaped, PyData.canLay0, PyData.depth, h1]
  omega
theorem eqvAll_strs : ∀ (a b : List Str), PyData.eqvAll (a.map PyData.str) (b.map PyData.str) = decide (a = b)
  | [], [] => by simp [PyData.eqvAll]
  | [], _ :: _ => by simp [PyData.eqvAll]
  | _ :: _, [] => by simp [PyData.eqvAll]
  | x :: r, y :: t => by
    have ih := eqvAll_strs r t
    simp only [List.map_cons, PyData.eqvAll, ih]
    by_cases h : x = y
    · by_cases h2 : r = t
      · simp [h, h2, PyData.eqv]
      · simp [h, h2, PyData.eqv]
    · simp [h, PyData.eqv]
theorem eqv_strs (a b : List Str) : PyData.eqv (.list (a.map PyData.str)) (.list (b.map PyData.str)) = decide (a = b) := by
  have e := eqvAll_strs a b
  simp only [PyData.eqv]
  exact e
theorem cut_drop (xs : List V) (i : Nat) : cutV xs (some (i : Int)) none = xs.drop i := by
  unfold cutV
  rw [HT.sIx_none, HT.sIx_nat]
  by_cases h : i ≤ xs.length
  · rw [Nat.min_eq_left h, List.take_of_length_le (by rw [List.length_drop]; omega)]
  · rw [Nat.min_eq_right (by omega), List.drop_of_length_le (Nat.le_refl _), List.drop_of_length_le (by omega)]
    simp
theorem blank : PySem.Str.ofString " " = ⟨#[32]⟩ := by decide +kernel
theorem join_sub {c : Nat} : ∀ {ps : List Str}, okS (Str.join ⟨#[c]⟩ ps) → ∀ p ∈ ps, okS p
  | [], _, _, hp => (List.not_mem_nil hp).elim
  | [q], h, p, hp => by
    rw [List.mem_singleton.mp hp]
    exact h
  | q :: q2 :: r, h, p, hp => by
    have e := join_two c q q2 r
    rcases List.mem_cons.mp hp with rfl | hp
    · intro x hx
      exact h x (by rw [e]; exact List.mem_append_left _ hx)
    · refine join_sub (c := c) (ps := q2 :: r) (fun x hx => h x ?_) p hp
      rw [e]
      exact List.mem_append_right _ (List.mem_cons_of_mem _ hx)
theorem splitOk {row : Str} (h : okS row) : ∀ z ∈ Txt.split row " ", okS z := by
  rw [show Txt.split row " " = Txt.split row ⟨#[32]⟩ by rw [← blank]]
  refine join_sub (c := 32) ?_
  rw [StrLaws.join_split]
  exact h
theorem flatS (zs : List Str) : (zs.map V.str).all flatV = true := by
  rw [List.all_map]
  exact List.all_eq_true.mpr fun _ _ => rfl
theorem u65 {k : Nat} {A : Around} (r : Room k A) : A.units + 65 < cLine := by
  have := r.un
  omega
def spPo : Sp := fun vs H Q _ => ∃ row : Str, vs = [.str row] ∧ row.length ≤ 1000000 ∧ ∀ l H', H l = none → Same H H' → H' l = some (.lst ((if ("" : Str) ∈ Txt.split row " " then [] else Txt.split row " ").map V.str)) → Q (.ref l) H'

def pts (row : Str) : List Str := if ("" : Str) ∈ Txt.split row " " then [] else Txt.split row " "
def thB (ps : List Str) : Bool := decide (ps.take 1 = [("thing" : Str)]) && (decide ([("awake" : Str)] = ps.drop 3) || decide ([("asleep" : Str)] = ps.drop 3))
def hoB (ps : List Str) : Bool := decide (ps.take 1 = [("holds" : Str)]) && decide (ps.length = 4)
/-- a row of its form -/
def fmd (ps : List Str) : Bool := match ps with
  | [k, _, _, c] => decide (k = "holds") || (decide (k = "thing") && (decide (c = "awake") || decide (c = "asleep")))
  | _ => false
theorem fmd_is (ps : List Str) : fmd ps = (thB ps || hoB ps) := by
  match ps with
  | [] => simp [fmd, thB, hoB]
  | [_] => simp [fmd, thB, hoB]
  | [_, _] => simp [fmd, thB, hoB]
  | [_, _, _] => simp [fmd, thB, hoB]
  | [k, _, _, c] =>
    simp only [fmd, thB, hoB, List.take, List.drop, List.cons.injEq, and_true, List.length_cons, List.length_nil]
    rw [show decide (("awake" : Str) = c) = decide (c = ("awake" : Str)) from decide_eq_decide.mpr eq_comm, show decide (("asleep" : Str) = c) = decide (c = ("asleep" : Str)) from decide_eq_decide.mpr eq_comm]
    simp only [decide_true, Bool.and_true]
    exact Bool.or_comm _ _
  | _ :: _ :: _ :: _ :: _ :: _ => simp [fmd, thB, hoB]
def spHps (C : Addr) : Sp := fun vs H Q E => ∃ (row : Str) (n : Int), vs = [.str row, .int n] ∧ row.length ≤ 1000000 ∧ okS row ∧ if fmd (pts row) = true then ∀ l H', H l = none → Same H H' → H' l = some (.lst ((pts row).map V.str)) → Q (.ref l) H' else ∀ d H', H d = none → Same H H' → H' d = some (.xd (ef1 "row" "badrow" (.int n))) → E (.ref C) (some d) H'
theorem pts_ok {row : Str} (h : okS row) : ∀ z ∈ pts row, okS z := by
  unfold pts
  split
  · exact fun z hz => (List.not_mem_nil hz).elim
  · exact splitOk h
section
variable {P : Program} {w : World} {K : PySem.W.Frag} {mg : Str → Option Value} {base : Heap}
theorem scPo : FnScope ["row", "parts"] ["row"] (defScope sPo) := ⟨rfl, rfl, rfl, by decide +kernel, rfl, by decide +kernel, by decide +kernel⟩
theorem ok_po {f : Addr} {fd : FuncData} (F : Fun K "parts_of" "parts_of" sPo f fd) : FnOk P w K mg base CX0 1 f fd ["row"] spPo := by
  refine F.ok scPo (fun vs H Q E h => ?_) (fun cdv A outer s H vs Q E hr h => ?_)
  · obtain ⟨row, rfl, _⟩ := h
    rfl
  · obtain ⟨row, rfl, hl, k⟩ := h
    refine ⟨_, (pss_cons (ps_set (i := 1) scPo.nd rfl (Or.inl rfl) (pe_split (pv 0) pe_str))
      (pss_cons (ps_if (pt_cmpR op_in_seq pe_str (pv 1) (by rfl)) (pss_one (ps_ret (pe_lst pa_nil))) pss_nil)
      (pss_one (ps_ret (pv 1))))), ?_⟩
    refine ⟨_, rfl, ⟨row, rfl⟩, row, _, rfl, rfl, by decide +kernel, Nat.le_trans (show row.length + 2 ≤ 2000000 by omega) (by decide), fun l nl => ?_⟩
    dsimp only [List.set_cons_succ, List.set_cons_zero]
    have S1 : Same H (upd H l (.lst ((Txt.split row " ").map V.str))) := Same.upd nl
    refine ⟨_, rfl, l, _, rfl, .inl (SqL.of upd_same), rfl, flatS _, _, rfl, ?_⟩
    show if inV (.str "") ((Txt.split row " ").map V.str) = true then _ else _
    rw [inV_strs]
    by_cases h : ("" : Str) ∈ Txt.split row " "
    · rw [decide_eq_true h]
      rw [if_pos h] at k
      exact iteT ⟨Nat.zero_le _, fun l2 nl2 => k l2 _ (S1.free nl2) (S1.trans (Same.upd nl2)) upd_same⟩
    · rw [decide_eq_false h]
      rw [if_neg h] at k
      exact iteF ⟨_, rfl, k l _ nl S1 upd_same⟩

theorem scHps : FnScope ["row", "number", "parts", "is_thing", "is_holding"] ["row", "number"] (defScope sHps) := ⟨rfl, rfl, rfl, by decide +kernel, rfl, by decide +kernel, by decide +kernel⟩
theorem ok_hps {f C fI fP : Addr} {fd fdI dP : FuncData} (F : Fun K "house_parts" "house_parts" sHps f fd) (T : TxB mg) (DP : Dn K mg "parts_of" sPo ["row"] fP dP) (TE : ErrT K mg "BadRow" "row" C fI) (bI : Binds K fdI ["self", "row"] []) (GI : FnOk P w K mg base CX0 2 fI fdI ["self", "row"] (spE1 C "row" "badrow")) : FnOk P w K mg base (L2N.CX P w) 4 f fd ["row", "number"] (spHps C) := by
  have GP : FnOk P w K mg base CX0 1 fP dP _ spPo := ok_po DP.F
  refine okN F scHps (fun vs H Q E h => ?_) (fun cdv A outer s H vs Q E hr h => ?_)
  · obtain ⟨row, n, rfl, _⟩ := h
    rfl
  · obtain ⟨row, n, rfl, hz, ho, k⟩ := h
    have hr3 : Room 3 _ := hr
    have hr1 : Room 1 _ := hr.mono (by decide)
    refine ⟨_, (pss_cons (ps_set (i := 2) scHps.nd rfl (Or.inl rfl) (pe_call GP hr1 rfl DP.g DP.F.kp DP.b .nil pass0 (pa_cons (pv 0) pa_nil)))
      (pss_cons (ps_set (i := 3) scHps.nd rfl (Or.inl rfl) (pe_and (pe_cmpR (op_eqD hr.units) (pe_slice sl_list (pv 2) po_none (po_some pe_int)) (pe_lst (pa_cons pe_str pa_nil)) (nomark _)) (pe_one (pe_cmpR (op_inTD (u65 hr)) (pe_slice sl_list (pv 2) (po_some pe_int) po_none) (pe_tup (pa_cons (pe_lst (pa_cons pe_str pa_nil)) (pa_cons (pe_lst (pa_cons pe_str pa_nil)) pa_nil))) (by rfl)))))
      (pss_cons (ps_set (i := 4) scHps.nd rfl (Or.inl rfl) (pe_and (pe_cmpR (op_eqD hr.units) (pe_slice sl_list (pv 2) po_none (po_some pe_int)) (pe_lst (pa_cons pe_str pa_nil)) (nomark _)) (pe_one (pe_cmpR op_eq (pe_callB call_len_seq (by rfl) T.len (by decide +kernel) (pa_cons (pv 2) pa_nil)) pe_int (nomark _)))))
      (pss_cons (ps_if (PW.pt (pw_and (pt_not (pt_val (pv 3))) (pw_and1 (pt_not (pt_val (pv 4)))))) (pss_one (L2N.ps_raise rfl (L2N.takes_of rfl rfl rfl rfl) (pmkN_oex TE.o TE.iC TE.tI GI hr3 bI pass0 rfl TE.g (pa_cons (pv 1) pa_nil)))) pss_nil)
      (pss_one (ps_ret (pv 2))))))), ?_⟩
    refine ⟨_, rfl, row, rfl, hz, fun l H1 nl S1 e1 => ?_⟩
    dsimp only [List.set_cons_succ, List.set_cons_zero]
    change H1 l = some (.lst ((pts row).map V.str)) at e1
    have ops := pts_ok ho
    generalize pts row = ps at e1 ops k
    have sh1 : ∀ n, SeqAt.shaped (.list ((ps.take n).map PyData.str)) = true := fun n => shaped_strs fun z hz => ops z (List.mem_of_mem_take hz)
    have sh2 : ∀ n, SeqAt.shaped (.list ((ps.drop n).map PyData.str)) = true := fun n => shaped_strs fun z hz => ops z (List.mem_of_mem_drop hz)
    have fmi := fmd_is ps
    refine cut1 (fun σ' H' => σ' = [some (.str row), some (.int n), some (.ref l), some (.bl (thB ps)), none] ∧ Same H H' ∧ H' l = some (.lst (ps.map V.str))) ?_ (fun R' fin => ?_)
    · rintro σ' H5 ⟨rfl, S5, e5⟩
      refine cut1 (fun σ' H' => σ' = [some (.str row), some (.int n), some (.ref l), some (.bl (thB ps)), some (.bl (hoB ps))] ∧ Same H H' ∧ H' l = some (.lst (ps.map V.str))) ?_ (fun R' fin => ?_)
      · rintro σ' H6 ⟨rfl, S6, e6⟩
        cases hb : fmd ps with
        | true =>
          rw [hb, if_pos rfl] at k
          rw [hb] at fmi
          have fin : (tSeq tNext (tRet (tVar 2))) = (tSeq tNext (tRet (tVar 2))) := rfl
          cases h1 : thB ps with
          | true =>
            refine ⟨_, rfl, _, rfl, ?_⟩
            refine iteF ?_
            exact ⟨_, rfl, k l _ nl S6 e6⟩
          | false =>
            cases h2 : hoB ps with
            | true =>
              refine ⟨_, rfl, _, rfl, ?_⟩
              refine iteT ?_
              refine ⟨_, rfl, _, rfl, ?_⟩
              refine iteF ?_
              exact ⟨_, rfl, k l _ nl S6 e6⟩
            | false =>
              rw [h1, h2] at fmi
              cases fmi
        | false =>
          rw [hb, if_neg (by decide)] at k
          rw [hb] at fmi
          have h1 : thB ps = false := by
            cases h : thB ps with
            | false => rfl
            | true =>
              rw [h] at fmi
              cases fmi
          have h2 : hoB ps = false := by
            rw [h1] at fmi
            exact fmi.symm
          rw [h1, h2]
          refine ⟨_, rfl, _, rfl, ?_⟩
          refine iteT ?_
          refine ⟨_, rfl, _, rfl, ?_⟩
          refine iteT ?_
          refine ⟨_, rfl, ?_⟩
          exact mk1 fun d H' nd' S' e => k d H' (S6.free nd') (S6.trans S') e
      refine ⟨_, rfl, _, rfl, l, _, rfl, SqL.of e5, fun l2 nl2 => ?_⟩
      rw [show cutV (ps.map V.str) none (some 1) = (ps.take 1).map V.str by rw [List.map_take]; exact cut_take _ 1]
      have S2 : Same H5 (upd H5 l2 (.lst ((ps.take 1).map V.str))) := Same.upd nl2
      have e2 : (upd H5 l2 (.lst ((ps.take 1).map V.str))) l2 = some (.lst ((ps.take 1).map V.str)) := upd_same
      generalize upd H5 l2 (.lst ((ps.take 1).map V.str)) = H2 at S2 e2
      refine ⟨by show 1 ≤ sizeLine; decide, fun l3 nl3 => ?_⟩
      have S3 : Same H2 (upd H2 l3 (.lst [.str "holds"])) := Same.upd nl3
      have e3 : (upd H2 l3 (.lst [.str "holds"])) l3 = some (.lst (([("holds" : Str)]).map V.str)) := upd_same
      generalize upd H2 l3 (.lst [.str "holds"]) = H3 at S3 e3
      have S23 := S2.trans S3
      have e13 := S23 _ _ e5
      refine ⟨_, _, .lst (SqL.of (S3 _ _ e2)) (dp_strs _), .lst (SqL.of e3) (dp_strs _), sh1 1, by decide +kernel, _, rfl, ?_⟩
      rw [eqv_strs]
      have eh : hoB ps = (decide (ps.take 1 = [("holds" : Str)]) && decide (ps.length = 4)) := rfl
      by_cases h1 : ps.take 1 = [("holds" : Str)]
      · rw [decide_eq_true h1]
        rw [decide_eq_true h1, Bool.true_and] at eh
        refine iteT ?_
        refine ⟨_, rfl, l, _, rfl, .inl (SqL.of e13), rfl, ?_⟩
        rw [List.length_map]
        refine fin _ _ ⟨?_, S5.trans S23, e13⟩
        rw [eh]
        have el : decide (V.int (ps.length : Int) = V.int 4) = decide (ps.length = 4) := decide_eq_decide.mpr ⟨fun h => by
          have := V.int.inj h
          omega, fun h => by rw [h]; rfl⟩
        dsimp only [gName, List.set_cons_succ, List.set_cons_zero]
        rw [← el]
      · rw [decide_eq_false h1]
        rw [decide_eq_false h1, Bool.false_and] at eh
        refine iteF ?_
        refine fin _ _ ⟨?_, S5.trans S23, e13⟩
        rw [eh]
        rfl
    refine ⟨_, rfl, _, rfl, l, _, rfl, SqL.of e1, fun l2 nl2 => ?_⟩
    rw [show cutV (ps.map V.str) none (some 1) = (ps.take 1).map V.str by rw [List.map_take]; exact cut_take _ 1]
    have S2 : Same H1 (upd H1 l2 (.lst ((ps.take 1).map V.str))) := Same.upd nl2
    have e2 : (upd H1 l2 (.lst ((ps.take 1).map V.str))) l2 = some (.lst ((ps.take 1).map V.str)) := upd_same
    generalize upd H1 l2 (.lst ((ps.take 1).map V.str)) = H2 at S2 e2
    refine ⟨by show 1 ≤ sizeLine; decide, fun l3 nl3 => ?_⟩
    have S3 : Same H2 (upd H2 l3 (.lst [.str "thing"])) := Same.upd nl3
    have e3 : (upd H2 l3 (.lst [.str "thing"])) l3 = some (.lst (([("thing" : Str)]).map V.str)) := upd_same
    generalize upd H2 l3 (.lst [.str "thing"]) = H3 at S3 e3
    have S23 := S2.trans S3
    have e13 := S23 _ _ e1
    refine ⟨_, _, .lst (SqL.of (S3 _ _ e2)) (dp_strs _), .lst (SqL.of e3) (dp_strs _), sh1 1, by decide +kernel, _, rfl, ?_⟩
    rw [eqv_strs]
    have eh : thB ps = (decide (ps.take 1 = [("thing" : Str)]) && (decide ([("awake" : Str)] = ps.drop 3) || decide ([("asleep" : Str)] = ps.drop 3))) := rfl
    by_cases h1 : ps.take 1 = [("thing" : Str)]
    · rw [decide_eq_true h1]
      rw [decide_eq_true h1, Bool.true_and] at eh
      refine iteT ?_
      refine ⟨_, rfl, _, rfl, l, _, rfl, SqL.of e13, fun l4 nl4 => ?_⟩
      rw [show cutV (ps.map V.str) (some 3) none = (ps.drop 3).map V.str by rw [List.map_drop]; exact cut_drop _ 3]
      have S4 : Same H3 (upd H3 l4 (.lst ((ps.drop 3).map V.str))) := Same.upd nl4
      have e4 : (upd H3 l4 (.lst ((ps.drop 3).map V.str))) l4 = some (.lst ((ps.drop 3).map V.str)) := upd_same
      generalize upd H3 l4 (.lst ((ps.drop 3).map V.str)) = H4 at S4 e4
      refine ⟨by show 1 ≤ sizeLine; decide, fun l5 nl5 => ?_⟩
      have S5 : Same H4 (upd H4 l5 (.lst [.str "awake"])) := Same.upd nl5
      have e5 : (upd H4 l5 (.lst [.str "awake"])) l5 = some (.lst (([("awake" : Str)]).map V.str)) := upd_same
      generalize upd H4 l5 (.lst [.str "awake"]) = H5 at S5 e5
      refine ⟨by show 1 ≤ sizeLine; decide, fun l6 nl6 => ?_⟩
      have S6 : Same H5 (upd H5 l6 (.lst [.str "asleep"])) := Same.upd nl6
      have e6 : (upd H5 l6 (.lst [.str "asleep"])) l6 = some (.lst (([("asleep" : Str)]).map V.str)) := upd_same
      generalize upd H5 l6 (.lst [.str "asleep"]) = H6 at S6 e6
      refine ⟨by show 2 ≤ sizeLine; decide, fun t7 nt7 => ?_⟩
      have S7 : Same H6 (upd H6 t7 (.tup [.ref l5, .ref l6])) := Same.upd nt7
      have e7 : (upd H6 t7 (.tup [.ref l5, .ref l6])) t7 = some (.tup [.ref l5, .ref l6]) := upd_same
      generalize upd H6 t7 (.tup [.ref l5, .ref l6]) = H7 at S7 e7
      have S67 := S6.trans S7
      have S47 := (S4.trans S5).trans S67
      refine ⟨_, [.list (([("awake" : Str)]).map PyData.str), .list (([("asleep" : Str)]).map PyData.str)], .lst (SqL.of (S67 _ _ (S5 _ _ e4))) (dp_strs _), .tup (SqT.of e7) (.cons (.lst (SqL.of (S67 _ _ e5)) (dp_strs _)) (.cons (.lst (SqL.of (S7 _ _ e6)) (dp_strs _)) .nil)), sh2 3, by decide +kernel, ?_⟩
      rw [List.any_cons, List.any_cons, List.any_nil, eqv_strs, eqv_strs, Bool.or_false]
      refine fin _ _ ⟨?_, (S1.trans S23).trans S47, S47 _ _ e13⟩
      rw [eh]
      rfl
    · rw [decide_eq_false h1]
      rw [decide_eq_false h1, Bool.false_and] at eh
      refine iteF ?_
      refine fin _ _ ⟨?_, S1.trans S23, e13⟩
      rw [eh]
      rfl
end
end Wm
/-! a list comprehension whose element may let an error out -/
namespace Wm
open PySem PySem.Spec PyProof.Rows L2
section
variable {M : Model} {A : Around} {E : Value → Shared → Prop} {s : Shared} {env : Env}
/-- what the block's end is to give: an error goes on by the block's own frame -/
def endX (M : Model) (A : Around) (E : Value → Shared → Prop) (use : Option (Value → Sem Unit)) (Q : Value → Shared → Prop) (acc : Value) (ce : Env) (r : Result) (s' : Shared) : Prop :=
  match r with
  | .ok f => compPost M A E use Q acc ce.locals (.ok f) s'
  | .error x => ∃ m, s'.heap.Ns ce.locals m ∧ ∀ h', Heap.SameBut ce.locals s'.heap h' → wpAny M A (PySem.passOn "comprehension.variables-let-go" x ce : Sem Value) (fun _ _ => False) E { s' with heap := h' }
theorem comp_endX {e : Expr} {scope : Scope} {pos : Pos} {mk ini : Sem Value} {g : Comprehension} {gs : List Comprehension} {cl : List (Str × Addr)} {use : Option (Value → Sem Unit)} {Q : Value → Shared → Prop}
    (c1 : clausesOf e = g :: gs) (c2 : ∀ x, foldedSetIterable g.iter env x = pure x) (c3 : closureFor scope env = pure cl) (c4 : scope.kind = .function) (c5 : ∀ x ∈ scope.names, x.2 = .local → scope.names.lookup x.1 = some .local)
    (h : wpAny M A ini (fun x s1 => wpAny M A (pyIter x) (fun it s2 => wpAny M A mk (fun acc s3 => wpAny M A (newFunctionEnv scope env.globals cl [] env.qual none .none (some env)) (fun ce s4 =>
      codeAny M A (.compStart e 0 it acc { ce with scope := relabel scope env }) (endX M A E use Q acc { ce with scope := relabel scope env }) s4) E s3) E s2) E s1) E s) :
    wpAny M A (comprehension e scope env pos mk false ini use) Q E s := by
  unfold comprehension
  rw [c3, c1]
  have same : ∀ {α : Type} {t : Sem α} {Q Q' : α → Shared → Prop} {s : Shared}, wpAny M A t Q E s → (∀ a s, Q a s → Q' a s) → wpAny M A t Q' E s := fun h k => wpAny_mono h k fun _ _ z => z
  refine wpAny_bind (same h fun x s1 h1 => wpAny_bind (wpAny_standAt (wpAny_bind (wpAny_of_eq (c2 x) ?_))))
  refine wpAny_bind (wpAny_holding (same h1 fun it s2 h2 => wpAny_standIf (wpAny_bind (same h2 fun acc s3 h3 => wpAny_bind (wpAny_pure (wpAny_bind (same h3 fun ce s4 h4 => ?_)))))))
  dsimp only
  have v1 : ∀ y ∈ (scope.names.filter fun z => (z.2 == .local || z.2 == .cell) && z.1 != (".0" : Str)).reverse, y.2 = .local → Env.kindOf { ce with scope := relabel scope env } y.1 = some .local := fun y hy hl =>
    lookup_relabel_local (c5 y (List.mem_filter.mp (List.mem_reverse.mp hy)).1 hl)
  have v2 : ∀ y ∈ (scope.names.filter fun z => (z.2 == .local || z.2 == .cell) && z.1 != (".0" : Str)).reverse.drop 1 ++ (scope.names.filter fun z => (z.2 == .local || z.2 == .cell) && z.1 != (".0" : Str)).reverse.take 1,
      y.2 = .local → Env.kindOf { ce with scope := relabel scope env } y.1 = some .local := fun y hy hl => by
    rcases List.mem_append.mp hy with k | k
    · exact v1 y (List.mem_of_mem_drop k) hl
    · exact v1 y (List.mem_of_mem_take k) hl
  refine wpAny_holding (wpAny_bind (wpAny_attempt (wpAny_holding (wpAny_run (codeAny_mono h4 fun r s' hr => ?_)))))
  rcases r with x | f
  · obtain ⟨m, hn, k⟩ := hr
    exact wpAny_bind (wpAny_holding (wpAny_comp_letGo (cenv := { ce with scope := relabel scope env }) c4 _ s' m v1 hn fun h' m' _ sb => wpAny_mono (k h' sb) (fun _ _ z => z.elim) fun _ _ z => z))
  · rcases use with _ | u
    · obtain ⟨m, hn, k⟩ := hr
      exact wpAny_bind (wpAny_holding (wpAny_comp_letGo (cenv := { ce with scope := relabel scope env }) c4 _ s' m v1 hn fun h' m' _ sb => wpAny_pure (k h' sb)))
    · refine wpAny_bind (wpAny_rule (wpAny_bind (wpAny_holding (same hr fun _ s2 hr' => ?_))))
      obtain ⟨m, hn, k⟩ := hr'
      exact wpAny_bind (wpAny_comp_letGo (cenv := { ce with scope := relabel scope env }) c4 _ s2 m v2 hn fun h' m' _ sb => wpAny_pure (k h' sb))
end
/-- a block's context with a wish of its own about errors -/
abbrev blkX (X : Cx) (s : Shared) (H : Hp) (scope : Scope) (ce : Env) (fp : List Addr) (xe : Value → Shared → Prop) : Cx := { X.blk s H scope ce fp with xe := xe }
abbrev withX (X : Cx) (xe : Value → Shared → Prop) : Cx := { X with xe := xe }
/-- the block of a comprehension as its own context, at whatever place it stands -/
abbrev InBlk0 (X : Cx) (scope : Scope) (xe : Value → Shared → Prop) (T : Cx → Prop) : Prop := ∀ (s : Shared) (H : Hp) (C : Addr) (cl : List (Str × Addr)) (fp : List Addr), T (blkX X s H scope (compEnvC scope cl C X.env) fp xe)
theorem inv_xe {X : Cx} {xe : Value → Shared → Prop} {pins : List (Addr × Obj)} {σ : L2.St} {H : Hp} {s : Shared} (I : Inv X pins σ H s) : Inv (withX X xe) pins σ H s :=
  ⟨⟨I.ok.mod, I.ok.kind, I.ok.glob, I.ok.blt, I.ok.above, I.ok.inj, I.ok.has, I.ok.cab, I.ok.hd, I.ok.frames, I.ok.stk, I.ok.exf, I.ok.bs, I.ok.bsz, I.ok.noex, I.ok.exfs, I.ok.funs, I.ok.frf⟩,
    I.os, I.bare, I.base, I.loc, I.cell, I.free, I.freeC, I.pin, I.hok, I.len⟩
theorem ff_on {h h' bs bs' : Heap} : ∀ {l : List Env}, (∀ b, bs.get? b = none → bs'.get? b = none) → (∀ b ∈ frs l, ∀ o, h.get? b = some o → h'.get? b = some o) → h.FunFrames bs l → h'.FunFrames bs' l
  | [], _, _, _ => True.intro
  | e :: r, kb, k, ⟨hm, ⟨L, o, e1, e2, e3, e4⟩, t⟩ => by
    refine ⟨hm, ⟨L, o, e1, kb _ e2, k L ?_ o e3, e4⟩, ff_on kb (fun b hb => k b ?_) t⟩
    · exact List.mem_filterMap.mpr ⟨e, List.mem_cons_self, e1⟩
    · obtain ⟨x, hx, q⟩ := List.mem_filterMap.mp hb
      exact List.mem_filterMap.mpr ⟨x, List.mem_cons_of_mem _ hx, q⟩
theorem hid_ne {h : Heap} {C b : Addr} {o : Obj} (e : (PySem.W.hideAll h [C]).get? b = some o) : b ≠ C ∧ h.get? b = some o := by
  refine ⟨fun z => ?_, PySem.W.of_hideAll _ e⟩
  rw [z, PySem.W.hideAll_none _ List.mem_cons_self] at e
  cases e
section
variable {X : Cx} {W : WX} {E : XK} {pins : List (Addr × Obj)} {σ : L2.St} {H : Hp} {s s' : Shared}
/-- an exception out of a call flies, on the ground of our own state -/
theorem air_of {u : Value} (I : Inv X pins σ H s) (c : L2N.CX X.prog X.w X.stack H s E u s') : ∃ (a : Addr) (B : Heap) (sI : Shared) (H' : Hp) (cls : Value) (d : Option Addr), u = .ref a ∧ Inv X pins σ H' sI ∧
    (∀ b o, sI.heap.get? b = some o → b ∉ frs X.stack → B.get? b = some o) ∧ sI.heap.UpToSlots s'.heap ∧ HandSPX.FlyingZ B X.stack a (L2N.Zn cls d) s'.heap ∧ H' a = none ∧ s'.os = sI.os ∧ AllBare s'.gens ∧ E cls d H' := by
  obtain ⟨a, B, H', cls, d, rfl, fl, hk, ub, na, os, ag, hE⟩ := c
  obtain ⟨G, t1, t2⟩ := restrict s'.heap fun b => (B.get? b).isSome || decide (b ∈ frs X.stack)
  have inB : ∀ b o, B.get? b = some o → G.get? b = some o := fun b o e => (t1 b (by simp [e])).trans (fl.1 b o e)
  have inF : ∀ b, b ∈ frs X.stack → G.get? b = s'.heap.get? b := fun b hb => t1 b (by simp [hb])
  have outG : ∀ b o, G.get? b = some o → s'.heap.get? b = some o ∧ ((B.get? b).isSome = true ∨ b ∈ frs X.stack) := fun b o e => by
    by_cases q : ((B.get? b).isSome || decide (b ∈ frs X.stack)) = true
    · rw [t1 b q] at e
      exact ⟨e, by simpa [Bool.or_eq_true] using q⟩
    · rw [t2 b (by simpa using q)] at e
      cases e
  refine ⟨a, B, { s with heap := G, gens := s'.gens, drawn := s'.drawn, toks := s'.toks }, H', cls, d, rfl, I.call (ch := []) ?_ (hk.kept inB) ag (fun _ z => nomatch z), fun b o e hb => ?_, Heap.UpToSlots.of_keeps fun b o e => (outG b o e).1, fl, na, os, ag, hE⟩
  · refine ⟨fun b o e n hb _ => inB b o (ub.keep b o e n hb), fun b o e n hb _ => ?_, fun b o e n _ => ub.free b o e n, fun b o e _ => ?_, ub.tups, ub.frzs, ub.tbls⟩
    · obtain ⟨sl, q⟩ := ub.slot b o e hb
      exact ⟨sl, (inF b hb).trans q⟩
    · by_cases hb : b ∈ frs X.stack
      · obtain ⟨sl, q⟩ := ub.slot b o e hb
        exact ⟨_, (inF b hb).trans q⟩
      · obtain ⟨o', q⟩ := ub.there b o e hb
        exact ⟨o', inB b o' q⟩
  · obtain ⟨z, k | k⟩ := outG b o e
    · obtain ⟨o', q⟩ := Option.isSome_iff_exists.mp k
      have z' := fl.1 b o' q
      rw [z] at z'; cases z'
      exact q
    · exact absurd k hb
/-- an error of a call in the block goes on: noted, the block's names let go, and out in the def's own air -/
theorem blk_out {s3 : Shared} {H3 : Hp} {scope : Scope} {ce : Env} {fp : List Addr} {xe : Value → Shared → Prop} {use : Option (Value → Sem Unit)} {Q : Value → Shared → Prop} {acc : Value}
    (hs : X.stack = X.env :: X.outer) (hf : X.env.frame = some X.env.locals) (tk : L2N.Takes X W) (hW : ∀ cls d σ H, E cls d H → W cls d σ H)
    (I3 : Inv X pins σ H3 s3) (f3 : ∀ b ∈ fp, FpOk X pins H3 b) {pins' : List (Addr × Obj)} {σ' : L2.St} {u : Value} {s5 : Shared}
    (hC : ce.locals = s3.heap.objs.size) (hF : ∀ x, noteFrame x ce = noteFrame x X.env) (hG : ce.frame = X.env.frame)
    (I : Inv (blkX X s3 H3 scope ce fp xe) pins' σ' H s) (c : L2N.CX X.prog X.w X.stack H s E u s5) :
    notedBy (model X.prog X.w) X.A ce (fun e s'' => endX (model X.prog X.w) X.A X.xe use Q acc ce (.error e) s'') u s5 := by
  obtain ⟨a, B, sI, HI, cls, d, rfl, J, nb, up, fl, na, os, ag, w⟩ := air_of I c
  have hfr : X.A.frames = some (X.env :: X.outer) := by rw [I3.ok.frames, hs]
  have fl : HandSPX.FlyingZ B (X.env :: X.outer) a (L2N.Zn cls d) s5.heap := by rw [← hs]; exact fl
  show wpAny _ X.A (noteFrame (.ref a) ce) _ _ s5
  rw [hF]
  refine PXN.looks_onZ L2N.Zn.steady hfr hf fl fun h1 hh up1 => ?_
  have J1 := J.landed (s' := { s5 with heap := h1 }) nb hh.1 (up.trans up1) os ag
  obtain ⟨m, hn, _⟩ := J1.loc
  refine ⟨m, hn, fun h' sb => ?_⟩
  obtain ⟨k1, k2, k3, oe, vs, T, oT, ts, he, hz, hd, h1', hnT, hTe, hT, hdT, h3'⟩ := id hh
  have noC : ∀ b o vs, h1.get? b = some o → o.data = .fields vs → b ≠ ce.locals := fun b o vs e dd z => by
    obtain ⟨o', es, ep, e', d', _⟩ := hn
    have e' : h1.get? ce.locals = some o' := e'
    rw [← z, e] at e'
    cases e'
    rw [dd] at d'
    cases d'
  have aC := noC a oe vs he hd
  have tC := noC T oT ts hT hdT
  have he' : h'.get? a = some oe := (sb.2 a aC).trans he
  have hT' : h'.get? T = some oT := (sb.2 T tC).trans hT
  have frC : ∀ b ∈ frs (X.env :: X.outer), b ≠ ce.locals := fun b hb z => by
    have st := I3.stack
    rw [hs] at st
    obtain ⟨_, o, e, _⟩ := st.mem hb
    have lt := Heap.lt_size e
    rw [z, hC] at lt
    exact Nat.lt_irrefl _ lt
  have hh' : HandSPX.HeldZ (PySem.W.hideAll B [ce.locals]) (X.env :: X.outer) a (L2N.Zn cls d) X.env.locals h' := by
    refine ⟨fun b o e => ?_, ?_, ff_on (fun b e => ?_) (fun b hb o e => (sb.2 b (frC b hb)).trans e) k3, oe, vs, T, oT, ts, he', hz, hd, h1', ?_, hTe, hT', hdT, h3'⟩
    · obtain ⟨n, e⟩ := hid_ne e
      exact (sb.2 b n).trans (k1 b o e)
    · cases q : (PySem.W.hideAll B [ce.locals]).get? a with
      | none => rfl
      | some o => rw [(hid_ne q).2] at k2; cases k2
    · cases q : (PySem.W.hideAll B [ce.locals]).get? b with
      | none => rfl
      | some o => rw [(hid_ne q).2] at e; cases e
    · cases q : (PySem.W.hideAll B [ce.locals]).get? T with
      | none => rfl
      | some o => rw [(hid_ne q).2] at hnT; cases hnT
  have J0 : Inv X pins σ HI sI := I3.call' (ch := fp) J.os J.base J.hok J.bare fun b hb => ⟨(f3 b hb).2.2.2.1, (f3 b hb).2.1, (f3 b hb).2.2.2.2.1, (f3 b hb).2.2.2.2.2⟩
  obtain ⟨c0, c1, c2, c3, c4, c5⟩ : FpOk X pins HI ce.locals := I3.fpOk (Nat.le_of_eq hC.symm) J.free
  have Jx : Inv X pins σ HI { sI with heap := PySem.W.hideAll sI.heap [ce.locals], toks := sI.toks } := J0.turned (t' := sI.toks) (fun b o hb e => PySem.W.hideAll_get _ e (fun z => hb (by simpa using z))) c0 c1 c3 c4 c5
  have fin : wpAny (model X.prog X.w) X.A (setFlight (.ref a) ce.frame) (fun _ s6 => wpAny (model X.prog X.w) X.A (throw (.ref a) : Sem Value) (fun _ _ => False) X.xe s6) X.xe { s5 with heap := h' } := by
    rw [hG, hf]
    refine HandSPX.setFlight_onZ hh' fun h2 hh2 up2 => wpAny_throw (tk _ _ ?_)
    refine ⟨a, _, _, pins, σ, HI, cls, d, rfl, Jx, fun b o e hb => ?_, fun b o e nf => ?_, .inr (.inr (by rw [hs]; exact hh2)), na, os, ag, hW _ _ _ _ w⟩
    · obtain ⟨n, e⟩ := hid_ne e
      exact PySem.W.hideAll_get _ (nb b o e hb) (fun z => n (by simpa using z))
    · obtain ⟨n, e⟩ := hid_ne e
      obtain ⟨sl, e1⟩ := (up.trans up1) b o e nf
      obtain ⟨sl2, e2⟩ := up2 b _ ((sb.2 b n).trans e1) nf
      exact ⟨sl2, e2⟩
  unfold PySem.passOn
  refine wpAny_bind (wpAny_field he' hd h1' ?_)
  rw [if_neg (show ¬ ((Value.ref T == Value.none) = true) from by simp)]
  first
    | exact wpAny_bind (wpAny_pure (wpAny_bind fin))
    | exact wpAny_bind fin
/-- the block, an error of its element let out -/
theorem lcx_core {s : Shared} {H : Hp} {Q : VK} {elt tg iter : Expr} {ifs : List Expr} {scope : Scope} {own : List (Str × Nat)} {pos pos' : Pos} {wi : TI} {g : TG} {tt : TT} {te : TE} {use : Option (Value → Sem Unit)} {Qf : Value → Shared → Prop}
    (hs : X.stack = X.env :: X.outer) (hf : X.env.frame = some X.env.locals) (tk : L2N.Takes X W) (hW : ∀ cls d σ H, E cls d H → W cls d σ H) (hc : X.calm = true) (hN : X.N.Nodup) (I : Inv X pins σ H s) (hi : PI X tg iter wi) (ok : BlkOk X.N X.env.scope scope own)
    (hg : ∀ xe, InBlk0 X scope xe fun Y => PG Y tg g) (ht : ∀ xe, InBlk0 X scope xe fun Y => PTs Y ifs tt) (he : ∀ xe, InBlk0 X scope xe fun Y => Passes (L2N.CX X.prog X.w) Y E → PE Y elt te) (hx : ∀ x, foldedSetIterable iter X.env x = pure x)
    (h : tLc wi g tt te (own.map (·.2)) σ H Q)
    (after : ∀ D B s' m H', Inv X pins σ H' s' → Q (.ref D) H' → s'.heap.Ns B m → FpOk X pins H' B → compPost (model X.prog X.w) X.A X.xe use Qf (.ref D) B (.ok .next) s') :
    wpAny (model X.prog X.w) X.A (comprehension (.ListComp elt [⟨tg, iter, ifs, 0⟩] scope pos) scope X.env pos' (newList []) false (eval iter X.env) use) Qf X.xe s := by
  have cells : ∀ y ∈ scope.names, y.2 = .free → ∃ c, X.env.cells.lookup y.1 = some c := fun y hy k => (ok.free y hy k).elim (fun z => I.ok.has _ (.inl z)) fun z => I.ok.has _ (.inr z)
  have up : ∀ {α : Type} {t : Sem α} {Q Q' : α → Shared → Prop} {E E' : Value → Shared → Prop} {s : Shared}, wpAny (model X.prog X.w) X.A t Q E s → (∀ a s, Q a s → Q' a s) → (∀ a s, E a s → E' a s) → wpAny (model X.prog X.w) X.A t Q' E' s := fun h k l => wpAny_mono h k l
  refine comp_endX (use := use) rfl hx (closure_ok cells) ok.kind (fun y hy k => by rw [ok.uniq y hy, k]) (thn (hi.run pins s σ H _ I h) fun xv s1 hx1 => thn hx1 fun itv s2 ⟨it, fp, tn, J, H2, e1, I2, T, st2, f2, q⟩ => ?_)
  subst e1
  refine wpAny_newObj_type (newEnv_comp ?_) (by show 0 ≤ sizeLine; decide)
  generalize hD : s2.heap.objs.size = D
  obtain ⟨W0, ⟨m0, w0⟩, turn⟩ := q D (I2.hok.fresh (Nat.le_of_eq hD))
  have grow : ∀ b u, s2.heap.get? b = some u → (s2.heap.push { cls := .type "list", data := .seq ([] : List Value).toArray }).get? b = some u := fun b u z => Heap.get?_push_of_some _ z
  have I3 : Inv X pins σ (upd H2 D (.lst [])) { s2 with heap := s2.heap.push { cls := .type "list", data := .seq ([] : List Value).toArray } } := I2.laid (t' := s2.toks) grow (Nat.le_of_eq hD) ⟨Nat.zero_le _, [], 0, .nil, by rw [← hD]; exact Heap.get?_push_size _ rfl⟩
  have f3 : ∀ b ∈ fp, FpOk X pins (upd H2 D (.lst [])) b ∧ b < (s2.heap.push { cls := .type "list", data := .seq ([] : List Value).toArray }).objs.size := fun b hb => by
    obtain ⟨u, eu, _⟩ := T.obj _ _ st2 b hb
    have lt := Heap.lt_size eu
    refine ⟨⟨?_, (f2 b hb).2⟩, by rw [Heap.size_push]; exact Nat.lt_succ_of_lt lt⟩
    rw [upd_ne (by rw [← hD]; exact Nat.ne_of_lt lt)]
    exact (f2 b hb).1
  have st3 : tn 0 (s2.heap.push { cls := .type "list", data := .seq ([] : List Value).toArray }) := T.keep _ _ _ st2 fun b _ u z => grow b u z
  generalize hs3 : ({ s2 with heap := s2.heap.push { cls := .type "list", data := .seq ([] : List Value).toArray } } : Shared) = s3 at I3
  have h3 : s2.heap.push { cls := .type "list", data := .seq ([] : List Value).toArray } = s3.heap := by rw [← hs3]
  rw [h3] at f3 st3
  generalize hH3 : upd H2 D (.lst []) = H3 at I3 f3 w0
  have I4 := block_start I3 ok hN f3
  show codeAny _ _ (.compStart (.ListComp elt [⟨tg, iter, ifs, 0⟩] scope pos) 0 (.ref it) (.ref D) (compEnvC scope (cellsFrom (s3.heap.objs.size + 1) scope.names (cloFrom X.env.cells scope.names [])) s3.heap.objs.size X.env)) (endX (model X.prog X.w) X.A X.xe use Qf (.ref D) (compEnvC scope (cellsFrom (s3.heap.objs.size + 1) scope.names (cloFrom X.env.cells scope.names [])) s3.heap.objs.size X.env)) { s3 with heap := pushCells (s3.heap.push { cls := .type "dict", data := .dict #[] }) scope.names }
  have pg := fun xe => hg xe s3 H3 s3.heap.objs.size (cellsFrom (s3.heap.objs.size + 1) scope.names (cloFrom X.env.cells scope.names [])) fp
  have pt := fun xe => ht xe s3 H3 s3.heap.objs.size (cellsFrom (s3.heap.objs.size + 1) scope.names (cloFrom X.env.cells scope.names [])) fp
  have pe := fun xe => he xe s3 H3 s3.heap.objs.size (cellsFrom (s3.heap.objs.size + 1) scope.names (cloFrom X.env.cells scope.names [])) fp
  have nF : ∀ x, noteFrame x (compEnvC scope (cellsFrom (s3.heap.objs.size + 1) scope.names (cloFrom X.env.cells scope.names [])) s3.heap.objs.size X.env) = noteFrame x X.env := fun _ => rfl
  have nG : (compEnvC scope (cellsFrom (s3.heap.objs.size + 1) scope.names (cloFrom X.env.cells scope.names [])) s3.heap.objs.size X.env).frame = X.env.frame := rfl
  generalize hce : compEnvC scope (cellsFrom (s3.heap.objs.size + 1) scope.names (cloFrom X.env.cells scope.names [])) s3.heap.objs.size X.env = ce at I4 pg pt pe nF nG ⊢
  have cL : ce.locals = s3.heap.objs.size := by subst hce; rfl
  generalize hxe : notedBy (model X.prog X.w) X.A ce (fun e s'' => endX (model X.prog X.w) X.A X.xe use Qf (.ref D) ce (.error e) s'') = xe
  have pg := pg xe
  have pt := pt xe
  have pe := pe xe fun pins' σ' H' s' u s5 I' c => by
    show xe u s5
    rw [← hxe]
    exact blk_out (Q := Qf) (use := use) (acc := .ref D) hs hf tk hW I3 (fun b hb => (f3 b hb).1) cL nF nG I' c
  have I4 := inv_xe (xe := xe) I4
  have st4 : tn 0 (pushCells (s3.heap.push { cls := .type "dict", data := .dict #[] }) scope.names) := T.keep _ _ _ st3 fun b _ u z => pushCells_keeps _ _ _ _ (Heap.get?_push_of_some _ z)
  generalize hs4 : ({ s3 with heap := pushCells (s3.heap.push { cls := .type "dict", data := .dict #[] }) scope.names } : Shared) = s4 at I4 ⊢
  have h4 : pushCells (s3.heap.push { cls := .type "dict", data := .dict #[] }) scope.names = s4.heap := by rw [← hs4]
  rw [h4] at st4
  have still : ∀ {σ' : L2.St} {H' : Hp} {s' : Shared}, Inv (blkX X s3 H3 scope ce fp xe) [] σ' H' s' → (∀ b ∈ fp, H' b = none) → ∀ b ∈ fp, FpOk (blkX X s3 H3 scope ce fp xe) [] H' b := fun {σ' H' s'} I' hn b hb =>
    ⟨hn b hb, (I'.ok.exf b hb).1, I'.ok.exfs b hb, .inl hb, (I'.ok.exf b hb).2, fun p hp => absurd (show p ∈ ([] : List (Addr × Obj)) ++ [] from hp) List.not_mem_nil⟩
  have loop : codeAny (model X.prog X.w) X.A (.compLoop (.ListComp elt [⟨tg, iter, ifs, 0⟩] scope pos) 0 (.ref it) (.ref D) ce) (endX (model X.prog X.w) X.A X.xe use Qf (.ref D) ce) s4 := by
    refine compLoop_any (fun n s' => ∃ i H', Inv (blkX X s3 H3 scope ce fp xe) [] (wipe σ (own.map (·.2))) H' s' ∧ tn i s'.heap ∧ (∀ b ∈ fp, H' b = none) ∧ W0 i n H') ?_ m0 ⟨0, H3, I4, st4, fun b hb => (f3 b hb).1.1, w0⟩
    rw [hxe]
    rintro n s5 ⟨i, H5, I5, st5, n5, w5⟩
    rcases turn i n H5 w5 with ⟨stop, qq⟩ | ⟨go, Nx, hNx, step⟩
    · refine up (T.done (blkX X s3 H3 scope ce fp xe) rfl rfl rfl hc i [] s5 _ H5 (fun _ _ => False) I5 (still I5 n5) st5 stop) (fun r s6 ⟨hr, I6⟩ => ?_) fun _ _ z => z.elim
      subst hr
      have I7 : Inv X pins σ H5 s6 := I3.call' (ch := fp) I6.os I6.base I6.hok I6.bare fun b hb => ⟨(f3 b hb).1.2.2.2.1, (f3 b hb).1.2.1, (f3 b hb).1.2.2.2.2.1, (f3 b hb).1.2.2.2.2.2⟩
      obtain ⟨m, hn, _⟩ := I6.loc
      have nB : FpOk X pins H5 ce.locals := I3.fpOk (Nat.le_of_eq cL.symm) I6.free
      exact after D ce.locals s6 m H5 I7 qq hn nB
    · refine up (T.item (blkX X s3 H3 scope ce fp xe) rfl rfl rfl hc i [] s5 _ H5 (fun _ _ => False) I5 (still I5 n5) st5 go) (fun r s6 ⟨u, hr, h6⟩ => ?_) fun _ _ z => z.elim
      subst hr
      refine up h6 (fun _ s7 ⟨x, H7, I7, r7, y7, st7, n7⟩ => ?_) fun _ _ z => z.elim
      have I7' := I7.pinned (still I7 n7) (T.obj _ _ st7)
      refine up (pg.run _ s7 _ H7 x u _ I7' r7 (step x H7 y7)) (fun _ s8 ⟨σ8, H8, I8, hw8, q8⟩ => ?_) fun _ _ z => z
      refine up (pt.run _ s8 σ8 H8 _ I8 q8) (fun b s9 ⟨H9, I9, q9⟩ => ?_) fun _ _ z => z
      have fin : ∀ {s' : Shared} {H' : Hp}, Inv (blkX X s3 H3 scope ce fp xe) ([] ++ pinsAt fp s7.heap) σ8 H' s' → Nx H' → ∃ m, m < n ∧ ∃ i H', Inv (blkX X s3 H3 scope ce fp xe) [] (wipe σ (own.map (·.2))) H' s' ∧ tn i s'.heap ∧ (∀ b ∈ fp, H' b = none) ∧ W0 i m H' := fun {s' H'} I' nx => by
        obtain ⟨m', hm, w'⟩ := hNx H' nx
        have pin' : ∀ b ∈ fp, ∀ u, s7.heap.get? b = some u → s'.heap.get? b = some u ∧ H' b = none := fun b hb u z =>
          have p := I'.pin (b, u) (List.mem_append_right _ (List.mem_append_right _ (mem_pinsAt hb z)))
          ⟨p.1, p.2.1⟩
        refine ⟨m', hm, i + 1, H', (I'.unpinned (pins := [])).weak (by rw [← hw8, wipe_length]) (fun j v z => ?_), T.keep _ _ _ st7 fun b hb u z => (pin' b hb u z).1, fun b hb => ?_, w'⟩
        · rw [← hw8] at z
          exact (wipe_some z).1
        · obtain ⟨u, z, _⟩ := T.obj _ _ st7 b hb
          exact (pin' b hb u z).2
      cases b with
      | false =>
        simp only [Bool.false_eq_true, if_false] at q9 ⊢
        exact fin I9 q9
      | true =>
        simp only [if_true] at q9 ⊢
        refine up (pe.run _ s9 σ8 H9 _ I9 q9) (fun z s10 ⟨yv, H10, I10, r10, acc, hD10, hz10, nx⟩ => ?_) fun _ _ z => z
        exact app_ok (X := blkX X s3 H3 scope ce fp xe) I10 hD10 hz10 r10 fun s11 I11 => fin I11 nx
  exact codeAny_compStart_list loop (T.self X.A 0 _ _ _ st4 loop)
/-- name = [..] on one line, the name a local, an error of the element let out -/
theorem ps_setLcX {i : Nat} {y : Str} {py : Pos} {elt tg iter : Expr} {ifs : List Expr} {scope : Scope} {own : List (Str × Nat)} {pos spos : Pos} {wi : TI} {g : TG} {tt : TT} {te : TE}
    (hs : X.stack = X.env :: X.outer) (hf : X.env.frame = some X.env.locals) (tk : L2N.Takes X W) (hW : ∀ cls d σ H, E cls d H → W cls d σ H) (hc : X.calm = true) (hN : X.N.Nodup) (hy : X.N[i]? = some y) (hyl : X.env.scope.names.lookup y = some .local)
    (hsw : swapsWith (.ListComp elt [⟨tg, iter, ifs, 0⟩] scope pos) (some (.Name y py)) spos.line X.env = pure true) (hi : PI X tg iter wi) (ok : BlkOk X.N X.env.scope scope own)
    (hg : ∀ xe, InBlk0 X scope xe fun Y => PG Y tg g) (ht : ∀ xe, InBlk0 X scope xe fun Y => PTs Y ifs tt) (he : ∀ xe, InBlk0 X scope xe fun Y => Passes (L2N.CX X.prog X.w) Y E → PE Y elt te) (hx : ∀ x, foldedSetIterable iter X.env x = pure x := by intro _; rfl) :
    PS X (.Assign [.Name y py] (.ListComp elt [⟨tg, iter, ifs, 0⟩] scope pos) spos) (tAsg (tLc wi g tt te (own.map (·.2))) (gName i)) := by
  refine ⟨fun pins s σ H D I h => ?_⟩
  rw [exec_Assign_Name_used _ _ _ _ hsw]
  refine wpAny_bind (wpAny_standAt (wpAny_bind ?_))
  show wpAny _ X.A (do let _ ← comprehension (.ListComp elt [⟨tg, iter, ifs, 0⟩] scope pos) scope X.env (firstIterPos [⟨tg, iter, ifs, 0⟩] pos) (newList []) false (eval iter X.env) (some (assign (.Name y py) X.env))) _ _ s
  have h : tLc wi g tt te (own.map (·.2)) σ H (fun x H1 => gName i x σ H1 D.nx) := h
  refine wpAny_bind (thn (lcx_core (Qf := fun _ s' => SP X pins D .next s') hs hf tk hW hc hN I hi ok hg ht he hx h fun L C s' m H' I' q hn f => ?_) fun _ s' hq => wpAny_pure (wpAny_pure hq))
  show wpAny _ _ (assign (.Name y py) X.env (.ref L)) _ _ _
  obtain ⟨n0, n1, n2, n3, n4, n5⟩ := f
  refine wpAny_assign_Name (store_ok2 (v := V.ref L) I' hN hy (.inl hyl) rfl (fun s2 I2 ⟨a, sb, ha⟩ => ?_) (.inr hyl))
  refine ⟨m, hn.sameBut sb ?_, fun h3 sb3 => ⟨_, H', I2.turned (t' := s2.toks) (fun b o hb e => (sb3.2 b hb).trans e) n0 n1 n3 n4 n5, q⟩⟩
  rcases ha with z | z
  · rw [z]; exact n1
  · exact fun e => n4 y a z e.symm
end
end Wm
namespace Wm
open PySem L2 StX
/-- what a house's rows are refused for -/
inductive Ro where
  | bad (n : Nat)
  | nn (z : Str)
  | tk (z : Str)
  | ns (z : Str)
  | fu
  | nt (z : Str)
  | nw (z : Str)
structure Er7 where
  cB : Addr
  cN : Addr
  cT : Addr
  cS : Addr
  cF : Addr
  cH : Addr
  cW : Addr
def Er7.e4 (e : Er7) : Er4 := ⟨e.cN, e.cT, e.cS, e.cF⟩
def roC (e : Er7) : Ro → Addr
  | .bad _ => e.cB
  | .nn _ => e.cN
  | .tk _ => e.cT
  | .ns _ => e.cS
  | .fu => e.cF
  | .nt _ => e.cH
  | .nw _ => e.cW
def roF : Ro → List (Str × V)
  | .bad n => ef1 "row" "badrow" (.int n)
  | .nn z => ef1 "name" "noname" (.str z)
  | .tk z => ef1 "name" "taken" (.str z)
  | .ns z => ef1 "name" "nosort" (.str z)
  | .fu => ef0
  | .nt z => ef1 "name" "nothing" (.str z)
  | .nw z => ef1 "name" "noword" (.str z)
def roR : Rf → Ro
  | .one 0 z => .nn z
  | .one 1 z => .tk z
  | .one _ z => .ns z
  | .full => .fu
def unkR (ws nms : List Str) (n wd m : Str) : Option Ro := if n ∈ nms then (if m ∈ nms then (if wd ∈ ws then none else some (.nw wd)) else some (.nt m)) else some (.nt n)
/-- row by row, what is read -/
def goH (ss ws : List Str) : List (List Str) → List Thing → List T3 → Sum Ro (List Thing × List T3)
  | [], th, ts => .inr (th, ts)
  | ps :: r, th, ts => match ps with
    | [k, a, b, c] => if k = "thing" then (match entD ss th a b with
        | some x => .inl (roR x)
        | none => goH ss ws r (th ++ [(a, b, decide (c = "awake"))]) ts)
      else (match unkR ws (nmL th) a b c with
        | some x => .inl x
        | none => goH ss ws r th (addT ts (a, b, c)))
    | _ => .inr (th, ts)
def badAt (rows : List Str) : Option Nat := rows.findIdx? fun r => !fmd (pts r)
def readD (ss ws : List Str) (rows : List Str) : Sum Ro (List Thing × List T3) := match badAt rows with
  | some n => .inl (.bad n)
  | none => goH ss ws (rows.map pts) [] []
theorem bad_hit {rows : List Str} {i : Nat} {r : Str} (h : rows[i]? = some r) (hb : fmd (pts r) = false) (ha : ∀ j x, j < i → rows[j]? = some x → fmd (pts x) = true) : badAt rows = some i := by
  unfold badAt
  rw [List.findIdx?_eq_some_iff_getElem]
  obtain ⟨hi, e⟩ := List.getElem?_eq_some_iff.mp h
  refine ⟨hi, by rw [e, hb]; rfl, fun j hj => ?_⟩
  rw [ha j _ hj (List.getElem?_eq_getElem (by omega))]
  decide
theorem bad_none {rows : List Str} (ha : ∀ j x, j < rows.length → rows[j]? = some x → fmd (pts x) = true) : badAt rows = none := by
  unfold badAt
  rw [List.findIdx?_eq_none_iff]
  intro x hx
  obtain ⟨j, hj⟩ := List.mem_iff_getElem?.mp hx
  rw [ha j x (List.getElem?_eq_some_iff.mp hj).1 hj]
  rfl
/-- lists of texts at their places -/
def LsAt (H : Hp) : List Addr → List (List Str) → Prop
  | [], [] => True
  | q :: qs, p :: ps => H q = some (.lst (p.map V.str)) ∧ LsAt H qs ps
  | _, _ => False
theorem LsAt.same {H H' : Hp} (s : Same H H') : ∀ {qs : List Addr} {ps : List (List Str)}, LsAt H qs ps → LsAt H' qs ps
  | [], [], _ => True.intro
  | _ :: _, _ :: _, h => ⟨s _ _ h.1, LsAt.same s h.2⟩
  | [], _ :: _, h => h.elim
  | _ :: _, [], h => h.elim
theorem LsAt.len {H : Hp} : ∀ {qs : List Addr} {ps : List (List Str)}, LsAt H qs ps → qs.length = ps.length
  | [], [], _ => rfl
  | _ :: _, _ :: _, h => congrArg (· + 1) (LsAt.len h.2)
  | [], _ :: _, h => h.elim
  | _ :: _, [], h => h.elim
theorem LsAt.snoc {H : Hp} {q : Addr} {p : List Str} (hq : H q = some (.lst (p.map V.str))) : ∀ {qs : List Addr} {ps : List (List Str)}, LsAt H qs ps → LsAt H (qs ++ [q]) (ps ++ [p])
  | [], [], _ => ⟨hq, True.intro⟩
  | _ :: _, _ :: _, h => ⟨h.1, LsAt.snoc hq h.2⟩
  | [], _ :: _, h => h.elim
  | _ :: _, [], h => h.elim
theorem LsAt.get {H : Hp} : ∀ {qs : List Addr} {ps : List (List Str)} {j : Nat} {y : V}, LsAt H qs ps → (qs.map V.ref)[j]? = some y → ∃ q p, y = .ref q ∧ ps[j]? = some p ∧ H q = some (.lst (p.map V.str))
  | [], [], _, _, _, e => by simp at e
  | q :: _, p :: _, 0, _, h, e => ⟨q, p, (Option.some.inj e).symm, rfl, h.1⟩
  | _ :: qs, _ :: ps, j + 1, _, h, e => LsAt.get (qs := qs) (ps := ps) (j := j) h.2 e
  | [], _ :: _, _, _, h, _ => h.elim
  | _ :: _, [], _, _, h, _ => h.elim
theorem LsAt.off {H : Hp} (d : Addr) {o : HO} : ∀ {qs : List Addr} {ps : List (List Str)}, (∀ q ∈ qs, q ≠ d) → LsAt H qs ps → LsAt (upd H d o) qs ps
  | [], [], _, _ => True.intro
  | q :: _, _ :: _, n, h => ⟨by rw [upd_ne (n q List.mem_cons_self)]; exact h.1, LsAt.off d (fun z hz => n z (List.mem_cons_of_mem _ hz)) h.2⟩
  | [], _ :: _, _, h => h.elim
  | _ :: _, [], _, h => h.elim
theorem fmd_four {ps : List Str} (h : fmd ps = true) : ∃ k a b c, ps = [k, a, b, c] := by
  match ps, h with
  | [k, a, b, c], _ => exact ⟨k, a, b, c, rfl⟩
theorem joinM_len {c : Nat} : ∀ {ps : List Str} {z : Str}, z ∈ ps → z.length ≤ (Str.join ⟨#[c]⟩ ps).length
  | [q], z, hz => by
    rw [List.mem_singleton.mp hz]
    exact Nat.le_refl _
  | q :: q2 :: r, z, hz => by
    have e := congrArg List.length (join_two c q q2 r)
    rw [List.length_append, List.length_cons] at e
    have e' : (Str.join ⟨#[c]⟩ (q :: q2 :: r)).length = q.length + ((Str.join ⟨#[c]⟩ (q2 :: r)).length + 1) := e
    rcases List.mem_cons.mp hz with rfl | hz
    · omega
    · have := joinM_len (c := c) hz
      omega
theorem pts_len {row : Str} : ∀ z ∈ pts row, z.length ≤ row.length := by
  intro z hz
  unfold pts at hz
  split at hz
  · exact (List.not_mem_nil hz).elim
  · rw [show Txt.split row " " = Txt.split row ⟨#[32]⟩ by rw [← blank]] at hz
    have := joinM_len (c := 32) hz
    rw [StrLaws.join_split] at this
    exact this
theorem ro_r (e : Er7) (y : Rf) : roC e (roR y) = clsOf e.e4 y ∧ roF (roR y) = fsOf y := by
  match y with
  | .one 0 z => exact ⟨rfl, rfl⟩
  | .one 1 z => exact ⟨rfl, rfl⟩
  | .one (n + 2) z => exact ⟨rfl, rfl⟩
  | .full => exact ⟨rfl, rfl⟩
theorem unk_r (e : Er7) (ws nms : List Str) (a b c : Str) : (unk e.cH e.cW ws nms a b c = none ∧ unkR ws nms a b c = none) ∨ ∃ (y : Ro) (z kd : Str), unk e.cH e.cW ws nms a b c = some (roC e y, kd, z) ∧ unkR ws nms a b c = some y ∧ roF y = ef1 "name" kd (.str z) := by
  unfold unk unkR
  by_cases h1 : a ∈ nms
  · rw [if_pos h1, if_pos h1]
    by_cases h2 : c ∈ nms
    · rw [if_pos h2, if_pos h2]
      by_cases h3 : b ∈ ws
      · rw [if_pos h3, if_pos h3]
        exact .inl ⟨rfl, rfl⟩
      · rw [if_neg h3, if_neg h3]
        exact .inr ⟨.nw b, b, _, rfl, rfl, rfl⟩
    · rw [if_neg h2, if_neg h2]
      exact .inr ⟨.nt c, c, _, rfl, rfl, rfl⟩
  · rw [if_neg h1, if_neg h1]
    exact .inr ⟨.nt a, a, _, rfl, rfl, rfl⟩
def spRdh (HC S : Addr) (e : Er7) : Sp := fun vs H Q E => ∃ (sc lr : Addr) (ss ws rows : List Str), vs = [.ref sc, .ref lr] ∧ SchAt S H sc ss ws ∧ H lr = some (.lst (rows.map V.str)) ∧ rows.length ≤ 500 ∧ (∀ r ∈ rows, okS r ∧ r.length ≤ 900) ∧
  match readD ss ws rows with
  | .inl r => ∀ d H', H d = none → Same H H' → H' d = some (.xd (roF r)) → E (.ref (roC e r)) (some d) H'
  | .inr (th, ts) => ∀ x dx d1 d2 d3 H', Same H H' → H x = none → H d1 = none → H d2 = none → H d3 = none → HsAt HC S H' x dx sc d1 d2 d3 ss ws th ts → Q (.ref x) H'
theorem passN {X : Cx} : Passes (L2N.CX X.prog X.w) X E0 := fun _ _ _ _ _ _ _ h => by
  obtain ⟨_, _, _, _, _, _, _, _, _, _, _, _, z⟩ := h
  exact z.elim
section
variable {P : Program} {w : World} {K : PySem.W.Frag} {mg : Str → Option Value} {base : Heap}
theorem scRdh : FnScope ["scheme", "rows", "row", "number", "drafts", "house", "kind", "first", "second", "third"] ["scheme", "rows"] (defScope sRdh) := ⟨rfl, rfl, rfl, by decide +kernel, rfl, by decide +kernel, by decide +kernel⟩
theorem ok_rdh {f HC S fH fP fE fG : Addr} {e : Er7} {fd dP dH dE dG : FuncData} (F : Fun K "read_house" "read_house" sRdh f fd) (T : TxB mg) (tn : mg "enumerate" = none) (DHp : Dn K mg "house_parts" sHps ["row", "number"] fP dP) (GHp : FnOk P w K mg base (L2N.CX P w) 4 fP dP ["row", "number"] (spHps e.cB))
    (TH : TxH K mg HC fH) (bHi : Binds K dH ["self", "scheme"] []) (GHi : FnOk P w K mg base CX0 1 fH dH ["self", "scheme"] (spHin HC)) (mEn : Meth K HC "enter" fE) (bEn : Binds K dE ["self", "name", "sort", "awake"] []) (GEn : FnOk P w K mg base (L2N.CX P w) 5 fE dE ["self", "name", "sort", "awake"] (spHenX HC S e.e4))
    (mGi : Meth K HC "give" fG) (bGi : Binds K dG ps4 []) (GGi : FnOk P w K mg base (L2N.CX P w) 6 fG dG ps4 (spGiv HC S e.cH e.cW)) : FnOk P w K mg base (L2N.CX P w) 7 f fd ["scheme", "rows"] (spRdh HC S e) := by
  refine okN F scRdh (fun vs H Q E h => ?_) (fun cdv A outer s H vs Q E hr h => ?_)
  · obtain ⟨sc, lr, ss, ws, rows, rfl, _⟩ := h
    rfl
  · obtain ⟨sc, lr, ss, ws, rows, rfl, hsc, hlr, hln, hok, k⟩ := h
    have hr6 : Room 6 _ := hr
    have hr5 : Room 5 _ := hr.mono (by decide)
    have hr4 : Room 4 _ := hr.mono (by decide)
    have hr2 : Room 2 _ := hr.mono (by decide)
    refine ⟨_, (pss_cons (ps_setLcX (E := E) (i := 4) (own := [("number", 3), ("row", 2)]) (g := gTup K 2 (gCons (gName 3) (gCons (gName 2) gNil))) rfl rfl (L2N.takes_of rfl rfl rfl rfl) (fun _ _ _ _ h => h) rfl scRdh.nd rfl rfl (sw_true rfl rfl rfl (by decide +kernel)) (pi_enum rfl T.enumerate (pa_cons (pv 1) pa_nil)) (blkOk_by (N := ["scheme", "rows", "row", "number", "drafts", "house", "kind", "first", "second", "third"]) (sc := defScope sRdh) (by decide +kernel)) (fun _ _ _ _ _ _ => (pg_tup rfl (pgs_cons (pg_name (i := 3) scRdh.nd rfl (Or.inl rfl)) (pgs_cons (pg_name (i := 2) scRdh.nd rfl (Or.inl rfl)) pgs_nil)))) (fun _ _ _ _ _ _ => pts_nil) (fun _ _ _ _ _ _ hp => (pe_call GHp hr4 rfl DHp.g DHp.F.kp DHp.b .nil hp (pa_cons (pv 2) (pa_cons (pv 3) pa_nil)))))
      (pss_cons (ps_set (i := 5) scRdh.nd rfl (Or.inl rfl) (pe_make TH.m GHi hr2 rfl TH.g bHi .nil pass0 (pa_cons (pv 0) pa_nil)))
      (pss_cons (ps_for (passes_of rfl) rfl (pi_list (pv 4)) (pg_unl rfl (pgs_cons (pg_name (i := 6) scRdh.nd rfl (Or.inl rfl)) (pgs_cons (pg_name (i := 7) scRdh.nd rfl (Or.inl rfl)) (pgs_cons (pg_name (i := 8) scRdh.nd rfl (Or.inl rfl)) (pgs_cons (pg_name (i := 9) scRdh.nd rfl (Or.inl rfl)) pgs_nil))))) (pss_one (ps_if (pt_cmpR op_eq (pv 6) pe_str (nomark _)) (pss_one (ps_expr (pe_meth (pv 5) TH.cl mEn GEn hr5 bEn .nil (L2N.passes_call (L2N.takes_of rfl rfl rfl rfl) (fun _ _ _ _ h => h)) (pa_cons (pv 7) (pa_cons (pv 8) (pa_cons (pe_cmpR op_eq (pv 9) pe_str (nomark _)) pa_nil)))))) (pss_one (ps_expr (pe_meth (pv 5) TH.cl mGi GGi hr6 bGi .nil (L2N.passes_call (L2N.takes_of rfl rfl rfl rfl) (fun _ _ _ _ h => h)) (pa_cons (pv 7) (pa_cons (pv 8) (pa_cons (pv 9) pa_nil)))))))))
      (pss_one (ps_ret (pv 5)))))), ?_⟩
    rw [show L2.start ["scheme", "rows", "row", "number", "drafts", "house", "kind", "first", "second", "third"] [V.ref sc, V.ref lr] = [some (.ref sc), some (.ref lr), none, none, none, none, none, none, none, none] from rfl]
    have rl : (rows.map V.str).length = rows.length := by rw [List.length_map]
    -- the rows
    refine ⟨_, rfl, lr, rows.map V.str, rfl, SqL.of hlr, fun ld hld => ?_⟩
    refine lc_it (walk_enum (xs := rows.map V.str)) (fun i H' => Same H H' ∧ (∀ j x, j < i → rows[j]? = some x → fmd (pts x) = true) ∧ ∃ qs : List Addr, H' ld = some (.lst (qs.map V.ref)) ∧ LsAt H' qs ((rows.take i).map pts) ∧ ∀ q ∈ qs, q ≠ ld)
      ⟨Same.upd hld, fun j x h => absurd h (Nat.not_lt_zero j), [], upd_same, True.intro, fun q h => (List.not_mem_nil h).elim⟩ (fun i H' _ z => SqL.of (z.1 _ _ hlr)) ?_ ?_
    · rintro i v H1 H2 hi ⟨S1, good, qs, h1, la, nq⟩ ⟨T0, x, y, rfl, hT, rfl, hx, hy⟩
      obtain rfl := Option.some.inj hx
      change (rows.map V.str)[i]? = some y at hy
      rw [List.getElem?_map] at hy
      obtain ⟨r, hr', rfl⟩ := Option.map_eq_some_iff.mp hy
      have or_ := hok r (List.mem_of_getElem? hr')
      refine ⟨T0, _, rfl, SqT.of upd_same, rfl, _, _, rfl, _, _, rfl, rfl, ?_⟩
      refine ⟨rfl, _, rfl, _, rfl, r, _, rfl, Nat.le_trans or_.2 (by decide), or_.1, ?_⟩
      have S2 : Same H1 (upd H1 T0 (.tup [.int ((i : Nat) : Int), .str r])) := Same.upd hT
      generalize upd H1 T0 (.tup [.int ((i : Nat) : Int), .str r]) = H2 at S2
      cases hb : fmd (pts r) with
      | false =>
        rw [if_neg (by decide)]
        intro d H3 nd S3 e3
        have eb := bad_hit hr' hb good
        have er : readD ss ws rows = .inl (.bad i) := by
          unfold readD
          rw [eb]
        rw [er] at k
        exact k d H3 (S1.free (S2.free nd)) (S1.trans (S2.trans S3)) e3
      | true =>
        rw [if_pos rfl]
        intro q H3 nq3 S3 e3
        have h3 := S3 _ _ (S2 _ _ h1)
        have ql : q ≠ ld := fun z => by
          rw [z, S2 _ _ h1] at nq3
          cases nq3
        have la3 := la.same (S2.trans S3)
        refine ⟨qs.map V.ref, h3, ?_, ?_, ?_, qs ++ [q], by rw [upd_same, List.map_append]; rfl, ?_, ?_⟩
        · rw [List.length_map, la.len, List.length_map, List.length_take]
          exact Nat.lt_of_le_of_lt (show _ ≤ 500 by omega) (by decide)
        · exact fun b o e => by
            rw [upd_ne (ne_of_none e hld)]
            exact S3 _ _ (S2 _ _ (S1 _ _ e))
        · intro j x hj hx
          by_cases e : j < i
          · exact good j x e hx
          · have e : j = i := by omega
            rw [e, hr'] at hx
            rw [← Option.some.inj hx]
            exact hb
        · rw [List.take_add_one, hr', List.map_append]
          exact LsAt.snoc (by rw [upd_ne ql]; exact e3) (la3.off ld nq)
        · intro z hz
          rcases List.mem_append.mp hz with h | h
          · exact nq z h
          · rw [List.mem_singleton.mp h]
            exact ql
    rintro H2 ⟨S2, good, qs, h2, la, nq⟩
    rw [rl, List.take_length] at la
    rw [rl] at good
    have er : readD ss ws rows = goH ss ws (rows.map pts) [] [] := by
      unfold readD
      rw [bad_none good]
    rw [er] at k
    dsimp only [gName, List.set_cons_succ, List.set_cons_zero]
    -- the house
    refine ⟨_, rfl, fun x dx nx ndx ne => ⟨H2, x, dx, sc, rfl, ?_, nx, upd_same, fun d1 d2 d3 H3 n1 n2 n3 n12 S3 hx h1 h2' h3 => ⟨rfl, ?_⟩⟩⟩
    · exact (Same.upd ndx).trans (Same.upd (by rw [upd_ne ne.symm]; exact nx))
    have hs3 : HsAt HC S H3 x dx sc d1 d2 d3 ss ws [] [] := ⟨hx, hsc.same (S2.trans S3), h1, h2', h3, n12⟩
    dsimp only [gName, List.set_cons_succ, List.set_cons_zero]
    have ll : (qs.map V.ref).length = rows.length := by rw [List.length_map, la.len, List.length_map]
    refine ⟨_, rfl, ld, rfl, ⟨_, SqL.of (S3 _ _ h2)⟩, ?_⟩
    refine for_it (walk_list (xs := qs.map V.ref)) (fun i σ' H' => ∃ (u6 u7 u8 u9 : Option V) (th : List Thing) (ts : List T3), σ' = [some (.ref sc), some (.ref lr), none, none, some (.ref ld), some (.ref x), u6, u7, u8, u9] ∧ Same H2 H' ∧
      HsAt HC S H' x dx sc d1 d2 d3 ss ws th ts ∧ th.length ≤ 60 ∧ ts.length ≤ i ∧ goH ss ws ((rows.map pts).drop i) th ts = goH ss ws (rows.map pts) [] [])
      ⟨none, none, none, none, [], [], rfl, S3, hs3, Nat.zero_le _, Nat.le_refl _, rfl⟩ (fun i σ' H' _ ⟨_, _, _, _, _, _, _, z, _⟩ => SqL.of (z _ _ h2)) ?_ ?_
    · rintro i v σ' H4 H5 hi ⟨u6, u7, u8, u9, th, ts, rfl, S4, h4, l60, lts, eg⟩ ⟨rfl, hv⟩
      obtain ⟨q, p, rfl, hp, hq⟩ := LsAt.get la hv
      have hq4 := S4 _ _ hq
      rw [List.getElem?_map] at hp
      obtain ⟨r, hr', rfl⟩ := Option.map_eq_some_iff.mp hp
      have il := (List.getElem?_eq_some_iff.mp hr').1
      have fm := good i r il hr'
      have ob := hok r (List.mem_of_getElem? hr')
      have zl := pts_len (row := r)
      have hd : (rows.map pts).drop i = pts r :: (rows.map pts).drop (i + 1) := by
        rw [List.drop_eq_getElem_cons (by rw [List.length_map]; exact il)]
        congr 1
        rw [List.getElem_map]
        congr 1
        exact (List.getElem?_eq_some_iff.mp hr').2
      rw [hd] at eg
      obtain ⟨kd, a, b, c, e4⟩ := fmd_four fm
      rw [e4] at eg hq4 zl
      have za := Nat.le_trans (zl a (by simp)) ob.2
      refine ⟨q, _, rfl, SqL.of hq4, rfl, _, _, rfl, _, _, rfl, _, _, rfl, _, _, rfl, rfl, ?_⟩
      dsimp only [gName, List.set_cons_succ, List.set_cons_zero]
      have dec : ∀ {z : Str} {y : Str}, decide (V.str z = V.str y) = decide (z = y) := fun {z y} => decide_eq_decide.mpr ⟨fun h => V.str.inj h, fun h => by rw [h]⟩
      have S04 : Same H H5 := S2.trans S4
      refine ⟨_, rfl, rfl, _, rfl, ?_⟩
      rw [dec]
      by_cases hk : kd = "thing"
      · rw [decide_eq_true hk]
        refine iteT ?_
        have eg' : goH ss ws ([kd, a, b, c] :: (rows.map pts).drop (i + 1)) th ts = (match entD ss th a b with
          | some y => .inl (roR y)
          | none => goH ss ws ((rows.map pts).drop (i + 1)) (th ++ [(a, b, decide (c = "awake"))]) ts) := by
          simp only [goH, if_pos hk]
        refine ⟨_, rfl, x, dx, _, rfl, h4.hx, hsF_no (by decide +kernel) (by decide +kernel) (by decide +kernel) (by decide +kernel) _ _ _ _, _, rfl, _, rfl, _, rfl, rfl, ?_⟩
        rw [dec]
        refine ⟨x, dx, sc, d1, d2, d3, a, b, _, ss, ws, th, ts, rfl, h4, by omega, l60, ?_⟩
        cases hE : entD ss th a b with
        | none =>
          intro H6 k6 h6
          have l59 : th.length < 60 := by
            by_cases h : th.length < 60
            · exact h
            · exfalso
              unfold entD at hE
              repeat' split at hE
              all_goals first | cases hE | exact absurd (by assumption) h
          refine ⟨_, _, _, _, th ++ [(a, b, decide (c = "awake"))], ts, rfl, fun q o h => k6 q o (ne_of_none h n1) (ne_of_none h n2) (S4 q o h), h6, by rw [List.length_append]; exact l59, Nat.le_succ_of_le lts, ?_⟩
          rw [← eg, eg', hE]
        | some y =>
          intro d H6 nd S6 e6
          rw [← eg, eg', hE] at k
          obtain ⟨r1, r2⟩ := ro_r e y
          have k := k d H6 (S04.free nd) (S04.trans S6) (by rw [r2]; exact e6)
          rw [r1] at k
          exact k
      · rw [decide_eq_false hk]
        refine iteF ?_
        have eg' : goH ss ws ([kd, a, b, c] :: (rows.map pts).drop (i + 1)) th ts = (match unkR ws (nmL th) a b c with
          | some y => .inl y
          | none => goH ss ws ((rows.map pts).drop (i + 1)) th (addT ts (a, b, c))) := by
          simp only [goH, if_neg hk]
        refine ⟨_, rfl, x, dx, _, rfl, h4.hx, hsF_no (by decide +kernel) (by decide +kernel) (by decide +kernel) (by decide +kernel) _ _ _ _, _, rfl, _, rfl, _, rfl, ?_⟩
        refine ⟨x, dx, sc, d1, d2, d3, a, b, c, ss, ws, th, ts, rfl, h4, by omega, ?_⟩
        rcases unk_r e ws (nmL th) a b c with ⟨u1, u2⟩ | ⟨y, z, kd', u1, u2, u3⟩
        · rw [u1]
          intro H6 k6 h6
          refine ⟨_, _, _, _, th, addT ts (a, b, c), rfl, fun q o h => k6 q o (ne_of_none h n3) (S4 q o h), h6, l60, ?_, ?_⟩
          · unfold addT
            split
            · exact Nat.le_succ_of_le lts
            · rw [List.length_append]
              exact Nat.succ_le_succ lts
          · rw [← eg, eg', u2]
        · rw [u1]
          intro d H6 nd S6 e6
          rw [← eg, eg', u2] at k
          exact k d H6 (S04.free nd) (S04.trans S6) (by rw [u3]; exact e6)
    · rintro σ' H4 ⟨u6, u7, u8, u9, th, ts, rfl, S4, h4, l60, lts, eg⟩
      rw [ll, List.drop_of_length_le (by rw [List.length_map]; exact Nat.le_refl _)] at eg
      rw [← eg] at k
      exact ⟨_, rfl, k x dx d1 d2 d3 H4 (S2.trans S4) (S2.free nx) (S2.free n1) (S2.free n2) (S2.free n3) h4⟩
end
end Wm
namespace Wm
open PySem L2 StX
def RowsOk (m : Nat) (rows : List Str) : Prop := ∀ z ∈ rows, okS z ∧ z.length ≤ m
theorem RowsOk.mono {m k : Nat} {rows : List Str} (h : RowsOk m rows) (le : m ≤ k) : RowsOk k rows := fun z hz => ⟨(h z hz).1, Nat.le_trans (h z hz).2 le⟩
theorem RowsOk.nil {m : Nat} : RowsOk m [] := fun z hz => (List.not_mem_nil hz).elim
theorem RowsOk.app {m : Nat} {a b : List Str} (ha : RowsOk m a) (hb : RowsOk m b) : RowsOk m (a ++ b) := fun z hz => (List.mem_append.mp hz).elim (ha z) (hb z)
theorem RowsOk.one {m : Nat} {z : Str} (h : okS z) (l : z.length ≤ m) : RowsOk m [z] := fun y hy => by
  rw [List.mem_singleton.mp hy]
  exact ⟨h, l⟩
theorem RowsOk.take {m n : Nat} {a : List Str} (h : RowsOk m a) : RowsOk m (a.take n) := fun z hz => h z (List.mem_of_mem_take hz)
theorem RowsOk.drop {m n : Nat} {a : List Str} (h : RowsOk m a) : RowsOk m (a.drop n) := fun z hz => h z (List.mem_of_mem_drop hz)
def spGor : Sp := fun vs H Q _ => ∃ (p q r lS lW : Addr) (n : Nat) (ss ws : List Str), vs = [.ref p, .ref lS, .ref lW] ∧ PotAt H p q r n ∧ n ≤ 1000 ∧ H lS = some (.lst (ss.map V.str)) ∧ H lW = some (.lst (ws.map V.str)) ∧ (lS ≠ p ∧ lS ≠ q) ∧ (lW ≠ p ∧ lW ≠ q) ∧
  (0 < ss.length ∧ ss.length ≤ 5) ∧ (0 < ws.length ∧ ws.length ≤ 5) ∧ RowsOk 12 ss ∧ RowsOk 12 ws ∧
  ∀ (rows : List Str) d H', H d = none → Bt p q H H' → PotAt H' p q r (n + 500) → H' d = some (.lst (rows.map V.str)) → rows.length ≤ 66 → RowsOk 100 rows → Q (.ref d) H'
theorem manyL (i : Nat) (h : i < 8) : ∃ m : Nat, ([V.int 0, .int 1, .int 2, .int 3, .int 4, .int 5, .int 8, .int 60])[i]? = some (.int (m : Int)) ∧ m ≤ 60 := by
  have : i = 0 ∨ i = 1 ∨ i = 2 ∨ i = 3 ∨ i = 4 ∨ i = 5 ∨ i = 6 ∨ i = 7 := by omega
  rcases this with rfl | rfl | rfl | rfl | rfl | rfl | rfl | rfl
  · exact ⟨0, rfl, by omega⟩
  · exact ⟨1, rfl, by omega⟩
  · exact ⟨2, rfl, by omega⟩
  · exact ⟨3, rfl, by omega⟩
  · exact ⟨4, rfl, by omega⟩
  · exact ⟨5, rfl, by omega⟩
  · exact ⟨8, rfl, by omega⟩
  · exact ⟨60, rfl, by omega⟩
def stW : List Str := ["awake", "awake", "asleep"]
theorem stW_at (i : Nat) (h : i < 3) : ∃ z : Str, ([V.str "awake", .str "awake", .str "asleep"])[i]? = some (.str z) ∧ okS z ∧ z.length ≤ 6 := by
  have : i = 0 ∨ i = 1 ∨ i = 2 := by omega
  have ka : okS "awake" ∧ ("awake" : Str).length ≤ 6 := ⟨by unfold okS; decide +kernel, by decide +kernel⟩
  have kb : okS "asleep" ∧ ("asleep" : Str).length ≤ 6 := ⟨by unfold okS; decide +kernel, by decide +kernel⟩
  rcases this with rfl | rfl | rfl
  · exact ⟨_, rfl, ka⟩
  · exact ⟨_, rfl, ka⟩
  · exact ⟨_, rfl, kb⟩
theorem strs_get {zs : List Str} {m i : Nat} (h : i < zs.length) (ok : RowsOk m zs) : ∃ z : Str, (zs.map V.str)[i]? = some (.str z) ∧ okS z ∧ z.length ≤ m := by
  refine ⟨zs[i], ?_, ok _ (List.getElem_mem h)⟩
  rw [List.getElem?_map, List.getElem?_eq_getElem h]
  rfl
section
variable {P : Program} {w : World} {K : PySem.W.Frag} {mg : Str → Option Value} {base : Heap}
theorem scGor : FnScope ["_law_pot_here", "_law_sorts", "_law_words", "_law_many", "_law_mixed_here", "_law_some", "_law_names_here", "_law_rows", "_law_name", "_law_sort", "_law_k", "_law_x", "_law_row", "_law_at"] ["_law_pot_here", "_law_sorts", "_law_words"] (defScope sGor) := ⟨rfl, rfl, rfl, by decide +kernel, rfl, by decide +kernel, by decide +kernel⟩
theorem ok_gor {f fT fN : Addr} {fd dT dN : FuncData} (F : Fun K "_law_good_rows" "_law_good_rows" sGor f fd) (T : TxB mg) (tmax : mg "max" = none) (DT : Dn K mg "_law_take" sTak ["_law_pot_here", "_law_many"] fT dT) (GT : FnOk P w K mg base CX0 2 fT dT ["_law_pot_here", "_law_many"] spTak)
    (DN : Dn K mg "_law_names" sNms ["_law_pot_here", "_law_many"] fN dN) (GN : FnOk P w K mg base CX0 3 fN dN ["_law_pot_here", "_law_many"] spNms) : FnOk P w K mg base CX0 4 f fd ["_law_pot_here", "_law_sorts", "_law_words"] spGor := by
  refine F.ok scGor (fun vs H Q E h => ?_) (fun cdv A outer s H vs Q E hr h => ?_)
  · obtain ⟨p, q, r, lS, lW, n, ss, ws, rfl, _⟩ := h
    rfl
  · obtain ⟨p, q, r, lS, lW, n, ss, ws, rfl, hP, hn, hS, hW, nS, nW, lss, lws, oS, oW, k⟩ := h
    have hr3 : Room 3 _ := hr
    have hr2 : Room 2 _ := hr.mono (by decide)
    refine ⟨_, (pss_cons (ps_set (i := 3) scGor.nd rfl (Or.inl rfl) (pe_ix ix_list (pe_lst (pa_cons pe_int (pa_cons pe_int (pa_cons pe_int (pa_cons pe_int (pa_cons pe_int (pa_cons pe_int (pa_cons pe_int (pa_cons pe_int pa_nil))))))))) (pe_call GT hr2 rfl DT.g DT.F.kp DT.b .nil pass0 (pa_cons (pv 0) (pa_cons pe_int pa_nil))) (fun _ _ => rfl)))
      (pss_cons (ps_set (i := 4) scGor.nd rfl (Or.inl rfl) (pe_cmpR op_eq (pe_call GT hr2 rfl DT.g DT.F.kp DT.b .nil pass0 (pa_cons (pv 0) (pa_cons pe_int pa_nil))) pe_int (nomark _)))
      (pss_cons (ps_set (i := 5) scGor.nd rfl (Or.inl rfl) (pe_call GT hr2 rfl DT.g DT.F.kp DT.b .nil pass0 (pa_cons (pv 0) (pa_cons pe_int pa_nil))))
      (pss_cons (ps_set (i := 6) scGor.nd rfl (Or.inl rfl) (pe_call GN hr3 rfl DN.g DN.F.kp DN.b .nil pass0 (pa_cons (pv 0) (pa_cons (pv 3) pa_nil))))
      (pss_cons (ps_set (i := 7) scGor.nd rfl (Or.inl rfl) (pe_lst pa_nil))
      (pss_cons (ps_for PassesOwn.never rfl (pi_list (pv 6)) (pg_name (i := 8) scGor.nd rfl (Or.inl rfl)) (pss_cons (ps_set (i := 9) scGor.nd rfl (Or.inl rfl) (pe_ix ix_list (pv 1) (pe_call GT hr2 rfl DT.g DT.F.kp DT.b .nil pass0 (pa_cons (pv 0) (pa_cons (pe_callB call_len_seq (by rfl) T.len (by decide +kernel) (pa_cons (pv 1) pa_nil)) pa_nil))) (fun _ _ => rfl)))
      (pss_one (ps_expr (pe_bm PySem.F.plainAttrs_list PySem.F.slot_list_append PySem.F.type_list_append mt_append (pv 7) (pa_cons (pe_op op_add_str (pe_op op_add_str (pe_op op_add_str (pe_op op_add_str (pe_op op_add_str pe_str (pv 8)) pe_str) (pv 9)) pe_str) (pe_ix ix_list (pe_lst (pa_cons pe_str (pa_cons pe_str (pa_cons pe_str pa_nil)))) (pe_call GT hr2 rfl DT.g DT.F.kp DT.b .nil pass0 (pa_cons (pv 0) (pa_cons pe_int pa_nil))) (fun _ _ => rfl))) pa_nil))))))
      (pss_cons (ps_set (i := 6) scGor.nd rfl (Or.inl rfl) (pe_slice sl_list (pe_op op_cat (pv 6) (pe_lst (pa_cons pe_str (pa_cons pe_str pa_nil)))) po_none (po_some (pe_callB (call_max2 rfl) (by rfl) tmax (by decide +kernel) (pa_cons (pv 3) (pa_cons pe_int pa_nil))))))
      (pss_cons (ps_for PassesOwn.never rfl (pi_range1 rfl T.range (pa_cons (pv 5) pa_nil)) (pg_name (i := 10) scGor.nd rfl (Or.inl rfl)) (pss_cons (ps_set (i := 11) scGor.nd rfl (Or.inl rfl) (pe_ix ix_list (pv 6) (pe_call GT hr2 rfl DT.g DT.F.kp DT.b .nil pass0 (pa_cons (pv 0) (pa_cons (pe_callB call_len_seq (by rfl) T.len (by decide +kernel) (pa_cons (pv 6) pa_nil)) pa_nil))) (fun _ _ => rfl)))
      (pss_cons (ps_set (i := 12) scGor.nd rfl (Or.inl rfl) (pe_op op_add_str (pe_op op_add_str (pe_op op_add_str (pe_op op_add_str (pe_op op_add_str pe_str (pv 11)) pe_str) (pe_ix ix_list (pv 2) (pe_call GT hr2 rfl DT.g DT.F.kp DT.b .nil pass0 (pa_cons (pv 0) (pa_cons (pe_callB call_len_seq (by rfl) T.len (by decide +kernel) (pa_cons (pv 2) pa_nil)) pa_nil))) (fun _ _ => rfl))) pe_str) (pe_ix ix_list (pv 6) (pe_call GT hr2 rfl DT.g DT.F.kp DT.b .nil pass0 (pa_cons (pv 0) (pa_cons (pe_callB call_len_seq (by rfl) T.len (by decide +kernel) (pa_cons (pv 6) pa_nil)) pa_nil))) (fun _ _ => rfl))))
      (pss_cons (ps_set (i := 13) scGor.nd rfl (Or.inl rfl) (pe_callB call_len_seq (by rfl) T.len (by decide +kernel) (pa_cons (pv 7) pa_nil)))
      (pss_cons (ps_if (pt_val (pv 4)) (pss_one (ps_set (i := 13) scGor.nd rfl (Or.inl rfl) (pe_call GT hr2 rfl DT.g DT.F.kp DT.b .nil pass0 (pa_cons (pv 0) (pa_cons (pe_op op_add (pe_callB call_len_seq (by rfl) T.len (by decide +kernel) (pa_cons (pv 7) pa_nil)) pe_int) pa_nil))))) pss_nil)
      (pss_one (ps_expr (pe_bm PySem.F.plainAttrs_list PySem.F.slot_list_insert PySem.F.type_list_insert mt_insert (pv 7) (pa_cons (pv 13) (pa_cons (pv 12) pa_nil))))))))))
      (pss_one (ps_ret (pv 7))))))))))), ?_⟩
    rw [show L2.start ["_law_pot_here", "_law_sorts", "_law_words", "_law_many", "_law_mixed_here", "_law_some", "_law_names_here", "_law_rows", "_law_name", "_law_sort", "_law_k", "_law_x", "_law_row", "_law_at"] [V.ref p, V.ref lS, V.ref lW] = [some (.ref p), some (.ref lS), some (.ref lW), none, none, none, none, none, none, none, none, none, none, none] from rfl]
    -- many
    refine ⟨by show 8 ≤ sizeLine; decide, fun la hla => ?_⟩
    have na := hP.ne hla
    have ea : (upd H la (.lst [V.int 0, .int 1, .int 2, .int 3, .int 4, .int 5, .int 8, .int 60])) la = some (.lst [V.int 0, .int 1, .int 2, .int 3, .int 4, .int 5, .int 8, .int 60]) := upd_same
    have Sa : Same H (upd H la (.lst [V.int 0, .int 1, .int 2, .int 3, .int 4, .int 5, .int 8, .int 60])) := Same.upd hla
    generalize upd H la (.lst [V.int 0, .int 1, .int 2, .int 3, .int 4, .int 5, .int 8, .int 60]) = Ha at ea Sa
    refine ⟨_, rfl, p, q, r, n, 8, rfl, hP.same Sa, by omega, by decide, by decide, fun d0 H1 a0 a1 B1 P1 => ?_⟩
    obtain ⟨i0, rfl⟩ : ∃ i0 : Nat, d0 = (i0 : Int) := ⟨d0.toNat, by omega⟩
    obtain ⟨m, em, m60⟩ := manyL i0 (by omega)
    refine rdList (B1 _ _ na.1 na.2.1 ea) (j := i0) rfl em ?_
    have BB1 : Bt p q H H1 := (Same.bt Sa).trans B1
    dsimp only [gName, List.set_cons_succ, List.set_cons_zero]
    -- mixed, some
    refine ⟨_, rfl, p, q, r, _, 4, rfl, P1, by omega, by decide, by decide, fun d1 H2 b0 b1 B2 P2 => ⟨rfl, ?_⟩⟩
    have BB2 := BB1.trans B2
    dsimp only [gName, List.set_cons_succ, List.set_cons_zero]
    refine ⟨_, rfl, p, q, r, _, 7, rfl, P2, by omega, by decide, by decide, fun d2 H3 c0 c1 B3 P3 => ?_⟩
    have BB3 := BB2.trans B3
    obtain ⟨so, rfl⟩ : ∃ so : Nat, d2 = (so : Int) := ⟨d2.toNat, by omega⟩
    dsimp only [gName, List.set_cons_succ, List.set_cons_zero]
    -- names
    refine ⟨_, rfl, _, rfl, p, q, r, _, (m : Int), rfl, P3, by omega, by omega, by omega, fun zs ln H4 hln nd B4 P4 eln lnz nz => ?_⟩
    rw [Int.toNat_natCast] at P4 lnz
    have BB4 := BB3.trans B4
    have nln := P3.ne hln
    have oz : RowsOk 12 zs := fun z hz => ⟨(nz z hz).1.ok, (nz z hz).2⟩
    have gln : H ln = none := BB3.free nln.1 nln.2.1 hln
    dsimp only [gName, List.set_cons_succ, List.set_cons_zero]
    -- rows
    refine ⟨Nat.zero_le _, fun lr hlr => ?_⟩
    have nlr := P4.ne hlr
    have glr : H lr = none := BB4.free nlr.1 nlr.2.1 hlr
    have er : (upd H4 lr (.lst [])) lr = some (.lst (([] : List Str).map V.str)) := upd_same
    have Sr : Same H4 (upd H4 lr (.lst [])) := Same.upd hlr
    generalize upd H4 lr (.lst []) = H5 at er Sr
    have nrn : lr ≠ ln := fun e => by
      rw [e, eln] at hlr
      cases hlr
    dsimp only [gName, List.set_cons_succ, List.set_cons_zero]
    have B5 : Bt p q H H5 := BB4.trans (Same.bt Sr)
    have P5 := P4.same Sr
    refine ⟨_, rfl, ln, rfl, ⟨_, SqL.of (Sr _ _ eln)⟩, ?_⟩
    refine for_it (walk_list (xs := zs.map V.str)) (fun i σ' H' => ∃ (u8 u9 : Option V) (rows : List Str), σ' = [some (.ref p), some (.ref lS), some (.ref lW), some (.int m), some (.bl (decide (V.int d1 = V.int 0))), some (.int so), some (.ref ln), some (.ref lr), u8, u9, none, none, none, none] ∧
      Bt p q H H' ∧ PotAt H' p q r (n + 200 + 2 * i) ∧ H' ln = some (.lst (zs.map V.str)) ∧ H' lr = some (.lst (rows.map V.str)) ∧ rows.length = i ∧ RowsOk 100 rows)
      ⟨none, none, [], rfl, B5, P5.mono (by omega), Sr _ _ eln, er, rfl, RowsOk.nil⟩ (fun i σ' H' _ ⟨_, _, _, _, _, _, e, _⟩ => SqL.of e) ?_ ?_
    · rintro i v σ' H6 H7 hi ⟨u8, u9, rows, rfl, B6, P6, e6, r6, l6, o6⟩ ⟨rfl, hv⟩
      rw [List.length_map] at hi
      obtain ⟨z, hz, oz1, oz2⟩ := strs_get hi oz
      rw [hz] at hv
      obtain rfl := Option.some.inj hv
      dsimp only [gName, List.set_cons_succ, List.set_cons_zero]
      have s6 := B6 _ _ nS.1 nS.2 hS
      have ns_ : ((ss.map V.str).length : Int) = (ss.length : Int) := by rw [List.length_map]
      refine ⟨_, rfl, _, rfl, _, rfl, lS, _, rfl, .inl (SqL.of s6), p, q, r, _, _, rfl, P6, by omega, by omega, by omega, fun d5 H8 f0 f1 B8 P8 => ?_⟩
      rw [ns_] at f1
      obtain ⟨j5, rfl⟩ : ∃ j5 : Nat, d5 = (j5 : Int) := ⟨d5.toNat, by omega⟩
      obtain ⟨so5, es5, os1, os2⟩ := strs_get (i := j5) (by omega) oS
      refine rdList (B8 _ _ nS.1 nS.2 s6) (j := j5) rfl es5 ?_
      dsimp only [gName, List.set_cons_succ, List.set_cons_zero]
      have B68 := B6.trans B8
      have e8 := B8 _ _ nln.1 nln.2.1 e6
      have r8 := B8 _ _ nlr.1 nlr.2.1 r6
      have c0 : ("thing " : Str).length = 6 := by decide +kernel
      have c1 : (" " : Str).length = 1 := by decide +kernel
      have k0 : okS "thing " := by unfold okS; decide +kernel
      have k1' : okS " " := by unfold okS; decide +kernel
      have sl : ∀ {a : Nat}, a ≤ 1000 → a ≤ sizeLine := fun h => Nat.le_trans h (by decide)
      refine ⟨_, rfl, .inl ⟨rfl, _, SqL.of r8⟩, _, rfl, _, _, rfl, rfl, sl (by omega), _, _, rfl, rfl, sl (by rw [len_app]; omega), _, rfl, _, _, rfl, rfl, sl (by rw [len_app, len_app]; omega), _, _, rfl, rfl, sl (by rw [len_app, len_app, len_app]; omega), by show 3 ≤ sizeLine; decide, fun l3 hl3 => ?_⟩
      have n3 := P8.ne hl3
      have e3 : (upd H8 l3 (.lst [V.str "awake", .str "awake", .str "asleep"])) l3 = some (.lst [V.str "awake", .str "awake", .str "asleep"]) := upd_same
      have S3 : Same H8 (upd H8 l3 (.lst [V.str "awake", .str "awake", .str "asleep"])) := Same.upd hl3
      generalize upd H8 l3 (.lst [V.str "awake", .str "awake", .str "asleep"]) = H9 at e3 S3
      refine ⟨_, rfl, p, q, r, _, 3, rfl, P8.same S3, by omega, by decide, by decide, fun d6 H10 g0 g1 B10 P10 => ?_⟩
      obtain ⟨j6, rfl⟩ : ∃ j6 : Nat, d6 = (j6 : Int) := ⟨d6.toNat, by omega⟩
      obtain ⟨so6, es6, ot1, ot2⟩ := stW_at j6 (by omega)
      refine rdList (B10 _ _ n3.1 n3.2.1 e3) (j := j6) rfl es6 ?_
      have r10 := B10 _ _ nlr.1 nlr.2.1 (S3 _ _ r8)
      have e10 := B10 _ _ nln.1 nln.2.1 (S3 _ _ e8)
      refine ⟨_, _, rfl, rfl, sl (by rw [len_app, len_app, len_app, len_app]; omega), lr, _, _, rfl, rfl, r10, ?_, ?_⟩
      · rw [List.length_map, l6]
        exact Nat.lt_of_le_of_lt (show _ ≤ 1000 by omega) (by decide)
      refine ⟨_, _, rows ++ [_], rfl, ((B68.trans ((Same.bt S3).trans B10)).new glr), (P10.upd nlr.1 nlr.2.1 nlr.2.2).mono (by omega), by rw [upd_ne nrn.symm]; exact e10, by rw [upd_same, List.map_append]; rfl, by rw [List.length_append, l6]; rfl, o6.app (RowsOk.one (okS_app (okS_app (okS_app (okS_app (okS_app k0 oz1) k1') os1) k1') ot1) (by simp only [len_app]; omega))⟩
    rintro σ' H6 ⟨u8, u9, rows, rfl, B6, P6, e6, r6, l6, o6⟩
    rw [List.length_map, lnz] at P6
    rw [List.length_map] at l6
    -- the names with a and b
    dsimp only [gName, List.set_cons_succ, List.set_cons_zero]
    refine ⟨_, rfl, by show 2 ≤ sizeLine; decide, fun lb hlb => ?_⟩
    have nlb := P6.ne hlb
    have eb : (upd H6 lb (.lst [.str "a", .str "b"])) lb = some (.lst ((["a", "b"] : List Str).map V.str)) := upd_same
    have Sb : Same H6 (upd H6 lb (.lst [.str "a", .str "b"])) := Same.upd hlb
    generalize upd H6 lb (.lst [.str "a", .str "b"]) = H7 at eb Sb
    refine ⟨ln, lb, _, _, rfl, rfl, Sb _ _ e6, eb, ?_, fun lc hlc => ?_⟩
    · rw [List.length_map, List.length_map]
      exact Nat.le_trans (show zs.length + 2 ≤ 1000 by omega) (by decide)
    have nlc := (P6.same Sb).ne hlc
    have ec : (upd H7 lc (.lst (zs.map V.str ++ (["a", "b"] : List Str).map V.str))) lc = some (.lst ((zs ++ (["a", "b"] : List Str)).map V.str)) := by
      rw [upd_same, List.map_append]
    have Sc : Same H7 (upd H7 lc (.lst (zs.map V.str ++ (["a", "b"] : List Str).map V.str))) := Same.upd hlc
    generalize upd H7 lc (.lst (zs.map V.str ++ (["a", "b"] : List Str).map V.str)) = H8 at ec Sc
    refine ⟨_, rfl, _, _, rfl, _, rfl, lc, _, rfl, SqL.of ec, fun ld hld => ?_⟩
    have nld := ((P6.same Sb).same Sc).ne hld
    obtain ⟨k2, ek, k2l, k2u⟩ : ∃ k2 : Nat, (if (2 : Int) > (m : Int) then (2 : Int) else (m : Int)) = (k2 : Int) ∧ 2 ≤ k2 ∧ k2 ≤ 60 := by
      by_cases h : (2 : Int) > (m : Int)
      · exact ⟨2, by rw [if_pos h]; rfl, by omega, by omega⟩
      · exact ⟨m, by rw [if_neg h], by omega, m60⟩
    rw [ek, cut_take, ← List.map_take]
    obtain ⟨nms, enm⟩ : ∃ nms : List Str, nms = (zs ++ (["a", "b"] : List Str)).take k2 := ⟨_, rfl⟩
    have oab : RowsOk 12 (["a", "b"] : List Str) := by
      intro z hz
      rcases List.mem_cons.mp hz with rfl | hz
      · exact ⟨by unfold okS; decide +kernel, by decide +kernel⟩
      · rw [List.mem_singleton.mp hz]
        exact ⟨by unfold okS; decide +kernel, by decide +kernel⟩
    have onm : RowsOk 12 nms := by
      rw [enm]
      exact (oz.app oab).take
    have lnm : 0 < nms.length ∧ nms.length ≤ 62 := by
      rw [enm, List.length_take, List.length_append]
      have : (["a", "b"] : List Str).length = 2 := rfl
      omega
    rw [← enm]
    have ed : (upd H8 ld (.lst (nms.map V.str))) ld = some (.lst (nms.map V.str)) := upd_same
    have Sd : Same H8 (upd H8 ld (.lst (nms.map V.str))) := Same.upd hld
    generalize upd H8 ld (.lst (nms.map V.str)) = H9 at ed Sd
    have S69 := (Sb.trans Sc).trans Sd
    have r9 := S69 _ _ r6
    have ndr : ld ≠ lr := fun e => by
      rw [e, Sc _ _ (Sb _ _ r6)] at hld
      cases hld
    have nm_ : ((nms.map V.str).length : Int) = (nms.length : Int) := by rw [List.length_map]
    have nw_ : ((ws.map V.str).length : Int) = (ws.length : Int) := by rw [List.length_map]
    dsimp only [gName, List.set_cons_succ, List.set_cons_zero]
    refine ⟨_, rfl, (so : Int), rfl, by omega, by omega, ?_⟩
    refine for_range (n := ((so : Int)).toNat) (fun i σ' H' => ∃ (u10 u11 u12 u13 : Option V) (rows : List Str), σ' = [some (.ref p), some (.ref lS), some (.ref lW), some (.int m), some (.bl (decide (V.int d1 = V.int 0))), some (.int so), some (.ref ld), some (.ref lr), u8, u9, u10, u11, u12, u13] ∧
      Bt p q H H' ∧ PotAt H' p q r (n + 320 + 5 * i) ∧ H' ld = some (.lst (nms.map V.str)) ∧ H' lr = some (.lst (rows.map V.str)) ∧ rows.length = zs.length + i ∧ RowsOk 100 rows)
      ⟨none, none, none, none, rows, rfl, B6.trans (Same.bt S69), (P6.same S69).mono (by omega), ed, r9, l6, o6⟩ ?_ ?_
    · rintro i σ' H6 hi ⟨u10, u11, u12, u13, rows, rfl, B6, P6, e6, r6, l6, o6⟩
      rw [Int.toNat_natCast] at hi
      have k0 : okS "holds " := by unfold okS; decide +kernel
      have k1' : okS " " := by unfold okS; decide +kernel
      have c0 : ("holds " : Str).length = 6 := by decide +kernel
      have c1 : (" " : Str).length = 1 := by decide +kernel
      have sl : ∀ {a : Nat}, a ≤ 1000 → a ≤ sizeLine := fun h => Nat.le_trans h (by decide)
      dsimp only [gName, List.set_cons_succ, List.set_cons_zero]
      -- x
      refine ⟨_, rfl, _, rfl, _, rfl, ld, _, rfl, .inl (SqL.of e6), p, q, r, _, _, rfl, P6, by omega, by omega, by omega, fun y1 H7 f0 f1 B7 P7 => ?_⟩
      rw [nm_] at f1
      obtain ⟨j1, rfl⟩ : ∃ j1 : Nat, y1 = (j1 : Int) := ⟨y1.toNat, by omega⟩
      obtain ⟨z1, ez1, oz1, lz1⟩ := strs_get (i := j1) (by omega) onm
      have e7 := B7 _ _ nld.1 nld.2.1 e6
      have r7 := B7 _ _ nlr.1 nlr.2.1 r6
      refine rdList e7 (j := j1) rfl ez1 ?_
      have BB7 := B6.trans B7
      have w7 := BB7 _ _ nW.1 nW.2 hW
      dsimp only [gName, List.set_cons_succ, List.set_cons_zero]
      -- the row
      refine ⟨_, rfl, _, _, rfl, rfl, sl (by omega), _, _, rfl, rfl, sl (by rw [len_app]; omega), _, rfl, _, rfl, _, rfl, lW, _, rfl, .inl (SqL.of w7), p, q, r, _, _, rfl, P7, by omega, by omega, by omega, fun y2 H8 g0 g1 B8 P8 => ?_⟩
      rw [nw_] at g1
      obtain ⟨j2, rfl⟩ : ∃ j2 : Nat, y2 = (j2 : Int) := ⟨y2.toNat, by omega⟩
      obtain ⟨z2, ez2, oz2, lz2⟩ := strs_get (i := j2) (by omega) oW
      have e8 := B8 _ _ nld.1 nld.2.1 e7
      have r8 := B8 _ _ nlr.1 nlr.2.1 r7
      refine rdList (B8 _ _ nW.1 nW.2 w7) (j := j2) rfl ez2 ?_
      refine ⟨_, _, rfl, rfl, sl (by rw [len_app, len_app]; omega), _, _, rfl, rfl, sl (by rw [len_app, len_app, len_app]; omega), _, rfl, _, rfl, _, rfl, ld, _, rfl, .inl (SqL.of e8), p, q, r, _, _, rfl, P8, by omega, by omega, by omega, fun y3 H9 h0 h1 B9 P9 => ?_⟩
      rw [nm_] at h1
      obtain ⟨j3, rfl⟩ : ∃ j3 : Nat, y3 = (j3 : Int) := ⟨y3.toNat, by omega⟩
      obtain ⟨z3, ez3, oz3, lz3⟩ := strs_get (i := j3) (by omega) onm
      have e9 := B9 _ _ nld.1 nld.2.1 e8
      have r9 := B9 _ _ nlr.1 nlr.2.1 r8
      refine rdList e9 (j := j3) rfl ez3 ?_
      refine ⟨_, _, rfl, rfl, sl (by rw [len_app, len_app, len_app, len_app]; omega), ?_⟩
      have orow : okS ("holds " ++ z1 ++ " " ++ z2 ++ " " ++ z3) := okS_app (okS_app (okS_app (okS_app (okS_app k0 oz1) k1') oz2) k1') oz3
      have lrow : ("holds " ++ z1 ++ " " ++ z2 ++ " " ++ z3 : Str).length ≤ 100 := by
        simp only [len_app]
        omega
      have BB9 := BB7.trans (B8.trans B9)
      generalize ("holds " ++ z1 ++ " " ++ z2 ++ " " ++ z3 : Str) = row at orow lrow
      dsimp only [gName, List.set_cons_succ, List.set_cons_zero]
      -- the place
      have nr_ : ((rows.map V.str).length : Int) = (rows.length : Int) := by rw [List.length_map]
      refine ⟨_, rfl, lr, _, rfl, .inl (SqL.of r9), ?_⟩
      rw [nr_]
      dsimp only [gName, List.set_cons_succ, List.set_cons_zero]
      refine cut1 (fun σ' H' => ∃ j : Nat, σ' = [some (.ref p), some (.ref lS), some (.ref lW), some (.int m), some (.bl (decide (V.int d1 = V.int 0))), some (.int so), some (.ref ld), some (.ref lr), u8, u9, some (.int (0 + (i : Int))), some (.str z1), some (.str row), some (.int j)] ∧
        j ≤ rows.length ∧ Bt p q H H' ∧ PotAt H' p q r (n + 320 + 5 * i + 4) ∧ H' ld = some (.lst (nms.map V.str)) ∧ H' lr = some (.lst (rows.map V.str))) ?_ (fun R' fin => ?_)
      · rintro σ' HA ⟨j, rfl, jl, BA, PA, eA, rA⟩
        refine ⟨_, rfl, .inl ⟨rfl, _, SqL.of rA⟩, _, rfl, _, rfl, lr, _, _, _, rfl, rfl, rA, ?_, by omega, by omega, ?_⟩
        · rw [List.length_map]
          exact Nat.lt_of_le_of_lt (show _ ≤ 1000 by omega) (by decide)
        refine ⟨_, _, _, _, rows.take j ++ [row] ++ rows.drop j, rfl, BA.new glr, (PA.upd nlr.1 nlr.2.1 nlr.2.2).mono (by omega), by rw [upd_ne ndr]; exact eA, ?_, ?_, ?_⟩
        · rw [upd_same, Int.toNat_natCast, List.map_append, List.map_append, List.map_take, List.map_drop]
          rfl
        · rw [List.length_append, List.length_append, List.length_take, List.length_drop, List.length_singleton]
          omega
        · exact (o6.take.app (RowsOk.one orow lrow)).app o6.drop
      · refine ⟨_, rfl, _, rfl, ?_⟩
        refine ite2 (fun _ => ?_) (fun _ => ?_)
        · refine ⟨_, rfl, _, rfl, lr, _, rfl, .inl (SqL.of r9), _, _, rfl, rfl, p, q, r, _, _, rfl, P9, by omega, by omega, by omega, fun y4 HA x0 x1 BA PA => ?_⟩
          rw [nr_] at x1
          obtain ⟨j4, rfl⟩ : ∃ j4 : Nat, y4 = (j4 : Int) := ⟨y4.toNat, by omega⟩
          dsimp only [gName, List.set_cons_succ, List.set_cons_zero]
          exact fin _ _ ⟨j4, rfl, by omega, BB9.trans BA, PA.mono (by omega), BA _ _ nld.1 nld.2.1 e9, BA _ _ nlr.1 nlr.2.1 r9⟩
        · exact fin _ _ ⟨rows.length, rfl, Nat.le_refl _, BB9, P9.mono (by omega), e9, r9⟩
    rintro σ' H6 ⟨u10, u11, u12, u13, rows, rfl, B6, P6, e6, r6, l6, o6⟩
    rw [Int.toNat_natCast] at P6 l6
    exact ⟨_, rfl, k rows lr H6 glr B6 (P6.mono (by omega)) r6 (by omega) o6⟩
end
end Wm
namespace Wm
open PySem L2 StX
def oddL : List Str := ["", "thing", "holds", "thing a b", "holds a b c d", "holds a  b", "Thing a b awake", "thing a b awoken", "1a", "A", "abcdefghijklm", "awake", "asleep", "a-b", "a", "b"]
def oddB (z : Str) : Bool := z.cps.toList.all (fun c => decide (c < 1114112)) && decide (z.length ≤ 16)
theorem odd_all : oddL.all oddB = true := by decide +kernel
theorem odd_ok : RowsOk 16 oddL := fun z hz => by
  have h := List.all_eq_true.mp odd_all z hz
  unfold oddB at h
  rw [Bool.and_eq_true] at h
  exact ⟨fun c hc => of_decide_eq_true (List.all_eq_true.mp h.1 c hc), of_decide_eq_true h.2⟩
/-- how long texts are with a sign between them, and one more -/
def tot (ps : List Str) : Nat := (ps.map (·.length)).sum + ps.length
theorem tot_app (a b : List Str) : tot (a ++ b) = tot a + tot b := by
  unfold tot
  rw [List.map_append, List.sum_append, List.length_append]
  omega
theorem tot_cut (a : List Str) (k : Nat) : tot (a.take k) + tot (a.drop k) = tot a := by
  rw [← tot_app, List.take_append_drop]
theorem tot_mem {a : List Str} {z : Str} (h : z ∈ a) : z.length + 1 ≤ tot a := by
  obtain ⟨x, y, rfl⟩ := List.append_of_mem h
  rw [tot_app]
  have : tot (z :: y) = z.length + 1 + tot y := by
    unfold tot
    simp only [List.map_cons, List.sum_cons, List.length_cons]
    omega
  omega
theorem tot_one (z : Str) : tot [z] = z.length + 1 := by
  unfold tot
  simp
theorem tot_join {c : Nat} : ∀ {ps : List Str}, tot ps ≤ (Str.join ⟨#[c]⟩ ps).length + 1
  | [] => Nat.zero_le _
  | [q] => by
    rw [tot_one]
    exact Nat.le_refl _
  | q :: q2 :: r => by
    have e := congrArg List.length (join_two c q q2 r)
    rw [List.length_append, List.length_cons] at e
    have e' : (Str.join ⟨#[c]⟩ (q :: q2 :: r)).length = q.length + ((Str.join ⟨#[c]⟩ (q2 :: r)).length + 1) := e
    have ih := tot_join (c := c) (ps := q2 :: r)
    have : tot (q :: q2 :: r) = q.length + 1 + tot (q2 :: r) := by
      rw [show q :: q2 :: r = [q] ++ (q2 :: r) from rfl, tot_app, tot_one]
    omega
theorem tot_split (row : Str) : tot (Txt.split row " ") ≤ row.length + 1 := by
  rw [show Txt.split row " " = Txt.split row ⟨#[32]⟩ by rw [← blank]]
  have := tot_join (c := 32) (ps := Txt.split row ⟨#[32]⟩)
  rw [StrLaws.join_split] at this
  exact this
theorem split_pos (row : Str) : 0 < (Txt.split row " ").length := by
  rw [show Txt.split row " " = Txt.split row ⟨#[32]⟩ by rw [← blank]]
  exact List.length_pos_iff.mpr (split_ne _ _)
theorem len_tot (ps : List Str) : ps.length ≤ tot ps := by
  unfold tot
  omega
theorem mem_get {zs : List Str} {j : Nat} {z : Str} (h : (zs.map V.str)[j]? = some (.str z)) : z ∈ zs := by
  rw [List.getElem?_map] at h
  obtain ⟨y, hy, e⟩ := Option.map_eq_some_iff.mp h
  rw [← V.str.inj e]
  exact List.mem_of_getElem? hy
def spSpo : Sp := fun vs H Q _ => ∃ (p q r l : Addr) (n M : Nat) (wy : Int) (rows : List Str), vs = [.ref p, .ref l, .int wy] ∧ PotAt H p q r n ∧ n ≤ 5000 ∧ H l = some (.lst (rows.map V.str)) ∧ (l ≠ p ∧ l ≠ q) ∧ 0 < rows.length ∧ rows.length ≤ 100 ∧ RowsOk M rows ∧ M ≤ 500 ∧
  ∀ (rs : List Str) d H', H d = none → Bt p q H H' → PotAt H' p q r (n + 10) → H' d = some (.lst (rs.map V.str)) → rs.length ≤ rows.length + 1 → RowsOk (2 * M + 60) rs → Q (.ref d) H'
section
variable {P : Program} {w : World} {K : PySem.W.Frag} {mg : Str → Option Value} {base : Heap}
theorem scSpo : FnScope ["_law_pot_here", "_law_rows", "_law_way", "_law_at", "_law_rest", "_law_odd", "_law_parts", "_law_part"] ["_law_pot_here", "_law_rows", "_law_way"] (defScope sSpo) := ⟨rfl, rfl, rfl, by decide +kernel, rfl, by decide +kernel, by decide +kernel⟩
theorem ok_spo {f fT : Addr} {fd dT : FuncData} (F : Fun K "_law_spoiled" "_law_spoiled" sSpo f fd) (T : TxB mg) (tstr : mg "str" = none) (DT : Dn K mg "_law_take" sTak ["_law_pot_here", "_law_many"] fT dT) (GT : FnOk P w K mg base CX0 2 fT dT ["_law_pot_here", "_law_many"] spTak) :
    FnOk P w K mg base CX0 4 f fd ["_law_pot_here", "_law_rows", "_law_way"] spSpo := by
  refine F.ok scSpo (fun vs H Q E h => ?_) (fun cdv A outer s H vs Q E hr h => ?_)
  · obtain ⟨p, q, r, l, n, M, wy, rows, rfl, _⟩ := h
    rfl
  · obtain ⟨p, q, r, l, n, M, wy, rows, rfl, PP, hn, hl, nl, rp, rm, ok, hM, k⟩ := h
    have hr2 : Room 2 _ := hr.mono (by decide)
    have sl : ∀ {a : Nat}, a ≤ 1000 → a ≤ sizeLine := fun h => Nat.le_trans h (by decide)
    refine ⟨_, (pss_cons (ps_set (i := 3) scSpo.nd rfl (Or.inl rfl) (pe_call GT hr2 rfl DT.g DT.F.kp DT.b .nil pass0 (pa_cons (pv 0) (pa_cons (pe_callB call_len_seq (by rfl) T.len (by decide +kernel) (pa_cons (pv 1) pa_nil)) pa_nil))))
      (pss_cons (ps_set (i := 4) scSpo.nd rfl (Or.inl rfl) (pe_slice sl_list (pv 1) (po_some (pe_op op_add (pv 3) pe_int)) po_none))
      (pss_cons (ps_if (pt_cmpR op_eq (pv 2) pe_int (nomark _)) (pss_one (ps_ret (pe_op op_cat (pe_slice sl_list (pv 1) po_none (po_some (pv 3))) (pv 4)))) pss_nil)
      (pss_cons (ps_if (pt_cmpR op_eq (pv 2) pe_int (nomark _)) (pss_one (ps_ret (pe_op op_cat (pe_op op_cat (pe_slice sl_list (pv 1) po_none (po_some (pv 3))) (pe_lst (pa_cons (pe_ix ix_list (pv 1) (pv 3) (fun _ _ => rfl)) pa_nil))) (pe_slice sl_list (pv 1) (po_some (pv 3)) po_none)))) pss_nil)
      (pss_cons (ps_if (pt_cmpR op_eq (pv 2) pe_int (nomark _)) (pss_one (ps_ret (pe_op op_cat (pe_op op_cat (pe_op op_cat (pe_slice sl_list (pv 1) po_none (po_some (pv 3))) (pe_slice sl_list (pv 4) po_none (po_some pe_int))) (pe_lst (pa_cons (pe_ix ix_list (pv 1) (pv 3) (fun _ _ => rfl)) pa_nil))) (pe_slice sl_list (pv 4) (po_some pe_int) po_none)))) pss_nil)
      (pss_cons (ps_set (i := 5) scSpo.nd rfl (Or.inl rfl) (pe_lst (pa_cons pe_str (pa_cons pe_str (pa_cons pe_str (pa_cons pe_str (pa_cons pe_str (pa_cons pe_str (pa_cons pe_str (pa_cons pe_str pa_nil))))))))))
      (pss_cons (ps_set (i := 5) scSpo.nd rfl (Or.inl rfl) (pe_op op_cat (pv 5) (pe_lst (pa_cons pe_str (pa_cons pe_str (pa_cons pe_str (pa_cons pe_str (pa_cons pe_str (pa_cons pe_str (pa_cons pe_str (pa_cons pe_str pa_nil)))))))))))
      (pss_cons (ps_if (pt_cmpR op_eq (pv 2) pe_int (nomark _)) (pss_one (ps_ret (pe_op op_cat (pe_op op_cat (pe_slice sl_list (pv 1) po_none (po_some (pv 3))) (pe_lst (pa_cons (pe_ix ix_list (pv 5) (pe_call GT hr2 rfl DT.g DT.F.kp DT.b .nil pass0 (pa_cons (pv 0) (pa_cons pe_int pa_nil))) (fun _ _ => rfl)) pa_nil))) (pe_slice sl_list (pv 1) (po_some (pv 3)) po_none)))) pss_nil)
      (pss_cons (ps_if (pt_cmpR op_eq (pv 2) pe_int (nomark _)) (pss_one (ps_ret (pe_op op_cat (pv 1) (pe_lst (pa_cons (pe_op op_add_str (pe_op op_add_str (pe_op op_add_str (pe_op op_add_str pe_str (pe_callTy call_str_int (by rfl) tstr (by decide +kernel) (pa_cons (pe_call GT hr2 rfl DT.g DT.F.kp DT.b .nil pass0 (pa_cons (pv 0) (pa_cons pe_int pa_nil))) pa_nil))) pe_str) (pe_ix ix_list (pv 5) (pe_op op_add pe_int (pe_call GT hr2 rfl DT.g DT.F.kp DT.b .nil pass0 (pa_cons (pv 0) (pa_cons pe_int pa_nil)))) (fun _ _ => rfl))) pe_str) pa_nil))))) pss_nil)
      (pss_cons (ps_set (i := 6) scSpo.nd rfl (Or.inl rfl) (pe_split (pe_ix ix_list (pv 1) (pv 3) (fun _ _ => rfl)) pe_str))
      (pss_cons (ps_set (i := 7) scSpo.nd rfl (Or.inl rfl) (pe_call GT hr2 rfl DT.g DT.F.kp DT.b .nil pass0 (pa_cons (pv 0) (pa_cons (pe_callB call_len_seq (by rfl) T.len (by decide +kernel) (pa_cons (pv 6) pa_nil)) pa_nil))))
      (pss_cons (ps_if (pt_cmpR op_eq (pv 2) pe_int (nomark _)) (pss_one (ps_set (i := 6) scSpo.nd rfl (Or.inl rfl) (pe_op op_cat (pe_slice sl_list (pv 6) po_none (po_some (pv 7))) (pe_slice sl_list (pv 6) (po_some (pe_op op_add (pv 7) pe_int)) po_none)))) (pss_one (ps_if (pt_cmpR op_eq (pv 2) pe_int (nomark _)) (pss_one (ps_set (i := 6) scSpo.nd rfl (Or.inl rfl) (pe_op op_cat (pe_op op_cat (pe_slice sl_list (pv 6) po_none (po_some (pv 7))) (pe_lst (pa_cons (pe_ix ix_list (pv 6) (pv 7) (fun _ _ => rfl)) pa_nil))) (pe_slice sl_list (pv 6) (po_some (pv 7)) po_none)))) (pss_one (ps_if (pt_cmpR op_eq (pv 2) pe_int (nomark _)) (pss_one (ps_set (i := 6) scSpo.nd rfl (Or.inl rfl) (pe_op op_cat (pe_op op_cat (pe_slice sl_list (pv 6) po_none (po_some (pv 7))) (pe_lst (pa_cons (pe_ix ix_list (pv 6) (pe_call GT hr2 rfl DT.g DT.F.kp DT.b .nil pass0 (pa_cons (pv 0) (pa_cons (pe_callB call_len_seq (by rfl) T.len (by decide +kernel) (pa_cons (pv 6) pa_nil)) pa_nil))) (fun _ _ => rfl)) pa_nil))) (pe_slice sl_list (pv 6) (po_some (pe_op op_add (pv 7) pe_int)) po_none)))) (pss_one (ps_if (pt_cmpR op_eq (pv 2) pe_int (nomark _)) (pss_one (ps_set (i := 6) scSpo.nd rfl (Or.inl rfl) (pe_op op_cat (pe_op op_cat (pe_slice sl_list (pv 6) po_none (po_some (pv 7))) (pe_lst (pa_cons (pe_ix ix_list (pv 5) (pe_call GT hr2 rfl DT.g DT.F.kp DT.b .nil pass0 (pa_cons (pv 0) (pa_cons pe_int pa_nil))) (fun _ _ => rfl)) pa_nil))) (pe_slice sl_list (pv 6) (po_some (pe_op op_add (pv 7) pe_int)) po_none)))) pss_nil)))))))
      (pss_one (ps_ret (pe_op op_cat (pe_op op_cat (pe_slice sl_list (pv 1) po_none (po_some (pv 3))) (pe_lst (pa_cons (pe_join pe_str (pv 6)) pa_nil))) (pv 4)))))))))))))))), ?_⟩
    rw [show L2.start ["_law_pot_here", "_law_rows", "_law_way", "_law_at", "_law_rest", "_law_odd", "_law_parts", "_law_part"] [V.ref p, V.ref l, V.int wy] = [some (.ref p), some (.ref l), some (.int wy), none, none, none, none, none] from rfl]
    have nr_ : ((rows.map V.str).length : Int) = (rows.length : Int) := by rw [List.length_map]
    refine ⟨_, rfl, _, rfl, l, _, rfl, .inl (SqL.of hl), p, q, r, _, _, rfl, PP, by omega, by omega, by omega, fun d0 H1 a0 a1 BB PP => ?_⟩
    rw [nr_] at a1
    obtain ⟨i, rfl⟩ : ∃ i : Nat, d0 = (i : Int) := ⟨d0.toNat, by omega⟩
    have hl := BB _ _ nl.1 nl.2 hl
    obtain ⟨z, ez, oz, lz⟩ := strs_get (i := i) (by omega) ok
    dsimp only [gName, List.set_cons_succ, List.set_cons_zero]
    -- the rest
    refine ⟨_, rfl, _, rfl, _, _, rfl, rfl, _, rfl, l, _, rfl, SqL.of hl, fun ar nar => ?_⟩
    rw [show ((i : Int) + 1) = ((i + 1 : Nat) : Int) from rfl, cut_drop, ← List.map_drop]
    have mar := PP.ne nar
    have far : H ar = none := BB.free mar.1 mar.2.1 nar
    have er : (upd H1 ar (.lst ((rows.drop (i + 1)).map V.str))) ar = some (.lst ((rows.drop (i + 1)).map V.str)) := upd_same
    have Sar : Same H1 (upd H1 ar (.lst ((rows.drop (i + 1)).map V.str))) := Same.upd nar
    generalize upd H1 ar (.lst ((rows.drop (i + 1)).map V.str)) = H2 at er Sar
    have hl := Sar _ _ hl
    have BB := BB.trans (Same.bt Sar)
    have PP := PP.same Sar
    dsimp only [gName, List.set_cons_succ, List.set_cons_zero]
    refine ⟨_, rfl, rfl, _, rfl, ?_⟩
    refine ite2 (fun _ => ?_) (fun _ => ?_)
    · refine ⟨_, rfl, _, rfl, _, rfl, l, _, rfl, SqL.of hl, fun x1 nx1 => ?_⟩
      rw [cut_take, ← List.map_take]
      have Sx1 : Same H2 (upd H2 x1 (.lst ((rows.take i).map V.str))) := Same.upd nx1
      have ex1 : (upd H2 x1 (.lst ((rows.take i).map V.str))) x1 = some (.lst ((rows.take i).map V.str)) := upd_same
      generalize upd H2 x1 (.lst ((rows.take i).map V.str)) = Hx1 at Sx1 ex1
      have hl := Sx1 _ _ hl
      have er := Sx1 _ _ er
      have mx1 := PP.ne nx1
      have fx1 : H x1 = none := BB.free mx1.1 mx1.2.1 nx1
      have BB := BB.trans (Same.bt Sx1)
      have PP := PP.same Sx1
      refine ⟨_, rfl, ?_⟩
      refine ⟨x1, ar, _, _, rfl, rfl, ex1, er, by simp only [List.length_map, List.length_append, List.length_take, List.length_drop, List.length_cons, List.length_nil]; exact sl (by omega), fun x2 nx2 => ?_⟩
      rw [← List.map_append]
      have Sx2 : Same Hx1 (upd Hx1 x2 (.lst (((rows.take i) ++ (rows.drop (i + 1))).map V.str))) := Same.upd nx2
      have ex2 : (upd Hx1 x2 (.lst (((rows.take i) ++ (rows.drop (i + 1))).map V.str))) x2 = some (.lst (((rows.take i) ++ (rows.drop (i + 1))).map V.str)) := upd_same
      generalize upd Hx1 x2 (.lst (((rows.take i) ++ (rows.drop (i + 1))).map V.str)) = Hx2 at Sx2 ex2
      have hl := Sx2 _ _ hl
      have er := Sx2 _ _ er
      have ex1 := Sx2 _ _ ex1
      have mx2 := PP.ne nx2
      have fx2 : H x2 = none := BB.free mx2.1 mx2.2.1 nx2
      have BB := BB.trans (Same.bt Sx2)
      have PP := PP.same Sx2
      exact k _ x2 Hx2 fx2 BB (PP.mono (by omega)) ex2 (by simp only [List.length_append, List.length_take, List.length_drop, List.length_cons, List.length_nil]; omega) ((ok.take.app ok.drop).mono (by omega))
    refine ⟨_, rfl, rfl, _, rfl, ?_⟩
    refine ite2 (fun _ => ?_) (fun _ => ?_)
    · refine ⟨_, rfl, _, rfl, _, rfl, l, _, rfl, SqL.of hl, fun y1 ny1 => ?_⟩
      rw [cut_take, ← List.map_take]
      have Sy1 : Same H2 (upd H2 y1 (.lst ((rows.take i).map V.str))) := Same.upd ny1
      have ey1 : (upd H2 y1 (.lst ((rows.take i).map V.str))) y1 = some (.lst ((rows.take i).map V.str)) := upd_same
      generalize upd H2 y1 (.lst ((rows.take i).map V.str)) = Hy1 at Sy1 ey1
      have hl := Sy1 _ _ hl
      have er := Sy1 _ _ er
      have my1 := PP.ne ny1
      have fy1 : H y1 = none := BB.free my1.1 my1.2.1 ny1
      have BB := BB.trans (Same.bt Sy1)
      have PP := PP.same Sy1
      refine ⟨_, rfl, _, rfl, rdList hl (j := i) rfl ez ?_⟩
      refine ⟨by show 1 ≤ sizeLine; decide, fun y2 ny2 => ?_⟩
      rw [show upd Hy1 y2 (.lst [.str z]) = upd Hy1 y2 (.lst (([z] : List Str).map V.str)) from rfl]
      have Sy2 : Same Hy1 (upd Hy1 y2 (.lst (([z] : List Str).map V.str))) := Same.upd ny2
      have ey2 : (upd Hy1 y2 (.lst (([z] : List Str).map V.str))) y2 = some (.lst (([z] : List Str).map V.str)) := upd_same
      generalize upd Hy1 y2 (.lst (([z] : List Str).map V.str)) = Hy2 at Sy2 ey2
      have hl := Sy2 _ _ hl
      have er := Sy2 _ _ er
      have ey1 := Sy2 _ _ ey1
      have my2 := PP.ne ny2
      have fy2 : H y2 = none := BB.free my2.1 my2.2.1 ny2
      have BB := BB.trans (Same.bt Sy2)
      have PP := PP.same Sy2
      refine ⟨y1, y2, _, _, rfl, rfl, ey1, ey2, by simp only [List.length_map, List.length_append, List.length_take, List.length_drop, List.length_cons, List.length_nil]; exact sl (by omega), fun y3 ny3 => ?_⟩
      rw [← List.map_append]
      have Sy3 : Same Hy2 (upd Hy2 y3 (.lst (((rows.take i) ++ ([z] : List Str)).map V.str))) := Same.upd ny3
      have ey3 : (upd Hy2 y3 (.lst (((rows.take i) ++ ([z] : List Str)).map V.str))) y3 = some (.lst (((rows.take i) ++ ([z] : List Str)).map V.str)) := upd_same
      generalize upd Hy2 y3 (.lst (((rows.take i) ++ ([z] : List Str)).map V.str)) = Hy3 at Sy3 ey3
      have hl := Sy3 _ _ hl
      have er := Sy3 _ _ er
      have ey1 := Sy3 _ _ ey1
      have ey2 := Sy3 _ _ ey2
      have my3 := PP.ne ny3
      have fy3 : H y3 = none := BB.free my3.1 my3.2.1 ny3
      have BB := BB.trans (Same.bt Sy3)
      have PP := PP.same Sy3
      refine ⟨_, rfl, _, rfl, _, rfl, l, _, rfl, SqL.of hl, fun y4 ny4 => ?_⟩
      rw [cut_drop, ← List.map_drop]
      have Sy4 : Same Hy3 (upd Hy3 y4 (.lst ((rows.drop i).map V.str))) := Same.upd ny4
      have ey4 : (upd Hy3 y4 (.lst ((rows.drop i).map V.str))) y4 = some (.lst ((rows.drop i).map V.str)) := upd_same
      generalize upd Hy3 y4 (.lst ((rows.drop i).map V.str)) = Hy4 at Sy4 ey4
      have hl := Sy4 _ _ hl
      have er := Sy4 _ _ er
      have ey1 := Sy4 _ _ ey1
      have ey2 := Sy4 _ _ ey2
      have ey3 := Sy4 _ _ ey3
      have my4 := PP.ne ny4
      have fy4 : H y4 = none := BB.free my4.1 my4.2.1 ny4
      have BB := BB.trans (Same.bt Sy4)
      have PP := PP.same Sy4
      refine ⟨y3, y4, _, _, rfl, rfl, ey3, ey4, by simp only [List.length_map, List.length_append, List.length_take, List.length_drop, List.length_cons, List.length_nil]; exact sl (by omega), fun y5 ny5 => ?_⟩
      rw [← List.map_append]
      have Sy5 : Same Hy4 (upd Hy4 y5 (.lst ((((rows.take i) ++ ([z] : List Str)) ++ (rows.drop i)).map V.str))) := Same.upd ny5
      have ey5 : (upd Hy4 y5 (.lst ((((rows.take i) ++ ([z] : List Str)) ++ (rows.drop i)).map V.str))) y5 = some (.lst ((((rows.take i) ++ ([z] : List Str)) ++ (rows.drop i)).map V.str)) := upd_same
      generalize upd Hy4 y5 (.lst ((((rows.take i) ++ ([z] : List Str)) ++ (rows.drop i)).map V.str)) = Hy5 at Sy5 ey5
      have hl := Sy5 _ _ hl
      have er := Sy5 _ _ er
      have ey1 := Sy5 _ _ ey1
      have ey2 := Sy5 _ _ ey2
      have ey3 := Sy5 _ _ ey3
      have ey4 := Sy5 _ _ ey4
      have my5 := PP.ne ny5
      have fy5 : H y5 = none := BB.free my5.1 my5.2.1 ny5
      have BB := BB.trans (Same.bt Sy5)
      have PP := PP.same Sy5
      exact k _ y5 Hy5 fy5 BB (PP.mono (by omega)) ey5 (by simp only [List.length_append, List.length_take, List.length_drop, List.length_cons, List.length_nil]; omega) (((ok.take.app (RowsOk.one oz lz)).app ok.drop).mono (by omega))
    refine ⟨_, rfl, rfl, _, rfl, ?_⟩
    refine ite2 (fun _ => ?_) (fun _ => ?_)
    · refine ⟨_, rfl, _, rfl, _, rfl, l, _, rfl, SqL.of hl, fun w1 nw1 => ?_⟩
      rw [cut_take, ← List.map_take]
      have Sw1 : Same H2 (upd H2 w1 (.lst ((rows.take i).map V.str))) := Same.upd nw1
      have ew1 : (upd H2 w1 (.lst ((rows.take i).map V.str))) w1 = some (.lst ((rows.take i).map V.str)) := upd_same
      generalize upd H2 w1 (.lst ((rows.take i).map V.str)) = Hw1 at Sw1 ew1
      have hl := Sw1 _ _ hl
      have er := Sw1 _ _ er
      have mw1 := PP.ne nw1
      have fw1 : H w1 = none := BB.free mw1.1 mw1.2.1 nw1
      have BB := BB.trans (Same.bt Sw1)
      have PP := PP.same Sw1
      refine ⟨_, rfl, _, rfl, ar, _, rfl, SqL.of er, fun w2 nw2 => ?_⟩
      rw [show cutV ((rows.drop (i + 1)).map V.str) none (some 1) = ((rows.drop (i + 1)).map V.str).take 1 from cut_take _ 1, ← List.map_take]
      have Sw2 : Same Hw1 (upd Hw1 w2 (.lst (((rows.drop (i + 1)).take 1).map V.str))) := Same.upd nw2
      have ew2 : (upd Hw1 w2 (.lst (((rows.drop (i + 1)).take 1).map V.str))) w2 = some (.lst (((rows.drop (i + 1)).take 1).map V.str)) := upd_same
      generalize upd Hw1 w2 (.lst (((rows.drop (i + 1)).take 1).map V.str)) = Hw2 at Sw2 ew2
      have hl := Sw2 _ _ hl
      have er := Sw2 _ _ er
      have ew1 := Sw2 _ _ ew1
      have mw2 := PP.ne nw2
      have fw2 : H w2 = none := BB.free mw2.1 mw2.2.1 nw2
      have BB := BB.trans (Same.bt Sw2)
      have PP := PP.same Sw2
      refine ⟨w1, w2, _, _, rfl, rfl, ew1, ew2, by simp only [List.length_map, List.length_append, List.length_take, List.length_drop, List.length_cons, List.length_nil]; exact sl (by omega), fun w3 nw3 => ?_⟩
      rw [← List.map_append]
      have Sw3 : Same Hw2 (upd Hw2 w3 (.lst (((rows.take i) ++ ((rows.drop (i + 1)).take 1)).map V.str))) := Same.upd nw3
      have ew3 : (upd Hw2 w3 (.lst (((rows.take i) ++ ((rows.drop (i + 1)).take 1)).map V.str))) w3 = some (.lst (((rows.take i) ++ ((rows.drop (i + 1)).take 1)).map V.str)) := upd_same
      generalize upd Hw2 w3 (.lst (((rows.take i) ++ ((rows.drop (i + 1)).take 1)).map V.str)) = Hw3 at Sw3 ew3
      have hl := Sw3 _ _ hl
      have er := Sw3 _ _ er
      have ew1 := Sw3 _ _ ew1
      have ew2 := Sw3 _ _ ew2
      have mw3 := PP.ne nw3
      have fw3 : H w3 = none := BB.free mw3.1 mw3.2.1 nw3
      have BB := BB.trans (Same.bt Sw3)
      have PP := PP.same Sw3
      refine ⟨_, rfl, _, rfl, rdList hl (j := i) rfl ez ?_⟩
      refine ⟨by show 1 ≤ sizeLine; decide, fun w4 nw4 => ?_⟩
      rw [show upd Hw3 w4 (.lst [.str z]) = upd Hw3 w4 (.lst (([z] : List Str).map V.str)) from rfl]
      have Sw4 : Same Hw3 (upd Hw3 w4 (.lst (([z] : List Str).map V.str))) := Same.upd nw4
      have ew4 : (upd Hw3 w4 (.lst (([z] : List Str).map V.str))) w4 = some (.lst (([z] : List Str).map V.str)) := upd_same
      generalize upd Hw3 w4 (.lst (([z] : List Str).map V.str)) = Hw4 at Sw4 ew4
      have hl := Sw4 _ _ hl
      have er := Sw4 _ _ er
      have ew1 := Sw4 _ _ ew1
      have ew2 := Sw4 _ _ ew2
      have ew3 := Sw4 _ _ ew3
      have mw4 := PP.ne nw4
      have fw4 : H w4 = none := BB.free mw4.1 mw4.2.1 nw4
      have BB := BB.trans (Same.bt Sw4)
      have PP := PP.same Sw4
      refine ⟨w3, w4, _, _, rfl, rfl, ew3, ew4, by simp only [List.length_map, List.length_append, List.length_take, List.length_drop, List.length_cons, List.length_nil]; exact sl (by omega), fun w5 nw5 => ?_⟩
      rw [← List.map_append]
      have Sw5 : Same Hw4 (upd Hw4 w5 (.lst ((((rows.take i) ++ ((rows.drop (i + 1)).take 1)) ++ ([z] : List Str)).map V.str))) := Same.upd nw5
      have ew5 : (upd Hw4 w5 (.lst ((((rows.take i) ++ ((rows.drop (i + 1)).take 1)) ++ ([z] : List Str)).map V.str))) w5 = some (.lst ((((rows.take i) ++ ((rows.drop (i + 1)).take 1)) ++ ([z] : List Str)).map V.str)) := upd_same
      generalize upd Hw4 w5 (.lst ((((rows.take i) ++ ((rows.drop (i + 1)).take 1)) ++ ([z] : List Str)).map V.str)) = Hw5 at Sw5 ew5
      have hl := Sw5 _ _ hl
      have er := Sw5 _ _ er
      have ew1 := Sw5 _ _ ew1
      have ew2 := Sw5 _ _ ew2
      have ew3 := Sw5 _ _ ew3
      have ew4 := Sw5 _ _ ew4
      have mw5 := PP.ne nw5
      have fw5 : H w5 = none := BB.free mw5.1 mw5.2.1 nw5
      have BB := BB.trans (Same.bt Sw5)
      have PP := PP.same Sw5
      refine ⟨_, rfl, _, rfl, ar, _, rfl, SqL.of er, fun w6 nw6 => ?_⟩
      rw [show cutV ((rows.drop (i + 1)).map V.str) (some 1) none = ((rows.drop (i + 1)).map V.str).drop 1 from cut_drop _ 1, ← List.map_drop]
      have Sw6 : Same Hw5 (upd Hw5 w6 (.lst (((rows.drop (i + 1)).drop 1).map V.str))) := Same.upd nw6
      have ew6 : (upd Hw5 w6 (.lst (((rows.drop (i + 1)).drop 1).map V.str))) w6 = some (.lst (((rows.drop (i + 1)).drop 1).map V.str)) := upd_same
      generalize upd Hw5 w6 (.lst (((rows.drop (i + 1)).drop 1).map V.str)) = Hw6 at Sw6 ew6
      have hl := Sw6 _ _ hl
      have er := Sw6 _ _ er
      have ew1 := Sw6 _ _ ew1
      have ew2 := Sw6 _ _ ew2
      have ew3 := Sw6 _ _ ew3
      have ew4 := Sw6 _ _ ew4
      have ew5 := Sw6 _ _ ew5
      have mw6 := PP.ne nw6
      have fw6 : H w6 = none := BB.free mw6.1 mw6.2.1 nw6
      have BB := BB.trans (Same.bt Sw6)
      have PP := PP.same Sw6
      refine ⟨w5, w6, _, _, rfl, rfl, ew5, ew6, by simp only [List.length_map, List.length_append, List.length_take, List.length_drop, List.length_cons, List.length_nil]; exact sl (by omega), fun w7 nw7 => ?_⟩
      rw [← List.map_append]
      have Sw7 : Same Hw6 (upd Hw6 w7 (.lst (((((rows.take i) ++ ((rows.drop (i + 1)).take 1)) ++ ([z] : List Str)) ++ ((rows.drop (i + 1)).drop 1)).map V.str))) := Same.upd nw7
      have ew7 : (upd Hw6 w7 (.lst (((((rows.take i) ++ ((rows.drop (i + 1)).take 1)) ++ ([z] : List Str)) ++ ((rows.drop (i + 1)).drop 1)).map V.str))) w7 = some (.lst (((((rows.take i) ++ ((rows.drop (i + 1)).take 1)) ++ ([z] : List Str)) ++ ((rows.drop (i + 1)).drop 1)).map V.str)) := upd_same
      generalize upd Hw6 w7 (.lst (((((rows.take i) ++ ((rows.drop (i + 1)).take 1)) ++ ([z] : List Str)) ++ ((rows.drop (i + 1)).drop 1)).map V.str)) = Hw7 at Sw7 ew7
      have hl := Sw7 _ _ hl
      have er := Sw7 _ _ er
      have ew1 := Sw7 _ _ ew1
      have ew2 := Sw7 _ _ ew2
      have ew3 := Sw7 _ _ ew3
      have ew4 := Sw7 _ _ ew4
      have ew5 := Sw7 _ _ ew5
      have ew6 := Sw7 _ _ ew6
      have mw7 := PP.ne nw7
      have fw7 : H w7 = none := BB.free mw7.1 mw7.2.1 nw7
      have BB := BB.trans (Same.bt Sw7)
      have PP := PP.same Sw7
      exact k _ w7 Hw7 fw7 BB (PP.mono (by omega)) ew7 (by simp only [List.length_append, List.length_take, List.length_drop, List.length_cons, List.length_nil]; omega) ((((ok.take.app ok.drop.take).app (RowsOk.one oz lz)).app ok.drop.drop).mono (by omega))
    -- odd texts
    dsimp only [tNext]
    refine ⟨by show 8 ≤ sizeLine; decide, fun a1 na1 => ?_⟩
    rw [show upd H2 a1 (.lst [.str "", .str "thing", .str "holds", .str "thing a b", .str "holds a b c d", .str "holds a  b", .str "Thing a b awake", .str "thing a b awoken"]) = upd H2 a1 (.lst ((oddL.take 8).map V.str)) from rfl]
    have e1 : (upd H2 a1 (.lst ((oddL.take 8).map V.str))) a1 = some (.lst ((oddL.take 8).map V.str)) := upd_same
    have S1 : Same H2 (upd H2 a1 (.lst ((oddL.take 8).map V.str))) := Same.upd na1
    generalize upd H2 a1 (.lst ((oddL.take 8).map V.str)) = H3 at e1 S1
    dsimp only [gName, List.set_cons_succ, List.set_cons_zero]
    refine ⟨_, rfl, by show 8 ≤ sizeLine; decide, fun a2 na2 => ?_⟩
    rw [show upd H3 a2 (.lst [.str "1a", .str "A", .str "abcdefghijklm", .str "awake", .str "asleep", .str "a-b", .str "a", .str "b"]) = upd H3 a2 (.lst ((oddL.drop 8).map V.str)) from rfl]
    have e2 : (upd H3 a2 (.lst ((oddL.drop 8).map V.str))) a2 = some (.lst ((oddL.drop 8).map V.str)) := upd_same
    have S2 : Same H3 (upd H3 a2 (.lst ((oddL.drop 8).map V.str))) := Same.upd na2
    generalize upd H3 a2 (.lst ((oddL.drop 8).map V.str)) = H3' at e2 S2
    refine ⟨a1, a2, _, _, rfl, rfl, S2 _ _ e1, e2, by rw [List.length_map, List.length_map]; exact sl (by decide), fun lo nlo => ?_⟩
    rw [← List.map_append, List.take_append_drop]
    have S12 := S1.trans S2
    have PP := PP.same S12
    have BB := BB.trans (Same.bt S12)
    have mo := PP.ne nlo
    have hl := S12 _ _ hl
    have er := S12 _ _ er
    have eo : (upd H3' lo (.lst (oddL.map V.str))) lo = some (.lst (oddL.map V.str)) := upd_same
    have So : Same H3' (upd H3' lo (.lst (oddL.map V.str))) := Same.upd nlo
    generalize upd H3' lo (.lst (oddL.map V.str)) = H4 at eo So
    have hl := So _ _ hl
    have er := So _ _ er
    have PP := PP.same So
    have BB := BB.trans (Same.bt So)
    dsimp only [gName, List.set_cons_succ, List.set_cons_zero]
    refine ⟨_, rfl, rfl, _, rfl, ?_⟩
    refine ite2 (fun _ => ?_) (fun _ => ?_)
    · refine ⟨_, rfl, _, rfl, _, rfl, l, _, rfl, SqL.of hl, fun v1 nv1 => ?_⟩
      rw [cut_take, ← List.map_take]
      have Sv1 : Same H4 (upd H4 v1 (.lst ((rows.take i).map V.str))) := Same.upd nv1
      have ev1 : (upd H4 v1 (.lst ((rows.take i).map V.str))) v1 = some (.lst ((rows.take i).map V.str)) := upd_same
      generalize upd H4 v1 (.lst ((rows.take i).map V.str)) = Hv1 at Sv1 ev1
      have hl := Sv1 _ _ hl
      have er := Sv1 _ _ er
      have eo := Sv1 _ _ eo
      have mv1 := PP.ne nv1
      have fv1 : H v1 = none := BB.free mv1.1 mv1.2.1 nv1
      have BB := BB.trans (Same.bt Sv1)
      have PP := PP.same Sv1
      refine ⟨_, rfl, ?_⟩
      refine ⟨_, rfl, p, q, r, _, 8, rfl, PP, by omega, by omega, by omega, fun d Hd d0 d1 Bd PP => ?_⟩
      have hl := Bd _ _ nl.1 nl.2 hl
      have er := Bd _ _ mar.1 mar.2.1 er
      have eo := Bd _ _ mo.1 mo.2.1 eo
      have ev1 := Bd _ _ mv1.1 mv1.2.1 ev1
      have BB := BB.trans Bd
      obtain ⟨j, rfl⟩ : ∃ j : Nat, d = (j : Int) := ⟨d.toNat, by omega⟩
      obtain ⟨zo, ezo, ozo, lzo⟩ := strs_get (i := j) (zs := oddL) (by show j < 16; omega) odd_ok
      refine rdList eo (j := j) rfl ezo ?_
      refine ⟨by show 1 ≤ sizeLine; decide, fun v2 nv2 => ?_⟩
      rw [show upd Hd v2 (.lst [.str zo]) = upd Hd v2 (.lst (([zo] : List Str).map V.str)) from rfl]
      have Sv2 : Same Hd (upd Hd v2 (.lst (([zo] : List Str).map V.str))) := Same.upd nv2
      have ev2 : (upd Hd v2 (.lst (([zo] : List Str).map V.str))) v2 = some (.lst (([zo] : List Str).map V.str)) := upd_same
      generalize upd Hd v2 (.lst (([zo] : List Str).map V.str)) = Hv2 at Sv2 ev2
      have hl := Sv2 _ _ hl
      have er := Sv2 _ _ er
      have eo := Sv2 _ _ eo
      have ev1 := Sv2 _ _ ev1
      have mv2 := PP.ne nv2
      have fv2 : H v2 = none := BB.free mv2.1 mv2.2.1 nv2
      have BB := BB.trans (Same.bt Sv2)
      have PP := PP.same Sv2
      refine ⟨v1, v2, _, _, rfl, rfl, ev1, ev2, by simp only [List.length_map, List.length_append, List.length_take, List.length_drop, List.length_cons, List.length_nil]; exact sl (by omega), fun v3 nv3 => ?_⟩
      rw [← List.map_append]
      have Sv3 : Same Hv2 (upd Hv2 v3 (.lst (((rows.take i) ++ ([zo] : List Str)).map V.str))) := Same.upd nv3
      have ev3 : (upd Hv2 v3 (.lst (((rows.take i) ++ ([zo] : List Str)).map V.str))) v3 = some (.lst (((rows.take i) ++ ([zo] : List Str)).map V.str)) := upd_same
      generalize upd Hv2 v3 (.lst (((rows.take i) ++ ([zo] : List Str)).map V.str)) = Hv3 at Sv3 ev3
      have hl := Sv3 _ _ hl
      have er := Sv3 _ _ er
      have eo := Sv3 _ _ eo
      have ev1 := Sv3 _ _ ev1
      have ev2 := Sv3 _ _ ev2
      have mv3 := PP.ne nv3
      have fv3 : H v3 = none := BB.free mv3.1 mv3.2.1 nv3
      have BB := BB.trans (Same.bt Sv3)
      have PP := PP.same Sv3
      refine ⟨_, rfl, _, rfl, _, rfl, l, _, rfl, SqL.of hl, fun v4 nv4 => ?_⟩
      rw [cut_drop, ← List.map_drop]
      have Sv4 : Same Hv3 (upd Hv3 v4 (.lst ((rows.drop i).map V.str))) := Same.upd nv4
      have ev4 : (upd Hv3 v4 (.lst ((rows.drop i).map V.str))) v4 = some (.lst ((rows.drop i).map V.str)) := upd_same
      generalize upd Hv3 v4 (.lst ((rows.drop i).map V.str)) = Hv4 at Sv4 ev4
      have hl := Sv4 _ _ hl
      have er := Sv4 _ _ er
      have eo := Sv4 _ _ eo
      have ev1 := Sv4 _ _ ev1
      have ev2 := Sv4 _ _ ev2
      have ev3 := Sv4 _ _ ev3
      have mv4 := PP.ne nv4
      have fv4 : H v4 = none := BB.free mv4.1 mv4.2.1 nv4
      have BB := BB.trans (Same.bt Sv4)
      have PP := PP.same Sv4
      refine ⟨v3, v4, _, _, rfl, rfl, ev3, ev4, by simp only [List.length_map, List.length_append, List.length_take, List.length_drop, List.length_cons, List.length_nil]; exact sl (by omega), fun v5 nv5 => ?_⟩
      rw [← List.map_append]
      have Sv5 : Same Hv4 (upd Hv4 v5 (.lst ((((rows.take i) ++ ([zo] : List Str)) ++ (rows.drop i)).map V.str))) := Same.upd nv5
      have ev5 : (upd Hv4 v5 (.lst ((((rows.take i) ++ ([zo] : List Str)) ++ (rows.drop i)).map V.str))) v5 = some (.lst ((((rows.take i) ++ ([zo] : List Str)) ++ (rows.drop i)).map V.str)) := upd_same
      generalize upd Hv4 v5 (.lst ((((rows.take i) ++ ([zo] : List Str)) ++ (rows.drop i)).map V.str)) = Hv5 at Sv5 ev5
      have hl := Sv5 _ _ hl
      have er := Sv5 _ _ er
      have eo := Sv5 _ _ eo
      have ev1 := Sv5 _ _ ev1
      have ev2 := Sv5 _ _ ev2
      have ev3 := Sv5 _ _ ev3
      have ev4 := Sv5 _ _ ev4
      have mv5 := PP.ne nv5
      have fv5 : H v5 = none := BB.free mv5.1 mv5.2.1 nv5
      have BB := BB.trans (Same.bt Sv5)
      have PP := PP.same Sv5
      exact k _ v5 Hv5 fv5 BB (PP.mono (by omega)) ev5 (by simp only [List.length_append, List.length_take, List.length_drop, List.length_cons, List.length_nil]; omega) (((ok.mono (by omega : M ≤ 2 * M + 60)).take.app (RowsOk.one ozo (Nat.le_trans lzo (by omega)))).app (ok.mono (by omega)).drop)
    refine ⟨_, rfl, rfl, _, rfl, ?_⟩
    refine ite2 (fun _ => ?_) (fun _ => ?_)
    · refine ⟨_, rfl, ?_⟩
      refine ⟨_, rfl, p, q, r, _, 9, rfl, PP, by omega, by omega, by omega, fun d Hd d0 d1 Bd PP => ?_⟩
      have hl := Bd _ _ nl.1 nl.2 hl
      have er := Bd _ _ mar.1 mar.2.1 er
      have eo := Bd _ _ mo.1 mo.2.1 eo
      have BB := BB.trans Bd
      obtain ⟨j, rfl⟩ : ∃ j : Nat, d = (j : Int) := ⟨d.toNat, by omega⟩
      have nj := num_sign (n := j) (by omega)
      have otz : okS (numS j) := fun c hc => by
        rcases nj.1 c hc with h | h
        · have := h.2; omega
        · have := h.2; omega
      have c8 : ("thing zz" : Str).length = 8 := by decide +kernel
      have c1 : (" " : Str).length = 1 := by decide +kernel
      have c6 : (" awake" : Str).length = 6 := by decide +kernel
      have oa : okS "thing zz" ∧ okS " " ∧ okS " awake" := by refine ⟨?_, ?_, ?_⟩ <;> (unfold okS; decide +kernel)
      refine ⟨_, rfl, log_sm (by omega), ?_⟩
      obtain ⟨tz, htz⟩ : ∃ tz : Str, tz = numS j := ⟨_, rfl⟩
      rw [← htz] at nj otz
      refine ⟨_, tz, rfl, by rw [htz]; rfl, sl (by omega), _, _, rfl, rfl, sl (by rw [len_app]; omega), _, rfl, ?_⟩
      refine ⟨_, rfl, p, q, r, _, 8, rfl, PP, by omega, by omega, by omega, fun g Hg g0 g1 Bg PP => ?_⟩
      have hl := Bg _ _ nl.1 nl.2 hl
      have er := Bg _ _ mar.1 mar.2.1 er
      have eo := Bg _ _ mo.1 mo.2.1 eo
      have BB := BB.trans Bg
      obtain ⟨j2, rfl⟩ : ∃ j2 : Nat, g = (j2 : Int) := ⟨g.toNat, by omega⟩
      obtain ⟨zo, ezo, ozo, lzo⟩ := strs_get (i := 8 + j2) (zs := oddL) (by show 8 + j2 < 16; omega) odd_ok
      refine ⟨_, _, rfl, rfl, rdList eo (j := 8 + j2) (by omega) ezo ?_⟩
      refine ⟨_, _, rfl, rfl, sl (by rw [len_app, len_app]; omega), _, _, rfl, rfl, sl (by rw [len_app, len_app, len_app]; omega), ?_⟩
      have oZ : okS ("thing zz" ++ tz ++ " " ++ zo ++ " awake" : Str) := okS_app (okS_app (okS_app (okS_app oa.1 otz) oa.2.1) ozo) oa.2.2
      have lZ : ("thing zz" ++ tz ++ " " ++ zo ++ " awake" : Str).length ≤ 40 := by simp only [len_app]; omega
      generalize ("thing zz" ++ tz ++ " " ++ zo ++ " awake" : Str) = zZ at oZ lZ ⊢
      refine ⟨by show 1 ≤ sizeLine; decide, fun u1 nu1 => ?_⟩
      rw [show upd Hg u1 (.lst [.str zZ]) = upd Hg u1 (.lst (([zZ] : List Str).map V.str)) from rfl]
      have Su1 : Same Hg (upd Hg u1 (.lst (([zZ] : List Str).map V.str))) := Same.upd nu1
      have eu1 : (upd Hg u1 (.lst (([zZ] : List Str).map V.str))) u1 = some (.lst (([zZ] : List Str).map V.str)) := upd_same
      generalize upd Hg u1 (.lst (([zZ] : List Str).map V.str)) = Hu1 at Su1 eu1
      have hl := Su1 _ _ hl
      have er := Su1 _ _ er
      have eo := Su1 _ _ eo
      have mu1 := PP.ne nu1
      have fu1 : H u1 = none := BB.free mu1.1 mu1.2.1 nu1
      have BB := BB.trans (Same.bt Su1)
      have PP := PP.same Su1
      refine ⟨l, u1, _, _, rfl, rfl, hl, eu1, by simp only [List.length_map, List.length_append, List.length_take, List.length_drop, List.length_cons, List.length_nil]; exact sl (by omega), fun u2 nu2 => ?_⟩
      rw [← List.map_append]
      have Su2 : Same Hu1 (upd Hu1 u2 (.lst ((rows ++ ([zZ] : List Str)).map V.str))) := Same.upd nu2
      have eu2 : (upd Hu1 u2 (.lst ((rows ++ ([zZ] : List Str)).map V.str))) u2 = some (.lst ((rows ++ ([zZ] : List Str)).map V.str)) := upd_same
      generalize upd Hu1 u2 (.lst ((rows ++ ([zZ] : List Str)).map V.str)) = Hu2 at Su2 eu2
      have hl := Su2 _ _ hl
      have er := Su2 _ _ er
      have eo := Su2 _ _ eo
      have eu1 := Su2 _ _ eu1
      have mu2 := PP.ne nu2
      have fu2 : H u2 = none := BB.free mu2.1 mu2.2.1 nu2
      have BB := BB.trans (Same.bt Su2)
      have PP := PP.same Su2
      exact k _ u2 Hu2 fu2 BB (PP.mono (by omega)) eu2 (by simp only [List.length_append, List.length_take, List.length_drop, List.length_cons, List.length_nil]; omega) (((ok.mono (by omega : M ≤ 2 * M + 60))).app (RowsOk.one oZ (Nat.le_trans lZ (by omega))))
    dsimp only [tNext]
    refine ⟨_, rfl, _, rfl, rdList hl (j := i) rfl ez ⟨⟨z, rfl⟩, z, _, rfl, rfl, by decide +kernel, sl (by omega), fun lp nlp => ?_⟩⟩
    have okp0 := splitOk oz
    have tp := tot_split z
    have pp := split_pos z
    generalize Txt.split z (PySem.Str.ofString " ") = ps at okp0 tp pp ⊢
    have lps := len_tot ps
    have okp : RowsOk 600 ps := fun y hy => ⟨okp0 y hy, by have := tot_mem hy; omega⟩
    have ep : (upd H4 lp (.lst (ps.map V.str))) lp = some (.lst (ps.map V.str)) := upd_same
    have Sp_ : Same H4 (upd H4 lp (.lst (ps.map V.str))) := Same.upd nlp
    have mp := PP.ne nlp
    generalize upd H4 lp (.lst (ps.map V.str)) = H5 at ep Sp_
    have hl := Sp_ _ _ hl
    have er := Sp_ _ _ er
    have eo := Sp_ _ _ eo
    have PP := PP.same Sp_
    have BB := BB.trans (Same.bt Sp_)
    have np_ : ((ps.map V.str).length : Int) = (ps.length : Int) := by rw [List.length_map]
    dsimp only [gName, List.set_cons_succ, List.set_cons_zero]
    refine ⟨_, rfl, _, rfl, lp, _, rfl, .inl (SqL.of ep), p, q, r, _, _, rfl, PP, by omega, by omega, by omega, fun d3 H6 b0 b1 B6 PP => ?_⟩
    rw [np_] at b1
    obtain ⟨i2, rfl⟩ : ∃ i2 : Nat, d3 = (i2 : Int) := ⟨d3.toNat, by omega⟩
    obtain ⟨z2, ez2, oz2, lz2⟩ := strs_get (i := i2) (by omega) okp
    have tz2 : z2.length + 1 ≤ tot ps := tot_mem (mem_get ez2)
    have hl := B6 _ _ nl.1 nl.2 hl
    have er := B6 _ _ mar.1 mar.2.1 er
    have eo := B6 _ _ mo.1 mo.2.1 eo
    have ep := B6 _ _ mp.1 mp.2.1 ep
    have BB := BB.trans B6
    have tc := fun j => tot_cut ps j
    have tc0 := tc i2
    have tc1 := tc (i2 + 1)
    have tcd : tot (ps.drop (i2 + 1)) ≤ tot (ps.drop i2) := by
      have := tot_cut (ps.drop i2) 1
      rw [List.drop_drop] at this
      omega
    dsimp only [gName, List.set_cons_succ, List.set_cons_zero]
    refine cut1 (fun σ' H' => ∃ (lx : Addr) (px : List Str), σ' = [some (.ref p), some (.ref l), some (.int wy), some (.int i), some (.ref ar), some (.ref lo), some (.ref lx), some (.int i2)] ∧ (lx ≠ p ∧ lx ≠ q ∧ lx ≠ r) ∧ H' lx = some (.lst (px.map V.str)) ∧ RowsOk 600 px ∧ tot px ≤ 2 * M + 30 ∧
      H' l = some (.lst (rows.map V.str)) ∧ H' ar = some (.lst ((rows.drop (i + 1)).map V.str)) ∧ Bt p q H H' ∧ PotAt H' p q r (n + 5)) ?_ (fun R' fin => ?_)
    · rintro σ' H7 ⟨lx, px, rfl, mx, ex, okx, tx, hl, er, BB, PP⟩
      have c1 : (" " : Str).length = 1 := by decide +kernel
      have oj : okS (Txt.join " " px) := okS_join (by unfold okS; decide +kernel) fun y hy => (okx y hy).1
      have lj : (Txt.join " " px).length ≤ 2 * M + 30 := by
        have h := join_len " " px
        rw [c1, Nat.mul_one] at h
        exact Nat.le_trans h tx
      refine ⟨_, rfl, _, rfl, _, rfl, l, _, rfl, SqL.of hl, fun t1 nt1 => ?_⟩
      rw [cut_take, ← List.map_take]
      have St1 : Same H7 (upd H7 t1 (.lst ((rows.take i).map V.str))) := Same.upd nt1
      have et1 : (upd H7 t1 (.lst ((rows.take i).map V.str))) t1 = some (.lst ((rows.take i).map V.str)) := upd_same
      generalize upd H7 t1 (.lst ((rows.take i).map V.str)) = Ht1 at St1 et1
      have hl := St1 _ _ hl
      have er := St1 _ _ er
      have ex := St1 _ _ ex
      have mt1 := PP.ne nt1
      have ft1 : H t1 = none := BB.free mt1.1 mt1.2.1 nt1
      have BB := BB.trans (Same.bt St1)
      have PP := PP.same St1
      refine ⟨⟨_, rfl⟩, _, rfl, _, lx, px, rfl, rfl, .inl (SqL.of ex), ?_, ?_⟩
      · rw [c1, Nat.mul_one]
        exact Nat.le_trans tx (by omega)
      refine ⟨by show 1 ≤ sizeLine; decide, fun t2 nt2 => ?_⟩
      rw [show upd Ht1 t2 (.lst [.str (Txt.join " " px)]) = upd Ht1 t2 (.lst (([(Txt.join " " px)] : List Str).map V.str)) from rfl]
      have St2 : Same Ht1 (upd Ht1 t2 (.lst (([(Txt.join " " px)] : List Str).map V.str))) := Same.upd nt2
      have et2 : (upd Ht1 t2 (.lst (([(Txt.join " " px)] : List Str).map V.str))) t2 = some (.lst (([(Txt.join " " px)] : List Str).map V.str)) := upd_same
      generalize upd Ht1 t2 (.lst (([(Txt.join " " px)] : List Str).map V.str)) = Ht2 at St2 et2
      have hl := St2 _ _ hl
      have er := St2 _ _ er
      have ex := St2 _ _ ex
      have et1 := St2 _ _ et1
      have mt2 := PP.ne nt2
      have ft2 : H t2 = none := BB.free mt2.1 mt2.2.1 nt2
      have BB := BB.trans (Same.bt St2)
      have PP := PP.same St2
      refine ⟨t1, t2, _, _, rfl, rfl, et1, et2, by simp only [List.length_map, List.length_append, List.length_take, List.length_drop, List.length_cons, List.length_nil]; exact sl (by omega), fun t3 nt3 => ?_⟩
      rw [← List.map_append]
      have St3 : Same Ht2 (upd Ht2 t3 (.lst (((rows.take i) ++ ([(Txt.join " " px)] : List Str)).map V.str))) := Same.upd nt3
      have et3 : (upd Ht2 t3 (.lst (((rows.take i) ++ ([(Txt.join " " px)] : List Str)).map V.str))) t3 = some (.lst (((rows.take i) ++ ([(Txt.join " " px)] : List Str)).map V.str)) := upd_same
      generalize upd Ht2 t3 (.lst (((rows.take i) ++ ([(Txt.join " " px)] : List Str)).map V.str)) = Ht3 at St3 et3
      have hl := St3 _ _ hl
      have er := St3 _ _ er
      have ex := St3 _ _ ex
      have et1 := St3 _ _ et1
      have et2 := St3 _ _ et2
      have mt3 := PP.ne nt3
      have ft3 : H t3 = none := BB.free mt3.1 mt3.2.1 nt3
      have BB := BB.trans (Same.bt St3)
      have PP := PP.same St3
      refine ⟨_, rfl, ?_⟩
      refine ⟨t3, ar, _, _, rfl, rfl, et3, er, by simp only [List.length_map, List.length_append, List.length_take, List.length_drop, List.length_cons, List.length_nil]; exact sl (by omega), fun t4 nt4 => ?_⟩
      rw [← List.map_append]
      have St4 : Same Ht3 (upd Ht3 t4 (.lst ((((rows.take i) ++ ([(Txt.join " " px)] : List Str)) ++ (rows.drop (i + 1))).map V.str))) := Same.upd nt4
      have et4 : (upd Ht3 t4 (.lst ((((rows.take i) ++ ([(Txt.join " " px)] : List Str)) ++ (rows.drop (i + 1))).map V.str))) t4 = some (.lst ((((rows.take i) ++ ([(Txt.join " " px)] : List Str)) ++ (rows.drop (i + 1))).map V.str)) := upd_same
      generalize upd Ht3 t4 (.lst ((((rows.take i) ++ ([(Txt.join " " px)] : List Str)) ++ (rows.drop (i + 1))).map V.str)) = Ht4 at St4 et4
      have hl := St4 _ _ hl
      have er := St4 _ _ er
      have ex := St4 _ _ ex
      have et1 := St4 _ _ et1
      have et2 := St4 _ _ et2
      have et3 := St4 _ _ et3
      have mt4 := PP.ne nt4
      have ft4 : H t4 = none := BB.free mt4.1 mt4.2.1 nt4
      have BB := BB.trans (Same.bt St4)
      have PP := PP.same St4
      exact k _ t4 Ht4 ft4 BB (PP.mono (by omega)) et4 (by simp only [List.length_append, List.length_take, List.length_drop, List.length_cons, List.length_nil]; omega) (((ok.mono (by omega : M ≤ 2 * M + 60)).take.app (RowsOk.one oj (Nat.le_trans lj (by omega)))).app (ok.mono (by omega)).drop)
    · skip
      refine ⟨_, rfl, rfl, _, rfl, ?_⟩
      refine ite2 (fun _ => ?_) (fun _ => ?_)
      · refine ⟨_, rfl, _, rfl, _, rfl, lp, _, rfl, SqL.of ep, fun a1 na1 => ?_⟩
        rw [cut_take, ← List.map_take]
        have Sa1 : Same H6 (upd H6 a1 (.lst ((ps.take i2).map V.str))) := Same.upd na1
        have ea1 : (upd H6 a1 (.lst ((ps.take i2).map V.str))) a1 = some (.lst ((ps.take i2).map V.str)) := upd_same
        generalize upd H6 a1 (.lst ((ps.take i2).map V.str)) = Ha1 at Sa1 ea1
        have hl := Sa1 _ _ hl
        have er := Sa1 _ _ er
        have eo := Sa1 _ _ eo
        have ep := Sa1 _ _ ep
        have ma1 := PP.ne na1
        have fa1 : H a1 = none := BB.free ma1.1 ma1.2.1 na1
        have BB := BB.trans (Same.bt Sa1)
        have PP := PP.same Sa1
        refine ⟨_, rfl, _, rfl, _, _, rfl, rfl, _, rfl, lp, _, rfl, SqL.of ep, fun a2 na2 => ?_⟩
        rw [show ((i2 : Int) + 1) = ((i2 + 1 : Nat) : Int) from rfl, cut_drop, ← List.map_drop]
        have Sa2 : Same Ha1 (upd Ha1 a2 (.lst ((ps.drop (i2 + 1)).map V.str))) := Same.upd na2
        have ea2 : (upd Ha1 a2 (.lst ((ps.drop (i2 + 1)).map V.str))) a2 = some (.lst ((ps.drop (i2 + 1)).map V.str)) := upd_same
        generalize upd Ha1 a2 (.lst ((ps.drop (i2 + 1)).map V.str)) = Ha2 at Sa2 ea2
        have hl := Sa2 _ _ hl
        have er := Sa2 _ _ er
        have eo := Sa2 _ _ eo
        have ep := Sa2 _ _ ep
        have ea1 := Sa2 _ _ ea1
        have ma2 := PP.ne na2
        have fa2 : H a2 = none := BB.free ma2.1 ma2.2.1 na2
        have BB := BB.trans (Same.bt Sa2)
        have PP := PP.same Sa2
        refine ⟨a1, a2, _, _, rfl, rfl, ea1, ea2, by simp only [List.length_map, List.length_append, List.length_take, List.length_drop, List.length_cons, List.length_nil]; exact sl (by omega), fun a3 na3 => ?_⟩
        rw [← List.map_append]
        have Sa3 : Same Ha2 (upd Ha2 a3 (.lst (((ps.take i2) ++ (ps.drop (i2 + 1))).map V.str))) := Same.upd na3
        have ea3 : (upd Ha2 a3 (.lst (((ps.take i2) ++ (ps.drop (i2 + 1))).map V.str))) a3 = some (.lst (((ps.take i2) ++ (ps.drop (i2 + 1))).map V.str)) := upd_same
        generalize upd Ha2 a3 (.lst (((ps.take i2) ++ (ps.drop (i2 + 1))).map V.str)) = Ha3 at Sa3 ea3
        have hl := Sa3 _ _ hl
        have er := Sa3 _ _ er
        have eo := Sa3 _ _ eo
        have ep := Sa3 _ _ ep
        have ea1 := Sa3 _ _ ea1
        have ea2 := Sa3 _ _ ea2
        have ma3 := PP.ne na3
        have fa3 : H a3 = none := BB.free ma3.1 ma3.2.1 na3
        have BB := BB.trans (Same.bt Sa3)
        have PP := PP.same Sa3
        dsimp only [gName, List.set_cons_succ, List.set_cons_zero]
        exact fin _ _ ⟨a3, ((ps.take i2) ++ (ps.drop (i2 + 1))), rfl, ma3, ea3, (okp.take.app okp.drop), (by rw [tot_app]; omega), hl, er, BB, PP.mono (by omega)⟩
      · refine ⟨_, rfl, rfl, _, rfl, ?_⟩
        refine ite2 (fun _ => ?_) (fun _ => ?_)
        · refine ⟨_, rfl, _, rfl, _, rfl, lp, _, rfl, SqL.of ep, fun b1 nb1 => ?_⟩
          rw [cut_take, ← List.map_take]
          have Sb1 : Same H6 (upd H6 b1 (.lst ((ps.take i2).map V.str))) := Same.upd nb1
          have eb1 : (upd H6 b1 (.lst ((ps.take i2).map V.str))) b1 = some (.lst ((ps.take i2).map V.str)) := upd_same
          generalize upd H6 b1 (.lst ((ps.take i2).map V.str)) = Hb1 at Sb1 eb1
          have hl := Sb1 _ _ hl
          have er := Sb1 _ _ er
          have eo := Sb1 _ _ eo
          have ep := Sb1 _ _ ep
          have mb1 := PP.ne nb1
          have fb1 : H b1 = none := BB.free mb1.1 mb1.2.1 nb1
          have BB := BB.trans (Same.bt Sb1)
          have PP := PP.same Sb1
          refine ⟨_, rfl, _, rfl, rdList ep (j := i2) rfl ez2 ?_⟩
          refine ⟨by show 1 ≤ sizeLine; decide, fun b2 nb2 => ?_⟩
          rw [show upd Hb1 b2 (.lst [.str z2]) = upd Hb1 b2 (.lst (([z2] : List Str).map V.str)) from rfl]
          have Sb2 : Same Hb1 (upd Hb1 b2 (.lst (([z2] : List Str).map V.str))) := Same.upd nb2
          have eb2 : (upd Hb1 b2 (.lst (([z2] : List Str).map V.str))) b2 = some (.lst (([z2] : List Str).map V.str)) := upd_same
          generalize upd Hb1 b2 (.lst (([z2] : List Str).map V.str)) = Hb2 at Sb2 eb2
          have hl := Sb2 _ _ hl
          have er := Sb2 _ _ er
          have eo := Sb2 _ _ eo
          have ep := Sb2 _ _ ep
          have eb1 := Sb2 _ _ eb1
          have mb2 := PP.ne nb2
          have fb2 : H b2 = none := BB.free mb2.1 mb2.2.1 nb2
          have BB := BB.trans (Same.bt Sb2)
          have PP := PP.same Sb2
          refine ⟨b1, b2, _, _, rfl, rfl, eb1, eb2, by simp only [List.length_map, List.length_append, List.length_take, List.length_drop, List.length_cons, List.length_nil]; exact sl (by omega), fun b3 nb3 => ?_⟩
          rw [← List.map_append]
          have Sb3 : Same Hb2 (upd Hb2 b3 (.lst (((ps.take i2) ++ ([z2] : List Str)).map V.str))) := Same.upd nb3
          have eb3 : (upd Hb2 b3 (.lst (((ps.take i2) ++ ([z2] : List Str)).map V.str))) b3 = some (.lst (((ps.take i2) ++ ([z2] : List Str)).map V.str)) := upd_same
          generalize upd Hb2 b3 (.lst (((ps.take i2) ++ ([z2] : List Str)).map V.str)) = Hb3 at Sb3 eb3
          have hl := Sb3 _ _ hl
          have er := Sb3 _ _ er
          have eo := Sb3 _ _ eo
          have ep := Sb3 _ _ ep
          have eb1 := Sb3 _ _ eb1
          have eb2 := Sb3 _ _ eb2
          have mb3 := PP.ne nb3
          have fb3 : H b3 = none := BB.free mb3.1 mb3.2.1 nb3
          have BB := BB.trans (Same.bt Sb3)
          have PP := PP.same Sb3
          refine ⟨_, rfl, _, rfl, _, rfl, lp, _, rfl, SqL.of ep, fun b4 nb4 => ?_⟩
          rw [cut_drop, ← List.map_drop]
          have Sb4 : Same Hb3 (upd Hb3 b4 (.lst ((ps.drop i2).map V.str))) := Same.upd nb4
          have eb4 : (upd Hb3 b4 (.lst ((ps.drop i2).map V.str))) b4 = some (.lst ((ps.drop i2).map V.str)) := upd_same
          generalize upd Hb3 b4 (.lst ((ps.drop i2).map V.str)) = Hb4 at Sb4 eb4
          have hl := Sb4 _ _ hl
          have er := Sb4 _ _ er
          have eo := Sb4 _ _ eo
          have ep := Sb4 _ _ ep
          have eb1 := Sb4 _ _ eb1
          have eb2 := Sb4 _ _ eb2
          have eb3 := Sb4 _ _ eb3
          have mb4 := PP.ne nb4
          have fb4 : H b4 = none := BB.free mb4.1 mb4.2.1 nb4
          have BB := BB.trans (Same.bt Sb4)
          have PP := PP.same Sb4
          refine ⟨b3, b4, _, _, rfl, rfl, eb3, eb4, by simp only [List.length_map, List.length_append, List.length_take, List.length_drop, List.length_cons, List.length_nil]; exact sl (by omega), fun b5 nb5 => ?_⟩
          rw [← List.map_append]
          have Sb5 : Same Hb4 (upd Hb4 b5 (.lst ((((ps.take i2) ++ ([z2] : List Str)) ++ (ps.drop i2)).map V.str))) := Same.upd nb5
          have eb5 : (upd Hb4 b5 (.lst ((((ps.take i2) ++ ([z2] : List Str)) ++ (ps.drop i2)).map V.str))) b5 = some (.lst ((((ps.take i2) ++ ([z2] : List Str)) ++ (ps.drop i2)).map V.str)) := upd_same
          generalize upd Hb4 b5 (.lst ((((ps.take i2) ++ ([z2] : List Str)) ++ (ps.drop i2)).map V.str)) = Hb5 at Sb5 eb5
          have hl := Sb5 _ _ hl
          have er := Sb5 _ _ er
          have eo := Sb5 _ _ eo
          have ep := Sb5 _ _ ep
          have eb1 := Sb5 _ _ eb1
          have eb2 := Sb5 _ _ eb2
          have eb3 := Sb5 _ _ eb3
          have eb4 := Sb5 _ _ eb4
          have mb5 := PP.ne nb5
          have fb5 : H b5 = none := BB.free mb5.1 mb5.2.1 nb5
          have BB := BB.trans (Same.bt Sb5)
          have PP := PP.same Sb5
          dsimp only [gName, List.set_cons_succ, List.set_cons_zero]
          exact fin _ _ ⟨b5, (((ps.take i2) ++ ([z2] : List Str)) ++ (ps.drop i2)), rfl, mb5, eb5, ((okp.take.app (RowsOk.one oz2 lz2)).app okp.drop), (by rw [tot_app, tot_app, tot_one]; omega), hl, er, BB, PP.mono (by omega)⟩
        · refine ⟨_, rfl, rfl, _, rfl, ?_⟩
          refine ite2 (fun _ => ?_) (fun _ => ?_)
          · refine ⟨_, rfl, _, rfl, _, rfl, lp, _, rfl, SqL.of ep, fun c1 nc1 => ?_⟩
            rw [cut_take, ← List.map_take]
            have Sc1 : Same H6 (upd H6 c1 (.lst ((ps.take i2).map V.str))) := Same.upd nc1
            have ec1 : (upd H6 c1 (.lst ((ps.take i2).map V.str))) c1 = some (.lst ((ps.take i2).map V.str)) := upd_same
            generalize upd H6 c1 (.lst ((ps.take i2).map V.str)) = Hc1 at Sc1 ec1
            have hl := Sc1 _ _ hl
            have er := Sc1 _ _ er
            have eo := Sc1 _ _ eo
            have ep := Sc1 _ _ ep
            have mc1 := PP.ne nc1
            have fc1 : H c1 = none := BB.free mc1.1 mc1.2.1 nc1
            have BB := BB.trans (Same.bt Sc1)
            have PP := PP.same Sc1
            refine ⟨_, rfl, ?_⟩
            refine ⟨_, rfl, _, rfl, lp, _, rfl, .inl (SqL.of ep), p, q, r, _, _, rfl, PP, by omega, by omega, by omega, fun d Hd d0 d1 Bd PP => ?_⟩
            have hl := Bd _ _ nl.1 nl.2 hl
            have er := Bd _ _ mar.1 mar.2.1 er
            have eo := Bd _ _ mo.1 mo.2.1 eo
            have ep := Bd _ _ mp.1 mp.2.1 ep
            have ec1 := Bd _ _ mc1.1 mc1.2.1 ec1
            have BB := BB.trans Bd
            rw [np_] at d1
            obtain ⟨j, rfl⟩ : ∃ j : Nat, d = (j : Int) := ⟨d.toNat, by omega⟩
            obtain ⟨zo, ezo, ozo, lzo⟩ := strs_get (i := j) (zs := ps) (by omega) okp
            have tzo : zo.length + 1 ≤ tot ps := tot_mem (mem_get ezo)
            refine rdList ep (j := j) rfl ezo ?_
            refine ⟨by show 1 ≤ sizeLine; decide, fun c2 nc2 => ?_⟩
            rw [show upd Hd c2 (.lst [.str zo]) = upd Hd c2 (.lst (([zo] : List Str).map V.str)) from rfl]
            have Sc2 : Same Hd (upd Hd c2 (.lst (([zo] : List Str).map V.str))) := Same.upd nc2
            have ec2 : (upd Hd c2 (.lst (([zo] : List Str).map V.str))) c2 = some (.lst (([zo] : List Str).map V.str)) := upd_same
            generalize upd Hd c2 (.lst (([zo] : List Str).map V.str)) = Hc2 at Sc2 ec2
            have hl := Sc2 _ _ hl
            have er := Sc2 _ _ er
            have eo := Sc2 _ _ eo
            have ep := Sc2 _ _ ep
            have ec1 := Sc2 _ _ ec1
            have mc2 := PP.ne nc2
            have fc2 : H c2 = none := BB.free mc2.1 mc2.2.1 nc2
            have BB := BB.trans (Same.bt Sc2)
            have PP := PP.same Sc2
            refine ⟨c1, c2, _, _, rfl, rfl, ec1, ec2, by simp only [List.length_map, List.length_append, List.length_take, List.length_drop, List.length_cons, List.length_nil]; exact sl (by omega), fun c3 nc3 => ?_⟩
            rw [← List.map_append]
            have Sc3 : Same Hc2 (upd Hc2 c3 (.lst (((ps.take i2) ++ ([zo] : List Str)).map V.str))) := Same.upd nc3
            have ec3 : (upd Hc2 c3 (.lst (((ps.take i2) ++ ([zo] : List Str)).map V.str))) c3 = some (.lst (((ps.take i2) ++ ([zo] : List Str)).map V.str)) := upd_same
            generalize upd Hc2 c3 (.lst (((ps.take i2) ++ ([zo] : List Str)).map V.str)) = Hc3 at Sc3 ec3
            have hl := Sc3 _ _ hl
            have er := Sc3 _ _ er
            have eo := Sc3 _ _ eo
            have ep := Sc3 _ _ ep
            have ec1 := Sc3 _ _ ec1
            have ec2 := Sc3 _ _ ec2
            have mc3 := PP.ne nc3
            have fc3 : H c3 = none := BB.free mc3.1 mc3.2.1 nc3
            have BB := BB.trans (Same.bt Sc3)
            have PP := PP.same Sc3
            refine ⟨_, rfl, _, rfl, _, _, rfl, rfl, _, rfl, lp, _, rfl, SqL.of ep, fun c4 nc4 => ?_⟩
            rw [show ((i2 : Int) + 1) = ((i2 + 1 : Nat) : Int) from rfl, cut_drop, ← List.map_drop]
            have Sc4 : Same Hc3 (upd Hc3 c4 (.lst ((ps.drop (i2 + 1)).map V.str))) := Same.upd nc4
            have ec4 : (upd Hc3 c4 (.lst ((ps.drop (i2 + 1)).map V.str))) c4 = some (.lst ((ps.drop (i2 + 1)).map V.str)) := upd_same
            generalize upd Hc3 c4 (.lst ((ps.drop (i2 + 1)).map V.str)) = Hc4 at Sc4 ec4
            have hl := Sc4 _ _ hl
            have er := Sc4 _ _ er
            have eo := Sc4 _ _ eo
            have ep := Sc4 _ _ ep
            have ec1 := Sc4 _ _ ec1
            have ec2 := Sc4 _ _ ec2
            have ec3 := Sc4 _ _ ec3
            have mc4 := PP.ne nc4
            have fc4 : H c4 = none := BB.free mc4.1 mc4.2.1 nc4
            have BB := BB.trans (Same.bt Sc4)
            have PP := PP.same Sc4
            refine ⟨c3, c4, _, _, rfl, rfl, ec3, ec4, by simp only [List.length_map, List.length_append, List.length_take, List.length_drop, List.length_cons, List.length_nil]; exact sl (by omega), fun c5 nc5 => ?_⟩
            rw [← List.map_append]
            have Sc5 : Same Hc4 (upd Hc4 c5 (.lst ((((ps.take i2) ++ ([zo] : List Str)) ++ (ps.drop (i2 + 1))).map V.str))) := Same.upd nc5
            have ec5 : (upd Hc4 c5 (.lst ((((ps.take i2) ++ ([zo] : List Str)) ++ (ps.drop (i2 + 1))).map V.str))) c5 = some (.lst ((((ps.take i2) ++ ([zo] : List Str)) ++ (ps.drop (i2 + 1))).map V.str)) := upd_same
            generalize upd Hc4 c5 (.lst ((((ps.take i2) ++ ([zo] : List Str)) ++ (ps.drop (i2 + 1))).map V.str)) = Hc5 at Sc5 ec5
            have hl := Sc5 _ _ hl
            have er := Sc5 _ _ er
            have eo := Sc5 _ _ eo
            have ep := Sc5 _ _ ep
            have ec1 := Sc5 _ _ ec1
            have ec2 := Sc5 _ _ ec2
            have ec3 := Sc5 _ _ ec3
            have ec4 := Sc5 _ _ ec4
            have mc5 := PP.ne nc5
            have fc5 : H c5 = none := BB.free mc5.1 mc5.2.1 nc5
            have BB := BB.trans (Same.bt Sc5)
            have PP := PP.same Sc5
            dsimp only [gName, List.set_cons_succ, List.set_cons_zero]
            exact fin _ _ ⟨c5, (((ps.take i2) ++ ([zo] : List Str)) ++ (ps.drop (i2 + 1))), rfl, mc5, ec5, ((okp.take.app (RowsOk.one ozo lzo)).app okp.drop), (by rw [tot_app, tot_app, tot_one]; omega), hl, er, BB, PP.mono (by omega)⟩
          · refine ⟨_, rfl, rfl, _, rfl, ?_⟩
            refine ite2 (fun _ => ?_) (fun _ => ?_)
            · refine ⟨_, rfl, _, rfl, _, rfl, lp, _, rfl, SqL.of ep, fun qq1 nqq1 => ?_⟩
              rw [cut_take, ← List.map_take]
              have Sqq1 : Same H6 (upd H6 qq1 (.lst ((ps.take i2).map V.str))) := Same.upd nqq1
              have eqq1 : (upd H6 qq1 (.lst ((ps.take i2).map V.str))) qq1 = some (.lst ((ps.take i2).map V.str)) := upd_same
              generalize upd H6 qq1 (.lst ((ps.take i2).map V.str)) = Hqq1 at Sqq1 eqq1
              have hl := Sqq1 _ _ hl
              have er := Sqq1 _ _ er
              have eo := Sqq1 _ _ eo
              have ep := Sqq1 _ _ ep
              have mqq1 := PP.ne nqq1
              have fqq1 : H qq1 = none := BB.free mqq1.1 mqq1.2.1 nqq1
              have BB := BB.trans (Same.bt Sqq1)
              have PP := PP.same Sqq1
              refine ⟨_, rfl, ?_⟩
              refine ⟨_, rfl, p, q, r, _, 16, rfl, PP, by omega, by omega, by omega, fun d Hd d0 d1 Bd PP => ?_⟩
              have hl := Bd _ _ nl.1 nl.2 hl
              have er := Bd _ _ mar.1 mar.2.1 er
              have eo := Bd _ _ mo.1 mo.2.1 eo
              have ep := Bd _ _ mp.1 mp.2.1 ep
              have eqq1 := Bd _ _ mqq1.1 mqq1.2.1 eqq1
              have BB := BB.trans Bd
              obtain ⟨j, rfl⟩ : ∃ j : Nat, d = (j : Int) := ⟨d.toNat, by omega⟩
              obtain ⟨zo, ezo, ozo, lzo⟩ := strs_get (i := j) (zs := oddL) (by show j < 16; omega) odd_ok
              refine rdList eo (j := j) rfl ezo ?_
              refine ⟨by show 1 ≤ sizeLine; decide, fun qq2 nqq2 => ?_⟩
              rw [show upd Hd qq2 (.lst [.str zo]) = upd Hd qq2 (.lst (([zo] : List Str).map V.str)) from rfl]
              have Sqq2 : Same Hd (upd Hd qq2 (.lst (([zo] : List Str).map V.str))) := Same.upd nqq2
              have eqq2 : (upd Hd qq2 (.lst (([zo] : List Str).map V.str))) qq2 = some (.lst (([zo] : List Str).map V.str)) := upd_same
              generalize upd Hd qq2 (.lst (([zo] : List Str).map V.str)) = Hqq2 at Sqq2 eqq2
              have hl := Sqq2 _ _ hl
              have er := Sqq2 _ _ er
              have eo := Sqq2 _ _ eo
              have ep := Sqq2 _ _ ep
              have eqq1 := Sqq2 _ _ eqq1
              have mqq2 := PP.ne nqq2
              have fqq2 : H qq2 = none := BB.free mqq2.1 mqq2.2.1 nqq2
              have BB := BB.trans (Same.bt Sqq2)
              have PP := PP.same Sqq2
              refine ⟨qq1, qq2, _, _, rfl, rfl, eqq1, eqq2, by simp only [List.length_map, List.length_append, List.length_take, List.length_drop, List.length_cons, List.length_nil]; exact sl (by omega), fun qq3 nqq3 => ?_⟩
              rw [← List.map_append]
              have Sqq3 : Same Hqq2 (upd Hqq2 qq3 (.lst (((ps.take i2) ++ ([zo] : List Str)).map V.str))) := Same.upd nqq3
              have eqq3 : (upd Hqq2 qq3 (.lst (((ps.take i2) ++ ([zo] : List Str)).map V.str))) qq3 = some (.lst (((ps.take i2) ++ ([zo] : List Str)).map V.str)) := upd_same
              generalize upd Hqq2 qq3 (.lst (((ps.take i2) ++ ([zo] : List Str)).map V.str)) = Hqq3 at Sqq3 eqq3
              have hl := Sqq3 _ _ hl
              have er := Sqq3 _ _ er
              have eo := Sqq3 _ _ eo
              have ep := Sqq3 _ _ ep
              have eqq1 := Sqq3 _ _ eqq1
              have eqq2 := Sqq3 _ _ eqq2
              have mqq3 := PP.ne nqq3
              have fqq3 : H qq3 = none := BB.free mqq3.1 mqq3.2.1 nqq3
              have BB := BB.trans (Same.bt Sqq3)
              have PP := PP.same Sqq3
              refine ⟨_, rfl, _, rfl, _, _, rfl, rfl, _, rfl, lp, _, rfl, SqL.of ep, fun qq4 nqq4 => ?_⟩
              rw [show ((i2 : Int) + 1) = ((i2 + 1 : Nat) : Int) from rfl, cut_drop, ← List.map_drop]
              have Sqq4 : Same Hqq3 (upd Hqq3 qq4 (.lst ((ps.drop (i2 + 1)).map V.str))) := Same.upd nqq4
              have eqq4 : (upd Hqq3 qq4 (.lst ((ps.drop (i2 + 1)).map V.str))) qq4 = some (.lst ((ps.drop (i2 + 1)).map V.str)) := upd_same
              generalize upd Hqq3 qq4 (.lst ((ps.drop (i2 + 1)).map V.str)) = Hqq4 at Sqq4 eqq4
              have hl := Sqq4 _ _ hl
              have er := Sqq4 _ _ er
              have eo := Sqq4 _ _ eo
              have ep := Sqq4 _ _ ep
              have eqq1 := Sqq4 _ _ eqq1
              have eqq2 := Sqq4 _ _ eqq2
              have eqq3 := Sqq4 _ _ eqq3
              have mqq4 := PP.ne nqq4
              have fqq4 : H qq4 = none := BB.free mqq4.1 mqq4.2.1 nqq4
              have BB := BB.trans (Same.bt Sqq4)
              have PP := PP.same Sqq4
              refine ⟨qq3, qq4, _, _, rfl, rfl, eqq3, eqq4, by simp only [List.length_map, List.length_append, List.length_take, List.length_drop, List.length_cons, List.length_nil]; exact sl (by omega), fun qq5 nqq5 => ?_⟩
              rw [← List.map_append]
              have Sqq5 : Same Hqq4 (upd Hqq4 qq5 (.lst ((((ps.take i2) ++ ([zo] : List Str)) ++ (ps.drop (i2 + 1))).map V.str))) := Same.upd nqq5
              have eqq5 : (upd Hqq4 qq5 (.lst ((((ps.take i2) ++ ([zo] : List Str)) ++ (ps.drop (i2 + 1))).map V.str))) qq5 = some (.lst ((((ps.take i2) ++ ([zo] : List Str)) ++ (ps.drop (i2 + 1))).map V.str)) := upd_same
              generalize upd Hqq4 qq5 (.lst ((((ps.take i2) ++ ([zo] : List Str)) ++ (ps.drop (i2 + 1))).map V.str)) = Hqq5 at Sqq5 eqq5
              have hl := Sqq5 _ _ hl
              have er := Sqq5 _ _ er
              have eo := Sqq5 _ _ eo
              have ep := Sqq5 _ _ ep
              have eqq1 := Sqq5 _ _ eqq1
              have eqq2 := Sqq5 _ _ eqq2
              have eqq3 := Sqq5 _ _ eqq3
              have eqq4 := Sqq5 _ _ eqq4
              have mqq5 := PP.ne nqq5
              have fqq5 : H qq5 = none := BB.free mqq5.1 mqq5.2.1 nqq5
              have BB := BB.trans (Same.bt Sqq5)
              have PP := PP.same Sqq5
              dsimp only [gName, List.set_cons_succ, List.set_cons_zero]
              exact fin _ _ ⟨qq5, (((ps.take i2) ++ ([zo] : List Str)) ++ (ps.drop (i2 + 1))), rfl, mqq5, eqq5, ((okp.take.app (RowsOk.one ozo (Nat.le_trans lzo (by omega)))).app okp.drop), (by rw [tot_app, tot_app, tot_one]; omega), hl, er, BB, PP.mono (by omega)⟩
            · exact fin _ _ ⟨lp, ps, rfl, mp, ep, okp, (by omega), hl, er, BB, PP.mono (by omega)⟩
end
end Wm
namespace Wm
open PySem L2 StX
def spFor : Sp := fun vs H Q _ => ∃ (lr : Addr) (rows : List Str), vs = [.ref lr] ∧ H lr = some (.lst (rows.map V.str)) ∧ rows.length ≤ 500 ∧ RowsOk 900 rows ∧ match badAt rows with
  | some i => ∀ H', Same H H' → Q (.int i) H'
  | none => ∀ l H' qs, H l = none → Same H H' → H' l = some (.lst (qs.map V.ref)) → LsAt H' qs (rows.map pts) → Q (.ref l) H'
def roT : Ro → List V
  | .bad n => [.str "badrow", .int n]
  | .nn z => [.str "noname", .str z]
  | .tk z => [.str "taken", .str z]
  | .ns z => [.str "nosort", .str z]
  | .fu => [.str "full"]
  | .nt z => [.str "nothing", .str z]
  | .nw z => [.str "noword", .str z]
def Tld (o : Option Ro) (H : Hp) (Q : VK) : Prop := match o with
  | none => ∀ H', Same H H' → Q .non H'
  | some r => ∀ t H', H t = none → Same H H' → H' t = some (.tup (roT r)) → Q (.ref t) H'
def spThd : Sp := fun vs H Q _ => ∃ (n so : Str) (d lS : Addr) (ss : List Str) (th : List Thing) (kvs : List (L2.Key × V)), vs = [.str n, .str so, .ref d, .ref lS] ∧ H d = some (.dK kvs) ∧ kvs.map (·.1) = (nmL th).map Sum.inr ∧ H lS = some (.lst (ss.map V.str)) ∧ n.length ≤ 1000 ∧ th.length ≤ 60 ∧
  Tld ((entD ss th n so).map roR) H Q
def spHod : Sp := fun vs H Q _ => ∃ (x wd y : Str) (d lW : Addr) (ws : List Str) (th : List Thing) (kvs : List (L2.Key × V)), vs = [.str x, .str wd, .str y, .ref d, .ref lW] ∧ H d = some (.dK kvs) ∧ kvs.map (·.1) = (nmL th).map Sum.inr ∧ H lW = some (.lst (ws.map V.str)) ∧
  Tld (unkR ws (nmL th) x wd y) H Q
theorem keys_is {kvs : List (L2.Key × V)} {th : List Thing} (h : kvs.map (·.1) = (nmL th).map Sum.inr) (n : Str) : (valV kvs (Sum.inr n)).isSome = decide (n ∈ nmL th) := by
  rw [val_is, h]
  exact decide_eq_decide.mpr inr_mem
section
variable {P : Program} {w : World} {K : PySem.W.Frag} {mg : Str → Option Value} {base : Heap}
theorem scLnm : FnScope ["_law_text", "_law_letters", "_law_sign"] ["_law_text"] (defScope sLnm) := ⟨rfl, rfl, rfl, by decide +kernel, rfl, by decide +kernel, by decide +kernel⟩
theorem ok_lnm {f : Addr} {fd : FuncData} (F : Fun K "_law_is_name" "_law_is_name" sLnm f fd) (T : TxB mg) : FnOk P w K mg base CX0 1 f fd ["_law_text"] spName := by
  refine F.ok scLnm (fun vs H Q E h => ?_) (fun cdv A outer s H vs Q E hr h => ?_)
  · obtain ⟨z, rfl, _⟩ := h
    rfl
  · obtain ⟨z, rfl, hz, k⟩ := h
    have hzl : z.length ≤ sizeLine := Nat.le_trans hz (by decide)
    refine ⟨_, (pss_cons (ps_set (i := 1) scLnm.nd rfl (Or.inr rfl) pe_str)
      (pss_cons (ps_if (PW.pt (pw_or (pt_not (pt_chain op_le op_le pe_int (pe_callB call_len_str (by rfl) T.len (by decide +kernel) (pa_cons (pv 0) pa_nil)) pe_int)) (pw_or1 (pt_cmpR op_notIn_sign (pe_ix ix_str (pv 0) pe_int (fun _ _ => rfl)) (pv 1) (by rfl))))) (pss_one (ps_ret pe_bl)) pss_nil)
      (pss_one (ps_ret (pe_callB (cr_all rfl) (by rfl) T.all (by decide +kernel) (pa_cons (pe_lc (own := [("_law_sign", 2)]) (g := gName 2) rfl scLnm.nd (pi_str (pv 0)) (blkOk_by (N := ["_law_text", "_law_letters", "_law_sign"]) (sc := defScope sLnm) (by decide +kernel)) (fun _ _ _ _ _ => pg_name (i := 2) scLnm.nd rfl (Or.inl rfl)) (fun _ _ _ _ _ => pts_nil) (fun _ _ _ _ _ => (pe_cmpR op_in_sign (pv 2) (pe_op op_add_str (pv 1) pe_str) (by rfl)))) pa_nil)))))), ?_⟩
    rw [show L2.start ["_law_text", "_law_letters", "_law_sign"] [V.str z] = [some (.str z), none, none] from rfl]
    have q0 := k H (Same.refl H)
    have abc : ("abcdefghijklmnopqrstuvwxyz" ++ "0123456789" : Str) = "abcdefghijklmnopqrstuvwxyz0123456789" := by decide +kernel
    have la : ("abcdefghijklmnopqrstuvwxyz" : Str).length + ("0123456789" : Str).length ≤ sizeLine := by decide
    refine ⟨_, rfl, z, rfl, hzl, _, _, rfl, rfl, _, rfl, ?_⟩
    refine ite2 (fun h1 => ?_) (fun h1 => ?_)
    · have h1' : ¬ z.length < 1 := fun x => by
        have := of_decide_eq_true h1
        omega
      refine ⟨_, _, rfl, rfl, _, rfl, ?_⟩
      by_cases h2 : (z.length : Int) ≤ 12
      · rw [decide_eq_true h2]
        refine iteF ?_
        have h2' : ¬ 12 < z.length := by omega
        refine ⟨_, rfl, ?_⟩
        dsimp only [tC]
        refine rdItem (n := z.length) rfl (by decide) (by omega) (by omega) fun c hc => ?_
        refine ⟨_, rfl, c, _, rfl, rfl, _, rfl, ?_⟩
        refine ite2 (fun h3 => ?_) (fun h3 => ?_)
        · have h3' : ¬ c ∈ LET := fun x => by
            rw [show decide (c ∈ (PySem.Str.ofString "abcdefghijklmnopqrstuvwxyz").cps.toList) = true from decide_eq_true x] at h3
            cases h3
          rw [isNm_first hc h3'] at q0
          exact q0
        have h3' : c ∈ LET := by
          by_cases x : c ∈ LET
          · exact x
          · rw [show decide (c ∈ (PySem.Str.ofString "abcdefghijklmnopqrstuvwxyz").cps.toList) = false from decide_eq_false x] at h3
            exact absurd rfl h3
        refine ⟨_, rfl, z, rfl, fun D hD => ?_⟩
        refine lc_signs (z := z) (f := okc) hz hD (fun c H Q q => ?_) fun H' hS hl => ?_
        · refine q _ rfl fun Q2 q2 => ?_
          refine ⟨_, rfl, _, rfl, _, _, rfl, rfl, la, c, _, rfl, rfl, ?_⟩
          rw [abc, okc_alnum]
          exact q2
        · refine ⟨D, _, rfl, SqL.of hl, ?_⟩
          have q := k H' hS
          rw [isNm_all h1' h2' hc h3', ← all_map] at q
          exact q
      · rw [decide_eq_false h2]
        refine iteT ?_
        rw [isNm_small (.inr (by omega))] at q0
        exact q0
    · have h1' : z.length < 1 := by
        by_cases x : z.length < 1
        · exact x
        · exact absurd (decide_eq_true (show (1 : Int) ≤ (z.length : Int) by omega)) h1
      refine ⟨_, rfl, ?_⟩
      refine iteT ?_
      rw [isNm_small (.inl h1')] at q0
      exact q0
theorem scFor : FnScope ["_law_rows", "_law_found_here", "_law_at", "_law_parts", "_law_good"] ["_law_rows"] (defScope sFor) := ⟨rfl, rfl, rfl, by decide +kernel, rfl, by decide +kernel, by decide +kernel⟩
theorem ok_for {f : Addr} {fd : FuncData} (F : Fun K "_law_formed" "_law_formed" sFor f fd) (T : TxB mg) : FnOk P w K mg base CX0 1 f fd ["_law_rows"] spFor := by
  refine F.ok scFor (fun vs H Q E h => ?_) (fun cdv A outer s H vs Q E hr h => ?_)
  · obtain ⟨lr, rows, rfl, _⟩ := h
    rfl
  · obtain ⟨lr, rows, rfl, hlr, hln, ok, k⟩ := h
    refine ⟨_, (pss_cons (ps_set (i := 1) scFor.nd rfl (Or.inl rfl) (pe_lst pa_nil))
      (pss_cons (ps_for PassesOwn.never rfl (pi_range1 rfl T.range (pa_cons (pe_callB call_len_seq (by rfl) T.len (by decide +kernel) (pa_cons (pv 0) pa_nil)) pa_nil)) (pg_name (i := 2) scFor.nd rfl (Or.inl rfl)) (pss_cons (ps_set (i := 3) scFor.nd rfl (Or.inl rfl) (pe_split (pe_ix ix_list (pv 0) (pv 2) (fun _ _ => rfl)) pe_str))
      (pss_cons (ps_set (i := 4) scFor.nd rfl (Or.inl rfl) (pe_and (pe_cmpR op_eq (pe_callB call_len_seq (by rfl) T.len (by decide +kernel) (pa_cons (pv 3) pa_nil)) pe_int (nomark _)) (pe_one (pe_cmpR op_notIn_seq pe_str (pv 3) (by rfl)))))
      (pss_cons (ps_if (PW.pt (pw_or (pt_not (pt_val (pv 4))) (pw_or1 (pt_cmpR op_notIn_seq (pe_ix ix_list (pv 3) pe_int (fun _ _ => rfl)) (pe_tup (pa_cons pe_str (pa_cons pe_str pa_nil))) (by rfl))))) (pss_one (ps_ret (pv 2))) pss_nil)
      (pss_cons (ps_if (PW.pt (pw_and (pt_cmpR op_eq (pe_ix ix_list (pv 3) pe_int (fun _ _ => rfl)) pe_str (nomark _)) (pw_and1 (pt_cmpR op_notIn_seq (pe_ix ix_list (pv 3) pe_int (fun _ _ => rfl)) (pe_tup (pa_cons pe_str (pa_cons pe_str pa_nil))) (by rfl))))) (pss_one (ps_ret (pv 2))) pss_nil)
      (pss_one (ps_expr (pe_bm PySem.F.plainAttrs_list PySem.F.slot_list_append PySem.F.type_list_append mt_append (pv 1) (pa_cons (pv 3) pa_nil)))))))))
      (pss_one (ps_ret (pv 1))))), ?_⟩
    rw [show L2.start ["_law_rows", "_law_found_here", "_law_at", "_law_parts", "_law_good"] [V.ref lr] = [some (.ref lr), none, none, none, none] from rfl]
    have nr_ : ((rows.map V.str).length : Int) = (rows.length : Int) := by rw [List.length_map]
    refine ⟨Nat.zero_le _, fun lf hlf => ?_⟩
    have S0 : Same H (upd H lf (.lst [])) := Same.upd hlf
    have e0 : (upd H lf (.lst [])) lf = some (.lst (([] : List Addr).map V.ref)) := upd_same
    generalize upd H lf (.lst []) = H0 at S0 e0
    dsimp only [gName, List.set_cons_succ, List.set_cons_zero]
    refine ⟨_, rfl, lr, _, rfl, .inl (SqL.of (S0 _ _ hlr)), _, rfl, by omega, by omega, ?_⟩
    rw [nr_, Int.toNat_natCast]
    refine for_range (n := rows.length) (fun i σ' H' => ∃ (u2 u3 u4 : Option V) (qs : List Addr), σ' = [some (.ref lr), some (.ref lf), u2, u3, u4] ∧ Same H H' ∧ (∀ j x, j < i → rows[j]? = some x → fmd (pts x) = true) ∧ H' lf = some (.lst (qs.map V.ref)) ∧ LsAt H' qs ((rows.take i).map pts) ∧ ∀ q ∈ qs, q ≠ lf)
      ⟨none, none, none, [], rfl, S0, fun j x h => absurd h (Nat.not_lt_zero j), e0, True.intro, fun q h => (List.not_mem_nil h).elim⟩ ?_ ?_
    · rintro i σ' H1 hi ⟨u2, u3, u4, qs, rfl, S1, good, e1, la, nq⟩
      have hr' := List.getElem?_eq_getElem hi
      generalize rows[i] = r at hr'
      have ob := ok r (List.mem_of_getElem? hr')
      dsimp only [gName, List.set_cons_succ, List.set_cons_zero]
      refine ⟨_, rfl, _, rfl, rdList (S1 _ _ hlr) (j := i) (by omega) (show (rows.map V.str)[i]? = some (.str r) by rw [List.getElem?_map, hr']; rfl) ⟨⟨r, rfl⟩, r, _, rfl, rfl, by decide +kernel, Nat.le_trans (show r.length + 2 ≤ 1000 by have := ob.2; omega) (by decide), fun lp nlp => ?_⟩⟩
      have ep : (upd H1 lp (.lst ((Txt.split r (PySem.Str.ofString " ")).map V.str))) lp = some (.lst ((Txt.split r (PySem.Str.ofString " ")).map V.str)) := upd_same
      have Sp1 : Same H1 (upd H1 lp (.lst ((Txt.split r (PySem.Str.ofString " ")).map V.str))) := Same.upd nlp
      generalize upd H1 lp (.lst ((Txt.split r (PySem.Str.ofString " ")).map V.str)) = H2 at ep Sp1
      have S2 := S1.trans Sp1
      have epts : pts r = if (PySem.Str.ofString "") ∈ Txt.split r (PySem.Str.ofString " ") then [] else Txt.split r (PySem.Str.ofString " ") := rfl
      have npl : lp ≠ lf := fun z => by
        rw [z, e1] at nlp
        cases nlp
      have e2 := Sp1 _ _ e1
      have la2 := la.same Sp1
      generalize Txt.split r (PySem.Str.ofString " ") = ps at ep epts
      dsimp only [gName, List.set_cons_succ, List.set_cons_zero]
      refine cut1 (fun σ' H' => σ' = [some (.ref lr), some (.ref lf), some (.int (0 + (i : Int))), some (.ref lp), some (.bl (decide (ps.length = 4) && !decide ((PySem.Str.ofString "") ∈ ps)))] ∧ H' = H2) ?_ (fun R' fin => ?_)
      · rintro σ' H3 ⟨rfl, rfl⟩
        have bad : ∀ {H' : Hp}, Same H3 H' → fmd (pts r) = false → Q (.int (0 + (i : Int))) H' := fun {H'} S' hb => by
          rw [bad_hit hr' hb good] at k
          rw [Int.zero_add]
          exact k H' (S2.trans S')
        by_cases hg : ps.length = 4 ∧ ¬ (PySem.Str.ofString "" ∈ ps)
        · obtain ⟨h4, hne⟩ := hg
          rw [decide_eq_true h4, decide_eq_false hne]
          rw [if_neg hne] at epts
          obtain ⟨a, b, c, d, rfl⟩ : ∃ a b c d, ps = [a, b, c, d] := by
            match ps, h4 with
            | [a, b, c, d], _ => exact ⟨a, b, c, d, rfl⟩
          rw [epts] at bad
          refine ⟨_, rfl, _, rfl, ?_⟩
          refine iteF ?_
          refine ⟨_, rfl, ?_⟩
          dsimp only [tC]
          refine rdList ep (j := 0) rfl rfl ?_
          refine ⟨by show 2 ≤ sizeLine; decide, fun t nt => ?_⟩
          have St : Same H3 (upd H3 t (.tup [.str "thing", .str "holds"])) := Same.upd nt
          have et : (upd H3 t (.tup [.str "thing", .str "holds"])) t = some (.tup ((["thing", "holds"] : List Str).map V.str)) := upd_same
          generalize upd H3 t (.tup [.str "thing", .str "holds"]) = H4 at St et
          refine ⟨t, _, rfl, .inr (SqT.of et), rfl, flatS _, _, rfl, ?_⟩
          rw [inV_strs]
          by_cases hk : a ∈ (["thing", "holds"] : List Str)
          · rw [decide_eq_true hk]
            refine iteF ?_
            dsimp only [tNext]
            have ep4 := St _ _ ep
            refine ⟨_, rfl, ?_⟩
            dsimp only [tC]
            refine rdList ep4 (j := 0) rfl rfl ?_
            have nl3 : ∀ {H5 : Hp}, Same H4 H5 → fmd [a, b, c, d] = true → ∃ u2 u3 u4 qs', [some (V.ref lr), some (V.ref lf), some (.int (0 + (i : Int))), some (.ref lp), some (.bl (true && !false))] = [some (V.ref lr), some (V.ref lf), u2, u3, u4] ∧ Same H (upd H5 lf (.lst (qs.map V.ref ++ [.ref lp]))) ∧
                (∀ j x, j < i + 1 → rows[j]? = some x → fmd (pts x) = true) ∧ (upd H5 lf (.lst (qs.map V.ref ++ [.ref lp]))) lf = some (.lst (qs'.map V.ref)) ∧ LsAt (upd H5 lf (.lst (qs.map V.ref ++ [.ref lp]))) qs' ((rows.take (i + 1)).map pts) ∧ ∀ q ∈ qs', q ≠ lf := fun {H5} S5 hf => by
              have S35 := St.trans S5
              refine ⟨_, _, _, qs ++ [lp], rfl, fun x o e => by rw [upd_ne (ne_of_none e hlf)]; exact S35 _ _ (S2 _ _ e), fun j x hj hx => ?_, by rw [upd_same, List.map_append]; rfl, ?_, fun z hz => ?_⟩
              · by_cases e : j < i
                · exact good j x e hx
                · have e : j = i := by omega
                  rw [e, hr'] at hx
                  rw [← Option.some.inj hx, epts]
                  exact hf
              · rw [List.take_add_one, hr', List.map_append]
                exact LsAt.snoc (by rw [upd_ne npl, epts]; exact S35 _ _ ep) ((la2.same S35).off lf nq)
              · rcases List.mem_append.mp hz with h | h
                · exact nq z h
                · rw [List.mem_singleton.mp h]
                  exact npl
            have add : ∀ {H5 : Hp}, Same H4 H5 → H5 lf = some (.lst (qs.map V.ref)) ∧ (qs.map V.ref).length < sizeLine := fun {H5} S5 => ⟨S5 _ _ (St _ _ e2), by
              rw [List.length_map, la.len, List.length_map, List.length_take]
              exact Nat.lt_of_le_of_lt (show _ ≤ 500 by omega) (by decide)⟩
            refine ⟨rfl, _, rfl, ?_⟩
            rw [show decide (V.str a = V.str (PySem.Str.ofString "thing")) = decide (a = PySem.Str.ofString "thing") from decide_eq_decide.mpr ⟨fun h => V.str.inj h, fun h => by rw [h]⟩]
            by_cases ha : a = PySem.Str.ofString "thing"
            · rw [decide_eq_true ha]
              refine iteT ?_
              refine ⟨_, rfl, ?_⟩
              dsimp only [tC]
              refine rdList ep4 (j := 3) rfl rfl ?_
              refine ⟨by show 2 ≤ sizeLine; decide, fun t2 nt2 => ?_⟩
              have St2 : Same H4 (upd H4 t2 (.tup [.str "awake", .str "asleep"])) := Same.upd nt2
              have et2 : (upd H4 t2 (.tup [.str "awake", .str "asleep"])) t2 = some (.tup ((["awake", "asleep"] : List Str).map V.str)) := upd_same
              generalize upd H4 t2 (.tup [.str "awake", .str "asleep"]) = H5 at St2 et2
              refine ⟨t2, _, rfl, .inr (SqT.of et2), rfl, flatS _, _, rfl, ?_⟩
              rw [inV_strs]
              by_cases hd : d ∈ (["awake", "asleep"] : List Str)
              · rw [decide_eq_true hd]
                refine iteF ?_
                dsimp only [tNext]
                have fm : fmd [a, b, c, d] = true := by
                  simp only [fmd, ha]
                  rcases List.mem_cons.mp hd with h | h
                  · rw [h]
                    decide +kernel
                  · rw [List.mem_singleton.mp h]
                    decide +kernel
                refine ⟨_, rfl, .inl ⟨rfl, _, SqL.of (add St2).1⟩, _, rfl, lf, _, _, rfl, rfl, (add St2).1, (add St2).2, ?_⟩
                exact nl3 St2 fm
              · rw [decide_eq_false hd]
                refine iteT ?_
                refine ⟨_, rfl, bad (St.trans St2) ?_⟩
                simp only [fmd, ha]
                have h1 : ¬ d = "awake" := fun e => hd (by rw [e]; exact List.mem_cons_self)
                have h2 : ¬ d = "asleep" := fun e => hd (by rw [e]; exact List.mem_cons_of_mem _ List.mem_cons_self)
                rw [decide_eq_false h1, decide_eq_false h2]
                decide +kernel
            · rw [decide_eq_false ha]
              refine iteF ?_
              refine iteF ?_
              dsimp only [tNext]
              have hh : a = "holds" := by
                rcases List.mem_cons.mp hk with h | h
                · exact absurd h ha
                · exact List.mem_singleton.mp h
              have fm : fmd [a, b, c, d] = true := by
                simp only [fmd, hh]
                simp
              refine ⟨_, rfl, .inl ⟨rfl, _, SqL.of (add (Same.refl _)).1⟩, _, rfl, lf, _, _, rfl, rfl, (add (Same.refl _)).1, (add (Same.refl _)).2, ?_⟩
              exact nl3 (Same.refl _) fm
          · rw [decide_eq_false hk]
            refine iteT ?_
            refine ⟨_, rfl, bad St ?_⟩
            have h1 : ¬ a = "thing" := fun e => hk (by rw [e]; exact List.mem_cons_self)
            have h2 : ¬ a = "holds" := fun e => hk (by rw [e]; exact List.mem_cons_of_mem _ List.mem_cons_self)
            simp only [fmd]
            rw [decide_eq_false h1, decide_eq_false h2]
            rfl
        · have hg' : (decide (ps.length = 4) && !decide (PySem.Str.ofString "" ∈ ps)) = false := by
            by_cases h4 : ps.length = 4
            · have hne : PySem.Str.ofString "" ∈ ps := Classical.byContradiction fun z => hg ⟨h4, z⟩
              rw [decide_eq_true hne]
              simp
            · rw [decide_eq_false h4]
              rfl
          rw [hg']
          refine ⟨_, rfl, _, rfl, ?_⟩
          refine iteT ?_
          refine ⟨_, rfl, bad (Same.refl _) ?_⟩
          rw [epts]
          by_cases hne : PySem.Str.ofString "" ∈ ps
          · rw [if_pos hne]
            rfl
          · rw [if_neg hne]
            have h4 : ¬ ps.length = 4 := fun z => hg ⟨z, hne⟩
            cases hq : fmd ps with
            | false => rfl
            | true =>
              obtain ⟨a, b, c, d, rfl⟩ := fmd_four hq
              exact absurd rfl h4
      · have el : decide (V.int ((ps.map V.str).length : Int) = V.int 4) = decide (ps.length = 4) := decide_eq_decide.mpr ⟨fun h => by
          have := V.int.inj h
          rw [List.length_map] at this
          omega, fun h => by rw [List.length_map, h]; rfl⟩
        refine ⟨_, rfl, lp, _, rfl, .inl (SqL.of ep), rfl, _, rfl, ?_⟩
        rw [el]
        by_cases h4 : ps.length = 4
        · rw [decide_eq_true h4]
          refine iteT ?_
          refine ⟨_, rfl, lp, _, rfl, .inl (SqL.of ep), rfl, flatS _, ?_⟩
          rw [inV_strs]
          exact fin _ _ ⟨by rw [decide_eq_true h4, Bool.true_and]; rfl, rfl⟩
        · rw [decide_eq_false h4]
          refine iteF ?_
          exact fin _ _ ⟨by rw [decide_eq_false h4, Bool.false_and]; rfl, rfl⟩
    · rintro σ' H1 ⟨u2, u3, u4, qs, rfl, S1, good, e1, la, nq⟩
      rw [List.take_length] at la
      rw [bad_none good] at k
      exact ⟨_, rfl, k lf H1 qs hlf S1 e1 la⟩
theorem scThd : FnScope ["_law_name", "_law_sort", "_law_things", "_law_sorts"] ["_law_name", "_law_sort", "_law_things", "_law_sorts"] (defScope sThd) := ⟨rfl, rfl, rfl, by decide +kernel, rfl, by decide +kernel, by decide +kernel⟩
theorem ok_thd {f fI : Addr} {fd dI : FuncData} (F : Fun K "_law_thing_due" "_law_thing_due" sThd f fd) (T : TxB mg) (DIn : Dn K mg "_law_is_name" sLnm ["_law_text"] fI dI) : FnOk P w K mg base CX0 2 f fd ["_law_name", "_law_sort", "_law_things", "_law_sorts"] spThd := by
  have GIn : FnOk P w K mg base CX0 1 fI dI ["_law_text"] spName := ok_lnm DIn.F T
  refine F.ok scThd (fun vs H Q E h => ?_) (fun cdv A outer s H vs Q E hr h => ?_)
  · obtain ⟨n, so, d, lS, ss, th, kvs, rfl, _⟩ := h
    rfl
  · obtain ⟨n, so, d, lS, ss, th, kvs, rfl, hd, hk, hS, hn, h60, k⟩ := h
    have hr1 : Room 1 _ := hr.mono (by decide)
    refine ⟨_, (pss_cons (ps_if (pt_not (pt_val (pe_call GIn hr1 rfl DIn.g DIn.F.kp DIn.b .nil pass0 (pa_cons (pv 0) pa_nil)))) (pss_one (ps_ret (pe_tup (pa_cons pe_str (pa_cons (pv 0) pa_nil))))) pss_nil)
      (pss_cons (ps_if (pt_cmp (pc_din (hu_of hr) (pv 0) (pv 2))) (pss_one (ps_ret (pe_tup (pa_cons pe_str (pa_cons (pv 0) pa_nil))))) pss_nil)
      (pss_cons (ps_if (pt_cmpR op_notIn_seq (pv 1) (pv 3) (by rfl)) (pss_one (ps_ret (pe_tup (pa_cons pe_str (pa_cons (pv 1) pa_nil))))) pss_nil)
      (pss_cons (ps_if (pt_cmpR op_eq (pe_callB call_lenD (by rfl) T.len (by decide +kernel) (pa_cons (pv 2) pa_nil)) pe_int (nomark _)) (pss_one (ps_ret (pe_tup (pa_cons pe_str pa_nil)))) pss_nil)
      (pss_one (ps_ret pe_non)))))), ?_⟩
    rw [show L2.start ["_law_name", "_law_sort", "_law_things", "_law_sorts"] [V.str n, V.str so, V.ref d, V.ref lS] = [some (.str n), some (.str so), some (.ref d), some (.ref lS)] from rfl]
    refine ⟨_, rfl, n, rfl, hn, fun H1 S1 => ⟨_, rfl, ?_⟩⟩
    have hd1 := S1 _ _ hd
    have hS1 := S1 _ _ hS
    unfold entD at k
    cases hi : isNm n with
    | false =>
      rw [hi, if_neg (by decide)] at k
      refine iteT ?_
      refine ⟨_, rfl, by show 2 ≤ sizeLine; decide, fun t nt => ?_⟩
      exact k t _ (S1.free nt) (S1.trans (Same.upd nt)) upd_same
    | true =>
      rw [hi, if_pos rfl] at k
      refine iteF ?_
      refine ⟨_, rfl, _, rfl, d, _, rfl, DGet.k (k := Sum.inr n) hd1, _, rfl, ?_⟩
      rw [keys_is hk]
      by_cases h1 : n ∈ nmL th
      · rw [if_pos h1] at k
        rw [decide_eq_true h1]
        refine iteT ?_
        refine ⟨_, rfl, by show 2 ≤ sizeLine; decide, fun t nt => ?_⟩
        exact k t _ (S1.free nt) (S1.trans (Same.upd nt)) upd_same
      rw [if_neg h1] at k
      rw [decide_eq_false h1]
      refine iteF ?_
      refine ⟨_, rfl, _, rfl, lS, _, rfl, .inl (SqL.of hS1), rfl, flatS _, _, rfl, ?_⟩
      rw [inV_strs]
      by_cases h2 : so ∈ ss
      · rw [if_pos h2] at k
        rw [decide_eq_true h2]
        refine iteF ?_
        have lk : kvs.length = th.length := by
          have := congrArg List.length hk
          rw [List.length_map, List.length_map] at this
          rw [this]
          unfold nmL
          rw [List.length_map]
        refine ⟨_, rfl, d, _, rfl, hd1, rfl, _, rfl, ?_⟩
        by_cases h3 : th.length < 60
        · rw [if_pos h3] at k
          have e : decide (V.int (kvs.length : Int) = V.int 60) = false := decide_eq_false fun z => by
            have := V.int.inj z
            omega
          rw [e]
          refine iteF ?_
          exact k _ S1
        · rw [if_neg h3] at k
          have e : decide (V.int (kvs.length : Int) = V.int 60) = true := decide_eq_true (by rw [lk]; congr 1; omega)
          rw [e]
          refine iteT ?_
          refine ⟨by show 1 ≤ sizeLine; decide, fun t nt => ?_⟩
          exact k t _ (S1.free nt) (S1.trans (Same.upd nt)) upd_same
      · rw [if_neg h2] at k
        rw [decide_eq_false h2]
        refine iteT ?_
        refine ⟨_, rfl, by show 2 ≤ sizeLine; decide, fun t nt => ?_⟩
        exact k t _ (S1.free nt) (S1.trans (Same.upd nt)) upd_same
theorem scHod : FnScope ["_law_x", "_law_word", "_law_y", "_law_things", "_law_words", "_law_name"] ["_law_x", "_law_word", "_law_y", "_law_things", "_law_words"] (defScope sHod) := ⟨rfl, rfl, rfl, by decide +kernel, rfl, by decide +kernel, by decide +kernel⟩
theorem ok_hod {f : Addr} {fd : FuncData} (F : Fun K "_law_holding_due" "_law_holding_due" sHod f fd) : FnOk P w K mg base CX0 1 f fd ["_law_x", "_law_word", "_law_y", "_law_things", "_law_words"] spHod := by
  refine F.ok scHod (fun vs H Q E h => ?_) (fun cdv A outer s H vs Q E hr h => ?_)
  · obtain ⟨x, wd, y, d, lW, ws, th, kvs, rfl, _⟩ := h
    rfl
  · obtain ⟨x, wd, y, d, lW, ws, th, kvs, rfl, hd, hk, hW, k⟩ := h
    refine ⟨_, (pss_cons (ps_for PassesOwn.never rfl (pi_list (pe_lst (pa_cons (pv 0) (pa_cons (pv 2) pa_nil)))) (pg_name (i := 5) scHod.nd rfl (Or.inl rfl)) (pss_one (ps_if (pt_cmp (pc_dnotin (hu_of hr) (pv 5) (pv 3))) (pss_one (ps_ret (pe_tup (pa_cons pe_str (pa_cons (pv 5) pa_nil))))) pss_nil)))
      (pss_cons (ps_if (pt_cmpR op_notIn_seq (pv 1) (pv 4) (by rfl)) (pss_one (ps_ret (pe_tup (pa_cons pe_str (pa_cons (pv 1) pa_nil))))) pss_nil)
      (pss_one (ps_ret pe_non)))), ?_⟩
    rw [show L2.start ["_law_x", "_law_word", "_law_y", "_law_things", "_law_words", "_law_name"] [V.str x, V.str wd, V.str y, V.ref d, V.ref lW] = [some (.str x), some (.str wd), some (.str y), some (.ref d), some (.ref lW), none] from rfl]
    refine ⟨_, rfl, _, rfl, by show 2 ≤ sizeLine; decide, fun l hl => ?_⟩
    have Sl : Same H (upd H l (.lst [.str x, .str y])) := Same.upd hl
    have el : (upd H l (.lst [.str x, .str y])) l = some (.lst [.str x, .str y]) := upd_same
    generalize upd H l (.lst [.str x, .str y]) = H1 at Sl el
    have hd1 := Sl _ _ hd
    have hW1 := Sl _ _ hW
    unfold unkR at k
    refine ⟨l, rfl, ⟨_, SqL.of el⟩, for_list (K := K) (a := l) (xs := [.str x, .str y]) (fun i σ' H' => (∃ v, σ' = [some (.str x), some (.str wd), some (.str y), some (.ref d), some (.ref lW), v]) ∧ H' = H1 ∧ (1 ≤ i → x ∈ nmL th) ∧ (2 ≤ i → y ∈ nmL th))
      ⟨⟨none, rfl⟩, rfl, fun z => absurd z (by decide), fun z => absurd z (by decide)⟩ (fun i σ' H' _ z => by rw [z.2.1]; exact SqL.of el) ?_ ?_⟩
    · rintro i v σ' H' hv ⟨⟨u, rfl⟩, rfl, z1, z2⟩
      dsimp only [gName, List.set_cons_succ, List.set_cons_zero]
      obtain ⟨m, rfl, hm⟩ : ∃ m, v = .str m ∧ ((i = 0 ∧ m = x) ∨ (i = 1 ∧ m = y)) := by
        match i, hv with
        | 0, hv => exact ⟨x, (Option.some.inj hv).symm, .inl ⟨rfl, rfl⟩⟩
        | 1, hv => exact ⟨y, (Option.some.inj hv).symm, .inr ⟨rfl, rfl⟩⟩
        | i + 2, hv => simp at hv
      refine ⟨_, rfl, _, rfl, d, _, rfl, DGet.k (k := Sum.inr m) hd1, _, rfl, ?_⟩
      rw [keys_is hk]
      by_cases h : m ∈ nmL th
      · rw [decide_eq_true h]
        refine iteF ?_
        refine ⟨⟨_, rfl⟩, rfl, fun z => ?_, fun z => ?_⟩
        · rcases hm with ⟨rfl, rfl⟩ | ⟨rfl, rfl⟩
          · exact h
          · exact z1 (Nat.le_refl _)
        · rcases hm with ⟨rfl, rfl⟩ | ⟨rfl, rfl⟩
          · exact absurd z (by decide)
          · exact h
      · rw [decide_eq_false h]
        refine iteT ?_
        refine ⟨_, rfl, by show 2 ≤ sizeLine; decide, fun t nt => ?_⟩
        have k' : ∀ t H'', H t = none → Same H H'' → H'' t = some (.tup (roT (.nt m))) → Q (.ref t) H'' := by
          rcases hm with ⟨rfl, rfl⟩ | ⟨rfl, rfl⟩
          · rw [if_neg h] at k
            exact k
          · rw [if_pos (z1 (Nat.le_refl _)), if_neg h] at k
            exact k
        exact k' t _ (Sl.free nt) (Sl.trans (Same.upd nt)) upd_same
    · rintro σ' H' ⟨⟨u, rfl⟩, rfl, z1, z2⟩
      rw [if_pos (z1 (by show 1 ≤ 2; decide)), if_pos (z2 (by show 2 ≤ 2; decide))] at k
      refine ⟨_, rfl, _, rfl, lW, _, rfl, .inl (SqL.of hW1), rfl, flatS _, _, rfl, ?_⟩
      rw [inV_strs]
      by_cases h2 : wd ∈ ws
      · rw [if_pos h2] at k
        rw [decide_eq_true h2]
        refine iteF ?_
        exact k _ Sl
      · rw [if_neg h2] at k
        rw [decide_eq_false h2]
        refine iteT ?_
        refine ⟨_, rfl, by show 2 ≤ sizeLine; decide, fun t nt => ?_⟩
        exact k t _ (Sl.free nt) (Sl.trans (Same.upd nt)) upd_same
end
end Wm
namespace Wm
open PySem L2 StX
/-- objects at their places, one fact for each -/
def FAt {α : Type} (R : Addr → α → Prop) : List Addr → List α → Prop
  | [], [] => True
  | q :: qs, x :: xs => R q x ∧ FAt R qs xs
  | _, _ => False
theorem FAt.imp {α : Type} {R R' : Addr → α → Prop} (f : ∀ q x, R q x → R' q x) : ∀ {qs : List Addr} {xs : List α}, FAt R qs xs → FAt R' qs xs
  | [], [], _ => True.intro
  | _ :: _, _ :: _, h => ⟨f _ _ h.1, FAt.imp f h.2⟩
  | [], _ :: _, h => h.elim
  | _ :: _, [], h => h.elim
theorem FAt.len {α : Type} {R : Addr → α → Prop} : ∀ {qs : List Addr} {xs : List α}, FAt R qs xs → qs.length = xs.length
  | [], [], _ => rfl
  | _ :: _, _ :: _, h => congrArg (· + 1) (FAt.len h.2)
  | [], _ :: _, h => h.elim
  | _ :: _, [], h => h.elim
theorem FAt.snoc {α : Type} {R : Addr → α → Prop} {q : Addr} {x : α} (hq : R q x) : ∀ {qs : List Addr} {xs : List α}, FAt R qs xs → FAt R (qs ++ [q]) (xs ++ [x])
  | [], [], _ => ⟨hq, True.intro⟩
  | _ :: _, _ :: _, h => ⟨h.1, FAt.snoc hq h.2⟩
  | [], _ :: _, h => h.elim
  | _ :: _, [], h => h.elim
theorem FAt.get {α : Type} {R : Addr → α → Prop} : ∀ {qs : List Addr} {xs : List α} {j : Nat} {q : Addr}, FAt R qs xs → qs[j]? = some q → ∃ x, xs[j]? = some x ∧ R q x
  | [], [], _, _, _, e => by simp at e
  | q :: _, x :: _, 0, _, h, e => ⟨x, rfl, by rw [← Option.some.inj e]; exact h.1⟩
  | _ :: qs, _ :: xs, j + 1, _, h, e => FAt.get (qs := qs) (xs := xs) (j := j) h.2 e
  | [], _ :: _, _, _, h, _ => h.elim
  | _ :: _, [], _, _, h, _ => h.elim
def thV (t : Thing) : List V := [.str t.1, .str t.2.1, .bl t.2.2]
/-- what the law keeps of the things: by their names, sort and whether awake -/
def kT (th : List Thing) (qs : List Addr) : List (L2.Key × V) := (th.zip qs).map fun p => (Sum.inr p.1.1, .ref p.2)
theorem kT_keys : ∀ {th : List Thing} {qs : List Addr}, qs.length = th.length → (kT th qs).map (·.1) = (nmL th).map Sum.inr
  | [], [], _ => rfl
  | t :: th, q :: qs, h => by
    have ih := kT_keys (th := th) (qs := qs) (by simpa using h)
    show Sum.inr t.1 :: (kT th qs).map (·.1) = Sum.inr t.1 :: (nmL th).map Sum.inr
    rw [ih]
  | [], _ :: _, h => by simp at h
  | _ :: _, [], h => by simp at h
theorem kT_len {th : List Thing} {qs : List Addr} (h : qs.length = th.length) : (kT th qs).length = th.length := by
  unfold kT
  rw [List.length_map, List.length_zip]
  omega
theorem kT_put {th : List Thing} {qs : List Addr} {t : Thing} {q : Addr} (h : qs.length = th.length) (n : t.1 ∉ nmL th) : putK (kT th qs) (Sum.inr t.1) (.ref q) = kT (th ++ [t]) (qs ++ [q]) := by
  rw [put_new (by rw [kT_keys h]; exact fun z => n (inr_mem.mp z))]
  unfold kT
  rw [List.zip_append h.symm, List.map_append]
  rfl
theorem kT_at : ∀ {th : List Thing} {qs : List Addr} {i : Nat} {k : L2.Key} {v : V}, (kT th qs)[i]? = some (k, v) → ∃ t q, th[i]? = some t ∧ qs[i]? = some q ∧ k = Sum.inr t.1 ∧ v = .ref q
  | [], _, _, _, _, e => by simp [kT] at e
  | _ :: _, [], _, _, _, e => by simp [kT] at e
  | t :: _, q :: _, 0, _, _, e => by
    have e' : some ((Sum.inr t.1 : L2.Key), V.ref q) = some _ := e
    cases e'
    exact ⟨t, q, rfl, rfl, rfl, rfl⟩
  | _ :: th, _ :: qs, i + 1, _, _, e => kT_at (th := th) (qs := qs) (i := i) e
theorem kT_val : ∀ {th : List Thing} {qs : List Addr} {i : Nat} {t : Thing} {q : Addr}, (nmL th).Nodup → th[i]? = some t → qs[i]? = some q → valV (kT th qs) (Sum.inr t.1) = some (.ref q)
  | [], _, _, _, _, _, e, _ => by simp at e
  | _ :: _, [], _, _, _, _, _, e => by simp at e
  | t :: th, q :: qs, 0, _, _, _, e, e2 => by
    rw [← Option.some.inj e, ← Option.some.inj e2]
    show Option.map _ (List.find? _ ((Sum.inr t.1, V.ref q) :: kT th qs)) = _
    rw [List.find?_cons_of_pos (by exact decide_eq_true rfl)]
    rfl
  | t0 :: th, q0 :: qs, i + 1, t, q, nd, e, e2 => by
    have nd' : (t0.1 :: nmL th).Nodup := nd
    rw [List.nodup_cons] at nd'
    have hm : t ∈ th := List.mem_of_getElem? (show th[i]? = some t from e)
    have ne : ¬ t0.1 = t.1 := fun z => nd'.1 (by rw [z]; exact List.mem_map.mpr ⟨t, hm, rfl⟩)
    show Option.map _ (List.find? _ ((Sum.inr t0.1, V.ref q0) :: kT th qs)) = _
    rw [List.find?_cons_of_neg (by simpa using ne)]
    exact kT_val (th := th) (qs := qs) (i := i) nd'.2 e e2
theorem lock_same {H H' : Hp} {d : Addr} {od : Obj} {u : HO} (h : H d = some u) (s : Same (upd H d (.frz od u)) H') : Same H (upd H' d u) := fun b o e => by
  by_cases n : b = d
  · subst n
    rw [upd_same, ← h]
    exact e
  · rw [upd_ne n]
    exact s _ _ ((upd_ne n).trans e)
/-- what the law is told -/
def AnsAt (K : PySem.W.Frag) (H : Hp) (t : Addr) : Sum Ro (List Thing × List T3) → Prop
  | .inl r => H t = some (.tup (roT r))
  | .inr (th, ts) => ∃ (lt lh : Addr) (qs hs : List Addr), H t = some (.tup [.str "told", .ref lt, .ref lh]) ∧ H lt = some (.lst (qs.map V.ref)) ∧ FAt (fun q x => H q = some (.tup (thV x))) qs th ∧ H lh = some (.lst (hs.map V.ref)) ∧ TrisAt K H hs (sortT ts)
def spDue (K : PySem.W.Frag) : Sp := fun vs H Q _ => ∃ (lr lS lW : Addr) (rows ss ws : List Str), vs = [.ref lr, .ref lS, .ref lW] ∧ H lr = some (.lst (rows.map V.str)) ∧ H lS = some (.lst (ss.map V.str)) ∧ H lW = some (.lst (ws.map V.str)) ∧ rows.length ≤ 500 ∧ RowsOk 900 rows ∧
  ∀ t H', H t = none → Same H H' → AnsAt K H' t (readD ss ws rows) → Q (.ref t) H'
theorem tyx_lst {K : PySem.W.Frag} {H : Hp} {q : Addr} {xs : List V} (h : H q = some (.lst xs)) : TyX K H (.ref q) (.type "list") := .base (.lst h)
theorem tyx_int {K : PySem.W.Frag} {H : Hp} {i : Int} : TyX K H (.int i) (.type "int") := .base (.int i)
section
variable {P : Program} {w : World} {K : PySem.W.Frag} {mg : Str → Option Value} {base : Heap}
theorem scDue : FnScope ["_law_rows", "_law_sorts", "_law_words", "_law_formed_here", "_law_things", "_law_held", "_law_kind", "_law_one", "_law_word", "_law_last", "_law_due_here", "_law_holdings", "_law_name"] ["_law_rows", "_law_sorts", "_law_words"] (defScope sDue) := ⟨rfl, rfl, rfl, by decide +kernel, rfl, by decide +kernel, by decide +kernel⟩
theorem ok_due {f fF fT fG : Addr} {fd dF dT dG : FuncData} (F : Fun K "_law_due" "_law_due" sDue f fd) (T : TxB mg) (tl : mg "list" = none) (tsr : mg "sorted" = none) (DFo : Dn K mg "_law_formed" sFor ["_law_rows"] fF dF)
    (DTd : Dn K mg "_law_thing_due" sThd ["_law_name", "_law_sort", "_law_things", "_law_sorts"] fT dT) (GTd : FnOk P w K mg base CX0 2 fT dT ["_law_name", "_law_sort", "_law_things", "_law_sorts"] spThd)
    (DHd : Dn K mg "_law_holding_due" sHod ["_law_x", "_law_word", "_law_y", "_law_things", "_law_words"] fG dG) : FnOk P w K mg base CX0 3 f fd ["_law_rows", "_law_sorts", "_law_words"] (spDue K) := by
  have GFo : FnOk P w K mg base CX0 1 fF dF ["_law_rows"] spFor := ok_for DFo.F T
  have GHd : FnOk P w K mg base CX0 1 fG dG ["_law_x", "_law_word", "_law_y", "_law_things", "_law_words"] spHod := ok_hod DHd.F
  refine F.ok scDue (fun vs H Q E h => ?_) (fun cdv A outer s H vs Q E hr h => ?_)
  · obtain ⟨lr, lS, lW, rows, ss, ws, rfl, _⟩ := h
    rfl
  · obtain ⟨lr, lS, lW, rows, ss, ws, rfl, hlr, hS, hW, hln, ok, k⟩ := h
    have hr1 : Room 1 _ := hr.mono (by decide)
    have hr2 : Room 2 _ := hr.mono (by decide)
    refine ⟨_, (pss_cons (ps_set (i := 3) scDue.nd rfl (Or.inl rfl) (pe_call GFo hr1 rfl DFo.g DFo.F.kp DFo.b .nil pass0 (pa_cons (pv 0) pa_nil)))
      (pss_cons (ps_if (pt_val (pe_callB call_isi (by rfl) T.isinstance (by decide +kernel) (pa_cons (pv 3) (pa_cons (pe_bltn (v := V.ty "int") (by rfl) T.int (by rfl) rfl) pa_nil)))) (pss_one (ps_ret (pe_tup (pa_cons pe_str (pa_cons (pv 3) pa_nil))))) pss_nil)
      (pss_cons (ps_set (i := 4) scDue.nd rfl (Or.inr rfl) pe_dnewK)
      (pss_cons (ps_set (i := 5) scDue.nd rfl (Or.inl rfl) pe_dnewT)
      (pss_cons (ps_for PassesOwn.never rfl (pi_list (pv 3)) (pg_unl rfl (pgs_cons (pg_name (i := 6) scDue.nd rfl (Or.inl rfl)) (pgs_cons (pg_name (i := 7) scDue.nd rfl (Or.inl rfl)) (pgs_cons (pg_name (i := 8) scDue.nd rfl (Or.inl rfl)) (pgs_cons (pg_name (i := 9) scDue.nd rfl (Or.inl rfl)) pgs_nil))))) (pss_cons (ps_if (pt_cmpR op_eq (pv 6) pe_str (nomark _)) (pss_cons (ps_set (i := 10) scDue.nd rfl (Or.inl rfl) (pe_call GTd hr2 rfl DTd.g DTd.F.kp DTd.b .nil pass0 (pa_cons (pv 7) (pa_cons (pv 8) (pa_cons (pv 4) (pa_cons (pv 1) pa_nil))))))
      (pss_one (ps_dput (hu_of hr) (pv 4) (pv 7) (pe_tup (pa_cons (pv 8) (pa_cons (pe_cmpR op_eq (pv 9) pe_str (nomark _)) pa_nil))) rfl))) (pss_cons (ps_set (i := 10) scDue.nd rfl (Or.inl rfl) (pe_call GHd hr1 rfl DHd.g DHd.F.kp DHd.b .nil pass0 (pa_cons (pv 7) (pa_cons (pv 8) (pa_cons (pv 9) (pa_cons (pv 4) (pa_cons (pv 2) pa_nil)))))))
      (pss_one (ps_dput (hu_of hr) (pv 5) (pe_tup (pa_cons (pv 7) (pa_cons (pv 8) (pa_cons (pv 9) pa_nil)))) pe_bl rfl))))
      (pss_one (ps_if (pt_cmp (pc_notN (pv 10))) (pss_one (ps_ret (pv 10))) pss_nil))))
      (pss_cons (ps_set (i := 11) scDue.nd rfl (Or.inl rfl) (pe_callB (cr_sortTL hr.units) (by rfl) tsr (by decide +kernel) (pa_cons (pe_callTy (call_list_dT rfl) (by rfl) tl (by decide +kernel) (pa_cons (pv 5) pa_nil)) pa_nil)))
      (pss_one (ps_ret (pe_tup (pa_cons pe_str (pa_cons (pe_lock (pe_lc (own := [("_law_name", 12)]) (g := gName 12) (tt := tYes) (te := tTup (tCons (tVar 12) (tCons (tOp (rIxT K) (tDGet (tVar 4) (tVar 12)) (tC (.int 0))) (tCons (tOp (rIxT K) (tDGet (tVar 4) (tVar 12)) (tC (.int 1))) tNil)))) rfl scDue.nd (pi_keys (pv 4)) (blkOk_by (N := ["_law_rows", "_law_sorts", "_law_words", "_law_formed_here", "_law_things", "_law_held", "_law_kind", "_law_one", "_law_word", "_law_last", "_law_due_here", "_law_holdings", "_law_name"]) (sc := defScope sDue) (by decide +kernel)) (fun _ _ _ _ _ => (pg_name (i := 12) scDue.nd rfl (Or.inl rfl))) (fun _ _ _ _ _ => pts_nil) (fun _ _ _ _ _ => (pe_tup (pa_cons (pv 12) (pa_cons (pe_ix ix_tup (pe_dget (hu_of hr) (pv 4) (pv 12) (fun _ _ => rfl)) pe_int (fun _ _ => rfl)) (pa_cons (pe_ix ix_tup (pe_dget (hu_of hr) (pv 4) (pv 12) (fun _ _ => rfl)) pe_int (fun _ _ => rfl)) pa_nil))))))) (pa_cons (pv 11) pa_nil)))))))))))), ?_⟩
    rw [show L2.start ["_law_rows", "_law_sorts", "_law_words", "_law_formed_here", "_law_things", "_law_held", "_law_kind", "_law_one", "_law_word", "_law_last", "_law_due_here", "_law_holdings", "_law_name"] [V.ref lr, V.ref lS, V.ref lW] = [some (.ref lr), some (.ref lS), some (.ref lW), none, none, none, none, none, none, none, none, none, none] from rfl]
    refine ⟨_, rfl, lr, rows, rfl, hlr, hln, ok, ?_⟩
    cases hb : badAt rows with
    | some i =>
      intro H1 S1
      dsimp only [gName, List.set_cons_succ, List.set_cons_zero]
      refine ⟨_, rfl, _, _, _, _, true, rfl, .ty "int", tyx_int, if_pos (beq_self_eq_true _), _, rfl, ?_⟩
      refine iteT ?_
      refine ⟨_, rfl, by show 2 ≤ sizeLine; decide, fun t nt => ?_⟩
      refine k t _ (S1.free nt) (S1.trans (Same.upd nt)) ?_
      have e : readD ss ws rows = .inl (.bad i) := by
        unfold readD
        rw [hb]
      rw [e]
      exact upd_same
    | none =>
      intro lf H1 qs hlf S1 e1 la
      have er : readD ss ws rows = goH ss ws (rows.map pts) [] [] := by
        unfold readD
        rw [hb]
      rw [er] at k
      have good : ∀ j r, rows[j]? = some r → fmd (pts r) = true := fun j r h => by
        have z := List.findIdx?_eq_none_iff.mp hb r (List.mem_of_getElem? h)
        simpa using z
      dsimp only [gName, List.set_cons_succ, List.set_cons_zero]
      refine ⟨_, rfl, _, _, _, _, false, rfl, .ty "int", tyx_lst e1, by rfl, _, rfl, ?_⟩
      refine iteF ?_
      dsimp only [tNext]
      intro dA nA
      have eA : (upd H1 dA (.dK [])) dA = some (.dK (kT [] [])) := upd_same
      have SA : Same H1 (upd H1 dA (.dK [])) := Same.upd nA
      generalize upd H1 dA (.dK []) = H2 at eA SA
      dsimp only [gName, List.set_cons_succ, List.set_cons_zero]
      intro dB nB
      have eB : (upd H2 dB (.dT [])) dB = some (.dT (k3 [])) := upd_same
      have SB : Same H2 (upd H2 dB (.dT [])) := Same.upd nB
      generalize upd H2 dB (.dT []) = H3 at eB SB
      dsimp only [gName, List.set_cons_succ, List.set_cons_zero]
      have nB1 : H1 dB = none := SA.free nB
      have S13 := SA.trans SB
      have ll : (qs.map V.ref).length = rows.length := by rw [List.length_map, la.len, List.length_map]
      refine ⟨_, rfl, lf, rfl, ⟨_, SqL.of (S13 _ _ e1)⟩, ?_⟩
      refine for_it (walk_list (xs := qs.map V.ref)) (fun i σ' H' => ∃ (u6 u7 u8 u9 u10 : Option V) (th : List Thing) (ts : List T3) (ps : List Addr), σ' = [some (.ref lr), some (.ref lS), some (.ref lW), some (.ref lf), some (.ref dA), some (.ref dB), u6, u7, u8, u9, u10, none, none] ∧ Same H1 H' ∧
        H' dA = some (.dK (kT th ps)) ∧ FAt (fun q x => H' q = some (.tup [.str x.2.1, .bl x.2.2])) ps th ∧ H' dB = some (.dT (k3 ts)) ∧ th.length ≤ 60 ∧ ts.length ≤ i ∧ (nmL th).Nodup ∧ goH ss ws ((rows.map pts).drop i) th ts = goH ss ws (rows.map pts) [] [])
        ⟨none, none, none, none, none, [], [], [], rfl, S13, SB _ _ eA, True.intro, eB, Nat.zero_le _, Nat.le_refl _, List.nodup_nil, rfl⟩ (fun i σ' H' _ ⟨_, _, _, _, _, _, _, _, _, z, _⟩ => SqL.of (z _ _ e1)) ?_ ?_
      · rintro i v σ' H4 H5 hi ⟨u6, u7, u8, u9, u10, th, ts, ps, rfl, S4, eA4, fa, eB4, l60, lts, nd, eg⟩ ⟨rfl, hv⟩
        obtain ⟨q, p, rfl, hp, hq⟩ := LsAt.get la hv
        have hq4 := S4 _ _ hq
        rw [List.getElem?_map] at hp
        obtain ⟨r, hr', rfl⟩ := Option.map_eq_some_iff.mp hp
        have il := (List.getElem?_eq_some_iff.mp hr').1
        have fm := good i r hr'
        have ob := ok r (List.mem_of_getElem? hr')
        have zl := pts_len (row := r)
        have hd : (rows.map pts).drop i = pts r :: (rows.map pts).drop (i + 1) := by
          rw [List.drop_eq_getElem_cons (by rw [List.length_map]; exact il)]
          congr 1
          rw [List.getElem_map]
          congr 1
          exact (List.getElem?_eq_some_iff.mp hr').2
        rw [hd] at eg
        obtain ⟨kd, a, b, c, e4⟩ := fmd_four fm
        rw [e4] at eg hq4 zl
        have za := Nat.le_trans (zl a (by simp)) ob.2
        have S05 : Same H H5 := S1.trans S4
        have fl := fa.len
        refine ⟨q, _, rfl, SqL.of hq4, rfl, _, _, rfl, _, _, rfl, _, _, rfl, _, _, rfl, rfl, ?_⟩
        dsimp only [gName, List.set_cons_succ, List.set_cons_zero]
        have dec : ∀ {z : Str} {y : Str}, decide (V.str z = V.str y) = decide (z = y) := fun {z y} => decide_eq_decide.mpr ⟨fun h => V.str.inj h, fun h => by rw [h]⟩
        have lkT : (kT th ps).length < sizeLine := by
          rw [kT_len fl]
          exact Nat.lt_of_le_of_lt l60 (by decide)
        have lk3 : (k3 ts).length < sizeLine := by
          unfold k3
          rw [List.length_map]
          exact Nat.lt_of_le_of_lt (show _ ≤ 1000 by omega) (by decide)
        have nAB : dA ≠ dB := ne_of eA4 eB4 (by intro z; cases z)
        refine cut1 (fun σ' H' => (∃ (th : List Thing) (ts : List T3) (ps : List Addr), σ' = [some (.ref lr), some (.ref lS), some (.ref lW), some (.ref lf), some (.ref dA), some (.ref dB), some (.str kd), some (.str a), some (.str b), some (.str c), some .non, none, none] ∧ Same H1 H' ∧
            H' dA = some (.dK (kT th ps)) ∧ FAt (fun q x => H' q = some (.tup [.str x.2.1, .bl x.2.2])) ps th ∧ H' dB = some (.dT (k3 ts)) ∧ th.length ≤ 60 ∧ ts.length ≤ i + 1 ∧ (nmL th).Nodup ∧ goH ss ws ((rows.map pts).drop (i + 1)) th ts = goH ss ws (rows.map pts) [] []) ∨
          (∃ (t : Addr) (y : Ro), σ' = [some (.ref lr), some (.ref lS), some (.ref lW), some (.ref lf), some (.ref dA), some (.ref dB), some (.str kd), some (.str a), some (.str b), some (.str c), some (.ref t), none, none] ∧ Same H1 H' ∧ H1 t = none ∧ H' t = some (.tup (roT y)) ∧ goH ss ws (rows.map pts) [] [] = .inl y)) ?_ (fun R' fin => ?_)
        · rintro σ' H' (⟨th, ts, ps, rfl, z⟩ | ⟨t, y, rfl, S7, nt, et, ey⟩)
          · refine ⟨_, rfl, _, rfl, ?_⟩
            refine iteF ?_
            exact ⟨_, _, _, _, _, th, ts, ps, rfl, z⟩
          · refine ⟨_, rfl, _, rfl, ?_⟩
            refine iteT ?_
            refine ⟨_, rfl, k t H' (S1.free nt) (S1.trans S7) ?_⟩
            rw [ey]
            exact et
        · refine ⟨_, rfl, rfl, _, rfl, ?_⟩
          rw [dec]
          by_cases hk : kd = "thing"
          · rw [decide_eq_true hk]
            refine iteT ?_
            have eg' : goH ss ws ([kd, a, b, c] :: (rows.map pts).drop (i + 1)) th ts = (match entD ss th a b with
              | some y => .inl (roR y)
              | none => goH ss ws ((rows.map pts).drop (i + 1)) (th ++ [(a, b, decide (c = "awake"))]) ts) := by
              simp only [goH, if_pos hk] <;> rfl
            refine ⟨_, rfl, _, rfl, _, rfl, _, rfl, a, b, dA, lS, ss, th, _, rfl, eA4, kT_keys fl, S05 _ _ hS, by omega, l60, ?_⟩
            cases hE : entD ss th a b with
            | none =>
              intro H6 S6
              rw [hE] at eg'
              have nm : a ∉ nmL th := fun z => by
                unfold entD at hE
                by_cases hi : isNm a = true
                · rw [if_pos hi, if_pos z] at hE
                  cases hE
                · rw [if_neg hi] at hE
                  cases hE
              have l59 : th.length < 60 := by
                by_cases h : th.length < 60
                · exact h
                · exfalso
                  unfold entD at hE
                  repeat' split at hE
                  all_goals first | cases hE | exact absurd (by assumption) h
              dsimp only [gName, List.set_cons_succ, List.set_cons_zero]
              refine ⟨_, rfl, _, rfl, rfl, by show 2 ≤ sizeLine; decide, fun q2 nq2 => ?_⟩
              rw [dec]
              have Sq : Same H6 (upd H6 q2 (.tup [.str b, .bl (decide (c = PySem.Str.ofString "awake"))])) := Same.upd nq2
              have eq2 : (upd H6 q2 (.tup [.str b, .bl (decide (c = PySem.Str.ofString "awake"))])) q2 = some (.tup [.str b, .bl (decide (c = PySem.Str.ofString "awake"))]) := upd_same
              generalize upd H6 q2 (.tup [.str b, .bl (decide (c = PySem.Str.ofString "awake"))]) = H7 at Sq eq2
              have S57 := S6.trans Sq
              have eA7 := S57 _ _ eA4
              refine ⟨_, rfl, _, rfl, dA, _, rfl, DPut.k (k := Sum.inr a) eA7 lkT, ?_⟩
              rw [kT_put (t := (a, b, decide (c = PySem.Str.ofString "awake"))) fl nm]
              have off : ∀ {x : Addr} {o : HO}, (∀ kvs, o ≠ .dK kvs) → H7 x = some o → (upd H7 dA (.dK (kT (th ++ [(a, b, decide (c = PySem.Str.ofString "awake"))]) (ps ++ [q2])))) x = some o := fun {x o} no h => by
                rw [upd_ne (ne_of h eA7 (no _))]
                exact h
              refine fin _ _ (.inl ⟨th ++ [(a, b, decide (c = PySem.Str.ofString "awake"))], ts, ps ++ [q2], rfl, fun x o e => ?_, upd_same, ?_, off (fun _ z => by cases z) (S57 _ _ eB4), by rw [List.length_append]; exact l59, Nat.le_succ_of_le lts, ?_, ?_⟩)
              · rw [upd_ne (ne_of_none e nA)]
                exact S57 _ _ (S4 _ _ e)
              · exact FAt.snoc (off (fun _ z => by cases z) eq2) (fa.imp fun x y h => off (fun _ z => by cases z) (S57 _ _ h))
              · unfold nmL at nd nm ⊢
                rw [List.map_append, List.nodup_append]
                exact ⟨nd, by simp, fun x hx y hy e => by
                  have ey : y = a := by simpa using hy
                  rw [e, ey] at hx
                  exact nm hx⟩
              · rw [← eg, eg']
            | some y =>
              intro t H6 nt S6 et
              rw [hE] at eg'
              dsimp only [gName, List.set_cons_succ, List.set_cons_zero]
              refine ⟨_, rfl, _, rfl, rfl, by show 2 ≤ sizeLine; decide, fun q2 nq2 => ?_⟩
              rw [dec]
              have Sq : Same H6 (upd H6 q2 (.tup [.str b, .bl (decide (c = PySem.Str.ofString "awake"))])) := Same.upd nq2
              generalize upd H6 q2 (.tup [.str b, .bl (decide (c = PySem.Str.ofString "awake"))]) = H7 at Sq
              have S57 := S6.trans Sq
              have eA7 := S57 _ _ eA4
              refine ⟨_, rfl, _, rfl, dA, _, rfl, DPut.k (k := Sum.inr a) eA7 lkT, ?_⟩
              refine fin _ _ (.inr ⟨t, roR y, rfl, fun x o e => ?_, S4.free nt, ?_, ?_⟩)
              · rw [upd_ne (ne_of_none e nA)]
                exact S57 _ _ (S4 _ _ e)
              · rw [upd_ne (ne_of (Sq _ _ et) eA7 (by intro z; cases z))]
                exact Sq _ _ et
              · rw [← eg, eg']
          · rw [decide_eq_false hk]
            refine iteF ?_
            have eg' : goH ss ws ([kd, a, b, c] :: (rows.map pts).drop (i + 1)) th ts = (match unkR ws (nmL th) a b c with
              | some y => .inl y
              | none => goH ss ws ((rows.map pts).drop (i + 1)) th (addT ts (a, b, c))) := by
              simp only [goH, if_neg hk] <;> rfl
            refine ⟨_, rfl, _, rfl, _, rfl, _, rfl, _, rfl, a, b, c, dA, lW, ws, th, _, rfl, eA4, kT_keys fl, S05 _ _ hW, ?_⟩
            cases hE : unkR ws (nmL th) a b c with
            | none =>
              intro H6 S6
              rw [hE] at eg'
              dsimp only [gName, List.set_cons_succ, List.set_cons_zero]
              refine ⟨_, rfl, _, rfl, _, rfl, _, rfl, by show 3 ≤ sizeLine; decide, fun q2 nq2 => ?_⟩
              have Sq : Same H6 (upd H6 q2 (.tup [.str a, .str b, .str c])) := Same.upd nq2
              have eq2 : (upd H6 q2 (.tup [.str a, .str b, .str c])) q2 = some (.tup ((triK (a, b, c)).map kV)) := upd_same
              generalize upd H6 q2 (.tup [.str a, .str b, .str c]) = H7 at Sq eq2
              have S57 := S6.trans Sq
              have eB7 := S57 _ _ eB4
              refine ⟨dB, _, rfl, DPut.t (k := triK (a, b, c)) eB7 eq2 lk3, ?_⟩
              rw [put3]
              have off : ∀ {x : Addr} {o : HO}, (∀ kvs, o ≠ .dT kvs) → H7 x = some o → (upd H7 dB (.dT (k3 (addT ts (a, b, c))))) x = some o := fun {x o} no h => by
                rw [upd_ne (ne_of h eB7 (no _))]
                exact h
              refine fin _ _ (.inl ⟨th, addT ts (a, b, c), ps, rfl, fun x o e => ?_, off (fun _ z => by cases z) (S57 _ _ eA4), ?_, upd_same, l60, ?_, nd, ?_⟩)
              · rw [upd_ne (ne_of_none e nB1)]
                exact S57 _ _ (S4 _ _ e)
              · exact fa.imp fun x y h => off (fun _ z => by cases z) (S57 _ _ h)
              · unfold addT
                split
                · exact Nat.le_succ_of_le lts
                · rw [List.length_append]
                  exact Nat.succ_le_succ lts
              · rw [← eg, eg']
            | some y =>
              intro t H6 nt S6 et
              rw [hE] at eg'
              dsimp only [gName, List.set_cons_succ, List.set_cons_zero]
              refine ⟨_, rfl, _, rfl, _, rfl, _, rfl, by show 3 ≤ sizeLine; decide, fun q2 nq2 => ?_⟩
              have Sq : Same H6 (upd H6 q2 (.tup [.str a, .str b, .str c])) := Same.upd nq2
              have eq2 : (upd H6 q2 (.tup [.str a, .str b, .str c])) q2 = some (.tup ((triK (a, b, c)).map kV)) := upd_same
              generalize upd H6 q2 (.tup [.str a, .str b, .str c]) = H7 at Sq eq2
              have S57 := S6.trans Sq
              have eB7 := S57 _ _ eB4
              refine ⟨dB, _, rfl, DPut.t (k := triK (a, b, c)) eB7 eq2 lk3, ?_⟩
              refine fin _ _ (.inr ⟨t, y, rfl, fun x o e => ?_, S4.free nt, ?_, ?_⟩)
              · rw [upd_ne (ne_of_none e nB1)]
                exact S57 _ _ (S4 _ _ e)
              · rw [upd_ne (ne_of (Sq _ _ et) eB7 (by intro z; cases z))]
                exact Sq _ _ et
              · rw [← eg, eg']
      · rintro σ' H4 ⟨u6, u7, u8, u9, u10, th, ts, ps, rfl, S4, eA4, fa, eB4, l60, lts, nd, eg⟩
        rw [ll, List.drop_of_length_le (by rw [List.length_map]; exact Nat.le_refl _)] at eg
        rw [← eg] at k
        have fl := fa.len
        have S04 := S1.trans S4
        -- the holdings, sorted
        refine ⟨_, rfl, dB, _, rfl, .inl eB4, fun l5 bs nl5 hks => ?_⟩
        have S5 : Same H4 (upd H4 l5 (.lst (bs.map V.ref))) := Same.upd nl5
        have e5 : (upd H4 l5 (.lst (bs.map V.ref))) l5 = some (.lst (bs.map V.ref)) := upd_same
        have tr : TrisAt K H4 bs ts := keys_tris hks (keys3 ts)
        have tr5 : TrisAt K (upd H4 l5 (.lst (bs.map V.ref))) bs ts := TrisAt.same (fun h => same_seqT S5 h) tr
        generalize upd H4 l5 (.lst (bs.map V.ref)) = H5 at S5 e5 tr5
        refine ⟨l5, bs, ts, rfl, SqL.of e5, tr5, fun hs lh tr6 nlh => ?_⟩
        have S6 : Same H5 (upd H5 lh (.lst (hs.map V.ref))) := Same.upd nlh
        have e6 : (upd H5 lh (.lst (hs.map V.ref))) lh = some (.lst (hs.map V.ref)) := upd_same
        have tr6 : TrisAt K (upd H5 lh (.lst (hs.map V.ref))) hs (sortT ts) := TrisAt.same (fun h => same_seqT S6 h) tr6
        generalize upd H5 lh (.lst (hs.map V.ref)) = H6 at S6 e6 tr6
        have S46 := S5.trans S6
        have S06 := S04.trans S46
        have eA6 := S46 _ _ eA4
        dsimp only [gName, List.set_cons_succ, List.set_cons_zero]
        refine ⟨dA, .dK (kT th ps), eA6, True.intro, fun od => ?_⟩
        have l1 : (upd H6 dA (.frz od (.dK (kT th ps)))) dA = some (.frz od (.dK (kT th ps))) := upd_same
        have SL : ∀ {H'' : Hp}, Same (upd H6 dA (.frz od (.dK (kT th ps)))) H'' → Same H6 (upd H'' dA (.dK (kT th ps))) := fun s => lock_same eA6 s
        have F6 : ∀ {b : Addr}, (upd H6 dA (.frz od (.dK (kT th ps)))) b = none → H6 b = none := fun {b} e => by
          by_cases n : b = dA
          · subst n
            rw [upd_same] at e
            cases e
          · rw [upd_ne n] at e
            exact e
        have faL : FAt (fun q x => (upd H6 dA (.frz od (.dK (kT th ps)))) q = some (.tup [.str x.2.1, .bl x.2.2])) ps th := fa.imp fun x y h => by
          rw [upd_ne (ne_of (S46 _ _ h) eA6 (by intro z; cases z))]
          exact S46 _ _ h
        generalize upd H6 dA (.frz od (.dK (kT th ps))) = L6 at l1 SL F6 faL
        refine ⟨_, rfl, dA, od, rfl, .inl ⟨kT th ps, l1, fun D hD => ?_⟩⟩
        refine lc_it (walk_keys (d := dA) (o := od) (kvs := kT th ps)) (fun i H' => Same L6 H' ∧ ∃ qs : List Addr, H' D = some (.lst (qs.map V.ref)) ∧ FAt (fun q x => H' q = some (.tup (thV x))) qs (th.take i)) ⟨Same.upd hD, [], upd_same, True.intro⟩ (fun i H' _ z => z.1 _ _ l1) ?_ ?_
        · rintro i v H7 H7' hi ⟨S7, qs', h7, fa7⟩ ⟨rfl, kk, vv, hkv, rfl⟩
          rw [kT_len fl] at hi
          obtain ⟨t, q, ht, hq, rfl, rfl⟩ := kT_at hkv
          obtain ⟨t', ht', hqt⟩ := FAt.get faL hq
          rw [ht] at ht'
          obtain rfl := Option.some.inj ht'
          have gd : DGet H7' dA (.str t.1) (some (.ref q)) := .inl ⟨kT th ps, Sum.inr t.1, .inr ⟨od, S7 _ _ l1⟩, rfl, by rw [kT_val nd ht hq]⟩
          have sq : SqT K H7' q [.str t.2.1, .bl t.2.2] := SqT.of (S7 _ _ hqt)
          refine ⟨rfl, _, rfl, _, rfl, _, rfl, dA, _, rfl, gd, q, _, 0, _, rfl, rfl, sq, rfl, _, rfl, _, rfl, dA, _, rfl, gd, q, _, 1, _, rfl, rfl, sq, rfl, by show 3 ≤ sizeLine; decide, fun t2 nt2 => ?_⟩
          rw [show kV (Sum.inr t.1 : L2.Key) = V.str t.1 from rfl]
          have S2 : Same H7' (upd H7' t2 (.tup [.str t.1, .str t.2.1, .bl t.2.2])) := Same.upd nt2
          have e2 : (upd H7' t2 (.tup [.str t.1, .str t.2.1, .bl t.2.2])) t2 = some (.tup (thV t)) := upd_same
          generalize upd H7' t2 (.tup [.str t.1, .str t.2.1, .bl t.2.2]) = H8 at S2 e2
          have off : ∀ {x : Addr} {xs : List V}, H8 x = some (.tup xs) → (upd H8 D (.lst (qs'.map V.ref ++ [.ref t2]))) x = some (.tup xs) := fun {x xs} h => by
            rw [upd_ne (ne_of h (S2 _ _ h7) (by intro z; cases z))]
            exact h
          refine ⟨_, S2 _ _ h7, ?_, fun x o e => ?_, qs' ++ [t2], by rw [upd_same, List.map_append]; rfl, ?_⟩
          · rw [List.length_map, fa7.len, List.length_take]
            exact Nat.lt_of_le_of_lt (show _ ≤ 1000 by omega) (by decide)
          · rw [upd_ne (ne_of_none e hD)]
            exact S2 _ _ (S7 _ _ e)
          · rw [List.take_add_one, ht]
            exact FAt.snoc (off e2) (fa7.imp fun x y h => off (S2 _ _ h))
        · rintro H7 ⟨S7, qs', h7, fa7⟩
          rw [kT_len fl, List.take_length] at fa7
          refine ⟨S7 _ _ l1, ?_⟩
          have offA : ∀ {x : Addr} {o : HO}, (∀ od' u, o ≠ .frz od' u) → H7 x = some o → (upd H7 dA (.dK (kT th ps))) x = some o := fun {x o} no h => by
            rw [upd_ne (ne_of h (S7 _ _ l1) (no _ _))]
            exact h
          have S8 := SL S7
          have h8 := offA (fun _ _ z => by cases z) h7
          have fa8 : FAt (fun q x => (upd H7 dA (.dK (kT th ps))) q = some (.tup (thV x))) qs' th := fa7.imp fun x y h => offA (fun _ _ z => by cases z) h
          generalize upd H7 dA (.dK (kT th ps)) = H8 at S8 h8 fa8
          refine ⟨_, rfl, by show 3 ≤ sizeLine; decide, fun t nt => ?_⟩
          have S9 : Same H8 (upd H8 t (.tup [.str "told", .ref D, .ref lh])) := Same.upd nt
          have e9 : (upd H8 t (.tup [.str "told", .ref D, .ref lh])) t = some (.tup [.str "told", .ref D, .ref lh]) := upd_same
          generalize upd H8 t (.tup [.str "told", .ref D, .ref lh]) = H9 at S9 e9
          refine k t H9 (S06.free (S8.free nt)) (S06.trans (S8.trans S9)) ?_
          rw [show ([] : List (List Str)) = [] from rfl]
          exact ⟨D, lh, qs', hs, e9, S9 _ _ h8, fa8.imp fun x y h => S9 _ _ h, S9 _ _ (S8 _ _ e6), TrisAt.same (fun h => same_seqT (S8.trans S9) h) tr6⟩
end
end Wm
namespace Wm
open PySem PySem.Spec PyProof.Rows L2
/-! ### the triples' order is one -/
theorem le3_trans (a b c : Str × Str × Str) (h1 : PySem.W.dataLe false triD3 a b = true) (h2 : PySem.W.dataLe false triD3 b c = true) : PySem.W.dataLe false triD3 a c = true := by
  rw [PySem.W.dataLe_eq] at *
  simp only [cond_false, Bool.not_eq_true', PySem.W.dataLt] at *
  cases e : PyProof.Rows.lexLt itemOrd (PySem.W.keyToks (triD3 c)) (PySem.W.keyToks (triD3 a)) with
  | false => rfl
  | true =>
    rcases lex_negTrans (O := itemOrd) _ (PySem.W.keyToks (triD3 b)) _ e with z | z
    · rw [h2] at z
      cases z
    · rw [h1] at z
      cases z
theorem le3_total (a b : Str × Str × Str) : (PySem.W.dataLe false triD3 a b || PySem.W.dataLe false triD3 b a) = true := by
  rw [PySem.W.dataLe_eq]
  simp only [cond_false, PySem.W.dataLt]
  cases e : PyProof.Rows.lexLt itemOrd (PySem.W.keyToks (triD3 b)) (PySem.W.keyToks (triD3 a)) with
  | false => rfl
  | true =>
    cases e2 : PyProof.Rows.lexLt itemOrd (PySem.W.keyToks (triD3 a)) (PySem.W.keyToks (triD3 b)) with
    | false => rfl
    | true =>
      have z := lex_trans (O := itemOrd) _ _ _ e e2
      rw [lex_irrefl] at z
      cases z
theorem le3_anti (a b : Str × Str × Str) (h1 : PySem.W.dataLe false triD3 a b = true) (h2 : PySem.W.dataLe false triD3 b a = true) : a = b := by
  rw [PySem.W.dataLe_eq] at *
  simp only [cond_false, Bool.not_eq_true', PySem.W.dataLt] at *
  have e := lex_total (O := itemOrd) _ _ h2 h1
  obtain ⟨x, y, z⟩ := a
  obtain ⟨x', y', z'⟩ := b
  simp only [triD3, PySem.W.keyToks, PySem.W.keyToksAll, List.singleton_append, List.cons_append, List.nil_append, List.cons.injEq, Sum.inr.injEq, and_true, true_and] at e
  obtain ⟨e1, e2, e3⟩ := e
  rw [PySem.W.str_of_cps e1, PySem.W.str_of_cps e2, PySem.W.str_of_cps e3]
theorem sortT_sorted (ts : List (Str × Str × Str)) : (sortT ts).Pairwise fun a b => PySem.W.dataLe false triD3 a b = true := List.pairwise_mergeSort le3_trans le3_total ts
theorem sortT_perm {ts us : List (Str × Str × Str)} (p : ts.Perm us) : sortT ts = sortT us := by
  have q : (sortT ts).Perm (sortT us) := (List.mergeSort_perm _ _).trans (p.trans (List.mergeSort_perm _ _).symm)
  have go : ∀ {xs ys : List (Str × Str × Str)}, xs.Perm ys → xs.Pairwise (fun a b => PySem.W.dataLe false triD3 a b = true) → ys.Pairwise (fun a b => PySem.W.dataLe false triD3 a b = true) → xs = ys := by
    intro xs
    induction xs with
    | nil => exact fun p _ _ => (List.nil_perm.mp p).symm ▸ rfl
    | cons x xs ih =>
      intro ys p h1 h2
      cases ys with
      | nil => exact absurd p.length_eq (by simp)
      | cons y ys =>
        have exy : x = y := by
          by_cases e : x = y
          · exact e
          · have m1 : y ∈ xs := (List.mem_cons.mp (p.symm.mem_iff.mp List.mem_cons_self)).resolve_left fun z => e z.symm
            have m2 : x ∈ ys := (List.mem_cons.mp (p.mem_iff.mp List.mem_cons_self)).resolve_left e
            exact le3_anti x y ((List.pairwise_cons.mp h1).1 y m1) ((List.pairwise_cons.mp h2).1 x m2)
        subst exy
        rw [ih ((List.perm_cons x).mp p) (List.pairwise_cons.mp h1).2 (List.pairwise_cons.mp h2).2]
  exact go q (sortT_sorted ts) (sortT_sorted us)
end Wm
/-! names for readings that the library leaves unnamed -/
namespace Wm
open PySem L2
abbrev rAddI : R2 := rI0 fun i j => .int (i + j)
abbrev rSubI : R2 := rI0 fun i j => .int (i - j)
abbrev rMulI : R2 := rI CMul fun i j => .int (i * j)
abbrev rModI : R2 := rI (fun _ j => 0 < j) fun i j => .int (i % j)
abbrev rDivI : R2 := rI CDiv fun i j => .int (i / j)
abbrev rAddS : R2 := fun x y H Q => ∃ i j, x = .str i ∧ y = .str j ∧ i.length + j.length ≤ sizeLine ∧ Q (.str (i ++ j)) H
abbrev rLtI : R2 := rI0 fun i j => .bl (decide (i < j))
abbrev rLeI : R2 := rI0 fun i j => .bl (decide (i ≤ j))
abbrev rGtI : R2 := rI0 fun i j => .bl (decide (j < i))
abbrev rGeI : R2 := rI0 fun i j => .bl (decide (j ≤ i))
abbrev rInSg : R2 := fun x y H Q => ∃ (c : Nat) (z : Str), x = .str ⟨#[c]⟩ ∧ y = .str z ∧ Q (.bl (decide (c ∈ z.cps.toList))) H
abbrev rNiSg : R2 := fun x y H Q => ∃ (c : Nat) (z : Str), x = .str ⟨#[c]⟩ ∧ y = .str z ∧ Q (.bl (!decide (c ∈ z.cps.toList))) H
abbrev rInt1 : List V → Hp → VK → Prop := fun xs H Q => (∃ i, xs = [.int i] ∧ Q (.int i) H) ∨ ∃ k, xs = [.bl k] ∧ Q (.int (if k then 1 else 0)) H
abbrev rLenS : List V → Hp → VK → Prop := fun xs H Q => ∃ z, xs = [.str z] ∧ z.length ≤ sizeLine ∧ Q (.int z.length) H
abbrev rLenL (K : PySem.W.Frag) : List V → Hp → VK → Prop := fun xs H Q => ∃ p ys, xs = [.ref p] ∧ (SqL K H p ys ∨ SqT K H p ys) ∧ Q (.int ys.length) H
abbrev rStrI : List V → Hp → VK → Prop := fun xs H Q => ∃ i, xs = [.int i] ∧ i.natAbs.log2 < 1920 ∧ Q (.str (toString i)) H
abbrev rLstOf (K : PySem.W.Frag) : List V → Hp → VK → Prop := fun xs H Q => ∃ p ys, xs = [.ref p] ∧ (SqL K H p ys ∨ SqT K H p ys) ∧ ∀ l, H l = none → Q (.ref l) (upd H l (.lst ys))
end Wm
namespace Wm
open PySem L2 StX
/-- what is known of a house that was read -/
structure Gd (ss ws : List Str) (th : List Thing) (ts : List T3) (n : Nat) : Prop where
  nd : (nmL th).Nodup
  l60 : th.length ≤ 60
  nm : ∀ t ∈ th, isNm t.1 = true ∧ t.2.1 ∈ ss
  ho : ∀ t ∈ ts, t.1 ∈ nmL th ∧ t.2.1 ∈ ws ∧ t.2.2 ∈ nmL th
  ndt : ts.Nodup
  ln : ts.length ≤ n
theorem nm_app (a b : List Thing) : nmL (a ++ b) = nmL a ++ nmL b := by
  unfold nmL
  rw [List.map_append]
theorem addT_mem {ts : List T3} {t u : T3} : u ∈ addT ts t ↔ u ∈ ts ∨ u = t := by
  unfold addT
  split
  · rename_i h
    exact ⟨fun z => .inl z, fun z => z.elim id fun e => by rw [e]; exact h⟩
  · rw [List.mem_append, List.mem_singleton]
theorem addT_nd {ts : List T3} {t : T3} (h : ts.Nodup) : (addT ts t).Nodup := by
  unfold addT
  split
  · exact h
  · rename_i n
    rw [List.nodup_append]
    exact ⟨h, by simp, fun a ha b hb e => by
      have eb : b = t := by simpa using hb
      rw [e, eb] at ha
      exact n ha⟩
theorem addT_len {ts : List T3} {t : T3} : (addT ts t).length ≤ ts.length + 1 := by
  unfold addT
  split
  · omega
  · rw [List.length_append]
    exact Nat.le_refl _
theorem addT_new {ts : List T3} {t : T3} (h : t ∉ ts) : addT ts t = ts ++ [t] := if_neg h
theorem goH_ot {ss ws : List Str} {th th' : List Thing} {ts ts' : List T3} {n m : Nat} (g : Gd ss ws th ts n) (e : (Sum.inr (th, ts) : Sum Ro (List Thing × List T3)) = .inr (th', ts')) : Gd ss ws th' ts' (n + 1 + m) := by
  cases e
  exact ⟨g.nd, g.l60, g.nm, g.ho, g.ndt, by have := g.ln; omega⟩
theorem goH_gd {ss ws : List Str} : ∀ {ps : List (List Str)} {th : List Thing} {ts : List T3} {n : Nat} {th' : List Thing} {ts' : List T3}, Gd ss ws th ts n → goH ss ws ps th ts = .inr (th', ts') → Gd ss ws th' ts' (n + ps.length)
  | [], th, ts, n, th', ts', g, e => by
    have e' : (Sum.inr (th, ts) : Sum Ro (List Thing × List T3)) = .inr (th', ts') := e
    cases e'
    exact g
  | p :: ps, th, ts, n, th', ts', g, e => by
    have ih := @goH_gd ss ws ps
    rw [List.length_cons, show n + (ps.length + 1) = (n + 1) + ps.length by omega]
    match p, e with
    | [k, a, b, c], e =>
      by_cases hk : k = "thing"
      · simp only [goH, if_pos hk] at e
        cases hE : entD ss th a b with
        | some y =>
          rw [hE] at e
          cases e
        | none =>
          rw [hE] at e
          have hm : isNm a = true ∧ a ∉ nmL th ∧ b ∈ ss ∧ th.length < 60 := by
            unfold entD at hE
            by_cases h1 : isNm a = true
            · rw [if_pos h1] at hE
              by_cases h2 : a ∈ nmL th
              · rw [if_pos h2] at hE
                cases hE
              · rw [if_neg h2] at hE
                by_cases h3 : b ∈ ss
                · rw [if_pos h3] at hE
                  by_cases h4 : th.length < 60
                  · exact ⟨h1, h2, h3, h4⟩
                  · rw [if_neg h4] at hE
                    cases hE
                · rw [if_neg h3] at hE
                  cases hE
            · rw [if_neg h1] at hE
              cases hE
          obtain ⟨h1, h2, h3, h4⟩ := hm
          refine ih (n := n + 1) ⟨?_, by rw [List.length_append]; exact h4, fun t ht => ?_, fun t ht => ?_, g.ndt, Nat.le_succ_of_le g.ln⟩ e
          · rw [nm_app, List.nodup_append]
            refine ⟨g.nd, by simp [nmL], fun x hx y hy e => ?_⟩
            have ey : y = a := by simpa [nmL] using hy
            rw [e, ey] at hx
            exact h2 hx
          · rcases List.mem_append.mp ht with h | h
            · exact g.nm t h
            · rw [List.mem_singleton.mp h]
              exact ⟨h1, h3⟩
          · obtain ⟨x, y, z⟩ := g.ho t ht
            rw [nm_app]
            exact ⟨List.mem_append_left _ x, y, List.mem_append_left _ z⟩
      · simp only [goH, if_neg hk] at e
        cases hE : unkR ws (nmL th) a b c with
        | some y =>
          rw [hE] at e
          cases e
        | none =>
          rw [hE] at e
          have hm : a ∈ nmL th ∧ b ∈ ws ∧ c ∈ nmL th := by
            unfold unkR at hE
            by_cases h1 : a ∈ nmL th
            · rw [if_pos h1] at hE
              by_cases h2 : c ∈ nmL th
              · rw [if_pos h2] at hE
                by_cases h3 : b ∈ ws
                · exact ⟨h1, h3, h2⟩
                · rw [if_neg h3] at hE
                  cases hE
              · rw [if_neg h2] at hE
                cases hE
            · rw [if_neg h1] at hE
              cases hE
          refine ih (n := n + 1) ⟨g.nd, g.l60, g.nm, fun t ht => ?_, addT_nd g.ndt, Nat.le_trans addT_len (Nat.succ_le_succ g.ln)⟩ e
          rcases addT_mem.mp ht with h | h
          · exact g.ho t h
          · rw [h]
            exact hm
    | [], e => exact goH_ot g e
    | [_], e => exact goH_ot g e
    | [_, _], e => exact goH_ot g e
    | [_, _, _], e => exact goH_ot g e
    | _ :: _ :: _ :: _ :: _ :: _, e => exact goH_ot g e
theorem read_gd {ss ws rows : List Str} {th : List Thing} {ts : List T3} (h : readD ss ws rows = .inr (th, ts)) : Gd ss ws th ts rows.length := by
  unfold readD at h
  cases hb : badAt rows with
  | some n =>
    rw [hb] at h
    cases h
  | none =>
    rw [hb] at h
    have := goH_gd (n := 0) (th := []) (ts := []) ⟨(List.nodup_nil : ([] : List Str).Nodup), Nat.zero_le _, fun t ht => (List.not_mem_nil ht).elim, fun t ht => (List.not_mem_nil ht).elim, List.nodup_nil, Nat.le_refl _⟩ h
    rwa [List.length_map, Nat.zero_add] at this
theorem let_ok : ∀ c ∈ LET, c < 1114112 := by decide +kernel
theorem fig_ok : ∀ c ∈ FIG, c < 1114112 := by decide +kernel
theorem isNm_ok {z : Str} (h : isNm z = true) : okS z ∧ z.length ≤ 12 := by
  unfold isNm at h
  simp only [Bool.and_eq_true, decide_eq_true_eq] at h
  obtain ⟨_, h2, _, h3⟩ := h
  refine ⟨fun c hc => ?_, h2⟩
  have := List.all_eq_true.mp h3 c hc
  unfold okc at this
  rw [Bool.or_eq_true, decide_eq_true_eq, decide_eq_true_eq] at this
  exact this.elim (let_ok c) (fig_ok c)
theorem nm_ok {ss ws : List Str} {th : List Thing} {ts : List T3} {n : Nat} (g : Gd ss ws th ts n) {z : Str} (h : z ∈ nmL th) : okS z ∧ z.length ≤ 12 := by
  obtain ⟨t, ht, rfl⟩ := List.mem_map.mp h
  exact isNm_ok (g.nm t ht).1
/-- the rows of a house -/
def stZ (b : Bool) : Str := if b = true then "awake" else "asleep"
def thR (t : Thing) : Str := "thing " ++ t.1 ++ " " ++ t.2.1 ++ " " ++ stZ t.2.2
def hoR (t : T3) : Str := "holds " ++ t.1 ++ " " ++ t.2.1 ++ " " ++ t.2.2
def allR (th : List Thing) (ts : List T3) : List Str := th.map thR ++ (sortT ts).map hoR
theorem emp_app (z : Str) : Str.empty ++ z = z := str_ext (by rw [toList_app]; rfl)
theorem app_asc (a b c : Str) : (a ++ b) ++ c = a ++ (b ++ c) := str_ext (by rw [toList_app, toList_app, toList_app, toList_app, List.append_assoc])
theorem sortT_mem {ts : List T3} {t : T3} : t ∈ sortT ts ↔ t ∈ ts := (List.mergeSort_perm ts _).mem_iff
theorem nm_get {th : List Thing} {i : Nat} {v : V} (h : ((nmL th).map V.str)[i]? = some v) : ∃ t, th[i]? = some t ∧ v = .str t.1 := by
  unfold nmL at h
  rw [List.map_map, List.getElem?_map] at h
  obtain ⟨t, ht, e⟩ := Option.map_eq_some_iff.mp h
  exact ⟨t, ht, e.symm⟩
theorem srt_at {th : List Thing} {i : Nat} {t : Thing} (nd : (nmL th).Nodup) (h : th[i]? = some t) : srt th t.1 = some t.2.1 ∧ awk th t.1 = some t.2.2 := by
  have m := List.mem_of_getElem? h
  unfold srt awk
  rw [find_nd nd m]
  exact ⟨rfl, rfl⟩
theorem tris_at {K : PySem.W.Frag} {H : Hp} : ∀ {qs : List Addr} {ts : List T3} {i : Nat} {v : V}, TrisAt K H qs ts → (qs.map V.ref)[i]? = some v → ∃ q t, v = .ref q ∧ SqT K H q (triV3 t) ∧ ts[i]? = some t
  | [], [], _, _, _, e => by simp at e
  | q :: _, t :: _, 0, _, h, e => ⟨q, t, (Option.some.inj e).symm, h.1, rfl⟩
  | _ :: qs, _ :: ts, i + 1, _, h, e => tris_at (qs := qs) (ts := ts) (i := i) h.2 e
  | [], _ :: _, _, _, h, _ => h.elim
  | _ :: _, [], _, _, h, _ => h.elim
abbrev rJoinT (K : PySem.W.Frag) : V → List V → Hp → VK → Prop := fun x xs H Q => ∃ a p, ∃ ys : List Str, x = .str a ∧ xs = [.ref p] ∧ (SqL K H p (ys.map V.str) ∨ SqT K H p (ys.map V.str)) ∧ (ys.map (·.length)).sum + ys.length * a.length ≤ 16777216 ∧ Q (.str (Txt.join a ys)) H
theorem join3 (a b c : Str) : Txt.join " " [a, b, c] = a ++ (" " ++ (b ++ (" " ++ c))) := by
  rw [show Txt.join " " [a, b, c] = Str.join ⟨#[32]⟩ [a, b, c] from StrLaws.glued_eq_join _ _]
  refine str_ext ?_
  rw [join_two, join_two, toList_app, toList_app, toList_app, toList_app]
  rfl
def nt (t : Thing) : Thing := (t.1, t.2.1, !t.2.2)
theorem nm_nt (th : List Thing) : nmL (th.map nt) = nmL th := by
  unfold nmL
  rw [List.map_map]
  rfl
theorem tris_rev {K : PySem.W.Frag} {H : Hp} : ∀ {qs : List Addr} {ts : List T3}, TrisAt K H qs ts → TrisAt K H qs.reverse ts.reverse := by
  have app : ∀ {qs ps : List Addr} {ts us : List T3}, TrisAt K H qs ts → TrisAt K H ps us → TrisAt K H (qs ++ ps) (ts ++ us) := by
    intro qs
    induction qs with
    | nil =>
      intro ps ts us h1 h2
      cases ts with
      | nil => exact h2
      | cons => exact h1.elim
    | cons q qs ih =>
      intro ps ts us h1 h2
      cases ts with
      | nil => exact h1.elim
      | cons t ts => exact ⟨h1.1, ih h1.2 h2⟩
  intro qs
  induction qs with
  | nil =>
    intro ts h
    cases ts with
    | nil => exact True.intro
    | cons => exact h.elim
  | cons q qs ih =>
    intro ts h
    cases ts with
    | nil => exact h.elim
    | cons t ts =>
      rw [List.reverse_cons, List.reverse_cons]
      exact app (ih h.2) ⟨h.1, True.intro⟩
def wk (th : List Thing) (i : Nat) : List Thing := th.take i ++ (th.drop i).map nt
theorem wk_nm (th : List Thing) (i : Nat) : nmL (wk th i) = nmL th := by
  unfold wk
  rw [nm_app, nm_nt, ← nm_app, List.take_append_drop]
theorem setA_out {l : List Thing} {n : Str} {b : Bool} (h : n ∉ nmL l) : setA l n b = l := by
  unfold setA
  conv => rhs; rw [← List.map_id l]
  refine List.map_congr_left fun t ht => ?_
  rw [if_neg fun e => h (List.mem_map.mpr ⟨t, ht, e⟩)]
  rfl
theorem wk_set {th : List Thing} {i : Nat} {t : Thing} (nd : (nmL th).Nodup) (h : th[i]? = some t) : setA (wk th i) t.1 t.2.2 = wk th (i + 1) := by
  have il := (List.getElem?_eq_some_iff.mp h).1
  have ed : th.drop i = t :: th.drop (i + 1) := by
    rw [List.drop_eq_getElem_cons il, (List.getElem?_eq_some_iff.mp h).2]
  have et : th.take (i + 1) = th.take i ++ [t] := by
    rw [List.take_add_one, h]
    rfl
  have e0 : th = th.take i ++ t :: th.drop (i + 1) := by rw [← ed, List.take_append_drop]
  have nd' : (nmL (th.take i) ++ t.1 :: nmL (th.drop (i + 1))).Nodup := by
    have := nd
    rw [e0, nm_app] at this
    exact this
  rw [List.nodup_append] at nd'
  obtain ⟨_, n2, n3⟩ := nd'
  rw [List.nodup_cons] at n2
  unfold wk
  rw [ed, et]
  have app : ∀ a b : List Thing, setA (a ++ b) t.1 t.2.2 = setA a t.1 t.2.2 ++ setA b t.1 t.2.2 := fun a b => by
    unfold setA
    rw [List.map_append]
  rw [app, setA_out fun z => n3 _ z _ List.mem_cons_self rfl, List.map_cons, List.append_assoc]
  congr 1
  show (if (nt t).1 = t.1 then ((nt t).1, (nt t).2.1, t.2.2) else nt t) :: setA ((th.drop (i + 1)).map nt) t.1 t.2.2 = _
  rw [if_pos (show (nt t).1 = t.1 from rfl), setA_out (by rw [nm_nt]; exact n2.1)]
  rfl
theorem wk_0 (th : List Thing) : wk th 0 = th.map nt := rfl
theorem wk_all (th : List Thing) : wk th th.length = th := by
  unfold wk
  rw [List.take_length, List.drop_length]
  exact List.append_nil _
def spHwk (HC S : Addr) (b : Bool) : Sp := fun vs H Q _ => ∃ (x dx sc d1 d2 d3 : Addr) (n : Str) (ss ws : List Str) (th : List Thing) (ts : List T3), vs = [.ref x, .str n] ∧ HsAt HC S H x dx sc d1 d2 d3 ss ws th ts ∧ n ∈ nmL th ∧ th.length ≤ 1000 ∧
  ∀ H', But d2 H H' → HsAt HC S H' x dx sc d1 d2 d3 ss ws (setA th n b) ts → Q .non H'
def spBui (K : PySem.W.Frag) (HC S : Addr) : Sp := fun vs H Q _ => ∃ (sc t : Addr) (ss ws : List Str) (th : List Thing) (ts : List T3), vs = [.ref sc, .ref t] ∧ SchAt S H sc ss ws ∧ AnsAt K H t (.inr (th, ts)) ∧ Gd ss ws th ts 500 ∧
  ∀ x dx d1 d2 d3 H' us, Same H H' → H x = none → HsAt HC S H' x dx sc d1 d2 d3 ss ws th us → us.Perm ts → Q (.ref x) H'
def spSho (K : PySem.W.Frag) (HC S : Addr) : Sp := fun vs H Q _ => ∃ (x dx sc d1 d2 d3 : Addr) (ss ws : List Str) (th : List Thing) (ts : List T3), vs = [.ref x] ∧ HsAt HC S H x dx sc d1 d2 d3 ss ws th ts ∧ (nmL th).Nodup ∧ th.length ≤ 60 ∧ ∀ t H', H t = none → Same H H' → AnsAt K H' t (.inr (th, ts)) → Q (.ref t) H'
def spHor (HC S : Addr) : Sp := fun vs H Q _ => ∃ (x dx sc d1 d2 d3 : Addr) (ss ws : List Str) (th : List Thing) (ts : List T3), vs = [.ref x] ∧ HsAt HC S H x dx sc d1 d2 d3 ss ws th ts ∧ Gd ss ws th ts 500 ∧ RowsOk 12 ss ∧ RowsOk 12 ws ∧ ∀ l H', H l = none → Same H H' → H' l = some (.lst ((allR th ts).map V.str)) → Q (.ref l) H'
def spTor (K : PySem.W.Frag) : Sp := fun vs H Q _ => ∃ (t : Addr) (ss ws : List Str) (th : List Thing) (ts : List T3), vs = [.ref t] ∧ AnsAt K H t (.inr (th, ts)) ∧ Gd ss ws th ts 500 ∧ RowsOk 12 ss ∧ RowsOk 12 ws ∧ ∀ l H', H l = none → Same H H' → H' l = some (.lst ((allR th ts).map V.str)) → Q (.ref l) H'
section
variable {P : Program} {w : World} {K : PySem.W.Frag} {mg : Str → Option Value} {base : Heap}
theorem scSho : FnScope ["_law_house", "_law_things", "_law_name"] ["_law_house"] (defScope sSho) := ⟨rfl, rfl, rfl, by decide +kernel, rfl, by decide +kernel, by decide +kernel⟩
theorem ok_sho {f HC S fH fTh fSo fIa fHe : Addr} {fd dTh dSo dIa dHe : FuncData} (F : Fun K "_law_shown" "_law_shown" sSho f fd) (TH : TxH K mg HC fH)
    (mTh : Meth K HC "things" fTh) (bTh : Binds K dTh ["self"] []) (GTh : FnOk P w K mg base CX0 1 fTh dTh ["self"] (spHth HC S)) (mSo : Meth K HC "sort_of" fSo) (bSo : Binds K dSo ["self", "x"] []) (GSo : FnOk P w K mg base CX0 2 fSo dSo ["self", "x"] (spHso HC S))
    (mIa : Meth K HC "is_awake" fIa) (bIa : Binds K dIa ["self", "x"] []) (GIa : FnOk P w K mg base CX0 2 fIa dIa ["self", "x"] (spHia HC S)) (mHe : Meth K HC "held" fHe) (bHe : Binds K dHe ["self"] []) (GHe : FnOk P w K mg base CX0 1 fHe dHe ["self"] (spHhe K HC S)) :
    FnOk P w K mg base CX0 3 f fd ["_law_house"] (spSho K HC S) := by
  refine F.ok scSho (fun vs H Q E h => ?_) (fun cdv A outer s H vs Q E hr h => ?_)
  · obtain ⟨x, dx, sc, d1, d2, d3, ss, ws, th, ts, rfl, _⟩ := h
    rfl
  · obtain ⟨x, dx, sc, d1, d2, d3, ss, ws, th, ts, rfl, hh, nd, l60, k⟩ := h
    have hr1 : Room 1 _ := hr.mono (by decide)
    have hr2 : Room 2 _ := hr.mono (by decide)
    refine ⟨_, (pss_cons (ps_setLc (i := 1) (own := [("_law_name", 2)]) (g := gName 2) rfl scSho.nd rfl rfl (sw_true rfl rfl rfl (by decide +kernel)) (pi_list (pe_meth0 (pv 0) TH.cl mTh GTh hr1 bTh .nil pass0)) (blkOk_by (N := ["_law_house", "_law_things", "_law_name"]) (sc := defScope sSho) (by decide +kernel)) (fun _ _ _ _ _ => (pg_name (i := 2) scSho.nd rfl (Or.inl rfl))) (fun _ _ _ _ _ => pts_nil) (fun _ _ _ _ _ => (pe_tup (pa_cons (pv 2) (pa_cons (pe_meth (pv 0) TH.cl mSo GSo hr2 bSo .nil pass0 (pa_cons (pv 2) pa_nil)) (pa_cons (pe_meth (pv 0) TH.cl mIa GIa hr2 bIa .nil pass0 (pa_cons (pv 2) pa_nil)) pa_nil))))))
      (pss_one (ps_ret (pe_tup (pa_cons pe_str (pa_cons (pv 1) (pa_cons (pe_meth0 (pv 0) TH.cl mHe GHe hr1 bHe .nil pass0) pa_nil))))))), ?_⟩
    rw [show L2.start ["_law_house", "_law_things", "_law_name"] [V.ref x] = [some (.ref x), none, none] from rfl]
    have no : ∀ {f : Str}, ¬ f = "standing" → ¬ f = "awake_by_name" → ¬ f = "sort_by_name" → ¬ f = "own_scheme" → (hsF sc d1 d2 d3).lookup f = none := fun a b c d => hsF_no a b c d _ _ _ _
    refine ⟨_, rfl, x, dx, _, rfl, hh.hx, no (by decide +kernel) (by decide +kernel) (by decide +kernel) (by decide +kernel), x, dx, sc, d1, d2, d3, ss, ws, th, ts, rfl, hh, fun l hl => ?_⟩
    have Sl : Same H (upd H l (.lst ((nmL th).map V.str))) := Same.upd hl
    have el : (upd H l (.lst ((nmL th).map V.str))) l = some (.lst ((nmL th).map V.str)) := upd_same
    generalize upd H l (.lst ((nmL th).map V.str)) = H1 at Sl el
    have lnn : ((nmL th).map V.str).length = th.length := by
      unfold nmL
      rw [List.length_map, List.length_map]
    refine ⟨l, rfl, ⟨_, SqL.of el⟩, fun D hD => ?_⟩
    refine lc_it (walk_list (xs := (nmL th).map V.str)) (fun i H' => Same H1 H' ∧ ∃ qs : List Addr, H' D = some (.lst (qs.map V.ref)) ∧ FAt (fun q y => H' q = some (.tup (thV y))) qs (th.take i)) ⟨Same.upd hD, [], upd_same, True.intro⟩ (fun i H' _ z => SqL.of (z.1 _ _ el)) ?_ ?_
    · rintro i v H2 H2' hi ⟨S2, qs, e2, fa⟩ ⟨rfl, hv⟩
      obtain ⟨t, ht, rfl⟩ := nm_get hv
      obtain ⟨s1, s2⟩ := srt_at nd ht
      have hm : t.1 ∈ nmL th := List.mem_map.mpr ⟨t, List.mem_of_getElem? ht, rfl⟩
      have h2 := hh.same (Sl.trans S2)
      rw [lnn] at hi
      refine ⟨rfl, _, rfl, _, rfl, x, dx, _, rfl, h2.hx, no (by decide +kernel) (by decide +kernel) (by decide +kernel) (by decide +kernel), _, rfl, x, dx, sc, d1, d2, d3, t.1, t.2.1, ss, ws, th, ts, rfl, h2, hm, s1, ?_⟩
      refine ⟨_, rfl, x, dx, _, rfl, h2.hx, no (by decide +kernel) (by decide +kernel) (by decide +kernel) (by decide +kernel), _, rfl, x, dx, sc, d1, d2, d3, t.1, t.2.2, ss, ws, th, ts, rfl, h2, hm, s2, ?_⟩
      refine ⟨by show 3 ≤ sizeLine; decide, fun t2 nt2 => ?_⟩
      have S3 : Same H2' (upd H2' t2 (.tup [.str t.1, .str t.2.1, .bl t.2.2])) := Same.upd nt2
      have e3 : (upd H2' t2 (.tup [.str t.1, .str t.2.1, .bl t.2.2])) t2 = some (.tup (thV t)) := upd_same
      generalize upd H2' t2 (.tup [.str t.1, .str t.2.1, .bl t.2.2]) = H3 at S3 e3
      have off : ∀ {z : Addr} {xs : List V}, H3 z = some (.tup xs) → (upd H3 D (.lst (qs.map V.ref ++ [.ref t2]))) z = some (.tup xs) := fun {z xs} h => by
        rw [upd_ne (ne_of h (S3 _ _ e2) (by intro z; cases z))]
        exact h
      refine ⟨_, S3 _ _ e2, ?_, fun z o e => ?_, qs ++ [t2], by rw [upd_same, List.map_append]; rfl, ?_⟩
      · rw [List.length_map, fa.len, List.length_take]
        exact Nat.lt_of_le_of_lt (show _ ≤ 1000 by omega) (by decide)
      · rw [upd_ne (ne_of_none e hD)]
        exact S3 _ _ (S2 _ _ e)
      · rw [List.take_add_one, ht]
        exact FAt.snoc (off e3) (fa.imp fun y z h => off (S3 _ _ h))
    · rintro H2 ⟨S2, qs, e2, fa⟩
      rw [lnn, List.take_length] at fa
      have h2 := hh.same (Sl.trans S2)
      dsimp only [gName, List.set_cons_succ, List.set_cons_zero]
      refine ⟨_, rfl, _, rfl, x, dx, _, rfl, h2.hx, no (by decide +kernel) (by decide +kernel) (by decide +kernel) (by decide +kernel), x, dx, sc, d1, d2, d3, ss, ws, th, ts, rfl, h2, fun hs lh tr nlh => ?_⟩
      have S3 : Same H2 (upd H2 lh (.lst (hs.map V.ref))) := Same.upd nlh
      have e3 : (upd H2 lh (.lst (hs.map V.ref))) lh = some (.lst (hs.map V.ref)) := upd_same
      have tr3 : TrisAt K (upd H2 lh (.lst (hs.map V.ref))) hs (sortT ts) := TrisAt.same (fun h => same_seqT S3 h) tr
      generalize upd H2 lh (.lst (hs.map V.ref)) = H3 at S3 e3 tr3
      refine ⟨by show 3 ≤ sizeLine; decide, fun t nt => ?_⟩
      have S4 : Same H3 (upd H3 t (.tup [.str "told", .ref D, .ref lh])) := Same.upd nt
      have e4 : (upd H3 t (.tup [.str "told", .ref D, .ref lh])) t = some (.tup [.str "told", .ref D, .ref lh]) := upd_same
      generalize upd H3 t (.tup [.str "told", .ref D, .ref lh]) = H4 at S4 e4
      have S03 := (Sl.trans S2).trans S3
      exact k t H4 (S03.free nt) (S03.trans S4) ⟨D, lh, qs, hs, e4, S4 _ _ (S3 _ _ e2), fa.imp fun y z h => S4 _ _ (S3 _ _ h), S4 _ _ e3, TrisAt.same (fun h => same_seqT S4 h) tr3⟩
theorem scHor : FnScope ["house", "rows", "name", "state", "x", "word", "y"] ["house"] (defScope sHor) := ⟨rfl, rfl, rfl, by decide +kernel, rfl, by decide +kernel, by decide +kernel⟩
theorem ok_hor {f HC S fH fTh fSo fIa fHe : Addr} {fd dTh dSo dIa dHe : FuncData} (F : Fun K "house_rows" "house_rows" sHor f fd) (TH : TxH K mg HC fH)
    (mTh : Meth K HC "things" fTh) (bTh : Binds K dTh ["self"] []) (GTh : FnOk P w K mg base CX0 1 fTh dTh ["self"] (spHth HC S)) (mSo : Meth K HC "sort_of" fSo) (bSo : Binds K dSo ["self", "x"] []) (GSo : FnOk P w K mg base CX0 2 fSo dSo ["self", "x"] (spHso HC S))
    (mIa : Meth K HC "is_awake" fIa) (bIa : Binds K dIa ["self", "x"] []) (GIa : FnOk P w K mg base CX0 2 fIa dIa ["self", "x"] (spHia HC S)) (mHe : Meth K HC "held" fHe) (bHe : Binds K dHe ["self"] []) (GHe : FnOk P w K mg base CX0 1 fHe dHe ["self"] (spHhe K HC S)) :
    FnOk P w K mg base CX0 3 f fd ["house"] (spHor HC S) := by
  refine F.ok scHor (fun vs H Q E h => ?_) (fun cdv A outer s H vs Q E hr h => ?_)
  · obtain ⟨x, dx, sc, d1, d2, d3, ss, ws, th, ts, rfl, _⟩ := h
    rfl
  · obtain ⟨x, dx, sc, d1, d2, d3, ss, ws, th, ts, rfl, hh, g, oS, oW, k⟩ := h
    have hr1 : Room 1 _ := hr.mono (by decide)
    have hr2 : Room 2 _ := hr.mono (by decide)
    have nd := g.nd
    refine ⟨_, (pss_cons (ps_set (i := 1) scHor.nd rfl (Or.inl rfl) (pe_lst pa_nil))
      (pss_cons (ps_for PassesOwn.never rfl (pi_list (pe_meth0 (pv 0) TH.cl mTh GTh hr1 bTh .nil pass0)) (pg_name (i := 2) scHor.nd rfl (Or.inl rfl)) (pss_cons (ps_set (i := 3) scHor.nd rfl (Or.inl rfl) (pe_ifExp (pt_val (pe_meth (pv 0) TH.cl mIa GIa hr2 bIa .nil pass0 (pa_cons (pv 2) pa_nil))) pe_str pe_str))
      (pss_one (ps_expr (pe_bm PySem.F.plainAttrs_list PySem.F.slot_list_append PySem.F.type_list_append mt_append (pv 1) (pa_cons (pe_joined (PJ.cons pe_str (PJ.cons (pe_fmt (pv 2)) (PJ.cons pe_str (PJ.cons (pe_fmt (pe_meth (pv 0) TH.cl mSo GSo hr2 bSo .nil pass0 (pa_cons (pv 2) pa_nil))) (PJ.cons pe_str (PJ.cons (pe_fmt (pv 3)) PJ.nil))))))) pa_nil))))))
      (pss_one (ps_ret (pe_lst (pa_star (pv 1) (pa_star (pe_lc (own := [("x", 4), ("word", 5), ("y", 6)]) (g := gTup K 3 (gCons (gName 4) (gCons (gName 5) (gCons (gName 6) gNil)))) (tt := tYes) (te := fun σ H Q => tJs [tC (.str (PySem.Str.ofString "holds ")), tFmt (tVar 4), tC (.str (PySem.Str.ofString " ")), tFmt (tVar 5), tC (.str (PySem.Str.ofString " ")), tFmt (tVar 6)] Str.empty σ H fun out H1 => Q (.str out) H1) rfl scHor.nd (pi_list (pe_meth0 (pv 0) TH.cl mHe GHe hr1 bHe .nil pass0)) (blkOk_by (N := ["house", "rows", "name", "state", "x", "word", "y"]) (sc := defScope sHor) (by decide +kernel)) (fun _ _ _ _ _ => (pg_tup rfl (pgs_cons (pg_name (i := 4) scHor.nd rfl (Or.inl rfl)) (pgs_cons (pg_name (i := 5) scHor.nd rfl (Or.inl rfl)) (pgs_cons (pg_name (i := 6) scHor.nd rfl (Or.inl rfl)) pgs_nil))))) (fun _ _ _ _ _ => pts_nil) (fun _ _ _ _ _ => (pe_joined (PJ.cons pe_str (PJ.cons (pe_fmt (pv 4)) (PJ.cons pe_str (PJ.cons (pe_fmt (pv 5)) (PJ.cons pe_str (PJ.cons (pe_fmt (pv 6)) PJ.nil))))))))) pa_nil))))))), ?_⟩
    rw [show L2.start ["house", "rows", "name", "state", "x", "word", "y"] [V.ref x] = [some (.ref x), none, none, none, none, none, none] from rfl]
    have no : ∀ {f : Str}, ¬ f = "standing" → ¬ f = "awake_by_name" → ¬ f = "sort_by_name" → ¬ f = "own_scheme" → (hsF sc d1 d2 d3).lookup f = none := fun a b c d => hsF_no a b c d _ _ _ _
    have sl : ∀ {a : Nat}, a ≤ 1000 → a ≤ sizeLine := fun h => Nat.le_trans h (by decide)
    have ce : Str.empty.length = 0 := rfl
    have c6 : ("thing " : Str).length = 6 := by decide +kernel
    have c7 : ("holds " : Str).length = 6 := by decide +kernel
    have c1 : (" " : Str).length = 1 := by decide +kernel
    have cz : ∀ b, (stZ b).length ≤ 6 := fun b => by cases b <;> decide +kernel
    refine ⟨Nat.zero_le _, fun lr hlr => ?_⟩
    have er : (upd H lr (.lst [])) lr = some (.lst (([] : List Str).map V.str)) := upd_same
    have Sr : Same H (upd H lr (.lst [])) := Same.upd hlr
    generalize upd H lr (.lst []) = H0 at er Sr
    dsimp only [gName, List.set_cons_succ, List.set_cons_zero]
    have h0 := hh.same Sr
    refine ⟨_, rfl, x, dx, _, rfl, h0.hx, no (by decide +kernel) (by decide +kernel) (by decide +kernel) (by decide +kernel), x, dx, sc, d1, d2, d3, ss, ws, th, ts, rfl, h0, fun l hl => ?_⟩
    have Sl : Same H0 (upd H0 l (.lst ((nmL th).map V.str))) := Same.upd hl
    have el : (upd H0 l (.lst ((nmL th).map V.str))) l = some (.lst ((nmL th).map V.str)) := upd_same
    have nlr : lr ≠ l := fun e => by
      rw [← e, er] at hl
      cases hl
    generalize upd H0 l (.lst ((nmL th).map V.str)) = H1 at Sl el
    have lnn : ((nmL th).map V.str).length = th.length := by
      unfold nmL
      rw [List.length_map, List.length_map]
    refine ⟨l, rfl, ⟨_, SqL.of el⟩, ?_⟩
    refine for_it (walk_list (xs := (nmL th).map V.str)) (fun i σ' H' => ∃ u2 u3, σ' = [some (.ref x), some (.ref lr), u2, u3, none, none, none] ∧ Same H H' ∧ H' l = some (.lst ((nmL th).map V.str)) ∧ H' lr = some (.lst (((th.take i).map thR).map V.str))) ⟨none, none, rfl, Sr.trans Sl, el, Sl _ _ er⟩ (fun i σ' H' _ ⟨_, _, _, _, z, _⟩ => SqL.of z) ?_ ?_
    · rintro i v σ' H2 H2' hi ⟨u2, u3, rfl, S2, el2, er2⟩ ⟨rfl, hv⟩
      obtain ⟨t, ht, rfl⟩ := nm_get hv
      obtain ⟨s1, s2⟩ := srt_at nd ht
      have mt := List.mem_of_getElem? ht
      have hm : t.1 ∈ nmL th := List.mem_map.mpr ⟨t, mt, rfl⟩
      have h2 := hh.same S2
      have on := nm_ok g hm
      have os := oS _ (g.nm t mt).2
      rw [lnn] at hi
      dsimp only [gName, List.set_cons_succ, List.set_cons_zero]
      refine cut1 (fun σ' H' => σ' = [some (.ref x), some (.ref lr), some (.str t.1), some (.str (stZ t.2.2)), none, none, none] ∧ H' = H2') ?_ (fun R' fin => ?_)
      · rintro σ' H' ⟨rfl, rfl⟩
        have l1 := on.2
        have l2 := os.2
        have l3 := cz t.2.2
        refine ⟨_, rfl, .inl ⟨rfl, _, SqL.of er2⟩, _, rfl, sl (by rw [len_app]; omega), _, rfl, .inl ⟨_, rfl, sl (by omega), _, rfl, sl (by rw [len_app, len_app]; omega), _, rfl, sl (by rw [len_app, len_app, len_app]; omega), ?_⟩⟩
        refine ⟨_, rfl, x, dx, _, rfl, h2.hx, no (by decide +kernel) (by decide +kernel) (by decide +kernel) (by decide +kernel), _, rfl, x, dx, sc, d1, d2, d3, t.1, t.2.1, ss, ws, th, ts, rfl, h2, hm, s1, .inl ⟨_, rfl, sl (by omega), _, rfl, sl (by rw [len_app, len_app, len_app, len_app]; omega), _, rfl, sl (by rw [len_app, len_app, len_app, len_app, len_app]; omega), _, rfl, .inl ⟨_, rfl, sl (by omega), _, rfl, sl (by rw [len_app, len_app, len_app, len_app, len_app, len_app]; omega), ?_⟩⟩⟩
        refine ⟨lr, _, _, rfl, rfl, er2, ?_, ?_⟩
        · rw [List.length_map, List.length_map, List.length_take]
          exact Nat.lt_of_le_of_lt (show _ ≤ 1000 by have := g.l60; omega) (by decide)
        refine ⟨_, _, rfl, fun z o e => ?_, ?_, ?_⟩
        · rw [upd_ne (ne_of_none e hlr)]
          exact S2 _ _ e
        · rw [upd_ne nlr.symm]
          exact el2
        · rw [upd_same, List.take_add_one, ht, List.map_append, List.map_append, emp_app]
          rfl
      · refine ⟨_, rfl, x, dx, _, rfl, h2.hx, no (by decide +kernel) (by decide +kernel) (by decide +kernel) (by decide +kernel), _, rfl, x, dx, sc, d1, d2, d3, t.1, t.2.2, ss, ws, th, ts, rfl, h2, hm, s2, _, rfl, ?_⟩
        cases hb : t.2.2 with
        | true =>
          rw [hb] at fin
          refine iteT ?_
          exact fin _ _ ⟨rfl, rfl⟩
        | false =>
          rw [hb] at fin
          refine iteF ?_
          exact fin _ _ ⟨rfl, rfl⟩
    · rintro σ' H2 ⟨u2, u3, rfl, S2, el2, er2⟩
      rw [lnn, List.take_length] at er2
      have h2 := hh.same S2
      refine ⟨_, rfl, lr, _, rfl, .inr (SqL.of er2), ?_⟩
      refine ⟨_, rfl, x, dx, _, rfl, h2.hx, no (by decide +kernel) (by decide +kernel) (by decide +kernel) (by decide +kernel), x, dx, sc, d1, d2, d3, ss, ws, th, ts, rfl, h2, fun hs lh tr nlh => ?_⟩
      have S3 : Same H2 (upd H2 lh (.lst (hs.map V.ref))) := Same.upd nlh
      have e3 : (upd H2 lh (.lst (hs.map V.ref))) lh = some (.lst (hs.map V.ref)) := upd_same
      have tr3 : TrisAt K (upd H2 lh (.lst (hs.map V.ref))) hs (sortT ts) := TrisAt.same (fun h => same_seqT S3 h) tr
      generalize upd H2 lh (.lst (hs.map V.ref)) = H3 at S3 e3 tr3
      refine ⟨lh, rfl, ⟨_, SqL.of e3⟩, fun D hD => ?_⟩
      refine lc_it (te := fun σ H Q => tJs [tC (.str (PySem.Str.ofString "holds ")), tFmt (tVar 4), tC (.str (PySem.Str.ofString " ")), tFmt (tVar 5), tC (.str (PySem.Str.ofString " ")), tFmt (tVar 6)] Str.empty σ H fun out H1 => Q (.str out) H1) (walk_list (xs := hs.map V.ref)) (fun i H' => Same H3 H' ∧ H' D = some (.lst ((((sortT ts).take i).map hoR).map V.str))) ⟨Same.upd hD, upd_same⟩ (fun i H' _ z => SqL.of (z.1 _ _ e3)) ?_ ?_
      · rintro i v H4 H4' hi ⟨S4, e4⟩ ⟨rfl, hv⟩
        obtain ⟨q, t, rfl, hq, ht⟩ := tris_at (TrisAt.same (fun h => same_seqT S4 h) tr3) hv
        have gt := g.ho t (sortT_mem.mp (List.mem_of_getElem? ht))
        have l1 := (nm_ok g gt.1).2
        have l2 := (oW _ gt.2.1).2
        have l3 := (nm_ok g gt.2.2).2
        refine ⟨q, _, rfl, hq, rfl, _, _, rfl, _, _, rfl, _, _, rfl, rfl, rfl, ?_⟩
        refine ⟨_, rfl, sl (by rw [len_app]; omega), _, rfl, .inl ⟨_, rfl, sl (by omega), _, rfl, sl (by rw [len_app, len_app]; omega), _, rfl, sl (by rw [len_app, len_app, len_app]; omega), _, rfl, .inl ⟨_, rfl, sl (by omega), _, rfl, sl (by rw [len_app, len_app, len_app, len_app]; omega), _, rfl, sl (by rw [len_app, len_app, len_app, len_app, len_app]; omega), _, rfl, .inl ⟨_, rfl, sl (by omega), _, rfl, sl (by rw [len_app, len_app, len_app, len_app, len_app, len_app]; omega), ?_⟩⟩⟩⟩
        refine ⟨_, e4, ?_, fun z o e => ?_, ?_⟩
        · rw [List.length_map, List.length_map, List.length_take, sortT_len]
          exact Nat.lt_of_le_of_lt (show _ ≤ 1000 by have := g.ln; omega) (by decide)
        · rw [upd_ne (ne_of_none e hD)]
          exact S4 _ _ e
        · rw [upd_same, List.take_add_one, ht, List.map_append, List.map_append, emp_app]
          rfl
      · rintro H4 ⟨S4, e4⟩
        have lh_ : (hs.map V.ref).length = (sortT ts).length := by rw [List.length_map, tr.len]
        rw [lh_, List.take_length] at e4
        refine ⟨D, _, rfl, .inr (SqL.of e4), ?_⟩
        refine ⟨?_, fun l9 n9 => ?_⟩
        · rw [List.append_nil, List.length_append, List.length_map, List.length_map, List.length_map, List.length_map, sortT_len]
          exact sl (by have := g.ln; have := g.l60; omega)
        have S24 := S3.trans S4
        refine k l9 _ (S2.free (S24.free n9)) ((S2.trans S24).trans (Same.upd n9)) ?_
        rw [upd_same, List.append_nil, ← List.map_append]
        rfl
theorem scTor : FnScope ["_law_due_here", "_law_rows", "_law_name", "_law_sort", "_law_awake", "_law_holding"] ["_law_due_here"] (defScope sTor) := ⟨rfl, rfl, rfl, by decide +kernel, rfl, by decide +kernel, by decide +kernel⟩
theorem ok_tor {f : Addr} {fd : FuncData} (F : Fun K "_law_told_rows" "_law_told_rows" sTor f fd) (T : TxB mg) : FnOk P w K mg base CX0 1 f fd ["_law_due_here"] (spTor K) := by
  refine F.ok scTor (fun vs H Q E h => ?_) (fun cdv A outer s H vs Q E hr h => ?_)
  · obtain ⟨t, ss, ws, th, ts, rfl, _⟩ := h
    rfl
  · obtain ⟨t, ss, ws, th, ts, rfl, ⟨lt, lh, qs, hs, et, elt, fa, elh, tr⟩, g, oS, oW, k⟩ := h
    refine ⟨_, (pss_cons (ps_setLc (i := 1) (own := [("_law_name", 2), ("_law_sort", 3), ("_law_awake", 4)]) (g := gTup K 3 (gCons (gName 2) (gCons (gName 3) (gCons (gName 4) gNil)))) (tt := tYes) (te := (tOp rAddS (tOp rAddS (tOp rAddS (tOp rAddS (tOp rAddS (tC (.str (PySem.Str.ofString "thing "))) (tVar 2)) (tC (.str (PySem.Str.ofString " ")))) (tVar 3)) (tC (.str (PySem.Str.ofString " ")))) (tOp (rIxL K) (tLst (tCons (tC (.str (PySem.Str.ofString "asleep"))) (tCons (tC (.str (PySem.Str.ofString "awake"))) tNil))) (tCB rInt1 (tCons (tVar 4) tNil))))) rfl scTor.nd rfl rfl (sw_true rfl rfl rfl (by decide +kernel)) (pi_list (pe_ix ix_tup (pv 0) pe_int (fun _ _ => rfl))) (blkOk_by (N := ["_law_due_here", "_law_rows", "_law_name", "_law_sort", "_law_awake", "_law_holding"]) (sc := defScope sTor) (by decide +kernel)) (fun _ _ _ _ _ => (pg_tup rfl (pgs_cons (pg_name (i := 2) scTor.nd rfl (Or.inl rfl)) (pgs_cons (pg_name (i := 3) scTor.nd rfl (Or.inl rfl)) (pgs_cons (pg_name (i := 4) scTor.nd rfl (Or.inl rfl)) pgs_nil))))) (fun _ _ _ _ _ => pts_nil) (fun _ _ _ _ _ => (pe_op op_add_str (pe_op op_add_str (pe_op op_add_str (pe_op op_add_str (pe_op op_add_str pe_str (pv 2)) pe_str) (pv 3)) pe_str) (pe_ix ix_list (pe_lst (pa_cons pe_str (pa_cons pe_str pa_nil))) (pe_callTy call_int1 (by rfl) T.int (by decide +kernel) (pa_cons (pv 4) pa_nil)) (fun _ _ => rfl)))))
      (pss_one (ps_ret (pe_op op_cat (pv 1) (pe_lc (own := [("_law_holding", 5)]) (g := gName 5) (tt := tYes) (te := tOp rAddS (tC (.str (PySem.Str.ofString "holds "))) (tM1 (rJoinT K) (tC (.str (PySem.Str.ofString " "))) (tVar 5))) rfl scTor.nd (pi_list (pe_ix ix_tup (pv 0) pe_int (fun _ _ => rfl))) (blkOk_by (N := ["_law_due_here", "_law_rows", "_law_name", "_law_sort", "_law_awake", "_law_holding"]) (sc := defScope sTor) (by decide +kernel)) (fun _ _ _ _ _ => (pg_name (i := 5) scTor.nd rfl (Or.inl rfl))) (fun _ _ _ _ _ => pts_nil) (fun _ _ _ _ _ => (pe_op op_add_str pe_str (pe_join pe_str (pv 5))))))))), ?_⟩
    rw [show L2.start ["_law_due_here", "_law_rows", "_law_name", "_law_sort", "_law_awake", "_law_holding"] [V.ref t] = [some (.ref t), none, none, none, none, none] from rfl]
    have sl : ∀ {a : Nat}, a ≤ 1000 → a ≤ sizeLine := fun h => Nat.le_trans h (by decide)
    have c6 : ("thing " : Str).length = 6 := by decide +kernel
    have c7 : ("holds " : Str).length = 6 := by decide +kernel
    have c1 : (" " : Str).length = 1 := by decide +kernel
    have cz : ∀ b, (stZ b).length ≤ 6 := fun b => by cases b <;> decide +kernel
    refine ⟨_, rfl, t, _, 1, _, rfl, rfl, SqT.of et, rfl, lt, rfl, ⟨_, SqL.of elt⟩, fun D hD => ?_⟩
    refine lc_it (walk_list (xs := qs.map V.ref)) (fun i H' => Same H H' ∧ H' D = some (.lst (((th.take i).map thR).map V.str))) ⟨Same.upd hD, upd_same⟩ (fun i H' _ z => SqL.of (z.1 _ _ elt)) ?_ ?_
    · rintro i v H2 H2' hi ⟨S2, e2⟩ ⟨rfl, hv⟩
      rw [List.getElem?_map] at hv
      obtain ⟨q, hq, rfl⟩ := Option.map_eq_some_iff.mp hv
      obtain ⟨x, hx, hqx⟩ := FAt.get fa hq
      have mx := List.mem_of_getElem? hx
      have l1 := (isNm_ok (g.nm x mx).1).2
      have l2 := (oS _ (g.nm x mx).2).2
      have l3 := cz x.2.2
      refine ⟨q, _, rfl, SqT.of (S2 _ _ hqx), rfl, _, _, rfl, _, _, rfl, _, _, rfl, rfl, rfl, ?_⟩
      refine ⟨_, rfl, _, _, rfl, rfl, sl (by omega), _, _, rfl, rfl, sl (by rw [len_app]; omega), _, rfl, _, _, rfl, rfl, sl (by rw [len_app, len_app]; omega), _, _, rfl, rfl, sl (by rw [len_app, len_app, len_app]; omega), by show 2 ≤ sizeLine; decide, fun l9 n9 => ?_⟩
      have S9 : Same H2' (upd H2' l9 (.lst [.str "asleep", .str "awake"])) := Same.upd n9
      have e9 : (upd H2' l9 (.lst [.str "asleep", .str "awake"])) l9 = some (.lst [.str "asleep", .str "awake"]) := upd_same
      generalize upd H2' l9 (.lst [.str "asleep", .str "awake"]) = H9 at S9 e9
      have ez : ([V.str "asleep", V.str "awake"])[(if x.2.2 = true then 1 else 0 : Nat)]? = some (.str (stZ x.2.2)) := by
        cases x.2.2 <;> rfl
      refine ⟨_, rfl, .inr ⟨_, rfl, rdList e9 (j := if x.2.2 = true then 1 else 0) (by cases x.2.2 <;> rfl) ez ?_⟩⟩
      refine ⟨_, _, rfl, rfl, sl (by rw [len_app, len_app, len_app, len_app]; omega), ?_⟩
      refine ⟨_, S9 _ _ e2, ?_, fun z o e => ?_, ?_⟩
      · rw [List.length_map, List.length_map, List.length_take]
        exact Nat.lt_of_le_of_lt (show _ ≤ 1000 by have := g.l60; omega) (by decide)
      · rw [upd_ne (ne_of_none e hD)]
        exact S9 _ _ (S2 _ _ e)
      · rw [upd_same, List.take_add_one, hx, List.map_append, List.map_append]
        rfl
    · rintro H2 ⟨S2, e2⟩
      have lq : (qs.map V.ref).length = th.length := by rw [List.length_map, fa.len]
      rw [lq, List.take_length] at e2
      dsimp only [gName, List.set_cons_succ, List.set_cons_zero]
      have tr2 : TrisAt K H2 hs (sortT ts) := TrisAt.same (fun h => same_seqT S2 h) tr
      refine ⟨_, rfl, _, rfl, t, _, 2, _, rfl, rfl, SqT.of (S2 _ _ et), rfl, lh, rfl, ⟨_, SqL.of (S2 _ _ elh)⟩, fun D2 hD2 => ?_⟩
      refine lc_it (te := tOp rAddS (tC (.str (PySem.Str.ofString "holds "))) (tM1 (rJoinT K) (tC (.str (PySem.Str.ofString " "))) (tVar 5))) (walk_list (xs := hs.map V.ref)) (fun i H' => Same H2 H' ∧ H' D2 = some (.lst ((((sortT ts).take i).map hoR).map V.str))) ⟨Same.upd hD2, upd_same⟩ (fun i H' _ z => SqL.of (z.1 _ _ (S2 _ _ elh))) ?_ ?_
      · rintro i v H4 H4' hi ⟨S4, e4⟩ ⟨rfl, hv⟩
        obtain ⟨q, u, rfl, hq, hu⟩ := tris_at (TrisAt.same (fun h => same_seqT S4 h) tr2) hv
        have gt := g.ho u (sortT_mem.mp (List.mem_of_getElem? hu))
        have l1 := (nm_ok g gt.1).2
        have l2 := (oW _ gt.2.1).2
        have l3 := (nm_ok g gt.2.2).2
        refine ⟨rfl, ⟨_, rfl⟩, _, rfl, _, q, [u.1, u.2.1, u.2.2], rfl, rfl, .inr hq, ?_, ?_⟩
        · simp only [List.map_cons, List.map_nil, List.sum_cons, List.sum_nil, List.length_cons, List.length_nil, c1]
          omega
        rw [join3]
        refine ⟨_, _, rfl, rfl, sl (by rw [len_app, len_app, len_app, len_app]; omega), ?_⟩
        refine ⟨_, e4, ?_, fun z o e => ?_, ?_⟩
        · rw [List.length_map, List.length_map, List.length_take, sortT_len]
          exact Nat.lt_of_le_of_lt (show _ ≤ 1000 by have := g.ln; omega) (by decide)
        · rw [upd_ne (ne_of_none e hD2)]
          exact S4 _ _ e
        · rw [upd_same, List.take_add_one, hu, List.map_append, List.map_append]
          have eh : hoR u = "holds " ++ (u.1 ++ (" " ++ (u.2.1 ++ (" " ++ u.2.2)))) := by
            unfold hoR
            simp only [app_asc]
          rw [← eh]
          rfl
      · rintro H4 ⟨S4, e4⟩
        have lh_ : (hs.map V.ref).length = (sortT ts).length := by rw [List.length_map, tr.len]
        rw [lh_, List.take_length] at e4
        refine ⟨D, D2, _, _, rfl, rfl, S4 _ _ e2, e4, ?_, fun l9 n9 => ?_⟩
        · rw [List.length_map, List.length_map, List.length_map, List.length_map, sortT_len]
          exact sl (by have := g.ln; have := g.l60; omega)
        refine k l9 _ (S2.free (S4.free n9)) ((S2.trans S4).trans (Same.upd n9)) ?_
        rw [upd_same, ← List.map_append]
        rfl
theorem ok_hwk {f HC S fH fR : Addr} {fd dR : FuncData} (F : Fun K "wake" "House.wake" sHwa f fd) (TH : TxH K mg HC fH) (mR : Meth K HC "refuse_no_thing" fR) (bR : Binds K dR ["self", "name"] []) (GR : FnOk P w K mg base CX0 1 fR dR ["self", "name"] (spHrt HC S)) : FnOk P w K mg base CX0 2 f fd ["self", "x"] (spHwk HC S true) := by
  refine F.ok scHwa (fun vs H Q E h => ?_) (fun cdv A outer s H vs Q E hr h => ?_)
  · obtain ⟨x, dx, sc, d1, d2, d3, n, ss, ws, th, ts, rfl, _⟩ := h
    rfl
  · obtain ⟨x, dx, sc, d1, d2, d3, n, ss, ws, th, ts, rfl, hh, hn, hl, q⟩ := h
    refine ⟨_, (pss_cons (ps_expr (pe_meth (pv 0) TH.cl mR GR hr bR .nil pass0 (pa_cons (pv 1) pa_nil))) (pss_one (ps_dput (hu_of hr) (pe_fld (pv 0) rfl) (pv 1) pe_bl rfl))), ?_⟩
    refine ⟨_, rfl, x, dx, _, rfl, hh.hx, hsF_no (by decide +kernel) (by decide +kernel) (by decide +kernel) (by decide +kernel) _ _ _ _, _, rfl, x, dx, sc, d1, d2, d3, n, ss, ws, th, ts, rfl, hh, hn, ?_⟩
    refine ⟨_, rfl, x, HC, dx, _, _, rfl, hh.hx, TH.cl, TH.n2, hsF_2 _ _ _ _, _, rfl, d2, _, rfl, DPut.k (k := Sum.inr n) hh.h2 ?_, ?_⟩
    · unfold k2
      rw [List.length_map]
      exact Nat.lt_of_le_of_lt hl (by decide)
    · rw [setA_put true hn]
      refine q _ But.upd ⟨?_, hh.hs.but But.upd hh.h2 (fun _ _ _ z => by cases z) (fun _ z => by cases z), ?_, upd_same, ?_, hh.ne⟩
      · rw [upd_ne (ne_of hh.hx hh.h2 (by intro z; cases z))]
        exact hh.hx
      · rw [upd_ne hh.ne, setA_k1]
        exact hh.h1
      · rw [upd_ne (ne_of hh.h3 hh.h2 (by intro z; cases z))]
        exact hh.h3
theorem ok_hsl {f HC S fH fR : Addr} {fd dR : FuncData} (F : Fun K "sleep" "House.sleep" sHsl f fd) (TH : TxH K mg HC fH) (mR : Meth K HC "refuse_no_thing" fR) (bR : Binds K dR ["self", "name"] []) (GR : FnOk P w K mg base CX0 1 fR dR ["self", "name"] (spHrt HC S)) : FnOk P w K mg base CX0 2 f fd ["self", "x"] (spHwk HC S false) := by
  refine F.ok scHsl (fun vs H Q E h => ?_) (fun cdv A outer s H vs Q E hr h => ?_)
  · obtain ⟨x, dx, sc, d1, d2, d3, n, ss, ws, th, ts, rfl, _⟩ := h
    rfl
  · obtain ⟨x, dx, sc, d1, d2, d3, n, ss, ws, th, ts, rfl, hh, hn, hl, q⟩ := h
    refine ⟨_, (pss_cons (ps_expr (pe_meth (pv 0) TH.cl mR GR hr bR .nil pass0 (pa_cons (pv 1) pa_nil))) (pss_one (ps_dput (hu_of hr) (pe_fld (pv 0) rfl) (pv 1) pe_bl rfl))), ?_⟩
    refine ⟨_, rfl, x, dx, _, rfl, hh.hx, hsF_no (by decide +kernel) (by decide +kernel) (by decide +kernel) (by decide +kernel) _ _ _ _, _, rfl, x, dx, sc, d1, d2, d3, n, ss, ws, th, ts, rfl, hh, hn, ?_⟩
    refine ⟨_, rfl, x, HC, dx, _, _, rfl, hh.hx, TH.cl, TH.n2, hsF_2 _ _ _ _, _, rfl, d2, _, rfl, DPut.k (k := Sum.inr n) hh.h2 ?_, ?_⟩
    · unfold k2
      rw [List.length_map]
      exact Nat.lt_of_le_of_lt hl (by decide)
    · rw [setA_put false hn]
      refine q _ But.upd ⟨?_, hh.hs.but But.upd hh.h2 (fun _ _ _ z => by cases z) (fun _ z => by cases z), ?_, upd_same, ?_, hh.ne⟩
      · rw [upd_ne (ne_of hh.hx hh.h2 (by intro z; cases z))]
        exact hh.hx
      · rw [upd_ne hh.ne, setA_k1]
        exact hh.h1
      · rw [upd_ne (ne_of hh.h3 hh.h2 (by intro z; cases z))]
        exact hh.h3
theorem scBui : FnScope ["_law_scheme", "_law_due_here", "_law_house", "_law_x", "_law_sort", "_law_awake", "_law_word", "_law_y"] ["_law_scheme", "_law_due_here"] (defScope sBui) := ⟨rfl, rfl, rfl, by decide +kernel, rfl, by decide +kernel, by decide +kernel⟩
theorem ok_bui {f HC S fH fEn fGi fWa fSl C D : Addr} {fd dH dEn dGi dWa dSl : FuncData} (F : Fun K "_law_built" "_law_built" sBui f fd) (TH : TxH K mg HC fH)
    (bHi : Binds K dH ["self", "scheme"] []) (GHi : FnOk P w K mg base CX0 1 fH dH ["self", "scheme"] (spHin HC)) (mEn : Meth K HC "enter" fEn) (bEn : Binds K dEn ["self", "name", "sort", "awake"] []) (GEn : FnOk P w K mg base CX0 3 fEn dEn ["self", "name", "sort", "awake"] (spHen HC S))
    (mGi : Meth K HC "give" fGi) (bGi : Binds K dGi ps4 []) (GGi : FnOk P w K mg base (L2N.CX P w) 6 fGi dGi ps4 (spGiv HC S C D))
    (mWa : Meth K HC "wake" fWa) (bWa : Binds K dWa ["self", "x"] []) (GWa : FnOk P w K mg base CX0 2 fWa dWa ["self", "x"] (spHwk HC S true)) (mSl : Meth K HC "sleep" fSl) (bSl : Binds K dSl ["self", "x"] []) (GSl : FnOk P w K mg base CX0 2 fSl dSl ["self", "x"] (spHwk HC S false)) :
    FnOk P w K mg base CX0 7 f fd ["_law_scheme", "_law_due_here"] (spBui K HC S) := by
  refine F.ok scBui (fun vs H Q E h => ?_) (fun cdv A outer s H vs Q E hr h => ?_)
  · obtain ⟨sc, t, ss, ws, th, ts, rfl, _⟩ := h
    rfl
  · obtain ⟨sc, t, ss, ws, th, ts, rfl, hsc, ⟨lt, lh, qs, hs, et, elt, fa, elh, tr⟩, g, k⟩ := h
    have hr2 : Room 2 _ := hr.mono (by decide)
    have hr3 : Room 3 _ := hr.mono (by decide)
    have hr6 : Room 6 _ := hr.mono (by decide)
    have nd := g.nd
    refine ⟨_, (pss_cons (ps_set (i := 2) scBui.nd rfl (Or.inl rfl) (pe_make TH.m GHi hr2 rfl TH.g bHi .nil pass0 (pa_cons (pv 0) pa_nil)))
      (pss_cons (ps_for PassesOwn.never rfl (pi_list (pe_ix ix_tup (pv 1) pe_int (fun _ _ => rfl))) (pg_tup rfl (pgs_cons (pg_name (i := 3) scBui.nd rfl (Or.inl rfl)) (pgs_cons (pg_name (i := 4) scBui.nd rfl (Or.inl rfl)) (pgs_cons (pg_name (i := 5) scBui.nd rfl (Or.inl rfl)) pgs_nil)))) (pss_one (ps_expr (pe_meth (pv 2) TH.cl mEn GEn hr3 bEn .nil pass0 (pa_cons (pv 3) (pa_cons (pv 4) (pa_cons (pe_not (pv 5)) pa_nil)))))))
      (pss_cons (ps_for PassesOwn.never rfl (pi_list (pe_revL (pe_ix ix_tup (pv 1) pe_int (fun _ _ => rfl)))) (pg_tup rfl (pgs_cons (pg_name (i := 3) scBui.nd rfl (Or.inl rfl)) (pgs_cons (pg_name (i := 6) scBui.nd rfl (Or.inl rfl)) (pgs_cons (pg_name (i := 7) scBui.nd rfl (Or.inl rfl)) pgs_nil)))) (pss_one (ps_expr (pe_meth (pv 2) TH.cl mGi GGi hr6 bGi .nil passN (pa_cons (pv 3) (pa_cons (pv 6) (pa_cons (pv 7) pa_nil)))))))
      (pss_cons (ps_for PassesOwn.never rfl (pi_list (pe_ix ix_tup (pv 1) pe_int (fun _ _ => rfl))) (pg_tup rfl (pgs_cons (pg_name (i := 3) scBui.nd rfl (Or.inl rfl)) (pgs_cons (pg_name (i := 4) scBui.nd rfl (Or.inl rfl)) (pgs_cons (pg_name (i := 5) scBui.nd rfl (Or.inl rfl)) pgs_nil)))) (pss_one (ps_if (pt_val (pv 5)) (pss_one (ps_expr (pe_meth (pv 2) TH.cl mWa GWa hr2 bWa .nil pass0 (pa_cons (pv 3) pa_nil)))) (pss_one (ps_expr (pe_meth (pv 2) TH.cl mSl GSl hr2 bSl .nil pass0 (pa_cons (pv 3) pa_nil)))))))
      (pss_one (ps_ret (pv 2))))))), ?_⟩
    rw [show L2.start ["_law_scheme", "_law_due_here", "_law_house", "_law_x", "_law_sort", "_law_awake", "_law_word", "_law_y"] [V.ref sc, V.ref t] = [some (.ref sc), some (.ref t), none, none, none, none, none, none] from rfl]
    refine ⟨_, rfl, fun x dx nx ndx ne => ⟨H, x, dx, sc, rfl, ?_, nx, upd_same, fun d1 d2 d3 H3 n1 n2 n3 n12 S3 hx h1 h2' h3 => ⟨rfl, ?_⟩⟩⟩
    · exact (Same.upd ndx).trans (Same.upd (by rw [upd_ne ne.symm]; exact nx))
    have hs3 : HsAt HC S H3 x dx sc d1 d2 d3 ss ws [] [] := ⟨hx, hsc.same S3, h1, h2', h3, n12⟩
    have no : ∀ {f : Str}, ¬ f = "standing" → ¬ f = "awake_by_name" → ¬ f = "sort_by_name" → ¬ f = "own_scheme" → (hsF sc d1 d2 d3).lookup f = none := fun a b c d => hsF_no a b c d _ _ _ _
    have lq : (qs.map V.ref).length = th.length := by rw [List.length_map, fa.len]
    have th_at : ∀ {i : Nat} {v : V} {H' : Hp}, Same H H' → (qs.map V.ref)[i]? = some v → ∃ q y, v = .ref q ∧ th[i]? = some y ∧ SqT K H' q (thV y) := fun {i v H'} S hv => by
      rw [List.getElem?_map] at hv
      obtain ⟨q, hq, rfl⟩ := Option.map_eq_some_iff.mp hv
      obtain ⟨y, hy, hqy⟩ := FAt.get fa hq
      exact ⟨q, y, rfl, hy, SqT.of (S _ _ hqy)⟩
    dsimp only [gName, List.set_cons_succ, List.set_cons_zero]
    -- they come
    refine ⟨_, rfl, t, _, 1, _, rfl, rfl, SqT.of (S3 _ _ et), rfl, lt, rfl, ⟨_, SqL.of (S3 _ _ elt)⟩, ?_⟩
    refine for_it (walk_list (xs := qs.map V.ref)) (fun i σ' H' => ∃ u3 u4 u5, σ' = [some (.ref sc), some (.ref t), some (.ref x), u3, u4, u5, none, none] ∧ Same H H' ∧ HsAt HC S H' x dx sc d1 d2 d3 ss ws ((th.take i).map nt) []) ⟨none, none, none, rfl, S3, hs3⟩ (fun i σ' H' _ ⟨_, _, _, _, z, _⟩ => SqL.of (z _ _ elt)) ?_ ?_
    · rintro i v σ' H4 H5 hi ⟨u3, u4, u5, rfl, S4, h4⟩ ⟨rfl, hv⟩
      obtain ⟨q, y, rfl, hy, hqy⟩ := th_at S4 hv
      have my := List.mem_of_getElem? hy
      have il := (List.getElem?_eq_some_iff.mp hy).1
      refine ⟨q, _, rfl, hqy, rfl, _, _, rfl, _, _, rfl, _, _, rfl, rfl, ?_⟩
      dsimp only [gName, List.set_cons_succ, List.set_cons_zero]
      have nmt : nmL ((th.take i).map nt) = nmL (th.take i) := nm_nt _
      have new : y.1 ∉ nmL ((th.take i).map nt) := fun z => by
        rw [nmt] at z
        have e0 : th = th.take i ++ y :: th.drop (i + 1) := by
          conv => lhs; rw [← List.take_append_drop i th]
          rw [List.drop_eq_getElem_cons il, (List.getElem?_eq_some_iff.mp hy).2]
        have nd' : (nmL (th.take i) ++ nmL (y :: th.drop (i + 1))).Nodup := by
          rw [← nm_app, ← e0]
          exact nd
        rw [List.nodup_append] at nd'
        exact nd'.2.2 _ z _ (show y.1 ∈ nmL (y :: th.drop (i + 1)) from List.mem_cons_self) rfl
      refine ⟨_, rfl, x, dx, _, rfl, h4.hx, no (by decide +kernel) (by decide +kernel) (by decide +kernel) (by decide +kernel), _, rfl, _, rfl, _, rfl, _, rfl, x, dx, sc, d1, d2, d3, y.1, y.2.1, !y.2.2, ss, ws, (th.take i).map nt, [], rfl, h4, (g.nm y my).1, (isNm_ok (g.nm y my).1).2, new, (g.nm y my).2, ?_, fun H6 k6 h6 => ?_⟩
      · rw [List.length_map, List.length_take]
        have := g.l60
        omega
      · refine ⟨_, _, _, rfl, fun z o e => k6 z o (ne_of_none e n1) (ne_of_none e n2) (S4 _ _ e), ?_⟩
        rw [List.take_add_one, hy, List.map_append]
        exact h6
    rintro σ' H4 ⟨u3, u4, u5, rfl, S4, h4⟩
    rw [lq, List.take_length] at h4
    -- they hold
    refine ⟨_, rfl, t, _, 2, _, rfl, rfl, SqT.of (S4 _ _ et), rfl, lh, _, rfl, SqL.of (S4 _ _ elh), fun lv nlv => ?_⟩
    rw [← List.map_reverse]
    have Sv : Same H4 (upd H4 lv (.lst (hs.reverse.map V.ref))) := Same.upd nlv
    have ev : (upd H4 lv (.lst (hs.reverse.map V.ref))) lv = some (.lst (hs.reverse.map V.ref)) := upd_same
    have h5 := h4.same Sv
    have S5 := S4.trans Sv
    have nlv0 : H lv = none := S4.free nlv
    generalize upd H4 lv (.lst (hs.reverse.map V.ref)) = H5 at Sv ev h5 S5
    have tv := tris_rev tr
    have ndv : (sortT ts).reverse.Nodup := by
      exact ((List.reverse_perm _).trans (List.mergeSort_perm ts _)).nodup_iff.mpr g.ndt
    have lv_ : (hs.reverse.map V.ref).length = ts.length := by rw [List.length_map, List.length_reverse, tr.len, sortT_len]
    refine ⟨lv, rfl, ⟨_, SqL.of ev⟩, ?_⟩
    refine for_it (walk_list (xs := hs.reverse.map V.ref)) (fun i σ' H' => ∃ u3 u4 u5 u6 u7, σ' = [some (.ref sc), some (.ref t), some (.ref x), u3, u4, u5, u6, u7] ∧ Same H H' ∧ H' lv = some (.lst (hs.reverse.map V.ref)) ∧ HsAt HC S H' x dx sc d1 d2 d3 ss ws (th.map nt) ((sortT ts).reverse.take i)) ⟨u3, u4, u5, none, none, rfl, S5, ev, h5⟩ (fun i σ' H' _ ⟨_, _, _, _, _, _, _, z, _⟩ => SqL.of z) ?_ ?_
    · rintro i v σ' H6 H7 hi ⟨u3, u4, u5, u6, u7, rfl, S6, e6, h6⟩ ⟨rfl, hv⟩
      obtain ⟨q, u, rfl, hq, hu⟩ := tris_at (TrisAt.same (fun h => same_seqT S6 h) tv) hv
      have mu : u ∈ ts := sortT_mem.mp (List.mem_reverse.mp (List.mem_of_getElem? hu))
      have il := (List.getElem?_eq_some_iff.mp hu).1
      have gu := g.ho u mu
      have new : u ∉ (sortT ts).reverse.take i := fun z => by
        have e0 : (sortT ts).reverse = (sortT ts).reverse.take i ++ u :: (sortT ts).reverse.drop (i + 1) := by
          conv => lhs; rw [← List.take_append_drop i (sortT ts).reverse]
          rw [List.drop_eq_getElem_cons il, (List.getElem?_eq_some_iff.mp hu).2]
        rw [e0, List.nodup_append] at ndv
        exact ndv.2.2 _ z _ List.mem_cons_self rfl
      refine ⟨q, _, rfl, hq, rfl, _, _, rfl, _, _, rfl, _, _, rfl, rfl, ?_⟩
      dsimp only [gName, List.set_cons_succ, List.set_cons_zero]
      refine ⟨_, rfl, x, dx, _, rfl, h6.hx, no (by decide +kernel) (by decide +kernel) (by decide +kernel) (by decide +kernel), _, rfl, _, rfl, _, rfl, x, dx, sc, d1, d2, d3, u.1, u.2.1, u.2.2, ss, ws, th.map nt, _, rfl, h6, ?_, ?_⟩
      · rw [List.length_take, List.length_reverse, sortT_len]
        have := g.ln
        omega
      have eu : unk C D ws (nmL (th.map nt)) u.1 u.2.1 u.2.2 = none := by
        unfold unk
        rw [nm_nt, if_pos gu.1, if_pos gu.2.2, if_pos gu.2.1]
      rw [eu]
      intro H8 k8 h8
      refine ⟨_, _, _, _, _, rfl, fun z o e => k8 z o (ne_of_none e n3) (S6 _ _ e), k8 _ _ (ne_of e6 h6.h3 (by intro z; cases z)) e6, ?_⟩
      rw [List.take_add_one, hu]
      rw [addT_new new] at h8
      exact h8
    rintro σ' H6 ⟨u3, u4, u5, u6, u7, rfl, S6, e6, h6⟩
    rw [lv_, List.take_of_length_le (by rw [List.length_reverse, sortT_len]; exact Nat.le_refl _)] at h6
    -- they wake or sleep
    refine ⟨_, rfl, t, _, 1, _, rfl, rfl, SqT.of (S6 _ _ et), rfl, lt, rfl, ⟨_, SqL.of (S6 _ _ elt)⟩, ?_⟩
    refine for_it (walk_list (xs := qs.map V.ref)) (fun i σ' H' => ∃ u3 u4 u5 u6 u7, σ' = [some (.ref sc), some (.ref t), some (.ref x), u3, u4, u5, u6, u7] ∧ Same H H' ∧ HsAt HC S H' x dx sc d1 d2 d3 ss ws (wk th i) (sortT ts).reverse) ⟨u3, u4, u5, u6, u7, rfl, S6, h6⟩ (fun i σ' H' _ ⟨_, _, _, _, _, _, z, _⟩ => SqL.of (z _ _ elt)) ?_ ?_
    · rintro i v σ' H7 H8 hi ⟨u3, u4, u5, u6, u7, rfl, S7, h7⟩ ⟨rfl, hv⟩
      obtain ⟨q, y, rfl, hy, hqy⟩ := th_at S7 hv
      have hm : y.1 ∈ nmL (wk th i) := by
        rw [wk_nm]
        exact List.mem_map.mpr ⟨y, List.mem_of_getElem? hy, rfl⟩
      have lw : (wk th i).length ≤ 1000 := by
        have e1 := congrArg List.length (wk_nm th i)
        unfold nmL at e1
        rw [List.length_map, List.length_map] at e1
        rw [e1]
        have := g.l60
        omega
      have ew := wk_set nd hy
      refine ⟨q, _, rfl, hqy, rfl, _, _, rfl, _, _, rfl, _, _, rfl, rfl, ?_⟩
      dsimp only [gName, List.set_cons_succ, List.set_cons_zero]
      refine ⟨_, rfl, _, rfl, ?_⟩
      cases hb : y.2.2 with
      | true =>
        rw [hb] at ew
        refine iteT ?_
        refine ⟨_, rfl, x, dx, _, rfl, h7.hx, no (by decide +kernel) (by decide +kernel) (by decide +kernel) (by decide +kernel), _, rfl, x, dx, sc, d1, d2, d3, y.1, ss, ws, wk th i, _, rfl, h7, hm, lw, fun H9 k9 h9 => ?_⟩
        rw [ew] at h9
        exact ⟨_, _, _, _, _, rfl, fun z o e => k9 z o (ne_of_none e n2) (S7 _ _ e), h9⟩
      | false =>
        rw [hb] at ew
        refine iteF ?_
        refine ⟨_, rfl, x, dx, _, rfl, h7.hx, no (by decide +kernel) (by decide +kernel) (by decide +kernel) (by decide +kernel), _, rfl, x, dx, sc, d1, d2, d3, y.1, ss, ws, wk th i, _, rfl, h7, hm, lw, fun H9 k9 h9 => ?_⟩
        rw [ew] at h9
        exact ⟨_, _, _, _, _, rfl, fun z o e => k9 z o (ne_of_none e n2) (S7 _ _ e), h9⟩
    rintro σ' H7 ⟨u3, u4, u5, u6, u7, rfl, S7, h7⟩
    rw [lq, wk_all] at h7
    exact ⟨_, rfl, k x dx d1 d2 d3 H7 _ S7 nx h7 ((List.reverse_perm _).trans (List.mergeSort_perm ts _))⟩
end
end Wm
/-! try with several handlers, each with a name for what it catches or without -/
namespace Wm
open PySem PySem.Spec PyProof.Rows L2
/-- the ends of a suite whose name is let go -/
def letGo (o : Option Nat) (D : Ends) : Ends := match o with
  | none => D
  | some i => { nx := fun σ H => D.nx (σ.set i none) H, rt := D.rt, bk := fun σ H => D.bk (σ.set i none) H, ct := fun σ H => D.ct (σ.set i none) H }
def bindS (o : Option Nat) (σ : L2.St) (a : Addr) : L2.St := match o with
  | none => σ
  | some i => σ.set i (some (.ref a))
abbrev Hd := Value × Option Nat × (Addr → Value → Option Addr → TS)
def wEach (K : PySem.W.Frag) (Wout : WX) (D : Ends) : List Hd → WX
  | [] => Wout
  | (c, o, ts) :: r => fun cls d σ H => ∃ b, PySem.W.exmOne K cls c = some b ∧ (b = true → ∀ a, H a = none → ts a cls d (letGo o D) (bindS o σ a) H) ∧ (b = false → wEach K Wout D r cls d σ H)
inductive HdsE (X : Cx) : List ExceptHandler → List Hd → Prop
  | nil : HdsE X [] []
  | cons {x : Str} {c : Value} {ts : Addr → Value → Option Addr → TS} {s0 : Stmt} {ss : List Stmt} {p1 p2 : Pos} {hs : List ExceptHandler} {l : List Hd} (hc : L2.Names X x c)
      (hsu : ∀ (a : Addr) (ob : Obj) (cls : Value) (d : Option Addr) (pn : List (Addr × Obj)), L2N.Zn cls d ob → (∃ vs, ob.data = .fields vs) → PSs (X.suite a ((a, ob) :: pn)) (s0 :: ss) (ts a cls d)) (r : HdsE X hs l) :
      HdsE X (.ExceptHandler (some (.Name x p1)) none (s0 :: ss) p2 :: hs) ((c, none, ts) :: l)
  | as {x n : Str} {i : Nat} {c : Value} {ts : Addr → Value → Option Addr → TS} {s0 : Stmt} {ss : List Stmt} {p1 p2 : Pos} {hs : List ExceptHandler} {l : List Hd} (hc : L2.Names X x c) (hi : X.N[i]? = some n) (hl : X.env.kindOf n = some .local)
      (hsu : ∀ (a : Addr) (ob : Obj) (cls : Value) (d : Option Addr) (pn : List (Addr × Obj)), L2N.Zn cls d ob → (∃ vs, ob.data = .fields vs) → PSs (X.suite a ((a, ob) :: pn)) (s0 :: ss) (ts a cls d)) (r : HdsE X hs l) :
      HdsE X (.ExceptHandler (some (.Name x p1)) (some n) (s0 :: ss) p2 :: hs) ((c, some i, ts) :: l)
section
variable {X : Cx} {body : List Stmt} {h0 : ExceptHandler} {hds : List ExceptHandler} {l : List Hd} {pos : Pos} {tb : WX → TS} {Wout : WX}
theorem ps_try_each (hs : X.stack = X.env :: X.outer) (hf : X.env.frame = some X.env.locals) (hN : X.N.Nodup) (tk : L2N.Takes X Wout)
    (hb : ∀ (W : WX) (pn : List (Addr × Obj)) (xe : Value → Shared → Prop), L2N.Takes (X.tr pn xe) W → PassesOwn (model X.prog X.w) X.A X.env xe → PSs (X.tr pn xe) body (tb W))
    (hh : HdsE X (h0 :: hds) l) : PS X (.Try body (h0 :: hds) [] [] pos) (fun D σ H => tb (wEach X.K Wout D l) D σ H) := by
  refine ⟨fun pins s σ H D I0 h => ?_⟩
  have ok := I0.ok
  have fr : X.A.frames = some (X.env :: X.outer) := ok.frames.trans (by rw [hs])
  refine wpAny_Try_except ?_
  have RB := hb (wEach X.K Wout D l) (X.pn ++ pins) (fun e s1 => wpAny (model X.prog X.w) X.A (noteFrame e X.env) (fun _ s2 => wpAny (model X.prog X.w) X.A (setFlight e none) (fun _ s3 =>
    wpAny (model X.prog X.w) X.A (handleBy e X.env (h0 :: hds)) (SP X pins D) X.xe s3) X.xe s2) X.xe s1) (fun u s' xx => ?_) PassesOwn.looking
  · refine wpAny_mono (RB.run [] s σ H D (I0.toTry _) h) (fun f s1 hsp => ?_) (fun e s1 he => he)
    rcases f with _ | _ | _ | u
    · obtain ⟨σ', H', J', q⟩ := hsp
      exact wpAny_execs_nil ⟨σ', H', J'.ofTry ok, q⟩
    · obtain ⟨σ', H', J', q⟩ := hsp
      exact ⟨σ', H', J'.ofTry ok, q⟩
    · obtain ⟨σ', H', J', q⟩ := hsp
      exact ⟨σ', H', J'.ofTry ok, q⟩
    · obtain ⟨v, σ', H', J', r, q⟩ := hsp
      exact ⟨v, σ', H', J'.ofTry ok, r, q⟩
  · obtain ⟨a, B, sI, pins', σ', H', cls, d, rfl, J', nb, up, sky, na, os, ag, w⟩ := xx
    have J : Inv X pins σ' H' sI := J'.ofTry ok
    have sky : Sky B (X.env :: X.outer) a (L2N.Zn cls d) X.env.locals s'.heap := by rw [← hs]; exact sky
    show wpAny (model X.prog X.w) X.A (noteFrame (.ref a) X.env) _ _ _
    refine L2N.Sky.land L2N.Zn.steady fr hf sky fun h3 fl3 up3 => ?_
    have J3 : Inv X pins σ' H' { s' with heap := h3 } := J.landed nb fl3.1 (up.trans up3) os ag
    obtain ⟨o3, v3, he3, hz3, hd3⟩ := fl3.there
    have away : a ∉ frs (X.env :: X.outer) := fun hm => by
      obtain ⟨_, o', e', hnf⟩ := fl3.2.2.1.mem hm
      rw [he3] at e'
      cases e'
      exact hnf _ hd3
    have nL : a ≠ X.env.locals := fun z => away (List.mem_filterMap.mpr ⟨X.env, List.mem_cons_self, by rw [hf, z]⟩)
    have nF : a ∉ X.fs := fun hm => by
      obtain ⟨e, k, q⟩ := List.mem_filterMap.mp hm
      exact away (List.mem_filterMap.mpr ⟨e, List.mem_cons_of_mem _ k, q⟩)
    have S3 := J3.suite he3 hd3 na nL nF
    have LT : PySem.W.Looks (model X.prog X.w) h3 (typeOf (.ref a)) cls := fun A Q E s k q => wpAny_typeOf_ref (k _ _ he3) (by rw [hz3.1]; exact q)
    have test : ∀ {x : Str} {c : Value} {np : Pos} {Q : Value → Shared → Prop} {E : Value → Shared → Prop}, L2.Names X x c → Q c { s' with heap := h3 } → wpAny (model X.prog X.w) (X.A.mark (some (.ref a))) (eval (.Name x np) X.env) Q E { s' with heap := h3 } := fun {x c np Q E} hc q => by
      obtain ⟨hg, hdbg, hm | ⟨hm, hv, hnn⟩⟩ := hc
      · exact ld_glob (X := X.suite a ((a, o3) :: (X.pn ++ pins))) S3 hg hm q hdbg
      · exact ld_blt (X := X.suite a ((a, o3) :: (X.pn ++ pins))) S3 hg hm hv q hnn hdbg
    have go : ∀ {hs' : List ExceptHandler} {l' : List Hd}, HdsE X hs' l' → wEach X.K Wout D l' cls d σ' H' → wpAny (model X.prog X.w) X.A (handleBy (.ref a) X.env hs') (SP X pins D) X.xe { s' with heap := h3 } := by
      intro hs' l' hk
      induction hk with
      | nil =>
        intro w
        refine wpAny_handleBy_nil ?_
        obtain ⟨k1, k2, k3, ob, vs, T, oT, tv, he, hz, hd, h1, hr⟩ := id fl3
        unfold PySem.passOn
        refine wpAny_bind (wpAny_field he hd h1 ?_)
        rw [if_neg (show ¬ ((Value.ref T == Value.none) = true) from by simp)]
        have fin : wpAny (model X.prog X.w) X.A (setFlight (.ref a) X.env.frame) (fun _ s4 => wpAny (model X.prog X.w) X.A (throw (.ref a) : Sem Flow) (SP X pins D) X.xe s4) X.xe { s' with heap := h3 } := by
          rw [hf]
          exact HandSPX.setFlight_upZ fl3 fun h4 hh4 up4 => wpAny_throw (tk _ _ ⟨a, B, sI, pins, σ', H', cls, d, rfl, J, nb, (up.trans up3).trans up4, .inr (.inr (by rw [hs]; exact hh4)), na, os, ag, w⟩)
        first
          | exact wpAny_bind (wpAny_pure (wpAny_bind fin))
          | exact wpAny_bind fin
      | @cons x c ts s0 ss p1 p2 hs2 l2 hc hsu r ih =>
        intro w
        obtain ⟨b, hb1, hyes, hno⟩ := w
        refine wpAny_handleBy_cons (codeAny_handlers_test ?_) (by intro q; cases q)
        refine test hc ((PySem.W.exm_one (M := model X.prog X.w) (J3.kIn) LT hb1).here ?_)
        cases b with
        | false =>
          show wpAny _ X.A (handleBy (.ref a) X.env hs2) _ _ _
          exact ih (hno rfl)
        | true =>
          refine codeAny_handlers_suite (HandSPX.lands_againZ fl3 fun h4 fl4 up4 => ?_)
          have J4 : Inv X pins σ' H' { s' with heap := h4 } := J.landed nb fl4.1 ((up.trans up3).trans up4) os ag
          obtain ⟨o4, v4, he4, hz4, hd4⟩ := fl4.there
          refine wpAny_mono ((hsu a o4 cls d (X.pn ++ pins) hz4 ⟨_, hd4⟩).run [] _ _ H' _ (J4.suite he4 hd4 na nL nF) (hyes rfl a na)) (fun f s6 hsp => ?_) (fun _ _ z => False.elim z)
          rcases f with _ | _ | _ | u
          · obtain ⟨σ6, H6, S6, q6⟩ := hsp
            exact ⟨_, _, S6.unsuite ok, q6⟩
          · obtain ⟨σ6, H6, S6, q6⟩ := hsp
            exact ⟨_, _, S6.unsuite ok, q6⟩
          · obtain ⟨σ6, H6, S6, q6⟩ := hsp
            exact ⟨_, _, S6.unsuite ok, q6⟩
          · obtain ⟨v6, σ6, H6, S6, r6, q6⟩ := hsp
            exact ⟨_, _, _, S6.unsuite ok, r6, q6⟩
      | @as x n i c ts s0 ss p1 p2 hs2 l2 hc hi hl hsu r ih =>
        intro w
        obtain ⟨b, hb1, hyes, hno⟩ := w
        refine wpAny_handleBy_cons (codeAny_handlers_test ?_) (by intro q; cases q)
        refine test hc ((PySem.W.exm_one (M := model X.prog X.w) (J3.kIn) LT hb1).here ?_)
        cases b with
        | false =>
          show wpAny _ X.A (handleBy (.ref a) X.env hs2) _ _ _
          exact ih (hno rfl)
        | true =>
          refine codeAny_handlers_suite_as (HandSPX.lands_againZ fl3 fun h4 fl4 up4 => ?_)
          have J4 : Inv X pins σ' H' { s' with heap := h4 } := J.landed nb fl4.1 ((up.trans up3).trans up4) os ag
          obtain ⟨o4, v4, he4, hz4, hd4⟩ := fl4.there
          have S4 := J4.suite he4 hd4 na nL nF
          refine store_ok (X := X.suite a ((a, o4) :: (X.pn ++ pins))) (v := .ref a) S4 hN hi (.inl hl) rfl (fun s5 S5 => ?_) (.inr hl)
          refine wpAny_mono ((hsu a o4 cls d (X.pn ++ pins) hz4 ⟨_, hd4⟩).run [] s5 _ H' _ S5 (hyes rfl a na)) (fun f s6 hsp => ?_) (fun _ _ z => False.elim z)
          have gone : ∀ {σ6 : L2.St} {H6 : Hp} {Q : Shared → Prop}, Inv (X.suite a ((a, o4) :: (X.pn ++ pins))) [] σ6 H6 s6 → (∀ s7, Inv X pins (σ6.set i none) H6 s7 → Q s7) →
              wpAny (model X.prog X.w) X.A (do bindName X.env n .none; unbindBehindTheSuite X.env n p2) (fun _ s7 => Q s7) X.xe s6 := fun S6 hq => gone_ok (S6.unsuite ok) hN hi hl hq
          rcases f with _ | _ | _ | u
          · obtain ⟨σ6, H6, S6, q6⟩ := hsp
            exact gone S6 fun s7 J7 => ⟨_, _, J7, q6⟩
          · obtain ⟨σ6, H6, S6, q6⟩ := hsp
            exact gone S6 fun s7 J7 => ⟨_, _, J7, q6⟩
          · obtain ⟨σ6, H6, S6, q6⟩ := hsp
            exact gone S6 fun s7 J7 => ⟨_, _, J7, q6⟩
          · obtain ⟨v6, σ6, H6, S6, r6, q6⟩ := hsp
            exact gone S6 fun s7 J7 => ⟨_, _, _, J7, r6, q6⟩
    exact go hh w
end
end Wm
namespace Wm
open PySem L2 StX
theorem wEach_at {K : PySem.W.Frag} {Wout : WX} {D : Ends} {cls : Value} {d : Option Addr} {σ : L2.St} {H : Hp} : ∀ {l : List Hd} {i : Nat} {c : Value} {o : Option Nat} {ts : Addr → Value → Option Addr → TS}, l[i]? = some (c, o, ts) → (∀ j h, j < i → l[j]? = some h → PySem.W.exmOne K cls h.1 = some false) →
    PySem.W.exmOne K cls c = some true → (∀ a, H a = none → ts a cls d (letGo o D) (bindS o σ a) H) → wEach K Wout D l cls d σ H
  | [], _, _, _, _, e, _, _, _ => by simp at e
  | (c0, o0, t0) :: l, 0, c, o, ts, e, _, h1, h2 => by
    cases Option.some.inj e
    exact ⟨true, h1, fun _ => h2, fun z => Bool.noConfusion z⟩
  | (c0, o0, t0) :: l, i + 1, c, o, ts, e, no, h1, h2 =>
    ⟨false, no 0 _ (Nat.succ_pos i) rfl, fun z => Bool.noConfusion z, fun _ => wEach_at (l := l) (i := i) e (fun j h hj hh => no (j + 1) h (Nat.succ_lt_succ hj) hh) h1 h2⟩
def cAt (e : Er7) : Nat → Addr
  | 0 => e.cB
  | 1 => e.cN
  | 2 => e.cT
  | 3 => e.cS
  | 4 => e.cF
  | 5 => e.cH
  | _ => e.cW
structure TxF (K : PySem.W.Frag) (mg : Str → Option Value) (e : Er7) : Prop where
  g0 : mg "BadRow" = some (.ref e.cB)
  g1 : mg "NoName" = some (.ref e.cN)
  g2 : mg "Taken" = some (.ref e.cT)
  g3 : mg "NoSort" = some (.ref e.cS)
  g4 : mg "Full" = some (.ref e.cF)
  g5 : mg "NoThing" = some (.ref e.cH)
  g6 : mg "NoWord" = some (.ref e.cW)
  ex : ∀ i j, i < 7 → j < 7 → PySem.W.exmOne K (.ref (cAt e i)) (.ref (cAt e j)) = some (decide (i = j))
  xf : ∀ i, i < 7 → XfC K (cAt e i)
  n0 : PySem.W.findIn K (.ref e.cB) "row" = some none
  n1 : PySem.W.findIn K (.ref e.cN) "name" = some none
  n2 : PySem.W.findIn K (.ref e.cT) "name" = some none
  n3 : PySem.W.findIn K (.ref e.cS) "name" = some none
  n5 : PySem.W.findIn K (.ref e.cH) "name" = some none
  n6 : PySem.W.findIn K (.ref e.cW) "name" = some none
def tE (C : Addr) (f kd : Str) : Addr → Value → Option Addr → TS := fun a cls d => tRet (tTup (tCons (tC (.str kd)) (tCons (tXf a cls d C f (tVar 2)) tNil)))
def tE0 (kd : Str) : Addr → Value → Option Addr → TS := fun _ _ _ => tRet (tTup (tCons (tC (.str kd)) tNil))
def hdL (e : Er7) : List Hd := [(.ref e.cB, some 2, tE e.cB "row" "badrow"), (.ref e.cN, some 2, tE e.cN "name" "noname"), (.ref e.cT, some 2, tE e.cT "name" "taken"), (.ref e.cS, some 2, tE e.cS "name" "nosort"), (.ref e.cF, none, tE0 "full"), (.ref e.cH, some 2, tE e.cH "name" "nothing"), (.ref e.cW, some 2, tE e.cW "name" "noword")]
theorem ex_lt {K : PySem.W.Frag} {mg : Str → Option Value} {e : Er7} (TE : TxF K mg e) {j : Nat} (hj : j < 7) {cls : Value} (hc : cls = .ref (cAt e j)) : ∀ i h, i < j → (hdL e)[i]? = some h → PySem.W.exmOne K cls h.1 = some false := by
  intro i h hi hh
  have e1 : h.1 = .ref (cAt e i) := by
    match i, hh with
    | 0, hh => cases hh; rfl
    | 1, hh => cases hh; rfl
    | 2, hh => cases hh; rfl
    | 3, hh => cases hh; rfl
    | 4, hh => cases hh; rfl
    | 5, hh => cases hh; rfl
    | i + 6, _ => omega
  rw [hc, e1, TE.ex j i hj (by omega), decide_eq_false (by omega)]
def tFou (K : PySem.W.Frag) (HC S : Addr) (e : Er7) (W : WX) : TS := tRet (tCall (spSho K HC S) [] E0 (tCons (tCallS (spRdh HC S e) (WE W) (tCons (tVar 0) (tCons (tVar 1) tNil))) tNil))
def spFou (K : PySem.W.Frag) (S : Addr) : Sp := fun vs H Q _ => ∃ (sc lr : Addr) (ss ws rows : List Str), vs = [.ref sc, .ref lr] ∧ SchAt S H sc ss ws ∧ H lr = some (.lst (rows.map V.str)) ∧ rows.length ≤ 500 ∧ RowsOk 900 rows ∧ ∀ t H', H t = none → Same H H' → AnsAt K H' t (readD ss ws rows) → Q (.ref t) H'
section
variable {P : Program} {w : World} {K : PySem.W.Frag} {mg : Str → Option Value} {base : Heap}
theorem scFou : FnScope ["_law_scheme", "_law_rows", "e"] ["_law_scheme", "_law_rows"] (defScope sFou) := ⟨rfl, rfl, rfl, by decide +kernel, rfl, by decide +kernel, by decide +kernel⟩
theorem ok_fou {f HC S fR fS : Addr} {e : Er7} {fd dR dS : FuncData} (F : Fun K "_law_found" "_law_found" sFou f fd) (TE : TxF K mg e) (DRd : Dn K mg "read_house" sRdh ["scheme", "rows"] fR dR) (GRd : FnOk P w K mg base (L2N.CX P w) 7 fR dR ["scheme", "rows"] (spRdh HC S e))
    (DSh : Dn K mg "_law_shown" sSho ["_law_house"] fS dS) (GSh : FnOk P w K mg base CX0 3 fS dS ["_law_house"] (spSho K HC S)) : FnOk P w K mg base CX0 8 f fd ["_law_scheme", "_law_rows"] (spFou K S) := by
  refine F.ok scFou (fun vs H Q E h => ?_) (fun cdv A outer s H vs Q E hr h => ?_)
  · obtain ⟨sc, lr, ss, ws, rows, rfl, _⟩ := h
    rfl
  · obtain ⟨sc, lr, ss, ws, rows, rfl, hsc, hlr, hln, ok, k⟩ := h
    have hr3 : Room 3 _ := hr.mono (by decide)
    refine ⟨_, (pss_one (ps_try_each (tb := tFou K HC S e) (l := hdL e) (Wout := fun _ _ _ _ => False) rfl rfl scFou.nd takesN0 (fun W_ pn xe tk _ => (pss_one (ps_ret (pe_call GSh hr3 rfl DSh.g DSh.F.kp DSh.b .nil pass0 (pa_cons (pe_callS GRd hr rfl DRd.g DRd.F.kp DRd.b (fun σ => L2N.passAt tk σ) (pa_cons (pv 0) (pa_cons (pv 1) pa_nil))) pa_nil))))) (.as ⟨rfl, by decide, Or.inl TE.g0⟩ rfl rfl (fun a oe cls d pn hz hf => (pss_one (ps_ret (pe_tup (pa_cons pe_str (pa_cons (pe_xf (TE.xf 0 (by decide)) TE.n0 hz.zc hf (pv 2)) pa_nil)))))) (.as ⟨rfl, by decide, Or.inl TE.g1⟩ rfl rfl (fun a oe cls d pn hz hf => (pss_one (ps_ret (pe_tup (pa_cons pe_str (pa_cons (pe_xf (TE.xf 1 (by decide)) TE.n1 hz.zc hf (pv 2)) pa_nil)))))) (.as ⟨rfl, by decide, Or.inl TE.g2⟩ rfl rfl (fun a oe cls d pn hz hf => (pss_one (ps_ret (pe_tup (pa_cons pe_str (pa_cons (pe_xf (TE.xf 2 (by decide)) TE.n2 hz.zc hf (pv 2)) pa_nil)))))) (.as ⟨rfl, by decide, Or.inl TE.g3⟩ rfl rfl (fun a oe cls d pn hz hf => (pss_one (ps_ret (pe_tup (pa_cons pe_str (pa_cons (pe_xf (TE.xf 3 (by decide)) TE.n3 hz.zc hf (pv 2)) pa_nil)))))) (.cons ⟨rfl, by decide, Or.inl TE.g4⟩ (fun a oe cls d pn hz hf => (pss_one (ps_ret (pe_tup (pa_cons pe_str pa_nil))))) (.as ⟨rfl, by decide, Or.inl TE.g5⟩ rfl rfl (fun a oe cls d pn hz hf => (pss_one (ps_ret (pe_tup (pa_cons pe_str (pa_cons (pe_xf (TE.xf 5 (by decide)) TE.n5 hz.zc hf (pv 2)) pa_nil)))))) (.as ⟨rfl, by decide, Or.inl TE.g6⟩ rfl rfl (fun a oe cls d pn hz hf => (pss_one (ps_ret (pe_tup (pa_cons pe_str (pa_cons (pe_xf (TE.xf 6 (by decide)) TE.n6 hz.zc hf (pv 2)) pa_nil)))))) .nil))))))))), ?_⟩
    refine ⟨_, rfl, _, rfl, sc, lr, ss, ws, rows, rfl, hsc, hlr, hln, ok, ?_⟩
    cases er : readD ss ws rows with
    | inr p =>
      obtain ⟨th, ts⟩ := p
      rw [er] at k
      have g := read_gd er
      intro x dx d1 d2 d3 H1 S1 nx n1 n2 n3 h1
      exact ⟨x, dx, sc, d1, d2, d3, ss, ws, th, ts, rfl, h1, g.nd, g.l60, fun t H2 nt S2 a => k t H2 (S1.free nt) (S1.trans S2) a⟩
    | inl r =>
      rw [er] at k
      cases r with
      | bad n =>
        intro d H1 nd S1 ex
        refine wEach_at (i := 0) rfl (ex_lt TE (j := 0) (by decide) rfl) (TE.ex 0 0 (by decide) (by decide)) fun a na => ?_
        refine ⟨_, rfl, rfl, rfl, d, _, _, rfl, ex, rfl, by show 2 ≤ sizeLine; decide, fun t nt => ?_⟩
        exact k t _ (S1.free nt) (S1.trans (Same.upd nt)) upd_same
      | nn z =>
        intro d H1 nd S1 ex
        refine wEach_at (i := 1) rfl (ex_lt TE (j := 1) (by decide) rfl) (TE.ex 1 1 (by decide) (by decide)) fun a na => ?_
        refine ⟨_, rfl, rfl, rfl, d, _, _, rfl, ex, rfl, by show 2 ≤ sizeLine; decide, fun t nt => ?_⟩
        exact k t _ (S1.free nt) (S1.trans (Same.upd nt)) upd_same
      | tk z =>
        intro d H1 nd S1 ex
        refine wEach_at (i := 2) rfl (ex_lt TE (j := 2) (by decide) rfl) (TE.ex 2 2 (by decide) (by decide)) fun a na => ?_
        refine ⟨_, rfl, rfl, rfl, d, _, _, rfl, ex, rfl, by show 2 ≤ sizeLine; decide, fun t nt => ?_⟩
        exact k t _ (S1.free nt) (S1.trans (Same.upd nt)) upd_same
      | ns z =>
        intro d H1 nd S1 ex
        refine wEach_at (i := 3) rfl (ex_lt TE (j := 3) (by decide) rfl) (TE.ex 3 3 (by decide) (by decide)) fun a na => ?_
        refine ⟨_, rfl, rfl, rfl, d, _, _, rfl, ex, rfl, by show 2 ≤ sizeLine; decide, fun t nt => ?_⟩
        exact k t _ (S1.free nt) (S1.trans (Same.upd nt)) upd_same
      | fu =>
        intro d H1 nd S1 ex
        refine wEach_at (i := 4) rfl (ex_lt TE (j := 4) (by decide) rfl) (TE.ex 4 4 (by decide) (by decide)) fun a na => ?_
        refine ⟨by show 1 ≤ sizeLine; decide, fun t nt => ?_⟩
        exact k t _ (S1.free nt) (S1.trans (Same.upd nt)) upd_same
      | nt z =>
        intro d H1 nd S1 ex
        refine wEach_at (i := 5) rfl (ex_lt TE (j := 5) (by decide) rfl) (TE.ex 5 5 (by decide) (by decide)) fun a na => ?_
        refine ⟨_, rfl, rfl, rfl, d, _, _, rfl, ex, rfl, by show 2 ≤ sizeLine; decide, fun t nt => ?_⟩
        exact k t _ (S1.free nt) (S1.trans (Same.upd nt)) upd_same
      | nw z =>
        intro d H1 nd S1 ex
        refine wEach_at (i := 6) rfl (ex_lt TE (j := 6) (by decide) rfl) (TE.ex 6 6 (by decide) (by decide)) fun a na => ?_
        refine ⟨_, rfl, rfl, rfl, d, _, _, rfl, ex, rfl, by show 2 ≤ sizeLine; decide, fun t nt => ?_⟩
        exact k t _ (S1.free nt) (S1.trans (Same.upd nt)) upd_same
end
end Wm
namespace Wm
open PySem L2 StX
/-! answers as data -/
def roP : Ro → List PyData
  | .bad n => [.str "badrow", .int n]
  | .nn z => [.str "noname", .str z]
  | .tk z => [.str "taken", .str z]
  | .ns z => [.str "nosort", .str z]
  | .fu => [.str "full"]
  | .nt z => [.str "nothing", .str z]
  | .nw z => [.str "noword", .str z]
def thP (t : Thing) : PyData := .tuple [.str t.1, .str t.2.1, .bool t.2.2]
def ansP : Sum Ro (List Thing × List T3) → PyData
  | .inl r => .tuple (roP r)
  | .inr (th, ts) => .tuple [.str "told", .list (th.map thP), .list ((sortT ts).map triD3)]
def roOk : Ro → Prop
  | .bad _ => True
  | .nn z => okS z
  | .tk z => okS z
  | .ns z => okS z
  | .fu => True
  | .nt z => okS z
  | .nw z => okS z
theorem dp_ro {K : PySem.W.Frag} {H : Hp} (r : Ro) : DpAll K H (roT r) (roP r) := by
  cases r with
  | bad n => exact .cons (.str _) (.cons (.int _) .nil)
  | nn z => exact .cons (.str _) (.cons (.str _) .nil)
  | tk z => exact .cons (.str _) (.cons (.str _) .nil)
  | ns z => exact .cons (.str _) (.cons (.str _) .nil)
  | fu => exact .cons (.str _) .nil
  | nt z => exact .cons (.str _) (.cons (.str _) .nil)
  | nw z => exact .cons (.str _) (.cons (.str _) .nil)
theorem dp_th {K : PySem.W.Frag} {H : Hp} : ∀ {qs : List Addr} {th : List Thing}, FAt (fun q x => H q = some (.tup (thV x))) qs th → DpAll K H (qs.map V.ref) (th.map thP)
  | [], [], _ => .nil
  | q :: _, t :: _, h => .cons (.tup (SqT.of h.1) (.cons (.str _) (.cons (.str _) (.cons (.bl _) .nil)))) (dp_th h.2)
  | [], _ :: _, h => h.elim
  | _ :: _, [], h => h.elim
theorem dp_ts {K : PySem.W.Frag} {H : Hp} : ∀ {qs : List Addr} {ts : List T3}, TrisAt K H qs ts → DpAll K H (qs.map V.ref) (ts.map triD3)
  | [], [], _ => .nil
  | q :: _, t :: _, h => .cons (tri_dp h.1) (dp_ts h.2)
  | [], _ :: _, h => h.elim
  | _ :: _, [], h => h.elim
theorem ans_dp {K : PySem.W.Frag} {H : Hp} {t : Addr} : ∀ {A : Sum Ro (List Thing × List T3)}, AnsAt K H t A → Dp K H (.ref t) (ansP A)
  | .inl r, h => .tup (SqT.of h) (dp_ro r)
  | .inr (th, ts), ⟨lt, lh, qs, hs, e, e1, fa, e2, tr⟩ => .tup (SqT.of e) (.cons (.str _) (.cons (.lst (SqL.of e1) (dp_th fa)) (.cons (.lst (SqL.of e2) (dp_ts tr)) .nil)))
theorem lay_list {n : Nat} : ∀ {ds : List PyData}, (∀ d ∈ ds, PyData.canLay0 d = true ∧ d.depth ≤ n) → PyData.canLayAll0 ds = true ∧ PyData.depthAll ds ≤ n
  | [], _ => by simp [PyData.canLayAll0, PyData.depthAll]
  | d :: r, h => by
    obtain ⟨h1, h2⟩ := h d List.mem_cons_self
    obtain ⟨h3, h4⟩ := lay_list (ds := r) fun y hy => h y (List.mem_cons_of_mem _ hy)
    refine ⟨by simp only [PyData.canLayAll0, h1, h3, Bool.and_self], ?_⟩
    simp only [PyData.depthAll]
    omega
theorem lay_th {t : Thing} (h1 : okS t.1) (h2 : okS t.2.1) : PyData.canLay0 (thP t) = true ∧ (thP t).depth ≤ 2 := by
  simp [thP, PyData.canLay0, PyData.canLayAll0, PyData.depth, PyData.depthAll, strOk_of h1, strOk_of h2]
theorem lay_tri {t : T3} (h1 : okS t.1) (h2 : okS t.2.1) (h3 : okS t.2.2) : PyData.canLay0 (triD3 t) = true ∧ (triD3 t).depth ≤ 2 := by
  simp [triD3, PyData.canLay0, PyData.canLayAll0, PyData.depth, PyData.depthAll, strOk_of h1, strOk_of h2, strOk_of h3]
theorem sh_ro {r : Ro} (h : roOk r) : SeqAt.shaped (.tuple (roP r)) = true := by
  have k1 : PyData.strOk "badrow" = true := by decide +kernel
  have k2 : PyData.strOk "noname" = true := by decide +kernel
  have k3 : PyData.strOk "taken" = true := by decide +kernel
  have k4 : PyData.strOk "nosort" = true := by decide +kernel
  have k5 : PyData.strOk "full" = true := by decide +kernel
  have k6 : PyData.strOk "nothing" = true := by decide +kernel
  have k7 : PyData.strOk "noword" = true := by decide +kernel
  cases r with
  | bad n => simp [roP, SeqAt.shaped, PyData.canLay0, PyData.canLayAll0, PyData.depth, PyData.depthAll, k1]
  | nn z => simp [roP, SeqAt.shaped, PyData.canLay0, PyData.canLayAll0, PyData.depth, PyData.depthAll, k2, strOk_of (show okS z from h)]
  | tk z => simp [roP, SeqAt.shaped, PyData.canLay0, PyData.canLayAll0, PyData.depth, PyData.depthAll, k3, strOk_of (show okS z from h)]
  | ns z => simp [roP, SeqAt.shaped, PyData.canLay0, PyData.canLayAll0, PyData.depth, PyData.depthAll, k4, strOk_of (show okS z from h)]
  | fu => simp [roP, SeqAt.shaped, PyData.canLay0, PyData.canLayAll0, PyData.depth, PyData.depthAll, k5]
  | nt z => simp [roP, SeqAt.shaped, PyData.canLay0, PyData.canLayAll0, PyData.depth, PyData.depthAll, k6, strOk_of (show okS z from h)]
  | nw z => simp [roP, SeqAt.shaped, PyData.canLay0, PyData.canLayAll0, PyData.depth, PyData.depthAll, k7, strOk_of (show okS z from h)]
theorem sh_told {ss ws : List Str} {th : List Thing} {ts : List T3} {n : Nat} (g : Gd ss ws th ts n) (oS : RowsOk 12 ss) (oW : RowsOk 12 ws) : SeqAt.shaped (ansP (.inr (th, ts))) = true := by
  have h1 := lay_list (n := 2) (ds := th.map thP) fun d hd => by
    obtain ⟨t, ht, rfl⟩ := List.mem_map.mp hd
    exact lay_th (isNm_ok (g.nm t ht).1).1 (oS _ (g.nm t ht).2).1
  have h2 := lay_list (n := 2) (ds := (sortT ts).map triD3) fun d hd => by
    obtain ⟨t, ht, rfl⟩ := List.mem_map.mp hd
    have gt := g.ho t (sortT_mem.mp ht)
    exact lay_tri (nm_ok g gt.1).1 (oW _ gt.2.1).1 (nm_ok g gt.2.2).1
  have k : PyData.strOk "told" = true := by decide +kernel
  simp only [ansP, SeqAt.shaped, PyData.canLay0, PyData.canLayAll0, h1.1, h2.1, k, Bool.and_self, Bool.and_true, Bool.true_and, PyData.depth, PyData.depthAll]
  simp
  omega
theorem ent_ok {ss : List Str} {th : List Thing} {a b : Str} {y : Rf} (ha : okS a) (hb : okS b) (h : entD ss th a b = some y) : roOk (roR y) := by
  unfold entD at h
  repeat' split at h
  all_goals first | (cases h; done) | (cases Option.some.inj h; first | exact ha | exact hb | exact True.intro)
theorem unk_ok {ws nms : List Str} {a b c : Str} {y : Ro} (ha : okS a) (hb : okS b) (hc : okS c) (h : unkR ws nms a b c = some y) : roOk y := by
  unfold unkR at h
  repeat' split at h
  all_goals first | (cases h; done) | (cases Option.some.inj h; first | exact ha | exact hb | exact hc)
theorem goH_ro {ss ws : List Str} : ∀ {ps : List (List Str)} {th : List Thing} {ts : List T3} {r : Ro}, (∀ p ∈ ps, ∀ z ∈ p, okS z) → goH ss ws ps th ts = .inl r → roOk r
  | [], th, ts, r, _, e => by
    have e' : (Sum.inr (th, ts) : Sum Ro (List Thing × List T3)) = .inl r := e
    cases e'
  | p :: ps, th, ts, r, ok, e => by
    have ih := @goH_ro ss ws ps
    have okp := ok p List.mem_cons_self
    have okr := fun q hq => ok q (List.mem_cons_of_mem _ hq)
    have ot : (Sum.inr (th, ts) : Sum Ro (List Thing × List T3)) = .inl r → roOk r := fun e => by cases e
    match p, okp, e with
    | [k, a, b, c], okp, e =>
      have oa := okp a (by simp)
      have ob := okp b (by simp)
      have oc := okp c (by simp)
      by_cases hk : k = "thing"
      · simp only [goH, if_pos hk] at e
        cases hE : entD ss th a b with
        | some y =>
          rw [hE] at e
          cases e
          exact ent_ok oa ob hE
        | none =>
          rw [hE] at e
          exact ih okr e
      · simp only [goH, if_neg hk] at e
        cases hE : unkR ws (nmL th) a b c with
        | some y =>
          rw [hE] at e
          cases e
          exact unk_ok oa ob oc hE
        | none =>
          rw [hE] at e
          exact ih okr e
    | [], _, e => exact ot e
    | [_], _, e => exact ot e
    | [_, _], _, e => exact ot e
    | [_, _, _], _, e => exact ot e
    | _ :: _ :: _ :: _ :: _ :: _, _, e => exact ot e
theorem read_sh {ss ws rows : List Str} {m : Nat} (ok : RowsOk m rows) (oS : RowsOk 12 ss) (oW : RowsOk 12 ws) : SeqAt.shaped (ansP (readD ss ws rows)) = true := by
  cases e : readD ss ws rows with
  | inr p =>
    obtain ⟨th, ts⟩ := p
    exact sh_told (read_gd e) oS oW
  | inl r =>
    refine sh_ro ?_
    unfold readD at e
    cases hb : badAt rows with
    | some n =>
      rw [hb] at e
      cases e
      exact True.intro
    | none =>
      rw [hb] at e
      refine goH_ro (fun p hp z hz => ?_) e
      obtain ⟨r', hr', rfl⟩ := List.mem_map.mp hp
      exact pts_ok (ok r' hr').1 z hz
theorem low_let : ∀ c : Nat, lowC c → c ∈ LET := fun c h => by
  have e : LET = (List.range 26).map (· + 97) := by decide +kernel
  rw [e]
  exact List.mem_map.mpr ⟨c - 97, List.mem_range.mpr (by have := h.1; have := h.2; omega), by have := h.1; omega⟩
theorem fig_fig : ∀ c : Nat, figC c → c ∈ FIG := fun c h => by
  have e : FIG = (List.range 10).map (· + 48) := by decide +kernel
  rw [e]
  exact List.mem_map.mpr ⟨c - 48, List.mem_range.mpr (by have := h.1; have := h.2; omega), by have := h.1; omega⟩
theorem NmP.is {z : Str} (h : NmP z) (l : z.length ≤ 12) : isNm z = true := by
  obtain ⟨c, cs, e, h1, h2⟩ := h
  have lz := len_eq z
  rw [e, List.length_cons] at lz
  unfold isNm
  rw [e, decide_eq_true (by omega), decide_eq_true l]
  simp only [first, Bool.true_and, Bool.and_eq_true, decide_eq_true_eq, List.all_cons, List.all_eq_true]
  refine ⟨low_let c h1, ?_, fun d hd => ?_⟩
  · unfold okc
    rw [decide_eq_true (low_let c h1)]
    rfl
  · unfold okc
    rcases h2 d hd with k | k
    · rw [decide_eq_true (low_let d k)]
      rfl
    · rw [decide_eq_true (fig_fig d k)]
      exact Bool.or_true _
theorem AnsAt.same {K : PySem.W.Frag} {H H' : Hp} {t : Addr} (s : Same H H') : ∀ {A : Sum Ro (List Thing × List T3)}, AnsAt K H t A → AnsAt K H' t A
  | .inl r, h => s _ _ h
  | .inr (th, ts), ⟨lt, lh, qs, hs, e, e1, fa, e2, tr⟩ => ⟨lt, lh, qs, hs, s _ _ e, s _ _ e1, fa.imp fun _ _ h => s _ _ h, s _ _ e2, TrisAt.same (fun h => same_seqT s h) tr⟩
theorem stZ_ok (b : Bool) : okS (stZ b) := by
  cases b <;> (unfold okS; decide +kernel)
theorem all_ok {ss ws : List Str} {th : List Thing} {ts : List T3} {n : Nat} (g : Gd ss ws th ts n) (oS : RowsOk 12 ss) (oW : RowsOk 12 ws) : ∀ z ∈ allR th ts, okS z := by
  have k0 : okS "thing " ∧ okS "holds " ∧ okS " " := by refine ⟨?_, ?_, ?_⟩ <;> (unfold okS; decide +kernel)
  intro z hz
  rcases List.mem_append.mp hz with h | h
  · obtain ⟨t, ht, rfl⟩ := List.mem_map.mp h
    exact okS_app (okS_app (okS_app (okS_app (okS_app k0.1 (isNm_ok (g.nm t ht).1).1) k0.2.2) (oS _ (g.nm t ht).2).1) k0.2.2) (stZ_ok _)
  · obtain ⟨t, ht, rfl⟩ := List.mem_map.mp h
    have gt := g.ho t (sortT_mem.mp ht)
    exact okS_app (okS_app (okS_app (okS_app (okS_app k0.2.1 (nm_ok g gt.1).1) k0.2.2) (oW _ gt.2.1).1) k0.2.2) (nm_ok g gt.2.2).1
theorem allR_perm {th : List Thing} {ts us : List T3} (p : us.Perm ts) : allR th us = allR th ts := by
  unfold allR
  rw [sortT_perm p]
theorem gd_perm {ss ws : List Str} {th : List Thing} {ts us : List T3} {n : Nat} (g : Gd ss ws th ts n) (p : us.Perm ts) : Gd ss ws th us n :=
  ⟨g.nd, g.l60, g.nm, fun t ht => g.ho t (p.mem_iff.mp ht), p.nodup_iff.mpr g.ndt, by rw [p.length_eq]; exact g.ln⟩
end Wm
namespace Wm
open PySem L2 StX
def spLaw (K : PySem.W.Frag) : Sp := fun vs H Q _ => ∃ (a : Addr) (ns : List Int), vs = [.ref a] ∧ SqL K H a (ns.map V.int) ∧ ns.length ≤ 63 ∧ ∀ H', Q (.bl true) H'
def bnd (i : Nat) : Nat := if i = 0 then 100 else if i = 1 then 260 else 580
section
variable {P : Program} {w : World} {K : PySem.W.Frag} {mg : Str → Option Value} {base : Heap}
theorem scLaw : FnScope ["_law_script", "_law_pot_here", "_law_ways", "_law_k", "_law_sorts", "_law_words", "_law_rows", "_law_way", "_law_scheme", "_law_handed", "_law_due_here", "_law_told", "_law_house"] ["_law_script"] (defScope sLaw) := ⟨rfl, rfl, rfl, by decide +kernel, rfl, by decide +kernel, by decide +kernel⟩
theorem ok_law {f fPo fT fN fGr fSp fDu fFu fTo fRd fHo fBu fS fH fLn S HC : Addr} {e : Er7} {fd dPo dT dN dGr dSp dDu dFu dTo dRd dHo dBu dS dLn : FuncData} (F : Fun K "law" "law" sLaw f fd) (T : TxB mg) (tl : mg "list" = none) (TC : TxSch K mg S fS) (TH : TxH K mg HC fH)
    (DPo : Dn K mg "_law_pot" sPot ["_law_script"] fPo dPo) (GPo : FnOk P w K mg base CX0 1 fPo dPo ["_law_script"] (spPot K)) (DT : Dn K mg "_law_take" sTak ["_law_pot_here", "_law_many"] fT dT) (GT : FnOk P w K mg base CX0 2 fT dT ["_law_pot_here", "_law_many"] spTak)
    (DN : Dn K mg "_law_names" sNms ["_law_pot_here", "_law_many"] fN dN) (GN : FnOk P w K mg base CX0 3 fN dN ["_law_pot_here", "_law_many"] spNms) (DGr : Dn K mg "_law_good_rows" sGor ["_law_pot_here", "_law_sorts", "_law_words"] fGr dGr) (GGr : FnOk P w K mg base CX0 4 fGr dGr ["_law_pot_here", "_law_sorts", "_law_words"] spGor)
    (DSp : Dn K mg "_law_spoiled" sSpo ["_law_pot_here", "_law_rows", "_law_way"] fSp dSp) (GSp : FnOk P w K mg base CX0 4 fSp dSp ["_law_pot_here", "_law_rows", "_law_way"] spSpo) (DDu : Dn K mg "_law_due" sDue ["_law_rows", "_law_sorts", "_law_words"] fDu dDu) (GDu : FnOk P w K mg base CX0 3 fDu dDu ["_law_rows", "_law_sorts", "_law_words"] (spDue K))
    (DFu : Dn K mg "_law_found" sFou ["_law_scheme", "_law_rows"] fFu dFu) (GFu : FnOk P w K mg base CX0 8 fFu dFu ["_law_scheme", "_law_rows"] (spFou K S)) (DTo : Dn K mg "_law_told_rows" sTor ["_law_due_here"] fTo dTo) (GTo : FnOk P w K mg base CX0 1 fTo dTo ["_law_due_here"] (spTor K))
    (DRd : Dn K mg "read_house" sRdh ["scheme", "rows"] fRd dRd) (GRd : FnOk P w K mg base (L2N.CX P w) 7 fRd dRd ["scheme", "rows"] (spRdh HC S e)) (DHo : Dn K mg "house_rows" sHor ["house"] fHo dHo) (GHo : FnOk P w K mg base CX0 3 fHo dHo ["house"] (spHor HC S))
    (DBu : Dn K mg "_law_built" sBui ["_law_scheme", "_law_due_here"] fBu dBu) (GBu : FnOk P w K mg base CX0 7 fBu dBu ["_law_scheme", "_law_due_here"] (spBui K HC S)) (bSc : Binds K dS ["self", "sorts", "words", "makings", "rules", "bars"] [.none, .none, .none]) (GSc : FnOk P w K mg base CX0 4 fS dS ["self", "sorts", "words", "makings", "rules", "bars"] (spSch K S))
    (hLn : PySem.W.findIn K (.ref HC) "__len__" = some (some (.ref fLn))) (iLn : PySem.W.isFn K (.ref fLn) = true) (bLn : Binds K dLn ["self"] []) (GLn : FnOk P w K mg base CX0 1 fLn dLn ["self"] (spHln HC S)) :
    FnOk P w K mg base CX0 9 f fd ["_law_script"] (spLaw K) := by
  refine F.ok scLaw (fun vs H Q E h => ?_) (fun cdv A outer s H vs Q E hr h => ?_)
  · obtain ⟨a, ns, rfl, _⟩ := h
    rfl
  · obtain ⟨a, ns, rfl, hA, hlen, kk⟩ := h
    have hr1 : Room 1 _ := hr.mono (by decide)
    have hr2 : Room 2 _ := hr.mono (by decide)
    have hr3 : Room 3 _ := hr.mono (by decide)
    have hr4 : Room 4 _ := hr.mono (by decide)
    have hr5 : Room 5 _ := hr.mono (by decide)
    have hr7 : Room 7 _ := hr.mono (by decide)
    have hr8 : Room 8 _ := hr
    refine ⟨_, (pss_cons (ps_set (i := 1) scLaw.nd rfl (Or.inr rfl) (pe_call GPo hr1 rfl DPo.g DPo.F.kp DPo.b .nil pass0 (pa_cons (pv 0) pa_nil)))
      (pss_cons (ps_setLc (i := 2) (own := [("_law_k", 3)]) (g := gName 3) (tt := tYes) (te := tCall spTak [] E0 (tCons (tVar 1) (tCons (tC (.int 12)) tNil))) rfl scLaw.nd rfl rfl (sw_true rfl rfl rfl (by decide +kernel)) (pi_range1 rfl T.range (pa_cons (pe_call GT hr2 rfl DT.g DT.F.kp DT.b .nil pass0 (pa_cons (pv 1) (pa_cons pe_int pa_nil))) pa_nil)) (blkOk_by (N := ["_law_script", "_law_pot_here", "_law_ways", "_law_k", "_law_sorts", "_law_words", "_law_rows", "_law_way", "_law_scheme", "_law_handed", "_law_due_here", "_law_told", "_law_house"]) (sc := defScope sLaw) (by decide +kernel)) (fun _ _ _ _ _ => (pg_name (i := 3) scLaw.nd rfl (Or.inl rfl))) (fun _ _ _ _ _ => pts_nil) (fun _ _ _ _ _ => (pe_call GT hr2 rfl DT.g DT.F.kp DT.b .nil pass0 (pa_cons (pv 1) (pa_cons pe_int pa_nil)))))
      (pss_cons (ps_set (i := 4) scLaw.nd rfl (Or.inl rfl) (pe_call GN hr3 rfl DN.g DN.F.kp DN.b .nil pass0 (pa_cons (pv 1) (pa_cons (pe_op op_add pe_int (pe_call GT hr2 rfl DT.g DT.F.kp DT.b .nil pass0 (pa_cons (pv 1) (pa_cons pe_int pa_nil)))) pa_nil))))
      (pss_cons (ps_set (i := 5) scLaw.nd rfl (Or.inl rfl) (pe_call GN hr3 rfl DN.g DN.F.kp DN.b .nil pass0 (pa_cons (pv 1) (pa_cons (pe_op op_add pe_int (pe_call GT hr2 rfl DT.g DT.F.kp DT.b .nil pass0 (pa_cons (pv 1) (pa_cons pe_int pa_nil)))) pa_nil))))
      (pss_cons (ps_set (i := 6) scLaw.nd rfl (Or.inl rfl) (pe_call GGr hr4 rfl DGr.g DGr.F.kp DGr.b .nil pass0 (pa_cons (pv 1) (pa_cons (pv 4) (pa_cons (pv 5) pa_nil)))))
      (pss_cons (ps_if (pt_cmpR op_eq (pe_call GT hr2 rfl DT.g DT.F.kp DT.b .nil pass0 (pa_cons (pv 1) (pa_cons pe_int pa_nil))) pe_int (nomark _)) (pss_one (ps_set (i := 6) scLaw.nd rfl (Or.inl rfl) (pe_op op_cat (pv 6) (pe_lst (pa_cons (pe_op op_add_str (pe_op op_add_str pe_str (pe_ix ix_list (pv 4) pe_int (fun _ _ => rfl))) pe_str) pa_nil))))) pss_nil)
      (pss_cons (ps_for PassesOwn.never rfl (pi_list (pv 2)) (pg_name (i := 7) scLaw.nd rfl (Or.inl rfl)) (pss_one (ps_if (pt_cmpR (op_neD hr.units) (pv 6) (pe_lst pa_nil) (nomark _)) (pss_one (ps_set (i := 6) scLaw.nd rfl (Or.inl rfl) (pe_call GSp hr4 rfl DSp.g DSp.F.kp DSp.b .nil pass0 (pa_cons (pv 1) (pa_cons (pv 6) (pa_cons (pv 7) pa_nil)))))) pss_nil)))
      (pss_cons (ps_set (i := 8) scLaw.nd rfl (Or.inl rfl) (pe_make (dvs := [.non, .non, .non]) TC.m GSc hr5 rfl TC.g bSc (.cons rfl (.cons rfl (.cons rfl .nil))) pass0 (pa_cons (pv 4) (pa_cons (pv 5) pa_nil))))
      (pss_cons (ps_set (i := 9) scLaw.nd rfl (Or.inl rfl) (pe_callTy call_list_of (by rfl) tl (by decide +kernel) (pa_cons (pv 6) pa_nil)))
      (pss_cons (ps_set (i := 10) scLaw.nd rfl (Or.inl rfl) (pe_call GDu hr3 rfl DDu.g DDu.F.kp DDu.b .nil pass0 (pa_cons (pv 6) (pa_cons (pv 4) (pa_cons (pv 5) pa_nil)))))
      (pss_cons (ps_if (PW.pt (pw_or (pt_cmpR (op_neD hr.units) (pe_call GFu hr8 rfl DFu.g DFu.F.kp DFu.b .nil pass0 (pa_cons (pv 8) (pa_cons (pv 9) pa_nil))) (pv 10) (nomark _)) (pw_or1 (pt_cmpR (op_neD hr.units) (pv 9) (pv 6) (nomark _))))) (pss_one (ps_ret pe_bl)) pss_nil)
      (pss_cons (ps_if (pt_cmpR op_ne (pe_ix ix_tup (pv 10) pe_int (fun _ _ => rfl)) pe_str (nomark _)) (pss_one (ps_ret pe_bl)) pss_nil)
      (pss_cons (ps_set (i := 11) scLaw.nd rfl (Or.inl rfl) (pe_call GTo hr1 rfl DTo.g DTo.F.kp DTo.b .nil pass0 (pa_cons (pv 10) pa_nil)))
      (pss_cons (ps_set (i := 12) scLaw.nd rfl (Or.inl rfl) (pe_call GRd hr7 rfl DRd.g DRd.F.kp DRd.b .nil passN (pa_cons (pv 8) (pa_cons (pv 6) pa_nil))))
      (pss_one (ps_ret (pe_and (pe_cmpR (op_eqD hr.units) (pe_call GHo hr3 rfl DHo.g DHo.F.kp DHo.b .nil pass0 (pa_cons (pv 12) pa_nil)) (pv 11) (nomark _)) (pe_and (pe_cmpR (op_eqD hr.units) (pe_call GHo hr3 rfl DHo.g DHo.F.kp DHo.b .nil pass0 (pa_cons (pe_call GBu hr7 rfl DBu.g DBu.F.kp DBu.b .nil pass0 (pa_cons (pv 8) (pa_cons (pv 10) pa_nil))) pa_nil)) (pv 11) (nomark _)) (pe_one (pe_cmpR op_eq (pe_callB (call_lenO hLn iLn GLn hr2 bLn) (by rfl) T.len (by decide +kernel) (pa_cons (pv 12) pa_nil)) (pe_callB call_len_seq (by rfl) T.len (by decide +kernel) (pa_cons (pe_ix ix_tup (pv 10) pe_int (fun _ _ => rfl)) pa_nil)) (nomark _))))))))))))))))))))), ?_⟩
    rw [show L2.start ["_law_script", "_law_pot_here", "_law_ways", "_law_k", "_law_sorts", "_law_words", "_law_rows", "_law_way", "_law_scheme", "_law_handed", "_law_due_here", "_law_told", "_law_house"] [V.ref a] = [some (.ref a), none, none, none, none, none, none, none, none, none, none, none, none] from rfl]
    have sl : ∀ {a : Nat}, a ≤ 1000 → a ≤ sizeLine := fun h => Nat.le_trans h (by decide)
    refine ⟨_, rfl, a, ns, rfl, hA, hlen, fun p q r H1 fp fq fr S1 P1 => ?_⟩
    dsimp only [gName, List.set_cons_succ, List.set_cons_zero]
    -- in what ways it is spoiled
    refine ⟨_, rfl, p, q, r, 0, 3, rfl, P1, by decide, by decide, by decide, fun dw H2 w0 w3 B2 P2 => ⟨dw, rfl, by omega, by omega, fun D hD => ?_⟩⟩
    have nD := P2.ne hD
    refine lc_range (fun i H' => ∃ ys : List Int, H' D = some (.lst (ys.map V.int)) ∧ ys.length = i ∧ PotAt H' p q r (1 + i)) ?_ ?_ ?_
    · exact ⟨[], upd_same, rfl, P2.same (Same.upd hD)⟩
    · rintro i H' hi ⟨ys, hys, hl, P4⟩
      refine ⟨rfl, ?_⟩
      refine ⟨_, rfl, p, q, r, 1 + i, 12, rfl, P4, by omega, by decide, by decide, fun d4 H4 _ _ B4 P5 => ?_⟩
      refine ⟨_, B4 _ _ nD.1 nD.2.1 hys, ?_, ys ++ [d4], ?_, ?_, P5.upd nD.1 nD.2.1 nD.2.2⟩
      · rw [List.length_map]
        exact Nat.lt_of_le_of_lt (show ys.length ≤ 100 by omega) (by decide)
      · rw [upd_same, List.map_append]
        rfl
      · rw [List.length_append, List.length_singleton]
        omega
    rintro H3 ⟨zs, hzs, zl, P3⟩
    have zl2 : zs.length ≤ 2 := by omega
    have P3 := P3.mono (show 1 + dw.toNat ≤ 3 by omega)
    dsimp only [gName, List.set_cons_succ, List.set_cons_zero]
    -- sorts
    refine ⟨_, rfl, _, rfl, p, q, r, _, 4, rfl, P3, by omega, by decide, by decide, fun d1 H4 b0 b1 B4 P4 => ⟨_, _, rfl, rfl, p, q, r, _, _, rfl, P4, by omega, by omega, by omega, fun ss lS H5 nS ndS B5 P5 eS lnS okS_ => ?_⟩⟩
    have mS := P4.ne nS
    have hzs5 := B5 _ _ nD.1 nD.2.1 (B4 _ _ nD.1 nD.2.1 hzs)
    have P5 := P5.mono (show 3 + 1 + 3 * (1 + d1).toNat ≤ 20 by omega)
    dsimp only [gName, List.set_cons_succ, List.set_cons_zero]
    -- words
    refine ⟨_, rfl, _, rfl, p, q, r, _, 5, rfl, P5, by omega, by decide, by decide, fun d2 H6 c0 c1 B6 P6 => ⟨_, _, rfl, rfl, p, q, r, _, _, rfl, P6, by omega, by omega, by omega, fun ws lW H7 nW ndW B7 P7 eW lnW okW_ => ?_⟩⟩
    have mW := P6.ne nW
    have hzs7 := B7 _ _ nD.1 nD.2.1 (B6 _ _ nD.1 nD.2.1 hzs5)
    have eS7 := B7 _ _ mS.1 mS.2.1 (B6 _ _ mS.1 mS.2.1 eS)
    have P7 := P7.mono (show 20 + 1 + 3 * (1 + d2).toNat ≤ 50 by omega)
    dsimp only [gName, List.set_cons_succ, List.set_cons_zero]
    have lS1 : 0 < ss.length ∧ ss.length ≤ 4 := by omega
    have lW1 : 0 < ws.length ∧ ws.length ≤ 5 := by omega
    have oS : RowsOk 12 ss := fun z hz => ⟨(okS_ z hz).1.ok, (okS_ z hz).2⟩
    have oW : RowsOk 12 ws := fun z hz => ⟨(okW_ z hz).1.ok, (okW_ z hz).2⟩
    have rS : Row ss := ⟨fun z hz => ⟨NmP.is (okS_ z hz).1 (okS_ z hz).2, (okS_ z hz).2⟩, ndS⟩
    have rW : Row ws := ⟨fun z hz => ⟨NmP.is (okW_ z hz).1 (okW_ z hz).2, (okW_ z hz).2⟩, ndW⟩
    -- rows
    refine ⟨_, rfl, _, rfl, _, rfl, p, q, r, lS, lW, _, ss, ws, rfl, P7, by omega, eS7, eW, ⟨mS.1, mS.2.1⟩, ⟨mW.1, mW.2.1⟩, ⟨lS1.1, by omega⟩, lW1, oS, oW, fun rows lr H8 nr B8 P8 er lr66 okr => ?_⟩
    have mr := P7.ne nr
    have hzs8 := B8 _ _ nD.1 nD.2.1 hzs7
    have eS8 := B8 _ _ mS.1 mS.2.1 eS7
    have eW8 := B8 _ _ mW.1 mW.2.1 eW
    have P8 := P8.mono (show 50 + 500 ≤ 600 by omega)
    dsimp only [gName, List.set_cons_succ, List.set_cons_zero]
    refine cut1 (fun σ' H' => ∃ (lr : Addr) (rows : List Str), σ' = [some (.ref a), some (.ref p), some (.ref D), none, some (.ref lS), some (.ref lW), some (.ref lr), none, none, none, none, none, none] ∧ (lr ≠ p ∧ lr ≠ q) ∧ H' lr = some (.lst (rows.map V.str)) ∧ rows.length ≤ 67 ∧ RowsOk 100 rows ∧
      PotAt H' p q r 700 ∧ H' D = some (.lst (zs.map V.int)) ∧ H' lS = some (.lst (ss.map V.str)) ∧ H' lW = some (.lst (ws.map V.str))) ?_ (fun R' fin => ?_)
    · rintro σ' H9 ⟨lr, rows, rfl, nr, er, lr67, okr, P9, hzs9, eS9, eW9⟩
      refine ⟨_, rfl, D, rfl, ⟨_, SqL.of hzs9⟩, for_list (K := K) (a := D) (xs := zs.map V.int) (fun i σ' H' => ∃ (lr : Addr) (rows : List Str) (v : Option V), σ' = [some (.ref a), some (.ref p), some (.ref D), none, some (.ref lS), some (.ref lW), some (.ref lr), v, none, none, none, none, none] ∧ (lr ≠ p ∧ lr ≠ q) ∧ H' lr = some (.lst (rows.map V.str)) ∧ rows.length ≤ 67 + i ∧ RowsOk (bnd i) rows ∧
        PotAt H' p q r (700 + 10 * i) ∧ H' D = some (.lst (zs.map V.int)) ∧ H' lS = some (.lst (ss.map V.str)) ∧ H' lW = some (.lst (ws.map V.str)))
        ⟨lr, rows, none, rfl, nr, er, lr67, okr, P9, hzs9, eS9, eW9⟩ (fun i σ' H' _ ⟨_, _, _, _, _, _, _, _, _, h, _⟩ => SqL.of h) ?_ ?_⟩
      · rintro i y σ' H' hi ⟨lr, rows, v, rfl, nr, er, lrn, okr, Pi, hzi, eSi, eWi⟩
        have iw : i < zs.length := by
          have := (List.getElem?_eq_some_iff.mp hi).1
          rw [List.length_map] at this
          exact this
        rw [List.getElem?_map] at hi
        obtain ⟨c, hc, rfl⟩ := Option.map_eq_some_iff.mp hi
        have bn : 2 * bnd i + 60 ≤ bnd (i + 1) ∧ bnd i ≤ bnd (i + 1) ∧ bnd i ≤ 260 := by
          rcases (by omega : i = 0 ∨ i = 1) with rfl | rfl
          · decide
          · decide
        dsimp only [gName, List.set_cons_succ, List.set_cons_zero]
        refine ⟨_, rfl, Nat.zero_le _, fun le' hle => ?_⟩
        have S9 : Same H' (upd H' le' (.lst [])) := Same.upd hle
        have e9 : (upd H' le' (.lst [])) le' = some (.lst (([] : List Str).map V.str)) := upd_same
        have Pj := Pi.same S9
        generalize upd H' le' (.lst []) = HB at S9 e9 Pj
        refine ⟨_, _, .lst (SqL.of (S9 _ _ er)) (dp_strs rows), .lst (SqL.of e9) (dp_strs []), shaped_strs fun z hz => (okr z hz).1, by decide +kernel, _, rfl, ?_⟩
        rw [eqv_strs]
        by_cases hq : rows = []
        · rw [decide_eq_true hq]
          refine iteF ?_
          exact ⟨lr, rows, _, rfl, nr, S9 _ _ er, by omega, okr.mono bn.2.1, Pj.mono (by omega), S9 _ _ hzi, S9 _ _ eSi, S9 _ _ eWi⟩
        · rw [decide_eq_false hq]
          refine iteT ?_
          refine ⟨_, rfl, _, rfl, _, rfl, p, q, r, lr, _, bnd i, c, rows, rfl, Pj, by omega, S9 _ _ er, nr, List.length_pos_iff.mpr hq, by omega, okr, by omega, fun rs l2 HC_ n2 B2' P2' e2 le2 o2 => ?_⟩
          have m2 := Pj.ne n2
          dsimp only [gName, List.set_cons_succ, List.set_cons_zero]
          exact ⟨l2, rs, _, rfl, ⟨m2.1, m2.2.1⟩, e2, by omega, o2.mono bn.1, P2'.mono (by omega), B2' _ _ nD.1 nD.2.1 (S9 _ _ hzi), B2' _ _ mS.1 mS.2.1 (S9 _ _ eSi), B2' _ _ mW.1 mW.2.1 (S9 _ _ eWi)⟩
      · rintro σ' H' ⟨lr, rows, v, rfl, nr, er, lrn, okr, Pi, hzi, eSi, eWi⟩
        rw [List.length_map] at lrn okr
        have okr : RowsOk 580 rows := okr.mono (by unfold bnd; split <;> (try split) <;> omega)
        have ok9 : RowsOk 900 rows := okr.mono (by decide)
        have lr500 : rows.length ≤ 500 := by omega
        -- the scheme
        refine ⟨_, rfl, _, rfl, fun sc dsc nsc ndsc ne => ?_⟩
        have S4 : Same H' (upd (upd H' dsc (.own sc)) sc (.ins S dsc [])) := (Same.upd ndsc).trans (Same.upd (by rw [upd_ne ne.symm]; exact nsc))
        refine ⟨H', sc, dsc, lS, lW, ss, ws, rfl, S4, nsc, upd_same, SqL.of eSi, SqL.of eWi, rS, rW, lS1.1, lS1.2, lW1.1, lW1.2, fun HD SD hsc => ⟨rfl, ?_⟩⟩
        dsimp only [gName, List.set_cons_succ, List.set_cons_zero]
        have er := SD _ _ er
        have eS := SD _ _ eSi
        have eW := SD _ _ eWi
        -- the list handed in
        refine ⟨_, rfl, lr, _, rfl, .inl (SqL.of er), fun lh nlh => ?_⟩
        have Sh : Same HD (upd HD lh (.lst (rows.map V.str))) := Same.upd nlh
        have eh : (upd HD lh (.lst (rows.map V.str))) lh = some (.lst (rows.map V.str)) := upd_same
        generalize upd HD lh (.lst (rows.map V.str)) = HE at Sh eh
        have er := Sh _ _ er
        have eS := Sh _ _ eS
        have eW := Sh _ _ eW
        have hsc := hsc.same Sh
        dsimp only [gName, List.set_cons_succ, List.set_cons_zero]
        -- what is due
        refine ⟨_, rfl, _, rfl, _, rfl, lr, lS, lW, rows, ss, ws, rfl, er, eS, eW, lr500, ok9, fun td HF ntd SF ad => ?_⟩
        have er := SF _ _ er
        have eh := SF _ _ eh
        have hsc := hsc.same SF
        have sh := read_sh ok9 oS oW
        dsimp only [gName, List.set_cons_succ, List.set_cons_zero]
        -- what is found
        refine ⟨_, rfl, _, rfl, sc, lh, ss, ws, rows, rfl, hsc, eh, lr500, ok9, fun tf HG ntf SG af => ?_⟩
        have ad := ad.same SG
        have er := SG _ _ er
        have eh := SG _ _ eh
        have hsc := hsc.same SG
        refine ⟨_, rfl, _, _, ans_dp af, ans_dp ad, sh, sh, _, rfl, ?_⟩
        rw [eqv_self sh]
        refine iteF ?_
        refine ⟨_, rfl, _, rfl, _, _, .lst (SqL.of eh) (dp_strs rows), .lst (SqL.of er) (dp_strs rows), shaped_strs fun z hz => (ok9 z hz).1, shaped_strs fun z hz => (ok9 z hz).1, _, rfl, ?_⟩
        rw [eqv_strs, decide_eq_true rfl]
        refine iteF ?_
        dsimp only [tNext]
        cases eR : readD ss ws rows with
        | inl y =>
          rw [eR] at ad
          obtain ⟨kd, rest, ek, nk⟩ : ∃ kd rest, roT y = .str kd :: rest ∧ kd ≠ "told" := by
            cases y <;> exact ⟨_, _, rfl, by decide +kernel⟩
          have ad' : HG td = some (.tup (roT y)) := ad
          rw [ek] at ad'
          refine ⟨_, rfl, td, _, 0, .str kd, rfl, rfl, SqT.of ad', atI_nat (xs := V.str kd :: rest) (j := 0) rfl, rfl, _, rfl, ?_⟩
          rw [decide_eq_false (fun z => nk (V.str.inj z))]
          exact iteT (kk _)
        | inr P_ =>
          obtain ⟨th, ts⟩ := P_
          rw [eR] at ad
          obtain ⟨lt, lh2, qs, hs, e0, e1, fa, e2, tr⟩ := id ad
          have g := read_gd eR
          have g5 : Gd ss ws th ts 500 := ⟨g.nd, g.l60, g.nm, g.ho, g.ndt, Nat.le_trans g.ln lr500⟩
          refine ⟨_, rfl, td, _, 0, _, rfl, rfl, SqT.of e0, rfl, rfl, _, rfl, ?_⟩
          rw [decide_eq_true rfl]
          refine iteF ?_
          dsimp only [tNext]
          refine ⟨_, rfl, td, ss, ws, th, ts, rfl, ad, g5, oS, oW, fun l9 HH n9 S9 e9 => ?_⟩
          dsimp only [gName, List.set_cons_succ, List.set_cons_zero]
          refine ⟨_, rfl, _, rfl, sc, lr, ss, ws, rows, rfl, hsc.same S9, S9 _ _ er, lr500, ok9, ?_⟩
          rw [eR]
          intro x dx d1 d2 d3 HI SI nx n1 n2 n3 hI
          dsimp only [gName, List.set_cons_succ, List.set_cons_zero]
          have sh1 := shaped_strs (all_ok g5 oS oW)
          have e9 := SI _ _ e9
          have hscI := (hsc.same S9).same SI
          have adI := (ad.same S9).same SI
          refine ⟨_, rfl, x, dx, sc, d1, d2, d3, ss, ws, th, ts, rfl, hI, g5, oS, oW, fun l1 HJ nl1 SJ el1 => ⟨_, rfl, _, _, .lst (SqL.of el1) (dp_strs _), .lst (SqL.of (SJ _ _ e9)) (dp_strs _), sh1, sh1, _, rfl, ?_⟩⟩
          rw [eqv_strs, decide_eq_true rfl]
          refine iteT ?_
          refine ⟨_, rfl, _, rfl, sc, td, ss, ws, th, ts, rfl, hscI.same SJ, adI.same SJ, g5, fun x2 dx2 f1 f2 f3 HK us SK nx2 hK pm => ?_⟩
          refine ⟨x2, dx2, sc, f1, f2, f3, ss, ws, th, us, rfl, hK, gd_perm g5 pm, oS, oW, fun l2 HL nl2 SL el2 => ?_⟩
          rw [allR_perm pm] at el2
          refine ⟨_, rfl, _, _, .lst (SqL.of el2) (dp_strs _), .lst (SqL.of (SL _ _ (SK _ _ (SJ _ _ e9)))) (dp_strs _), sh1, sh1, _, rfl, ?_⟩
          rw [eqv_strs, decide_eq_true rfl]
          refine iteT ?_
          have SJL := SJ.trans (SK.trans SL)
          have hL := hI.same SJL
          have adL := adI.same SJL
          obtain ⟨lt, lh2, qs, hs, e0, e1, fa, e2, tr⟩ := adL
          have lq : ((qs.map V.ref).length : Int) = (th.length : Int) := by rw [List.length_map, fa.len]
          refine ⟨_, rfl, x, dx, _, rfl, hL.hx, ⟨x, dx, sc, d1, d2, d3, ss, ws, th, ts, rfl, hL, ?_⟩⟩
          refine ⟨th.length, rfl, by have := g.l60; omega, ?_⟩
          refine ⟨_, rfl, td, _, 1, _, rfl, rfl, SqT.of e0, rfl, lt, _, rfl, .inl (SqL.of e1), rfl, ?_⟩
          rw [lq, decide_eq_true rfl]
          exact kk _
    · refine ⟨_, rfl, p, q, r, _, 4, rfl, P8, by omega, by decide, by decide, fun d3 H9 x0 x1 B9 P9 => ⟨rfl, _, rfl, ?_⟩⟩
      have er9 := B9 _ _ mr.1 mr.2.1 er
      have hzs9 := B9 _ _ nD.1 nD.2.1 hzs8
      have eS9 := B9 _ _ mS.1 mS.2.1 eS8
      have eW9 := B9 _ _ mW.1 mW.2.1 eW8
      refine ite2 (fun _ => ?_) (fun _ => ?_)
      · obtain ⟨z0, rest, ess⟩ : ∃ z0 rest, ss = z0 :: rest := by
          cases ss with
          | nil => exact absurd lS1.1 (by decide)
          | cons z0 rest => exact ⟨z0, rest, rfl⟩
        have o0 := oS z0 (by rw [ess]; exact List.mem_cons_self)
        have c9 : ("thing zz " : Str).length = 9 := by decide +kernel
        have c6 : (" awake" : Str).length = 6 := by decide +kernel
        have k9 : okS "thing zz " ∧ okS " awake" := by refine ⟨?_, ?_⟩ <;> (unfold okS; decide +kernel)
        have l0 := o0.2
        have oz : okS ("thing zz " ++ z0 ++ " awake" : Str) := okS_app (okS_app k9.1 o0.1) k9.2
        have lz : ("thing zz " ++ z0 ++ " awake" : Str).length ≤ 100 := by
          rw [len_app, len_app]
          omega
        refine ⟨_, rfl, _, rfl, ?_⟩
        dsimp only [tC]
        refine rdList eS9 (j := 0) rfl (by rw [ess]; rfl) ?_
        refine ⟨_, z0, rfl, rfl, sl (by omega), _, _, rfl, rfl, sl (by rw [len_app]; omega), ?_⟩
        generalize ("thing zz " ++ z0 ++ " awake" : Str) = zz at oz lz
        refine ⟨by show 1 ≤ sizeLine; decide, fun l5 n5 => ?_⟩
        have S5 : Same H9 (upd H9 l5 (.lst [.str zz])) := Same.upd n5
        have e5 : (upd H9 l5 (.lst [.str zz])) l5 = some (.lst (([zz] : List Str).map V.str)) := upd_same
        have P9 := P9.same S5
        generalize upd H9 l5 (.lst [.str zz]) = HA at S5 e5 P9
        refine ⟨lr, l5, _, _, rfl, rfl, S5 _ _ er9, e5, by rw [List.length_map, List.length_map]; exact sl (show rows.length + 1 ≤ 1000 by omega), fun l6 n6 => ?_⟩
        rw [← List.map_append]
        have m6 := P9.ne n6
        have S6 : Same HA (upd HA l6 (.lst ((rows ++ [zz]).map V.str))) := Same.upd n6
        have e6 : (upd HA l6 (.lst ((rows ++ [zz]).map V.str))) l6 = some (.lst ((rows ++ [zz]).map V.str)) := upd_same
        have P9 := P9.same S6
        generalize upd HA l6 (.lst ((rows ++ [zz]).map V.str)) = HB at S6 e6 P9
        have S56 := S5.trans S6
        dsimp only [gName, List.set_cons_succ, List.set_cons_zero]
        exact fin _ _ ⟨l6, rows ++ [zz], rfl, ⟨m6.1, m6.2.1⟩, e6, by rw [List.length_append]; exact Nat.succ_le_succ lr66, okr.app (RowsOk.one oz lz), P9.mono (by omega), S56 _ _ hzs9, S56 _ _ eS9, S56 _ _ eW9⟩
      · exact fin _ _ ⟨lr, rows, rfl, ⟨mr.1, mr.2.1⟩, er9, by omega, okr, P9.mono (by omega), hzs9, eS9, eW9⟩
end
end Wm
namespace Wm
open PySem L2 He ClX StX
theorem errB_ok {K : PySem.W.Frag} {mg : Str → Option Value} {x f : Str} {C fI : Addr} (h : errB K C fI f = true) (g : mg x = some (.ref C)) : ErrT K mg x f C fI ∧ XfC K C ∧ ExcC K C ∧ PySem.W.exmOne K (.ref C) (.ref C) = some true := by
  unfold errB at h
  obtain ⟨h1, h⟩ := ba h
  obtain ⟨h2, h⟩ := ba h
  obtain ⟨h3, h⟩ := ba h
  obtain ⟨h4, h⟩ := ba h
  obtain ⟨h5, h⟩ := ba h
  obtain ⟨h6, h⟩ := ba h
  obtain ⟨h7, h⟩ := ba h
  obtain ⟨h8, h⟩ := ba h
  obtain ⟨h9, h⟩ := ba h
  obtain ⟨h10, h⟩ := ba h
  obtain ⟨h11, h⟩ := ba h
  obtain ⟨h12, h⟩ := ba h
  obtain ⟨h13, h⟩ := ba h
  obtain ⟨h14, h⟩ := ba h
  obtain ⟨h15, h⟩ := ba h
  obtain ⟨h16, h17⟩ := ba h
  exact ⟨⟨⟨excB_ok h14, eqO_ok h1, of_decide_eq_true h2, of_decide_eq_true h3, h4⟩, g, eqO_ok h13, of_decide_eq_true h5, eqO_ok h6, eqO_ok h7⟩, ⟨eqO_ok h8, eqO_ok h9, of_decide_eq_true h2, h10⟩,
    ⟨eqO_ok h8, eqO_ok h9, of_decide_eq_true h2, h10, eqO_ok h11, eqO_ok h16, of_decide_eq_true h17, of_decide_eq_true h12⟩, of_decide_eq_true h15⟩
theorem exB_ok {K : PySem.W.Frag} {e : Er7} (h : exB K [e.cB, e.cN, e.cT, e.cS, e.cF, e.cH, e.cW] = true) : ∀ i j, i < 7 → j < 7 → PySem.W.exmOne K (.ref (cAt e i)) (.ref (cAt e j)) = some (decide (i = j)) := fun i j hi hj => by
  have q := of_decide_eq_true (List.all_eq_true.mp (List.all_eq_true.mp h i (List.mem_range.mpr hi)) j (List.mem_range.mpr hj))
  have c : ∀ i, i < 7 → [e.cB, e.cN, e.cT, e.cS, e.cF, e.cH, e.cW].getD i 0 = cAt e i := fun i hi => match i, hi with | 0, _ => rfl | 1, _ => rfl | 2, _ => rfl | 3, _ => rfl | 4, _ => rfl | 5, _ => rfl | 6, _ => rfl | i + 7, hi => absurd hi (by omega)
  rw [c i hi, c j hj] at q
  exact q
theorem facts {P : Program} {w : World} {K : PySem.W.Frag} {h : Heap} {mg : Str → Option Value} {fa : Addr} (X : K.In h) (G : h.Ns mainGlobals mg) (hfa : mg "law" = some (.ref fa)) (c : SaysM ck fnL K) :
    ∃ fd : FuncData, (∀ (s : Shared) (v : Value), BindsTo s fd ⟨[v], []⟩ [("_law_script", v)]) ∧ ∀ base : Heap, K.In base → base.Ns mainGlobals mg → FnOk P w K mg base CX0 9 fa fd ["_law_script"] (spLaw K) := by
  have q := c.says
  unfold ck at q
  obtain ⟨qf, q⟩ := ba q
  obtain ⟨qw, q⟩ := ba q
  obtain ⟨qe0, q⟩ := ba q
  obtain ⟨qe1, q⟩ := ba q
  obtain ⟨qe2, q⟩ := ba q
  obtain ⟨qe3, q⟩ := ba q
  obtain ⟨qe4, q⟩ := ba q
  obtain ⟨qe5, q⟩ := ba q
  obtain ⟨qe6, q⟩ := ba q
  have ft : ∀ (i : Nat) {f : Fa}, factL[i]? = some f → f.ok K = true := fun i {f} e => List.all_eq_true.mp qf f (List.mem_of_getElem? e)
  have g_WhoError := glo_ok X G (ft 0 (f := .glo "WhoError") rfl)
  have g_NoName := glo_ok X G (ft 1 (f := .glo "NoName") rfl)
  have g_Taken := glo_ok X G (ft 2 (f := .glo "Taken") rfl)
  have g_NoSort := glo_ok X G (ft 3 (f := .glo "NoSort") rfl)
  have g_Full := glo_ok X G (ft 4 (f := .glo "Full") rfl)
  have g_NoThing := glo_ok X G (ft 5 (f := .glo "NoThing") rfl)
  have g_NoWord := glo_ok X G (ft 6 (f := .glo "NoWord") rfl)
  have g_BadRow := glo_ok X G (ft 7 (f := .glo "BadRow") rfl)
  have g_is_name := glo_ok X G (ft 8 (f := .glo "is_name") rfl)
  obtain ⟨fd_is_name, Fk_is_name⟩ := c.def_ 0 (d := d_is_name) rfl
  have Fk_is_name : FunD K "is_name" "is_name" (defArgs sName) (defBody sName) (defScope sName) [] [] (ga K "is_name") fd_is_name := Fk_is_name
  have F_is_name : Fun K "is_name" "is_name" sName (ga K "is_name") fd_is_name := fun_of Fk_is_name
  have D_is_name : Dn K mg "is_name" sName ["text"] (ga K "is_name") fd_is_name := ⟨F_is_name, g_is_name, F_is_name.binds (ps := ["text"]) fun _ _ _ _ _ _ us hl => match us, hl with | [_], _ => rfl⟩
  have g_refuse_no_name := glo_ok X G (ft 9 (f := .glo "refuse_no_name") rfl)
  obtain ⟨fd_refuse_no_name, Fk_refuse_no_name⟩ := c.def_ 1 (d := d_refuse_no_name) rfl
  have Fk_refuse_no_name : FunD K "refuse_no_name" "refuse_no_name" (defArgs sRN) (defBody sRN) (defScope sRN) [] [] (ga K "refuse_no_name") fd_refuse_no_name := Fk_refuse_no_name
  have F_refuse_no_name : Fun K "refuse_no_name" "refuse_no_name" sRN (ga K "refuse_no_name") fd_refuse_no_name := fun_of Fk_refuse_no_name
  have D_refuse_no_name : Dn K mg "refuse_no_name" sRN ["texts"] (ga K "refuse_no_name") fd_refuse_no_name := ⟨F_refuse_no_name, g_refuse_no_name, F_refuse_no_name.binds (ps := ["texts"]) fun _ _ _ _ _ _ us hl => match us, hl with | [_], _ => rfl⟩
  have g_first_twice := glo_ok X G (ft 10 (f := .glo "first_twice") rfl)
  obtain ⟨fd_first_twice, Fk_first_twice⟩ := c.def_ 2 (d := d_first_twice) rfl
  have Fk_first_twice : FunD K "first_twice" "first_twice" (defArgs sFT) (defBody sFT) (defScope sFT) [] [] (ga K "first_twice") fd_first_twice := Fk_first_twice
  have F_first_twice : Fun K "first_twice" "first_twice" sFT (ga K "first_twice") fd_first_twice := fun_of Fk_first_twice
  have D_first_twice : Dn K mg "first_twice" sFT ["row"] (ga K "first_twice") fd_first_twice := ⟨F_first_twice, g_first_twice, F_first_twice.binds (ps := ["row"]) fun _ _ _ _ _ _ us hl => match us, hl with | [_], _ => rfl⟩
  have g_refuse_twice := glo_ok X G (ft 11 (f := .glo "refuse_twice") rfl)
  obtain ⟨fd_refuse_twice, Fk_refuse_twice⟩ := c.def_ 3 (d := d_refuse_twice) rfl
  have Fk_refuse_twice : FunD K "refuse_twice" "refuse_twice" (defArgs sRT) (defBody sRT) (defScope sRT) [] [] (ga K "refuse_twice") fd_refuse_twice := Fk_refuse_twice
  have F_refuse_twice : Fun K "refuse_twice" "refuse_twice" sRT (ga K "refuse_twice") fd_refuse_twice := fun_of Fk_refuse_twice
  have D_refuse_twice : Dn K mg "refuse_twice" sRT ["names"] (ga K "refuse_twice") fd_refuse_twice := ⟨F_refuse_twice, g_refuse_twice, F_refuse_twice.binds (ps := ["names"]) fun _ _ _ _ _ _ us hl => match us, hl with | [_], _ => rfl⟩
  have g_refuse_count := glo_ok X G (ft 12 (f := .glo "refuse_count") rfl)
  obtain ⟨fd_refuse_count, Fk_refuse_count⟩ := c.def_ 4 (d := d_refuse_count) rfl
  have Fk_refuse_count : FunD K "refuse_count" "refuse_count" (defArgs sRC) (defBody sRC) (defScope sRC) [] [] (ga K "refuse_count") fd_refuse_count := Fk_refuse_count
  have F_refuse_count : Fun K "refuse_count" "refuse_count" sRC (ga K "refuse_count") fd_refuse_count := fun_of Fk_refuse_count
  have D_refuse_count : Dn K mg "refuse_count" sRC ["what", "count", "least", "most"] (ga K "refuse_count") fd_refuse_count := ⟨F_refuse_count, g_refuse_count, F_refuse_count.binds (ps := ["what", "count", "least", "most"]) fun _ _ _ _ _ _ us hl => match us, hl with | [_, _, _, _], _ => rfl⟩
  have g_own_list := glo_ok X G (ft 13 (f := .glo "own_list") rfl)
  obtain ⟨fd_own_list, Fk_own_list⟩ := c.def_ 5 (d := d_own_list) rfl
  have Fk_own_list : FunD K "own_list" "own_list" (defArgs sOL) (defBody sOL) (defScope sOL) [] [] (ga K "own_list") fd_own_list := Fk_own_list
  have F_own_list : Fun K "own_list" "own_list" sOL (ga K "own_list") fd_own_list := fun_of Fk_own_list
  have D_own_list : Dn K mg "own_list" sOL ["rows"] (ga K "own_list") fd_own_list := ⟨F_own_list, g_own_list, F_own_list.binds (ps := ["rows"]) fun _ _ _ _ _ _ us hl => match us, hl with | [_], _ => rfl⟩
  have g_refuse_makings_twice := glo_ok X G (ft 14 (f := .glo "refuse_makings_twice") rfl)
  obtain ⟨fd_refuse_makings_twice, Fk_refuse_makings_twice⟩ := c.def_ 6 (d := d_refuse_makings_twice) rfl
  have Fk_refuse_makings_twice : FunD K "refuse_makings_twice" "refuse_makings_twice" (defArgs sRMT) (defBody sRMT) (defScope sRMT) [] [] (ga K "refuse_makings_twice") fd_refuse_makings_twice := Fk_refuse_makings_twice
  have F_refuse_makings_twice : Fun K "refuse_makings_twice" "refuse_makings_twice" sRMT (ga K "refuse_makings_twice") fd_refuse_makings_twice := fun_of Fk_refuse_makings_twice
  have D_refuse_makings_twice : Dn K mg "refuse_makings_twice" sRMT ["makings"] (ga K "refuse_makings_twice") fd_refuse_makings_twice := ⟨F_refuse_makings_twice, g_refuse_makings_twice, F_refuse_makings_twice.binds (ps := ["makings"]) fun _ _ _ _ _ _ us hl => match us, hl with | [_], _ => rfl⟩
  have g_refuse_no_sort := glo_ok X G (ft 15 (f := .glo "refuse_no_sort") rfl)
  obtain ⟨fd_refuse_no_sort, Fk_refuse_no_sort⟩ := c.def_ 7 (d := d_refuse_no_sort) rfl
  have Fk_refuse_no_sort : FunD K "refuse_no_sort" "refuse_no_sort" (defArgs sRNS) (defBody sRNS) (defScope sRNS) [] [] (ga K "refuse_no_sort") fd_refuse_no_sort := Fk_refuse_no_sort
  have F_refuse_no_sort : Fun K "refuse_no_sort" "refuse_no_sort" sRNS (ga K "refuse_no_sort") fd_refuse_no_sort := fun_of Fk_refuse_no_sort
  have D_refuse_no_sort : Dn K mg "refuse_no_sort" sRNS ["sorts", "makings", "patterns"] (ga K "refuse_no_sort") fd_refuse_no_sort := ⟨F_refuse_no_sort, g_refuse_no_sort, F_refuse_no_sort.binds (ps := ["sorts", "makings", "patterns"]) fun _ _ _ _ _ _ us hl => match us, hl with | [_, _, _], _ => rfl⟩
  have g_refuse_upward := glo_ok X G (ft 16 (f := .glo "refuse_upward") rfl)
  obtain ⟨fd_refuse_upward, Fk_refuse_upward⟩ := c.def_ 8 (d := d_refuse_upward) rfl
  have Fk_refuse_upward : FunD K "refuse_upward" "refuse_upward" (defArgs sRU) (defBody sRU) (defScope sRU) [] [] (ga K "refuse_upward") fd_refuse_upward := Fk_refuse_upward
  have F_refuse_upward : Fun K "refuse_upward" "refuse_upward" sRU (ga K "refuse_upward") fd_refuse_upward := fun_of Fk_refuse_upward
  have D_refuse_upward : Dn K mg "refuse_upward" sRU ["sorts", "makings"] (ga K "refuse_upward") fd_refuse_upward := ⟨F_refuse_upward, g_refuse_upward, F_refuse_upward.binds (ps := ["sorts", "makings"]) fun _ _ _ _ _ _ us hl => match us, hl with | [_, _], _ => rfl⟩
  have g_refuse_no_word := glo_ok X G (ft 17 (f := .glo "refuse_no_word") rfl)
  obtain ⟨fd_refuse_no_word, Fk_refuse_no_word⟩ := c.def_ 9 (d := d_refuse_no_word) rfl
  have Fk_refuse_no_word : FunD K "refuse_no_word" "refuse_no_word" (defArgs sRNW) (defBody sRNW) (defScope sRNW) [] [] (ga K "refuse_no_word") fd_refuse_no_word := Fk_refuse_no_word
  have F_refuse_no_word : Fun K "refuse_no_word" "refuse_no_word" sRNW (ga K "refuse_no_word") fd_refuse_no_word := fun_of Fk_refuse_no_word
  have D_refuse_no_word : Dn K mg "refuse_no_word" sRNW ["words", "makings", "rules", "bars"] (ga K "refuse_no_word") fd_refuse_no_word := ⟨F_refuse_no_word, g_refuse_no_word, F_refuse_no_word.binds (ps := ["words", "makings", "rules", "bars"]) fun _ _ _ _ _ _ us hl => match us, hl with | [_, _, _, _], _ => rfl⟩
  have g_check_scheme := glo_ok X G (ft 18 (f := .glo "check_scheme") rfl)
  obtain ⟨fd_check_scheme, Fk_check_scheme⟩ := c.def_ 10 (d := d_check_scheme) rfl
  have Fk_check_scheme : FunD K "check_scheme" "check_scheme" (defArgs sCS) (defBody sCS) (defScope sCS) [] [] (ga K "check_scheme") fd_check_scheme := Fk_check_scheme
  have F_check_scheme : Fun K "check_scheme" "check_scheme" sCS (ga K "check_scheme") fd_check_scheme := fun_of Fk_check_scheme
  have D_check_scheme : Dn K mg "check_scheme" sCS ["sorts", "words", "makings", "rules", "bars"] (ga K "check_scheme") fd_check_scheme := ⟨F_check_scheme, g_check_scheme, F_check_scheme.binds (ps := ["sorts", "words", "makings", "rules", "bars"]) fun _ _ _ _ _ _ us hl => match us, hl with | [_, _, _, _, _], _ => rfl⟩
  have g_parts_of := glo_ok X G (ft 19 (f := .glo "parts_of") rfl)
  obtain ⟨fd_parts_of, Fk_parts_of⟩ := c.def_ 11 (d := d_parts_of) rfl
  have Fk_parts_of : FunD K "parts_of" "parts_of" (defArgs sPo) (defBody sPo) (defScope sPo) [] [] (ga K "parts_of") fd_parts_of := Fk_parts_of
  have F_parts_of : Fun K "parts_of" "parts_of" sPo (ga K "parts_of") fd_parts_of := fun_of Fk_parts_of
  have D_parts_of : Dn K mg "parts_of" sPo ["row"] (ga K "parts_of") fd_parts_of := ⟨F_parts_of, g_parts_of, F_parts_of.binds (ps := ["row"]) fun _ _ _ _ _ _ us hl => match us, hl with | [_], _ => rfl⟩
  have g_house_rows := glo_ok X G (ft 20 (f := .glo "house_rows") rfl)
  obtain ⟨fd_house_rows, Fk_house_rows⟩ := c.def_ 12 (d := d_house_rows) rfl
  have Fk_house_rows : FunD K "house_rows" "house_rows" (defArgs sHor) (defBody sHor) (defScope sHor) [] [] (ga K "house_rows") fd_house_rows := Fk_house_rows
  have F_house_rows : Fun K "house_rows" "house_rows" sHor (ga K "house_rows") fd_house_rows := fun_of Fk_house_rows
  have D_house_rows : Dn K mg "house_rows" sHor ["house"] (ga K "house_rows") fd_house_rows := ⟨F_house_rows, g_house_rows, F_house_rows.binds (ps := ["house"]) fun _ _ _ _ _ _ us hl => match us, hl with | [_], _ => rfl⟩
  have g_house_parts := glo_ok X G (ft 21 (f := .glo "house_parts") rfl)
  obtain ⟨fd_house_parts, Fk_house_parts⟩ := c.def_ 13 (d := d_house_parts) rfl
  have Fk_house_parts : FunD K "house_parts" "house_parts" (defArgs sHps) (defBody sHps) (defScope sHps) [] [] (ga K "house_parts") fd_house_parts := Fk_house_parts
  have F_house_parts : Fun K "house_parts" "house_parts" sHps (ga K "house_parts") fd_house_parts := fun_of Fk_house_parts
  have D_house_parts : Dn K mg "house_parts" sHps ["row", "number"] (ga K "house_parts") fd_house_parts := ⟨F_house_parts, g_house_parts, F_house_parts.binds (ps := ["row", "number"]) fun _ _ _ _ _ _ us hl => match us, hl with | [_, _], _ => rfl⟩
  have g_read_house := glo_ok X G (ft 22 (f := .glo "read_house") rfl)
  obtain ⟨fd_read_house, Fk_read_house⟩ := c.def_ 14 (d := d_read_house) rfl
  have Fk_read_house : FunD K "read_house" "read_house" (defArgs sRdh) (defBody sRdh) (defScope sRdh) [] [] (ga K "read_house") fd_read_house := Fk_read_house
  have F_read_house : Fun K "read_house" "read_house" sRdh (ga K "read_house") fd_read_house := fun_of Fk_read_house
  have D_read_house : Dn K mg "read_house" sRdh ["scheme", "rows"] (ga K "read_house") fd_read_house := ⟨F_read_house, g_read_house, F_read_house.binds (ps := ["scheme", "rows"]) fun _ _ _ _ _ _ us hl => match us, hl with | [_, _], _ => rfl⟩
  have g__law_pot := glo_ok X G (ft 23 (f := .glo "_law_pot") rfl)
  obtain ⟨fd__law_pot, Fk__law_pot⟩ := c.def_ 15 (d := d__law_pot) rfl
  have Fk__law_pot : FunD K "_law_pot" "_law_pot" (defArgs sPot) (defBody sPot) (defScope sPot) [] [] (ga K "_law_pot") fd__law_pot := Fk__law_pot
  have F__law_pot : Fun K "_law_pot" "_law_pot" sPot (ga K "_law_pot") fd__law_pot := fun_of Fk__law_pot
  have D__law_pot : Dn K mg "_law_pot" sPot ["_law_script"] (ga K "_law_pot") fd__law_pot := ⟨F__law_pot, g__law_pot, F__law_pot.binds (ps := ["_law_script"]) fun _ _ _ _ _ _ us hl => match us, hl with | [_], _ => rfl⟩
  have g__law_mixed := glo_ok X G (ft 24 (f := .glo "_law_mixed") rfl)
  obtain ⟨fd__law_mixed, Fk__law_mixed⟩ := c.def_ 16 (d := d__law_mixed) rfl
  have Fk__law_mixed : FunD K "_law_mixed" "_law_mixed" (defArgs sMix) (defBody sMix) (defScope sMix) [] [] (ga K "_law_mixed") fd__law_mixed := Fk__law_mixed
  have F__law_mixed : Fun K "_law_mixed" "_law_mixed" sMix (ga K "_law_mixed") fd__law_mixed := fun_of Fk__law_mixed
  have D__law_mixed : Dn K mg "_law_mixed" sMix ["_law_cell", "_law_k"] (ga K "_law_mixed") fd__law_mixed := ⟨F__law_mixed, g__law_mixed, F__law_mixed.binds (ps := ["_law_cell", "_law_k"]) fun _ _ _ _ _ _ us hl => match us, hl with | [_, _], _ => rfl⟩
  have g__law_take := glo_ok X G (ft 25 (f := .glo "_law_take") rfl)
  obtain ⟨fd__law_take, Fk__law_take⟩ := c.def_ 17 (d := d__law_take) rfl
  have Fk__law_take : FunD K "_law_take" "_law_take" (defArgs sTak) (defBody sTak) (defScope sTak) [] [] (ga K "_law_take") fd__law_take := Fk__law_take
  have F__law_take : Fun K "_law_take" "_law_take" sTak (ga K "_law_take") fd__law_take := fun_of Fk__law_take
  have D__law_take : Dn K mg "_law_take" sTak ["_law_pot_here", "_law_many"] (ga K "_law_take") fd__law_take := ⟨F__law_take, g__law_take, F__law_take.binds (ps := ["_law_pot_here", "_law_many"]) fun _ _ _ _ _ _ us hl => match us, hl with | [_, _], _ => rfl⟩
  have g__law_name_by := glo_ok X G (ft 26 (f := .glo "_law_name_by") rfl)
  obtain ⟨fd__law_name_by, Fk__law_name_by⟩ := c.def_ 18 (d := d__law_name_by) rfl
  have Fk__law_name_by : FunD K "_law_name_by" "_law_name_by" (defArgs sNBy) (defBody sNBy) (defScope sNBy) [] [] (ga K "_law_name_by") fd__law_name_by := Fk__law_name_by
  have F__law_name_by : Fun K "_law_name_by" "_law_name_by" sNBy (ga K "_law_name_by") fd__law_name_by := fun_of Fk__law_name_by
  have D__law_name_by : Dn K mg "_law_name_by" sNBy ["_law_kind", "_law_index"] (ga K "_law_name_by") fd__law_name_by := ⟨F__law_name_by, g__law_name_by, F__law_name_by.binds (ps := ["_law_kind", "_law_index"]) fun _ _ _ _ _ _ us hl => match us, hl with | [_, _], _ => rfl⟩
  have g__law_names := glo_ok X G (ft 27 (f := .glo "_law_names") rfl)
  obtain ⟨fd__law_names, Fk__law_names⟩ := c.def_ 19 (d := d__law_names) rfl
  have Fk__law_names : FunD K "_law_names" "_law_names" (defArgs sNms) (defBody sNms) (defScope sNms) [] [] (ga K "_law_names") fd__law_names := Fk__law_names
  have F__law_names : Fun K "_law_names" "_law_names" sNms (ga K "_law_names") fd__law_names := fun_of Fk__law_names
  have D__law_names : Dn K mg "_law_names" sNms ["_law_pot_here", "_law_many"] (ga K "_law_names") fd__law_names := ⟨F__law_names, g__law_names, F__law_names.binds (ps := ["_law_pot_here", "_law_many"]) fun _ _ _ _ _ _ us hl => match us, hl with | [_, _], _ => rfl⟩
  have g__law_good_rows := glo_ok X G (ft 28 (f := .glo "_law_good_rows") rfl)
  obtain ⟨fd__law_good_rows, Fk__law_good_rows⟩ := c.def_ 20 (d := d__law_good_rows) rfl
  have Fk__law_good_rows : FunD K "_law_good_rows" "_law_good_rows" (defArgs sGor) (defBody sGor) (defScope sGor) [] [] (ga K "_law_good_rows") fd__law_good_rows := Fk__law_good_rows
  have F__law_good_rows : Fun K "_law_good_rows" "_law_good_rows" sGor (ga K "_law_good_rows") fd__law_good_rows := fun_of Fk__law_good_rows
  have D__law_good_rows : Dn K mg "_law_good_rows" sGor ["_law_pot_here", "_law_sorts", "_law_words"] (ga K "_law_good_rows") fd__law_good_rows := ⟨F__law_good_rows, g__law_good_rows, F__law_good_rows.binds (ps := ["_law_pot_here", "_law_sorts", "_law_words"]) fun _ _ _ _ _ _ us hl => match us, hl with | [_, _, _], _ => rfl⟩
  have g__law_spoiled := glo_ok X G (ft 29 (f := .glo "_law_spoiled") rfl)
  obtain ⟨fd__law_spoiled, Fk__law_spoiled⟩ := c.def_ 21 (d := d__law_spoiled) rfl
  have Fk__law_spoiled : FunD K "_law_spoiled" "_law_spoiled" (defArgs sSpo) (defBody sSpo) (defScope sSpo) [] [] (ga K "_law_spoiled") fd__law_spoiled := Fk__law_spoiled
  have F__law_spoiled : Fun K "_law_spoiled" "_law_spoiled" sSpo (ga K "_law_spoiled") fd__law_spoiled := fun_of Fk__law_spoiled
  have D__law_spoiled : Dn K mg "_law_spoiled" sSpo ["_law_pot_here", "_law_rows", "_law_way"] (ga K "_law_spoiled") fd__law_spoiled := ⟨F__law_spoiled, g__law_spoiled, F__law_spoiled.binds (ps := ["_law_pot_here", "_law_rows", "_law_way"]) fun _ _ _ _ _ _ us hl => match us, hl with | [_, _, _], _ => rfl⟩
  have g__law_is_name := glo_ok X G (ft 30 (f := .glo "_law_is_name") rfl)
  obtain ⟨fd__law_is_name, Fk__law_is_name⟩ := c.def_ 22 (d := d__law_is_name) rfl
  have Fk__law_is_name : FunD K "_law_is_name" "_law_is_name" (defArgs sLnm) (defBody sLnm) (defScope sLnm) [] [] (ga K "_law_is_name") fd__law_is_name := Fk__law_is_name
  have F__law_is_name : Fun K "_law_is_name" "_law_is_name" sLnm (ga K "_law_is_name") fd__law_is_name := fun_of Fk__law_is_name
  have D__law_is_name : Dn K mg "_law_is_name" sLnm ["_law_text"] (ga K "_law_is_name") fd__law_is_name := ⟨F__law_is_name, g__law_is_name, F__law_is_name.binds (ps := ["_law_text"]) fun _ _ _ _ _ _ us hl => match us, hl with | [_], _ => rfl⟩
  have g__law_formed := glo_ok X G (ft 31 (f := .glo "_law_formed") rfl)
  obtain ⟨fd__law_formed, Fk__law_formed⟩ := c.def_ 23 (d := d__law_formed) rfl
  have Fk__law_formed : FunD K "_law_formed" "_law_formed" (defArgs sFor) (defBody sFor) (defScope sFor) [] [] (ga K "_law_formed") fd__law_formed := Fk__law_formed
  have F__law_formed : Fun K "_law_formed" "_law_formed" sFor (ga K "_law_formed") fd__law_formed := fun_of Fk__law_formed
  have D__law_formed : Dn K mg "_law_formed" sFor ["_law_rows"] (ga K "_law_formed") fd__law_formed := ⟨F__law_formed, g__law_formed, F__law_formed.binds (ps := ["_law_rows"]) fun _ _ _ _ _ _ us hl => match us, hl with | [_], _ => rfl⟩
  have g__law_thing_due := glo_ok X G (ft 32 (f := .glo "_law_thing_due") rfl)
  obtain ⟨fd__law_thing_due, Fk__law_thing_due⟩ := c.def_ 24 (d := d__law_thing_due) rfl
  have Fk__law_thing_due : FunD K "_law_thing_due" "_law_thing_due" (defArgs sThd) (defBody sThd) (defScope sThd) [] [] (ga K "_law_thing_due") fd__law_thing_due := Fk__law_thing_due
  have F__law_thing_due : Fun K "_law_thing_due" "_law_thing_due" sThd (ga K "_law_thing_due") fd__law_thing_due := fun_of Fk__law_thing_due
  have D__law_thing_due : Dn K mg "_law_thing_due" sThd ["_law_name", "_law_sort", "_law_things", "_law_sorts"] (ga K "_law_thing_due") fd__law_thing_due := ⟨F__law_thing_due, g__law_thing_due, F__law_thing_due.binds (ps := ["_law_name", "_law_sort", "_law_things", "_law_sorts"]) fun _ _ _ _ _ _ us hl => match us, hl with | [_, _, _, _], _ => rfl⟩
  have g__law_holding_due := glo_ok X G (ft 33 (f := .glo "_law_holding_due") rfl)
  obtain ⟨fd__law_holding_due, Fk__law_holding_due⟩ := c.def_ 25 (d := d__law_holding_due) rfl
  have Fk__law_holding_due : FunD K "_law_holding_due" "_law_holding_due" (defArgs sHod) (defBody sHod) (defScope sHod) [] [] (ga K "_law_holding_due") fd__law_holding_due := Fk__law_holding_due
  have F__law_holding_due : Fun K "_law_holding_due" "_law_holding_due" sHod (ga K "_law_holding_due") fd__law_holding_due := fun_of Fk__law_holding_due
  have D__law_holding_due : Dn K mg "_law_holding_due" sHod ["_law_x", "_law_word", "_law_y", "_law_things", "_law_words"] (ga K "_law_holding_due") fd__law_holding_due := ⟨F__law_holding_due, g__law_holding_due, F__law_holding_due.binds (ps := ["_law_x", "_law_word", "_law_y", "_law_things", "_law_words"]) fun _ _ _ _ _ _ us hl => match us, hl with | [_, _, _, _, _], _ => rfl⟩
  have g__law_due := glo_ok X G (ft 34 (f := .glo "_law_due") rfl)
  obtain ⟨fd__law_due, Fk__law_due⟩ := c.def_ 26 (d := d__law_due) rfl
  have Fk__law_due : FunD K "_law_due" "_law_due" (defArgs sDue) (defBody sDue) (defScope sDue) [] [] (ga K "_law_due") fd__law_due := Fk__law_due
  have F__law_due : Fun K "_law_due" "_law_due" sDue (ga K "_law_due") fd__law_due := fun_of Fk__law_due
  have D__law_due : Dn K mg "_law_due" sDue ["_law_rows", "_law_sorts", "_law_words"] (ga K "_law_due") fd__law_due := ⟨F__law_due, g__law_due, F__law_due.binds (ps := ["_law_rows", "_law_sorts", "_law_words"]) fun _ _ _ _ _ _ us hl => match us, hl with | [_, _, _], _ => rfl⟩
  have g__law_shown := glo_ok X G (ft 35 (f := .glo "_law_shown") rfl)
  obtain ⟨fd__law_shown, Fk__law_shown⟩ := c.def_ 27 (d := d__law_shown) rfl
  have Fk__law_shown : FunD K "_law_shown" "_law_shown" (defArgs sSho) (defBody sSho) (defScope sSho) [] [] (ga K "_law_shown") fd__law_shown := Fk__law_shown
  have F__law_shown : Fun K "_law_shown" "_law_shown" sSho (ga K "_law_shown") fd__law_shown := fun_of Fk__law_shown
  have D__law_shown : Dn K mg "_law_shown" sSho ["_law_house"] (ga K "_law_shown") fd__law_shown := ⟨F__law_shown, g__law_shown, F__law_shown.binds (ps := ["_law_house"]) fun _ _ _ _ _ _ us hl => match us, hl with | [_], _ => rfl⟩
  have g__law_found := glo_ok X G (ft 36 (f := .glo "_law_found") rfl)
  obtain ⟨fd__law_found, Fk__law_found⟩ := c.def_ 28 (d := d__law_found) rfl
  have Fk__law_found : FunD K "_law_found" "_law_found" (defArgs sFou) (defBody sFou) (defScope sFou) [] [] (ga K "_law_found") fd__law_found := Fk__law_found
  have F__law_found : Fun K "_law_found" "_law_found" sFou (ga K "_law_found") fd__law_found := fun_of Fk__law_found
  have D__law_found : Dn K mg "_law_found" sFou ["_law_scheme", "_law_rows"] (ga K "_law_found") fd__law_found := ⟨F__law_found, g__law_found, F__law_found.binds (ps := ["_law_scheme", "_law_rows"]) fun _ _ _ _ _ _ us hl => match us, hl with | [_, _], _ => rfl⟩
  have g__law_told_rows := glo_ok X G (ft 37 (f := .glo "_law_told_rows") rfl)
  obtain ⟨fd__law_told_rows, Fk__law_told_rows⟩ := c.def_ 29 (d := d__law_told_rows) rfl
  have Fk__law_told_rows : FunD K "_law_told_rows" "_law_told_rows" (defArgs sTor) (defBody sTor) (defScope sTor) [] [] (ga K "_law_told_rows") fd__law_told_rows := Fk__law_told_rows
  have F__law_told_rows : Fun K "_law_told_rows" "_law_told_rows" sTor (ga K "_law_told_rows") fd__law_told_rows := fun_of Fk__law_told_rows
  have D__law_told_rows : Dn K mg "_law_told_rows" sTor ["_law_due_here"] (ga K "_law_told_rows") fd__law_told_rows := ⟨F__law_told_rows, g__law_told_rows, F__law_told_rows.binds (ps := ["_law_due_here"]) fun _ _ _ _ _ _ us hl => match us, hl with | [_], _ => rfl⟩
  have g__law_built := glo_ok X G (ft 38 (f := .glo "_law_built") rfl)
  obtain ⟨fd__law_built, Fk__law_built⟩ := c.def_ 30 (d := d__law_built) rfl
  have Fk__law_built : FunD K "_law_built" "_law_built" (defArgs sBui) (defBody sBui) (defScope sBui) [] [] (ga K "_law_built") fd__law_built := Fk__law_built
  have F__law_built : Fun K "_law_built" "_law_built" sBui (ga K "_law_built") fd__law_built := fun_of Fk__law_built
  have D__law_built : Dn K mg "_law_built" sBui ["_law_scheme", "_law_due_here"] (ga K "_law_built") fd__law_built := ⟨F__law_built, g__law_built, F__law_built.binds (ps := ["_law_scheme", "_law_due_here"]) fun _ _ _ _ _ _ us hl => match us, hl with | [_, _], _ => rfl⟩
  have g_law := glo_ok X G (ft 39 (f := .glo "law") rfl)
  obtain ⟨fd_law, Fk_law⟩ := c.def_ 31 (d := d_law) rfl
  have Fk_law : FunD K "law" "law" (defArgs sLaw) (defBody sLaw) (defScope sLaw) [] [] (ga K "law") fd_law := Fk_law
  have F_law : Fun K "law" "law" sLaw (ga K "law") fd_law := fun_of Fk_law
  have FLb := FunD.bindsA (ps := ["_law_script"]) Fk_law fun _ _ _ _ _ _ us hl => match us, hl with | [_], _ => rfl
  have g_Scheme := glo_ok X G (ft 40 (f := .glo "Scheme") rfl)
  have cls_Scheme := cls_ok (ft 41 (f := .cls "Scheme") rfl)
  have na_Scheme_own_sorts := noat_ok (ft 42 (f := .noat "Scheme" "own_sorts") rfl)
  have na_Scheme_own_words := noat_ok (ft 43 (f := .noat "Scheme" "own_words") rfl)
  have na_Scheme_own_makings := noat_ok (ft 44 (f := .noat "Scheme" "own_makings") rfl)
  have na_Scheme_own_rules := noat_ok (ft 45 (f := .noat "Scheme" "own_rules") rfl)
  have na_Scheme_own_bars := noat_ok (ft 46 (f := .noat "Scheme" "own_bars") rfl)
  have mk_Scheme := mkr_ok (ft 47 (f := .mkr "Scheme") rfl)
  have g_House := glo_ok X G (ft 48 (f := .glo "House") rfl)
  have cls_House := cls_ok (ft 49 (f := .cls "House") rfl)
  have na_House_own_scheme := noat_ok (ft 50 (f := .noat "House" "own_scheme") rfl)
  have na_House_sort_by_name := noat_ok (ft 51 (f := .noat "House" "sort_by_name") rfl)
  have na_House_awake_by_name := noat_ok (ft 52 (f := .noat "House" "awake_by_name") rfl)
  have na_House_standing := noat_ok (ft 53 (f := .noat "House" "standing") rfl)
  have mk_House := mkr_ok (ft 54 (f := .mkr "House") rfl)
  obtain ⟨fd_NoName___init__, Fk_NoName___init__⟩ := c.def_ 32 (d := d_NoName___init__) rfl
  have Fk_NoName___init__ : FunD K "__init__" "NoName.__init__" (defArgs sNN) (defBody sNN) (defScope sNN) [] [] (ma K (ga K "NoName") "__init__") fd_NoName___init__ := Fk_NoName___init__
  have F_NoName___init__ : Fun K "__init__" "NoName.__init__" sNN (ma K (ga K "NoName") "__init__") fd_NoName___init__ := fun_of Fk_NoName___init__
  have b_NoName___init__ := F_NoName___init__.binds (ps := ["self", "name"]) fun _ _ _ _ _ _ us hl => match us, hl with | [_, _], _ => rfl
  obtain ⟨fd_Taken___init__, Fk_Taken___init__⟩ := c.def_ 33 (d := d_Taken___init__) rfl
  have Fk_Taken___init__ : FunD K "__init__" "Taken.__init__" (defArgs sTk) (defBody sTk) (defScope sTk) [] [] (ma K (ga K "Taken") "__init__") fd_Taken___init__ := Fk_Taken___init__
  have F_Taken___init__ : Fun K "__init__" "Taken.__init__" sTk (ma K (ga K "Taken") "__init__") fd_Taken___init__ := fun_of Fk_Taken___init__
  have b_Taken___init__ := F_Taken___init__.binds (ps := ["self", "name"]) fun _ _ _ _ _ _ us hl => match us, hl with | [_, _], _ => rfl
  obtain ⟨fd_NoSort___init__, Fk_NoSort___init__⟩ := c.def_ 34 (d := d_NoSort___init__) rfl
  have Fk_NoSort___init__ : FunD K "__init__" "NoSort.__init__" (defArgs sNS) (defBody sNS) (defScope sNS) [] [] (ma K (ga K "NoSort") "__init__") fd_NoSort___init__ := Fk_NoSort___init__
  have F_NoSort___init__ : Fun K "__init__" "NoSort.__init__" sNS (ma K (ga K "NoSort") "__init__") fd_NoSort___init__ := fun_of Fk_NoSort___init__
  have b_NoSort___init__ := F_NoSort___init__.binds (ps := ["self", "name"]) fun _ _ _ _ _ _ us hl => match us, hl with | [_, _], _ => rfl
  obtain ⟨fd_NoThing___init__, Fk_NoThing___init__⟩ := c.def_ 35 (d := d_NoThing___init__) rfl
  have Fk_NoThing___init__ : FunD K "__init__" "NoThing.__init__" (defArgs sNT) (defBody sNT) (defScope sNT) [] [] (ma K (ga K "NoThing") "__init__") fd_NoThing___init__ := Fk_NoThing___init__
  have F_NoThing___init__ : Fun K "__init__" "NoThing.__init__" sNT (ma K (ga K "NoThing") "__init__") fd_NoThing___init__ := fun_of Fk_NoThing___init__
  have b_NoThing___init__ := F_NoThing___init__.binds (ps := ["self", "name"]) fun _ _ _ _ _ _ us hl => match us, hl with | [_, _], _ => rfl
  obtain ⟨fd_NoWord___init__, Fk_NoWord___init__⟩ := c.def_ 36 (d := d_NoWord___init__) rfl
  have Fk_NoWord___init__ : FunD K "__init__" "NoWord.__init__" (defArgs sNW) (defBody sNW) (defScope sNW) [] [] (ma K (ga K "NoWord") "__init__") fd_NoWord___init__ := Fk_NoWord___init__
  have F_NoWord___init__ : Fun K "__init__" "NoWord.__init__" sNW (ma K (ga K "NoWord") "__init__") fd_NoWord___init__ := fun_of Fk_NoWord___init__
  have b_NoWord___init__ := F_NoWord___init__.binds (ps := ["self", "name"]) fun _ _ _ _ _ _ us hl => match us, hl with | [_, _], _ => rfl
  obtain ⟨fd_Full___init__, Fk_Full___init__⟩ := c.def_ 37 (d := d_Full___init__) rfl
  have Fk_Full___init__ : FunD K "__init__" "Full.__init__" (defArgs sFu) (defBody sFu) (defScope sFu) [] [] (ma K (ga K "Full") "__init__") fd_Full___init__ := Fk_Full___init__
  have F_Full___init__ : Fun K "__init__" "Full.__init__" sFu (ma K (ga K "Full") "__init__") fd_Full___init__ := fun_of Fk_Full___init__
  have b_Full___init__ := F_Full___init__.binds (ps := ["self"]) fun _ _ _ _ _ _ us hl => match us, hl with | [_], _ => rfl
  obtain ⟨fd_BadRow___init__, Fk_BadRow___init__⟩ := c.def_ 38 (d := d_BadRow___init__) rfl
  have Fk_BadRow___init__ : FunD K "__init__" "BadRow.__init__" (defArgs sBR) (defBody sBR) (defScope sBR) [] [] (ma K (ga K "BadRow") "__init__") fd_BadRow___init__ := Fk_BadRow___init__
  have F_BadRow___init__ : Fun K "__init__" "BadRow.__init__" sBR (ma K (ga K "BadRow") "__init__") fd_BadRow___init__ := fun_of Fk_BadRow___init__
  have b_BadRow___init__ := F_BadRow___init__.binds (ps := ["self", "row"]) fun _ _ _ _ _ _ us hl => match us, hl with | [_, _], _ => rfl
  have m_Scheme_sorts := meth_ok (ft 55 (f := .meth "Scheme" "sorts") rfl)
  obtain ⟨fd_Scheme_sorts, Fk_Scheme_sorts⟩ := c.def_ 39 (d := d_Scheme_sorts) rfl
  have Fk_Scheme_sorts : FunD K "sorts" "Scheme.sorts" (defArgs sSor) (defBody sSor) (defScope sSor) [] [] (ma K (ga K "Scheme") "sorts") fd_Scheme_sorts := Fk_Scheme_sorts
  have F_Scheme_sorts : Fun K "sorts" "Scheme.sorts" sSor (ma K (ga K "Scheme") "sorts") fd_Scheme_sorts := fun_of Fk_Scheme_sorts
  have b_Scheme_sorts := F_Scheme_sorts.binds (ps := ["self"]) fun _ _ _ _ _ _ us hl => match us, hl with | [_], _ => rfl
  have m_Scheme_words := meth_ok (ft 56 (f := .meth "Scheme" "words") rfl)
  obtain ⟨fd_Scheme_words, Fk_Scheme_words⟩ := c.def_ 40 (d := d_Scheme_words) rfl
  have Fk_Scheme_words : FunD K "words" "Scheme.words" (defArgs sWor) (defBody sWor) (defScope sWor) [] [] (ma K (ga K "Scheme") "words") fd_Scheme_words := Fk_Scheme_words
  have F_Scheme_words : Fun K "words" "Scheme.words" sWor (ma K (ga K "Scheme") "words") fd_Scheme_words := fun_of Fk_Scheme_words
  have b_Scheme_words := F_Scheme_words.binds (ps := ["self"]) fun _ _ _ _ _ _ us hl => match us, hl with | [_], _ => rfl
  obtain ⟨fd_House___init__, Fk_House___init__⟩ := c.def_ 41 (d := d_House___init__) rfl
  have Fk_House___init__ : FunD K "__init__" "House.__init__" (defArgs sHin) (defBody sHin) (defScope sHin) [] [] (ma K (ga K "House") "__init__") fd_House___init__ := Fk_House___init__
  have F_House___init__ : Fun K "__init__" "House.__init__" sHin (ma K (ga K "House") "__init__") fd_House___init__ := fun_of Fk_House___init__
  have b_House___init__ := F_House___init__.binds (ps := ["self", "scheme"]) fun _ _ _ _ _ _ us hl => match us, hl with | [_, _], _ => rfl
  have m_House___len__ := meth_ok (ft 57 (f := .meth "House" "__len__") rfl)
  obtain ⟨fd_House___len__, Fk_House___len__⟩ := c.def_ 42 (d := d_House___len__) rfl
  have Fk_House___len__ : FunD K "__len__" "House.__len__" (defArgs sHln) (defBody sHln) (defScope sHln) [] [] (ma K (ga K "House") "__len__") fd_House___len__ := Fk_House___len__
  have F_House___len__ : Fun K "__len__" "House.__len__" sHln (ma K (ga K "House") "__len__") fd_House___len__ := fun_of Fk_House___len__
  have b_House___len__ := F_House___len__.binds (ps := ["self"]) fun _ _ _ _ _ _ us hl => match us, hl with | [_], _ => rfl
  have m_House_things := meth_ok (ft 58 (f := .meth "House" "things") rfl)
  obtain ⟨fd_House_things, Fk_House_things⟩ := c.def_ 43 (d := d_House_things) rfl
  have Fk_House_things : FunD K "things" "House.things" (defArgs sHth) (defBody sHth) (defScope sHth) [] [] (ma K (ga K "House") "things") fd_House_things := Fk_House_things
  have F_House_things : Fun K "things" "House.things" sHth (ma K (ga K "House") "things") fd_House_things := fun_of Fk_House_things
  have b_House_things := F_House_things.binds (ps := ["self"]) fun _ _ _ _ _ _ us hl => match us, hl with | [_], _ => rfl
  have m_House_give := meth_ok (ft 59 (f := .meth "House" "give") rfl)
  obtain ⟨fd_House_give, Fk_House_give⟩ := c.def_ 44 (d := d_House_give) rfl
  have Fk_House_give : FunD K "give" "House.give" (defArgs sHgi) (defBody sHgi) (defScope sHgi) [] [] (ma K (ga K "House") "give") fd_House_give := Fk_House_give
  have F_House_give : Fun K "give" "House.give" sHgi (ma K (ga K "House") "give") fd_House_give := fun_of Fk_House_give
  have b_House_give := F_House_give.binds (ps := ["self", "x", "word", "y"]) fun _ _ _ _ _ _ us hl => match us, hl with | [_, _, _, _], _ => rfl
  have m_House_wake := meth_ok (ft 60 (f := .meth "House" "wake") rfl)
  obtain ⟨fd_House_wake, Fk_House_wake⟩ := c.def_ 45 (d := d_House_wake) rfl
  have Fk_House_wake : FunD K "wake" "House.wake" (defArgs sHwa) (defBody sHwa) (defScope sHwa) [] [] (ma K (ga K "House") "wake") fd_House_wake := Fk_House_wake
  have F_House_wake : Fun K "wake" "House.wake" sHwa (ma K (ga K "House") "wake") fd_House_wake := fun_of Fk_House_wake
  have b_House_wake := F_House_wake.binds (ps := ["self", "x"]) fun _ _ _ _ _ _ us hl => match us, hl with | [_, _], _ => rfl
  have m_House_sleep := meth_ok (ft 61 (f := .meth "House" "sleep") rfl)
  obtain ⟨fd_House_sleep, Fk_House_sleep⟩ := c.def_ 46 (d := d_House_sleep) rfl
  have Fk_House_sleep : FunD K "sleep" "House.sleep" (defArgs sHsl) (defBody sHsl) (defScope sHsl) [] [] (ma K (ga K "House") "sleep") fd_House_sleep := Fk_House_sleep
  have F_House_sleep : Fun K "sleep" "House.sleep" sHsl (ma K (ga K "House") "sleep") fd_House_sleep := fun_of Fk_House_sleep
  have b_House_sleep := F_House_sleep.binds (ps := ["self", "x"]) fun _ _ _ _ _ _ us hl => match us, hl with | [_, _], _ => rfl
  have m_House_sort_of := meth_ok (ft 62 (f := .meth "House" "sort_of") rfl)
  obtain ⟨fd_House_sort_of, Fk_House_sort_of⟩ := c.def_ 47 (d := d_House_sort_of) rfl
  have Fk_House_sort_of : FunD K "sort_of" "House.sort_of" (defArgs sHso) (defBody sHso) (defScope sHso) [] [] (ma K (ga K "House") "sort_of") fd_House_sort_of := Fk_House_sort_of
  have F_House_sort_of : Fun K "sort_of" "House.sort_of" sHso (ma K (ga K "House") "sort_of") fd_House_sort_of := fun_of Fk_House_sort_of
  have b_House_sort_of := F_House_sort_of.binds (ps := ["self", "x"]) fun _ _ _ _ _ _ us hl => match us, hl with | [_, _], _ => rfl
  have m_House_is_awake := meth_ok (ft 63 (f := .meth "House" "is_awake") rfl)
  obtain ⟨fd_House_is_awake, Fk_House_is_awake⟩ := c.def_ 48 (d := d_House_is_awake) rfl
  have Fk_House_is_awake : FunD K "is_awake" "House.is_awake" (defArgs sHia) (defBody sHia) (defScope sHia) [] [] (ma K (ga K "House") "is_awake") fd_House_is_awake := Fk_House_is_awake
  have F_House_is_awake : Fun K "is_awake" "House.is_awake" sHia (ma K (ga K "House") "is_awake") fd_House_is_awake := fun_of Fk_House_is_awake
  have b_House_is_awake := F_House_is_awake.binds (ps := ["self", "x"]) fun _ _ _ _ _ _ us hl => match us, hl with | [_, _], _ => rfl
  have m_House_held := meth_ok (ft 64 (f := .meth "House" "held") rfl)
  obtain ⟨fd_House_held, Fk_House_held⟩ := c.def_ 49 (d := d_House_held) rfl
  have Fk_House_held : FunD K "held" "House.held" (defArgs sHhe) (defBody sHhe) (defScope sHhe) [] [] (ma K (ga K "House") "held") fd_House_held := Fk_House_held
  have F_House_held : Fun K "held" "House.held" sHhe (ma K (ga K "House") "held") fd_House_held := fun_of Fk_House_held
  have b_House_held := F_House_held.binds (ps := ["self"]) fun _ _ _ _ _ _ us hl => match us, hl with | [_], _ => rfl
  have m_House_refuse_no_thing := meth_ok (ft 65 (f := .meth "House" "refuse_no_thing") rfl)
  obtain ⟨fd_House_refuse_no_thing, Fk_House_refuse_no_thing⟩ := c.def_ 50 (d := d_House_refuse_no_thing) rfl
  have Fk_House_refuse_no_thing : FunD K "refuse_no_thing" "House.refuse_no_thing" (defArgs sHrt) (defBody sHrt) (defScope sHrt) [] [] (ma K (ga K "House") "refuse_no_thing") fd_House_refuse_no_thing := Fk_House_refuse_no_thing
  have F_House_refuse_no_thing : Fun K "refuse_no_thing" "House.refuse_no_thing" sHrt (ma K (ga K "House") "refuse_no_thing") fd_House_refuse_no_thing := fun_of Fk_House_refuse_no_thing
  have b_House_refuse_no_thing := F_House_refuse_no_thing.binds (ps := ["self", "name"]) fun _ _ _ _ _ _ us hl => match us, hl with | [_, _], _ => rfl
  have m_House_refuse_strange := meth_ok (ft 66 (f := .meth "House" "refuse_strange") rfl)
  obtain ⟨fd_House_refuse_strange, Fk_House_refuse_strange⟩ := c.def_ 51 (d := d_House_refuse_strange) rfl
  have Fk_House_refuse_strange : FunD K "refuse_strange" "House.refuse_strange" (defArgs sHrs) (defBody sHrs) (defScope sHrs) [] [] (ma K (ga K "House") "refuse_strange") fd_House_refuse_strange := Fk_House_refuse_strange
  have F_House_refuse_strange : Fun K "refuse_strange" "House.refuse_strange" sHrs (ma K (ga K "House") "refuse_strange") fd_House_refuse_strange := fun_of Fk_House_refuse_strange
  have b_House_refuse_strange := F_House_refuse_strange.binds (ps := ["self", "x", "word", "y"]) fun _ _ _ _ _ _ us hl => match us, hl with | [_, _, _, _], _ => rfl
  have m_House_enter := meth_ok (ft 67 (f := .meth "House" "enter") rfl)
  have t_abs := free_ok X G (ft 68 (f := .free "abs") rfl)
  have t_int := free_ok X G (ft 69 (f := .free "int") rfl)
  have t_len := free_ok X G (ft 70 (f := .free "len") rfl)
  have t_range := free_ok X G (ft 71 (f := .free "range") rfl)
  have t_all := free_ok X G (ft 72 (f := .free "all") rfl)
  have t_tuple := free_ok X G (ft 73 (f := .free "tuple") rfl)
  have t_enumerate := free_ok X G (ft 74 (f := .free "enumerate") rfl)
  have t_isinstance := free_ok X G (ft 75 (f := .free "isinstance") rfl)
  have t_ValueError := free_ok X G (ft 76 (f := .free "ValueError") rfl)
  have t_list := free_ok X G (ft 77 (f := .free "list") rfl)
  have t_str := free_ok X G (ft 78 (f := .free "str") rfl)
  have t_sorted := free_ok X G (ft 79 (f := .free "sorted") rfl)
  have t_max := free_ok X G (ft 80 (f := .free "max") rfl)
  have e := hfa.symm.trans g_law
  cases e
  have T : TxB mg := ⟨t_abs, t_int, t_len, t_range, t_all, t_tuple, t_enumerate, t_isinstance, t_ValueError⟩
  have TN : TxN mg := ⟨str_ok X G (ft 81 rfl), str_ok X G (ft 82 rfl), int_ok X G (ft 83 rfl)⟩
  have TS : TxS mg := ⟨int_ok X G (ft 84 rfl), int_ok X G (ft 85 rfl), int_ok X G (ft 86 rfl), int_ok X G (ft 87 rfl)⟩
  have MT := int_ok X G (ft 88 rfl)
  obtain ⟨dW0, FW⟩ := c.def_ 53 (d := dWho) rfl
  have FW : FunD K "__init__" "WhoError.__init__" (defArgs sW0) (defBody sW0) (defScope sW0) [.str (PySem.Str.ofString "whoerror")] [] (ma K (ga K "WhoError") "__init__") dW0 := FW
  obtain ⟨ds, hds, bW⟩ := FW.binds1 (ps := ["self", "kind"]) 2 1 (by simp) (by rfl) (fun T kV doc pm an cdv ct us its hu hi => match us, hu, its, hi with | [_, _], _, [_], _ => ⟨_, rfl, rfl⟩)
  cases hds
  have ww := whoB_ok qw
  have TW : WhoT K mg (ga K "WhoError") (ma K (ga K "WhoError") "__init__") dW0 := ⟨g_WhoError, ww.1, ww.2, FW.kp, bW⟩
  have E0 := errB_ok (x := "NoName") qe0 g_NoName
  have E1 := errB_ok (x := "Taken") qe1 g_Taken
  have E2 := errB_ok (x := "NoSort") qe2 g_NoSort
  have E3 := errB_ok (x := "Full") qe3 g_Full
  have E4 := errB_ok (x := "NoThing") qe4 g_NoThing
  have E5 := errB_ok (x := "NoWord") qe5 g_NoWord
  have E6 := errB_ok (x := "BadRow") qe6 g_BadRow
  have TE : TxF K mg (⟨ga K "BadRow", ga K "NoName", ga K "Taken", ga K "NoSort", ga K "Full", ga K "NoThing", ga K "NoWord"⟩ : Er7) := ⟨g_BadRow, g_NoName, g_Taken, g_NoSort, g_Full, g_NoThing, g_NoWord, exB_ok (e := (⟨ga K "BadRow", ga K "NoName", ga K "Taken", ga K "NoSort", ga K "Full", ga K "NoThing", ga K "NoWord"⟩ : Er7)) q, fun i hi => match i, hi with | 0, _ => E6.2.1 | 1, _ => E0.2.1 | 2, _ => E1.2.1 | 3, _ => E2.2.1 | 4, _ => E3.2.1 | 5, _ => E4.2.1 | 6, _ => E5.2.1 | i + 7, hi => absurd hi (by omega), E6.1.nf, E0.1.nf, E1.1.nf, E2.1.nf, E4.1.nf, E5.1.nf⟩
  have TC : TxSch K mg (ga K "Scheme") (ma K (ga K "Scheme") "__init__") := ⟨cls_Scheme, na_Scheme_own_sorts, na_Scheme_own_words, na_Scheme_own_makings, na_Scheme_own_rules, na_Scheme_own_bars, g_Scheme, mk_Scheme⟩
  have TH : TxH K mg (ga K "House") (ma K (ga K "House") "__init__") := ⟨cls_House, na_House_own_scheme, na_House_sort_by_name, na_House_awake_by_name, na_House_standing, g_House, mk_House⟩
  obtain ⟨dEn, FEn⟩ := c.def_ 52 (d := dEnt) rfl
  have FEn : FunD K "enter" "House.enter" (defArgs sHen) (defBody sHen) (defScope sHen) [.bl true] [] (ma K (ga K "House") "enter") dEn := FEn
  obtain ⟨des, hdes, bEn⟩ := FEn.binds1 (ps := ["self", "name", "sort", "awake"]) 4 1 (by simp) (by rfl) (fun T kV doc pm an cdv ct us its hu hi => match us, hu, its, hi with | [_, _, _, _], _, [_], _ => ⟨_, rfl, rfl⟩)
  cases hdes
  obtain ⟨dSi, FSi⟩ := c.def_ 54 (d := dSch) rfl
  have FSi : FunD K "__init__" "Scheme.__init__" (defArgs sSch) (defBody sSch) (defScope sSch) [.non, .non, .non] [] (ma K (ga K "Scheme") "__init__") dSi := FSi
  obtain ⟨dss, hdss, bSi⟩ := FSi.binds1 (ps := ["self", "sorts", "words", "makings", "rules", "bars"]) 3 0 (by simp) (by rfl) (fun T kV doc pm an cdv ct us its hu hi => match us, hu, its, hi with | [_, _, _], _, [_, _, _], _ => ⟨_, rfl, rfl⟩)
  have edss : dss = [.none, .none, .none] := by
    cases hdss with
    | cons r1 t1 =>
      cases t1 with
      | cons r2 t2 =>
        cases t2 with
        | cons r3 t3 =>
          cases t3
          cases r1
          cases r2
          cases r3
          rfl
  rw [edss] at bSi
  refine ⟨_, fun s v => FLb s [v] rfl, fun base _ _ => ?_⟩
  have GWh : FnOk P w K mg base CX0 1 _ dW0 ["self", "kind"] (spWI K) := ok_who FW
  have GI0 : FnOk P w K mg base CX0 2 _ _ ["self", "name"] (spE1 (ga K "NoName") "name" "noname") := ok_noname F_NoName___init__ E0.1 TW GWh
  have GI1 : FnOk P w K mg base CX0 2 _ _ ["self", "name"] (spE1 (ga K "Taken") "name" "taken") := ok_taken F_Taken___init__ E1.1 TW GWh
  have GI2 : FnOk P w K mg base CX0 2 _ _ ["self", "name"] (spE1 (ga K "NoSort") "name" "nosort") := ok_nosort F_NoSort___init__ E2.1 TW GWh
  have GI4 : FnOk P w K mg base CX0 2 _ _ ["self", "name"] (spE1 (ga K "NoThing") "name" "nothing") := ok_noth F_NoThing___init__ E4.1 TW GWh
  have GI5 : FnOk P w K mg base CX0 2 _ _ ["self", "name"] (spE1 (ga K "NoWord") "name" "noword") := ok_noword F_NoWord___init__ E5.1 TW GWh
  have GI3 : FnOk P w K mg base CX0 2 _ _ ["self"] (spE0 (ga K "Full")) := ok_full F_Full___init__ E3.1 TW GWh
  have GI6 : FnOk P w K mg base CX0 2 _ _ ["self", "row"] (spE1 (ga K "BadRow") "row" "badrow") := ok_badrow F_BadRow___init__ E6.1 TW GWh
  have GIs : FnOk P w K mg base CX0 1 _ _ ["text"] spName := ok_name F_is_name T TN
  have GRV : FnOk P w K mg base CX0 2 _ _ ["texts"] (spRNv K) := ok_rnv F_refuse_no_name D_is_name GIs
  have GRT : FnOk P w K mg base CX0 2 _ _ ["names"] (spFT K) := ok_rt F_refuse_twice T D_first_twice
  have GMT : FnOk P w K mg base CX0 2 _ _ ["makings"] (spE1L K) := ok_rmt F_refuse_makings_twice T D_first_twice
  have GCS : FnOk P w K mg base CX0 3 _ _ ["sorts", "words", "makings", "rules", "bars"] (spCS K) := ok_cs F_check_scheme T TS D_refuse_count D_refuse_no_name D_refuse_twice D_refuse_makings_twice D_refuse_no_sort D_refuse_upward D_refuse_no_word GRV GRT GMT
  have GSc : FnOk P w K mg base CX0 4 _ dSi ["self", "sorts", "words", "makings", "rules", "bars"] (spSch K (ga K "Scheme")) := ok_sch FSi t_list TC D_own_list D_check_scheme GCS
  have GSor : FnOk P w K mg base CX0 1 _ _ ["self"] (spSor (ga K "Scheme")) := ok_sor F_Scheme_sorts t_list TC
  have GWor : FnOk P w K mg base CX0 1 _ _ ["self"] (spWor (ga K "Scheme")) := ok_wor F_Scheme_words t_list TC
  have GHi : FnOk P w K mg base CX0 1 _ _ ["self", "scheme"] (spHin (ga K "House")) := ok_hin F_House___init__ TH
  have GRt : FnOk P w K mg base CX0 1 _ _ ["self", "name"] (spHrt (ga K "House") (ga K "Scheme")) := ok_hrt F_House_refuse_no_thing TH
  have GSo : FnOk P w K mg base CX0 2 _ _ ["self", "x"] (spHso (ga K "House") (ga K "Scheme")) := ok_hso F_House_sort_of TH m_House_refuse_no_thing b_House_refuse_no_thing GRt
  have GIa : FnOk P w K mg base CX0 2 _ _ ["self", "x"] (spHia (ga K "House") (ga K "Scheme")) := ok_hia F_House_is_awake TH m_House_refuse_no_thing b_House_refuse_no_thing GRt
  have GTh : FnOk P w K mg base CX0 1 _ _ ["self"] (spHth (ga K "House") (ga K "Scheme")) := ok_hth F_House_things t_list TH
  have GLn : FnOk P w K mg base CX0 1 _ _ ["self"] (spHln (ga K "House") (ga K "Scheme")) := ok_hln F_House___len__ T TH
  have GHe : FnOk P w K mg base CX0 1 _ _ ["self"] (spHhe K (ga K "House") (ga K "Scheme")) := ok_hhe F_House_held t_sorted TH
  have GEn : FnOk P w K mg base CX0 3 _ dEn ["self", "name", "sort", "awake"] (spHen (ga K "House") (ga K "Scheme")) := ok_hen FEn T MT TH D_refuse_no_name GRV TC m_Scheme_sorts b_Scheme_sorts GSor
  have GRnX : FnOk P w K mg base (L2N.CX P w) 4 _ _ ["texts"] (spRNx K (ga K "NoName")) := ok_rnX F_refuse_no_name D_is_name GIs E0.1 b_NoName___init__ GI0
  have GEnX : FnOk P w K mg base (L2N.CX P w) 5 _ dEn ["self", "name", "sort", "awake"] (spHenX (ga K "House") (ga K "Scheme") ⟨ga K "NoName", ga K "Taken", ga K "NoSort", ga K "Full"⟩) := ok_henX FEn T MT TH D_refuse_no_name GRnX E1.1 b_Taken___init__ GI1 E2.1 b_NoSort___init__ GI2 E3.1 b_Full___init__ GI3 TC m_Scheme_sorts b_Scheme_sorts GSor
  have GRx : FnOk P w K mg base (L2N.CX P w) 4 _ _ ["self", "name"] (spHrtX (ga K "House") (ga K "Scheme") (ga K "NoThing")) := ok_hrtX F_House_refuse_no_thing TH E4.1 b_NoThing___init__ GI4
  have GRs : FnOk P w K mg base (L2N.CX P w) 5 _ _ ps4 (spHrsX (ga K "House") (ga K "Scheme") (ga K "NoThing") (ga K "NoWord")) := ok_hrsX F_House_refuse_strange TH m_House_refuse_no_thing b_House_refuse_no_thing GRx TC m_Scheme_words b_Scheme_words GWor E5.1 b_NoWord___init__ GI5
  have GGi : FnOk P w K mg base (L2N.CX P w) 6 _ _ ps4 (spGiv (ga K "House") (ga K "Scheme") (ga K "NoThing") (ga K "NoWord")) := ok_giv F_House_give TH m_House_refuse_strange b_House_refuse_strange GRs
  have GWa : FnOk P w K mg base CX0 2 _ _ ["self", "x"] (spHwk (ga K "House") (ga K "Scheme") true) := ok_hwk F_House_wake TH m_House_refuse_no_thing b_House_refuse_no_thing GRt
  have GSl : FnOk P w K mg base CX0 2 _ _ ["self", "x"] (spHwk (ga K "House") (ga K "Scheme") false) := ok_hsl F_House_sleep TH m_House_refuse_no_thing b_House_refuse_no_thing GRt
  have GHp : FnOk P w K mg base (L2N.CX P w) 4 _ _ ["row", "number"] (spHps (ga K "BadRow")) := ok_hps F_house_parts T D_parts_of E6.1 b_BadRow___init__ GI6
  have GRd : FnOk P w K mg base (L2N.CX P w) 7 _ _ ["scheme", "rows"] (spRdh (ga K "House") (ga K "Scheme") (⟨ga K "BadRow", ga K "NoName", ga K "Taken", ga K "NoSort", ga K "Full", ga K "NoThing", ga K "NoWord"⟩ : Er7)) := ok_rdh (e := (⟨ga K "BadRow", ga K "NoName", ga K "Taken", ga K "NoSort", ga K "Full", ga K "NoThing", ga K "NoWord"⟩ : Er7)) F_read_house T t_enumerate D_house_parts GHp TH b_House___init__ GHi m_House_enter bEn GEnX m_House_give b_House_give GGi
  have GSh : FnOk P w K mg base CX0 3 _ _ ["_law_house"] (spSho K (ga K "House") (ga K "Scheme")) := ok_sho F__law_shown TH m_House_things b_House_things GTh m_House_sort_of b_House_sort_of GSo m_House_is_awake b_House_is_awake GIa m_House_held b_House_held GHe
  have GHo : FnOk P w K mg base CX0 3 _ _ ["house"] (spHor (ga K "House") (ga K "Scheme")) := ok_hor F_house_rows TH m_House_things b_House_things GTh m_House_sort_of b_House_sort_of GSo m_House_is_awake b_House_is_awake GIa m_House_held b_House_held GHe
  have GTo : FnOk P w K mg base CX0 1 _ _ ["_law_due_here"] (spTor K) := ok_tor F__law_told_rows T
  have GBu : FnOk P w K mg base CX0 7 _ _ ["_law_scheme", "_law_due_here"] (spBui K (ga K "House") (ga K "Scheme")) := ok_bui F__law_built TH b_House___init__ GHi m_House_enter bEn GEn m_House_give b_House_give GGi m_House_wake b_House_wake GWa m_House_sleep b_House_sleep GSl
  have GFu : FnOk P w K mg base CX0 8 _ _ ["_law_scheme", "_law_rows"] (spFou K (ga K "Scheme")) := ok_fou F__law_found TE D_read_house GRd D__law_shown GSh
  have GPo : FnOk P w K mg base CX0 1 _ _ ["_law_script"] (spPot K) := ok_pot F__law_pot T t_list
  have GT : FnOk P w K mg base CX0 2 _ _ ["_law_pot_here", "_law_many"] spTak := ok_tak F__law_take T D__law_mixed
  have GN : FnOk P w K mg base CX0 3 _ _ ["_law_pot_here", "_law_many"] spNms := ok_nms F__law_names T t_str D__law_take GT D__law_name_by
  have GGr : FnOk P w K mg base CX0 4 _ _ ["_law_pot_here", "_law_sorts", "_law_words"] spGor := ok_gor F__law_good_rows T t_max D__law_take GT D__law_names GN
  have GSp : FnOk P w K mg base CX0 4 _ _ ["_law_pot_here", "_law_rows", "_law_way"] spSpo := ok_spo F__law_spoiled T t_str D__law_take GT
  have GTd : FnOk P w K mg base CX0 2 _ _ ["_law_name", "_law_sort", "_law_things", "_law_sorts"] spThd := ok_thd F__law_thing_due T D__law_is_name
  have GDu : FnOk P w K mg base CX0 3 _ _ ["_law_rows", "_law_sorts", "_law_words"] (spDue K) := ok_due F__law_due T t_list t_sorted D__law_formed D__law_thing_due GTd D__law_holding_due
  exact ok_law F_law T t_list TC TH D__law_pot GPo D__law_take GT D__law_names GN D__law_good_rows GGr D__law_spoiled GSp D__law_due GDu D__law_found GFu D__law_told_rows GTo D_read_house GRd D_house_rows GHo D__law_built GBu bSi GSc m_House___len__.at_ m_House___len__.fn b_House___len__ GLn
end Wm

open PySem PySem.W PySem.Calls PyProof.Rows
set_option maxRecDepth 100000 in
set_option maxHeartbeats 0 in
theorem PySem.Challenge.cw_whomay_k91_house_rows_holds : PySem.Challenge.rw_whomay_k91_house_rows.Holds := by
  w_on; o_law
  refine HandSHeadRun.head_any (r := OpenLaw.row PySem.Challenge.rw_whomay_k91_house_rows) (q := view (OpenLaw.row PySem.Challenge.rw_whomay_k91_house_rows).prog [61]) (H := Wm.hkW) (ob := Wm.obW) (M := 20000) (loose := Wm.loW) (d := HandSHeadRun.topDef (OpenLaw.row PySem.Challenge.rw_whomay_k91_house_rows).prog 61) (kwd := []) Wm.obW_eq
    (by kernel_rfl) (fun s => by kernel_rfl) Wm.runW (by kernel_rfl) (by kernel_rfl) (by kernel_rfl) (by rfl) (by first | assumption | decide +kernel) (by decide +kernel) ⟨rfl, rfl, rfl, rfl, rfl, by decide +kernel⟩ ?hw ?hc
  case hw => w_witness2
  case hc =>
    refine L2.walk_ofE (l := PySem.Challenge.rw_whomay_k91_house_rows) (n := 63) (k := 9) (x := "_law_script") (CX := L2.CX0) rfl (by decide) (by kernel_rfl) ⟨rfl, by decide, by decide⟩ ?F (fun _ _ _ _ z => z)
    intro w mg fa h Y G hmg0
    obtain ⟨K, KX, c⟩ := Y
    have hmg : mg ("law" : PySem.Str) = some (.ref fa) := by
      have e : (HandSHeadRun.topDef (OpenLaw.row PySem.Challenge.rw_whomay_k91_house_rows).prog 61).name = ("law" : PySem.Str) := by kernel_rfl
      rw [← e]
      exact hmg0
    obtain ⟨fd, hb, hF⟩ := Wm.facts (P := (PySem.Challenge.rw_whomay_k91_house_rows).prog) (w := w) KX G hmg c
    exact ⟨K, fd, Wm.spLaw K, KX, hb, fun H a ns hl _ hS => ⟨a, ns, rfl, hS, hl, fun _ => rfl⟩, hF⟩
