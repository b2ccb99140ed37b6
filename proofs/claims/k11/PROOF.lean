import PyProof.Rows.All
import Wide.All
import OpenK.AllK
import Wide.FinOn
import HandS.ForMost
import HandS.ForExc
import HandS.Walk
import HandS.Star
import HandS.Style
import HandS.TupAny
import HandS.ExcInit
import HandS.ExcIs
import HandS.ExcField
import HandS.Defaults
import HandS.Wide
import HandS.ClsMeth
import KE.KExcIs
import KE.GoesEnum
import HandS.Conv
import KE.SortData
import KE.KDictList
import HandS.HotCalls
import PyProof.SumWalkG
import PyProof.Rows.SumAny
import HandS.FStr
import KE.KCallOwn
import HandS.ExcInitHot
import HandS.WordsExc
import OpenK.KOps
import HandS.ExcOwn
import HandS.Words
import KE.KStateDown
import HandS.Head0
import HandS.Head1
import HandS.Head2
import HandS.HeadEnd
import HandS.HeadHook1
import HandS.HeadHook2
import PySem.Challenge.RW_whomay_k11_things_come
set_option Elab.async false
set_option linter.all false
set_option maxRecDepth 100000
set_option maxHeartbeats 4000000
namespace Wm
open PySem L2
def top (i : Nat) : Stmt := PySem.Challenge.pw_whomay_k11_things_come.main.body.getD i (.Pass ⟨0, 0, 0, 0⟩)
abbrev sState : Stmt := top 45
abbrev sDigit : Stmt := top 46
abbrev sW0 : Stmt := inClass (top 2) 0
abbrev sNT : Stmt := inClass (top 12) 0
abbrev sNN : Stmt := inClass (top 3) 0
abbrev sTk : Stmt := inClass (top 13) 0
abbrev sNS : Stmt := inClass (top 6) 0
abbrev sFu : Stmt := inClass (top 14) 0
abbrev sName : Stmt := top 23
abbrev sFT : Stmt := top 25
abbrev sRT : Stmt := top 26
abbrev sRC : Stmt := top 27
abbrev sNam : Stmt := top 47
abbrev sNms : Stmt := top 48
abbrev sRN : Stmt := top 24
abbrev sOL : Stmt := top 36
abbrev sRMT : Stmt := top 37
abbrev sRNS : Stmt := top 38
abbrev sRU : Stmt := top 39
abbrev sRNW : Stmt := top 40
abbrev sCS : Stmt := top 41
abbrev sSch : Stmt := inClass (top 42) 0
abbrev sSor : Stmt := inClass (top 42) 1
abbrev sWor : Stmt := inClass (top 42) 2
abbrev sHin : Stmt := inClass (top 30) 0
abbrev sHln : Stmt := inClass (top 30) 1
abbrev sHen : Stmt := inClass (top 30) 2
abbrev sHth : Stmt := inClass (top 30) 7
abbrev sHso : Stmt := inClass (top 30) 8
abbrev sHia : Stmt := inClass (top 30) 9
abbrev sHhe : Stmt := inClass (top 30) 11
abbrev sHrt : Stmt := inClass (top 30) 15
abbrev sTld : Stmt := top 49
abbrev sCel : Stmt := top 44
abbrev sLNm : Stmt := top 50
abbrev sDue : Stmt := top 51
abbrev sSTd : Stmt := top 52
abbrev sATd : Stmt := top 53
abbrev sAsk : Stmt := top 54
abbrev sCom : Stmt := top 55
abbrev sLaw : Stmt := top 56
end Wm
/-! a head by one run: what is asked of the written part is one Bool of one's own -/
namespace Wm
open PySem PySem.Spec PyProof.Rows L2 He ClX
def obsM (ck : PySem.W.Frag → Bool) (fn : List DefD) (K : PySem.W.Frag) : AlD := (ck K && fn.all fun d => d.ok K, fn.map fun d => fnW K d.at_)
def SaysM (ck : PySem.W.Frag → Bool) (fn : List DefD) (K : PySem.W.Frag) : Prop := obsM ck fn K = valD fn
/-- what the module's names, and what the C code keeps, reach in n steps -/
def asM (g : Addr → Option Obj) : Nat → List Addr
  | 0 => [mainGlobals, cStatics]
  | n + 1 => growD g (asM g n)
def obsMG (n : Nat) (ck : PySem.W.Frag → Bool) (fn : List DefD) (g : Addr → Option Obj) : AlD := obsM ck fn (frG g (asM g n))
def hookM (n : Nat) (ck : PySem.W.Frag → Bool) (fn : List DefD) : PySem.W.Hook where
  α := AlD
  obs := fun s => obsMG n ck fn s.heap.get?
  val := fun _ => valD fn
  says := fun _ h => ∃ K : PySem.W.Frag, K.In h ∧ SaysM ck fn K
  of := fun _ _ e => ⟨_, frG_in, e⟩
  keeps := fun _ _ _ ⟨K, hK, c⟩ k => ⟨K, PySem.W.Frag.In.keeps hK k, c⟩
theorem obsMG_eq {n : Nat} {ck : PySem.W.Frag → Bool} {fn : List DefD} {g : Addr → Option Obj} {s : Shared} (h : ∀ a, g a = s.heap.get? a) : obsMG n ck fn g = (hookM n ck fn).obs s := by
  have e : g = s.heap.get? := funext h
  rw [e] <;> rfl
section
variable {ck : PySem.W.Frag → Bool} {fn : List DefD} {K : PySem.W.Frag}
theorem SaysM.says (c : SaysM ck fn K) : ck K = true := (ba (show (ck K && fn.all fun d => d.ok K) = true from congrArg (fun z : AlD => z.1) c)).1
theorem SaysM.def_ (c : SaysM ck fn K) (i : Nat) {d : DefD} (h : fn[i]? = some d := by rfl) : ∃ fd, FunD K d.name d.qual d.params d.body d.scope (d.dvs K) (d.kws K) (fAd K d.at_) fd := by
  have c2 := (ba (show (ck K && fn.all fun d => d.ok K) = true from congrArg (fun z : AlD => z.1) c)).2
  have e : fn.map (fun d => fnW K d.at_) = fn.map DefD.val := congrArg (fun z : AlD => z.2) c
  have e2 : (fn.map fun d => fnW K d.at_)[i]? = (fn.map DefD.val)[i]? := by rw [e]
  rw [List.getElem?_map, List.getElem?_map, h] at e2
  exact DefD.funD (Option.some.inj e2) (List.all_eq_true.mp c2 d (List.mem_of_getElem? h))
end
/-- a def without defaults -/
theorem fun_of {K : PySem.W.Frag} {x q : Str} {st : Stmt} {f : Addr} {fd : FuncData} (F : FunD K x q (defArgs st) (defBody st) (defScope st) [] [] f fd) : Fun K x q st f fd := by
  obtain ⟨oc, od, dV, kV, doc, pm, an, cdv, ct, osl, rfl, l, c, d, _⟩ := F.ex
  have e : dV = .none := by
    rcases d with ⟨_, e⟩ | ⟨n, _⟩
    · exact e
    · exact absurd rfl n
  subst e
  exact ⟨⟨oc, od, kV, doc, pm, an, cdv, ct, osl, rfl, l, c⟩, F.kp⟩
/-- an error class whose objects are made by an __init__ of its own -/
def excB (K : PySem.W.Frag) (C : Addr) : Bool := match K.lookup C with
  | some ⟨.type "type", _, .cls cd, sl⟩ => (match cd.mro, sl.toList with
    | .ref C' :: bm, [_, _, _, _, some (.builtin n), _] => C' == C && (n == "ValueError.__new__" && (!cd.hasDel && (cd.hasDict && PySem.HandSPX.refsVE bm)))
    | _, _ => false)
  | _ => false
theorem excB_ok {K : PySem.W.Frag} {C : Addr} (q : excB K C = true) : ∃ nm q N bs bm sn sub ab col dd k0 k1 k2 k3 k5, K.lookup C = some (excClassObj nm q C N bs bm true sn sub ab col dd k0 k1 k2 k3 k5 "ValueError.__new__") ∧ PySem.HandSPX.refsVE bm = true := by
  unfold excB at q
  split at q
  · rename_i dd cd sl ho
    split at q
    · rename_i C' bm k0 k1 k2 k3 n k5 hm hs
      simp only [Bool.and_eq_true, beq_iff_eq, Bool.not_eq_true'] at q
      obtain ⟨rfl, rfl, hdel, hdi, ht⟩ := q
      obtain ⟨nm, bs, mro, ns, qn, hd, sn, sub, ab, col, del⟩ := cd
      dsimp only at hm hdel hdi
      subst hm hdel hdi
      have hsl : sl = #[k0, k1, k2, k3, some (.builtin "ValueError.__new__"), k5] := by
        obtain ⟨l⟩ := sl
        simp only at hs
        rw [hs]
      subst hsl
      exact ⟨nm, qn, ns, bs, bm, sn, sub, ab, col, dd, k0, k1, k2, k3, k5, ho, ht⟩
    · cases q
  · cases q
/-- WhoError, whose __init__ the others call -/
def whoB (K : PySem.W.Frag) (W : Addr) : Bool := PySem.W.readsIn K W (.type "type") && (eqO (PySem.W.specialIn K (.ref W) "__getattribute__") (some (some (.builtin "type.__getattribute__"))) && (match PySem.W.findCls K (.ref W) (.type "type") "__init__" with
  | some (.val (.ref a)) => decide (a = ma K W "__init__")
  | _ => false))
theorem whoB_ok {K : PySem.W.Frag} {W : Addr} (h : whoB K W = true) : CRead K W (.type "type") ∧ PySem.W.findCls K (.ref W) (.type "type") "__init__" = some (.val (.ref (ma K W "__init__"))) := by
  unfold whoB at h
  obtain ⟨h1, h⟩ := ba h
  obtain ⟨h2, h3⟩ := ba h
  refine ⟨⟨h1, eqO_ok h2⟩, ?_⟩
  split at h3
  · rename_i a e
    rw [e, of_decide_eq_true h3]
  · cases h3
end Wm
namespace Wm
open PySem L2 He ClX StX
/-- what is asked of an error class of one field -/
def errB (K : PySem.W.Frag) (C fI : Addr) (f : Str) : Bool :=
  eqO (PySem.W.findIn K (.ref C) "__setattr__") (some (some (.builtin "object.__setattr__"))) && (decide (PySem.W.subIn K (.ref C) (.type "BaseException") = some true) && (decide (PySem.W.typeIn K (.ref C) = some (.type "type")) && (PySem.W.keepIn K (.ref C) &&
  (decide (PySem.W.typeIn K (.ref fI) = some (.type "function")) && (eqO (PySem.W.findIn K (.ref C) "kind") (some none) && (eqO (PySem.W.findIn K (.ref C) f) (some none) && (eqO (PySem.W.findIn K (.ref C) "__getattribute__") (some (some (.builtin "BaseException.__getattribute__"))) &&
  (eqO (PySem.W.findIn K (.ref C) "__getattr__") (some none) && (PySem.W.hasDictIn K C && (eqO (PySem.W.findIn K (.ref C) "__class__") (some (some (.builtin "object.__class__"))) && (decide (PySem.W.mroIn K C (.type "object") = some true) &&
  (eqO (PySem.W.findIn K (.ref C) "__init__") (some (some (.ref fI))) && (excB K C && (decide (PySem.W.exmOne K (.ref C) (.ref C) = some true) && (eqO (PySem.W.specialIn K (.builtin "object.__class__") "__get__") (some (some (.builtin "getset_descriptor.__get__"))) && decide (PySem.W.takesIn K (.builtin "object.__class__") = some true))))))))))))))))
def factL : List Fa := [.glo "WhoError", .glo "NoName", .glo "Taken", .glo "NoSort", .glo "NoThing", .glo "NoWord", .glo "Asleep", .glo "NoRule", .glo "Misfit", .glo "Full", .glo "NotHeld", .glo "NoMaking", .glo "NoDeed", .glo "is_name", .glo "refuse_no_name", .glo "first_twice", .glo "refuse_twice", .glo "refuse_count", .glo "own_list", .glo "refuse_makings_twice", .glo "refuse_no_sort", .glo "refuse_upward", .glo "refuse_no_word", .glo "check_scheme", .glo "_law_cell_at", .glo "_law_state", .glo "_law_digit", .glo "_law_name", .glo "_law_names", .glo "_law_told", .glo "_law_is_name", .glo "_law_due", .glo "_law_sort_told", .glo "_law_awake_told", .glo "_law_asked", .glo "_law_come", .glo "law", .glo "Scheme", .cls "Scheme", .noat "Scheme" "own_sorts", .noat "Scheme" "own_words", .noat "Scheme" "own_makings", .noat "Scheme" "own_rules", .noat "Scheme" "own_bars", .mkr "Scheme", .glo "House", .cls "House", .noat "House" "own_scheme", .noat "House" "sort_by_name", .noat "House" "awake_by_name", .noat "House" "standing", .mkr "House", .meth "Scheme" "sorts", .meth "House" "__len__", .meth "House" "things", .meth "House" "sort_of", .meth "House" "is_awake", .meth "House" "held", .meth "House" "refuse_no_thing", .meth "House" "enter", .free "abs", .free "int", .free "len", .free "range", .free "all", .free "tuple", .free "enumerate", .free "isinstance", .free "ValueError", .free "list", .free "str", .free "sorted", .free "sum", .str "LETTERS" "abcdefghijklmnopqrstuvwxyz", .str "FIGURES" "0123456789", .int "LONGEST_NAME" 12, .int "MOST_SORTS" 4, .int "MOST_WORDS" 5, .int "MOST_RULES" 8, .int "MOST_BARS" 4, .int "MOST_THINGS" 60]
def kitB (K : PySem.W.Frag) (Z C0 C1 C2 C3 C4 C5 C6 C7 C8 C9 C10 C11 W : Addr) (i : Nat) : Bool := decide (PySem.W.exmOne K (.ref Z) (.ref W) = some true) && (decide (PySem.W.kitOne K (.ref Z) (.ref C0) = some (decide (i = 0))) && (decide (PySem.W.kitOne K (.ref Z) (.ref C1) = some (decide (i = 1))) && (decide (PySem.W.kitOne K (.ref Z) (.ref C2) = some (decide (i = 2))) && (decide (PySem.W.kitOne K (.ref Z) (.ref C3) = some (decide (i = 3))) && (decide (PySem.W.kitOne K (.ref Z) (.ref C4) = some (decide (i = 4))) && (decide (PySem.W.kitOne K (.ref Z) (.ref C5) = some (decide (i = 5))) && (decide (PySem.W.kitOne K (.ref Z) (.ref C6) = some (decide (i = 6))) && (decide (PySem.W.kitOne K (.ref Z) (.ref C7) = some (decide (i = 7))) && (decide (PySem.W.kitOne K (.ref Z) (.ref C8) = some (decide (i = 8))) && (decide (PySem.W.kitOne K (.ref Z) (.ref C9) = some (decide (i = 9))) && (decide (PySem.W.kitOne K (.ref Z) (.ref C10) = some (decide (i = 10))) && (decide (PySem.W.kitOne K (.ref Z) (.ref C11) = some (decide (i = 11))) && (decide (PySem.W.kitOne K (.ref Z) (.type "ValueError") = some true))))))))))))))
def ck (K : PySem.W.Frag) : Bool := factL.all (fun f => f.ok K) && (whoB K (ga K "WhoError") && (errB K (ga K "NoName") (ma K (ga K "NoName") "__init__") "name" && (errB K (ga K "Taken") (ma K (ga K "Taken") "__init__") "name" && (errB K (ga K "NoSort") (ma K (ga K "NoSort") "__init__") "name" && (errB K (ga K "Full") (ma K (ga K "Full") "__init__") "kind" && (errB K (ga K "NoThing") (ma K (ga K "NoThing") "__init__") "name" && (kitB K (ga K "NoName") (ga K "NoName") (ga K "Taken") (ga K "NoSort") (ga K "NoThing") (ga K "NoWord") (ga K "Asleep") (ga K "NoRule") (ga K "Misfit") (ga K "Full") (ga K "NotHeld") (ga K "NoMaking") (ga K "NoDeed") (ga K "WhoError") 0 && (kitB K (ga K "Taken") (ga K "NoName") (ga K "Taken") (ga K "NoSort") (ga K "NoThing") (ga K "NoWord") (ga K "Asleep") (ga K "NoRule") (ga K "Misfit") (ga K "Full") (ga K "NotHeld") (ga K "NoMaking") (ga K "NoDeed") (ga K "WhoError") 1 && (kitB K (ga K "NoSort") (ga K "NoName") (ga K "Taken") (ga K "NoSort") (ga K "NoThing") (ga K "NoWord") (ga K "Asleep") (ga K "NoRule") (ga K "Misfit") (ga K "Full") (ga K "NotHeld") (ga K "NoMaking") (ga K "NoDeed") (ga K "WhoError") 2 && (kitB K (ga K "Full") (ga K "NoName") (ga K "Taken") (ga K "NoSort") (ga K "NoThing") (ga K "NoWord") (ga K "Asleep") (ga K "NoRule") (ga K "Misfit") (ga K "Full") (ga K "NotHeld") (ga K "NoMaking") (ga K "NoDeed") (ga K "WhoError") 8))))))))))
def d_is_name : DefD := ⟨("is_name", none), "is_name", "is_name", defArgs sName, defBody sName, defScope sName, [], []⟩
def d_refuse_no_name : DefD := ⟨("refuse_no_name", none), "refuse_no_name", "refuse_no_name", defArgs sRN, defBody sRN, defScope sRN, [], []⟩
def d_first_twice : DefD := ⟨("first_twice", none), "first_twice", "first_twice", defArgs sFT, defBody sFT, defScope sFT, [], []⟩
def d_refuse_twice : DefD := ⟨("refuse_twice", none), "refuse_twice", "refuse_twice", defArgs sRT, defBody sRT, defScope sRT, [], []⟩
def d_refuse_count : DefD := ⟨("refuse_count", none), "refuse_count", "refuse_count", defArgs sRC, defBody sRC, defScope sRC, [], []⟩
def d_own_list : DefD := ⟨("own_list", none), "own_list", "own_list", defArgs sOL, defBody sOL, defScope sOL, [], []⟩
def d_refuse_makings_twice : DefD := ⟨("refuse_makings_twice", none), "refuse_makings_twice", "refuse_makings_twice", defArgs sRMT, defBody sRMT, defScope sRMT, [], []⟩
def d_refuse_no_sort : DefD := ⟨("refuse_no_sort", none), "refuse_no_sort", "refuse_no_sort", defArgs sRNS, defBody sRNS, defScope sRNS, [], []⟩
def d_refuse_upward : DefD := ⟨("refuse_upward", none), "refuse_upward", "refuse_upward", defArgs sRU, defBody sRU, defScope sRU, [], []⟩
def d_refuse_no_word : DefD := ⟨("refuse_no_word", none), "refuse_no_word", "refuse_no_word", defArgs sRNW, defBody sRNW, defScope sRNW, [], []⟩
def d_check_scheme : DefD := ⟨("check_scheme", none), "check_scheme", "check_scheme", defArgs sCS, defBody sCS, defScope sCS, [], []⟩
def d__law_cell_at : DefD := ⟨("_law_cell_at", none), "_law_cell_at", "_law_cell_at", defArgs sCel, defBody sCel, defScope sCel, [], []⟩
def d__law_state : DefD := ⟨("_law_state", none), "_law_state", "_law_state", defArgs sState, defBody sState, defScope sState, [], []⟩
def d__law_digit : DefD := ⟨("_law_digit", none), "_law_digit", "_law_digit", defArgs sDigit, defBody sDigit, defScope sDigit, [], []⟩
def d__law_name : DefD := ⟨("_law_name", none), "_law_name", "_law_name", defArgs sNam, defBody sNam, defScope sNam, [], []⟩
def d__law_names : DefD := ⟨("_law_names", none), "_law_names", "_law_names", defArgs sNms, defBody sNms, defScope sNms, [], []⟩
def d__law_told : DefD := ⟨("_law_told", none), "_law_told", "_law_told", defArgs sTld, defBody sTld, defScope sTld, [], []⟩
def d__law_is_name : DefD := ⟨("_law_is_name", none), "_law_is_name", "_law_is_name", defArgs sLNm, defBody sLNm, defScope sLNm, [], []⟩
def d__law_due : DefD := ⟨("_law_due", none), "_law_due", "_law_due", defArgs sDue, defBody sDue, defScope sDue, [], []⟩
def d__law_sort_told : DefD := ⟨("_law_sort_told", none), "_law_sort_told", "_law_sort_told", defArgs sSTd, defBody sSTd, defScope sSTd, [], []⟩
def d__law_awake_told : DefD := ⟨("_law_awake_told", none), "_law_awake_told", "_law_awake_told", defArgs sATd, defBody sATd, defScope sATd, [], []⟩
def d__law_asked : DefD := ⟨("_law_asked", none), "_law_asked", "_law_asked", defArgs sAsk, defBody sAsk, defScope sAsk, [], []⟩
def d__law_come : DefD := ⟨("_law_come", none), "_law_come", "_law_come", defArgs sCom, defBody sCom, defScope sCom, [], []⟩
def d_law : DefD := ⟨("law", none), "law", "law", defArgs sLaw, defBody sLaw, defScope sLaw, [], []⟩
def d_NoThing___init__ : DefD := ⟨("NoThing", some "__init__"), "__init__", "NoThing.__init__", defArgs sNT, defBody sNT, defScope sNT, [], []⟩
def d_NoName___init__ : DefD := ⟨("NoName", some "__init__"), "__init__", "NoName.__init__", defArgs sNN, defBody sNN, defScope sNN, [], []⟩
def d_Taken___init__ : DefD := ⟨("Taken", some "__init__"), "__init__", "Taken.__init__", defArgs sTk, defBody sTk, defScope sTk, [], []⟩
def d_NoSort___init__ : DefD := ⟨("NoSort", some "__init__"), "__init__", "NoSort.__init__", defArgs sNS, defBody sNS, defScope sNS, [], []⟩
def d_Full___init__ : DefD := ⟨("Full", some "__init__"), "__init__", "Full.__init__", defArgs sFu, defBody sFu, defScope sFu, [], []⟩
def d_Scheme_sorts : DefD := ⟨("Scheme", some "sorts"), "sorts", "Scheme.sorts", defArgs sSor, defBody sSor, defScope sSor, [], []⟩
def d_House___init__ : DefD := ⟨("House", some "__init__"), "__init__", "House.__init__", defArgs sHin, defBody sHin, defScope sHin, [], []⟩
def d_House___len__ : DefD := ⟨("House", some "__len__"), "__len__", "House.__len__", defArgs sHln, defBody sHln, defScope sHln, [], []⟩
def d_House_things : DefD := ⟨("House", some "things"), "things", "House.things", defArgs sHth, defBody sHth, defScope sHth, [], []⟩
def d_House_sort_of : DefD := ⟨("House", some "sort_of"), "sort_of", "House.sort_of", defArgs sHso, defBody sHso, defScope sHso, [], []⟩
def d_House_is_awake : DefD := ⟨("House", some "is_awake"), "is_awake", "House.is_awake", defArgs sHia, defBody sHia, defScope sHia, [], []⟩
def d_House_held : DefD := ⟨("House", some "held"), "held", "House.held", defArgs sHhe, defBody sHhe, defScope sHhe, [], []⟩
def d_House_refuse_no_thing : DefD := ⟨("House", some "refuse_no_thing"), "refuse_no_thing", "House.refuse_no_thing", defArgs sHrt, defBody sHrt, defScope sHrt, [], []⟩
def dWho : DefD := ⟨("WhoError", some "__init__"), "__init__", "WhoError.__init__", defArgs sW0, defBody sW0, defScope sW0, [.str "whoerror"], []⟩
def dSch : DefD := ⟨("Scheme", some "__init__"), "__init__", "Scheme.__init__", defArgs sSch, defBody sSch, defScope sSch, [.non, .non, .non], []⟩
def dEnt : DefD := ⟨("House", some "enter"), "enter", "House.enter", defArgs sHen, defBody sHen, defScope sHen, [.bl true], []⟩
def fnL : List DefD := [d_is_name, d_refuse_no_name, d_first_twice, d_refuse_twice, d_refuse_count, d_own_list, d_refuse_makings_twice, d_refuse_no_sort, d_refuse_upward, d_refuse_no_word, d_check_scheme, d__law_cell_at, d__law_state, d__law_digit, d__law_name, d__law_names, d__law_told, d__law_is_name, d__law_due, d__law_sort_told, d__law_awake_told, d__law_asked, d__law_come, d_law, d_NoThing___init__, d_NoName___init__, d_Taken___init__, d_NoSort___init__, d_Full___init__, d_Scheme_sorts, d_House___init__, d_House___len__, d_House_things, d_House_sort_of, d_House_is_awake, d_House_held, d_House_refuse_no_thing, dWho, dSch, dEnt]
end Wm
set_option maxHeartbeats 0
namespace Wm
open PySem PySem.W PySem.Calls PyProof.Rows
abbrev RW : OpenRow := OpenLaw.row PySem.Challenge.rw_whomay_k11_things_come
abbrev hkW : Hook := hookM 6 ck fnL
def obW (s : SharedT) : He.AlD := obsMG 6 ck fnL (HandSHeadRun.getT s)
theorem obW_eq (s : SharedT) : obW s = hkW.obs s.abs := obsMG_eq (HandSHeadRun.getT_eq s)
def lo0 : List PySem.Str := ["_wall", "WhoError", "NoName", "BadCount", "Twice", "NoSort", "Upward", "NoWord", "NoRule", "NoBar", "NoMaking", "NoThing", "Taken", "Full", "Asleep", "NotHeld", "NoDeed", "Misfit", "LETTERS", "FIGURES", "LONGEST_NAME", "is_name", "refuse_no_name", "first_twice", "refuse_twice", "refuse_count", "MOST_THINGS", "House", "MOST_SORTS", "MOST_WORDS"]
def lo1 : List PySem.Str := ["MOST_RULES", "MOST_BARS", "own_list", "refuse_makings_twice", "refuse_no_sort", "refuse_upward", "refuse_no_word", "check_scheme", "Scheme", "_law_cell_at", "_law_state", "_law_digit", "_law_name", "_law_names", "_law_told", "_law_is_name", "_law_due", "_law_sort_told", "_law_awake_told", "_law_asked", "_law_come"]
def loW : List PySem.Str := lo0 ++ lo1
theorem runW (w : World) : HandSHeadRun.RunEq RW (view RW.prog [56]) hkW obW 20000 loW w := by
  intro os
  kernel_rfl
end Wm
namespace Wm
open PySem L2
/-- the digits' state at p -/
def StOk (H : Hp) (p : Addr) : Prop := ∃ a b c : Int, H p = some (.lst [.int a, .int b, .int c]) ∧ 0 ≤ a ∧ 0 ≤ b ∧ b ≤ 2147483636 ∧ 0 ≤ c ∧ c < 2147483648
/-- all that was tracked is as it was, but at p -/
def But (p : Addr) (H H' : Hp) : Prop := ∀ q o, q ≠ p → H q = some o → H' q = some o
theorem But.refl (p : Addr) (H : Hp) : But p H H := fun _ _ _ h => h
theorem But.trans {p : Addr} {H H1 H2 : Hp} (a : But p H H1) (b : But p H1 H2) : But p H H2 := fun q o n h => b q o n (a q o n h)
theorem But.upd {p : Addr} {H : Hp} {o : HO} : But p H (upd H p o) := fun q o n h => by rw [upd_ne n]; exact h
theorem Same.but {p : Addr} {H H1 : Hp} (a : Same H H1) : But p H H1 := fun q o _ h => a q o h
theorem Same.upd {p : Addr} {H : Hp} {o : HO} (n : H p = none) : Same H (upd H p o) := fun q o h => by rw [upd_ne (ne_of_none h n)]; exact h
theorem But.same {p : Addr} {H0 H H1 : Hp} (n : H0 p = none) (a : Same H0 H) (b : But p H H1) : Same H0 H1 := fun q o h => b q o (ne_of_none h n) (a q o h)
def spState : Sp := fun vs H Q _ => ∃ i : Int, vs = [.int i] ∧ ∀ p H', H p = none → Same H H' → StOk H' p → Q (.ref p) H'
def spDigit : Sp := fun vs H Q _ => ∃ (p : Addr) (n : Int), vs = [.ref p, .int n] ∧ StOk H p ∧ 0 < n ∧ n < 1073741824 ∧ ∀ (d : Int) H', 0 ≤ d → d < n → But p H H' → StOk H' p → Q (.int d) H'
structure TxB (mg : Str → Option Value) : Prop where
  abs : mg "abs" = none
  int : mg "int" = none
  len : mg "len" = none
  range : mg "range" = none
  all : mg "all" = none
  tuple : mg "tuple" = none
  enumerate : mg "enumerate" = none
  isinstance : mg "isinstance" = none
  ve : mg "ValueError" = none
section
variable {P : Program} {w : World} {K : PySem.W.Frag} {mg : Str → Option Value} {base : Heap}
theorem scState : FnScope ["_law_cell"] ["_law_cell"] (defScope sState) := ⟨rfl, rfl, rfl, by decide +kernel, rfl, by decide +kernel, by decide +kernel⟩
theorem ok_state {f : Addr} {fd : FuncData} (F : Fun K "_law_state" "_law_state" sState f fd) (T : TxB mg) : FnOk P w K mg base CX0 1 f fd ["_law_cell"] spState := by
  refine F.ok scState (fun vs H Q E h => ?_) (fun cdv A outer s H vs Q E hr h => ?_)
  · obtain ⟨i, rfl, _⟩ := h
    rfl
  · obtain ⟨i, rfl, k⟩ := h
    refine ⟨_, pss_cons (ps_set (i := 0) scState.nd rfl (Or.inl rfl) (pe_callB call_abs (by rfl) T.abs (by decide +kernel) (pa_cons (pv 0) pa_nil)))
      (pss_one (ps_ret (pe_lst (pa_cons (pe_op op_mul (pv 0) (pe_callTy call_int1 (by rfl) T.int (by decide +kernel) (pa_cons (pe_cmpR op_ge (pv 0) (pe_op op_pow pe_int pe_int) (nomark _)) pa_nil)))
        (pa_cons (pe_op op_add (pe_op op_mod (pv 0) pe_int) pe_int) (pa_cons (pe_op op_mod (pv 0) pe_int) pa_nil)))))), ?_⟩
    refine ⟨_, rfl, _, rfl, ?_⟩
    generalize hj : (if i < 0 then -i else i) = j
    have hj0 : 0 ≤ j := by rw [← hj]; split <;> omega
    refine ⟨_, rfl, _, rfl, _, _, rfl, rfl, ⟨by decide, by decide, by decide⟩, _, _, rfl, rfl, .inr ⟨_, rfl, ?_⟩⟩
    refine ⟨_, _, rfl, rfl, .inr ⟨?_, ?_⟩, _, rfl, _, _, rfl, rfl, (by show (0 : Int) < 2147483629; decide), _, _, rfl, rfl, _, rfl, _, _, rfl, rfl, (by show (0 : Int) < 2147483587; decide), (by show 3 ≤ sizeLine; decide), fun p hp => ?_⟩
    · split <;> decide
    · split <;> decide
    · refine k p _ hp (Same.upd hp) ⟨_, _, _, upd_same, ?_, ?_, ?_, ?_, ?_⟩
      · split
        · omega
        · omega
      · have := Int.emod_nonneg j (show (2147483629 : Int) ≠ 0 by decide); omega
      · have := Int.emod_lt_of_pos j (show (0 : Int) < 2147483629 by decide); omega
      · exact Int.emod_nonneg j (by decide)
      · have := Int.emod_lt_of_pos j (show (0 : Int) < 2147483587 by decide); omega
theorem scDigit : FnScope ["_law_state_here", "_law_base", "_law_found", "_law_more"] ["_law_state_here", "_law_base"] (defScope sDigit) := ⟨rfl, rfl, rfl, by decide +kernel, rfl, by decide +kernel, by decide +kernel⟩
theorem ok_digit {f : Addr} {fd : FuncData} (F : Fun K "_law_digit" "_law_digit" sDigit f fd) : FnOk P w K mg base CX0 1 f fd ["_law_state_here", "_law_base"] spDigit := by
  refine F.ok scDigit (fun vs H Q E h => ?_) (fun cdv A outer s H vs Q E hr h => ?_)
  · obtain ⟨p, n, rfl, _⟩ := h
    rfl
  · obtain ⟨p, n, rfl, ⟨a, b, c, hp, ha, hb, hb2, hc, hc2⟩, hn, hn2, k⟩ := h
    refine ⟨_, pss_cons (ps_if (pt_cmpR op_gt (pe_ix ix_list (pv 0) pe_int (fun _ _ => rfl)) pe_int (nomark _))
        (pss_cons (ps_set (i := 2) scDigit.nd rfl (Or.inl rfl) (pe_op op_mod (pe_ix ix_list (pv 0) pe_int (fun _ _ => rfl)) (pv 1)))
          (pss_cons (ps_asg (pe_op op_fdiv (pe_ix ix_list (pv 0) pe_int (fun _ _ => rfl)) (pv 1)) (pg_sub (pv 0) pe_int set_list)) (pss_one (ps_ret (pv 2))))) pss_nil)
      (pss_cons (ps_set (i := 3) scDigit.nd rfl (Or.inl rfl) (pe_op op_mul (pe_ix ix_list (pv 0) pe_int (fun _ _ => rfl)) (pe_op op_add (pe_op op_fdiv (pe_ix ix_list (pv 0) pe_int (fun _ _ => rfl)) pe_int) pe_int)))
      (pss_cons (ps_asg (pe_op op_add (pe_op op_mod (pe_op op_add (pv 3) (pe_ix ix_list (pv 0) pe_int (fun _ _ => rfl))) pe_int) pe_int) (pg_sub (pv 0) pe_int set_list))
      (pss_one (ps_ret (pe_op op_mod (pe_op op_fdiv (pe_ix ix_list (pv 0) pe_int (fun _ _ => rfl)) pe_int) (pv 1)))))), ?_⟩
    refine ⟨_, rfl, p, _, _, _, rfl, rfl, SqL.of hp, atI_nat (j := 0) rfl, _, _, rfl, rfl, _, rfl, ?_⟩
    refine ite2 (fun h0 => ?_) (fun h0 => ?_)
    · refine ⟨_, rfl, p, _, _, _, rfl, rfl, SqL.of hp, atI_nat (j := 0) rfl, _, rfl, _, _, rfl, rfl, hn, ?_⟩
      refine ⟨_, rfl, p, _, _, _, rfl, rfl, SqL.of hp, atI_nat (j := 0) rfl, _, rfl, _, _, rfl, rfl, ⟨hn, hn2⟩, _, rfl, p, _, _, 0, rfl, rfl, hp, rfl, _, rfl, ?_⟩
      refine k _ _ (Int.emod_nonneg a (by omega)) (Int.emod_lt_of_pos a hn) But.upd ⟨_, _, _, upd_same, ?_, hb, hb2, hc, hc2⟩
      exact Int.ediv_nonneg ha (by omega)
    · refine ⟨_, rfl, p, _, _, _, rfl, rfl, SqL.of hp, atI_nat (j := 1) rfl, _, rfl, p, _, _, _, rfl, rfl, SqL.of hp, atI_nat (j := 1) rfl, _, _, rfl, rfl, ⟨by decide, by decide⟩, _, _, rfl, rfl, _, _, rfl, rfl, .inl ⟨?_, ?_⟩, ?_⟩
      · omega
      · omega
      refine ⟨_, rfl, _, rfl, p, _, _, _, rfl, rfl, SqL.of hp, atI_nat (j := 2) rfl, _, _, rfl, rfl, _, _, rfl, rfl, (by show (0 : Int) < 2147483629; decide), _, _, rfl, rfl, _, rfl, p, _, _, 1, rfl, rfl, hp, rfl, ?_⟩
      generalize hm : (b * (b / 1009 + 69621) + c) % 2147483629 = m
      have hm0 : 0 ≤ m := by rw [← hm]; exact Int.emod_nonneg _ (by decide)
      have hm1 : m < 2147483629 := by rw [← hm]; exact Int.emod_lt_of_pos _ (by decide)
      refine ⟨_, rfl, p, _, _, _, rfl, rfl, SqL.of upd_same, atI_nat (j := 1) rfl, _, _, rfl, rfl, ⟨by decide, by decide⟩, _, rfl, _, _, rfl, rfl, hn, ?_⟩
      exact k _ _ (Int.emod_nonneg _ (by omega)) (Int.emod_lt_of_pos _ hn) But.upd ⟨_, _, _, upd_same, ha, by omega, by omega, hc, hc2⟩
end
end Wm
namespace Wm
open PySem L2
/-- a def of the module's top -/
structure Dn (K : PySem.W.Frag) (mg : Str → Option Value) (x : Str) (st : Stmt) (ps : List Str) (f : Addr) (fd : FuncData) : Prop where
  F : Fun K x x st f fd
  g : mg x = some (.ref f)
  b : Binds K fd ps []
theorem str_at (z : Str) {i : Int} (h0 : 0 ≤ i) (h1 : i < z.length) : ∃ c, z.cps[i.toNat]? = some c := by
  have h : i.toNat < z.cps.size := by
    have e : z.length = z.cps.size := rfl
    omega
  exact ⟨z.cps[i.toNat], Array.getElem?_eq_getElem h⟩
/-- every sign is one of unicode's -/
def okS (z : Str) : Prop := ∀ c ∈ z.cps.toList, c < 1114112
theorem okS_one {c : Nat} (h : c < 1114112) : okS ⟨#[c]⟩ := fun d hd => by
  have e : d = c := by simpa using hd
  rw [e]
  exact h
theorem okS_app {a b : Str} (ha : okS a) (hb : okS b) : okS (a ++ b) := fun c hc => by
  have e : (a ++ b).cps.toList = a.cps.toList ++ b.cps.toList := by
    show (a.cps ++ b.cps).toList = _
    simp
  rw [e] at hc
  rcases List.mem_append.mp hc with h | h
  · exact ha c h
  · exact hb c h
theorem rdItem {z : Str} {i : Int} {n : Nat} {H : Hp} {Q : VK} (hz : z.length = n) (h0 : 0 ≤ i) (h1 : i < n) (hn : n < 1000000) (h : ∀ c, z.cps.toList[i.toNat]? = some c → Q (.str ⟨#[c]⟩) H) : rIxS (.str z) (.int i) H Q := by
  have h2 : i < z.length := by rw [hz]; exact h1
  obtain ⟨c, hc⟩ := str_at z h0 h2
  have hl : z.cps.toList[i.toNat]? = some c := by simpa using hc
  have e : i = ((i.toNat : Nat) : Int) := by omega
  refine ⟨z, i, c, rfl, rfl, by rw [hz]; exact Nat.le_trans (Nat.le_of_lt hn) (by decide), ?_, h c hl⟩
  rw [e]
  exact atI_nat hl
theorem abcOk : ∀ c ∈ (PySem.Str.ofString "abcdefghijklmnopqrstuvwxyz0123456789").cps.toList, c < 1114112 := by decide +kernel
theorem abc36 : (PySem.Str.ofString "abcdefghijklmnopqrstuvwxyz0123456789").length = 36 := by decide +kernel
theorem len_app (a b : Str) : (a ++ b).length = a.length + b.length := by
  show (a.cps ++ b.cps).size = a.cps.size + b.cps.size
  exact Array.size_append
theorem len_one (c : Nat) : (⟨#[c]⟩ : Str).length = 1 := rfl
def spSign : Sp := fun vs H Q _ => ∃ i : Int, vs = [.int i] ∧ ∀ c, c < 1114112 → Q (.str ⟨#[c]⟩) H
def spPlain : Sp := fun vs H Q _ => ∃ (p : Addr) (n : Int), vs = [.ref p, .int n] ∧ StOk H p ∧ 1 ≤ n ∧ n ≤ 15 ∧ ∀ (z : Str) H', z.length ≤ 15 → okS z → But p H H' → StOk H' p → Q (.str z) H'
def spText : Sp := fun vs H Q _ => ∃ (p : Addr), vs = [.ref p] ∧ StOk H p ∧ ∀ (z : Str) H', z.length ≤ 40 → okS z → But p H H' → StOk H' p → Q (.str z) H'
section
variable {P : Program} {w : World} {K : PySem.W.Frag} {mg : Str → Option Value} {base : Heap}
end
end Wm
namespace Wm
open PySem L2
theorem strs_at {zs : List Str} {n : Nat} (h : ∀ z ∈ zs, z.length ≤ n) (ho : ∀ z ∈ zs, ∀ c ∈ z.cps.toList, c < 1114112) {j : Nat} (hj : j < zs.length) : ∃ z, (zs.map V.str)[j]? = some (.str z) ∧ z.length ≤ n ∧ okS z :=
  ⟨zs[j], by simp [hj], h _ (List.getElem_mem hj), ho _ (List.getElem_mem hj)⟩
theorem okS_cut {z : Str} (h : okS z) (lo hi : Option Int) : okS (cutS z lo hi) := fun c hc => by
  have hc' : c ∈ (z.cps.toList.drop (HT.sIx z.length 0 lo)).take (HT.sIx z.length z.length hi - HT.sIx z.length 0 lo) := hc
  exact h c (List.mem_of_mem_drop (List.mem_of_mem_take hc'))
theorem okS_join {a : Str} {ys : List Str} (ha : okS a) (h : ∀ y ∈ ys, okS y) : okS (Txt.join a ys) := by
  have e : Txt.join a ys = Str.join a ys := StrLaws.glued_eq_join a ys
  rw [e]
  clear e
  induction ys with
  | nil => exact fun c hc => (List.not_mem_nil (show c ∈ ([] : List Nat) from hc)).elim
  | cons y r ih =>
    cases r with
    | nil => exact h y List.mem_cons_self
    | cons z r =>
      show okS (y ++ a ++ Str.join a (z :: r))
      exact okS_app (okS_app (h y List.mem_cons_self) ha) (ih fun x hx => h x (List.mem_cons_of_mem _ hx))
theorem rdList {K : PySem.W.Frag} {p : Addr} {xs : List V} {i : Int} {j : Nat} {v : V} {H : Hp} {Q : VK} (hp : H p = some (.lst xs)) (e : i = (j : Int)) (hv : xs[j]? = some v) (h : Q v H) : rIxL K (.ref p) (.int i) H Q :=
  ⟨p, xs, i, v, rfl, rfl, SqL.of hp, at_of e hv, h⟩
theorem But.free {p D : Addr} {H H' : Hp} (b : But p H H') (n : D ≠ p) (h : H' D = none) : H D = none := by
  cases e : H D with
  | none => rfl
  | some o =>
    rw [b D o n e] at h
    cases h
theorem sum_ones : ∀ {ys : List Str}, (∀ y ∈ ys, y.length = 1) → (ys.map (·.length)).sum = ys.length
  | [], _ => rfl
  | y :: ys, h => by
    rw [List.map_cons, List.sum_cons, List.length_cons, h y List.mem_cons_self, sum_ones fun z hz => h z (List.mem_cons_of_mem _ hz)]
    omega
theorem join_len (a : Str) (ys : List Str) : (Txt.join a ys).length ≤ (ys.map (·.length)).sum + ys.length * a.length := by
  show (Builtin.Str.glued a ys).length ≤ _
  rw [StrLaws.glued_eq_join]
  exact StrLaws.join_length_le a ys
section
variable {P : Program} {w : World} {K : PySem.W.Frag} {mg : Str → Option Value} {base : Heap}
end
end Wm
namespace Wm
open PySem PySem.Spec PyProof.Rows L2 ClX
section
variable {X : Cx} {CX : CXT} {k : Nat} {C f : Addr} {fd : FuncData} {ps : List Str} {sp : Sp} {E : XK} {e : Expr} {es : List Expr} {t : TA} {x m : Str} {p1 p2 pos : Pos} {ds : List Value} {dvs : List V}
/-- C.f(e, ..), f a def of the class C -/
theorem pe_clsFn {pl : Sem Bool} {mc : Value} (hg : Gl X x) (hm : X.mg x = some (.ref C)) (r : CRead X.K C mc) (ht : PySem.W.findCls X.K (.ref C) mc m = some (.val (.ref f))) (hk : PySem.W.keepIn X.K (.ref f) = true) (F : FnOk X.prog X.w X.K X.mg X.base CX k f fd ps sp)
    (hr : Room k X.A) (hb : Binds X.K fd ps ds) (hd : Vals dvs ds) (hx : Passes CX X E) (ha : PA X (e :: es) t)
    (hc : eval (.Call (.Attribute (.Name x p1) m p2) (e :: es) [] pos) X.env = (do
      let ov ← eval (.Name x p1) X.env
      standAt p2.atName
      let (f, first) ← holding [ov] (getMethod ov m pl)
      callWith pos f first (backTo pos (starEach (e :: es) X.env)) (backToKw pos (keywordEach [] X.env))) := by rfl)
    (hdb : (x == ("__debug__" : Str)) = false := by decide) (he : starEach (e :: es) X.env = (false, eval e X.env) :: starEach es X.env := by rfl) (hpl : (backTo pos (starEach es X.env)).any (·.1) = false := by rfl) :
    PE X (.Call (.Attribute (.Name x p1) m p2) (e :: es) [] pos) (tCall sp dvs E t) := by
  refine ⟨fun pins s σ H Q I h => ?_⟩
  refine PySem.W.methodCall_KW (ld_glob I hg hm ?_ hdb) hc
  refine PySem.W.method_cls I.kIn r.ga (PySem.W.cls_value I.kIn r.rd ht rfl ?_)
  show wpAny _ _ (callWith pos (Value.ref f) [] (backTo pos (starEach (e :: es) X.env)) []) _ _ _
  refine PySem.W.callWith_K (h₀ := X.base) I.ok.mod.kin hk (thn (ha.run pos pins _ σ H _ (I.tok _) h) fun us s1 ⟨vs, H1, I1, r1, q⟩ => ⟨I1.kIn, ?_⟩) he hpl
  exact run_fn F hr hb hd hx I1 r1 q
/-- xs + ys, both to be read -/
def rCatR (K : PySem.W.Frag) : R2 := fun x y H Q => ∃ l b xs zs, x = .ref l ∧ y = .ref b ∧ SqL K H l xs ∧ SqL K H b zs ∧ xs.length + zs.length ≤ sizeLine ∧ ∀ p, H p = none → Q (.ref p) (upd H p (.lst (xs ++ zs)))
theorem op_catR : OpR X (binaryOp .Add) (rCatR X.K) := by
  intro pins s σ H x y v u Q I rx ry h
  obtain ⟨l, b, xs, zs, rfl, rfl, hH, hB, hz, q⟩ := h
  cases rx
  cases ry
  obtain ⟨its, r, e, hl⟩ := I.list hH
  obtain ⟨its2, r2, e2, hl2⟩ := I.list hB
  have l1 := r.length
  have l2 := r2.length
  obtain ⟨⟨cls, dd, data, sl⟩, ho, hc, n, hd⟩ := e.isList
  obtain ⟨⟨cls2, dd2, data2, sl2⟩, ho2, hc2, n2, hd2⟩ := e2.isList
  simp only at hc hd hc2 hd2
  subst hc hd hc2 hd2
  refine concat_meets ⟨_, ho, rfl⟩ ⟨_, ho2, rfl⟩ noFill_list_add seq_list_add PySem.F.slot_list_add PySem.F.entry_list_add (PySem.F.args_list_add_2 _ _) (list_addW l b its.toArray its2.toArray n n2 dd dd2 sl sl2 (by rw [List.size_toArray, List.size_toArray]; omega)) ⟨ho, ho2, ?_⟩
  have ea : its.toArray ++ its2.toArray = (its ++ its2).toArray := by simp
  rw [ea]
  exact ⟨.ref _, _, I.lnew (t' := s.toks) (r.append r2) (by rw [List.length_append]; omega), rfl, q _ I.fresh⟩
end
end Wm
namespace Wm
open PySem PySem.Spec PyProof.Rows L2 ClX
/-- isinstance(e, c) in an except suite, e the exception that it holds (its class D, its dict at dd) -/
def rIsX (K : PySem.W.Frag) (D a dd : Addr) : List V → Hp → VK → Prop := fun xs H Q => ∃ (c : V) (cv : Value) (b : Bool) (fs : List (Str × V)), xs = [.ref a, c] ∧ H dd = some (.xd fs) ∧ (∀ u, RelV c u → u = cv) ∧ PySem.W.kitOne K (.ref D) cv = some b ∧ Q (.bl b) H
theorem call_isX {X : Cx} {a D dd : Addr} {oe : Obj} {pn : List (Addr × Obj)} (C : ExcC X.K D) (hz : Zc (.ref D) (some dd) oe) (hf : ∃ vs, oe.data = .fields vs) : CallR (X.suite a ((a, oe) :: pn)) (.builtin "isinstance") (rIsX X.K D a dd) := by
  intro pins s σ H xs us Q I r h
  obtain ⟨c, cv, b, fs, rfl, hdd, hcv, e, q⟩ := h
  cases r with
  | cons rx rr =>
    cases rr with
    | cons rt rr =>
      cases rr
      cases rx
      have ec := hcv _ rt
      subst ec
      obtain ⟨hget, _⟩ := I.pin (a, oe) (List.mem_append.mpr (.inl List.mem_cons_self))
      obtain ⟨vs, hv⟩ := hf
      have hx : ObjOk X.prog X.w H s.heap dd (.xd fs) := I.hok dd _ hdd
      obtain ⟨mA, hns, hr⟩ := hx
      obtain ⟨od, ho, hl⟩ := lookIn_ns hns
      have J : PySem.W.InstAt s.heap a oe D (some od) := ⟨hget, hz.1, by unfold PySem.W.notCls; rw [hv] <;> rfl, by rw [hz.2]; exact ho⟩
      have hcl : (PySem.W.clsIn X.K D).isSome = true := by
        obtain ⟨cd, hc, _⟩ := PySem.W.any_some C.hd
        rw [hc]
        rfl
      exact PySem.W.kia_one (PySem.W.kitx_exc hcl C.hg C.hk C.hs C.ha C.hn C.ht C.hm) I.kIn J e (fun z => nomatch z) fun tk => ⟨.bl b, H, I.kept (t' := tk) fun _ _ z => z, rfl, q⟩
/-! ### errors of one field -/
def spWI (K : PySem.W.Frag) : Sp := fun vs H Q _ => ∃ (a C : Addr) (v : V), vs = [.ref a, v] ∧ OexC K C ∧ PySem.W.findIn K (.ref C) "kind" = some none ∧ H a = some (exo a C none) ∧ ∀ dx, H dx = none → dx ≠ a → Q .non (upd (upd H dx (exd dx [("kind", v)])) a (exo a C (some dx)))
/-- the dict of an error of one field -/
def ef1 (f kd : Str) (v : V) : List (Str × V) := [(f, v), ("kind", .str kd)]
def spE1 (C : Addr) (f kd : Str) : Sp := fun vs H Q _ => ∃ (a : Addr) (v : V), vs = [.ref a, v] ∧ H a = some (exo a C none) ∧ ∀ dx H', H dx = none → dx ≠ a → (∀ b o, b ≠ a → H b = some o → H' b = some o) → H' a = some (exo a C (some dx)) → H' dx = some (exd dx (ef1 f kd v)) → Q .non H'
/-- what is known of WhoError -/
structure WhoT (K : PySem.W.Frag) (mg : Str → Option Value) (W f0 : Addr) (fd0 : FuncData) : Prop where
  g : mg "WhoError" = some (.ref W)
  r : CRead K W (.type "type")
  m : PySem.W.findCls K (.ref W) (.type "type") "__init__" = some (.val (.ref f0))
  k : PySem.W.keepIn K (.ref f0) = true
  b : Binds K fd0 ["self", "kind"] []
/-- what is known of an error class of one field -/
structure ErrT (K : PySem.W.Frag) (mg : Str → Option Value) (x f : Str) (C fI : Addr) : Prop where
  o : OexC K C
  g : mg x = some (.ref C)
  iC : PySem.W.findIn K (.ref C) "__init__" = some (some (.ref fI))
  tI : PySem.W.typeIn K (.ref fI) = some (.type "function")
  nk : PySem.W.findIn K (.ref C) "kind" = some none
  nf : PySem.W.findIn K (.ref C) f = some none
end Wm
namespace Wm
open PySem L2
def ef0 : List (Str × V) := [("kind", .str "full")]
def spE0 (C : Addr) : Sp := fun vs H Q _ => ∃ (a : Addr), vs = [.ref a] ∧ H a = some (exo a C none) ∧ ∀ dx H', H dx = none → dx ≠ a → (∀ b o, b ≠ a → H b = some o → H' b = some o) → H' a = some (exo a C (some dx)) → H' dx = some (exd dx ef0) → Q .non H'
section
variable {P : Program} {w : World} {K : PySem.W.Frag} {mg : Str → Option Value} {base : Heap}
theorem scW0 : FnScope ["self", "kind"] ["self", "kind"] (defScope sW0) := ⟨rfl, rfl, rfl, by decide +kernel, rfl, by decide +kernel, by decide +kernel⟩
theorem ok_who {f : Addr} {fd : FuncData} {dvs : List V} (F : FunD K "__init__" "WhoError.__init__" (defArgs sW0) (defBody sW0) (defScope sW0) dvs [] f fd) : FnOk P w K mg base CX0 1 f fd ["self", "kind"] (spWI K) := by
  refine F.ok scW0 (fun vs H Q E h => ?_) (fun cdv A outer s H vs Q E hr h => ?_)
  · obtain ⟨a, C, v, rfl, _⟩ := h
    rfl
  · obtain ⟨a, C, v, rfl, o, nk, ha, k⟩ := h
    refine ⟨_, pss_one (ps_ost (pv 0) (pv 1)), ?_⟩
    exact ⟨_, rfl, _, rfl, a, C, rfl, o, nk, .inl ⟨ha, fun dx n ne => k dx n ne⟩⟩
theorem scNT : FnScope ["self", "name"] ["self", "name"] (defScope sNT) := ⟨rfl, rfl, rfl, by decide +kernel, rfl, by decide +kernel, by decide +kernel⟩
theorem ok_noth {f C f0 W : Addr} {fd fd0 : FuncData} (F : Fun K "__init__" "NoThing.__init__" sNT f fd) (T : ErrT K mg "NoThing" "name" C f) (TW : WhoT K mg W f0 fd0) (G0 : FnOk P w K mg base CX0 1 f0 fd0 ["self", "kind"] (spWI K)) :
    FnOk P w K mg base CX0 2 f fd ["self", "name"] (spE1 C "name" "nothing") := by
  refine F.ok scNT (fun vs H Q E h => ?_) (fun cdv A outer s H vs Q E hr h => ?_)
  · obtain ⟨a, v, rfl, _⟩ := h
    rfl
  · obtain ⟨a, v, rfl, ha, k⟩ := h
    refine ⟨_, pss_cons (ps_expr (pe_clsFn rfl TW.g TW.r TW.m TW.k G0 hr TW.b .nil pass0 (pa_cons (pv 0) (pa_cons pe_str pa_nil)))) (pss_one (ps_ost (pv 0) (pv 1))), ?_⟩
    refine ⟨_, rfl, a, C, _, rfl, T.o, T.nk, ha, fun dx n ne => ?_⟩
    refine ⟨_, rfl, _, rfl, a, C, rfl, T.o, T.nf, .inr ⟨dx, _, upd_same, Eq.trans (upd_ne ne) upd_same, by decide, ?_⟩⟩
    refine k dx _ n ne (fun b o nb e => ?_) ?_ upd_same
    · have nd : b ≠ dx := ne_of_none e n
      rw [upd_ne nd, upd_ne nb, upd_ne nd]
      exact e
    · rw [upd_ne ne.symm, upd_same]
theorem scNN : FnScope ["self", "name"] ["self", "name"] (defScope sNN) := ⟨rfl, rfl, rfl, by decide +kernel, rfl, by decide +kernel, by decide +kernel⟩
theorem ok_noname {f C f0 W : Addr} {fd fd0 : FuncData} (F : Fun K "__init__" "NoName.__init__" sNN f fd) (T : ErrT K mg "NoName" "name" C f) (TW : WhoT K mg W f0 fd0) (G0 : FnOk P w K mg base CX0 1 f0 fd0 ["self", "kind"] (spWI K)) :
    FnOk P w K mg base CX0 2 f fd ["self", "name"] (spE1 C "name" "noname") := by
  refine F.ok scNN (fun vs H Q E h => ?_) (fun cdv A outer s H vs Q E hr h => ?_)
  · obtain ⟨a, v, rfl, _⟩ := h
    rfl
  · obtain ⟨a, v, rfl, ha, k⟩ := h
    refine ⟨_, pss_cons (ps_expr (pe_clsFn rfl TW.g TW.r TW.m TW.k G0 hr TW.b .nil pass0 (pa_cons (pv 0) (pa_cons pe_str pa_nil)))) (pss_one (ps_ost (pv 0) (pv 1))), ?_⟩
    refine ⟨_, rfl, a, C, _, rfl, T.o, T.nk, ha, fun dx n ne => ?_⟩
    refine ⟨_, rfl, _, rfl, a, C, rfl, T.o, T.nf, .inr ⟨dx, _, upd_same, Eq.trans (upd_ne ne) upd_same, by decide, ?_⟩⟩
    refine k dx _ n ne (fun b o nb e => ?_) ?_ upd_same
    · have nd : b ≠ dx := ne_of_none e n
      rw [upd_ne nd, upd_ne nb, upd_ne nd]
      exact e
    · rw [upd_ne ne.symm, upd_same]
theorem scTk : FnScope ["self", "name"] ["self", "name"] (defScope sTk) := ⟨rfl, rfl, rfl, by decide +kernel, rfl, by decide +kernel, by decide +kernel⟩
theorem ok_taken {f C f0 W : Addr} {fd fd0 : FuncData} (F : Fun K "__init__" "Taken.__init__" sTk f fd) (T : ErrT K mg "Taken" "name" C f) (TW : WhoT K mg W f0 fd0) (G0 : FnOk P w K mg base CX0 1 f0 fd0 ["self", "kind"] (spWI K)) :
    FnOk P w K mg base CX0 2 f fd ["self", "name"] (spE1 C "name" "taken") := by
  refine F.ok scTk (fun vs H Q E h => ?_) (fun cdv A outer s H vs Q E hr h => ?_)
  · obtain ⟨a, v, rfl, _⟩ := h
    rfl
  · obtain ⟨a, v, rfl, ha, k⟩ := h
    refine ⟨_, pss_cons (ps_expr (pe_clsFn rfl TW.g TW.r TW.m TW.k G0 hr TW.b .nil pass0 (pa_cons (pv 0) (pa_cons pe_str pa_nil)))) (pss_one (ps_ost (pv 0) (pv 1))), ?_⟩
    refine ⟨_, rfl, a, C, _, rfl, T.o, T.nk, ha, fun dx n ne => ?_⟩
    refine ⟨_, rfl, _, rfl, a, C, rfl, T.o, T.nf, .inr ⟨dx, _, upd_same, Eq.trans (upd_ne ne) upd_same, by decide, ?_⟩⟩
    refine k dx _ n ne (fun b o nb e => ?_) ?_ upd_same
    · have nd : b ≠ dx := ne_of_none e n
      rw [upd_ne nd, upd_ne nb, upd_ne nd]
      exact e
    · rw [upd_ne ne.symm, upd_same]
theorem scNS : FnScope ["self", "name"] ["self", "name"] (defScope sNS) := ⟨rfl, rfl, rfl, by decide +kernel, rfl, by decide +kernel, by decide +kernel⟩
theorem ok_nosort {f C f0 W : Addr} {fd fd0 : FuncData} (F : Fun K "__init__" "NoSort.__init__" sNS f fd) (T : ErrT K mg "NoSort" "name" C f) (TW : WhoT K mg W f0 fd0) (G0 : FnOk P w K mg base CX0 1 f0 fd0 ["self", "kind"] (spWI K)) :
    FnOk P w K mg base CX0 2 f fd ["self", "name"] (spE1 C "name" "nosort") := by
  refine F.ok scNS (fun vs H Q E h => ?_) (fun cdv A outer s H vs Q E hr h => ?_)
  · obtain ⟨a, v, rfl, _⟩ := h
    rfl
  · obtain ⟨a, v, rfl, ha, k⟩ := h
    refine ⟨_, pss_cons (ps_expr (pe_clsFn rfl TW.g TW.r TW.m TW.k G0 hr TW.b .nil pass0 (pa_cons (pv 0) (pa_cons pe_str pa_nil)))) (pss_one (ps_ost (pv 0) (pv 1))), ?_⟩
    refine ⟨_, rfl, a, C, _, rfl, T.o, T.nk, ha, fun dx n ne => ?_⟩
    refine ⟨_, rfl, _, rfl, a, C, rfl, T.o, T.nf, .inr ⟨dx, _, upd_same, Eq.trans (upd_ne ne) upd_same, by decide, ?_⟩⟩
    refine k dx _ n ne (fun b o nb e => ?_) ?_ upd_same
    · have nd : b ≠ dx := ne_of_none e n
      rw [upd_ne nd, upd_ne nb, upd_ne nd]
      exact e
    · rw [upd_ne ne.symm, upd_same]
theorem scFu : FnScope ["self"] ["self"] (defScope sFu) := ⟨rfl, rfl, rfl, by decide +kernel, rfl, by decide +kernel, by decide +kernel⟩
theorem ok_full {f C f0 W : Addr} {fd fd0 : FuncData} (F : Fun K "__init__" "Full.__init__" sFu f fd) (T : ErrT K mg "Full" "kind" C f) (TW : WhoT K mg W f0 fd0) (G0 : FnOk P w K mg base CX0 1 f0 fd0 ["self", "kind"] (spWI K)) :
    FnOk P w K mg base CX0 2 f fd ["self"] (spE0 C) := by
  refine F.ok scFu (fun vs H Q E h => ?_) (fun cdv A outer s H vs Q E hr h => ?_)
  · obtain ⟨a, rfl, _⟩ := h
    rfl
  · obtain ⟨a, rfl, ha, k⟩ := h
    refine ⟨_, pss_one (ps_expr (pe_clsFn rfl TW.g TW.r TW.m TW.k G0 hr TW.b .nil pass0 (pa_cons (pv 0) (pa_cons pe_str pa_nil)))), ?_⟩
    refine ⟨_, rfl, a, C, _, rfl, T.o, T.nk, ha, fun dx n ne => ?_⟩
    refine k dx _ n ne (fun b o nb e => ?_) upd_same (Eq.trans (upd_ne ne) upd_same)
    have nd : b ≠ dx := ne_of_none e n
    rw [upd_ne nb, upd_ne nd]
    exact e
/-- an error of one field, raised -/
theorem mk1 {C : Addr} {f kd : Str} {v : V} {H : Hp} {E : XK} (k : ∀ d H', H d = none → Same H H' → H' d = some (.xd (ef1 f kd v)) → E (.ref C) (some d) H') :
    [v].length ≤ 1000 ∧ ∀ a, H a = none → spE1 C f kd (.ref a :: ([v] ++ [])) (upd H a (exo a C none)) (fun w H2 => w = .non ∧ ∃ (d : Addr) (fs : List (Str × V)), H2 a = some (exo a C (some d)) ∧ H2 d = some (exd d fs) ∧ H d = none ∧ E (.ref C) (some d) (upd (del H2 a) d (.xd fs))) (fun _ _ _ => False) := by
  refine ⟨by show 1 ≤ 1000; decide, fun a na => ⟨a, v, rfl, upd_same, fun dx H' n ne kp ha hd => ⟨rfl, dx, _, ha, hd, ?_, ?_⟩⟩⟩
  · rw [upd_ne ne] at n
    exact n
  · rw [upd_ne ne] at n
    refine k dx _ n (fun b o e => ?_) upd_same
    have nb : b ≠ a := ne_of_none e na
    rw [upd_ne (ne_of_none e n), del_ne nb]
    exact kp b o nb (by rw [upd_ne nb]; exact e)
theorem mk0 {C : Addr} {H : Hp} {E : XK} (k : ∀ d H', H d = none → Same H H' → H' d = some (.xd ef0) → E (.ref C) (some d) H') :
    ([] : List V).length ≤ 1000 ∧ ∀ a, H a = none → spE0 C (.ref a :: ([] ++ [])) (upd H a (exo a C none)) (fun w H2 => w = .non ∧ ∃ (d : Addr) (fs : List (Str × V)), H2 a = some (exo a C (some d)) ∧ H2 d = some (exd d fs) ∧ H d = none ∧ E (.ref C) (some d) (upd (del H2 a) d (.xd fs))) (fun _ _ _ => False) := by
  refine ⟨by show 0 ≤ 1000; decide, fun a na => ⟨a, rfl, upd_same, fun dx H' n ne kp ha hd => ⟨rfl, dx, _, ha, hd, ?_, ?_⟩⟩⟩
  · rw [upd_ne ne] at n
    exact n
  · rw [upd_ne ne] at n
    refine k dx _ n (fun b o e => ?_) upd_same
    have nb : b ≠ a := ne_of_none e na
    rw [upd_ne (ne_of_none e n), del_ne nb]
    exact kp b o nb (by rw [upd_ne nb]; exact e)
end
end Wm
namespace Wm
open PySem L2
/-! ### names -/
def LET : List Nat := (PySem.Str.ofString "abcdefghijklmnopqrstuvwxyz").cps.toList
def FIG : List Nat := (PySem.Str.ofString "0123456789").cps.toList
def okc (c : Nat) : Bool := decide (c ∈ LET) || decide (c ∈ FIG)
def first (l : List Nat) : Bool := match l with
  | [] => false
  | c :: _ => decide (c ∈ LET)
def isNm (z : Str) : Bool := decide (1 ≤ z.length) && (decide (z.length ≤ 12) && (first z.cps.toList && z.cps.toList.all okc))
theorem alnum : (PySem.Str.ofString "abcdefghijklmnopqrstuvwxyz0123456789").cps.toList = LET ++ FIG := by decide +kernel
theorem let_fig : ∀ c ∈ LET, ¬ c ∈ FIG := by decide +kernel
theorem okc_alnum (c : Nat) : decide (c ∈ (PySem.Str.ofString "abcdefghijklmnopqrstuvwxyz0123456789").cps.toList) = okc c := by
  rw [alnum]
  unfold okc
  by_cases h : c ∈ LET <;> by_cases h2 : c ∈ FIG <;> simp [h, h2]
theorem len_eq (z : Str) : z.length = z.cps.toList.length := by
  show z.cps.size = _
  simp
theorem isNm_small {z : Str} (h : z.length < 1 ∨ 12 < z.length) : isNm z = false := by
  unfold isNm
  rcases h with h | h
  · rw [decide_eq_false (by omega)]
    rfl
  · rw [decide_eq_false (p := z.length ≤ 12) (by omega)]
    simp
theorem isNm_first {z : Str} {c : Nat} (h1 : z.cps.toList[0]? = some c) (hc : ¬ c ∈ LET) : isNm z = false := by
  unfold isNm
  have e : first z.cps.toList = false := by
    cases q : z.cps.toList with
    | nil => rfl
    | cons d r =>
      rw [q] at h1
      have e : d = c := Option.some.inj h1
      rw [e]
      exact decide_eq_false hc
  rw [e]
  simp
theorem isNm_all {z : Str} {c : Nat} (h0 : ¬ z.length < 1) (h12 : ¬ 12 < z.length) (h1 : z.cps.toList[0]? = some c) (hc : c ∈ LET) : isNm z = z.cps.toList.all okc := by
  unfold isNm
  have e : first z.cps.toList = true := by
    cases q : z.cps.toList with
    | nil =>
      rw [q] at h1
      cases h1
    | cons d r =>
      rw [q] at h1
      have e : d = c := Option.some.inj h1
      rw [e]
      exact decide_eq_true hc
  rw [e, decide_eq_true (by omega), decide_eq_true (by omega)]
  rfl
theorem isNm_fig {z : Str} {c : Nat} (h1 : z.cps.toList[0]? = some c) (hc : c ∈ FIG) : isNm z = false := isNm_first h1 fun h => let_fig c h hc
theorem isNm_all2 {z : Str} {c : Nat} (h0 : ¬ z.length < 1) (h12 : ¬ 12 < z.length) (h1 : z.cps.toList[0]? = some c) (hc : ¬ c ∈ FIG) : isNm z = z.cps.toList.all okc := by
  by_cases h : c ∈ LET
  · exact isNm_all h0 h12 h1 h
  · rw [isNm_first h1 h]
    have hm : c ∈ z.cps.toList := List.mem_of_getElem? h1
    have e : okc c = false := by
      unfold okc
      rw [decide_eq_false h, decide_eq_false hc]
      rfl
    symm
    rw [List.all_eq_false]
    exact ⟨c, hm, by rw [e]; decide⟩
theorem all_map {l : List Nat} {f : Nat → Bool} : (l.map f).all id = l.all f := by
  induction l with
  | nil => rfl
  | cons a r ih => rw [List.map_cons, List.all_cons, List.all_cons, ih]; rfl
def spName : Sp := fun vs H Q _ => ∃ z : Str, vs = [.str z] ∧ z.length ≤ 1000 ∧ ∀ H', Same H H' → Q (.bl (isNm z)) H'
/-- the constants of names.py -/
structure TxN (mg : Str → Option Value) : Prop where
  lets : ∃ t, mg "LETTERS" = some (.str (PySem.Str.ofString "abcdefghijklmnopqrstuvwxyz") t)
  figs : ∃ t, mg "FIGURES" = some (.str (PySem.Str.ofString "0123456789") t)
  long : ∃ t, mg "LONGEST_NAME" = some (.int 12 t)
/-- the reading of [f(sign) for sign in text] -/
theorem lc_signs {z : Str} {f : Nat → Bool} {g : TG} {te : TE} {vs : List Nat} {σ : St} {H1 : Hp} {D : Addr} {Qd : Hp → Prop} (hz : z.length ≤ 1000) (hD : H1 D = none)
    (he : ∀ (c : Nat) (H : Hp) (Q : St → Hp → Prop), (∀ σ2, wipe σ2 vs = wipe σ vs → (∀ Q2 : VK, Q2 (.bl (f c)) H → te σ2 H Q2) → Q σ2 H) → g (.str ⟨#[c]⟩) (wipe σ vs) H Q)
    (hd : ∀ H, Same H1 H → H D = some (.lst ((z.cps.toList.map f).map V.bl)) → Qd H) :
    ∃ W : Nat → Nat → Hp → Prop, (∃ m, W 0 m (upd H1 D (.lst []))) ∧ ∀ i m H, W i m H →
      ((Its z).stop i H ∧ Qd H) ∨ ((Its z).go i H ∧ ∃ Nx : Hp → Prop, (∀ H', Nx H' → ∃ m', m' < m ∧ W (i + 1) m' H') ∧ ∀ x H', (Its z).yld i H x H' → g x (wipe σ vs) H' fun σ2 H2 => wipe σ2 vs = wipe σ vs ∧ tYes σ2 H2 fun b H3 =>
        if b = true then te σ2 H3 fun y H4 => ∃ acc, H4 D = some (.lst acc) ∧ acc.length < sizeLine ∧ Nx (upd H4 D (.lst (acc ++ [y]))) else Nx H3) := by
  refine lc_it (walk_str (z := z)) (fun i H' => Same H1 H' ∧ H' D = some (.lst (((z.cps.toList.take i).map f).map V.bl))) ⟨Same.upd hD, upd_same⟩ (fun _ _ _ _ => True.intro) ?_ ?_
  · rintro i x H H' hi ⟨hS, hl⟩ ⟨rfl, c, hc, rfl⟩
    refine he c H' _ fun σ2 hw hq => ⟨hw, hq _ ?_⟩
    refine ⟨_, hl, ?_, ?_, ?_⟩
    · rw [List.length_map, List.length_map, List.length_take]
      have e := len_eq z
      exact Nat.lt_of_le_of_lt (show _ ≤ 1000 by omega) (by decide)
    · intro b o h
      have nb : b ≠ D := ne_of_none h hD
      rw [upd_ne nb]
      exact hS b o h
    · rw [upd_same]
      have e : z.cps.toList[i]? = some c := by simpa using hc
      have hlt : i < z.cps.toList.length := (List.getElem?_eq_some_iff.mp e).1
      rw [List.take_add_one, e, List.map_append, List.map_append]
      rfl
  · rintro H ⟨hS, hl⟩
    refine hd H hS ?_
    rw [hl, List.take_of_length_le (by simp)]
section
variable {P : Program} {w : World} {K : PySem.W.Frag} {mg : Str → Option Value} {base : Heap}
theorem scName : FnScope ["text", "sign"] ["text"] (defScope sName) := ⟨rfl, rfl, rfl, by decide +kernel, rfl, by decide +kernel, by decide +kernel⟩
theorem ok_name {f : Addr} {fd : FuncData} (F : Fun K "is_name" "is_name" sName f fd) (T : TxB mg) (TN : TxN mg) : FnOk P w K mg base CX0 1 f fd ["text"] spName := by
  obtain ⟨t1, hlet⟩ := TN.lets
  obtain ⟨t2, hfig⟩ := TN.figs
  obtain ⟨t3, hlong⟩ := TN.long
  refine F.ok scName (fun vs H Q E h => ?_) (fun cdv A outer s H vs Q E hr h => ?_)
  · obtain ⟨z, rfl, _⟩ := h
    rfl
  · obtain ⟨z, rfl, hz, k⟩ := h
    have hzl : z.length ≤ sizeLine := Nat.le_trans hz (by decide)
    refine ⟨_, (pss_cons (ps_if (PW.pt (pw_or (pt_cmpR op_lt (pe_callB call_len_str (by rfl) T.len (by decide +kernel) (pa_cons (pv 0) pa_nil)) pe_int (nomark _)) (pw_or1 (pt_cmpR op_gt (pe_callB call_len_str (by rfl) T.len (by decide +kernel) (pa_cons (pv 0) pa_nil)) (pe_glob (v := .int 12) (by rfl) hlong ⟨_, rfl⟩) (nomark _))))) (pss_one (ps_ret pe_bl)) pss_nil)
      (pss_cons (ps_if (pt_cmpR op_notIn_sign (pe_ix ix_str (pv 0) pe_int (fun _ _ => rfl)) (pe_glob (v := .str (PySem.Str.ofString "abcdefghijklmnopqrstuvwxyz")) (by rfl) hlet ⟨_, rfl⟩) (by rfl)) (pss_one (ps_ret pe_bl)) pss_nil)
      (pss_one (ps_ret (pe_callB (cr_all rfl) (by rfl) T.all (by decide +kernel) (pa_cons (pe_lc (own := [("sign", 1)]) (g := gName 1) rfl scName.nd (pi_str (pv 0)) (blkOk_by (N := ["text", "sign"]) (sc := defScope sName) (by decide +kernel)) (fun _ _ _ _ _ => (pg_name (i := 1) scName.nd rfl (Or.inl rfl))) (fun _ _ _ _ _ => pts_nil) (fun _ _ _ _ _ => (pe_or (pe_cmpR op_in_sign (pv 1) (pe_glob (v := .str (PySem.Str.ofString "abcdefghijklmnopqrstuvwxyz")) (by rfl) hlet ⟨_, rfl⟩) (by rfl)) (pe_one (pe_cmpR op_in_sign (pv 1) (pe_glob (v := .str (PySem.Str.ofString "0123456789")) (by rfl) hfig ⟨_, rfl⟩) (by rfl)))))) pa_nil)))))), ?_⟩
    refine ⟨_, rfl, z, rfl, hzl, _, _, rfl, rfl, _, rfl, ?_⟩
    refine ite2 (fun h1 => ?_) (fun h1 => ?_)
    · have h1' : (z.length : Int) < 1 := of_decide_eq_true h1
      refine iteT ?_
      have e : isNm z = false := isNm_small (.inl (by omega))
      have q := k H (Same.refl H)
      rw [e] at q
      exact q
    refine ⟨_, rfl, z, rfl, hzl, _, _, rfl, rfl, _, rfl, ?_⟩
    refine ite2 (fun h2 => ?_) (fun h2 => ?_)
    · have h2' : (12 : Int) < z.length := of_decide_eq_true h2
      have e : isNm z = false := isNm_small (.inr (by omega))
      have q := k H (Same.refl H)
      rw [e] at q
      exact q
    have h1' : ¬ z.length < 1 := fun x => h1 (decide_eq_true (by omega))
    have h2' : ¬ 12 < z.length := fun x => h2 (decide_eq_true (by omega))
    refine ⟨_, rfl, ?_⟩
    dsimp only [tC]
    refine rdItem (n := z.length) rfl (by decide) (by omega) (by omega) fun c hc => ?_
    refine ⟨c, _, rfl, rfl, _, rfl, ?_⟩
    refine ite2 (fun h3 => ?_) (fun h3 => ?_)
    · have h3' : ¬ c ∈ LET := fun x => by
        rw [show decide (c ∈ (PySem.Str.ofString "abcdefghijklmnopqrstuvwxyz").cps.toList) = true from decide_eq_true x] at h3
        cases h3
      have q := k H (Same.refl H)
      rw [isNm_first hc h3'] at q
      exact q
    have h3' : c ∈ LET := by
      by_cases x : c ∈ LET
      · exact x
      · rw [show decide (c ∈ (PySem.Str.ofString "abcdefghijklmnopqrstuvwxyz").cps.toList) = false from decide_eq_false x] at h3
        exact absurd rfl h3
    refine ⟨_, rfl, z, rfl, fun D hD => ?_⟩
    refine lc_signs (z := z) (f := okc) hz hD (fun c H Q q => ?_) fun H' hS hl => ?_
    · refine q _ rfl fun Q2 q2 => ?_
      refine ⟨_, rfl, c, _, rfl, rfl, _, rfl, ?_⟩
      unfold okc at q2
      refine ite2 (fun h => ?_) (fun h => ?_)
      · have h' : decide (c ∈ LET) = true := h
        rw [h'] at q2
        exact q2
      · have h' : decide (c ∈ LET) = false := Bool.eq_false_iff.mpr h
        rw [h'] at q2
        exact ⟨_, rfl, c, _, rfl, rfl, q2⟩
    · refine ⟨D, _, rfl, SqL.of hl, ?_⟩
      have q := k H' hS
      rw [isNm_all h1' h2' hc h3', ← all_map] at q
      exact q
end
end Wm
namespace Wm
open PySem PySem.Spec PyProof.Rows L2
/-- enumerate(v): its two new cells -/
theorem meets_enum1 {v : Value} {o : Obj} {H : Heap → Prop} (B : Begins v o H) :
    Meets (Builtin.«enumerate.__new__» ⟨[.type "enumerate", v], []⟩) (fun _ R s => H s.heap ∧
      R (.ok (.ret (.ref (s.heap.push o).objs.size))) { s with heap := (s.heap.push o).push { cls := .type "enumerate", data := .fields #[.none, .bool false, .ref s.heap.objs.size, rawInt 0, .none, .none] } }) :=
  .of_wp fun prog w A R s hh => by
    obtain ⟨hp, g, d, tk, os⟩ := s
    obtain ⟨h1, h⟩ := hh
    have hsub := sub_enumerate
    have q1 : ∀ {A' : Around} {E : Value → Shared → Prop} {Q : Value → Shared → Prop}, Q (.ref hp.objs.size) ⟨hp.push o, g, d, tk, os⟩ → wpAny (model prog w) A' (pyIter v) Q E ⟨hp, g, d, tk, os⟩ := fun q => B.iter prog w _ _ ⟨hp, g, d, tk, os⟩ _ h1 q
    wp_walk using q1
    refine wpAny_stack_any fun stk => wpAny_pure ?_
    split
    · rename_i c _ _ _ _ _
      cases (c == Value.type "enumerate") <;> (wp_walk using q1; exact ⟨_, rfl, h⟩)
    · wp_walk using q1
      exact ⟨_, rfl, h⟩
theorem call_enum_tup {prog : Program} {w : World} {A : Around} {E : Value → Shared → Prop} {s : Shared} {t : Addr} {items : Array Value} {Q : Value → Shared → Prop} (hL : s.heap.IsTuple t items)
    (h : ∀ h', IsEnum h' (s.heap.objs.size + 1) s.heap.objs.size 0 .none → h'.IsTupleIter s.heap.objs.size t 0 → (∀ b o, s.heap.get? b = some o → h'.get? b = some o) → Q (.ref (s.heap.objs.size + 1)) { s with heap := h' }) :
    wpAny (model prog w) A (call (.type "enumerate") [.ref t]) Q E s := by
  refine callType_new F.called_enumerate (by decide) (F.typeCall_enumerate_1 _) (F.newCall_enumerate_1 _) (fun obj => F.args_object_init_2 obj _) F.entry_enumerate_new (meets_enum1 (begins_tuple t items)) ⟨hL, ?_⟩
  generalize ho : ({ cls := .type "tuple_iterator", data := .fields #[.ref t, .int 0 0] } : Obj) = o
  have hz : (s.heap.push o).objs.size = s.heap.objs.size + 1 := Heap.size_push ..
  show _ ∧ _
  rw [hz]
  generalize he : ({ cls := .type "enumerate", data := .fields #[.none, .bool false, .ref s.heap.objs.size, rawInt 0, .none, .none] } : Obj) = eo
  have h2 : ((s.heap.push o).push eo).get? (s.heap.objs.size + 1) = some eo := by
    have q := Heap.get?_push_size (s.heap.push o) (o := eo) (by rw [← he]; rfl)
    rw [hz] at q
    exact q
  have h3 : ((s.heap.push o).push eo).get? s.heap.objs.size = some o := Heap.get?_push_of_some _ (Heap.get?_push_size _ (by rw [← ho]; rfl))
  refine ⟨⟨_, h2, by rw [← he]⟩, h _ ?_ ⟨o, h3, by rw [← ho], by rw [← ho]; rfl⟩ fun b o x => Heap.get?_push_of_some _ (Heap.get?_push_of_some _ x)⟩
  show ((s.heap.push o).push eo).get? (s.heap.objs.size + 1) = some _
  rw [h2, ← he]
/-- the tuple at a, each item in a new pair -/
def IteT (K : PySem.W.Frag) (a : Addr) (xs : List V) : It :=
  ⟨fun i H => SqT K H a xs ∧ i < xs.length, fun i H v H' => ∃ T x, v = .ref T ∧ H T = none ∧ H' = upd H T (.tup [.int (i : Nat), x]) ∧ xs[i]? = some x, fun i H => SqT K H a xs ∧ i = xs.length⟩
theorem turn_enumT {P : Program} {w : World} {K : PySem.W.Frag} {elts : List Expr} {kk : Nat} {tpos : Pos} {xs : List V} (a e it : Addr) (his : List Value) :
    Turn P w K (.Tuple elts kk tpos) (IteT K a xs) [e, it] e (fun i h => (∃ old, IsEnum h e it ((i : Nat) : Int) old) ∧ h.IsTupleIter it a i ∧ e ≠ it ∧ a ≠ it ∧ a ≠ e) where
  mem := by simp
  obj := fun i h st b hb => by
    obtain ⟨⟨old, he⟩, ⟨o, ho, hc, hd⟩, _⟩ := st
    rcases (show b = e ∨ b = it by simpa using hb) with z | z
    · rw [z]
      exact ⟨_, he, fun v q => nomatch q⟩
    · rw [z]
      exact ⟨o, ho, fun v q => by rw [hd] at q; cases q⟩
  keep := fun i h h' st k => let ⟨⟨old, he⟩, hi, hne⟩ := st; ⟨⟨old, k e (by simp) _ he⟩, hi.at fun o q => k it (by simp) o q, hne⟩
  item := by
    intro X hP hw hK hc i pins s σ H E I hf st hg
    subst hP hw hK
    obtain ⟨⟨old, he⟩, hit, hne, nai, nae⟩ := st
    obtain ⟨hq, hlt⟩ := hg
    obtain ⟨its, rv, p, hz⟩ := I.tuple hq
    have hlen := rv.length
    have hel : e < s.heap.objs.size := Heap.lt_size he
    have hil : it < s.heap.objs.size := by obtain ⟨_, q, _⟩ := hit; exact Heap.lt_size q
    have D : Draws X.prog X.w X.A.in1 it [it, a] its.toArray.size (fun i v => its.toArray[i]? = some v) (fun i h => h.IsTupleIter it a i ∧ h.IsTuple a its.toArray) := Draws.tuple (A := X.A.in1) (show X.A.in1.handled = none from I.ok.hd hc) it a nai its.toArray
    refine wpAny_pyNext_enum_itemC D he ⟨hit, p⟩ (by rw [List.size_toArray]; omega) hne (by simp [hne, Ne.symm nae]) fun u h' tk hu ho hst' hT hsz hk => ?_
    have hu' : its[i]? = some u := by simpa using hu
    obtain ⟨x, hx, ru⟩ : ∃ x, xs[i]? = some x ∧ RelV x u := by
      obtain ⟨u2, h2, r2⟩ := rv.get (List.getElem?_eq_getElem hlt)
      rw [hu'] at h2
      cases h2
      exact ⟨_, List.getElem?_eq_getElem hlt, r2⟩
    refine ⟨_, rfl, wpAny_letOwnedTupleGo_enum (s := { s with heap := h', toks := tk + 1 }) ho fun h'' he' sb => ?_⟩
    have hT2 : h''.get? s.heap.objs.size = some { cls := .type "tuple", data := .seq #[.int i tk, u] } := (sb.2 _ (Nat.ne_of_gt hel)).trans hT
    have new : ObjOk X.prog X.w (upd H s.heap.objs.size (.tup [.int (i : Nat), x])) h'' s.heap.objs.size (.tup [.int (i : Nat), x]) := ⟨by show 2 ≤ sizeLine; decide, [.int i tk, u], .cons ⟨_, rfl⟩ (.cons ru .nil), ⟨_, hT2, rfl, _, rfl⟩⟩
    have I1 : Inv X pins σ (upd H s.heap.objs.size (.tup [.int (i : Nat), x])) { s with heap := h'', toks := tk + 1 } :=
      I.turnedNew (ch := [e, it]) (fun b ob hb q => (sb.2 b (fun z => hb (by simp [z]))).trans (hk b ob (fun z => hb (by simp [z])) (fun z => hb (by simp [z])) q)) hf (Nat.le_refl _) new
    refine ⟨.ref s.heap.objs.size, _, I1, rfl, ⟨_, x, rfl, I.hok.fresh (Nat.le_refl _), rfl, hx⟩, ⟨⟨u, ?_⟩, hst'.1.at fun o q => (sb.2 it (Ne.symm hne)).trans q, hne, nai, nae⟩, fun b hb => ?_⟩
    · have e1 : ((i + 1 : Nat) : Int) = (i : Int) + 1 := by omega
      rw [e1]
      exact he'
    · have hb' : b < s.heap.objs.size := by
        rcases (show b = e ∨ b = it by simpa using hb) with z | z
        · rw [z]; exact hel
        · rw [z]; exact hil
      rw [upd_ne (Nat.ne_of_lt hb')]
      exact (hf b hb).1
  done := by
    intro X hP hw hK hc i pins s σ H E I hf st hg
    subst hP hw hK
    obtain ⟨⟨old, he⟩, hit, hne, nai, nae⟩ := st
    obtain ⟨hq, hi⟩ := hg
    obtain ⟨its, rv, p, hz⟩ := I.tuple hq
    have hlen := rv.length
    obtain ⟨f0, f1, f2, f3, f4, f5⟩ := hf it (by simp)
    have D : Draws X.prog X.w X.A.in1 it [it, a] its.toArray.size (fun i v => its.toArray[i]? = some v) (fun i h => h.IsTupleIter it a i ∧ h.IsTuple a its.toArray) := Draws.tuple (A := X.A.in1) (show X.A.in1.handled = none from I.ok.hd hc) it a nai its.toArray
    have en : i = its.toArray.size := by rw [List.size_toArray]; omega
    rw [en] at he hit
    exact wpAny_pyNext_enum_endD D he ⟨hit, p⟩ fun h' eb => ⟨rfl, I.turned (t' := s.toks) (fun b o hb q => eb b o hb q) f0 f1 f3 f4 f5⟩
  self := fun A i s Q E st h => let ⟨⟨_, he⟩, _⟩ := st; wpAny_pyIter_enum he h
def iEnumT (K : PySem.W.Frag) (ta : TA) : TI := fun σ H R => ta σ H fun vs H1 => ∃ a xs, vs = [.ref a] ∧ SqT K H1 a xs ∧ R (IteT K a xs) H1
theorem pi_enumT {X : Cx} {e : Expr} {ta : TA} {p pos tpos : Pos} {elts : List Expr} {kk : Nat} (hg : Gl X "enumerate") (hm : X.mg "enumerate" = none) (ha : PA X [e] ta) (hs : starEach [e] X.env = [(false, eval e X.env)] := by rfl) :
    PI X (.Tuple elts kk tpos) (.Call (.Name "enumerate" p) [e] [] pos) (iEnumT X.K ta) := by
  refine ⟨fun pins s σ H R I h => ?_⟩
  refine Call_ (ld_blt I hg hm boot_enumerate (PyProof.Rows.callWith_type1 (thn (ha.run pos pins s σ H _ I h) fun us s1 ⟨vs, H1, I1, r1, a, xs, ex, hq, q⟩ => ?_) hs rfl))
  subst ex
  cases r1 with
  | cons r rr =>
    cases rr
    cases r
    obtain ⟨its, rv, p', hz⟩ := I1.tuple hq
    have hal : a < s1.heap.objs.size := by obtain ⟨_, z, _⟩ := p'; exact Heap.lt_size z
    refine call_enum_tup (items := its.toArray) p' fun h' he hit hk => wpAny_pyIter_enum he ?_
    have I2 : Inv X pins σ H1 { s1 with heap := h' } := I1.kept (t' := s1.toks) hk
    refine ⟨s1.heap.objs.size + 1, [s1.heap.objs.size + 1, s1.heap.objs.size], _, _, H1, rfl, I2, turn_enumT a (s1.heap.objs.size + 1) s1.heap.objs.size its, ⟨⟨.none, he⟩, hit, Nat.succ_ne_self _, Nat.ne_of_lt hal, Nat.ne_of_lt (Nat.lt_succ_of_lt hal)⟩, fun b hb => ?_, q⟩
    have hle : s1.heap.objs.size ≤ b := by
      rcases (show b = s1.heap.objs.size + 1 ∨ b = s1.heap.objs.size by simpa using hb) with z | z
      · rw [z]; exact Nat.le_add_right _ _
      · rw [z]; exact Nat.le_refl _
    exact I1.fpOk hle (I1.hok.fresh hle)
theorem walk_enumT {K : PySem.W.Frag} {a : Addr} {xs : List V} : Walk (IteT K a xs) xs.length (fun H => SqT K H a xs) (YPair (fun i => some (.int (i : Nat))) (fun i => xs[i]?)) := by
  refine ⟨fun i _ hi q => ⟨q, hi⟩, fun _ q => ⟨q, rfl⟩, fun i H v H' _ q y => ?_⟩
  obtain ⟨T, x, h1, h2, h3, h4⟩ := y
  exact ⟨T, .int (i : Nat), x, h1, h2, h3, rfl, h4⟩
end Wm
namespace Wm
open PySem L2
/-- the outer walk of a comprehension of two clauses -/
theorem lc2_it {J : It} {n : Nat} {G : Hp → Prop} {Y : Nat → Hp → V → Hp → Prop} (w : Walk J n G Y) {g : TG} {vs : List Nat} {σ : St} {H1 : Hp} {D : Addr} {Qd : Hp → Prop} {inner : St → Hp → (Hp → Prop) → Prop} (Pv : Nat → Hp → Prop) (h0 : Pv 0 (upd H1 D (.lst []))) (hG : ∀ i H, i ≤ n → Pv i H → G H)
    (hs : ∀ i x H H', i < n → Pv i H → Y i H x H' → g x (wipe σ vs) H' fun σ2 H2 => wipe σ2 vs = wipe σ vs ∧ inner σ2 H2 (Pv (i + 1))) (hd : ∀ H, Pv n H → Qd H) :
    ∃ W : Nat → Nat → Hp → Prop, (∃ m, W 0 m (upd H1 D (.lst []))) ∧ ∀ i m H, W i m H →
      (J.stop i H ∧ Qd H) ∨ (J.go i H ∧ ∃ Nx : Hp → Prop, (∀ H', Nx H' → ∃ m', m' < m ∧ W (i + 1) m' H') ∧ ∀ x H', J.yld i H x H' → g x (wipe σ vs) H' fun σ2 H2 => wipe σ2 vs = wipe σ vs ∧ inner σ2 H2 Nx) := by
  refine ⟨fun i m H => m = n - i ∧ i ≤ n ∧ Pv i H, ⟨n, by simp, Nat.zero_le _, h0⟩, ?_⟩
  rintro i m H ⟨rfl, hi, p⟩
  have q := hG i H hi p
  by_cases hlt : i < n
  · exact .inr ⟨w.goes i H hlt q, Pv (i + 1), fun H' p' => ⟨n - (i + 1), by omega, rfl, hlt, p'⟩, fun x H' y => hs i x H H' hlt p (w.yields i H x H' hlt q y)⟩
  · have e : i = n := by omega
    subst e
    exact .inl ⟨w.stops H q, hd H p⟩
/-- the inner one -/
theorem lc1_it {J : It} {n : Nat} {G : Hp → Prop} {Y : Nat → Hp → V → Hp → Prop} (w : Walk J n G Y) {g : TG} {te : TE} {vs : List Nat} {σ : St} {H4 : Hp} {D : Addr} {Nx : Hp → Prop} (Pv : Nat → Hp → Prop) (h0 : Pv 0 H4) (hG : ∀ i H, i ≤ n → Pv i H → G H)
    (hs : ∀ i x H H', i < n → Pv i H → Y i H x H' → g x (wipe σ vs) H' fun σ3 H5 => wipe σ3 vs = wipe σ vs ∧ te σ3 H5 fun y H7 => ∃ acc, H7 D = some (.lst acc) ∧ acc.length < sizeLine ∧ Pv (i + 1) (upd H7 D (.lst (acc ++ [y])))) (hd : ∀ H, Pv n H → Nx H) :
    ∃ W1 : Nat → Nat → Hp → Prop, (∃ m, W1 0 m H4) ∧ ∀ j k H, W1 j k H →
      (J.stop j H ∧ Nx H) ∨ (J.go j H ∧ ∃ Nx1 : Hp → Prop, (∀ H', Nx1 H' → ∃ k', k' < k ∧ W1 (j + 1) k' H') ∧ ∀ x H', J.yld j H x H' → g x (wipe σ vs) H' fun σ3 H5 => wipe σ3 vs = wipe σ vs ∧ tYes σ3 H5 fun b H6 =>
        if b = true then te σ3 H6 fun y H7 => ∃ acc, H7 D = some (.lst acc) ∧ acc.length < sizeLine ∧ Nx1 (upd H7 D (.lst (acc ++ [y]))) else Nx1 H6) := by
  refine ⟨fun i m H => m = n - i ∧ i ≤ n ∧ Pv i H, ⟨n, by simp, Nat.zero_le _, h0⟩, ?_⟩
  rintro i m H ⟨rfl, hi, p⟩
  have q := hG i H hi p
  by_cases hlt : i < n
  · exact .inr ⟨w.goes i H hlt q, Pv (i + 1), fun H' p' => ⟨n - (i + 1), by omega, rfl, hlt, p'⟩, fun x H' y => hs i x H H' hlt p (w.yields i H x H' hlt q y)⟩
  · have e : i = n := by omega
    subst e
    exact .inl ⟨w.stops H q, hd H p⟩
/-- tuple(x) of a list or a tuple -/
def rTupOf (K : PySem.W.Frag) : List V → Hp → VK → Prop := fun xs H Q => ∃ p ys, xs = [.ref p] ∧ ((SqL K H p ys ∧ ∀ l, H l = none → Q (.ref l) (upd H l (.tup ys))) ∨ (SqT K H p ys ∧ Q (.ref p) H))
theorem call_tupN {X : Cx} : CallR X (.type "tuple") (rTupOf X.K) := call_tuple_of
theorem same_seqT {K : PySem.W.Frag} {H H' : Hp} {a : Addr} {xs : List V} (e : Same H H') (h : SqT K H a xs) : SqT K H' a xs := by
  rcases h with (h | ⟨o, h⟩) | h
  · exact .inl (.inl (e _ _ h))
  · exact .inl (.inr ⟨o, e _ _ h⟩)
  · exact .inr h
/-- to be read as a list or a tuple -/
def Sq (K : PySem.W.Frag) (H : Hp) (a : Addr) (xs : List V) : Prop := SqL K H a xs ∨ SqT K H a xs
theorem same_sq {K : PySem.W.Frag} {H H' : Hp} {a : Addr} {xs : List V} (e : Same H H') (h : Sq K H a xs) : Sq K H' a xs := h.imp (fun h => e.seq h) (fun h => same_seqT e h)
theorem cut_take (xs : List V) (i : Nat) : cutV xs none (some (i : Int)) = xs.take i := by
  unfold cutV
  rw [HT.sIx_none, HT.sIx_nat, List.drop_zero, Nat.sub_zero]
  by_cases h : i ≤ xs.length
  · rw [Nat.min_eq_left h]
  · rw [Nat.min_eq_right (by omega), List.take_length, List.take_of_length_le (by omega)]
theorem all_take {xs : List V} (h : xs.all flatV = true) (i : Nat) : (xs.take i).all flatV = true := by
  rw [List.all_eq_true] at h ⊢
  exact fun x hx => h x (List.mem_of_mem_take hx)
end Wm
namespace Wm
open PySem L2
/-- no item stands ahead of itself -/
def NoTw (xs : List V) : Prop := ∀ (i : Nat) (x : V), xs[i]? = some x → inV x (xs.take i) = false
def spFT (K : PySem.W.Frag) : Sp := fun vs H Q _ => ∃ (l : Addr) (xs : List V), vs = [.ref l] ∧ Sq K H l xs ∧ xs.all flatV = true ∧ NoTw xs ∧ ∀ H', Same H H' → Q .non H'
def spRC : Sp := fun vs H Q _ => ∃ (z : V) (c lo hi : Int), vs = [z, .int c, .int lo, .int hi] ∧ lo ≤ c ∧ c ≤ hi ∧ Q .non H
section
variable {P : Program} {w : World} {K : PySem.W.Frag} {mg : Str → Option Value} {base : Heap}
theorem scRC : FnScope ["what", "count", "least", "most"] ["what", "count", "least", "most"] (defScope sRC) := ⟨rfl, rfl, rfl, by decide +kernel, rfl, by decide +kernel, by decide +kernel⟩
theorem ok_rc {f : Addr} {fd : FuncData} (F : Fun K "refuse_count" "refuse_count" sRC f fd) : FnOk P w K mg base CX0 1 f fd ["what", "count", "least", "most"] spRC := by
  refine F.ok scRC (fun vs H Q E h => ?_) (fun cdv A outer s H vs Q E hr h => ?_)
  · obtain ⟨z, c, lo, hi, rfl, _⟩ := h
    rfl
  · obtain ⟨z, c, lo, hi, rfl, h1, h2, k⟩ := h
    refine ⟨_, (pss_one (ps_if (PW.pt (pw_or (pt_cmpR op_lt (pv 1) (pv 2) (nomark _)) (pw_or1 (pt_cmpR op_gt (pv 1) (pv 3) (nomark _))))) (pss_one ps_never) pss_nil)), ?_⟩
    refine ⟨_, rfl, _, rfl, _, _, rfl, rfl, _, rfl, ?_⟩
    refine ite2 (fun h => absurd (of_decide_eq_true h) (by omega)) (fun _ => ?_)
    refine ⟨_, rfl, _, rfl, _, _, rfl, rfl, _, rfl, ?_⟩
    exact ite2 (fun h => absurd (of_decide_eq_true h) (by omega)) (fun _ => k)
theorem scFT : FnScope ["row", "place", "part"] ["row"] (defScope sFT) := ⟨rfl, rfl, rfl, by decide +kernel, rfl, by decide +kernel, by decide +kernel⟩
theorem ok_ft {f : Addr} {fd : FuncData} (F : Fun K "first_twice" "first_twice" sFT f fd) (T : TxB mg) : FnOk P w K mg base CX0 1 f fd ["row"] (spFT K) := by
  refine F.ok scFT (fun vs H Q E h => ?_) (fun cdv A outer s H vs Q E hr h => ?_)
  · obtain ⟨l, xs, rfl, _⟩ := h
    rfl
  · obtain ⟨l, xs, rfl, hl, hf, hno, k⟩ := h
    rcases hl with hl | hl
    · refine ⟨_, (pss_cons (ps_for PassesOwn.never rfl (pi_enum rfl T.enumerate (pa_cons (pv 0) pa_nil)) (pg_tup rfl (pgs_cons (pg_name (i := 1) scFT.nd rfl (Or.inl rfl)) (pgs_cons (pg_name (i := 2) scFT.nd rfl (Or.inl rfl)) pgs_nil))) (pss_one (ps_if (pt_cmpR op_in_seq (pv 2) (pe_slice sl_list (pv 0) po_none (po_some (pv 1))) (by rfl)) (pss_one (ps_ret (pv 1))) pss_nil)))
      (pss_one (ps_ret pe_non))), ?_⟩
      refine ⟨_, rfl, l, xs, rfl, hl, for_it walk_enum (fun i σ H' => (∃ u v, σ = [some (.ref l), u, v]) ∧ Same H H') ⟨⟨none, none, rfl⟩, Same.refl H⟩ (fun i σ H' _ p => p.2.seq hl) ?_ ?_⟩
      · rintro i x σ H1 H2 hi ⟨⟨u, v, rfl⟩, hS⟩ ⟨t, y, z, rfl, ht, rfl, e1, e2⟩
        cases e1
        refine ⟨t, _, rfl, SqT.of upd_same, rfl, _, _, rfl, _, _, rfl, rfl, ?_⟩
        have S2 := hS.trans (Same.upd (o := .tup [.int (i : Nat), z]) ht)
        refine ⟨_, rfl, _, rfl, _, rfl, _, rfl, l, xs, rfl, S2.seq hl, fun p hp => ?_⟩
        refine ⟨p, _, rfl, .inl (SqL.of upd_same), ?_, ?_, _, rfl, ?_⟩
        · exact List.all_eq_true.mp hf _ (List.mem_of_getElem? e2)
        · show (cutV xs none (some (i : Int))).all flatV = true
          rw [cut_take]
          exact all_take hf i
        · have e : inV z (cutV xs none (some (i : Int))) = false := by
            rw [cut_take]
            exact hno i z e2
          show if inV z (cutV xs none (some (i : Int))) = true then _ else _
          rw [e]
          exact iteF ⟨⟨_, _, rfl⟩, S2.trans (Same.upd hp)⟩
      · rintro σ H' ⟨_, hS⟩
        exact k H' hS
    · refine ⟨_, (pss_cons (ps_for PassesOwn.never rfl (pi_enumT rfl T.enumerate (pa_cons (pv 0) pa_nil)) (pg_tup rfl (pgs_cons (pg_name (i := 1) scFT.nd rfl (Or.inl rfl)) (pgs_cons (pg_name (i := 2) scFT.nd rfl (Or.inl rfl)) pgs_nil))) (pss_one (ps_if (pt_cmpR op_in_seq (pv 2) (pe_slice sl_tupA (pv 0) po_none (po_some (pv 1))) (by rfl)) (pss_one (ps_ret (pv 1))) pss_nil)))
      (pss_one (ps_ret pe_non))), ?_⟩
      refine ⟨_, rfl, l, xs, rfl, hl, for_it walk_enumT (fun i σ H' => (∃ u v, σ = [some (.ref l), u, v]) ∧ Same H H') ⟨⟨none, none, rfl⟩, Same.refl H⟩ (fun i σ H' _ p => same_seqT p.2 hl) ?_ ?_⟩
      · rintro i x σ H1 H2 hi ⟨⟨u, v, rfl⟩, hS⟩ ⟨t, y, z, rfl, ht, rfl, e1, e2⟩
        cases e1
        refine ⟨t, _, rfl, SqT.of upd_same, rfl, _, _, rfl, _, _, rfl, rfl, ?_⟩
        have S2 := hS.trans (Same.upd (o := .tup [.int (i : Nat), z]) ht)
        refine ⟨_, rfl, _, rfl, _, rfl, _, rfl, l, xs, rfl, same_seqT S2 hl, fun h => ?_, fun h p hp => ?_⟩
        · have en : xs.take i = xs := by
            rw [HT.sIx_nat] at h
            exact List.take_of_length_le (by omega)
          have e : inV z xs = false := by
            have q := hno i z e2
            rw [en] at q
            exact q
          refine ⟨l, xs, rfl, .inr (same_seqT S2 hl), List.all_eq_true.mp hf _ (List.mem_of_getElem? e2), hf, _, rfl, ?_⟩
          show if inV z xs = true then _ else _
          rw [e]
          exact iteF ⟨⟨_, _, rfl⟩, S2⟩
        · refine ⟨p, _, rfl, .inr (SqT.of upd_same), List.all_eq_true.mp hf _ (List.mem_of_getElem? e2), ?_, _, rfl, ?_⟩
          · show (cutV xs none (some (i : Int))).all flatV = true
            rw [cut_take]
            exact all_take hf i
          · have e : inV z (cutV xs none (some (i : Int))) = false := by
              rw [cut_take]
              exact hno i z e2
            show if inV z (cutV xs none (some (i : Int))) = true then _ else _
            rw [e]
            exact iteF ⟨⟨_, _, rfl⟩, S2.trans (Same.upd hp)⟩
      · rintro σ H' ⟨_, hS⟩
        exact k H' hS
theorem scRT : FnScope ["names", "place"] ["names"] (defScope sRT) := ⟨rfl, rfl, rfl, by decide +kernel, rfl, by decide +kernel, by decide +kernel⟩
theorem ok_rt {f fF : Addr} {fd fdF : FuncData} (F : Fun K "refuse_twice" "refuse_twice" sRT f fd) (T : TxB mg) (D : Dn K mg "first_twice" sFT ["row"] fF fdF) : FnOk P w K mg base CX0 2 f fd ["names"] (spFT K) := by
  have G : FnOk P w K mg base CX0 1 fF fdF ["row"] (spFT K) := ok_ft D.F T
  refine F.ok scRT (fun vs H Q E h => ?_) (fun cdv A outer s H vs Q E hr h => ?_)
  · obtain ⟨l, xs, rfl, _⟩ := h
    rfl
  · obtain ⟨l, xs, rfl, hl, hf, hno, k⟩ := h
    refine ⟨_, (pss_cons (ps_set (i := 1) scRT.nd rfl (Or.inl rfl) (pe_call G hr rfl D.g D.F.kp D.b .nil pass0 (pa_cons (pv 0) pa_nil)))
      (pss_one (ps_if (pt_cmp (pc_notN (pv 1))) (pss_one ps_never) pss_nil))), ?_⟩
    refine ⟨_, rfl, l, xs, rfl, hl, hf, hno, fun H' hS => ?_⟩
    refine ⟨_, rfl, _, rfl, ?_⟩
    exact iteF (k H' hS)
end
end Wm
/-! names as the laws draw them: texts of at most six signs -/
namespace Wm
open PySem L2
def lowC (c : Nat) : Prop := 97 ≤ c ∧ c ≤ 122
def figC (c : Nat) : Prop := 48 ≤ c ∧ c ≤ 57
/-- a text of small letters and figures, the first a letter -/
def NmP (z : Str) : Prop := ∃ c cs, z.cps.toList = c :: cs ∧ lowC c ∧ ∀ d ∈ cs, lowC d ∨ figC d
theorem toList_app (a b : Str) : (a ++ b).cps.toList = a.cps.toList ++ b.cps.toList := by
  show (a.cps ++ b.cps).toList = _
  simp
theorem NmP.app {a b : Str} (h : NmP a) (hb : ∀ d ∈ b.cps.toList, lowC d ∨ figC d) : NmP (a ++ b) := by
  obtain ⟨c, cs, e, l, r⟩ := h
  refine ⟨c, cs ++ b.cps.toList, by rw [toList_app, e]; rfl, l, fun d hd => ?_⟩
  rcases List.mem_append.mp hd with h | h
  · exact r d h
  · exact hb d h
theorem NmP.one {c : Nat} (h : lowC c) : NmP ⟨#[c]⟩ := ⟨c, [], rfl, h, fun _ z => nomatch z⟩
theorem NmP.ok {z : Str} (h : NmP z) : ∀ c ∈ z.cps.toList, c < 1114112 := by
  obtain ⟨c, cs, e, l, r⟩ := h
  intro d hd
  rw [e] at hd
  rcases List.mem_cons.mp hd with h | h
  · rw [h]
    exact Nat.lt_of_le_of_lt l.2 (by decide)
  · rcases r d h with q | q
    · exact Nat.lt_of_le_of_lt q.2 (by decide)
    · exact Nat.lt_of_le_of_lt q.2 (by decide)
def ABC36 : Str := PySem.Str.ofString "abcdefghijklmnopqrstuvwxyz0123456789"
theorem abc36_len : ABC36.length = 36 := by decide +kernel
theorem abc_low {i : Nat} {c : Nat} (hi : i < 26) (h : ABC36.cps.toList[i]? = some c) : lowC c := by
  have q : ∀ j : Fin 26, ∀ d ∈ ABC36.cps.toList[j.1]?, 97 ≤ d ∧ d ≤ 122 := by decide +kernel
  exact q ⟨i, hi⟩ c (by rw [h]; exact rfl)
theorem abc_any {i : Nat} {c : Nat} (h : ABC36.cps.toList[i]? = some c) : lowC c ∨ figC c := by
  have q : ∀ d ∈ ABC36.cps.toList, (97 ≤ d ∧ d ≤ 122) ∨ (48 ≤ d ∧ d ≤ 57) := by decide +kernel
  exact q c (List.mem_of_getElem? h)
/-- the text of a number -/
def numS (n : Nat) : Str := PySem.Str.ofString (toString (n : Int))
def numB (n : Nat) : Bool := (numS n).cps.toList.all (fun d => decide (48 ≤ d ∧ d ≤ 57)) && (decide ((numS n).length ≤ 2) && decide (1 ≤ (numS n).length))
theorem num_all : ∀ n : Fin 70, numB n.1 = true := by decide +kernel
theorem num_inj0 : ∀ n m : Fin 70, (numS n.1).cps.toList = (numS m.1).cps.toList → n = m := by decide +kernel
theorem num_sign {n : Nat} (h : n < 70) : (∀ d ∈ (numS n).cps.toList, lowC d ∨ figC d) ∧ (numS n).length ≤ 2 ∧ 1 ≤ (numS n).length := by
  obtain ⟨a, b⟩ := Bool.and_eq_true_iff.mp (num_all ⟨n, h⟩)
  obtain ⟨b, c⟩ := Bool.and_eq_true_iff.mp b
  refine ⟨fun d hd => .inr ?_, of_decide_eq_true b, of_decide_eq_true c⟩
  have q := List.all_eq_true.mp a d hd
  exact of_decide_eq_true (p := 48 ≤ d ∧ d ≤ 57) q
theorem num_inj {n m : Nat} (hn : n < 70) (hm : m < 70) (h : numS n = numS m) : n = m := congrArg Fin.val (num_inj0 ⟨n, hn⟩ ⟨m, hm⟩ (by rw [h]))
/-- the tries for a name: the word, then the word with 1, 2 .. -/
def tryS (z : Str) : Nat → Str
  | 0 => z
  | n + 1 => z ++ numS (n + 1)
theorem app_inj {a b c : Str} (h : a ++ b = a ++ c) : b = c := by
  have e := congrArg (fun z : Str => z.cps.toList) h
  simp only [toList_app] at e
  have q := List.append_cancel_left e
  cases b; cases c
  simp only at q
  congr
  exact Array.toList_inj.mp q
theorem try_inj {z : Str} {n m : Nat} (hn : n < 70) (hm : m < 70) (h : tryS z n = tryS z m) : n = m := by
  have key : ∀ k, k + 1 < 70 → z ≠ z ++ numS (k + 1) := fun k hk e => by
    have l := congrArg (fun z : Str => z.cps.toList.length) e
    simp only [toList_app, List.length_append] at l
    have q := (num_sign hk).2.2
    have q' : 1 ≤ (numS (k + 1)).cps.toList.length := by simpa [PySem.Str.length] using q
    omega
  cases n with
  | zero =>
    cases m with
    | zero => rfl
    | succ m => exact (key m hm h).elim
  | succ n =>
    cases m with
    | zero => exact (key n hn h.symm).elim
    | succ m => exact num_inj hn hm (app_inj h)
theorem holes {α : Type} [BEq α] [LawfulBEq α] {f : Nat → α} : ∀ {n : Nat} {l : List α}, (∀ i j, i < n → j < n → f i = f j → i = j) → (∀ i, i < n → f i ∈ l) → n ≤ l.length
  | 0, _, _, _ => Nat.zero_le _
  | n + 1, l, inj, h => by
    have hm := h n (Nat.lt_succ_self n)
    have q := holes (n := n) (l := l.erase (f n)) (fun i j hi hj => inj i j (by omega) (by omega)) (fun i hi => by
      refine (List.mem_erase_of_ne fun e => ?_).mpr (h i (by omega))
      have := inj i n (by omega) (by omega) e
      omega)
    rw [List.length_erase_of_mem hm] at q
    have := List.length_pos_of_mem hm
    omega
theorem try_end {z : Str} {taken : List Str} {n : Nat} (ht : taken.length ≤ 60) (h : ∀ i, i < n → tryS z i ∈ taken) (hn : n ≤ 61) : n ≤ taken.length :=
  holes (f := tryS z) (fun i j hi hj e => try_inj (by omega) (by omega) e) h
theorem inV_strs {z : Str} {ns : List Str} : inV (.str z) (ns.map V.str) = decide (z ∈ ns) := by
  unfold inV
  rw [List.any_map]
  induction ns with
  | nil => simp
  | cons a r ih =>
    rw [List.any_cons, ih]
    have e : eqV (.str a) (.str z) = decide (a = z) := by
      unfold eqV
      by_cases h : a = z
      · simp [h]
      · simp [h]
    show (eqV (.str a) (.str z) || _) = _
    rw [e]
    by_cases h : a = z
    · simp [h]
    · have h' : ¬ z = a := fun x => h x.symm
      simp [h, h']
end Wm
namespace Wm
open PySem L2
theorem StOk.upd {p d : Addr} {H : Hp} {o : HO} (n : d ≠ p) (h : StOk H p) : StOk (L2.upd H d o) p := by
  obtain ⟨a, b, c, e, r⟩ := h
  exact ⟨a, b, c, by rw [upd_ne n.symm]; exact e, r⟩
theorem StOk.same {p : Addr} {H H' : Hp} (e : Same H H') (h : StOk H p) : StOk H' p := by
  obtain ⟨a, b, c, q, r⟩ := h
  exact ⟨a, b, c, e _ _ q, r⟩
theorem st_free {p d : Addr} {H : Hp} (h : StOk H p) (n : H d = none) : d ≠ p := by
  obtain ⟨a, b, c, e, _⟩ := h
  exact fun z => by
    rw [z, e] at n
    cases n
theorem but_new {p d : Addr} {H H1 : Hp} {o : HO} (b : But p H H1) (n : d ≠ p) (h0 : H d = none) : But p H (L2.upd H1 d o) := fun q u nq e => by
  rw [upd_ne (ne_of_none e h0)]
  exact b q u nq e
theorem flats (ns : List Str) : (ns.map V.str).all flatV = true := by
  induction ns with
  | nil => rfl
  | cons a r ih => rw [List.map_cons, List.all_cons, ih]; rfl
def spNam : Sp := fun vs H Q _ => ∃ (p ln : Addr) (taken : List Str), vs = [.ref p, .ref ln] ∧ StOk H p ∧ ln ≠ p ∧ H ln = some (.lst (taken.map V.str)) ∧ taken.length ≤ 60 ∧
  ∀ (z : Str) H', NmP z → z.length ≤ 6 → z ∉ taken → But p H H' → StOk H' p → Q (.str z) H'
def spNms : Sp := fun vs H Q _ => ∃ (p : Addr) (n : Int), vs = [.ref p, .int n] ∧ StOk H p ∧ 0 ≤ n ∧ n ≤ 60 ∧
  ∀ (zs : List Str) d H', H d = none → d ≠ p → But p H H' → StOk H' p → H' d = some (.lst (zs.map V.str)) → zs.length = n.toNat → zs.Nodup → (∀ z ∈ zs, NmP z ∧ z.length ≤ 6) → Q (.ref d) H'
/-- how many tries are left -/
def mu7 (σ : L2.St) : Nat := match (σ[7]? : Option (Option V)) with
  | some (some (V.int n)) => 100 - n.toNat
  | _ => 0
theorem log_small {n : Nat} (h : n ≤ 100) : ((n : Int) + 1).natAbs.log2 < 1920 := by
  have e : ((n : Int) + 1).natAbs = n + 1 := by omega
  rw [e]
  have q : (n + 1).log2 ≤ n + 1 := Nat.log2_le_self _
  omega
theorem try_nm {z : Str} (h : NmP z) (hl : z.length ≤ 4) {n : Nat} (hn : n ≤ 60) : NmP (tryS z n) ∧ (tryS z n).length ≤ 6 := by
  cases n with
  | zero => exact ⟨h, by show z.length ≤ 6; omega⟩
  | succ n =>
    have q := num_sign (n := n + 1) (by omega)
    refine ⟨h.app q.1, ?_⟩
    show (z ++ numS (n + 1)).length ≤ 6
    rw [len_app]
    omega
section
variable {P : Program} {w : World} {K : PySem.W.Frag} {mg : Str → Option Value} {base : Heap}
theorem scNam : FnScope ["_law_s", "_law_taken", "_law_some", "_law_kind", "_law_word", "_law_k", "_law_found", "_law_n"] ["_law_s", "_law_taken"] (defScope sNam) := ⟨rfl, rfl, rfl, by decide +kernel, rfl, by decide +kernel, by decide +kernel⟩
theorem ok_nam {f fg : Addr} {fd fdg : FuncData} (F : Fun K "_law_name" "_law_name" sNam f fd) (T : TxB mg) (tstr : mg "str" = none) (D : Dn K mg "_law_digit" sDigit ["_law_state_here", "_law_base"] fg fdg) : FnOk P w K mg base CX0 2 f fd ["_law_s", "_law_taken"] spNam := by
  have G : FnOk P w K mg base CX0 1 fg fdg ["_law_state_here", "_law_base"] spDigit := ok_digit D.F
  refine F.ok scNam (fun vs H Q E h => ?_) (fun cdv A outer s H vs Q E hr h => ?_)
  · obtain ⟨p, ln, tk, rfl, _⟩ := h
    rfl
  · obtain ⟨p, ln, taken, rfl, hS, nlp, hT, hl, k⟩ := h
    refine ⟨_, (pss_cons (ps_set (i := 2) scNam.nd rfl (Or.inl rfl) pe_str)
      (pss_cons (ps_set (i := 3) scNam.nd rfl (Or.inl rfl) (pe_call G hr rfl D.g D.F.kp D.b .nil pass0 (pa_cons (pv 0) (pa_cons pe_int pa_nil))))
      (pss_cons (ps_set (i := 4) scNam.nd rfl (Or.inl rfl) (pe_ix ix_str (pv 2) (pe_call G hr rfl D.g D.F.kp D.b .nil pass0 (pa_cons (pv 0) (pa_cons pe_int pa_nil))) (fun _ _ => rfl)))
      (pss_cons (ps_for PassesOwn.never rfl (pi_range1 rfl T.range (pa_cons (pe_call G hr rfl D.g D.F.kp D.b .nil pass0 (pa_cons (pv 0) (pa_cons pe_int pa_nil))) pa_nil)) (pg_name (i := 5) scNam.nd rfl (Or.inl rfl)) (pss_one (ps_set (i := 4) scNam.nd rfl (Or.inl rfl) (pe_op op_add_str (pv 4) (pe_ix ix_str (pv 2) (pe_call G hr rfl D.g D.F.kp D.b .nil pass0 (pa_cons (pv 0) (pa_cons pe_int pa_nil))) (fun _ _ => rfl))))))
      (pss_cons (ps_if (pt_cmpR op_eq (pv 3) pe_int (nomark _)) (pss_one (ps_set (i := 4) scNam.nd rfl (Or.inl rfl) (pe_ix ix_list (pe_lst (pa_cons pe_str (pa_cons pe_str (pa_cons pe_str (pa_cons pe_str pa_nil))))) (pe_call G hr rfl D.g D.F.kp D.b .nil pass0 (pa_cons (pv 0) (pa_cons pe_int pa_nil))) (fun _ _ => rfl)))) pss_nil)
      (pss_cons (ps_set (i := 6) scNam.nd rfl (Or.inl rfl) (pv 4))
      (pss_cons (ps_set (i := 7) scNam.nd rfl (Or.inl rfl) pe_int)
      (pss_cons (ps_while PassesOwn.never (pt_cmpR op_in_seq (pv 6) (pv 1) (by rfl)) (pss_cons (ps_set (i := 7) scNam.nd rfl (Or.inl rfl) (pe_op op_add (pv 7) pe_int))
      (pss_one (ps_set (i := 6) scNam.nd rfl (Or.inl rfl) (pe_op op_add_str (pv 4) (pe_callTy call_str_int (by rfl) tstr (by decide +kernel) (pa_cons (pv 7) pa_nil)))))))
      (pss_one (ps_ret (pv 6))))))))))), ?_⟩
    refine ⟨_, rfl, p, _, rfl, hS, by decide, by decide, fun d1 H1 a1 b1 B1 S1 => ?_⟩
    refine ⟨_, rfl, _, rfl, p, _, rfl, S1, by decide, by decide, fun d2 H2 a2 b2 B2 S2 => ?_⟩
    refine rdItem abc36_len a2 (by omega) (by decide) fun c hc => ?_
    have hc' : lowC c := abc_low (by omega) hc
    refine ⟨_, rfl, p, _, rfl, S2, by decide, by decide, fun d3 H3 a3 b3 B3 S3 => ?_⟩
    refine ⟨d3, rfl, by omega, by omega, ?_⟩
    refine for_range (n := d3.toNat) (fun i σ H' => ∃ (z : Str) (v : Option V), σ = [some (.ref p), some (.ref ln), some (.str ABC36), some (.int d1), some (.str z), v, none, none] ∧ z.length ≤ i + 1 ∧ NmP z ∧ But p H H' ∧ StOk H' p)
      ⟨⟨#[c]⟩, none, rfl, Nat.le_refl _, NmP.one hc', (B1.trans B2).trans B3, S3⟩ ?_ ?_
    · rintro i σ H' hi ⟨z, v, rfl, hz, hp, B, S⟩
      refine ⟨_, rfl, _, rfl, _, rfl, p, _, rfl, S, by decide, by decide, fun d5 H5 a5 b5 B5 S5 => ?_⟩
      refine rdItem abc36_len a5 (by omega) (by decide) fun c hc => ?_
      refine ⟨_, _, rfl, rfl, ?_, ?_⟩
      · rw [len_one]
        exact Nat.le_trans (show z.length + 1 ≤ 100 by omega) (by decide)
      · refine ⟨_, _, rfl, ?_, hp.app (fun d hd => ?_), B.trans B5, S5⟩
        · rw [len_app, len_one]
          omega
        · have e : d = c := by simpa using hd
          rw [e]
          exact abc_any hc
    · rintro σ H4 ⟨z, v, rfl, hz, hp, B, S⟩
      refine ⟨_, rfl, rfl, _, rfl, ?_⟩
      refine ite2 (fun _ => ?_) (fun _ => ?_)
      · refine ⟨by show 4 ≤ sizeLine; decide, fun l nl => ?_⟩
        have nlq := st_free S nl
        refine ⟨_, rfl, p, _, rfl, S.upd nlq, by decide, by decide, fun d6 H6 a6 b6 B6 S6 => ?_⟩
        have hq : ∀ z ∈ (["m1", "m2", "m3", "m10"] : List Str), (∃ c cs, z.cps.toList = c :: cs ∧ (97 ≤ c ∧ c ≤ 122) ∧ ∀ d ∈ cs, (97 ≤ d ∧ d ≤ 122) ∨ (48 ≤ d ∧ d ≤ 57)) ∧ z.length ≤ 4 := by
          intro z hz
          rcases List.mem_cons.mp hz with e | hz
          · rw [e]; exact ⟨⟨109, [49], by decide +kernel, by decide, by decide⟩, by decide +kernel⟩
          rcases List.mem_cons.mp hz with e | hz
          · rw [e]; exact ⟨⟨109, [50], by decide +kernel, by decide, by decide⟩, by decide +kernel⟩
          rcases List.mem_cons.mp hz with e | hz
          · rw [e]; exact ⟨⟨109, [51], by decide +kernel, by decide, by decide⟩, by decide +kernel⟩
          rcases List.mem_cons.mp hz with e | hz
          · rw [e]; exact ⟨⟨109, [49, 48], by decide +kernel, by decide, by decide⟩, by decide +kernel⟩
          cases hz
        have hj : d6.toNat < (["m1", "m2", "m3", "m10"] : List Str).length := by show _ < 4; omega
        refine rdList (B6 l _ nlq upd_same) (j := d6.toNat) (v := .str ((["m1", "m2", "m3", "m10"] : List Str)[d6.toNat])) (by omega) ?_ ?_
        · have e : ((["m1", "m2", "m3", "m10"] : List Str).map V.str)[d6.toNat]? = some (.str ((["m1", "m2", "m3", "m10"] : List Str)[d6.toNat])) := by
            rw [List.getElem?_map, List.getElem?_eq_getElem hj]
            rfl
          exact e
        · have hh := hq _ (List.getElem_mem hj)
          generalize (["m1", "m2", "m3", "m10"] : List Str)[d6.toNat] = zz at hh
          have hzz : NmP zz := hh.1
          have hzl : zz.length ≤ 4 := hh.2
          have BB : But p H H6 := (but_new B nlq ((B.free nlq nl))).trans B6
          have SS : StOk H6 p := S6
          clear hh hq hj B6 S6 B S hz hp nl
          revert zz
          intro zz hzz hzl
          refine ⟨_, rfl, ?_⟩
          have hTT : H6 ln = some (.lst (taken.map V.str)) := BB ln _ nlp hT
          refine while_by (fun σ H' => H' = H6 ∧ ∃ n : Nat, σ = [some (.ref p), some (.ref ln), some (.str ABC36), some (.int d1), some (.str zz), v, some (.str (tryS zz n)), some (.int (n : Int))] ∧ n ≤ 60 ∧ ∀ i, i < n → tryS zz i ∈ taken) (fun σ _ => mu7 σ)
            ⟨rfl, 0, rfl, Nat.zero_le _, fun i hi => absurd hi (Nat.not_lt_zero i)⟩ ?_ ?_
          · rintro σ H' ⟨rfl, n, rfl, hn, hall⟩
            refine ⟨_, rfl, _, rfl, ln, _, rfl, .inl (SqL.of hTT), rfl, flats taken, _, rfl, ?_⟩
            show if inV (.str (tryS zz n)) (taken.map V.str) = true then _ else _
            rw [inV_strs]
            by_cases hm : tryS zz n ∈ taken
            · rw [decide_eq_true hm]
              refine iteT ?_
              have hall' : ∀ i, i < n + 1 → tryS zz i ∈ taken := fun i hi => by
                by_cases e : i = n
                · rw [e]
                  exact hm
                · exact hall i (by omega)
              have hle := try_end hl hall' (by omega)
              refine ⟨_, rfl, _, _, rfl, rfl, ?_⟩
              refine ⟨_, rfl, _, rfl, _, rfl, log_small (by omega), _, _, rfl, rfl, ?_, ?_⟩
              · have q := num_sign (n := n + 1) (by omega)
                exact Nat.le_trans (show zz.length + (numS (n + 1)).length ≤ 100 by omega) (by decide)
              · refine ⟨⟨rfl, n + 1, rfl, by omega, hall'⟩, ?_⟩
                show 100 - ((n : Int) + 1).toNat < 100 - (n : Int).toNat
                omega
            · rw [decide_eq_false hm]
              refine iteF ?_
              exact ⟨_, rfl, k _ _ (try_nm hzz hzl hn).1 (try_nm hzz hzl hn).2 hm BB SS⟩
          · intro σ H' Q1 Q2 f h
            obtain ⟨x, e1, y, e2, p', xs, e3, a, b, c, bb, e4, q⟩ := h
            exact ⟨x, e1, y, e2, p', xs, e3, a, b, c, bb, e4, f _ _ q⟩
      · have hzz : NmP z := hp
        have hzl : z.length ≤ 4 := by omega
        have BB : But p H H4 := B
        have SS : StOk H4 p := S
        refine ⟨_, rfl, ?_⟩
        have hTT : H4 ln = some (.lst (taken.map V.str)) := BB ln _ nlp hT
        refine while_by (fun σ H' => H' = H4 ∧ ∃ n : Nat, σ = [some (.ref p), some (.ref ln), some (.str ABC36), some (.int d1), some (.str z), v, some (.str (tryS z n)), some (.int (n : Int))] ∧ n ≤ 60 ∧ ∀ i, i < n → tryS z i ∈ taken) (fun σ _ => mu7 σ)
          ⟨rfl, 0, rfl, Nat.zero_le _, fun i hi => absurd hi (Nat.not_lt_zero i)⟩ ?_ ?_
        · rintro σ H' ⟨rfl, n, rfl, hn, hall⟩
          refine ⟨_, rfl, _, rfl, ln, _, rfl, .inl (SqL.of hTT), rfl, flats taken, _, rfl, ?_⟩
          show if inV (.str (tryS z n)) (taken.map V.str) = true then _ else _
          rw [inV_strs]
          by_cases hm : tryS z n ∈ taken
          · rw [decide_eq_true hm]
            refine iteT ?_
            have hall' : ∀ i, i < n + 1 → tryS z i ∈ taken := fun i hi => by
              by_cases e : i = n
              · rw [e]
                exact hm
              · exact hall i (by omega)
            have hle := try_end hl hall' (by omega)
            refine ⟨_, rfl, _, _, rfl, rfl, ?_⟩
            refine ⟨_, rfl, _, rfl, _, rfl, log_small (by omega), _, _, rfl, rfl, ?_, ?_⟩
            · have q := num_sign (n := n + 1) (by omega)
              exact Nat.le_trans (show z.length + (numS (n + 1)).length ≤ 100 by omega) (by decide)
            · refine ⟨⟨rfl, n + 1, rfl, by omega, hall'⟩, ?_⟩
              show 100 - ((n : Int) + 1).toNat < 100 - (n : Int).toNat
              omega
          · rw [decide_eq_false hm]
            refine iteF ?_
            exact ⟨_, rfl, k _ _ (try_nm hzz hzl hn).1 (try_nm hzz hzl hn).2 hm BB SS⟩
        · intro σ H' Q1 Q2 f h
          obtain ⟨x, e1, y, e2, p', xs, e3, a, b, c, bb, e4, q⟩ := h
          exact ⟨x, e1, y, e2, p', xs, e3, a, b, c, bb, e4, f _ _ q⟩
theorem scNms : FnScope ["_law_s", "_law_many", "_law_found", "_law_k"] ["_law_s", "_law_many"] (defScope sNms) := ⟨rfl, rfl, rfl, by decide +kernel, rfl, by decide +kernel, by decide +kernel⟩
theorem ok_nms {f fL : Addr} {fd dL : FuncData} (F : Fun K "_law_names" "_law_names" sNms f fd) (T : TxB mg) (D : Dn K mg "_law_name" sNam ["_law_s", "_law_taken"] fL dL) (G : FnOk P w K mg base CX0 2 fL dL ["_law_s", "_law_taken"] spNam) : FnOk P w K mg base CX0 3 f fd ["_law_s", "_law_many"] spNms := by
  refine F.ok scNms (fun vs H Q E h => ?_) (fun cdv A outer s H vs Q E hr h => ?_)
  · obtain ⟨p, n, rfl, _⟩ := h
    rfl
  · obtain ⟨p, n, rfl, hS, n0, n6, k⟩ := h
    refine ⟨_, (pss_cons (ps_set (i := 2) scNms.nd rfl (Or.inl rfl) (pe_lst pa_nil))
      (pss_cons (ps_for PassesOwn.never rfl (pi_range1 rfl T.range (pa_cons (pv 1) pa_nil)) (pg_name (i := 3) scNms.nd rfl (Or.inl rfl)) (pss_one (ps_expr (pe_bm PySem.F.plainAttrs_list PySem.F.slot_list_append PySem.F.type_list_append mt_append (pv 2) (pa_cons (pe_call G hr rfl D.g D.F.kp D.b .nil pass0 (pa_cons (pv 0) (pa_cons (pv 2) pa_nil))) pa_nil)))))
      (pss_one (ps_ret (pv 2))))), ?_⟩
    refine ⟨Nat.zero_le _, fun d hd => ?_⟩
    have ndp := st_free hS hd
    refine ⟨_, rfl, n, rfl, by omega, by omega, ?_⟩
    refine for_range (n := n.toNat) (fun i σ H' => (∃ u, σ = [some (.ref p), some (.int n), some (.ref d), u]) ∧ ∃ zs : List Str, H' d = some (.lst (zs.map V.str)) ∧ zs.Nodup ∧ (∀ z ∈ zs, NmP z ∧ z.length ≤ 6) ∧ zs.length = i ∧ But p H H' ∧ StOk H' p)
      ⟨⟨none, rfl⟩, [], upd_same, List.nodup_nil, fun z hz => (List.not_mem_nil hz).elim, rfl, but_new (But.refl p H) ndp hd, hS.upd ndp⟩ ?_ ?_
    · rintro i σ H1 hi ⟨⟨u, rfl⟩, zs, hl, nd, nm, len, B, S⟩
      refine ⟨_, rfl, .inl ⟨rfl, _, SqL.of hl⟩, _, rfl, _, rfl, p, d, zs, rfl, S, ndp, hl, by omega, fun z H2 hz hz6 hm B2 S2 => ?_⟩
      have hl2 := B2 d _ ndp hl
      refine ⟨d, _, _, rfl, rfl, hl2, ?_, ?_⟩
      · rw [List.length_map]
        exact Nat.lt_of_le_of_lt (show _ ≤ 1000 by omega) (by decide)
      · refine ⟨⟨_, rfl⟩, zs ++ [z], ?_, ?_, ?_, ?_, but_new (B.trans B2) ndp hd, S2.upd ndp⟩
        · rw [upd_same, List.map_append]
          rfl
        · rw [List.nodup_append]
          exact ⟨nd, (by simp : [z].Nodup), fun a ha b hb e => by
            have eb : b = z := by simpa using hb
            rw [e, eb] at ha
            exact hm ha⟩
        · intro y hy
          rcases List.mem_append.mp hy with hy | hy
          · exact nm y hy
          · rw [List.mem_singleton.mp hy]
            exact ⟨hz, hz6⟩
        · rw [List.length_append, List.length_singleton]
          omega
    · rintro σ H1 ⟨⟨u, rfl⟩, zs, hl, nd, nm, len, B, S⟩
      exact ⟨_, rfl, k zs d H1 hd ndp B S hl len nd nm⟩
end
end Wm
namespace Wm
open PySem L2 StX
/-! ### what is never walked -/
def tNo : TE := fun _ _ _ => False
theorem pe_never {X : Cx} {e : Expr} : PE X e tNo := ⟨fun _ _ _ _ _ _ h => h.elim⟩
theorem for_nil {K : PySem.W.Frag} {a : Addr} {g : TG} {tb : TS} {D : Ends} {σ : L2.St} {H : Hp} (hl : SqL K H a []) (h : D.nx σ H) :
    ∃ W : Nat → Nat → L2.St → Hp → Prop, (∃ m, W 0 m σ H) ∧ ∀ i m σ H, W i m σ H →
      ((Itl K a).stop i H ∧ D.nx σ H) ∨ ((Itl K a).go i H ∧ ∃ N : L2.St → Hp → Prop, (∀ σ' H', N σ' H' → ∃ m', m' < m ∧ W (i + 1) m' σ' H') ∧ ∀ x H', (Itl K a).yld i H x H' → g x σ H' fun σ2 H2 => tb { D with nx := N, ct := N, bk := D.nx } σ2 H2) :=
  for_list (K := K) (a := a) (xs := []) (fun _ σ' H' => σ' = σ ∧ H' = H) ⟨rfl, rfl⟩ (fun i σ' H' _ p => by rw [p.2]; exact hl) (fun i x σ' H' e _ => by simp at e) (fun σ' H' p => by rw [p.1, p.2]; exact h)
/-- names in a row, of which the program refuses none -/
structure Row (zs : List Str) : Prop where
  nm : ∀ z ∈ zs, isNm z = true ∧ z.length ≤ 12
  nd : zs.Nodup
theorem Row.noTw {zs : List Str} (h : Row zs) : NoTw (zs.map V.str) := fun i x e => by
  rw [List.getElem?_map] at e
  obtain ⟨z, ez, rfl⟩ := Option.map_eq_some_iff.mp e
  rw [← List.map_take, inV_strs]
  refine decide_eq_false fun hm => ?_
  obtain ⟨j, hj⟩ := List.mem_iff_getElem?.mp hm
  have hlt : j < i := by
    have q := (List.getElem?_eq_some_iff.mp hj).1
    rw [List.length_take] at q
    omega
  rw [List.getElem?_take_of_lt hlt] at hj
  have hil := (List.getElem?_eq_some_iff.mp ez).1
  have e1 := (List.getElem?_eq_some_iff.mp ez).2
  have hjl := (List.getElem?_eq_some_iff.mp hj).1
  have e2 := (List.getElem?_eq_some_iff.mp hj).2
  exact (List.pairwise_iff_getElem.mp h.nd) j i hjl hil hlt (e2.trans e1.symm)
theorem noTw_nil : NoTw [] := fun i x e => by simp at e
structure TxS (mg : Str → Option Value) : Prop where
  so : ∃ t, mg "MOST_SORTS" = some (.int 4 t)
  wo : ∃ t, mg "MOST_WORDS" = some (.int 5 t)
  ru : ∃ t, mg "MOST_RULES" = some (.int 8 t)
  ba : ∃ t, mg "MOST_BARS" = some (.int 4 t)
def spRNv (K : PySem.W.Frag) : Sp := fun vs H Q _ => ∃ (l : Addr) (zs : List Str), vs = [.ref l] ∧ SqL K H l (zs.map V.str) ∧ (∀ z ∈ zs, isNm z = true ∧ z.length ≤ 12) ∧ ∀ H', Same H H' → Q .non H'
def spE1L (K : PySem.W.Frag) : Sp := fun vs H Q _ => ∃ (m : Addr), vs = [.ref m] ∧ SqL K H m [] ∧ ∀ H', Same H H' → Q .non H'
def spE3L (K : PySem.W.Frag) : Sp := fun vs H Q _ => ∃ (s m p : Addr), vs = [.ref s, .ref m, .ref p] ∧ SqL K H m [] ∧ SqL K H p [] ∧ ∀ H', Same H H' → Q .non H'
def spE2L (K : PySem.W.Frag) : Sp := fun vs H Q _ => ∃ (s m : Addr), vs = [.ref s, .ref m] ∧ SqL K H m [] ∧ ∀ H', Same H H' → Q .non H'
def spE4L (K : PySem.W.Frag) : Sp := fun vs H Q _ => ∃ (s m r b : Addr), vs = [.ref s, .ref m, .ref r, .ref b] ∧ SqL K H m [] ∧ SqL K H r [] ∧ SqL K H b [] ∧ ∀ H', Same H H' → Q .non H'
def spOL : Sp := fun vs H Q _ => vs = [.non] ∧ ∀ d, H d = none → Q (.ref d) (upd H d (.lst []))
def spCS (K : PySem.W.Frag) : Sp := fun vs H Q _ => ∃ (s w m r b : Addr) (ss ws : List Str), vs = [.ref s, .ref w, .ref m, .ref r, .ref b] ∧ SqL K H s (ss.map V.str) ∧ SqL K H w (ws.map V.str) ∧ SqL K H m [] ∧ SqL K H r [] ∧ SqL K H b [] ∧
  Row ss ∧ Row ws ∧ 1 ≤ ss.length ∧ ss.length ≤ 4 ∧ 1 ≤ ws.length ∧ ws.length ≤ 5 ∧ ∀ H', Same H H' → Q .non H'
def schF (l1 l2 l3 l4 l5 : Addr) : List (Str × V) := putF "own_bars" (.ref l5) (putF "own_rules" (.ref l4) (putF "own_makings" (.ref l3) (putF "own_words" (.ref l2) (putF "own_sorts" (.ref l1) []))))
theorem putF_len (f : Str) (v : V) (fs : List (Str × V)) : (putF f v fs).length ≤ fs.length + 1 := length_putF f v fs
theorem lookF {f : Str} {v : V} {fs : List (Str × V)} : (putF f v fs).lookup f = some v := by rw [lookup_putF, if_pos rfl]
theorem lookN {f g : Str} {v : V} {fs : List (Str × V)} (h : ¬ g = f) : (putF f v fs).lookup g = fs.lookup g := by rw [lookup_putF, if_neg h]
theorem schF_so (l1 l2 l3 l4 l5 : Addr) : (schF l1 l2 l3 l4 l5).lookup ("own_sorts" : Str) = some (.ref l1) := by
  unfold schF
  rw [lookN (by decide +kernel), lookN (by decide +kernel), lookN (by decide +kernel), lookN (by decide +kernel), lookF]
theorem schF_wo (l1 l2 l3 l4 l5 : Addr) : (schF l1 l2 l3 l4 l5).lookup ("own_words" : Str) = some (.ref l2) := by
  unfold schF
  rw [lookN (by decide +kernel), lookN (by decide +kernel), lookN (by decide +kernel), lookF]
structure TxSch (K : PySem.W.Frag) (mg : Str → Option Value) (S fS : Addr) : Prop where
  cl : Cls K S
  n1 : NoAttr K S "own_sorts"
  n2 : NoAttr K S "own_words"
  n3 : NoAttr K S "own_makings"
  n4 : NoAttr K S "own_rules"
  n5 : NoAttr K S "own_bars"
  g : mg "Scheme" = some (.ref S)
  m : Mk K S fS
/-- a scheme at x, of these sorts and words -/
structure SchAt (S : Addr) (H : Hp) (x : Addr) (ss ws : List Str) : Prop where
  ex : ∃ dx l1 l2 l3 l4 l5, H x = some (.ins S dx (schF l1 l2 l3 l4 l5)) ∧ H l1 = some (.lst (ss.map V.str)) ∧ H l2 = some (.lst (ws.map V.str))
def spSch (K : PySem.W.Frag) (S : Addr) : Sp := fun vs H Q _ => ∃ (H0 : Hp) (x dx s w : Addr) (ss ws : List Str), vs = [.ref x, .ref s, .ref w, .non, .non, .non] ∧ Same H0 H ∧ H0 x = none ∧ H x = some (.ins S dx []) ∧ SqL K H0 s (ss.map V.str) ∧ SqL K H0 w (ws.map V.str) ∧
  Row ss ∧ Row ws ∧ 1 ≤ ss.length ∧ ss.length ≤ 4 ∧ 1 ≤ ws.length ∧ ws.length ≤ 5 ∧ ∀ H', Same H0 H' → SchAt S H' x ss ws → Q .non H'
section
variable {P : Program} {w : World} {K : PySem.W.Frag} {mg : Str → Option Value} {base : Heap}
theorem scRN : FnScope ["texts", "text"] ["texts"] (defScope sRN) := ⟨rfl, rfl, rfl, by decide +kernel, rfl, by decide +kernel, by decide +kernel⟩
theorem ok_rnv {f fN : Addr} {fd fdN : FuncData} (F : Fun K "refuse_no_name" "refuse_no_name" sRN f fd) (D : Dn K mg "is_name" sName ["text"] fN fdN) (GN : FnOk P w K mg base CX0 1 fN fdN ["text"] spName) : FnOk P w K mg base CX0 2 f fd ["texts"] (spRNv K) := by
  refine F.ok scRN (fun vs H Q E h => ?_) (fun cdv A outer s H vs Q E hr h => ?_)
  · obtain ⟨l, zs, rfl, _⟩ := h
    rfl
  · obtain ⟨l, zs, rfl, hl, hn, k⟩ := h
    refine ⟨_, (pss_one (ps_for PassesOwn.never rfl (pi_list (pv 0)) (pg_name (i := 1) scRN.nd rfl (Or.inl rfl)) (pss_one (ps_if (pt_not (pt_val (pe_call GN hr rfl D.g D.F.kp D.b .nil pass0 (pa_cons (pv 1) pa_nil)))) (pss_one ps_never) pss_nil)))), ?_⟩
    refine ⟨_, rfl, l, rfl, ⟨_, hl⟩, for_list (K := K) (a := l) (xs := zs.map V.str) (fun i σ H' => (∃ v, σ = [some (.ref l), v]) ∧ Same H H') ⟨⟨none, rfl⟩, Same.refl H⟩ (fun i σ H' _ p => p.2.seq hl) ?_ (fun σ H' p => k H' p.2)⟩
    rintro i y σ H' hi ⟨⟨v, rfl⟩, hS⟩
    rw [List.getElem?_map] at hi
    obtain ⟨z, hz, rfl⟩ := Option.map_eq_some_iff.mp hi
    have hq := hn z (List.mem_of_getElem? hz)
    refine ⟨_, rfl, z, rfl, Nat.le_trans hq.2 (by decide), fun H2 hS2 => ⟨_, rfl, ?_⟩⟩
    rw [hq.1]
    exact iteF ⟨⟨_, rfl⟩, hS.trans hS2⟩
theorem scRMT : FnScope ["makings", "pairs", "place", "making"] ["makings"] (defScope sRMT) := ⟨rfl, rfl, rfl, by decide +kernel, rfl, by decide +kernel, by decide +kernel⟩
theorem lc_nil {a : Addr} {g : TG} {tt : TT} {te : TE} {vs : List Nat} {σ : L2.St} {H1 : Hp} {D : Addr} {Qd : Hp → Prop} (hl : SqL K H1 a []) (hD : H1 D = none) (h : Qd (upd H1 D (.lst []))) :
    ∃ W : Nat → Nat → Hp → Prop, (∃ m, W 0 m (upd H1 D (.lst []))) ∧ ∀ i m H, W i m H →
      ((Itl K a).stop i H ∧ Qd H) ∨ ((Itl K a).go i H ∧ ∃ Nx : Hp → Prop, (∀ H', Nx H' → ∃ m', m' < m ∧ W (i + 1) m' H') ∧ ∀ x H', (Itl K a).yld i H x H' → g x (wipe σ vs) H' fun σ2 H2 => wipe σ2 vs = wipe σ vs ∧ tt σ2 H2 fun b H3 =>
        if b = true then te σ2 H3 fun y H4 => ∃ acc, H4 D = some (.lst acc) ∧ acc.length < sizeLine ∧ Nx (upd H4 D (.lst (acc ++ [y]))) else Nx H3) :=
  lc_list (K := K) (a := a) (xs := []) (fun _ H' => H' = upd H1 D (.lst [])) rfl (fun i H' _ p => by rw [p]; exact (Same.upd hD).seq hl) (fun i x H' e _ => by simp at e) (fun H' p => by rw [p]; exact h)
theorem ok_rmt {f fF : Addr} {fd fdF : FuncData} (F : Fun K "refuse_makings_twice" "refuse_makings_twice" sRMT f fd) (T : TxB mg) (D : Dn K mg "first_twice" sFT ["row"] fF fdF) : FnOk P w K mg base CX0 2 f fd ["makings"] (spE1L K) := by
  have G : FnOk P w K mg base CX0 1 fF fdF ["row"] (spFT K) := ok_ft D.F T
  refine F.ok scRMT (fun vs H Q E h => ?_) (fun cdv A outer s H vs Q E hr h => ?_)
  · obtain ⟨m, rfl, _⟩ := h
    rfl
  · obtain ⟨m, rfl, hm, k⟩ := h
    refine ⟨_, (pss_cons (ps_setLc (i := 1) (own := [("making", 3)]) (g := gName 3) (te := tNo) rfl scRMT.nd rfl rfl (sw_true rfl rfl rfl (by decide +kernel)) (pi_list (pv 0)) (blkOk_by (N := ["makings", "pairs", "place", "making"]) (sc := defScope sRMT) (by decide +kernel)) (fun _ _ _ _ _ => (pg_name (i := 3) scRMT.nd rfl (Or.inl rfl))) (fun _ _ _ _ _ => pts_nil) (fun _ _ _ _ _ => pe_never))
      (pss_cons (ps_set (i := 2) scRMT.nd rfl (Or.inl rfl) (pe_call G hr rfl D.g D.F.kp D.b .nil pass0 (pa_cons (pv 1) pa_nil)))
      (pss_one (ps_if (pt_cmp (pc_notN (pv 2))) (pss_one ps_never) pss_nil)))), ?_⟩
    refine ⟨_, rfl, m, rfl, ⟨_, hm⟩, fun D hD => lc_nil hm hD ?_⟩
    refine ⟨_, rfl, D, [], rfl, .inl (SqL.of upd_same), rfl, noTw_nil, fun H' hS => ?_⟩
    refine ⟨_, rfl, _, rfl, ?_⟩
    exact iteF (k H' ((Same.upd hD).trans hS))
theorem scRNS : FnScope ["sorts", "makings", "patterns", "asked", "making", "pattern", "name"] ["sorts", "makings", "patterns"] (defScope sRNS) := ⟨rfl, rfl, rfl, by decide +kernel, rfl, by decide +kernel, by decide +kernel⟩
theorem ok_rns {f : Addr} {fd : FuncData} (F : Fun K "refuse_no_sort" "refuse_no_sort" sRNS f fd) : FnOk P w K mg base CX0 1 f fd ["sorts", "makings", "patterns"] (spE3L K) := by
  refine F.ok scRNS (fun vs H Q E h => ?_) (fun cdv A outer s H vs Q E hr h => ?_)
  · obtain ⟨s, m, p, rfl, _⟩ := h
    rfl
  · obtain ⟨s, m, p, rfl, hm, hp, k⟩ := h
    refine ⟨_, (pss_cons (ps_set (i := 3) scRNS.nd rfl (Or.inl rfl) (pe_lst pa_nil))
      (pss_cons (ps_for PassesOwn.never rfl (pi_list (pv 1)) (pg_name (i := 4) scRNS.nd rfl (Or.inl rfl)) (pss_one ps_never))
      (pss_cons (ps_for PassesOwn.never rfl (pi_list (pv 2)) (pg_name (i := 5) scRNS.nd rfl (Or.inl rfl)) (pss_one ps_never))
      (pss_one (ps_for PassesOwn.never rfl (pi_list (pv 3)) (pg_name (i := 6) scRNS.nd rfl (Or.inl rfl)) (pss_one ps_never)))))), ?_⟩
    refine ⟨Nat.zero_le _, fun d hd => ?_⟩
    have S := Same.upd (o := .lst []) hd
    refine ⟨_, rfl, m, rfl, ⟨_, S.seq hm⟩, for_nil (S.seq hm) ?_⟩
    refine ⟨_, rfl, p, rfl, ⟨_, S.seq hp⟩, for_nil (S.seq hp) ?_⟩
    exact ⟨_, rfl, d, rfl, ⟨_, SqL.of upd_same⟩, for_nil (SqL.of upd_same) (k _ S)⟩
theorem scRU : FnScope ["sorts", "makings", "making"] ["sorts", "makings"] (defScope sRU) := ⟨rfl, rfl, rfl, by decide +kernel, rfl, by decide +kernel, by decide +kernel⟩
theorem ok_ru {f : Addr} {fd : FuncData} (F : Fun K "refuse_upward" "refuse_upward" sRU f fd) : FnOk P w K mg base CX0 1 f fd ["sorts", "makings"] (spE2L K) := by
  refine F.ok scRU (fun vs H Q E h => ?_) (fun cdv A outer s H vs Q E hr h => ?_)
  · obtain ⟨s, m, rfl, _⟩ := h
    rfl
  · obtain ⟨s, m, rfl, hm, k⟩ := h
    refine ⟨_, (pss_one (ps_for PassesOwn.never rfl (pi_list (pv 1)) (pg_name (i := 2) scRU.nd rfl (Or.inl rfl)) (pss_one ps_never))), ?_⟩
    exact ⟨_, rfl, m, rfl, ⟨_, hm⟩, for_nil hm (k _ (Same.refl H))⟩
theorem scRNW : FnScope ["words", "makings", "rules", "bars", "asked", "making", "rule", "bar", "name"] ["words", "makings", "rules", "bars"] (defScope sRNW) := ⟨rfl, rfl, rfl, by decide +kernel, rfl, by decide +kernel, by decide +kernel⟩
theorem ok_rnw {f : Addr} {fd : FuncData} (F : Fun K "refuse_no_word" "refuse_no_word" sRNW f fd) : FnOk P w K mg base CX0 1 f fd ["words", "makings", "rules", "bars"] (spE4L K) := by
  refine F.ok scRNW (fun vs H Q E h => ?_) (fun cdv A outer s H vs Q E hr h => ?_)
  · obtain ⟨s, m, r, b, rfl, _⟩ := h
    rfl
  · obtain ⟨s, m, r, b, rfl, hm, hr', hb, k⟩ := h
    refine ⟨_, (pss_cons (ps_set (i := 4) scRNW.nd rfl (Or.inl rfl) (pe_lst pa_nil))
      (pss_cons (ps_for PassesOwn.never rfl (pi_list (pv 1)) (pg_name (i := 5) scRNW.nd rfl (Or.inl rfl)) (pss_one ps_never))
      (pss_cons (ps_for PassesOwn.never rfl (pi_list (pv 2)) (pg_name (i := 6) scRNW.nd rfl (Or.inl rfl)) (pss_one ps_never))
      (pss_cons (ps_for PassesOwn.never rfl (pi_list (pv 3)) (pg_name (i := 7) scRNW.nd rfl (Or.inl rfl)) (pss_one ps_never))
      (pss_one (ps_for PassesOwn.never rfl (pi_list (pv 4)) (pg_name (i := 8) scRNW.nd rfl (Or.inl rfl)) (pss_one ps_never))))))), ?_⟩
    refine ⟨Nat.zero_le _, fun d hd => ?_⟩
    have S := Same.upd (o := .lst []) hd
    refine ⟨_, rfl, m, rfl, ⟨_, S.seq hm⟩, for_nil (S.seq hm) ?_⟩
    refine ⟨_, rfl, r, rfl, ⟨_, S.seq hr'⟩, for_nil (S.seq hr') ?_⟩
    refine ⟨_, rfl, b, rfl, ⟨_, S.seq hb⟩, for_nil (S.seq hb) ?_⟩
    exact ⟨_, rfl, d, rfl, ⟨_, SqL.of upd_same⟩, for_nil (SqL.of upd_same) (k _ S)⟩
theorem scOL : FnScope ["rows"] ["rows"] (defScope sOL) := ⟨rfl, rfl, rfl, by decide +kernel, rfl, by decide +kernel, by decide +kernel⟩
theorem ok_ol {f : Addr} {fd : FuncData} (F : Fun K "own_list" "own_list" sOL f fd) : FnOk P w K mg base CX0 1 f fd ["rows"] spOL := by
  refine F.ok scOL (fun vs H Q E h => ?_) (fun cdv A outer s H vs Q E hr h => ?_)
  · obtain ⟨rfl, _⟩ := h
    rfl
  · obtain ⟨rfl, k⟩ := h
    refine ⟨_, (pss_cons (ps_if (pt_cmp (pc_isN (pv 0))) (pss_one (ps_ret (pe_lst pa_nil))) pss_nil) (pss_one ps_never)), ?_⟩
    refine ⟨_, rfl, _, rfl, ?_⟩
    exact iteT ⟨Nat.zero_le _, fun d hd => k d hd⟩
theorem scCS : FnScope ["sorts", "words", "makings", "rules", "bars", "rule", "bar"] ["sorts", "words", "makings", "rules", "bars"] (defScope sCS) := ⟨rfl, rfl, rfl, by decide +kernel, rfl, by decide +kernel, by decide +kernel⟩
theorem ok_cs {f fRC fRN fRT fRM fNS fRU fNW : Addr} {fd dRC dRN dRT dRM dNS dRU dNW : FuncData} (F : Fun K "check_scheme" "check_scheme" sCS f fd) (T : TxB mg) (TS : TxS mg)
    (DC : Dn K mg "refuse_count" sRC ["what", "count", "least", "most"] fRC dRC) (DN : Dn K mg "refuse_no_name" sRN ["texts"] fRN dRN) (DT : Dn K mg "refuse_twice" sRT ["names"] fRT dRT) (DM : Dn K mg "refuse_makings_twice" sRMT ["makings"] fRM dRM) (DS : Dn K mg "refuse_no_sort" sRNS ["sorts", "makings", "patterns"] fNS dNS) (DU : Dn K mg "refuse_upward" sRU ["sorts", "makings"] fRU dRU) (DW : Dn K mg "refuse_no_word" sRNW ["words", "makings", "rules", "bars"] fNW dNW)
    (GN : FnOk P w K mg base CX0 2 fRN dRN ["texts"] (spRNv K)) (GT : FnOk P w K mg base CX0 2 fRT dRT ["names"] (spFT K)) (GM : FnOk P w K mg base CX0 2 fRM dRM ["makings"] (spE1L K)) : FnOk P w K mg base CX0 3 f fd ["sorts", "words", "makings", "rules", "bars"] (spCS K) := by
  have GC : FnOk P w K mg base CX0 1 fRC dRC _ spRC := ok_rc DC.F
  have GS : FnOk P w K mg base CX0 1 fNS dNS _ (spE3L K) := ok_rns DS.F
  have GU : FnOk P w K mg base CX0 1 fRU dRU _ (spE2L K) := ok_ru DU.F
  have GW : FnOk P w K mg base CX0 1 fNW dNW _ (spE4L K) := ok_rnw DW.F
  refine F.ok scCS (fun vs H Q E h => ?_) (fun cdv A outer s H vs Q E hr h => ?_)
  · obtain ⟨s, w, m, r, b, ss, ws, rfl, _⟩ := h
    rfl
  · obtain ⟨s, w, m, r, b, ss, ws, rfl, hs, hw, hm, hr', hb, rs, rw', s1, s4, w1, w5, k⟩ := h
    have hr1 : Room 1 _ := hr.mono (by decide)
    obtain ⟨t1, g1⟩ := TS.so
    obtain ⟨t2, g2⟩ := TS.wo
    obtain ⟨t3, g3⟩ := TS.ru
    obtain ⟨t4, g4⟩ := TS.ba
    refine ⟨_, (pss_cons (ps_expr (pe_call GC hr1 rfl DC.g DC.F.kp DC.b .nil pass0 (pa_cons pe_str (pa_cons (pe_callB call_len_seq (by rfl) T.len (by decide +kernel) (pa_cons (pv 0) pa_nil)) (pa_cons pe_int (pa_cons (pe_glob (v := .int 4) rfl g1 ⟨t1, rfl⟩) pa_nil))))))
      (pss_cons (ps_expr (pe_call GC hr1 rfl DC.g DC.F.kp DC.b .nil pass0 (pa_cons pe_str (pa_cons (pe_callB call_len_seq (by rfl) T.len (by decide +kernel) (pa_cons (pv 1) pa_nil)) (pa_cons pe_int (pa_cons (pe_glob (v := .int 5) rfl g2 ⟨t2, rfl⟩) pa_nil))))))
      (pss_cons (ps_expr (pe_call GC hr1 rfl DC.g DC.F.kp DC.b .nil pass0 (pa_cons pe_str (pa_cons (pe_callB call_len_seq (by rfl) T.len (by decide +kernel) (pa_cons (pv 3) pa_nil)) (pa_cons pe_int (pa_cons (pe_glob (v := .int 8) rfl g3 ⟨t3, rfl⟩) pa_nil))))))
      (pss_cons (ps_expr (pe_call GC hr1 rfl DC.g DC.F.kp DC.b .nil pass0 (pa_cons pe_str (pa_cons (pe_callB call_len_seq (by rfl) T.len (by decide +kernel) (pa_cons (pv 4) pa_nil)) (pa_cons pe_int (pa_cons (pe_glob (v := .int 4) rfl g4 ⟨t4, rfl⟩) pa_nil))))))
      (pss_cons (ps_expr (pe_call GN hr rfl DN.g DN.F.kp DN.b .nil pass0 (pa_cons (pv 0) pa_nil)))
      (pss_cons (ps_expr (pe_call GN hr rfl DN.g DN.F.kp DN.b .nil pass0 (pa_cons (pv 1) pa_nil)))
      (pss_cons (ps_expr (pe_call GT hr rfl DT.g DT.F.kp DT.b .nil pass0 (pa_cons (pv 0) pa_nil)))
      (pss_cons (ps_expr (pe_call GT hr rfl DT.g DT.F.kp DT.b .nil pass0 (pa_cons (pv 1) pa_nil)))
      (pss_cons (ps_expr (pe_call GM hr rfl DM.g DM.F.kp DM.b .nil pass0 (pa_cons (pv 2) pa_nil)))
      (pss_cons (ps_expr (pe_call GT hr rfl DT.g DT.F.kp DT.b .nil pass0 (pa_cons (pe_lc (own := [("rule", 5)]) (g := gName 5) (te := tNo) rfl scCS.nd (pi_list (pv 3)) (blkOk_by (N := ["sorts", "words", "makings", "rules", "bars", "rule", "bar"]) (sc := defScope sCS) (by decide +kernel)) (fun _ _ _ _ _ => (pg_name (i := 5) scCS.nd rfl (Or.inl rfl))) (fun _ _ _ _ _ => pts_nil) (fun _ _ _ _ _ => pe_never)) pa_nil)))
      (pss_cons (ps_expr (pe_call GT hr rfl DT.g DT.F.kp DT.b .nil pass0 (pa_cons (pe_lc (own := [("bar", 6)]) (g := gName 6) (te := tNo) rfl scCS.nd (pi_list (pv 4)) (blkOk_by (N := ["sorts", "words", "makings", "rules", "bars", "rule", "bar"]) (sc := defScope sCS) (by decide +kernel)) (fun _ _ _ _ _ => (pg_name (i := 6) scCS.nd rfl (Or.inl rfl))) (fun _ _ _ _ _ => pts_nil) (fun _ _ _ _ _ => pe_never)) pa_nil)))
      (pss_cons (ps_expr (pe_call GS hr1 rfl DS.g DS.F.kp DS.b .nil pass0 (pa_cons (pv 0) (pa_cons (pv 2) (pa_cons (pe_lst (pa_star (pv 3) (pa_star (pv 4) pa_nil))) pa_nil)))))
      (pss_cons (ps_expr (pe_call GU hr1 rfl DU.g DU.F.kp DU.b .nil pass0 (pa_cons (pv 0) (pa_cons (pv 2) pa_nil))))
      (pss_one (ps_expr (pe_call GW hr1 rfl DW.g DW.F.kp DW.b .nil pass0 (pa_cons (pv 1) (pa_cons (pv 2) (pa_cons (pv 3) (pa_cons (pv 4) pa_nil)))))))))))))))))))), ?_⟩
    refine ⟨_, rfl, s, _, rfl, .inl hs, _, _, _, _, rfl, by rw [List.length_map]; omega, by rw [List.length_map]; omega, ?_⟩
    refine ⟨_, rfl, w, _, rfl, .inl hw, _, _, _, _, rfl, by rw [List.length_map]; omega, by rw [List.length_map]; omega, ?_⟩
    refine ⟨_, rfl, r, _, rfl, .inl hr', _, _, _, _, rfl, by decide, by decide, ?_⟩
    refine ⟨_, rfl, b, _, rfl, .inl hb, _, _, _, _, rfl, by decide, by decide, ?_⟩
    refine ⟨_, rfl, s, ss, rfl, hs, rs.nm, fun H1 S1 => ?_⟩
    refine ⟨_, rfl, w, ws, rfl, S1.seq hw, rw'.nm, fun H2 S2 => ?_⟩
    have S12 := S1.trans S2
    refine ⟨_, rfl, s, _, rfl, .inl (S12.seq hs), flats ss, rs.noTw, fun H3 S3 => ?_⟩
    have S13 := S12.trans S3
    refine ⟨_, rfl, w, _, rfl, .inl (S13.seq hw), flats ws, rw'.noTw, fun H4 S4 => ?_⟩
    have S14 := S13.trans S4
    refine ⟨_, rfl, m, rfl, S14.seq hm, fun H5 S5 => ?_⟩
    have S15 := S14.trans S5
    refine ⟨_, rfl, r, rfl, ⟨_, S15.seq hr'⟩, fun D hD => lc_nil (S15.seq hr') hD ⟨D, [], rfl, .inl (SqL.of upd_same), rfl, noTw_nil, fun H6 S6 => ?_⟩⟩
    have S16 := (S15.trans (Same.upd hD)).trans S6
    refine ⟨_, rfl, b, rfl, ⟨_, S16.seq hb⟩, fun D2 hD2 => lc_nil (S16.seq hb) hD2 ⟨D2, [], rfl, .inl (SqL.of upd_same), rfl, noTw_nil, fun H7 S7 => ?_⟩⟩
    have S17 := (S16.trans (Same.upd hD2)).trans S7
    refine ⟨_, rfl, _, rfl, _, rfl, r, [], rfl, .inr (S17.seq hr'), _, rfl, b, [], rfl, .inr (S17.seq hb), Nat.zero_le _, fun q hq => ?_⟩
    have S18 := S17.trans (Same.upd (o := .lst []) hq)
    refine ⟨s, m, q, rfl, S18.seq hm, SqL.of upd_same, fun H8 S8 => ?_⟩
    have S19 := S18.trans S8
    refine ⟨_, rfl, _, rfl, s, m, rfl, S19.seq hm, fun H9 S9 => ?_⟩
    have S20 := S19.trans S9
    exact ⟨_, rfl, _, rfl, _, rfl, _, rfl, w, m, r, b, rfl, S20.seq hm, S20.seq hr', S20.seq hb, fun H10 S10 => k H10 (S20.trans S10)⟩
theorem scSch : FnScope ["self", "sorts", "words", "makings", "rules", "bars"] ["self", "sorts", "words", "makings", "rules", "bars"] (defScope sSch) := ⟨rfl, rfl, rfl, by decide +kernel, rfl, by decide +kernel, by decide +kernel⟩
theorem ok_sch {f fO fC S : Addr} {fd dO dC : FuncData} {dvs : List V} (F : FunD K "__init__" "Scheme.__init__" (defArgs sSch) (defBody sSch) (defScope sSch) dvs [] f fd) (tl : mg "list" = none) (TC : TxSch K mg S f) (DO : Dn K mg "own_list" sOL ["rows"] fO dO) (DC : Dn K mg "check_scheme" sCS ["sorts", "words", "makings", "rules", "bars"] fC dC)
    (GC : FnOk P w K mg base CX0 3 fC dC ["sorts", "words", "makings", "rules", "bars"] (spCS K)) : FnOk P w K mg base CX0 4 f fd ["self", "sorts", "words", "makings", "rules", "bars"] (spSch K S) := by
  have GO : FnOk P w K mg base CX0 1 fO dO _ spOL := ok_ol DO.F
  refine F.ok scSch (fun vs H Q E h => ?_) (fun cdv A outer s H vs Q E hr h => ?_)
  · obtain ⟨H0, x, dx, s, w, ss, ws, rfl, _⟩ := h
    rfl
  · obtain ⟨H0, x, dx, s, w, ss, ws, rfl, S0, x0, hx, hs, hw, rs, rw', s1, s4, w1, w5, k⟩ := h
    have hr1 : Room 1 _ := hr.mono (by decide)
    have Sx : ∀ {H1 : Hp} {o : HO}, Same H0 H1 → Same H0 (upd H1 x o) := fun hs b o e => by
      rw [upd_ne (ne_of_none e x0)]
      exact hs b o e
    refine ⟨_, (pss_cons (ps_fld (pv 0) (pe_callTy call_list_of (by rfl) tl (by decide +kernel) (pa_cons (pv 1) pa_nil)) rfl)
      (pss_cons (ps_fld (pv 0) (pe_callTy call_list_of (by rfl) tl (by decide +kernel) (pa_cons (pv 2) pa_nil)) rfl)
      (pss_cons (ps_fld (pv 0) (pe_call GO hr1 rfl DO.g DO.F.kp DO.b .nil pass0 (pa_cons (pv 3) pa_nil)) rfl)
      (pss_cons (ps_fld (pv 0) (pe_call GO hr1 rfl DO.g DO.F.kp DO.b .nil pass0 (pa_cons (pv 4) pa_nil)) rfl)
      (pss_cons (ps_fld (pv 0) (pe_call GO hr1 rfl DO.g DO.F.kp DO.b .nil pass0 (pa_cons (pv 5) pa_nil)) rfl)
      (pss_one (ps_expr (pe_call GC hr rfl DC.g DC.F.kp DC.b .nil pass0 (pa_cons (pe_fld (pv 0) rfl) (pa_cons (pe_fld (pv 0) rfl) (pa_cons (pe_fld (pv 0) rfl) (pa_cons (pe_fld (pv 0) rfl) (pa_cons (pe_fld (pv 0) rfl) pa_nil))))))))))))), ?_⟩
    refine ⟨_, rfl, s, _, rfl, .inl (S0.seq hs), fun l1 h1 => ?_⟩
    have n1 : l1 ≠ x := fun z => by
      rw [z, hx] at h1
      cases h1
    have hx1 : upd H l1 (.lst (ss.map V.str)) x = some (.ins S dx []) := (upd_ne n1.symm).trans hx
    refine ⟨_, rfl, x, S, dx, _, rfl, hx1, TC.cl, TC.n1, by show 0 < 1000; decide, ?_⟩
    have S1 : Same H0 (upd (upd H l1 (.lst (ss.map V.str))) x (.ins S dx (putF "own_sorts" (.ref l1) []))) := Sx (S0.trans (Same.upd h1))
    have e1 : (upd (upd H l1 (.lst (ss.map V.str))) x (.ins S dx (putF "own_sorts" (.ref l1) []))) l1 = some (.lst (ss.map V.str)) := (upd_ne n1).trans upd_same
    have ex1 : (upd (upd H l1 (.lst (ss.map V.str))) x (.ins S dx (putF "own_sorts" (.ref l1) []))) x = some (.ins S dx (putF "own_sorts" (.ref l1) [])) := upd_same
    generalize upd (upd H l1 (.lst (ss.map V.str))) x (.ins S dx (putF "own_sorts" (.ref l1) [])) = H1 at S1 e1 ex1
    refine ⟨_, rfl, w, _, rfl, .inl (S1.seq hw), fun l2 h2 => ?_⟩
    have n2 : l2 ≠ x := fun z => by
      rw [z, ex1] at h2
      cases h2
    refine ⟨_, rfl, x, S, dx, _, rfl, (upd_ne n2.symm).trans ex1, TC.cl, TC.n2, Nat.lt_of_le_of_lt (putF_len _ _ _) (by decide), ?_⟩
    have S2 := Sx (o := .ins S dx (putF "own_words" (.ref l2) (putF "own_sorts" (.ref l1) []))) (S1.trans (Same.upd (o := .lst (ws.map V.str)) h2))
    have e2 : (upd (upd H1 l2 (.lst (ws.map V.str))) x (.ins S dx (putF "own_words" (.ref l2) (putF "own_sorts" (.ref l1) [])))) l2 = some (.lst (ws.map V.str)) := (upd_ne n2).trans upd_same
    have e12 : (upd (upd H1 l2 (.lst (ws.map V.str))) x (.ins S dx (putF "own_words" (.ref l2) (putF "own_sorts" (.ref l1) [])))) l1 = some (.lst (ss.map V.str)) := (upd_ne n1).trans ((upd_ne (ne_of_none e1 h2)).trans e1)
    have ex2 : (upd (upd H1 l2 (.lst (ws.map V.str))) x (.ins S dx (putF "own_words" (.ref l2) (putF "own_sorts" (.ref l1) [])))) x = _ := upd_same
    generalize upd (upd H1 l2 (.lst (ws.map V.str))) x (.ins S dx (putF "own_words" (.ref l2) (putF "own_sorts" (.ref l1) []))) = H2 at S2 e2 e12 ex2
    refine ⟨_, rfl, rfl, fun l3 h3 => ?_⟩
    have n3 : l3 ≠ x := fun z => by
      rw [z, ex2] at h3
      cases h3
    refine ⟨_, rfl, x, S, dx, _, rfl, (upd_ne n3.symm).trans ex2, TC.cl, TC.n3, ?_, ?_⟩
    · have q1 := putF_len "own_sorts" (.ref l1) []
      have q2 := putF_len "own_words" (.ref l2) (putF "own_sorts" (.ref l1) [])
      simp only [List.length_nil] at *
      omega
    have S3 := Sx (o := .ins S dx (putF "own_makings" (.ref l3) (putF "own_words" (.ref l2) (putF "own_sorts" (.ref l1) [])))) (S2.trans (Same.upd (o := .lst []) h3))
    have e33 : (upd (upd H2 l3 (.lst [])) x (.ins S dx (putF "own_makings" (.ref l3) (putF "own_words" (.ref l2) (putF "own_sorts" (.ref l1) []))))) l3 = some (.lst []) := (upd_ne n3).trans upd_same
    have e13 : (upd (upd H2 l3 (.lst [])) x (.ins S dx (putF "own_makings" (.ref l3) (putF "own_words" (.ref l2) (putF "own_sorts" (.ref l1) []))))) l1 = some (.lst (ss.map V.str)) := (upd_ne n1).trans ((upd_ne (ne_of_none e12 h3)).trans e12)
    have e23 : (upd (upd H2 l3 (.lst [])) x (.ins S dx (putF "own_makings" (.ref l3) (putF "own_words" (.ref l2) (putF "own_sorts" (.ref l1) []))))) l2 = some (.lst (ws.map V.str)) := (upd_ne n2).trans ((upd_ne (ne_of_none e2 h3)).trans e2)
    have ex3 : (upd (upd H2 l3 (.lst [])) x (.ins S dx (putF "own_makings" (.ref l3) (putF "own_words" (.ref l2) (putF "own_sorts" (.ref l1) []))))) x = _ := upd_same
    generalize upd (upd H2 l3 (.lst [])) x (.ins S dx (putF "own_makings" (.ref l3) (putF "own_words" (.ref l2) (putF "own_sorts" (.ref l1) [])))) = H3 at S3 ex3 e13 e23 e33
    refine ⟨_, rfl, rfl, fun l4 h4 => ?_⟩
    have n4 : l4 ≠ x := fun z => by
      rw [z, ex3] at h4
      cases h4
    refine ⟨_, rfl, x, S, dx, _, rfl, (upd_ne n4.symm).trans ex3, TC.cl, TC.n4, ?_, ?_⟩
    · have q1 := putF_len "own_sorts" (.ref l1) []
      have q2 := putF_len "own_words" (.ref l2) (putF "own_sorts" (.ref l1) [])
      have q3 := putF_len "own_makings" (.ref l3) (putF "own_words" (.ref l2) (putF "own_sorts" (.ref l1) []))
      simp only [List.length_nil] at *
      omega
    have S4 := Sx (o := .ins S dx (putF "own_rules" (.ref l4) (putF "own_makings" (.ref l3) (putF "own_words" (.ref l2) (putF "own_sorts" (.ref l1) []))))) (S3.trans (Same.upd (o := .lst []) h4))
    have e44 : (upd (upd H3 l4 (.lst [])) x (.ins S dx (putF "own_rules" (.ref l4) (putF "own_makings" (.ref l3) (putF "own_words" (.ref l2) (putF "own_sorts" (.ref l1) [])))))) l4 = some (.lst []) := (upd_ne n4).trans upd_same
    have e14 : (upd (upd H3 l4 (.lst [])) x (.ins S dx (putF "own_rules" (.ref l4) (putF "own_makings" (.ref l3) (putF "own_words" (.ref l2) (putF "own_sorts" (.ref l1) [])))))) l1 = some (.lst (ss.map V.str)) := (upd_ne n1).trans ((upd_ne (ne_of_none e13 h4)).trans e13)
    have e24 : (upd (upd H3 l4 (.lst [])) x (.ins S dx (putF "own_rules" (.ref l4) (putF "own_makings" (.ref l3) (putF "own_words" (.ref l2) (putF "own_sorts" (.ref l1) [])))))) l2 = some (.lst (ws.map V.str)) := (upd_ne n2).trans ((upd_ne (ne_of_none e23 h4)).trans e23)
    have e34 : (upd (upd H3 l4 (.lst [])) x (.ins S dx (putF "own_rules" (.ref l4) (putF "own_makings" (.ref l3) (putF "own_words" (.ref l2) (putF "own_sorts" (.ref l1) [])))))) l3 = some (.lst []) := (upd_ne n3).trans ((upd_ne (ne_of_none e33 h4)).trans e33)
    have ex4 : (upd (upd H3 l4 (.lst [])) x (.ins S dx (putF "own_rules" (.ref l4) (putF "own_makings" (.ref l3) (putF "own_words" (.ref l2) (putF "own_sorts" (.ref l1) [])))))) x = _ := upd_same
    generalize upd (upd H3 l4 (.lst [])) x (.ins S dx (putF "own_rules" (.ref l4) (putF "own_makings" (.ref l3) (putF "own_words" (.ref l2) (putF "own_sorts" (.ref l1) []))))) = H4 at S4 ex4 e14 e24 e34 e44
    refine ⟨_, rfl, rfl, fun l5 h5 => ?_⟩
    have n5 : l5 ≠ x := fun z => by
      rw [z, ex4] at h5
      cases h5
    refine ⟨_, rfl, x, S, dx, _, rfl, (upd_ne n5.symm).trans ex4, TC.cl, TC.n5, ?_, ?_⟩
    · have q1 := putF_len "own_sorts" (.ref l1) []
      have q2 := putF_len "own_words" (.ref l2) (putF "own_sorts" (.ref l1) [])
      have q3 := putF_len "own_makings" (.ref l3) (putF "own_words" (.ref l2) (putF "own_sorts" (.ref l1) []))
      have q4 := putF_len "own_rules" (.ref l4) (putF "own_makings" (.ref l3) (putF "own_words" (.ref l2) (putF "own_sorts" (.ref l1) [])))
      simp only [List.length_nil] at *
      omega
    have S5 := Sx (o := .ins S dx (putF "own_bars" (.ref l5) (putF "own_rules" (.ref l4) (putF "own_makings" (.ref l3) (putF "own_words" (.ref l2) (putF "own_sorts" (.ref l1) [])))))) (S4.trans (Same.upd (o := .lst []) h5))
    have e55 : (upd (upd H4 l5 (.lst [])) x (.ins S dx (putF "own_bars" (.ref l5) (putF "own_rules" (.ref l4) (putF "own_makings" (.ref l3) (putF "own_words" (.ref l2) (putF "own_sorts" (.ref l1) []))))))) l5 = some (.lst []) := (upd_ne n5).trans upd_same
    have e15 : (upd (upd H4 l5 (.lst [])) x (.ins S dx (putF "own_bars" (.ref l5) (putF "own_rules" (.ref l4) (putF "own_makings" (.ref l3) (putF "own_words" (.ref l2) (putF "own_sorts" (.ref l1) []))))))) l1 = some (.lst (ss.map V.str)) := (upd_ne n1).trans ((upd_ne (ne_of_none e14 h5)).trans e14)
    have e25 : (upd (upd H4 l5 (.lst [])) x (.ins S dx (putF "own_bars" (.ref l5) (putF "own_rules" (.ref l4) (putF "own_makings" (.ref l3) (putF "own_words" (.ref l2) (putF "own_sorts" (.ref l1) []))))))) l2 = some (.lst (ws.map V.str)) := (upd_ne n2).trans ((upd_ne (ne_of_none e24 h5)).trans e24)
    have e35 : (upd (upd H4 l5 (.lst [])) x (.ins S dx (putF "own_bars" (.ref l5) (putF "own_rules" (.ref l4) (putF "own_makings" (.ref l3) (putF "own_words" (.ref l2) (putF "own_sorts" (.ref l1) []))))))) l3 = some (.lst []) := (upd_ne n3).trans ((upd_ne (ne_of_none e34 h5)).trans e34)
    have e45 : (upd (upd H4 l5 (.lst [])) x (.ins S dx (putF "own_bars" (.ref l5) (putF "own_rules" (.ref l4) (putF "own_makings" (.ref l3) (putF "own_words" (.ref l2) (putF "own_sorts" (.ref l1) []))))))) l4 = some (.lst []) := (upd_ne n4).trans ((upd_ne (ne_of_none e44 h5)).trans e44)
    have ex5 : (upd (upd H4 l5 (.lst [])) x (.ins S dx (putF "own_bars" (.ref l5) (putF "own_rules" (.ref l4) (putF "own_makings" (.ref l3) (putF "own_words" (.ref l2) (putF "own_sorts" (.ref l1) []))))))) x = _ := upd_same
    generalize upd (upd H4 l5 (.lst [])) x (.ins S dx (putF "own_bars" (.ref l5) (putF "own_rules" (.ref l4) (putF "own_makings" (.ref l3) (putF "own_words" (.ref l2) (putF "own_sorts" (.ref l1) [])))))) = H5 at S5 ex5 e15 e25 e35 e45 e55
    have ex5 : H5 x = some (.ins S dx (schF l1 l2 l3 l4 l5)) := ex5
    have lkM : (schF l1 l2 l3 l4 l5).lookup ("own_makings" : Str) = some (.ref l3) := by
      unfold schF
      rw [lookN (by decide +kernel), lookN (by decide +kernel), lookF]
    have lkR : (schF l1 l2 l3 l4 l5).lookup ("own_rules" : Str) = some (.ref l4) := by
      unfold schF
      rw [lookN (by decide +kernel), lookF]
    have lkB : (schF l1 l2 l3 l4 l5).lookup ("own_bars" : Str) = some (.ref l5) := by
      unfold schF
      rw [lookF]
    refine ⟨_, rfl, x, S, dx, _, _, rfl, ex5, TC.cl, TC.n1, schF_so _ _ _ _ _, _, rfl, x, S, dx, _, _, rfl, ex5, TC.cl, TC.n2, schF_wo _ _ _ _ _, _, rfl, x, S, dx, _, _, rfl, ex5, TC.cl, TC.n3, lkM, _, rfl, x, S, dx, _, _, rfl, ex5, TC.cl, TC.n4, lkR, _, rfl, x, S, dx, _, _, rfl, ex5, TC.cl, TC.n5, lkB, ?_⟩
    exact ⟨l1, l2, l3, l4, l5, ss, ws, rfl, SqL.of e15, SqL.of e25, SqL.of e35, SqL.of e45, SqL.of e55, rs, rw', s1, s4, w1, w5, fun H6 S6 => k H6 (S5.trans S6) ⟨⟨dx, l1, l2, l3, l4, l5, S6 _ _ ex5, S6 _ _ e15, S6 _ _ e25⟩⟩⟩
theorem scSor : FnScope ["self"] ["self"] (defScope sSor) := ⟨rfl, rfl, rfl, by decide +kernel, rfl, by decide +kernel, by decide +kernel⟩
def spSor (S : Addr) : Sp := fun vs H Q _ => ∃ (x : Addr) (ss ws : List Str), vs = [.ref x] ∧ SchAt S H x ss ws ∧ ∀ l, H l = none → Q (.ref l) (upd H l (.lst (ss.map V.str)))
def spWor (S : Addr) : Sp := fun vs H Q _ => ∃ (x : Addr) (ss ws : List Str), vs = [.ref x] ∧ SchAt S H x ss ws ∧ ∀ l, H l = none → Q (.ref l) (upd H l (.lst (ws.map V.str)))
theorem ok_sor {f S fS : Addr} {fd : FuncData} (F : Fun K "sorts" "Scheme.sorts" sSor f fd) (tl : mg "list" = none) (TC : TxSch K mg S fS) : FnOk P w K mg base CX0 1 f fd ["self"] (spSor S) := by
  refine F.ok scSor (fun vs H Q E h => ?_) (fun cdv A outer s H vs Q E hr h => ?_)
  · obtain ⟨x, ss, ws, rfl, _⟩ := h
    rfl
  · obtain ⟨x, ss, ws, rfl, hx, k⟩ := h
    obtain ⟨dx, l1, l2, l3, l4, l5, hx, h1, h2⟩ := hx.ex
    refine ⟨_, (pss_one (ps_ret (pe_callTy call_list_of (by rfl) tl (by decide +kernel) (pa_cons (pe_fld (pv 0) rfl) pa_nil)))), ?_⟩
    exact ⟨_, rfl, x, S, dx, _, _, rfl, hx, TC.cl, TC.n1, schF_so _ _ _ _ _, l1, _, rfl, .inl (SqL.of h1), fun l hl => k l hl⟩
theorem scWor : FnScope ["self"] ["self"] (defScope sWor) := ⟨rfl, rfl, rfl, by decide +kernel, rfl, by decide +kernel, by decide +kernel⟩
theorem ok_wor {f S fS : Addr} {fd : FuncData} (F : Fun K "words" "Scheme.words" sWor f fd) (tl : mg "list" = none) (TC : TxSch K mg S fS) : FnOk P w K mg base CX0 1 f fd ["self"] (spWor S) := by
  refine F.ok scWor (fun vs H Q E h => ?_) (fun cdv A outer s H vs Q E hr h => ?_)
  · obtain ⟨x, ss, ws, rfl, _⟩ := h
    rfl
  · obtain ⟨x, ss, ws, rfl, hx, k⟩ := h
    obtain ⟨dx, l1, l2, l3, l4, l5, hx, h1, h2⟩ := hx.ex
    refine ⟨_, (pss_one (ps_ret (pe_callTy call_list_of (by rfl) tl (by decide +kernel) (pa_cons (pe_fld (pv 0) rfl) pa_nil)))), ?_⟩
    exact ⟨_, rfl, x, S, dx, _, _, rfl, hx, TC.cl, TC.n2, schF_wo _ _ _ _ _, l2, _, rfl, .inl (SqL.of h2), fun l hl => k l hl⟩
end
end Wm
/-! sorted of triples of texts, as a list and as the keys of a dict -/
namespace Wm
open PySem PySem.Spec PyProof.Rows L2
def triD3 (t : Str × Str × Str) : PyData := .tuple [.str t.1, .str t.2.1, .str t.2.2]
def triV3 (t : Str × Str × Str) : List V := [.str t.1, .str t.2.1, .str t.2.2]
/-- the triples in their order -/
def sortT (ts : List (Str × Str × Str)) : List (Str × Str × Str) := ts.mergeSort (PySem.W.dataLe false triD3)
def TrisAt (K : PySem.W.Frag) (H : Hp) : List Addr → List (Str × Str × Str) → Prop
  | [], [] => True
  | p :: ps, t :: ts => SqT K H p (triV3 t) ∧ TrisAt K H ps ts
  | [], _ :: _ => False
  | _ :: _, [] => False
theorem TrisAt.len {K : PySem.W.Frag} {H : Hp} : ∀ {ps : List Addr} {ts : List (Str × Str × Str)}, TrisAt K H ps ts → ps.length = ts.length
  | [], [], _ => rfl
  | _ :: _, _ :: _, h => by rw [List.length_cons, List.length_cons, TrisAt.len h.2]
  | [], _ :: _, h => h.elim
  | _ :: _, [], h => h.elim
theorem TrisAt.same {K : PySem.W.Frag} {H H' : Hp} (e : ∀ {a : Addr} {xs : List V}, SqT K H a xs → SqT K H' a xs) : ∀ {ps : List Addr} {ts : List (Str × Str × Str)}, TrisAt K H ps ts → TrisAt K H' ps ts
  | [], [], _ => True.intro
  | _ :: _, _ :: _, h => ⟨e h.1, TrisAt.same e h.2⟩
  | [], _ :: _, h => h.elim
  | _ :: _, [], h => h.elim
/-- a value that is a triple -/
def isTri (K : PySem.W.Frag) (H : Hp) (u : Value) (t : Str × Str × Str) : Prop := ∃ p, u = .ref p ∧ SqT K H p (triV3 t)
theorem tris_each {K : PySem.W.Frag} {H : Hp} : ∀ {ps : List Addr} {ts : List (Str × Str × Str)} {us : List Value}, TrisAt K H ps ts → Vals (ps.map V.ref) us → PySem.W.EachIs (isTri K H) us ts
  | [], [], _, _, r => by
    cases r
    exact .nil
  | p :: ps, t :: ts, _, h, r => by
    cases r with
    | cons r1 r2 =>
      cases r1
      exact .cons ⟨p, rfl, h.1⟩ (tris_each h.2 r2)
  | [], _ :: _, _, h, _ => h.elim
  | _ :: _, [], _, h, _ => h.elim
theorem each_tris {K : PySem.W.Frag} {H : Hp} : ∀ {us : List Value} {ts : List (Str × Str × Str)}, PySem.W.EachIs (isTri K H) us ts → ∃ qs : List Addr, TrisAt K H qs ts ∧ Vals (qs.map V.ref) us
  | _, _, .nil => ⟨[], True.intro, .nil⟩
  | _, _, .cons h r => by
    obtain ⟨p, rfl, hp⟩ := h
    obtain ⟨qs, hq, hv⟩ := each_tris r
    exact ⟨p :: qs, ⟨hp, hq⟩, .cons rfl hv⟩
theorem tri_dp {K : PySem.W.Frag} {H : Hp} {p : Addr} {t : Str × Str × Str} (h : SqT K H p (triV3 t)) : Dp K H (.ref p) (triD3 t) := .tup h (.cons (.str _) (.cons (.str _) (.cons (.str _) .nil)))
theorem tri_depth (t : Str × Str × Str) : (triD3 t).depth ≤ 2 := by
  simp [triD3, PyData.depth, PyData.depthAll]
section
variable {X : Cx} {pins : List (Addr × Obj)} {σ : L2.St} {H : Hp} {s : Shared}
theorem tri_reads (I : Inv X pins σ H s) : ∀ {us : List Value} {ts : List (Str × Str × Str)}, PySem.W.EachIs (isTri X.K H) us ts → PySem.W.EachIs (fun v b => ∃ as, Reads s.heap v (triD3 b) as) us ts
  | _, _, .nil => .nil
  | _, _, .cons h r => by
    obtain ⟨p, rfl, hp⟩ := h
    exact .cons (Dp.reads I _ _ _ (tri_dp hp) rfl) (tri_reads I r)
theorem tri_alike (ts : List (Str × Str × Str)) : PySem.W.AllAlike (ts.map triD3) := PySem.W.AllAlike.of fun b b' => by
  simp [triD3, PySem.W.alike, PySem.W.alikeAll]
theorem tri_sortable (ts : List (Str × Str × Str)) : PySem.W.Sortable (ts.map triD3) := PySem.W.Sortable.tuples fun b => ⟨_, _, rfl⟩
theorem sortT_len (ts : List (Str × Str × Str)) : (sortT ts).length = ts.length := List.length_mergeSort _
/-- sorted(xs) -/
def rSortTL (K : PySem.W.Frag) : List V → Hp → VK → Prop := fun vs H Q => ∃ (a : Addr) (ps : List Addr) (ts : List (Str × Str × Str)), vs = [.ref a] ∧ SqL K H a (ps.map V.ref) ∧ TrisAt K H ps ts ∧
  ∀ (qs : List Addr) (p : Addr), TrisAt K H qs (sortT ts) → H p = none → Q (.ref p) (upd H p (.lst (qs.map V.ref)))
theorem cr_sortTL (hu : X.A.units + 64 < cLine) : CallR X (.builtin "sorted") (rSortTL X.K) := by
  intro pins s σ H xs us Q I r h
  obtain ⟨a, ps, ts, rfl, hs, ht, q⟩ := h
  obtain ⟨its, rv, hl, hz⟩ := I.list hs
  obtain ⟨u, rfl, ru⟩ := vals1 r
  obtain rfl : u = Value.ref a := ru
  have he := tris_each ht rv
  have hlen : ts.length ≤ sizeLine := by
    rw [← ht.len]
    rw [List.length_map] at hz
    exact hz
  refine PySem.W.sorted_data (bs := ts) (enc := triD3) (R := isTri X.K H) hl.isList he (tri_reads I he) (tri_alike ts) (tri_sortable ts) hlen (fun b _ => by have := tri_depth b; omega) fun out ho hout => ?_
  obtain ⟨qs, hq, hv⟩ := each_tris hout
  obtain ⟨e, hat⟩ := sortedAll_at s.heap its out.toArray
  have hle : s.heap.objs.size ≤ s.heap.objs.size + 1 := Nat.le_succ _
  refine ⟨.ref (s.heap.objs.size + 1), upd H (s.heap.objs.size + 1) (.lst (qs.map V.ref)), I.laid (t' := s.toks) (fun b o z => sortedAll_old z) hle ⟨?_, out, e, hv, hat⟩, rfl, q qs _ hq (I.hok.fresh hle)⟩
  rw [List.length_map, hq.len, List.length_mergeSort]
  exact hlen
def triK (t : Str × Str × Str) : List L2.Key := [Sum.inr t.1, Sum.inr t.2.1, Sum.inr t.2.2]
/-- sorted(d), d a dict whose keys are triples -/
def rSortTD (K : PySem.W.Frag) : List V → Hp → VK → Prop := fun vs H Q => ∃ (a : Addr) (kvs : List (List L2.Key × V)) (ts : List (Str × Str × Str)), vs = [.ref a] ∧ H a = some (.dT kvs) ∧ kvs.map (·.1) = ts.map triK ∧
  ∀ (qs : List Addr) (p : Addr), TrisAt K H qs (sortT ts) → H p = none → Q (.ref p) (upd H p (.lst (qs.map V.ref)))
theorem keys_tris {K : PySem.W.Frag} {H : Hp} : ∀ {kvs : List (List L2.Key × V)} {bs : List Addr} {ts : List (Str × Str × Str)}, IsKeys H kvs bs → kvs.map (·.1) = ts.map triK → TrisAt K H bs ts
  | [], _, ts, h, e => by
    cases h
    cases ts with
    | nil => exact True.intro
    | cons t r => cases e
  | kv :: kvs, _, ts, h, e => by
    cases h with
    | cons h1 h2 =>
      cases ts with
      | nil => cases e
      | cons t r =>
        have e1 : kv.1 = triK t := (List.cons.inj e).1
        rw [e1] at h1
        exact ⟨SqT.of h1, keys_tris h2 (List.cons.inj e).2⟩
theorem cr_sortTD (hc : X.calm = true) (hu : X.A.units + 64 < cLine) : CallR X (.builtin "sorted") (rSortTD X.K) := by
  intro pins s σ H xs us Q I r h
  obtain ⟨d, kvs, ts, rfl, hd, hk, q⟩ := h
  obtain ⟨u, rfl, ru⟩ := vals1 r
  obtain rfl : u = Value.ref d := ru
  obtain ⟨z, hs, ks, pr, o, es, ep, ho, hx, hdt, he, hn⟩ := (show ObjOk X.prog X.w H s.heap d (.dT kvs) from I.hok d _ hd)
  have l1 : es.size = ks.length := size_of_entries he
  have l2 : kvs.length = ks.length := Paired.length pr
  have l3 : ts.length = kvs.length := by
    have e := congrArg List.length hk
    rw [List.length_map, List.length_map] at e
    exact e.symm
  have hT : TrisAt X.K H (ks.map fun x => x.2.1) ts := keys_tris (isKeys_of pr) hk
  refine Calls.call_function_entry kind_sorted plain_sorted entry_sorted (args_sorted1 _) ?_
  unfold Builtin.«sorted»
  refine wpAny_bind (m := checkCount "sorted" 1 1 _) (wpAny_pure ?_)
  refine wpAny_bind (PySem.W.kdu_collect (A := X.A.in1) (kdl_raw hs hx hdt) (I.ok.hd hc) ho (by omega) fun h' tk acc kp it => ?_)
  have ea : acc.toList = (ks.map fun x => x.2.1).map Value.ref := by
    apply List.ext_getElem?
    intro j
    have hl : acc.toList.length = ks.length := by rw [Array.length_toList, it.1]; exact l1
    rw [List.getElem?_map, List.getElem?_map]
    cases hb : ks[j]? with
    | none =>
      have := List.getElem?_eq_none_iff.mp hb
      rw [List.getElem?_eq_none (by omega)]
      rfl
    | some b =>
      have hj : j < acc.toList.length := by rw [hl]; exact (List.getElem?_eq_some_iff.mp hb).1
      have e1 := List.getElem?_eq_getElem hj
      obtain ⟨en, hen, hv⟩ := it.2 j _ (by rw [← Array.getElem?_toList]; exact e1)
      have qe := entry_at he j
      rw [hen, hb] at qe
      have e2 : en = entryOfKey (tupleKind (mixKind X.prog X.w)) b := Option.some.inj qe
      rw [e1, hv, e2]
      rfl
  have I1 : Inv X pins σ H { s with heap := h', toks := tk } := I.kept (t' := tk) kp
  have rv : Vals ((ks.map fun x => x.2.1).map V.ref) acc.toList := by rw [ea]; exact vals_refs _
  have each := tris_each hT rv
  have alen : acc.toList.length ≤ sizeLine := by
    rw [Array.length_toList, it.1]
    omega
  refine wpAny_bind (wpAny_newList ?_ alen)
  have hoL : (h'.push (seqObj "list" acc.toList.toArray 0)).get? h'.objs.size = some (seqObj "list" acc.toList.toArray 0) := Heap.get?_push_size _ rfl
  show wpAny _ _ _ _ _ { s with heap := h'.push (seqObj "list" acc.toList.toArray 0), toks := tk }
  have er : PySem.W.EachIs (fun v b => ∃ as, Reads (PySem.W.sortingHeap (h'.push (seqObj "list" acc.toList.toArray 0)) h'.objs.size acc.toList) v (triD3 b) as) acc.toList ts :=
    (tri_reads I1 each).mono fun _ _ ⟨as, rr⟩ => ⟨as, Reads.keeps (fun b o zz => PySem.W.sortingHeap_old (Nat.ne_of_lt (Heap.lt_size zz)) (Heap.get?_push_of_some _ zz)) rr⟩
  refine wpAny_bind (wpAny_holding (wpAny_call_entry slot_list_sort ⟨_, hoL, rfl⟩ entry_list_sort
    (PySem.W.list_sort_vals (s := { s with heap := h'.push (seqObj "list" acc.toList.toArray 0), toks := tk }) hoL
      (PySem.W.SortsAt.data (A := X.A.in1.in1) (s := { s with heap := PySem.W.sortingHeap (h'.push (seqObj "list" acc.toList.toArray 0)) h'.objs.size acc.toList, toks := tk }) (PySem.W.each_map (R := fun v d => ∃ as, Reads (PySem.W.sortingHeap (h'.push (seqObj "list" acc.toList.toArray 0)) h'.objs.size acc.toList) v d as) triD3 er) (tri_alike ts) (tri_sortable ts) (PySem.W.bound_map fun b _ => by
        have := tri_depth b
        have e2 : X.A.in1.in1.units ≤ X.A.units + 2 := Nat.le_refl _
        omega)) alen ⟨_, rfl, ?_⟩)
    (args_list_sort _)))
  have hout := PySem.W.sortVals_data (R := isTri X.K H) false each er (tri_alike ts)
  obtain ⟨qs, hq, hv⟩ := each_tris hout
  obtain ⟨e, hat⟩ := sortedHeap_at (vs := acc.toList) (out := (PySem.W.sortVals _ false acc.toList acc.toList).toArray) hoL
  refine wpAny_pure ⟨_, rfl, .ref h'.objs.size, upd H h'.objs.size (.lst (qs.map V.ref)), I1.laid (t' := tk) (fun b o zz => ?_) (Nat.le_refl _) ⟨?_, _, e, hv, hat⟩, rfl, q qs _ hq (I1.hok.fresh (Nat.le_refl _))⟩
  · have lt := Heap.lt_size zz
    have lt2 : b < (h'.push (seqObj "list" acc.toList.toArray 0)).objs.size := Heap.lt_size (Heap.get?_push_of_some _ zz)
    rw [sortedHeap_old (Nat.ne_of_lt lt) lt2]
    exact Heap.get?_push_of_some _ zz
  · rw [List.length_map, hq.len, List.length_mergeSort]
    omega
end
end Wm
/-! lists walked to their end while an error is handled: sum, comprehensions -/
namespace Wm
open PySem PySem.Spec PyProof.Rows L2 HotX
section
variable {prog : Program} {w : World} {A : Around} {E : Value → Shared → Prop} {s : Shared}
/-- a list iterator at its end: the StopIteration gets the handled error as its context, nothing else is touched -/
theorem next_end_hot {it l x1 : Addr} {i : Nat} {items : Array Value} {Q : Option Value → Shared → Prop} (hot : HotAt A x1 s.heap) (hne : x1 ≠ it) (hit : s.heap.IsListIter it l i) (hl : s.heap.IsList l items) (hx : items[i]? = none)
    (hQ : ∀ h', Heap.ExtBut it s.heap h' → Q none { s with heap := h' }) : wpAny (model prog w) A (pyNext (.ref it)) Q E s := by
  obtain ⟨hh, o1, vs1, g1, f1, c1⟩ := hot
  obtain ⟨oi, gi, ci, di⟩ := id hit
  obtain ⟨ol, gl, _, nl, dl⟩ := hl
  have slot := slot_listiter_next
  unfold pyNext
  refine wpAny_bind (wpAny_attempt (wpAny_callSpecial?_slot (name := Str.ofString "__next__") hit.typeIs slot (wpAny_call_entry slot hit.typeIs entry_listiter_next ?_ (args_listiter_next _))))
  have rd0 : ∀ {Q' : Value → Shared → Prop} {E'} {A'}, Q' (.ref l) s → wpAny (model prog w) A' (field (.ref it) 0) Q' E' s := fun q => wpAny_field gi di (x := .ref l) rfl q
  have rd1 : ∀ {Q' : Value → Shared → Prop} {E'} {A'}, Q' (.int i 0) s → wpAny (model prog w) A' (field (.ref it) 1) Q' E' s := fun q => wpAny_field gi di (x := .int i 0) rfl q
  show wpAny _ _ (field (.ref it) 0 >>= _) _ _ s
  refine wpAny_bind (rd0 ?_)
  show wpAny _ _ (if (Value.ref l == Value.none) = true then _ else _) _ _ s
  rw [if_neg (show ¬ ((Value.ref l == Value.none) = true) from Bool.false_ne_true)]
  show wpAny _ _ (field (.ref it) 1 >>= _) _ _ s
  refine wpAny_bind (rd1 ?_)
  show wpAny _ _ (seqItems? (.ref l) >>= _) _ _ s
  refine wpAny_bind (wpAny_seqItems gl dl ?_)
  simp only [Int.toNat_natCast, hx]
  refine wpAny_bind (wpAny_rule (wpAny_bind (wpAny_setField gi di (by simp) ?_)))
  show wpAny _ _ (newExc (.type "StopIteration") [] >>= _) _ _ _
  refine wpAny_bind ?_
  simp only [newExc, newTuple]
  refine wpAny_bind (wpAny_newObj_type ?_ (by size_fits))
  refine wpAny_bind (m := firstArgMember _ _) (wpAny_of_eq (a := Value.none) (by first | rfl | (simp only [firstArgMember]; rfl)) ?_)
  refine wpAny_newObj_type ?_ (by size_fits)
  refine raiseNew_hot ⟨hh, o1, vs1, (((Heap.SameBut.update ..).extBut.push _).push _) x1 o1 hne g1, f1, c1⟩ (Nat.ne_of_lt (Heap.lt_size (((Heap.SameBut.update ..).extBut.push _) x1 o1 hne g1))) (Heap.get?_push_size _ rfl) rfl (by first | (simp; done) | (simp; omega) | (simp only [Array.size_append]; simp; omega)) ?_
  refine wpAny_bind (wpAny_isInstance (T := "StopIteration") (b := true) ⟨_, Heap.get?_update_self _ (Heap.get?_push_size _ rfl) rfl, rfl⟩ isSubtype_stop ?_)
  refine wpAny_pure (hQ _ fun b o nb e => ?_)
  rw [Heap.get?_update_other _ _ (Nat.ne_of_gt (Heap.lt_size (((Heap.SameBut.update ..).extBut.push _) b o nb e)))]
  exact (((Heap.SameBut.update ..).extBut.push _).push _) b o nb e
/-- the walk over a list, the handled error's object kept in sight -/
theorem walks_hot {x1 : Addr} {o1 : Obj} {v1 : Array Value} (hh : A.handled = some (.ref x1)) (d1 : o1.data = .fields v1) (c1 : v1[2]? = some .none) (I ax : Addr) (hne : ax ≠ I) (hx : x1 ≠ I) (items : Array Value) :
    Walks prog w A I [I, ax, x1] [I] items.size (fun i v => items[i]? = some v) (fun i h => h.IsListIter I ax i ∧ h.IsList ax items ∧ h.get? x1 = some o1) where
  sub := fun b hb => by
    rw [List.mem_singleton.mp hb]
    exact List.mem_cons_self
  frame := fun i h h' ⟨a, b, c⟩ k => ⟨a.at fun o e => k I (by simp) o e, b.at fun o e => k ax (by simp) o e, k x1 (by simp) o1 c⟩
  item := fun i s Q E hi ⟨a, b, c⟩ q => by
    refine wpAny_pyNext_list_item a b (Array.getElem?_eq_getElem hi) fun h' a' sb => ?_
    exact q _ h' s.toks (Array.getElem?_eq_getElem hi) ⟨a', b.at fun o e => (sb.2 ax hne).trans e, (sb.2 x1 hx).trans c⟩ fun y o ny e => (sb.2 y (fun z => ny (by rw [z]; exact List.mem_cons_self))).trans e
  done := fun s Q E ⟨a, b, c⟩ q => next_end_hot ⟨hh, o1, v1, c, d1, c1⟩ hx a b (Array.getElem?_eq_none (Nat.le_refl _)) fun h' eb => q h' s.toks fun y o ny e => eb y o (fun z => ny (by rw [z]; exact List.mem_cons_self)) e
  self := fun i s Q E ⟨a, _, _⟩ q => wpAny_pyIter_listiter a q
theorem sum_hot {l x1 : Addr} {o1 : Obj} {v1 : Array Value} {its : List Value} {ns : List Int} {Q : Value → Shared → Prop} (hh : A.handled = some (.ref x1)) (g1 : s.heap.get? x1 = some o1) (d1 : o1.data = .fields v1) (c1 : v1[2]? = some .none) (hl : s.heap.IsList l its.toArray) (hi : IntsAre its ns)
    (h : ∀ h' tk t', (∀ b o, s.heap.get? b = some o → h'.get? b = some o) → Q (.int ns.sum t') { s with heap := h', toks := tk }) : wpAny (model prog w) A (call (.builtin "sum") [.ref l]) Q E s := by
  obtain ⟨xs, e⟩ := hi.allInts.items
  have hn : numsOf (intItems xs).toList = ns := by rw [← e]; exact hi.numsOf
  rw [nums_intItems] at hn
  rw [e] at hl
  refine call_sum_walkG (iter_intList hl fun s2 e2 st fpl hlI => ?_)
  subst e2
  have hx : x1 ≠ s.heap.objs.size := Nat.ne_of_lt (Heap.lt_size g1)
  refine ⟨_, _, _, _, _, _, numAt xs, rfl, walks_hot (A := A.in1) hh d1 c1 _ l hlI hx (intItems xs), ⟨st.1, st.2, Heap.get?_push_of_some _ g1⟩, fun b hb => ?_, (fun _ _ => intItems_at), fun h' tk t' hk => ?_⟩
  · rcases List.mem_cons.mp hb with z | hb
    · exact fpl b (by rw [z]; simp)
    rcases List.mem_cons.mp hb with z | hb
    · exact fpl b (by rw [z]; simp)
    · rw [List.mem_singleton.mp hb]
      exact Heap.lt_size (Heap.get?_push_of_some _ g1)
  · have q := h h' tk t' (old_kept hk)
    have e3 : preSum (numAt xs) (intItems xs).size = ns.sum := by
      rw [preSum_eq, List.take_of_length_le (by simp [intItems]), hn]
    rw [e3]
    exact q
end
section
variable {X : Cx} {a : Addr} {oe : Obj} {vf : Array Value} {pn : List (Addr × Obj)}
theorem cr_sumH (hf : oe.data = .fields vf) (hn : vf[2]? = some .none) : CallR (X.suite a ((a, oe) :: pn)) (.builtin "sum") (rSum X.K) := by
  intro pins s σ H vs us Q I r h
  obtain ⟨l, ns, rfl, hs, q⟩ := h
  obtain ⟨its, rv, hl, _⟩ := I.list hs
  have P1 := I.pin (a, oe) (List.mem_append_left _ (List.mem_cons_self ..))
  rw [Vals.ref1 r]
  exact sum_hot (x1 := a) rfl P1.1 hf hn hl.isList rv.ints fun h' tk t' hk => ⟨.int _, H, I.kept hk, ⟨_, rfl⟩, q⟩
end
end Wm
/-! [elt for target in a list], no tests, while an error is handled -/
namespace Wm
open PySem PySem.Spec PyProof.Rows L2 HotX
/-- W i: what holds ahead of the turn i -/
def tLcH (K : PySem.W.Frag) (tl : TE) (g : TG) (te : TE) (vs : List Nat) : TE := fun σ H Q => tl σ H fun v H1 => ∃ (l : Addr) (xs : List V), v = .ref l ∧ SqL K H1 l xs ∧ ∀ D, H1 D = none → ∃ W : Nat → Hp → Prop, W 0 (upd H1 D (.lst [])) ∧ (∀ i H', W i H' → SqL K H' l xs) ∧
  (∀ i x H', xs[i]? = some x → W i H' → g x (wipe σ vs) H' fun σ2 H2 => wipe σ2 vs = wipe σ vs ∧ te σ2 H2 fun y H4 => ∃ acc, H4 D = some (.lst acc) ∧ acc.length < sizeLine ∧ W (i + 1) (upd H4 D (.lst (acc ++ [y])))) ∧ ∀ H', W xs.length H' → Q (.ref D) H'
section
variable {X : Cx} {a : Addr} {oe : Obj} {vf : Array Value}
theorem pe_lcH {elt tg l : Expr} {scope : Scope} {own : List (Str × Nat)} {pos : Pos} {tl : TE} {g : TG} {te : TE} (hA : X.A.handled = some (.ref a)) (hpn : (a, oe) ∈ X.pn) (hf : oe.data = .fields vf) (hn : vf[2]? = some .none) (hN : X.N.Nodup) (hl : PE X l tl) (ok : BlkOk X.N X.env.scope scope own)
    (hg : ∀ (s : Shared) (H : Hp) (C : Addr) (cl : List (Str × Addr)) (fp : List Addr), PG (X.blk s H scope (compEnvC scope cl C X.env) fp) tg g)
    (he : ∀ (s : Shared) (H : Hp) (C : Addr) (cl : List (Str × Addr)) (fp : List Addr), PE (X.blk s H scope (compEnvC scope cl C X.env) fp) elt te) (hs : ∀ x, foldedSetIterable l X.env x = pure x := by intro _; rfl) :
    PE X (.ListComp elt [⟨tg, l, [], 0⟩] scope pos) (tLcH X.K tl g te (own.map (·.2))) := by
  refine ⟨fun pins s σ H Q I h => ?_⟩
  rw [eval_ListComp]
  have cells : ∀ y ∈ scope.names, y.2 = .free → ∃ c, X.env.cells.lookup y.1 = some c := fun y hy e => (ok.free y hy e).elim (fun k => I.ok.has _ (.inl k)) (fun k => I.ok.has _ (.inr k))
  refine wpAny_comprehension_free (use := none) rfl hs (closure_ok cells) ok.kind (fun y hy e => by rw [ok.uniq y hy, e]) (thn (hl.run pins s σ H _ I h) fun v s1 ⟨x, H1, I1, r1, q1⟩ => ?_)
  obtain ⟨la, xs, rfl, hq, q⟩ := q1
  cases r1
  obtain ⟨its, rv, p, hz⟩ := I1.list hq
  refine wpAny_pyIter_list p.isList ?_
  -- the iterator, the new list, the block
  generalize hit : s1.heap.objs.size = it
  have itn : H1 it = none := I1.hok.fresh (Nat.le_of_eq hit)
  have I2 : Inv X pins σ H1 { s1 with heap := s1.heap.push { cls := .type "list_iterator", data := .fields #[.ref la, .int 0 0] } } := I1.kept (t' := s1.toks) fun b o e => Heap.get?_push_of_some _ e
  have st2 : ({ s1 with heap := s1.heap.push { cls := .type "list_iterator", data := .fields #[.ref la, .int 0 0] } } : Shared).heap.IsListIter it la 0 := by
    rw [← hit]
    exact ⟨_, Heap.get?_push_size _ rfl, rfl, rfl⟩
  have fp2 : FpOk X pins H1 it := I1.fpOk (Nat.le_of_eq hit) itn
  generalize hs2 : ({ s1 with heap := s1.heap.push { cls := .type "list_iterator", data := .fields #[.ref la, .int 0 0] } } : Shared) = s2 at I2 st2 ⊢
  refine wpAny_newObj_type (newEnv_comp ?_) (by show 0 ≤ sizeLine; decide)
  generalize hD : s2.heap.objs.size = D
  have Dn : H1 D = none := I2.hok.fresh (Nat.le_of_eq hD)
  have itD : it ≠ D := fun z => by
    obtain ⟨o, e, _⟩ := st2
    exact absurd (Heap.lt_size e) (by rw [z, ← hD]; exact Nat.lt_irrefl _)
  obtain ⟨W, w0, wq, step, fin⟩ := q D Dn
  have I3 : Inv X pins σ (upd H1 D (.lst [])) { s2 with heap := s2.heap.push { cls := .type "list", data := .seq ([] : List Value).toArray } } := by
    refine I2.laid (t' := s2.toks) (fun b o e => Heap.get?_push_of_some _ e) (Nat.le_of_eq hD) ⟨Nat.zero_le _, [], 0, .nil, ?_⟩
    rw [← hD]
    exact Heap.get?_push_size _ rfl
  have st3 : ({ s2 with heap := s2.heap.push { cls := .type "list", data := .seq ([] : List Value).toArray } } : Shared).heap.IsListIter it la 0 := st2.at fun o e => Heap.get?_push_of_some _ e
  generalize ({ s2 with heap := s2.heap.push { cls := .type "list", data := .seq ([] : List Value).toArray } } : Shared) = s3 at I3 st3 ⊢
  generalize hH3 : upd H1 D (.lst []) = H3 at I3 w0
  have it3 : H3 it = none := by rw [← hH3, upd_ne itD]; exact itn
  have fp3 : ∀ b ∈ [it], FpOk X pins H3 b ∧ b < s3.heap.objs.size := fun b hb => by
    rw [List.mem_singleton.mp hb]
    obtain ⟨o, e, _⟩ := st3
    exact ⟨⟨it3, fp2.2⟩, Heap.lt_size e⟩
  have I4 := block_start I3 ok hN fp3
  have pg := hg s3 H3 s3.heap.objs.size (cellsFrom (s3.heap.objs.size + 1) scope.names (cloFrom X.env.cells scope.names [])) [it]
  have pe := he s3 H3 s3.heap.objs.size (cellsFrom (s3.heap.objs.size + 1) scope.names (cloFrom X.env.cells scope.names [])) [it]
  have P3 := I3.pin (a, oe) (List.mem_append_left _ hpn)
  have aS : a ∉ frs X.stack := fun z => (List.mem_cons.mp (I3.stkSub a z)).elim P3.2.2.1 P3.2.2.2.1
  have aI : a ≠ it := fun z => fp2.2.2.2.2.2 (a, oe) (List.mem_append_left _ hpn) z
  show codeAny _ _ (.compStart (.ListComp elt [⟨tg, l, [], 0⟩] scope pos) 0 (.ref it) (.ref D) (compEnvC scope (cellsFrom (s3.heap.objs.size + 1) scope.names (cloFrom X.env.cells scope.names [])) s3.heap.objs.size X.env)) _ { s3 with heap := pushCells (s3.heap.push { cls := .type "dict", data := .dict #[] }) scope.names }
  generalize hce : compEnvC scope (cellsFrom (s3.heap.objs.size + 1) scope.names (cloFrom X.env.cells scope.names [])) s3.heap.objs.size X.env = ce at I4 pg pe ⊢
  have cL : ce.locals = s3.heap.objs.size := by subst hce; rfl
  have st4 : ({ s3 with heap := pushCells (s3.heap.push { cls := .type "dict", data := .dict #[] }) scope.names } : Shared).heap.IsListIter it la 0 := st3.at fun o e => pushCells_keeps _ _ _ _ (Heap.get?_push_of_some _ e)
  generalize ({ s3 with heap := pushCells (s3.heap.push { cls := .type "dict", data := .dict #[] }) scope.names } : Shared) = s4 at I4 st4 ⊢
  -- the iterator stands apart in every state of the block
  have apart : ∀ {σ' : L2.St} {H' : Hp} {s' : Shared}, Inv (X.blk s3 H3 scope ce [it]) [] σ' H' s' → H' it = none → FpOk (X.blk s3 H3 scope ce [it]) [] H' it := fun {σ' H' s'} I' z =>
    have m : it ∈ [it] := List.mem_cons_self
    ⟨z, (I'.ok.exf it m).1, I'.ok.exfs it m, .inl m, fun y c e => (I'.ok.exf it m).2 y c e, fun p hp => (List.not_mem_nil (show p ∈ ([] : List (Addr × Obj)) from hp)).elim⟩
  have loop : codeAny (model X.prog X.w) X.A (.compLoop (.ListComp elt [⟨tg, l, [], 0⟩] scope pos) 0 (.ref it) (.ref D) ce) (compPost (model X.prog X.w) X.A X.xe none (EP X pins σ Q) (.ref D) s3.heap.objs.size) s4 := by
    refine compLoop_any (fun n s' => ∃ i H', i + n = xs.length ∧ Inv (X.blk s3 H3 scope ce [it]) [] (wipe σ (own.map (·.2))) H' s' ∧ s'.heap.IsListIter it la i ∧ H' it = none ∧ W i H') ?_ xs.length ⟨0, H3, Nat.zero_add _, I4, st4, it3, w0⟩
    rintro n s5 ⟨i, H5, hi, I5, st5, n5, w5⟩
    obtain ⟨its5, rv5, p5, _⟩ := I5.list (wq i H5 w5)
    have hl5 := rv5.length
    have F5 := apart I5 n5
    obtain ⟨f0, f1, f2, f3, f4, f5⟩ := F5
    cases n with
    | zero =>
      have hot : HotAt X.A a s5.heap := ⟨hA, oe, vf, I5.base.keep a oe P3.1 P3.2.1 aS (fun z => aI (List.mem_singleton.mp z)), hf, hn⟩
      refine next_end_hot hot aI st5 p5.isList (by simp; omega) fun h' eb => ?_
      have I6 : Inv (X.blk s3 H3 scope ce [it]) [] (wipe σ (own.map (·.2))) H5 { s5 with heap := h' } := I5.turned (t' := s5.toks) (fun b o hb e => eb b o hb e) f0 f1 f3 f4 f5
      have I7 : Inv X pins σ H5 { s5 with heap := h' } := I3.call' (ch := [it]) I6.os I6.base I6.hok I6.bare fun b hb => ⟨(fp3 b hb).1.2.2.2.1, (fp3 b hb).1.2.1, (fp3 b hb).1.2.2.2.2.1, (fp3 b hb).1.2.2.2.2.2⟩
      have nC : H5 s3.heap.objs.size = none := by
        rw [← cL]
        exact I6.free
      obtain ⟨m, hm, _⟩ := I6.loc
      have hm : ({ s5 with heap := h' } : Shared).heap.Ns ce.locals m := hm
      rw [cL] at hm
      obtain ⟨k0, k1, k2, k3, k4, k5⟩ := I3.fpOk (Nat.le_refl _) nC
      refine ⟨m, hm, fun h'' sb => ⟨.ref D, H5, I7.turned (t' := s5.toks) (fun b o hb e => (sb.2 b hb).trans e) k0 k1 k3 k4 k5, rfl, fin H5 ?_⟩⟩
      have e : i = xs.length := by omega
      rw [← e]
      exact w5
    | succ n =>
      have hlt : i < xs.length := by omega
      obtain ⟨u, hu, ru⟩ := rv5.get (List.getElem?_eq_getElem hlt)
      refine wpAny_pyNext_list_item st5 p5.isList (x := u) (by simpa using hu) fun h' st6 sb => ?_
      have I6 : Inv (X.blk s3 H3 scope ce [it]) [] (wipe σ (own.map (·.2))) H5 { s5 with heap := h' } := I5.turned (t' := s5.toks) (fun b o hb e => (sb.2 b hb).trans e) f0 f1 f3 f4 f5
      obtain ⟨o6, e6, c6, d6⟩ := id st6
      refine go_of (s := { s5 with heap := h' }) e6 c6 d6 (by decide) ?_
      have I6' := I6.pinned (fp := [it]) (fun b hb => by rw [List.mem_singleton.mp hb]; exact apart I6 n5) (fun b hb => by rw [List.mem_singleton.mp hb]; exact ⟨o6, e6, fun v z => by rw [d6] at z; cases z⟩)
      refine thnF (pg.run _ _ _ H5 _ u _ I6' ru (step i _ H5 (List.getElem?_eq_getElem hlt) w5)) fun _ s8 ⟨σ8, H8, I8, hw8, q8⟩ => ?_
      refine wpAny_tests_nil ?_
      simp only [if_true]
      refine thnF (pe.run _ s8 σ8 H8 _ I8 q8) fun z s10 ⟨yv, H10, I10, r10, acc, hD10, hz10, nx⟩ => ?_
      refine app_ok (X := X.blk s3 H3 scope ce [it]) I10 hD10 hz10 r10 fun s11 I11 => ?_
      have pin := I11.pin (it, o6) (List.mem_append_right _ (List.mem_append_right _ (mem_pinsAt List.mem_cons_self e6)))
      refine ⟨n, Nat.lt_succ_self n, i + 1, _, by omega, (I11.unpinned (pins := [])).weak (by rw [← hw8, wipe_length]) (fun j v e => ?_), st6.at fun o e => ?_, pin.2.1, nx⟩
      · rw [← hw8] at e
        exact (wipe_some e).1
      · rw [e6] at e
        cases e
        exact pin.1
  exact codeAny_compStart_list loop (wpAny_pyIter_listiter st4 loop)
end
end Wm
namespace Wm
open PySem L2
/-- str(o), o an instance of the class at C, whose __str__ is the def at f -/
def rStrO (C : Addr) (sp : Sp) : List V → Hp → VK → Prop := fun xs H Q => ∃ (a dx : Addr) (fs : List (Str × V)), xs = [.ref a] ∧ H a = some (.ins C dx fs) ∧ sp [.ref a] H (fun v H' => ∃ z : Str, v = .str z ∧ Q (.str z) H') E0
theorem call_strO {X : Cx} {C f : Addr} {fd : FuncData} {k : Nat} {sp : Sp} (hs : PySem.W.findIn X.K (.ref C) "__str__" = some (some (.ref f))) (hf : PySem.W.isFn X.K (.ref f) = true) (F : FnOk X.prog X.w X.K X.mg X.base CX0 k f fd ["self"] sp) (hr : Room (k + 2) X.A) (hb : Binds X.K fd ["self"] []) :
    CallR X (.type "str") (rStrO C sp) := by
  intro pins s σ H xs us Q I r h
  obtain ⟨a, dx, fs, rfl, ha, h⟩ := h
  cases r with
  | cons rx rr =>
    cases rr
    cases rx
    obtain ⟨mA, ob, _⟩ := ins_get I.hok ha
    obtain ⟨od, J, _⟩ := ob.look
    have hr1 : Room (k + 1) X.A.in1 := hr.in1
    have hr2 : Room k X.A.in1.in1 := hr1.in1
    refine PySem.W.kso_call hr2.units0 I.kIn J hs hf ?_
    have hl : ([Value.ref a] ++ []).length = (["self"] : List Str).length := rfl
    have rv : Vals [V.ref a] [Value.ref a] := .cons rfl .nil
    refine wpAny_call (codeAny_mono (F.run X.A.in1.in1 X.stack s H ⟨[Value.ref a], []⟩ [Value.ref a] [V.ref a] _ E0 hr2 I.env0.in1.in1 (hb s [Value.ref a] I.kIn hl) rv h) fun r s' hq => ?_)
    cases r with
    | error e => exact hq.elim
    | ok fl =>
      cases fl with
      | ret u =>
        obtain ⟨v, H', J', ru, z, rfl, q⟩ := I.after (Q := fun v H' => ∃ z : Str, v = .str z ∧ Q (.str z) H') hq
        obtain ⟨t, rfl⟩ := ru
        exact ⟨.str z, H', J', ⟨t, rfl⟩, q⟩
      | next => exact False.elim hq
      | brk => exact False.elim hq
      | cont => exact False.elim hq
end Wm
namespace Wm
open L2 PySem PySem.W
/-- a def to which a caught error is handed within the suite that caught it -/
structure FnE (P : Program) (w : World) (K : Frag) (mg : Str → Option Value) (base : Heap) (k : Nat) (f : Addr) (fd : FuncData) (ps : List Str)
    (sp : Addr → Value → Option Addr → Sp) : Prop where
  len : ∀ a cls d vs H Q E, sp a cls d vs H Q E → vs.length = ps.length
  run : ∀ (A : Around) (outer : List Env) (s : Shared) (H : Hp) (args : Args) (us : List Value) (vs : List V) (Q : VK) (E : XK) (a : Addr) (oe : Obj) (cls : Value) (d : Option Addr),
    L2H.RoomH k A → A.handled = some (.ref a) → Zc cls d oe → (∃ vs, oe.data = .fields vs) → L2H.PinOk outer H s (a, oe) → Env0 P w K mg base A outer s H →
    BindsTo s fd args (ps.zip us) → Vals vs us → sp a cls d vs H Q E → codeAny (model P w) A (.call (.ref f) args) (CR CX0 outer P w H s Q E) s
theorem mark_self {A : Around} {a : Addr} (h : A.handled = some (.ref a)) : A.mark (some (.ref a)) = A := by
  cases A
  simp only at h
  subst h
  rfl
theorem fn_ofE {P : Program} {w : World} {K : Frag} {mg : Str → Option Value} {base : Heap} {k : Nat} {f : Addr} {name qual : Str} {params : Arguments} {body : List Stmt} {scope : Scope}
    {dV kV doc pm cdv ct oc : Value} {an od : Option Addr} {osl : Array (Option Value)} {N ps : List Str} {sp : Addr → Value → Option Addr → Sp}
    (lk : List.lookup f K = some { cls := oc, dict := od, data := .func (fnOf name qual params body scope dV kV doc pm an cdv ct), slots := osl })
    (hcd : codeIn K cdv qual = true) (S : FnScope N ps scope)
    (len : ∀ a cls d vs H Q E, sp a cls d vs H Q E → vs.length = ps.length)
    (hbody : ∀ (A : Around) (outer : List Env) (s : Shared) (H : Hp) (vs : List V) (Q : VK) (E : XK) (a : Addr) (oe : Obj) (cls : Value) (d : Option Addr),
      Zc cls d oe → (∃ vs, oe.data = .fields vs) → L2H.RoomH k (A.deeper (PyProof.Rows.envOfC qual scope s.heap.objs.size f cdv)) → sp a cls d vs H Q E →
      ∃ t, PSs ((cxOf CX0 P w K mg base N qual scope f cdv A outer s H E).suite a [(a, oe)]) body t ∧ t { nx := fun _ H' => Q .non H', rt := Q } (L2.start N vs) H) :
    FnE P w K mg base (k + 1) f (fnOf name qual params body scope dV kV doc pm an cdv ct) ps sp where
  len := len
  run := by
    intro A outer s H args us vs Q E a oe cls d hr hh hz hf hpin e0 hb r hsp
    have KX := Frag.In.keeps e0.mod.kin fun b o e => (e0.bs b o e).1
    have lim := Heap.NoLimit.keeps e0.mod.nolimit fun b o e => (e0.bs b o e).1
    refine codeAny_call_function hr.depth (KX f _ lk) rfl S.co S.gen rfl (codeRec_of KX hcd) (hb _ A.in1 _ _ (wpAny_newFunctionEnv_cells S.kind ?_ ?_))
    · rintro ⟨n, v⟩ hy
      rcases S.par n (List.of_mem_zip hy).1 with q | q
      · exact Or.inl q
      · exact Or.inr ⟨q, cellsFrom_some scope.names (s.heap.objs.size + 1) [] (Or.inl q)⟩
    · intro env he s1 x
      subst he
      refine ⟨Heap.NoLimit.keeps lim x.toInCall.keep, codeAny_func ?_⟩
      obtain ⟨t, ht, hq⟩ := hbody A outer s H vs Q E a oe cls d hz hf (L2H.RoomH.deeper hr _) hsp
      have I := L2H.inv_startH (CX := CX0) (E := E) S hpin e0 (len _ _ _ _ _ _ _ hsp) r x
      have hm : (A.deeper (PyProof.Rows.envOfC qual scope s.heap.objs.size f cdv)).mark (some (.ref a)) = A.deeper (PyProof.Rows.envOfC qual scope s.heap.objs.size f cdv) := mark_self hh
      have o := I.ok
      have I2 : Inv ((cxOf CX0 P w K mg base N qual scope f cdv A outer s H E).suite a [(a, oe)]) [] (L2.start N vs) H s1 :=
        ⟨⟨o.mod, o.kind, o.glob, o.blt, o.above, o.inj, o.has, o.cab, (fun h => by cases h), o.frames, o.stk, o.exf, o.bs, o.bsz, o.noex, o.exfs, o.funs, o.frf⟩,
          I.os, I.bare, I.base, I.loc, I.cell, I.free, I.freeC, I.pin, I.hok, I.len⟩
      have go := ht.run [] s1 (L2.start N vs) H { nx := fun _ H' => Q .non H', rt := Q } I2 hq
      dsimp only [Cx.suite, cxOf] at go
      rw [hm] at go
      refine wpAny_mono go (fun fl s' hs => ?_) fun e s' hs => hs.elim
      cases fl with
      | next =>
        obtain ⟨σ', H', J, q⟩ := hs
        exact ⟨.non, H', J.os, J.bare, J.base, J.hok, rfl, q⟩
      | brk =>
        obtain ⟨_, _, _, q⟩ := hs
        exact q.elim
      | cont =>
        obtain ⟨_, _, _, q⟩ := hs
        exact q.elim
      | ret u =>
        obtain ⟨v, σ', H', J, rv, q⟩ := hs
        exact ⟨v, H', J.os, J.bare, J.base, J.hok, rv, q⟩
theorem FunE_ok {P : Program} {w : World} {K : Frag} {mg : Str → Option Value} {base : Heap} {x qual : Str} {st : Stmt} {f : Addr} {fd : FuncData} {N ps : List Str} {k : Nat} {sp : Addr → Value → Option Addr → Sp}
    (F : Fun K x qual st f fd) (S : FnScope N ps (defScope st))
    (len : ∀ a cls d vs H Q E, sp a cls d vs H Q E → vs.length = ps.length)
    (hbody : ∀ (cdv : Value) (A : Around) (outer : List Env) (s : Shared) (H : Hp) (vs : List V) (Q : VK) (E : XK) (a : Addr) (oe : Obj) (cls : Value) (d : Option Addr),
      Zc cls d oe → (∃ vs, oe.data = .fields vs) → L2H.RoomH k (A.deeper (PyProof.Rows.envOfC qual (defScope st) s.heap.objs.size f cdv)) → sp a cls d vs H Q E →
      ∃ t, PSs ((cxOf CX0 P w K mg base N qual (defScope st) f cdv A outer s H E).suite a [(a, oe)]) (defBody st) t ∧ t { nx := fun _ H' => Q .non H', rt := Q } (L2.start N vs) H) :
    FnE P w K mg base (k + 1) f fd ps sp := by
  obtain ⟨oc, od, kV, doc, pm, an, cdv, ct, osl, rfl, lk, hcd⟩ := F.ex
  exact fn_ofE lk hcd S len fun A outer s H vs Q E a oe cls d hz hf hr hsp => hbody cdv A outer s H vs Q E a oe cls d hz hf hr hsp
/-- the call f(e, ..) of such a def within the suite -/
def tCallE (sp : Sp) (t : TA) : TE := fun σ H Q => t σ H fun vs H1 => sp vs H1 Q (fun _ _ _ => False)
theorem pe_callE {X : Cx} {k : Nat} {f : Addr} {fd : FuncData} {ps : List Str} {sp : Addr → Value → Option Addr → Sp} {a : Addr} {oe : Obj} {cls : Value} {d : Option Addr} {pn : List (Addr × Obj)}
    {x : Str} {q pos : Pos} {e : Expr} {es : List Expr} {t : TA}
    (F : FnE X.prog X.w X.K X.mg X.base k f fd ps sp) (hr : L2H.RoomH k X.A) (hz : Zc cls d oe) (hf : ∃ vs, oe.data = .fields vs) (hg : Gl X x) (hm : X.mg x = some (.ref f))
    (hk : keepIn X.K (.ref f) = true) (hb : L2.Binds X.K fd ps []) (ha : PA (X.suite a ((a, oe) :: pn)) (e :: es) t)
    (hdb : (x == Str.ofString "__debug__") = false := by rfl) (he : starEach (e :: es) X.env = (false, eval e X.env) :: starEach es X.env := by rfl)
    (hpl : ((backTo pos (starEach es X.env)).any fun x => x.1) = false := by rfl) :
    PE (X.suite a ((a, oe) :: pn)) (.Call (.Name x q) (e :: es) [] pos) (tCallE (sp a cls d) t) where
  run := by
    intro pins s σ H Q I h
    refine wpAny_Call_Name_kw (ld_glob I hg hm (callWith_K I.ok.mod.kin hk (thn (ha.run pos pins s σ H _ I h) ?_) he hpl) hdb)
    rintro us s1 ⟨vs, H1, I1, r, h1⟩
    refine ⟨I1.kIn, ?_⟩
    have P1 := I1.pin (a, oe) (List.mem_append_left _ (List.mem_cons_self ..))
    have hp : L2H.PinOk X.stack H1 s1 (a, oe) := ⟨P1.1, P1.2.1, fun hx => (List.mem_cons.mp (I1.stkSub a hx)).elim P1.2.2.1 P1.2.2.2.1, P1.2.2.2.2⟩
    have hl : (us ++ []).length = ps.length := by rw [List.append_nil, ← r.length]; exact F.len _ _ _ _ _ _ _ h1
    have b := hb s1 us I1.kIn hl
    rw [List.append_nil] at b
    have hr2 : L2H.RoomH k (X.suite a ((a, oe) :: pn)).A := ⟨hr.dp, hr.un⟩
    refine wpAny_call (codeAny_mono (F.run (X.suite a ((a, oe) :: pn)).A X.stack s1 H1 ⟨us, []⟩ us vs Q _ a oe cls d hr2 rfl hz hf hp I1.env0 b r h1) fun r s' hq => ?_)
    cases r with
    | error e => exact hq.elim
    | ok fl =>
      cases fl with
      | next => exact hq.elim
      | brk => exact hq.elim
      | cont => exact hq.elim
      | ret u => exact I1.after hq
end Wm
/-! own errors whose context is known to be None, from raise to the suite that hands them on -/
namespace Wm
open PySem PySem.Spec PyProof.Rows L2
section
variable {X : Cx} {e : Expr} {es : List Expr} {ta : TA} {p pos : Pos}
/-- an own error made: its context is None -/
theorem pmkN_oex {CX : CXT} {x : Str} {C fI : Addr} {k : Nat} {fd : FuncData} {ps : List Str} {sp : Sp} (T : OexC X.K C) (iC : PySem.W.findIn X.K (.ref C) "__init__" = some (some (.ref fI))) (tI : PySem.W.typeIn X.K (.ref fI) = some (.type "function"))
    (G : FnOk X.prog X.w X.K X.mg X.base CX k fI fd ps sp) (hr : Room (k + 1) X.A) (hb : L2.Binds X.K fd ps []) (hx : Passes CX X (fun _ _ _ => False)) (hg : Gl X x) (hm : X.mg x = some (.ref C)) (ha : PA X (e :: es) ta)
    (hdb : (x == ("__debug__" : Str)) = false := by decide) (he : starEach (e :: es) X.env = (false, eval e X.env) :: starEach es X.env := by rfl) (hpl : (backTo pos (starEach es X.env)).any (·.1) = false := by rfl) :
    L2N.PMk X (.Call (.Name x p) (e :: es) [] pos) (tMkO C sp [] ta) := by
  intro pins s σ H Q I h
  obtain ⟨nm, q, N, bs, bm, sn, sub, ab, col, dd, k0, k1, k2, k3, k5, hC, hbm⟩ := T.cls
  refine wpAny_Call_Name_kw (ld_glob I hg hm (PySem.W.callWith_K (h₀ := X.base) I.ok.mod.kin T.kC (thn (ha.run pos pins s σ H _ I h) ?_) he hpl) hdb)
  rintro us ⟨hp, g, dr, tk, os⟩ ⟨vs, H1, I1, r1, hz, q1⟩
  refine ⟨I1.kIn, ?_⟩
  generalize hA : hp.objs.size + 1 = A1 at *
  have le : hp.objs.size ≤ A1 := by omega
  have fr : H1 A1 = none := I1.hok.fresh le
  have hq := q1 A1 fr
  rw [List.append_nil] at hq
  have kp : ∀ b o, hp.get? b = some o → ((hp.push (PySem.W.kdv_tup us)).push (PySem.HandSPX.excO C hp.objs.size)).get? b = some o := fun b o z => Heap.get?_push_of_some _ (Heap.get?_push_of_some _ z)
  have new : ((hp.push (PySem.W.kdv_tup us)).push (PySem.HandSPX.excO C hp.objs.size)).get? A1 = some (PySem.HandSPX.excO C hp.objs.size) := by
    rw [← hA]
    heap_get
  have I2 : Inv X pins σ (upd H1 A1 (exo A1 C none)) ⟨(hp.push (PySem.W.kdv_tup us)).push (PySem.HandSPX.excO C hp.objs.size), g, dr, tk, os⟩ := I1.laid (t' := tk) (a := A1) (o := exo A1 C none) kp le (exo_ok new)
  have r2 : Vals (V.ref A1 :: vs) (Value.ref A1 :: us) := .cons rfl r1
  have ln : (Value.ref A1 :: us ++ []).length = ps.length := by
    rw [List.append_nil, ← r2.length]
    exact G.len _ _ _ _ hq
  have b2 := hb _ (Value.ref A1 :: us) I2.kIn ln
  rw [List.append_nil] at b2
  have big : us.length ≤ sizeLine := by
    rw [← Paired.length r1, sizeLine_eq]
    omega
  subst hA
  refine wpAny_call (PySem.HandSPX.call_own F.excBase_ValueError (fun Y => PySem.HandSPX.refsVE_contains Y bm hbm) (I1.kIn _ _ hC) (PySem.W.looks_findIn I1.kIn iC) (fun self => PySem.W.bind_fn I1.kIn self tI) big
    (codeAny_mono (G.run _ X.stack _ _ _ _ _ _ (fun _ _ _ => False) (hr.make C us []) (I2.env0.make C us []) b2 r2 hq) fun r s' hq' => ?_))
  cases r with
  | error er => exact hx pins σ _ _ er s' I2 hq'
  | ok fl =>
    cases fl with
    | next => exact hq'.elim
    | brk => exact hq'.elim
    | cont => exact hq'.elim
    | ret u =>
      obtain ⟨v, H2, os2, bare2, un2, hok2, rv, rfl, d, fs, ea, ed, hd1, q2⟩ := hq'
      obtain ⟨h2, g2, d2, t2, os'⟩ := s'
      obtain ⟨t0, W, J, kW, ge, hoe, na⟩ := mk_end0 (d2 := d2) (t2 := t2) I1 le kp un2 hok2 os2 bare2 ea ed hd1
      refine ⟨rv, hp.objs.size + 1, _, _, ⟨W, g2, d2, t2, os'⟩, _, .ref C, some d, rfl, J, kW, ge, hoe, ⟨rfl, rfl, fun vs hv => ?_⟩, rfl, rfl, na, rfl, bare2, raises_own T.exC T.tyC, q2⟩
      cases hv
      rfl
end
section
variable {P : Program} {w : World} {K : PySem.W.Frag} {mg : Str → Option Value} {base : Heap}
theorem okN {x qual : Str} {st : Stmt} {f : Addr} {fd : FuncData} {N ps : List Str} {k : Nat} {sp : Sp} (F : Fun K x qual st f fd) (S : FnScope N ps (defScope st)) (len : ∀ vs H Q E, sp vs H Q E → vs.length = ps.length)
    (hbody : ∀ (cdv : Value) (A : Around) (outer : List Env) (s : Shared) (H : Hp) (vs : List V) (Q : VK) (E : XK), Room k (A.deeper (envOfC qual (defScope st) s.heap.objs.size f cdv)) → sp vs H Q E →
      ∃ t, PSs (cxOf (L2N.CX P w) P w K mg base N qual (defScope st) f cdv A outer s H E) (defBody st) t ∧ t { nx := fun _ H' => Q .non H', rt := Q } (L2.start N vs) H) : FnOk P w K mg base (L2N.CX P w) (k + 1) f fd ps sp := by
  obtain ⟨oc, od, kV, doc, pm, an, cdv, ct, osl, rfl, lk, hcd⟩ := F.ex
  exact fn_of lk hcd S len fun A outer s H vs Q E hr hsp => hbody cdv A outer s H vs Q E hr hsp
end
/-- around a body nothing is let out -/
theorem takesN0 {X : Cx} : L2N.Takes X (fun _ _ _ _ => False) := fun _ _ x => by
  obtain ⟨_, _, _, _, _, _, _, _, _, _, _, _, _, _, _, _, z⟩ := x
  exact z.elim
end Wm
namespace Wm
open L2 PySem PySem.W
/-- a def to which a caught error is handed within the suite that caught it -/
structure FnEN (P : Program) (w : World) (K : Frag) (mg : Str → Option Value) (base : Heap) (k : Nat) (f : Addr) (fd : FuncData) (ps : List Str)
    (sp : Addr → Value → Option Addr → Sp) : Prop where
  len : ∀ a cls d vs H Q E, sp a cls d vs H Q E → vs.length = ps.length
  run : ∀ (A : Around) (outer : List Env) (s : Shared) (H : Hp) (args : Args) (us : List Value) (vs : List V) (Q : VK) (E : XK) (a : Addr) (oe : Obj) (cls : Value) (d : Option Addr),
    L2H.RoomH k A → A.handled = some (.ref a) → L2N.Zn cls d oe → (∃ vs, oe.data = .fields vs) → L2H.PinOk outer H s (a, oe) → Env0 P w K mg base A outer s H →
    BindsTo s fd args (ps.zip us) → Vals vs us → sp a cls d vs H Q E → codeAny (model P w) A (.call (.ref f) args) (CR CX0 outer P w H s Q E) s
theorem fn_ofEN {P : Program} {w : World} {K : Frag} {mg : Str → Option Value} {base : Heap} {k : Nat} {f : Addr} {name qual : Str} {params : Arguments} {body : List Stmt} {scope : Scope}
    {dV kV doc pm cdv ct oc : Value} {an od : Option Addr} {osl : Array (Option Value)} {N ps : List Str} {sp : Addr → Value → Option Addr → Sp}
    (lk : List.lookup f K = some { cls := oc, dict := od, data := .func (fnOf name qual params body scope dV kV doc pm an cdv ct), slots := osl })
    (hcd : codeIn K cdv qual = true) (S : FnScope N ps scope)
    (len : ∀ a cls d vs H Q E, sp a cls d vs H Q E → vs.length = ps.length)
    (hbody : ∀ (A : Around) (outer : List Env) (s : Shared) (H : Hp) (vs : List V) (Q : VK) (E : XK) (a : Addr) (oe : Obj) (cls : Value) (d : Option Addr),
      L2N.Zn cls d oe → (∃ vs, oe.data = .fields vs) → L2H.RoomH k (A.deeper (PyProof.Rows.envOfC qual scope s.heap.objs.size f cdv)) → sp a cls d vs H Q E →
      ∃ t, PSs ((cxOf CX0 P w K mg base N qual scope f cdv A outer s H E).suite a [(a, oe)]) body t ∧ t { nx := fun _ H' => Q .non H', rt := Q } (L2.start N vs) H) :
    FnEN P w K mg base (k + 1) f (fnOf name qual params body scope dV kV doc pm an cdv ct) ps sp where
  len := len
  run := by
    intro A outer s H args us vs Q E a oe cls d hr hh hz hf hpin e0 hb r hsp
    have KX := Frag.In.keeps e0.mod.kin fun b o e => (e0.bs b o e).1
    have lim := Heap.NoLimit.keeps e0.mod.nolimit fun b o e => (e0.bs b o e).1
    refine codeAny_call_function hr.depth (KX f _ lk) rfl S.co S.gen rfl (codeRec_of KX hcd) (hb _ A.in1 _ _ (wpAny_newFunctionEnv_cells S.kind ?_ ?_))
    · rintro ⟨n, v⟩ hy
      rcases S.par n (List.of_mem_zip hy).1 with q | q
      · exact Or.inl q
      · exact Or.inr ⟨q, cellsFrom_some scope.names (s.heap.objs.size + 1) [] (Or.inl q)⟩
    · intro env he s1 x
      subst he
      refine ⟨Heap.NoLimit.keeps lim x.toInCall.keep, codeAny_func ?_⟩
      obtain ⟨t, ht, hq⟩ := hbody A outer s H vs Q E a oe cls d hz hf (L2H.RoomH.deeper hr _) hsp
      have I := L2H.inv_startH (CX := CX0) (E := E) S hpin e0 (len _ _ _ _ _ _ _ hsp) r x
      have hm : (A.deeper (PyProof.Rows.envOfC qual scope s.heap.objs.size f cdv)).mark (some (.ref a)) = A.deeper (PyProof.Rows.envOfC qual scope s.heap.objs.size f cdv) := mark_self hh
      have o := I.ok
      have I2 : Inv ((cxOf CX0 P w K mg base N qual scope f cdv A outer s H E).suite a [(a, oe)]) [] (L2.start N vs) H s1 :=
        ⟨⟨o.mod, o.kind, o.glob, o.blt, o.above, o.inj, o.has, o.cab, (fun h => by cases h), o.frames, o.stk, o.exf, o.bs, o.bsz, o.noex, o.exfs, o.funs, o.frf⟩,
          I.os, I.bare, I.base, I.loc, I.cell, I.free, I.freeC, I.pin, I.hok, I.len⟩
      have go := ht.run [] s1 (L2.start N vs) H { nx := fun _ H' => Q .non H', rt := Q } I2 hq
      dsimp only [Cx.suite, cxOf] at go
      rw [hm] at go
      refine wpAny_mono go (fun fl s' hs => ?_) fun e s' hs => hs.elim
      cases fl with
      | next =>
        obtain ⟨σ', H', J, q⟩ := hs
        exact ⟨.non, H', J.os, J.bare, J.base, J.hok, rfl, q⟩
      | brk =>
        obtain ⟨_, _, _, q⟩ := hs
        exact q.elim
      | cont =>
        obtain ⟨_, _, _, q⟩ := hs
        exact q.elim
      | ret u =>
        obtain ⟨v, σ', H', J, rv, q⟩ := hs
        exact ⟨v, H', J.os, J.bare, J.base, J.hok, rv, q⟩
theorem FunEN_ok {P : Program} {w : World} {K : Frag} {mg : Str → Option Value} {base : Heap} {x qual : Str} {st : Stmt} {f : Addr} {fd : FuncData} {N ps : List Str} {k : Nat} {sp : Addr → Value → Option Addr → Sp}
    (F : Fun K x qual st f fd) (S : FnScope N ps (defScope st))
    (len : ∀ a cls d vs H Q E, sp a cls d vs H Q E → vs.length = ps.length)
    (hbody : ∀ (cdv : Value) (A : Around) (outer : List Env) (s : Shared) (H : Hp) (vs : List V) (Q : VK) (E : XK) (a : Addr) (oe : Obj) (cls : Value) (d : Option Addr),
      L2N.Zn cls d oe → (∃ vs, oe.data = .fields vs) → L2H.RoomH k (A.deeper (PyProof.Rows.envOfC qual (defScope st) s.heap.objs.size f cdv)) → sp a cls d vs H Q E →
      ∃ t, PSs ((cxOf CX0 P w K mg base N qual (defScope st) f cdv A outer s H E).suite a [(a, oe)]) (defBody st) t ∧ t { nx := fun _ H' => Q .non H', rt := Q } (L2.start N vs) H) :
    FnEN P w K mg base (k + 1) f fd ps sp := by
  obtain ⟨oc, od, kV, doc, pm, an, cdv, ct, osl, rfl, lk, hcd⟩ := F.ex
  exact fn_ofEN lk hcd S len fun A outer s H vs Q E a oe cls d hz hf hr hsp => hbody cdv A outer s H vs Q E a oe cls d hz hf hr hsp
theorem pe_callEN {X : Cx} {k : Nat} {f : Addr} {fd : FuncData} {ps : List Str} {sp : Addr → Value → Option Addr → Sp} {a : Addr} {oe : Obj} {cls : Value} {d : Option Addr} {pn : List (Addr × Obj)}
    {x : Str} {q pos : Pos} {e : Expr} {es : List Expr} {t : TA}
    (F : FnEN X.prog X.w X.K X.mg X.base k f fd ps sp) (hr : L2H.RoomH k X.A) (hz : L2N.Zn cls d oe) (hf : ∃ vs, oe.data = .fields vs) (hg : Gl X x) (hm : X.mg x = some (.ref f))
    (hk : keepIn X.K (.ref f) = true) (hb : L2.Binds X.K fd ps []) (ha : PA (X.suite a ((a, oe) :: pn)) (e :: es) t)
    (hdb : (x == Str.ofString "__debug__") = false := by rfl) (he : starEach (e :: es) X.env = (false, eval e X.env) :: starEach es X.env := by rfl)
    (hpl : ((backTo pos (starEach es X.env)).any fun x => x.1) = false := by rfl) :
    PE (X.suite a ((a, oe) :: pn)) (.Call (.Name x q) (e :: es) [] pos) (tCallE (sp a cls d) t) where
  run := by
    intro pins s σ H Q I h
    refine wpAny_Call_Name_kw (ld_glob I hg hm (callWith_K I.ok.mod.kin hk (thn (ha.run pos pins s σ H _ I h) ?_) he hpl) hdb)
    rintro us s1 ⟨vs, H1, I1, r, h1⟩
    refine ⟨I1.kIn, ?_⟩
    have P1 := I1.pin (a, oe) (List.mem_append_left _ (List.mem_cons_self ..))
    have hp : L2H.PinOk X.stack H1 s1 (a, oe) := ⟨P1.1, P1.2.1, fun hx => (List.mem_cons.mp (I1.stkSub a hx)).elim P1.2.2.1 P1.2.2.2.1, P1.2.2.2.2⟩
    have hl : (us ++ []).length = ps.length := by rw [List.append_nil, ← r.length]; exact F.len _ _ _ _ _ _ _ h1
    have b := hb s1 us I1.kIn hl
    rw [List.append_nil] at b
    have hr2 : L2H.RoomH k (X.suite a ((a, oe) :: pn)).A := ⟨hr.dp, hr.un⟩
    refine wpAny_call (codeAny_mono (F.run (X.suite a ((a, oe) :: pn)).A X.stack s1 H1 ⟨us, []⟩ us vs Q _ a oe cls d hr2 rfl hz hf hp I1.env0 b r h1) fun r s' hq => ?_)
    cases r with
    | error e => exact hq.elim
    | ok fl =>
      cases fl with
      | next => exact hq.elim
      | brk => exact hq.elim
      | cont => exact hq.elim
      | ret u => exact I1.after hq
end Wm
namespace Wm
open PySem PySem.Spec PyProof.Rows L2
/-- len(o), o an instance of the class at C, whose __len__ is the def at f -/
def rLenO (C : Addr) (sp : Sp) : List V → Hp → VK → Prop := fun xs H Q => ∃ (a dx : Addr) (fs : List (Str × V)), xs = [.ref a] ∧ H a = some (.ins C dx fs) ∧ sp [.ref a] H (fun v H' => ∃ n : Nat, v = .int n ∧ n ≤ 1000000 ∧ Q (.int n) H') E0
theorem call_lenO {X : Cx} {C f : Addr} {fd : FuncData} {k : Nat} {sp : Sp} (hs : PySem.W.findIn X.K (.ref C) "__len__" = some (some (.ref f))) (hf : PySem.W.isFn X.K (.ref f) = true) (F : FnOk X.prog X.w X.K X.mg X.base CX0 k f fd ["self"] sp) (hr : Room (k + 1) X.A) (hb : L2.Binds X.K fd ["self"] []) :
    CallR X (.builtin "len") (rLenO C sp) := by
  intro pins s σ H xs us Q I r h
  obtain ⟨a, dx, fs, rfl, ha, h⟩ := h
  cases r with
  | cons rx rr =>
    cases rr
    cases rx
    obtain ⟨mA, ob, _⟩ := ins_get I.hok ha
    obtain ⟨od, J, _⟩ := ob.look
    have hr1 : Room k X.A.in1 := hr.in1
    obtain ⟨m, hF⟩ := I.fr
    refine PySem.W.len_K hF I.ok.mod.kin J hs hf ?_
    have hl : ([Value.ref a] ++ []).length = (["self"] : List Str).length := rfl
    have rv : Vals [V.ref a] [Value.ref a] := .cons rfl .nil
    refine wpAny_call (codeAny_mono (F.run X.A.in1 X.stack s H ⟨[Value.ref a], []⟩ [Value.ref a] [V.ref a] _ E0 hr1 I.env0.in1 (hb s [Value.ref a] I.kIn hl) rv h) fun r s' hq => ?_)
    cases r with
    | error e => exact hq.elim
    | ok fl =>
      cases fl with
      | ret u =>
        obtain ⟨v, H', J', ru, n, rfl, hn, q⟩ := I.after (Q := fun v H' => ∃ n : Nat, v = .int n ∧ n ≤ 1000000 ∧ Q (.int n) H') hq
        obtain ⟨t, rfl⟩ := ru
        exact ⟨⟨by omega, by omega⟩, .int n, H', J'.tok _, ⟨_, rfl⟩, q⟩
      | next => exact False.elim hq
      | brk => exact False.elim hq
      | cont => exact False.elim hq
section
variable {X : Cx} {p pos : Pos}
/-- an own error made with nothing handed in: its context is None -/
theorem pmkN_oex0 {CX : CXT} {x : Str} {C fI : Addr} {k : Nat} {fd : FuncData} {ps : List Str} {sp : Sp} (T : OexC X.K C) (iC : PySem.W.findIn X.K (.ref C) "__init__" = some (some (.ref fI))) (tI : PySem.W.typeIn X.K (.ref fI) = some (.type "function"))
    (G : FnOk X.prog X.w X.K X.mg X.base CX k fI fd ps sp) (hr : Room (k + 1) X.A) (hb : L2.Binds X.K fd ps []) (hx : Passes CX X (fun _ _ _ => False)) (hg : Gl X x) (hm : X.mg x = some (.ref C))
    (hdb : (x == ("__debug__" : Str)) = false := by decide) :
    L2N.PMk X (.Call (.Name x p) [] [] pos) (tMkO C sp [] tNil) := by
  intro pins s σ H Q I h
  obtain ⟨nm, q, N, bs, bm, sn, sub, ab, col, dd, k0, k1, k2, k3, k5, hC, hbm⟩ := T.cls
  refine wpAny_Call_Name_kw (ld_glob I hg hm (PySem.W.callWith_K0 I.kIn T.kC ?_) hdb)
  obtain ⟨hp, g, dr, tk, os⟩ := s
  obtain ⟨hz, q1⟩ := h
  generalize hA : hp.objs.size + 1 = A1 at *
  have le : hp.objs.size ≤ A1 := by omega
  have fr : H A1 = none := I.hok.fresh le
  have hq := q1 A1 fr
  rw [List.append_nil] at hq
  have kp : ∀ b o, hp.get? b = some o → ((hp.push (PySem.W.kdv_tup [])).push (PySem.HandSPX.excO C hp.objs.size)).get? b = some o := fun b o z => Heap.get?_push_of_some _ (Heap.get?_push_of_some _ z)
  have new : ((hp.push (PySem.W.kdv_tup [])).push (PySem.HandSPX.excO C hp.objs.size)).get? A1 = some (PySem.HandSPX.excO C hp.objs.size) := by
    rw [← hA]
    heap_get
  have I2 : Inv X pins σ (upd H A1 (exo A1 C none)) ⟨(hp.push (PySem.W.kdv_tup [])).push (PySem.HandSPX.excO C hp.objs.size), g, dr, tk, os⟩ := I.laid (t' := tk) (a := A1) (o := exo A1 C none) kp le (exo_ok new)
  have r2 : Vals (V.ref A1 :: []) (Value.ref A1 :: []) := .cons rfl .nil
  have ln : (Value.ref A1 :: [] ++ []).length = ps.length := by
    rw [List.append_nil, ← r2.length]
    exact G.len _ _ _ _ hq
  have b2 := hb _ (Value.ref A1 :: []) I2.kIn ln
  rw [List.append_nil] at b2
  subst hA
  refine wpAny_call (PySem.HandSPX.call_own F.excBase_ValueError (fun Y => PySem.HandSPX.refsVE_contains Y bm hbm) (I.kIn _ _ hC) (PySem.W.looks_findIn I.kIn iC) (fun self => PySem.W.bind_fn I.kIn self tI) (Nat.zero_le _)
    (codeAny_mono (G.run _ X.stack _ _ _ _ _ _ (fun _ _ _ => False) (hr.make C [] []) (I2.env0.make C [] []) b2 r2 hq) fun r s' hq' => ?_))
  cases r with
  | error er => exact hx pins σ _ _ er s' I2 hq'
  | ok fl =>
    cases fl with
    | next => exact hq'.elim
    | brk => exact hq'.elim
    | cont => exact hq'.elim
    | ret u =>
      obtain ⟨v, H2, os2, bare2, un2, hok2, rv, rfl, d, fs, ea, ed, hd1, q2⟩ := hq'
      obtain ⟨h2, g2, d2, t2, os'⟩ := s'
      obtain ⟨t0, W, J, kW, ge, hoe, na⟩ := mk_end0 (d2 := d2) (t2 := t2) I le kp un2 hok2 os2 bare2 ea ed hd1
      refine ⟨rv, hp.objs.size + 1, _, _, ⟨W, g2, d2, t2, os'⟩, _, .ref C, some d, rfl, J, kW, ge, hoe, ⟨rfl, rfl, fun vs hv => ?_⟩, rfl, rfl, na, rfl, bare2, raises_own T.exC T.tyC, q2⟩
      cases hv
      rfl
end
end Wm
namespace Wm
open PySem L2 StX
abbrev Thing := Str × Str × Bool
abbrev T3 := Str × Str × Str
def k1 (th : List Thing) : List (L2.Key × V) := th.map fun t => (Sum.inr t.1, .str t.2.1)
def k2 (th : List Thing) : List (L2.Key × V) := th.map fun t => (Sum.inr t.1, .bl t.2.2)
def k3 (ts : List T3) : List (List L2.Key × V) := ts.map fun t => (triK t, .bl true)
def nmL (th : List Thing) : List Str := th.map (·.1)
theorem val_is {κ : Type} [DecidableEq κ] (kvs : List (κ × V)) (k : κ) : (valV kvs k).isSome = decide (k ∈ kvs.map (·.1)) := by
  unfold valV
  rw [Option.isSome_map]
  by_cases h : k ∈ kvs.map (·.1)
  · rw [decide_eq_true h, List.find?_isSome]
    obtain ⟨x, hx, e⟩ := List.mem_map.mp h
    exact ⟨x, hx, decide_eq_true e⟩
  · rw [decide_eq_false h]
    cases e : kvs.find? (fun kv => decide (kv.1 = k)) with
    | none => rfl
    | some x =>
      have q := List.find?_some e
      exact (h (List.mem_map.mpr ⟨x, List.mem_of_find?_eq_some e, of_decide_eq_true q⟩)).elim
theorem keys1 (th : List Thing) : (k1 th).map (·.1) = (nmL th).map Sum.inr := by
  unfold k1 nmL
  rw [List.map_map, List.map_map]
  rfl
theorem keys2 (th : List Thing) : (k2 th).map (·.1) = (nmL th).map Sum.inr := by
  unfold k2 nmL
  rw [List.map_map, List.map_map]
  rfl
theorem inr_mem {n : Str} {l : List Str} : (Sum.inr n : L2.Key) ∈ l.map Sum.inr ↔ n ∈ l := by
  rw [List.mem_map]
  exact ⟨fun ⟨x, hx, e⟩ => by cases e; exact hx, fun h => ⟨n, h, rfl⟩⟩
theorem is1 (th : List Thing) (n : Str) : (valV (k1 th) (Sum.inr n)).isSome = decide (n ∈ nmL th) := by
  rw [val_is, keys1]
  exact decide_eq_decide.mpr inr_mem
theorem is2 (th : List Thing) (n : Str) : (valV (k2 th) (Sum.inr n)).isSome = decide (n ∈ nmL th) := by
  rw [val_is, keys2]
  exact decide_eq_decide.mpr inr_mem
theorem put_new {κ : Type} [DecidableEq κ] {kvs : List (κ × V)} {k : κ} {v : V} (h : k ∉ kvs.map (·.1)) : putK kvs k v = kvs ++ [(k, v)] := by
  unfold putK
  rw [if_neg]
  intro e
  obtain ⟨x, hx, q⟩ := List.any_eq_true.mp e
  exact h (List.mem_map.mpr ⟨x, hx, of_decide_eq_true q⟩)
theorem new1 {th : List Thing} {n s : Str} {b : Bool} (h : n ∉ nmL th) : putK (k1 th) (Sum.inr n) (.str s) = k1 (th ++ [(n, s, b)]) := by
  rw [put_new (by rw [keys1]; exact fun z => h (inr_mem.mp z))]
  unfold k1
  rw [List.map_append]
  rfl
theorem new2 {th : List Thing} {n s : Str} {b : Bool} (h : n ∉ nmL th) : putK (k2 th) (Sum.inr n) (.bl b) = k2 (th ++ [(n, s, b)]) := by
  rw [put_new (by rw [keys2]; exact fun z => h (inr_mem.mp z))]
  unfold k2
  rw [List.map_append]
  rfl
theorem triK_inj {t u : T3} (h : triK t = triK u) : t = u := by
  obtain ⟨a, b, c⟩ := t
  obtain ⟨d, e, f⟩ := u
  simp only [triK, List.cons.injEq, Sum.inr.injEq, and_true] at h
  obtain ⟨rfl, rfl, rfl⟩ := h
  rfl
theorem keys3 (ts : List T3) : (k3 ts).map (·.1) = ts.map triK := by
  unfold k3
  rw [List.map_map]
  rfl
/-- who is awake -/
def awk (th : List Thing) (n : Str) : Option Bool := (th.find? fun t => decide (t.1 = n)).map (·.2.2)
theorem val2 (th : List Thing) (n : Str) : valV (k2 th) (Sum.inr n) = (awk th n).map V.bl := by
  unfold valV k2 awk
  rw [List.find?_map]
  have e : ((fun kv : L2.Key × V => decide (kv.1 = Sum.inr n)) ∘ fun t : Thing => ((Sum.inr t.1 : L2.Key), V.bl t.2.2)) = fun t : Thing => decide (t.1 = n) := by
    funext t
    exact decide_eq_decide.mpr ⟨fun z => Sum.inr.inj z, fun z => congrArg Sum.inr z⟩
  rw [e, Option.map_map, Option.map_map]
  rfl
theorem awk_some {th : List Thing} {n : Str} (h : n ∈ nmL th) : ∃ b, awk th n = some b := by
  have q : (valV (k2 th) (Sum.inr n)).isSome = true := by
    rw [is2]
    exact decide_eq_true h
  rw [val2, Option.isSome_map] at q
  exact Option.isSome_iff_exists.mp q
def srt (th : List Thing) (n : Str) : Option Str := (th.find? fun t => decide (t.1 = n)).map (·.2.1)
theorem val1s (th : List Thing) (n : Str) : valV (k1 th) (Sum.inr n) = (srt th n).map V.str := by
  unfold valV k1 srt
  rw [List.find?_map]
  have e : ((fun kv : L2.Key × V => decide (kv.1 = Sum.inr n)) ∘ fun t : Thing => ((Sum.inr t.1 : L2.Key), V.str t.2.1)) = fun t : Thing => decide (t.1 = n) := by
    funext t
    exact decide_eq_decide.mpr ⟨fun z => Sum.inr.inj z, fun z => congrArg Sum.inr z⟩
  rw [e, Option.map_map, Option.map_map]
  rfl
theorem find_nd {th : List Thing} {t : Thing} (nd : (nmL th).Nodup) (h : t ∈ th) : (th.find? fun u => decide (u.1 = t.1)) = some t := by
  induction th with
  | nil => cases h
  | cons u r ih =>
    have nd' : (u.1 :: nmL r).Nodup := nd
    rw [List.nodup_cons] at nd'
    rcases List.mem_cons.mp h with e | h
    · rw [← e, List.find?_cons_of_pos (by exact decide_eq_true rfl)]
    · have ne : ¬ u.1 = t.1 := fun e => nd'.1 (by rw [e]; exact List.mem_map.mpr ⟨t, h, rfl⟩)
      rw [List.find?_cons_of_neg (by simpa using ne)]
      exact ih nd'.2 h
def hsF (sc d1 d2 d3 : Addr) : List (Str × V) := putF "standing" (.ref d3) (putF "awake_by_name" (.ref d2) (putF "sort_by_name" (.ref d1) (putF "own_scheme" (.ref sc) [])))
theorem hsF_sc (sc d1 d2 d3 : Addr) : (hsF sc d1 d2 d3).lookup ("own_scheme" : Str) = some (.ref sc) := by
  unfold hsF
  rw [lookN (by decide +kernel), lookN (by decide +kernel), lookN (by decide +kernel), lookF]
theorem hsF_1 (sc d1 d2 d3 : Addr) : (hsF sc d1 d2 d3).lookup ("sort_by_name" : Str) = some (.ref d1) := by
  unfold hsF
  rw [lookN (by decide +kernel), lookN (by decide +kernel), lookF]
theorem hsF_2 (sc d1 d2 d3 : Addr) : (hsF sc d1 d2 d3).lookup ("awake_by_name" : Str) = some (.ref d2) := by
  unfold hsF
  rw [lookN (by decide +kernel), lookF]
theorem hsF_3 (sc d1 d2 d3 : Addr) : (hsF sc d1 d2 d3).lookup ("standing" : Str) = some (.ref d3) := by
  unfold hsF
  rw [lookF]
theorem hsF_no {f : Str} (h1 : ¬ f = "standing") (h2 : ¬ f = "awake_by_name") (h3 : ¬ f = "sort_by_name") (h4 : ¬ f = "own_scheme") (sc d1 d2 d3 : Addr) : (hsF sc d1 d2 d3).lookup f = none := by
  unfold hsF
  rw [lookN h1, lookN h2, lookN h3, lookN h4]
  rfl
theorem schF_no {f : Str} (h1 : ¬ f = "own_bars") (h2 : ¬ f = "own_rules") (h3 : ¬ f = "own_makings") (h4 : ¬ f = "own_words") (h5 : ¬ f = "own_sorts") (l1 l2 l3 l4 l5 : Addr) : (schF l1 l2 l3 l4 l5).lookup f = none := by
  unfold schF
  rw [lookN h1, lookN h2, lookN h3, lookN h4, lookN h5]
  rfl
structure TxH (K : PySem.W.Frag) (mg : Str → Option Value) (HC fH : Addr) : Prop where
  cl : Cls K HC
  n0 : NoAttr K HC "own_scheme"
  n1 : NoAttr K HC "sort_by_name"
  n2 : NoAttr K HC "awake_by_name"
  n3 : NoAttr K HC "standing"
  g : mg "House" = some (.ref HC)
  m : Mk K HC fH
structure HsAt (HC S : Addr) (H : Hp) (x dx sc d1 d2 d3 : Addr) (ss ws : List Str) (th : List Thing) (ts : List T3) : Prop where
  hx : H x = some (.ins HC dx (hsF sc d1 d2 d3))
  hs : SchAt S H sc ss ws
  h1 : H d1 = some (.dK (k1 th))
  h2 : H d2 = some (.dK (k2 th))
  h3 : H d3 = some (.dT (k3 ts))
  ne : d1 ≠ d2
theorem SchAt.same {S x : Addr} {H H' : Hp} {ss ws : List Str} (s : Same H H') (h : SchAt S H x ss ws) : SchAt S H' x ss ws := by
  obtain ⟨dx, l1, l2, l3, l4, l5, a, b, c⟩ := h.ex
  exact ⟨dx, l1, l2, l3, l4, l5, s _ _ a, s _ _ b, s _ _ c⟩
theorem SchAt.but {S x d : Addr} {H H' : Hp} {ss ws : List Str} {o : HO} (s : But d H H') (hd : H d = some o) (n1 : ∀ C dx fs, o ≠ .ins C dx fs) (n2 : ∀ xs, o ≠ .lst xs) (h : SchAt S H x ss ws) : SchAt S H' x ss ws := by
  obtain ⟨dx, l1, l2, l3, l4, l5, a, b, c⟩ := h.ex
  exact ⟨dx, l1, l2, l3, l4, l5, s _ _ (ne_of a hd (n1 _ _ _).symm) a, s _ _ (ne_of b hd (n2 _).symm) b, s _ _ (ne_of c hd (n2 _).symm) c⟩
theorem HsAt.same {HC S x dx sc d1 d2 d3 : Addr} {H H' : Hp} {ss ws : List Str} {th : List Thing} {ts : List T3} (s : Same H H') (h : HsAt HC S H x dx sc d1 d2 d3 ss ws th ts) : HsAt HC S H' x dx sc d1 d2 d3 ss ws th ts :=
  ⟨s _ _ h.hx, h.hs.same s, s _ _ h.h1, s _ _ h.h2, s _ _ h.h3, h.ne⟩
/-- behind a change of a list that is none of the house's -/
theorem HsAt.but {HC S x dx sc d1 d2 d3 p : Addr} {H H' : Hp} {ss ws : List Str} {th : List Thing} {ts : List T3} (s : But p H H') (st : StOk H p) (hp : ∀ l1 l2 : Addr, H l1 = some (.lst (ss.map V.str)) → H l2 = some (.lst (ws.map V.str)) → l1 ≠ p ∧ l2 ≠ p) (h : HsAt HC S H x dx sc d1 d2 d3 ss ws th ts) : HsAt HC S H' x dx sc d1 d2 d3 ss ws th ts := by
  obtain ⟨a, b, c, e, _⟩ := st
  obtain ⟨dy, l1, l2, l3, l4, l5, q1, q2, q3⟩ := h.hs.ex
  have z := hp l1 l2 q2 q3
  exact ⟨s _ _ (ne_of h.hx e (by intro z; cases z)) h.hx, ⟨dy, l1, l2, l3, l4, l5, s _ _ (ne_of q1 e (by intro z; cases z)) q1, s _ _ z.1 q2, s _ _ z.2 q3⟩, s _ _ (ne_of h.h1 e (by intro z; cases z)) h.h1, s _ _ (ne_of h.h2 e (by intro z; cases z)) h.h2, s _ _ (ne_of h.h3 e (by intro z; cases z)) h.h3, h.ne⟩
def spHin (HC : Addr) : Sp := fun vs H Q _ => ∃ (H0 : Hp) (x dx sc : Addr), vs = [.ref x, .ref sc] ∧ Same H0 H ∧ H0 x = none ∧ H x = some (.ins HC dx []) ∧
  ∀ d1 d2 d3 H', H0 d1 = none → H0 d2 = none → H0 d3 = none → d1 ≠ d2 → Same H0 H' → H' x = some (.ins HC dx (hsF sc d1 d2 d3)) → H' d1 = some (.dK []) → H' d2 = some (.dK []) → H' d3 = some (.dT []) → Q .non H'
/-- why a thing is not let in -/
inductive Rf where
  | one (i : Nat) (z : Str)
  | full
def kdOf : Nat → Str
  | 0 => "noname"
  | 1 => "taken"
  | _ => "nosort"
structure Er4 where
  c0 : Addr
  c1 : Addr
  c2 : Addr
  c8 : Addr
def clsOf (e : Er4) : Rf → Addr
  | .one 0 _ => e.c0
  | .one 1 _ => e.c1
  | .one _ _ => e.c2
  | .full => e.c8
def fsOf : Rf → List (Str × V)
  | .one i z => ef1 "name" (kdOf i) (.str z)
  | .full => ef0
def tupOf : Rf → List V
  | .one i z => [.str (kdOf i), .str z]
  | .full => [.str "full"]
def entD (ss : List Str) (th : List Thing) (n so : Str) : Option Rf :=
  if isNm n = true then (if n ∈ nmL th then some (.one 1 n) else if so ∈ ss then (if th.length < 60 then none else some .full) else some (.one 2 so)) else some (.one 0 n)
def DueR (e : Er4) (o : Option Rf) (H : Hp) (Q : Prop) (E : XK) : Prop := match o with
  | none => Q
  | some r => ∀ d H', H d = none → Same H H' → H' d = some (.xd (fsOf r)) → E (.ref (clsOf e r)) (some d) H'
def spRNx (K : PySem.W.Frag) (C : Addr) : Sp := fun vs H Q E => ∃ (l : Addr) (z : Str), vs = [.ref l] ∧ SqL K H l [.str z] ∧ z.length ≤ 1000 ∧ if isNm z = true then ∀ H', Same H H' → Q .non H' else ∀ d H', H d = none → Same H H' → H' d = some (.xd (ef1 "name" "noname" (.str z))) → E (.ref C) (some d) H'
def spHln (HC S : Addr) : Sp := fun vs H Q _ => ∃ (x dx sc d1 d2 d3 : Addr) (ss ws : List Str) (th : List Thing) (ts : List T3), vs = [.ref x] ∧ HsAt HC S H x dx sc d1 d2 d3 ss ws th ts ∧ Q (.int th.length) H
def spHrt (HC S : Addr) : Sp := fun vs H Q _ => ∃ (x dx sc d1 d2 d3 : Addr) (n : Str) (ss ws : List Str) (th : List Thing) (ts : List T3), vs = [.ref x, .str n] ∧ HsAt HC S H x dx sc d1 d2 d3 ss ws th ts ∧ n ∈ nmL th ∧ Q .non H
def spHrtN (HC S C : Addr) : Sp := fun vs H Q E => ∃ (x dx sc d1 d2 d3 : Addr) (n : Str) (ss ws : List Str) (th : List Thing) (ts : List T3), vs = [.ref x, .str n] ∧ HsAt HC S H x dx sc d1 d2 d3 ss ws th ts ∧ n ∉ nmL th ∧ ∀ d H', H d = none → Same H H' → H' d = some (.xd (ef1 "name" "nothing" (.str n))) → E (.ref C) (some d) H'
def spHso (HC S : Addr) : Sp := fun vs H Q _ => ∃ (x dx sc d1 d2 d3 : Addr) (n s0 : Str) (ss ws : List Str) (th : List Thing) (ts : List T3), vs = [.ref x, .str n] ∧ HsAt HC S H x dx sc d1 d2 d3 ss ws th ts ∧ n ∈ nmL th ∧ srt th n = some s0 ∧ Q (.str s0) H
def spHia (HC S : Addr) : Sp := fun vs H Q _ => ∃ (x dx sc d1 d2 d3 : Addr) (n : Str) (b : Bool) (ss ws : List Str) (th : List Thing) (ts : List T3), vs = [.ref x, .str n] ∧ HsAt HC S H x dx sc d1 d2 d3 ss ws th ts ∧ n ∈ nmL th ∧ awk th n = some b ∧ Q (.bl b) H
def spHth (HC S : Addr) : Sp := fun vs H Q _ => ∃ (x dx sc d1 d2 d3 : Addr) (ss ws : List Str) (th : List Thing) (ts : List T3), vs = [.ref x] ∧ HsAt HC S H x dx sc d1 d2 d3 ss ws th ts ∧ ∀ l, H l = none → Q (.ref l) (upd H l (.lst ((nmL th).map V.str)))
def spHhe (K : PySem.W.Frag) (HC S : Addr) : Sp := fun vs H Q _ => ∃ (x dx sc d1 d2 d3 : Addr) (ss ws : List Str) (th : List Thing) (ts : List T3), vs = [.ref x] ∧ HsAt HC S H x dx sc d1 d2 d3 ss ws th ts ∧ ∀ qs l, TrisAt K H qs (sortT ts) → H l = none → Q (.ref l) (upd H l (.lst (qs.map V.ref)))
def spHen (HC S : Addr) : Sp := fun vs H Q _ => ∃ (x dx sc d1 d2 d3 : Addr) (n so : Str) (b : Bool) (ss ws : List Str) (th : List Thing) (ts : List T3), vs = [.ref x, .str n, .str so, .bl b] ∧ HsAt HC S H x dx sc d1 d2 d3 ss ws th ts ∧ isNm n = true ∧ n.length ≤ 12 ∧ n ∉ nmL th ∧ so ∈ ss ∧ th.length < 60 ∧
  ∀ H', (∀ q o, q ≠ d1 → q ≠ d2 → H q = some o → H' q = some o) → HsAt HC S H' x dx sc d1 d2 d3 ss ws (th ++ [(n, so, b)]) ts → Q .non H'
def spHenX (HC S : Addr) (e : Er4) : Sp := fun vs H Q E => ∃ (x dx sc d1 d2 d3 : Addr) (n so : Str) (b : Bool) (ss ws : List Str) (th : List Thing) (ts : List T3), vs = [.ref x, .str n, .str so, .bl b] ∧ HsAt HC S H x dx sc d1 d2 d3 ss ws th ts ∧ n.length ≤ 1000 ∧ th.length ≤ 60 ∧
  DueR e (entD ss th n so) H (∀ H', (∀ q o, q ≠ d1 → q ≠ d2 → H q = some o → H' q = some o) → HsAt HC S H' x dx sc d1 d2 d3 ss ws (th ++ [(n, so, b)]) ts → Q .non H') E
section
variable {P : Program} {w : World} {K : PySem.W.Frag} {mg : Str → Option Value} {base : Heap}
theorem scHin : FnScope ["self", "scheme"] ["self", "scheme"] (defScope sHin) := ⟨rfl, rfl, rfl, by decide +kernel, rfl, by decide +kernel, by decide +kernel⟩
theorem ok_hin {f HC : Addr} {fd : FuncData} (F : Fun K "__init__" "House.__init__" sHin f fd) (TH : TxH K mg HC f) : FnOk P w K mg base CX0 1 f fd ["self", "scheme"] (spHin HC) := by
  refine F.ok scHin (fun vs H Q E h => ?_) (fun cdv A outer s H vs Q E hr h => ?_)
  · obtain ⟨H0, x, dx, sc, rfl, _⟩ := h
    rfl
  · obtain ⟨H0, x, dx, sc, rfl, S0, x0, hx, k⟩ := h
    have Sx : ∀ {H1 : Hp} {o : HO}, Same H0 H1 → Same H0 (upd H1 x o) := fun hs b o e => by
      rw [upd_ne (ne_of_none e x0)]
      exact hs b o e
    refine ⟨_, (pss_cons (ps_fld (pv 0) (pv 1) rfl) (pss_cons (ps_fld (pv 0) pe_dnewK rfl) (pss_cons (ps_fld (pv 0) pe_dnewK rfl) (pss_one (ps_fld (pv 0) pe_dnewT rfl))))), ?_⟩
    have L1 := putF_len "own_scheme" (.ref sc) []
    refine ⟨_, rfl, _, rfl, x, HC, dx, _, rfl, hx, TH.cl, TH.n0, by show 0 < 1000; decide, fun d1 g1 => ?_⟩
    have n1 : d1 ≠ x := fun z => by
      rw [z, upd_same] at g1
      cases g1
    have L2' := putF_len "sort_by_name" (.ref d1) (putF "own_scheme" (.ref sc) [])
    have L3 : ∀ d2, (putF "awake_by_name" (.ref d2) (putF "sort_by_name" (.ref d1) (putF "own_scheme" (.ref sc) []))).length ≤ _ := fun d2 => putF_len "awake_by_name" (.ref d2) (putF "sort_by_name" (.ref d1) (putF "own_scheme" (.ref sc) []))
    simp only [List.length_nil] at L1
    refine ⟨_, rfl, x, HC, dx, _, rfl, (upd_ne n1.symm).trans upd_same, TH.cl, TH.n1, by omega, fun d2 g2 => ?_⟩
    have n2 : d2 ≠ x := fun z => by
      rw [z, upd_same] at g2
      cases g2
    have n12 : d1 ≠ d2 := fun z => by
      rw [← z, upd_ne n1, upd_same] at g2
      cases g2
    refine ⟨_, rfl, x, HC, dx, _, rfl, (upd_ne n2.symm).trans upd_same, TH.cl, TH.n2, by omega, fun d3 g3 => ?_⟩
    have n3 : d3 ≠ x := fun z => by
      rw [z, upd_same] at g3
      cases g3
    have n23 : d2 ≠ d3 := fun z => by
      rw [← z, upd_ne n2, upd_same] at g3
      cases g3
    have n13 : d1 ≠ d3 := fun z => by
      rw [← z, upd_ne n1, upd_ne n12, upd_ne n1, upd_same] at g3
      cases g3
    refine ⟨_, rfl, x, HC, dx, _, rfl, (upd_ne n3.symm).trans upd_same, TH.cl, TH.n3, by have := L3 d2; omega, ?_⟩
    have SA := Sx (o := .ins HC dx (putF "own_scheme" (.ref sc) [])) S0
    have SB := Sx (o := .ins HC dx (putF "sort_by_name" (.ref d1) (putF "own_scheme" (.ref sc) []))) (SA.trans (Same.upd (o := .dK []) g1))
    have SC := Sx (o := .ins HC dx (putF "awake_by_name" (.ref d2) (putF "sort_by_name" (.ref d1) (putF "own_scheme" (.ref sc) [])))) (SB.trans (Same.upd (o := .dK []) g2))
    refine k d1 d2 d3 _ (SA.free g1) (SB.free g2) (SC.free g3) n12 (Sx (SC.trans (Same.upd g3))) upd_same ?_ ?_ ?_
    · rw [upd_ne n1, upd_ne n13, upd_ne n1, upd_ne n12, upd_ne n1, upd_same]
    · rw [upd_ne n2, upd_ne n23, upd_ne n2, upd_same]
    · rw [upd_ne n3, upd_same]
theorem scHrt : FnScope ["self", "name"] ["self", "name"] (defScope sHrt) := ⟨rfl, rfl, rfl, by decide +kernel, rfl, by decide +kernel, by decide +kernel⟩
theorem ok_hrt {f HC S fH : Addr} {fd : FuncData} (F : Fun K "refuse_no_thing" "House.refuse_no_thing" sHrt f fd) (TH : TxH K mg HC fH) : FnOk P w K mg base CX0 1 f fd ["self", "name"] (spHrt HC S) := by
  refine F.ok scHrt (fun vs H Q E h => ?_) (fun cdv A outer s H vs Q E hr h => ?_)
  · obtain ⟨x, dx, sc, d1, d2, d3, n, ss, ws, th, ts, rfl, _⟩ := h
    rfl
  · obtain ⟨x, dx, sc, d1, d2, d3, n, ss, ws, th, ts, rfl, hh, hn, q⟩ := h
    refine ⟨_, (pss_one (ps_if (pt_cmp (pc_dnotin (hu_of hr) (pv 1) (pe_fld (pv 0) rfl))) (pss_one ps_never) pss_nil)), ?_⟩
    refine ⟨_, rfl, _, rfl, x, HC, dx, _, _, rfl, hh.hx, TH.cl, TH.n1, hsF_1 _ _ _ _, d1, _, rfl, DGet.k (k := Sum.inr n) hh.h1, _, rfl, ?_⟩
    rw [is1, decide_eq_true hn]
    exact iteF q
theorem ok_hrtN {f HC S C fI fH : Addr} {fd fdI : FuncData} (F : Fun K "refuse_no_thing" "House.refuse_no_thing" sHrt f fd) (TH : TxH K mg HC fH) (TE : ErrT K mg "NoThing" "name" C fI) (bI : Binds K fdI ["self", "name"] []) (GI : FnOk P w K mg base CX0 2 fI fdI ["self", "name"] (spE1 C "name" "nothing")) :
    FnOk P w K mg base (L2N.CX P w) 4 f fd ["self", "name"] (spHrtN HC S C) := by
  refine okN F scHrt (fun vs H Q E h => ?_) (fun cdv A outer s H vs Q E hr h => ?_)
  · obtain ⟨x, dx, sc, d1, d2, d3, n, ss, ws, th, ts, rfl, _⟩ := h
    rfl
  · obtain ⟨x, dx, sc, d1, d2, d3, n, ss, ws, th, ts, rfl, hh, hn, q⟩ := h
    have hr3 : Room 3 _ := hr
    refine ⟨_, (pss_one (ps_if (pt_cmp (pc_dnotin (hu_of hr) (pv 1) (pe_fld (pv 0) rfl))) (pss_one (L2N.ps_raise rfl (L2N.takes_of rfl rfl rfl rfl) (pmkN_oex TE.o TE.iC TE.tI GI hr3 bI pass0 rfl TE.g (pa_cons (pv 1) pa_nil)))) pss_nil)), ?_⟩
    refine ⟨_, rfl, _, rfl, x, HC, dx, _, _, rfl, hh.hx, TH.cl, TH.n1, hsF_1 _ _ _ _, d1, _, rfl, DGet.k (k := Sum.inr n) hh.h1, _, rfl, ?_⟩
    rw [is1, decide_eq_false hn]
    exact iteT ⟨_, rfl, mk1 q⟩
theorem scHso : FnScope ["self", "x"] ["self", "x"] (defScope sHso) := ⟨rfl, rfl, rfl, by decide +kernel, rfl, by decide +kernel, by decide +kernel⟩
theorem ok_hsoN {f HC S C fH fR : Addr} {fd dR : FuncData} (F : Fun K "sort_of" "House.sort_of" sHso f fd) (TH : TxH K mg HC fH) (mR : Meth K HC "refuse_no_thing" fR) (bR : Binds K dR ["self", "name"] []) (GR : FnOk P w K mg base (L2N.CX P w) 4 fR dR ["self", "name"] (spHrtN HC S C)) : FnOk P w K mg base (L2N.CX P w) 5 f fd ["self", "x"] (spHrtN HC S C) := by
  refine okN F scHso (fun vs H Q E h => ?_) (fun cdv A outer s H vs Q E hr h => ?_)
  · obtain ⟨x, dx, sc, d1, d2, d3, n, ss, ws, th, ts, rfl, _⟩ := h
    rfl
  · obtain ⟨x, dx, sc, d1, d2, d3, n, ss, ws, th, ts, rfl, hh, hn, q⟩ := h
    refine ⟨_, (pss_cons (ps_expr (pe_meth (pv 0) TH.cl mR GR hr bR .nil (L2N.passes_call (L2N.takes_of rfl rfl rfl rfl) (fun _ _ _ _ h => h)) (pa_cons (pv 1) pa_nil))) (pss_one (ps_ret pe_never))), ?_⟩
    exact ⟨_, rfl, x, dx, _, rfl, hh.hx, hsF_no (by decide +kernel) (by decide +kernel) (by decide +kernel) (by decide +kernel) _ _ _ _, _, rfl, x, dx, sc, d1, d2, d3, n, ss, ws, th, ts, rfl, hh, hn, q⟩
theorem scHia : FnScope ["self", "x"] ["self", "x"] (defScope sHia) := ⟨rfl, rfl, rfl, by decide +kernel, rfl, by decide +kernel, by decide +kernel⟩
theorem ok_hiaN {f HC S C fH fR : Addr} {fd dR : FuncData} (F : Fun K "is_awake" "House.is_awake" sHia f fd) (TH : TxH K mg HC fH) (mR : Meth K HC "refuse_no_thing" fR) (bR : Binds K dR ["self", "name"] []) (GR : FnOk P w K mg base (L2N.CX P w) 4 fR dR ["self", "name"] (spHrtN HC S C)) : FnOk P w K mg base (L2N.CX P w) 5 f fd ["self", "x"] (spHrtN HC S C) := by
  refine okN F scHia (fun vs H Q E h => ?_) (fun cdv A outer s H vs Q E hr h => ?_)
  · obtain ⟨x, dx, sc, d1, d2, d3, n, ss, ws, th, ts, rfl, _⟩ := h
    rfl
  · obtain ⟨x, dx, sc, d1, d2, d3, n, ss, ws, th, ts, rfl, hh, hn, q⟩ := h
    refine ⟨_, (pss_cons (ps_expr (pe_meth (pv 0) TH.cl mR GR hr bR .nil (L2N.passes_call (L2N.takes_of rfl rfl rfl rfl) (fun _ _ _ _ h => h)) (pa_cons (pv 1) pa_nil))) (pss_one (ps_ret pe_never))), ?_⟩
    exact ⟨_, rfl, x, dx, _, rfl, hh.hx, hsF_no (by decide +kernel) (by decide +kernel) (by decide +kernel) (by decide +kernel) _ _ _ _, _, rfl, x, dx, sc, d1, d2, d3, n, ss, ws, th, ts, rfl, hh, hn, q⟩
theorem ok_hso {f HC S fH fR : Addr} {fd dR : FuncData} (F : Fun K "sort_of" "House.sort_of" sHso f fd) (TH : TxH K mg HC fH) (mR : Meth K HC "refuse_no_thing" fR) (bR : Binds K dR ["self", "name"] []) (GR : FnOk P w K mg base CX0 1 fR dR ["self", "name"] (spHrt HC S)) : FnOk P w K mg base CX0 2 f fd ["self", "x"] (spHso HC S) := by
  refine F.ok scHso (fun vs H Q E h => ?_) (fun cdv A outer s H vs Q E hr h => ?_)
  · obtain ⟨x, dx, sc, d1, d2, d3, n, s0, ss, ws, th, ts, rfl, _⟩ := h
    rfl
  · obtain ⟨x, dx, sc, d1, d2, d3, n, s0, ss, ws, th, ts, rfl, hh, hn, hs, q⟩ := h
    refine ⟨_, (pss_cons (ps_expr (pe_meth (pv 0) TH.cl mR GR hr bR .nil pass0 (pa_cons (pv 1) pa_nil))) (pss_one (ps_ret (pe_dget (hu_of hr) (pe_fld (pv 0) rfl) (pv 1) (fun _ _ => rfl))))), ?_⟩
    refine ⟨_, rfl, x, dx, _, rfl, hh.hx, hsF_no (by decide +kernel) (by decide +kernel) (by decide +kernel) (by decide +kernel) _ _ _ _, _, rfl, x, dx, sc, d1, d2, d3, n, ss, ws, th, ts, rfl, hh, hn, ?_⟩
    refine ⟨_, rfl, x, HC, dx, _, _, rfl, hh.hx, TH.cl, TH.n1, hsF_1 _ _ _ _, _, rfl, d1, .str s0, rfl, ?_, q⟩
    have e : valV (k1 th) (Sum.inr n) = some (.str s0) := by rw [val1s, hs]; rfl
    rw [← e]
    exact DGet.k (k := Sum.inr n) hh.h1
theorem ok_hia {f HC S fH fR : Addr} {fd dR : FuncData} (F : Fun K "is_awake" "House.is_awake" sHia f fd) (TH : TxH K mg HC fH) (mR : Meth K HC "refuse_no_thing" fR) (bR : Binds K dR ["self", "name"] []) (GR : FnOk P w K mg base CX0 1 fR dR ["self", "name"] (spHrt HC S)) : FnOk P w K mg base CX0 2 f fd ["self", "x"] (spHia HC S) := by
  refine F.ok scHia (fun vs H Q E h => ?_) (fun cdv A outer s H vs Q E hr h => ?_)
  · obtain ⟨x, dx, sc, d1, d2, d3, n, b, ss, ws, th, ts, rfl, _⟩ := h
    rfl
  · obtain ⟨x, dx, sc, d1, d2, d3, n, b, ss, ws, th, ts, rfl, hh, hn, hb, q⟩ := h
    refine ⟨_, (pss_cons (ps_expr (pe_meth (pv 0) TH.cl mR GR hr bR .nil pass0 (pa_cons (pv 1) pa_nil))) (pss_one (ps_ret (pe_dget (hu_of hr) (pe_fld (pv 0) rfl) (pv 1) (fun _ _ => rfl))))), ?_⟩
    refine ⟨_, rfl, x, dx, _, rfl, hh.hx, hsF_no (by decide +kernel) (by decide +kernel) (by decide +kernel) (by decide +kernel) _ _ _ _, _, rfl, x, dx, sc, d1, d2, d3, n, ss, ws, th, ts, rfl, hh, hn, ?_⟩
    refine ⟨_, rfl, x, HC, dx, _, _, rfl, hh.hx, TH.cl, TH.n2, hsF_2 _ _ _ _, _, rfl, d2, .bl b, rfl, ?_, q⟩
    have e : valV (k2 th) (Sum.inr n) = some (.bl b) := by rw [val2, hb]; rfl
    rw [← e]
    exact DGet.k (k := Sum.inr n) hh.h2
theorem scHth : FnScope ["self"] ["self"] (defScope sHth) := ⟨rfl, rfl, rfl, by decide +kernel, rfl, by decide +kernel, by decide +kernel⟩
theorem ok_hth {f HC S fH : Addr} {fd : FuncData} (F : Fun K "things" "House.things" sHth f fd) (tl : mg "list" = none) (TH : TxH K mg HC fH) : FnOk P w K mg base CX0 1 f fd ["self"] (spHth HC S) := by
  refine F.ok scHth (fun vs H Q E h => ?_) (fun cdv A outer s H vs Q E hr h => ?_)
  · obtain ⟨x, dx, sc, d1, d2, d3, ss, ws, th, ts, rfl, _⟩ := h
    rfl
  · obtain ⟨x, dx, sc, d1, d2, d3, ss, ws, th, ts, rfl, hh, q⟩ := h
    refine ⟨_, (pss_one (ps_ret (pe_callTy (call_listD rfl) (by rfl) tl (by decide +kernel) (pa_cons (pe_fld (pv 0) rfl) pa_nil)))), ?_⟩
    refine ⟨_, rfl, x, HC, dx, _, _, rfl, hh.hx, TH.cl, TH.n1, hsF_1 _ _ _ _, d1, _, rfl, .inl hh.h1, fun l hl => ?_⟩
    have e : ((k1 th).map fun kv => kV kv.1) = (nmL th).map V.str := by
      unfold k1 nmL
      rw [List.map_map, List.map_map]
      rfl
    rw [e]
    exact q l hl
theorem scHhe : FnScope ["self"] ["self"] (defScope sHhe) := ⟨rfl, rfl, rfl, by decide +kernel, rfl, by decide +kernel, by decide +kernel⟩
theorem ok_hhe {f HC S fH : Addr} {fd : FuncData} (F : Fun K "held" "House.held" sHhe f fd) (tsr : mg "sorted" = none) (TH : TxH K mg HC fH) : FnOk P w K mg base CX0 1 f fd ["self"] (spHhe K HC S) := by
  refine F.ok scHhe (fun vs H Q E h => ?_) (fun cdv A outer s H vs Q E hr h => ?_)
  · obtain ⟨x, dx, sc, d1, d2, d3, ss, ws, th, ts, rfl, _⟩ := h
    rfl
  · obtain ⟨x, dx, sc, d1, d2, d3, ss, ws, th, ts, rfl, hh, q⟩ := h
    refine ⟨_, (pss_one (ps_ret (pe_callB (cr_sortTD rfl hr.units) (by rfl) tsr (by decide +kernel) (pa_cons (pe_fld (pv 0) rfl) pa_nil)))), ?_⟩
    exact ⟨_, rfl, x, HC, dx, _, _, rfl, hh.hx, TH.cl, TH.n3, hsF_3 _ _ _ _, d3, _, ts, rfl, hh.h3, keys3 ts, fun qs l hq hl => q qs l hq hl⟩
theorem scHen : FnScope ["self", "name", "sort", "awake"] ["self", "name", "sort", "awake"] (defScope sHen) := ⟨rfl, rfl, rfl, by decide +kernel, rfl, by decide +kernel, by decide +kernel⟩
theorem ok_hen {f HC S fH fS fN fO : Addr} {fd dN dO : FuncData} {dvs : List V} (F : FunD K "enter" "House.enter" (defArgs sHen) (defBody sHen) (defScope sHen) dvs [] f fd) (T : TxB mg) (MT : ∃ t, mg "MOST_THINGS" = some (.int 60 t)) (TH : TxH K mg HC fH) (DN : Dn K mg "refuse_no_name" sRN ["texts"] fN dN) (GN : FnOk P w K mg base CX0 2 fN dN ["texts"] (spRNv K))
    (TC : TxSch K mg S fS) (mO : Meth K S "sorts" fO) (bO : Binds K dO ["self"] []) (GO : FnOk P w K mg base CX0 1 fO dO ["self"] (spSor S)) : FnOk P w K mg base CX0 3 f fd ["self", "name", "sort", "awake"] (spHen HC S) := by
  refine F.ok scHen (fun vs H Q E h => ?_) (fun cdv A outer s H vs Q E hr h => ?_)
  · obtain ⟨x, dx, sc, d1, d2, d3, n, so, b, ss, ws, th, ts, rfl, _⟩ := h
    rfl
  · obtain ⟨x, dx, sc, d1, d2, d3, n, so, b, ss, ws, th, ts, rfl, hh, hn, hn12, hnew, hso, h60, q⟩ := h
    have hr1 : Room 1 _ := hr.mono (by decide)
    obtain ⟨t60, g60⟩ := MT
    refine ⟨_, (pss_cons (ps_expr (pe_call GN hr rfl DN.g DN.F.kp DN.b .nil pass0 (pa_cons (pe_lst (pa_cons (pv 1) pa_nil)) pa_nil)))
      (pss_cons (ps_if (pt_cmp (pc_din (hu_of hr) (pv 1) (pe_fld (pv 0) rfl))) (pss_one ps_never) pss_nil)
      (pss_cons (ps_if (pt_cmpR op_notIn_seq (pv 2) (pe_meth0 (pe_fld (pv 0) rfl) TC.cl mO GO hr1 bO .nil pass0) (by rfl)) (pss_one ps_never) pss_nil)
      (pss_cons (ps_if (pt_cmpR op_ge (pe_callB call_lenD (by rfl) T.len (by decide +kernel) (pa_cons (pe_fld (pv 0) rfl) pa_nil)) (pe_glob (v := .int 60) rfl g60 ⟨t60, rfl⟩) (nomark _)) (pss_one ps_never) pss_nil)
      (pss_cons (ps_dput (hu_of hr) (pe_fld (pv 0) rfl) (pv 1) (pv 2) rfl)
      (pss_one (ps_dput (hu_of hr) (pe_fld (pv 0) rfl) (pv 1) (pv 3) rfl))))))), ?_⟩
    refine ⟨_, rfl, by show 1 ≤ sizeLine; decide, fun l0 hl0 => ?_⟩
    refine ⟨l0, [n], rfl, SqL.of upd_same, fun z hz => by rw [List.mem_singleton.mp hz]; exact ⟨hn, hn12⟩, fun H1 S1 => ?_⟩
    have SA : Same H H1 := (Same.upd hl0).trans S1
    have h1 := hh.same SA
    refine ⟨_, rfl, _, rfl, x, HC, dx, _, _, rfl, h1.hx, TH.cl, TH.n1, hsF_1 _ _ _ _, d1, _, rfl, DGet.k (k := Sum.inr n) h1.h1, _, rfl, ?_⟩
    rw [is1, decide_eq_false hnew]
    refine iteF ?_
    obtain ⟨dy, l1, l2, l3, l4, l5, e1, e2, e3⟩ := h1.hs.ex
    refine ⟨_, rfl, _, rfl, x, HC, dx, _, _, rfl, h1.hx, TH.cl, TH.n0, hsF_sc _ _ _ _, sc, dy, _, rfl, e1, schF_no (by decide +kernel) (by decide +kernel) (by decide +kernel) (by decide +kernel) (by decide +kernel) _ _ _ _ _, sc, ss, ws, rfl, h1.hs, fun l hl => ?_⟩
    refine ⟨l, _, rfl, .inl (SqL.of upd_same), rfl, flats ss, _, rfl, ?_⟩
    show if (!inV (.str so) (ss.map V.str)) = true then _ else _
    rw [inV_strs, decide_eq_true hso]
    refine iteF ?_
    have SB : Same H1 (upd H1 l (.lst (ss.map V.str))) := Same.upd hl
    have h2 := h1.same SB
    have S02 := SA.trans SB
    generalize upd H1 l (.lst (ss.map V.str)) = H2 at SB h2 S02
    refine ⟨_, rfl, x, HC, dx, _, _, rfl, h2.hx, TH.cl, TH.n1, hsF_1 _ _ _ _, d1, _, rfl, h2.h1, _, _, rfl, rfl, _, rfl, ?_⟩
    have el : (k1 th).length = th.length := by unfold k1; rw [List.length_map]
    have el2 : (k2 th).length = th.length := by unfold k2; rw [List.length_map]
    refine ite2 (fun z => absurd (of_decide_eq_true z) (by rw [el]; omega)) (fun _ => ?_)
    have lt1 : (k1 th).length < sizeLine := Nat.lt_of_lt_of_le (by rw [el]; exact h60) (by decide)
    have lt2 : (k2 th).length < sizeLine := Nat.lt_of_lt_of_le (by rw [el2]; exact h60) (by decide)
    refine ⟨_, rfl, _, rfl, x, HC, dx, _, _, rfl, h2.hx, TH.cl, TH.n1, hsF_1 _ _ _ _, _, rfl, d1, _, rfl, DPut.k (k := Sum.inr n) h2.h1 lt1, ?_⟩
    rw [new1 (b := b) hnew]
    have ne1x : x ≠ d1 := ne_of h2.hx h2.h1 (by intro z; cases z)
    refine ⟨_, rfl, _, rfl, x, HC, dx, _, _, rfl, (upd_ne ne1x).trans h2.hx, TH.cl, TH.n2, hsF_2 _ _ _ _, _, rfl, d2, _, rfl, DPut.k (k := Sum.inr n) ((upd_ne hh.ne.symm).trans h2.h2) lt2, ?_⟩
    rw [new2 (s := so) hnew]
    have ne2x : x ≠ d2 := ne_of h2.hx h2.h2 (by intro z; cases z)
    have ne31 : d3 ≠ d1 := ne_of h2.h3 h2.h1 (by intro z; cases z)
    have ne32 : d3 ≠ d2 := ne_of h2.h3 h2.h2 (by intro z; cases z)
    refine q _ (fun z o n1 n2 e => by rw [upd_ne n2, upd_ne n1]; exact S02 _ _ e) ⟨?_, ?_, ?_, upd_same, ?_, hh.ne⟩
    · rw [upd_ne ne2x, upd_ne ne1x]
      exact h2.hx
    · have q1 := h2.hs.but (But.upd (o := .dK (k1 (th ++ [(n, so, b)])))) h2.h1 (fun _ _ _ z => by cases z) (fun _ z => by cases z)
      exact q1.but But.upd ((upd_ne hh.ne.symm).trans h2.h2) (fun _ _ _ z => by cases z) (fun _ z => by cases z)
    · rw [upd_ne hh.ne, upd_same]
    · rw [upd_ne ne32, upd_ne ne31]
      exact h2.h3
theorem scHln : FnScope ["self"] ["self"] (defScope sHln) := ⟨rfl, rfl, rfl, by decide +kernel, rfl, by decide +kernel, by decide +kernel⟩
theorem ok_hln {f HC S fH : Addr} {fd : FuncData} (F : Fun K "__len__" "House.__len__" sHln f fd) (T : TxB mg) (TH : TxH K mg HC fH) : FnOk P w K mg base CX0 1 f fd ["self"] (spHln HC S) := by
  refine F.ok scHln (fun vs H Q E h => ?_) (fun cdv A outer s H vs Q E hr h => ?_)
  · obtain ⟨x, dx, sc, d1, d2, d3, ss, ws, th, ts, rfl, _⟩ := h
    rfl
  · obtain ⟨x, dx, sc, d1, d2, d3, ss, ws, th, ts, rfl, hh, q⟩ := h
    refine ⟨_, (pss_one (ps_ret (pe_callB call_lenD (by rfl) T.len (by decide +kernel) (pa_cons (pe_fld (pv 0) rfl) pa_nil)))), ?_⟩
    refine ⟨_, rfl, x, HC, dx, _, _, rfl, hh.hx, TH.cl, TH.n1, hsF_1 _ _ _ _, d1, _, rfl, hh.h1, ?_⟩
    have el : (k1 th).length = th.length := by unfold k1; rw [List.length_map]
    rw [el]
    exact q
theorem ok_rnX {f fN C fI : Addr} {fd fdN fdI : FuncData} (F : Fun K "refuse_no_name" "refuse_no_name" sRN f fd) (D : Dn K mg "is_name" sName ["text"] fN fdN) (GN : FnOk P w K mg base CX0 1 fN fdN ["text"] spName) (TE : ErrT K mg "NoName" "name" C fI) (bI : Binds K fdI ["self", "name"] [])
    (GI : FnOk P w K mg base CX0 2 fI fdI ["self", "name"] (spE1 C "name" "noname")) : FnOk P w K mg base (L2N.CX P w) 4 f fd ["texts"] (spRNx K C) := by
  refine okN F scRN (fun vs H Q E h => ?_) (fun cdv A outer s H vs Q E hr h => ?_)
  · obtain ⟨l, z, rfl, _⟩ := h
    rfl
  · obtain ⟨l, z, rfl, hl, hz, k⟩ := h
    have hr1 : Room 1 _ := hr.mono (by decide)
    have hr3 : Room 3 _ := hr
    refine ⟨_, (pss_one (ps_for (passes_of rfl) rfl (pi_list (pv 0)) (pg_name (i := 1) scRN.nd rfl (Or.inl rfl)) (pss_one (ps_if (pt_not (pt_val (pe_call GN hr1 rfl D.g D.F.kp D.b .nil pass0 (pa_cons (pv 1) pa_nil)))) (pss_one (L2N.ps_raise rfl (L2N.takes_of rfl rfl rfl rfl) (pmkN_oex TE.o TE.iC TE.tI GI hr3 bI pass0 rfl TE.g (pa_cons (pv 1) pa_nil)))) pss_nil)))), ?_⟩
    refine ⟨_, rfl, l, rfl, ⟨_, hl⟩, for_list (K := K) (a := l) (xs := [.str z]) (fun i σ H' => (∃ v, σ = [some (.ref l), v]) ∧ Same H H' ∧ (1 ≤ i → isNm z = true)) ⟨⟨none, rfl⟩, Same.refl H, fun q => absurd q (by decide)⟩ (fun i σ H' _ p => p.2.1.seq hl) ?_ ?_⟩
    · rintro i y σ H' hi ⟨⟨v, rfl⟩, hS, _⟩
      have ey : V.str z = y := by
        match i, hi with
        | 0, hi => exact Option.some.inj hi
        | k + 1, hi => simp at hi
      subst ey
      refine ⟨_, rfl, z, rfl, hz, fun H2 hS2 => ⟨_, rfl, ?_⟩⟩
      cases e : isNm z with
      | true => exact iteF ⟨⟨_, rfl⟩, hS.trans hS2, fun _ => rfl⟩
      | false =>
        rw [if_neg (by rw [e]; decide)] at k
        exact iteT ⟨_, rfl, mk1 fun d H3 hd hS3 hx => k d H3 (hS.free (hS2.free hd)) (hS.trans (hS2.trans hS3)) hx⟩
    · rintro σ H' ⟨⟨v, rfl⟩, hS, hi⟩
      rw [if_pos (hi (by show 1 ≤ 1; decide))] at k
      exact k _ hS
theorem ok_henX {f HC S fH fS fN fO cN cT cS cF iT iS iF : Addr} {fd dN dO dT dS dF : FuncData} {dvs : List V} (F : FunD K "enter" "House.enter" (defArgs sHen) (defBody sHen) (defScope sHen) dvs [] f fd) (T : TxB mg) (MT : ∃ t, mg "MOST_THINGS" = some (.int 60 t)) (TH : TxH K mg HC fH) (DN : Dn K mg "refuse_no_name" sRN ["texts"] fN dN) (GN : FnOk P w K mg base (L2N.CX P w) 4 fN dN ["texts"] (spRNx K cN))
    (TT : ErrT K mg "Taken" "name" cT iT) (bT : Binds K dT ["self", "name"] []) (GT : FnOk P w K mg base CX0 2 iT dT ["self", "name"] (spE1 cT "name" "taken")) (TS : ErrT K mg "NoSort" "name" cS iS) (bS : Binds K dS ["self", "name"] []) (GS : FnOk P w K mg base CX0 2 iS dS ["self", "name"] (spE1 cS "name" "nosort"))
    (TF : ErrT K mg "Full" "kind" cF iF) (bF : Binds K dF ["self"] []) (GF : FnOk P w K mg base CX0 2 iF dF ["self"] (spE0 cF))
    (TC : TxSch K mg S fS) (mO : Meth K S "sorts" fO) (bO : Binds K dO ["self"] []) (GO : FnOk P w K mg base CX0 1 fO dO ["self"] (spSor S)) : FnOk P w K mg base (L2N.CX P w) 5 f fd ["self", "name", "sort", "awake"] (spHenX HC S ⟨cN, cT, cS, cF⟩) := by
  refine F.ok scHen (fun vs H Q E h => ?_) (fun cdv A outer s H vs Q E hr h => ?_)
  · obtain ⟨x, dx, sc, d1, d2, d3, n, so, b, ss, ws, th, ts, rfl, _⟩ := h
    rfl
  · obtain ⟨x, dx, sc, d1, d2, d3, n, so, b, ss, ws, th, ts, rfl, hh, hn1000, h60', q⟩ := h
    have hr1 : Room 1 _ := hr.mono (by decide)
    have hr3 : Room 3 _ := hr.mono (by decide)
    obtain ⟨t60, g60⟩ := MT
    refine ⟨_, (pss_cons (ps_expr (pe_call GN hr rfl DN.g DN.F.kp DN.b .nil (L2N.passes_call (L2N.takes_of rfl rfl rfl rfl) (fun _ _ _ _ h => h)) (pa_cons (pe_lst (pa_cons (pv 1) pa_nil)) pa_nil)))
      (pss_cons (ps_if (pt_cmp (pc_din (hu_of hr) (pv 1) (pe_fld (pv 0) rfl))) (pss_one (L2N.ps_raise rfl (L2N.takes_of rfl rfl rfl rfl) (pmkN_oex TT.o TT.iC TT.tI GT hr3 bT pass0 rfl TT.g (pa_cons (pv 1) pa_nil)))) pss_nil)
      (pss_cons (ps_if (pt_cmpR op_notIn_seq (pv 2) (pe_meth0 (pe_fld (pv 0) rfl) TC.cl mO GO hr1 bO .nil pass0) (by rfl)) (pss_one (L2N.ps_raise rfl (L2N.takes_of rfl rfl rfl rfl) (pmkN_oex TS.o TS.iC TS.tI GS hr3 bS pass0 rfl TS.g (pa_cons (pv 2) pa_nil)))) pss_nil)
      (pss_cons (ps_if (pt_cmpR op_ge (pe_callB call_lenD (by rfl) T.len (by decide +kernel) (pa_cons (pe_fld (pv 0) rfl) pa_nil)) (pe_glob (v := .int 60) rfl g60 ⟨t60, rfl⟩) (nomark _)) (pss_one (L2N.ps_raise rfl (L2N.takes_of rfl rfl rfl rfl) (pmkN_oex0 TF.o TF.iC TF.tI GF hr3 bF pass0 rfl TF.g))) pss_nil)
      (pss_cons (ps_dput (hu_of hr) (pe_fld (pv 0) rfl) (pv 1) (pv 2) rfl)
      (pss_one (ps_dput (hu_of hr) (pe_fld (pv 0) rfl) (pv 1) (pv 3) rfl))))))), ?_⟩
    refine ⟨_, rfl, by show 1 ≤ sizeLine; decide, fun l0 hl0 => ?_⟩
    have S0 : Same H (upd H l0 (.lst [.str n])) := Same.upd hl0
    refine ⟨l0, n, rfl, SqL.of upd_same, hn1000, ?_⟩
    unfold entD at q
    by_cases hn : isNm n = true
    · rw [if_pos hn] at q ⊢
      intro H1 S1
      have SA : Same H H1 := S0.trans S1
      have h1 := hh.same SA
      refine ⟨_, rfl, _, rfl, x, HC, dx, _, _, rfl, h1.hx, TH.cl, TH.n1, hsF_1 _ _ _ _, d1, _, rfl, DGet.k (k := Sum.inr n) h1.h1, _, rfl, ?_⟩
      rw [is1]
      by_cases hin : n ∈ nmL th
      · rw [if_pos hin] at q
        rw [decide_eq_true hin]
        exact iteT ⟨_, rfl, mk1 fun d H3 hd hS3 hx => q d H3 (SA.free hd) (SA.trans hS3) hx⟩
      rw [if_neg hin] at q
      rw [decide_eq_false hin]
      refine iteF ?_
      obtain ⟨dy, l1, l2, l3, l4, l5, e1, e2, e3⟩ := h1.hs.ex
      refine ⟨_, rfl, _, rfl, x, HC, dx, _, _, rfl, h1.hx, TH.cl, TH.n0, hsF_sc _ _ _ _, sc, dy, _, rfl, e1, schF_no (by decide +kernel) (by decide +kernel) (by decide +kernel) (by decide +kernel) (by decide +kernel) _ _ _ _ _, sc, ss, ws, rfl, h1.hs, fun l hl => ?_⟩
      refine ⟨l, _, rfl, .inl (SqL.of upd_same), rfl, flats ss, _, rfl, ?_⟩
      show if (!inV (.str so) (ss.map V.str)) = true then _ else _
      rw [inV_strs]
      have SB : Same H1 (upd H1 l (.lst (ss.map V.str))) := Same.upd hl
      have h2 := h1.same SB
      have S02 := SA.trans SB
      generalize upd H1 l (.lst (ss.map V.str)) = H2 at SB h2 S02
      by_cases hso : so ∈ ss
      · rw [if_pos hso] at q
        rw [decide_eq_true hso]
        refine iteF ?_
        refine ⟨_, rfl, x, HC, dx, _, _, rfl, h2.hx, TH.cl, TH.n1, hsF_1 _ _ _ _, d1, _, rfl, h2.h1, _, _, rfl, rfl, _, rfl, ?_⟩
        have el : (k1 th).length = th.length := by unfold k1; rw [List.length_map]
        have el2 : (k2 th).length = th.length := by unfold k2; rw [List.length_map]
        by_cases h60 : th.length < 60
        · rw [if_pos h60] at q
          refine ite2 (fun z => absurd (of_decide_eq_true z) (by rw [el]; omega)) (fun _ => ?_)
          have lt1 : (k1 th).length < sizeLine := Nat.lt_of_lt_of_le (by rw [el]; exact h60) (by decide)
          have lt2 : (k2 th).length < sizeLine := Nat.lt_of_lt_of_le (by rw [el2]; exact h60) (by decide)
          refine ⟨_, rfl, _, rfl, x, HC, dx, _, _, rfl, h2.hx, TH.cl, TH.n1, hsF_1 _ _ _ _, _, rfl, d1, _, rfl, DPut.k (k := Sum.inr n) h2.h1 lt1, ?_⟩
          rw [new1 (b := b) hin]
          have ne1x : x ≠ d1 := ne_of h2.hx h2.h1 (by intro z; cases z)
          refine ⟨_, rfl, _, rfl, x, HC, dx, _, _, rfl, (upd_ne ne1x).trans h2.hx, TH.cl, TH.n2, hsF_2 _ _ _ _, _, rfl, d2, _, rfl, DPut.k (k := Sum.inr n) ((upd_ne hh.ne.symm).trans h2.h2) lt2, ?_⟩
          rw [new2 (s := so) hin]
          have ne2x : x ≠ d2 := ne_of h2.hx h2.h2 (by intro z; cases z)
          have ne31 : d3 ≠ d1 := ne_of h2.h3 h2.h1 (by intro z; cases z)
          have ne32 : d3 ≠ d2 := ne_of h2.h3 h2.h2 (by intro z; cases z)
          refine q _ (fun z o n1 n2 e => by rw [upd_ne n2, upd_ne n1]; exact S02 _ _ e) ⟨?_, ?_, ?_, upd_same, ?_, hh.ne⟩
          · rw [upd_ne ne2x, upd_ne ne1x]
            exact h2.hx
          · have q1 := h2.hs.but (But.upd (o := .dK (k1 (th ++ [(n, so, b)])))) h2.h1 (fun _ _ _ z => by cases z) (fun _ z => by cases z)
            exact q1.but But.upd ((upd_ne hh.ne.symm).trans h2.h2) (fun _ _ _ z => by cases z) (fun _ z => by cases z)
          · rw [upd_ne hh.ne, upd_same]
          · rw [upd_ne ne32, upd_ne ne31]
            exact h2.h3
        · rw [if_neg h60] at q
          refine ite2 (fun _ => ?_) (fun z => absurd (decide_eq_true (by rw [el]; omega)) z)
          exact mk0 fun d H3 hd hS3 hx => q d H3 (S02.free hd) (S02.trans hS3) hx
      · rw [if_neg hso] at q
        rw [decide_eq_false hso]
        exact iteT ⟨_, rfl, mk1 fun d H3 hd hS3 hx => q d H3 (S02.free hd) (S02.trans hS3) hx⟩
    · rw [if_neg hn] at q ⊢
      exact fun d H3 hd hS3 hx => q d H3 (S0.free hd) (S0.trans hS3) hx
end
end Wm
namespace Wm
open PySem L2 StX
def rIsG (K : PySem.W.Frag) (cls : Value) (d : Option Addr) (a : Addr) : List V → Hp → VK → Prop := fun xs H Q => ∃ (D dd : Addr), cls = .ref D ∧ d = some dd ∧ ExcC K D ∧ rIsX K D a dd xs H Q
theorem call_isG {X : Cx} {a : Addr} {cls : Value} {d : Option Addr} {oe : Obj} {pn : List (Addr × Obj)} (hz : Zc cls d oe) (hf : ∃ vs, oe.data = .fields vs) : CallR (X.suite a ((a, oe) :: pn)) (.builtin "isinstance") (rIsG X.K cls d a) := by
  intro pins s σ H xs us Q I r h
  obtain ⟨D, dd, rfl, rfl, C, h⟩ := h
  exact call_isX C hz hf pins s σ H xs us Q I r h
/-- an error class, as the law's told asks for it: which of the twelve it is -/
structure ErK (K : PySem.W.Frag) (Z C0 C1 C2 C3 C4 C5 C6 C7 C8 C9 C10 C11 W : Addr) (i : Nat) : Prop where
  te : PySem.W.exmOne K (.ref Z) (.ref W) = some true
  xf : XfC K Z
  xc : ExcC K Z
  k0 : PySem.W.kitOne K (.ref Z) (.ref C0) = some (decide (i = 0))
  k1 : PySem.W.kitOne K (.ref Z) (.ref C1) = some (decide (i = 1))
  k2 : PySem.W.kitOne K (.ref Z) (.ref C2) = some (decide (i = 2))
  k3 : PySem.W.kitOne K (.ref Z) (.ref C3) = some (decide (i = 3))
  k4 : PySem.W.kitOne K (.ref Z) (.ref C4) = some (decide (i = 4))
  k5 : PySem.W.kitOne K (.ref Z) (.ref C5) = some (decide (i = 5))
  k6 : PySem.W.kitOne K (.ref Z) (.ref C6) = some (decide (i = 6))
  k7 : PySem.W.kitOne K (.ref Z) (.ref C7) = some (decide (i = 7))
  k8 : PySem.W.kitOne K (.ref Z) (.ref C8) = some (decide (i = 8))
  k9 : PySem.W.kitOne K (.ref Z) (.ref C9) = some (decide (i = 9))
  k10 : PySem.W.kitOne K (.ref Z) (.ref C10) = some (decide (i = 10))
  k11 : PySem.W.kitOne K (.ref Z) (.ref C11) = some (decide (i = 11))
  kv : PySem.W.kitOne K (.ref Z) (.type "ValueError") = some true
structure TxE (K : PySem.W.Frag) (mg : Str → Option Value) (C0 C1 C2 C3 C4 C5 C6 C7 C8 C9 C10 C11 W : Addr) : Prop where
  g0 : mg "NoName" = some (.ref C0)
  g1 : mg "Taken" = some (.ref C1)
  g2 : mg "NoSort" = some (.ref C2)
  g3 : mg "NoThing" = some (.ref C3)
  g4 : mg "NoWord" = some (.ref C4)
  g5 : mg "Asleep" = some (.ref C5)
  g6 : mg "NoRule" = some (.ref C6)
  g7 : mg "Misfit" = some (.ref C7)
  g8 : mg "Full" = some (.ref C8)
  g9 : mg "NotHeld" = some (.ref C9)
  g10 : mg "NoMaking" = some (.ref C10)
  g11 : mg "NoDeed" = some (.ref C11)
  gW : mg "WhoError" = some (.ref W)
  e0 : ErK K C0 C0 C1 C2 C3 C4 C5 C6 C7 C8 C9 C10 C11 W 0
  e1 : ErK K C1 C0 C1 C2 C3 C4 C5 C6 C7 C8 C9 C10 C11 W 1
  e2 : ErK K C2 C0 C1 C2 C3 C4 C5 C6 C7 C8 C9 C10 C11 W 2
  e8 : ErK K C8 C0 C1 C2 C3 C4 C5 C6 C7 C8 C9 C10 C11 W 8
  n0 : PySem.W.findIn K (.ref C0) "name" = some none
  n1 : PySem.W.findIn K (.ref C1) "name" = some none
  n2 : PySem.W.findIn K (.ref C2) "name" = some none
def spTld (e : Er4) : Addr → Value → Option Addr → Sp := fun a cls d vs H Q _ => vs = [.ref a] ∧ ∃ (dd : Addr) (r : Rf), d = some dd ∧ cls = .ref (clsOf e r) ∧ H dd = some (.xd (fsOf r)) ∧ ∀ t H', Same H H' → H t = none → H' t = some (.tup (tupOf r)) → Q (.ref t) H'
def b2i (b : Bool) : Int := if b then 1 else 0
section
variable {P : Program} {w : World} {K : PySem.W.Frag} {mg : Str → Option Value} {base : Heap}
theorem scTld : FnScope ["_law_e", "_law_some", "_law_names_here", "_law_at", "_law_one"] ["_law_e"] (defScope sTld) := ⟨rfl, rfl, rfl, by decide +kernel, rfl, by decide +kernel, by decide +kernel⟩
theorem ok_tld {f C0 C1 C2 C3 C4 C5 C6 C7 C8 C9 C10 C11 W : Addr} {fd : FuncData} (F : Fun K "_law_told" "_law_told" sTld f fd) (T : TxB mg) (tsum : mg "sum" = none) (TE : TxE K mg C0 C1 C2 C3 C4 C5 C6 C7 C8 C9 C10 C11 W) : FnEN P w K mg base 1 f fd ["_law_e"] (spTld ⟨C0, C1, C2, C8⟩) := by
  refine FunEN_ok F scTld (fun a cls d vs H Q E h => ?_) (fun cdv A outer s H vs Q E a oe cls d hz hf hr h => ?_)
  · obtain ⟨rfl, _⟩ := h
    rfl
  · obtain ⟨rfl, dd, r, rfl, hcl, h⟩ := h
    obtain ⟨vf, hv⟩ := id hf
    have hn : vf[2]? = some .none := hz.2.2 vf hv
    have go : ∀ {Z Y : Addr} {i : Nat} {fs : List (Str × V)}, cls = .ref Z → H dd = some (.xd fs) → ErK K Z C0 C1 C2 C3 C4 C5 C6 C7 C8 C9 C10 C11 W i → XfC K Y → PySem.W.findIn K (.ref Y) "name" = some none → (([decide (i = 0), decide (i = 1), decide (i = 2), decide (i = 3), decide (i = 4), decide (i = 5), decide (i = 6), decide (i = 7), decide (i = 8), decide (i = 9), decide (i = 10), decide (i = 11)] : List Bool).map b2i).sum = 1 → ([.bl (decide (i = 0)), .bl (decide (i = 1)), .bl (decide (i = 2)), .bl (decide (i = 3)), .bl (decide (i = 4)), .bl (decide (i = 5)), .bl (decide (i = 6)), .bl (decide (i = 7)), .bl (decide (i = 8)), .bl (decide (i = 9)), .bl (decide (i = 10)), .bl (decide (i = 11))] : List V)[i]? = some (.bl true) →
        (∀ (m : Nat) (z' : V), m < i → ([.bl (decide (i = 0)), .bl (decide (i = 1)), .bl (decide (i = 2)), .bl (decide (i = 3)), .bl (decide (i = 4)), .bl (decide (i = 5)), .bl (decide (i = 6)), .bl (decide (i = 7)), .bl (decide (i = 8)), .bl (decide (i = 9)), .bl (decide (i = 10)), .bl (decide (i = 11))] : List V)[m]? = some z' → eqV z' (.bl true) = false) → i < 9 →
        (if i < 8 then (cls = .ref Y ∧ ∃ (u : V) (kd : Str), ([.str "noname", .str "taken", .str "nosort", .str "nothing", .str "noword", .str "asleep", .str "norule", .str "misfit"] : List V)[i]? = some (.str kd) ∧ fs.lookup ("name" : Str) = some u ∧ ∀ t H'', Same H H'' → H t = none → H'' t = some (.tup [.str kd, u]) → Q (.ref t) H'')
          else (∀ t H'', Same H H'' → H t = none → H'' t = some (.tup [.str "full"]) → Q (.ref t) H'')) →
        ∃ t, PSs ((cxOf CX0 P w K mg base ["_law_e", "_law_some", "_law_names_here", "_law_at", "_law_one"] "_law_told" (defScope sTld) f cdv A outer s H E).suite a [(a, oe)]) (defBody sTld) t ∧ t { nx := fun _ H' => Q .non H', rt := Q } (L2.start ["_law_e", "_law_some", "_law_names_here", "_law_at", "_law_one"] [.ref a]) H := by
      intro Z Y i fs hcls hx EZ xY nY one iT iF i9 rest
      refine ⟨_, (pss_cons (ps_set (i := 1) scTld.nd rfl (Or.inl rfl) (pe_lst (pa_cons (pe_callB (call_isG hz.zc hf) (by rfl) T.isinstance (by decide +kernel) (pa_cons (pv 0) (pa_cons (pe_glob (v := .ref C0) (by rfl) TE.g0 rfl) pa_nil))) (pa_cons (pe_callB (call_isG hz.zc hf) (by rfl) T.isinstance (by decide +kernel) (pa_cons (pv 0) (pa_cons (pe_glob (v := .ref C1) (by rfl) TE.g1 rfl) pa_nil))) (pa_cons (pe_callB (call_isG hz.zc hf) (by rfl) T.isinstance (by decide +kernel) (pa_cons (pv 0) (pa_cons (pe_glob (v := .ref C2) (by rfl) TE.g2 rfl) pa_nil))) (pa_cons (pe_callB (call_isG hz.zc hf) (by rfl) T.isinstance (by decide +kernel) (pa_cons (pv 0) (pa_cons (pe_glob (v := .ref C3) (by rfl) TE.g3 rfl) pa_nil))) pa_nil))))))
      (pss_cons (ps_set (i := 1) scTld.nd rfl (Or.inl rfl) (pe_op op_cat (pv 1) (pe_lst (pa_cons (pe_callB (call_isG hz.zc hf) (by rfl) T.isinstance (by decide +kernel) (pa_cons (pv 0) (pa_cons (pe_glob (v := .ref C4) (by rfl) TE.g4 rfl) pa_nil))) (pa_cons (pe_callB (call_isG hz.zc hf) (by rfl) T.isinstance (by decide +kernel) (pa_cons (pv 0) (pa_cons (pe_glob (v := .ref C5) (by rfl) TE.g5 rfl) pa_nil))) (pa_cons (pe_callB (call_isG hz.zc hf) (by rfl) T.isinstance (by decide +kernel) (pa_cons (pv 0) (pa_cons (pe_glob (v := .ref C6) (by rfl) TE.g6 rfl) pa_nil))) (pa_cons (pe_callB (call_isG hz.zc hf) (by rfl) T.isinstance (by decide +kernel) (pa_cons (pv 0) (pa_cons (pe_glob (v := .ref C7) (by rfl) TE.g7 rfl) pa_nil))) pa_nil)))))))
      (pss_cons (ps_set (i := 1) scTld.nd rfl (Or.inl rfl) (pe_op op_cat (pv 1) (pe_lst (pa_cons (pe_callB (call_isG hz.zc hf) (by rfl) T.isinstance (by decide +kernel) (pa_cons (pv 0) (pa_cons (pe_glob (v := .ref C8) (by rfl) TE.g8 rfl) pa_nil))) (pa_cons (pe_callB (call_isG hz.zc hf) (by rfl) T.isinstance (by decide +kernel) (pa_cons (pv 0) (pa_cons (pe_glob (v := .ref C9) (by rfl) TE.g9 rfl) pa_nil))) (pa_cons (pe_callB (call_isG hz.zc hf) (by rfl) T.isinstance (by decide +kernel) (pa_cons (pv 0) (pa_cons (pe_glob (v := .ref C10) (by rfl) TE.g10 rfl) pa_nil))) (pa_cons (pe_callB (call_isG hz.zc hf) (by rfl) T.isinstance (by decide +kernel) (pa_cons (pv 0) (pa_cons (pe_glob (v := .ref C11) (by rfl) TE.g11 rfl) pa_nil))) pa_nil)))))))
      (pss_cons (ps_if (PW.pt (pw_or (pt_cmpR op_ne (pe_callB (cr_sumH hv hn) (by rfl) tsum (by decide +kernel) (pa_cons (pe_lcH (own := [("_law_one", 4)]) (g := gName 4) rfl List.mem_cons_self hv hn scTld.nd (pv 1) (blkOk_by (N := ["_law_e", "_law_some", "_law_names_here", "_law_at", "_law_one"]) (sc := defScope sTld) (by decide +kernel)) (fun _ _ _ _ _ => (pg_name (i := 4) scTld.nd rfl (Or.inl rfl))) (fun _ _ _ _ _ => (pe_callTy call_int1 (by rfl) T.int (by decide +kernel) (pa_cons (pv 4) pa_nil)))) pa_nil)) pe_int (nomark _)) (pw_or1 (pt_not (pt_val (pe_callB (call_isG hz.zc hf) (by rfl) T.isinstance (by decide +kernel) (pa_cons (pv 0) (pa_cons (pe_bltn (v := .ty "ValueError") (by rfl) T.ve (by decide +kernel) rfl) pa_nil)))))))) (pss_one (ps_ret (pe_tup (pa_cons pe_str pa_nil)))) pss_nil)
      (pss_cons (ps_set (i := 2) scTld.nd rfl (Or.inl rfl) (pe_lst (pa_cons pe_str (pa_cons pe_str (pa_cons pe_str (pa_cons pe_str (pa_cons pe_str (pa_cons pe_str (pa_cons pe_str (pa_cons pe_str pa_nil))))))))))
      (pss_cons (ps_set (i := 3) scTld.nd rfl (Or.inl rfl) (pe_bm PySem.F.plainAttrs_list PySem.F.slot_list_index PySem.F.type_list_index mt_index (pv 1) (pa_cons pe_bl pa_nil)))
      (pss_cons (ps_if (pt_cmpR op_lt (pv 3) pe_int (nomark _)) (pss_one (ps_ret (pe_tup (pa_cons (pe_ix ix_list (pv 2) (pv 3) (fun _ _ => rfl)) (pa_cons (pe_xf xY nY hz.zc hf (pv 0)) pa_nil))))) pss_nil)
      (pss_cons (ps_if (pt_cmpR op_eq (pv 3) pe_int (nomark _)) (pss_one (ps_ret pe_never)) pss_nil)
      (pss_cons (ps_if (pt_cmpR op_eq (pv 3) pe_int (nomark _)) (pss_one (ps_ret pe_never)) pss_nil)
      (pss_cons (ps_if (pt_cmpR op_eq (pv 3) pe_int (nomark _)) (pss_one (ps_ret pe_never)) pss_nil)
      (pss_one (ps_ret (pe_tup (pa_cons pe_str pa_nil)))))))))))))), ?_⟩
      refine ⟨_, rfl, Z, dd, hcls, rfl, EZ.xc, _, _, _, _, rfl, hx, (fun u r => r), EZ.k0, ?_⟩
      refine ⟨_, rfl, Z, dd, hcls, rfl, EZ.xc, _, _, _, _, rfl, hx, (fun u r => r), EZ.k1, ?_⟩
      refine ⟨_, rfl, Z, dd, hcls, rfl, EZ.xc, _, _, _, _, rfl, hx, (fun u r => r), EZ.k2, ?_⟩
      refine ⟨_, rfl, Z, dd, hcls, rfl, EZ.xc, _, _, _, _, rfl, hx, (fun u r => r), EZ.k3, ?_⟩
      refine ⟨by show 4 ≤ sizeLine; decide, fun l0 hl0 => ?_⟩
      dsimp only [gName, List.set_cons_succ, List.set_cons_zero]
      have S0 : Same H (upd H l0 (.lst [.bl (decide (i = 0)), .bl (decide (i = 1)), .bl (decide (i = 2)), .bl (decide (i = 3))])) := Same.upd hl0
      have e0 : (upd H l0 (.lst [.bl (decide (i = 0)), .bl (decide (i = 1)), .bl (decide (i = 2)), .bl (decide (i = 3))])) l0 = some (.lst [.bl (decide (i = 0)), .bl (decide (i = 1)), .bl (decide (i = 2)), .bl (decide (i = 3))]) := upd_same
      generalize upd H l0 (.lst [.bl (decide (i = 0)), .bl (decide (i = 1)), .bl (decide (i = 2)), .bl (decide (i = 3))]) = G0 at S0 e0
      have hx0 := S0 _ _ hx
      refine ⟨_, rfl, ?_⟩
      refine ⟨_, rfl, Z, dd, hcls, rfl, EZ.xc, _, _, _, _, rfl, hx0, (fun u r => r), EZ.k4, ?_⟩
      refine ⟨_, rfl, Z, dd, hcls, rfl, EZ.xc, _, _, _, _, rfl, hx0, (fun u r => r), EZ.k5, ?_⟩
      refine ⟨_, rfl, Z, dd, hcls, rfl, EZ.xc, _, _, _, _, rfl, hx0, (fun u r => r), EZ.k6, ?_⟩
      refine ⟨_, rfl, Z, dd, hcls, rfl, EZ.xc, _, _, _, _, rfl, hx0, (fun u r => r), EZ.k7, ?_⟩
      refine ⟨by show 4 ≤ sizeLine; decide, fun l1 hl1 => ?_⟩
      have S1 : Same G0 (upd G0 l1 (.lst [.bl (decide (i = 4)), .bl (decide (i = 5)), .bl (decide (i = 6)), .bl (decide (i = 7))])) := Same.upd hl1
      have e1 : (upd G0 l1 (.lst [.bl (decide (i = 4)), .bl (decide (i = 5)), .bl (decide (i = 6)), .bl (decide (i = 7))])) l1 = some (.lst [.bl (decide (i = 4)), .bl (decide (i = 5)), .bl (decide (i = 6)), .bl (decide (i = 7))]) := upd_same
      have e01 := S1 _ _ e0
      have S01 := S0.trans S1
      generalize upd G0 l1 (.lst [.bl (decide (i = 4)), .bl (decide (i = 5)), .bl (decide (i = 6)), .bl (decide (i = 7))]) = G1 at S1 e1 e01 S01
      refine ⟨l0, l1, _, _, rfl, rfl, e01, e1, by show 8 ≤ sizeLine; decide, fun l2 hl2 => ?_⟩
      dsimp only [gName, List.set_cons_succ, List.set_cons_zero]
      have S2 : Same G1 (upd G1 l2 (.lst ([.bl (decide (i = 0)), .bl (decide (i = 1)), .bl (decide (i = 2)), .bl (decide (i = 3))] ++ [.bl (decide (i = 4)), .bl (decide (i = 5)), .bl (decide (i = 6)), .bl (decide (i = 7))]))) := Same.upd hl2
      have e2 : (upd G1 l2 (.lst ([.bl (decide (i = 0)), .bl (decide (i = 1)), .bl (decide (i = 2)), .bl (decide (i = 3))] ++ [.bl (decide (i = 4)), .bl (decide (i = 5)), .bl (decide (i = 6)), .bl (decide (i = 7))]))) l2 = some (.lst ([.bl (decide (i = 0)), .bl (decide (i = 1)), .bl (decide (i = 2)), .bl (decide (i = 3))] ++ [.bl (decide (i = 4)), .bl (decide (i = 5)), .bl (decide (i = 6)), .bl (decide (i = 7))])) := upd_same
      have S02 := S01.trans S2
      generalize upd G1 l2 (.lst ([.bl (decide (i = 0)), .bl (decide (i = 1)), .bl (decide (i = 2)), .bl (decide (i = 3))] ++ [.bl (decide (i = 4)), .bl (decide (i = 5)), .bl (decide (i = 6)), .bl (decide (i = 7))])) = G2 at S2 e2 S02
      have hx2' := S02 _ _ hx
      refine ⟨_, rfl, ?_⟩
      refine ⟨_, rfl, Z, dd, hcls, rfl, EZ.xc, _, _, _, _, rfl, hx2', (fun u r => r), EZ.k8, ?_⟩
      refine ⟨_, rfl, Z, dd, hcls, rfl, EZ.xc, _, _, _, _, rfl, hx2', (fun u r => r), EZ.k9, ?_⟩
      refine ⟨_, rfl, Z, dd, hcls, rfl, EZ.xc, _, _, _, _, rfl, hx2', (fun u r => r), EZ.k10, ?_⟩
      refine ⟨_, rfl, Z, dd, hcls, rfl, EZ.xc, _, _, _, _, rfl, hx2', (fun u r => r), EZ.k11, ?_⟩
      refine ⟨by show 4 ≤ sizeLine; decide, fun l3 hl3 => ?_⟩
      have S3 : Same G2 (upd G2 l3 (.lst [.bl (decide (i = 8)), .bl (decide (i = 9)), .bl (decide (i = 10)), .bl (decide (i = 11))])) := Same.upd hl3
      have e3 : (upd G2 l3 (.lst [.bl (decide (i = 8)), .bl (decide (i = 9)), .bl (decide (i = 10)), .bl (decide (i = 11))])) l3 = some (.lst [.bl (decide (i = 8)), .bl (decide (i = 9)), .bl (decide (i = 10)), .bl (decide (i = 11))]) := upd_same
      have e23 := S3 _ _ e2
      have S03 := S02.trans S3
      generalize upd G2 l3 (.lst [.bl (decide (i = 8)), .bl (decide (i = 9)), .bl (decide (i = 10)), .bl (decide (i = 11))]) = G3 at S3 e3 e23 S03
      refine ⟨l2, l3, _, _, rfl, rfl, e23, e3, by show 12 ≤ sizeLine; decide, fun l hl => ?_⟩
      dsimp only [gName, List.set_cons_succ, List.set_cons_zero]
      have S4 : Same G3 (upd G3 l (.lst (([.bl (decide (i = 0)), .bl (decide (i = 1)), .bl (decide (i = 2)), .bl (decide (i = 3))] ++ [.bl (decide (i = 4)), .bl (decide (i = 5)), .bl (decide (i = 6)), .bl (decide (i = 7))]) ++ [.bl (decide (i = 8)), .bl (decide (i = 9)), .bl (decide (i = 10)), .bl (decide (i = 11))]))) := Same.upd hl
      have el : (upd G3 l (.lst (([.bl (decide (i = 0)), .bl (decide (i = 1)), .bl (decide (i = 2)), .bl (decide (i = 3))] ++ [.bl (decide (i = 4)), .bl (decide (i = 5)), .bl (decide (i = 6)), .bl (decide (i = 7))]) ++ [.bl (decide (i = 8)), .bl (decide (i = 9)), .bl (decide (i = 10)), .bl (decide (i = 11))]))) l = some (.lst [.bl (decide (i = 0)), .bl (decide (i = 1)), .bl (decide (i = 2)), .bl (decide (i = 3)), .bl (decide (i = 4)), .bl (decide (i = 5)), .bl (decide (i = 6)), .bl (decide (i = 7)), .bl (decide (i = 8)), .bl (decide (i = 9)), .bl (decide (i = 10)), .bl (decide (i = 11))]) := upd_same
      have S1 := S03.trans S4
      generalize upd G3 l (.lst (([.bl (decide (i = 0)), .bl (decide (i = 1)), .bl (decide (i = 2)), .bl (decide (i = 3))] ++ [.bl (decide (i = 4)), .bl (decide (i = 5)), .bl (decide (i = 6)), .bl (decide (i = 7))]) ++ [.bl (decide (i = 8)), .bl (decide (i = 9)), .bl (decide (i = 10)), .bl (decide (i = 11))])) = H1 at S4 el S1
      refine ⟨_, rfl, l, _, rfl, SqL.of el, fun Dl hD => ⟨fun j H' => H' Dl = some (.lst ((([decide (i = 0), decide (i = 1), decide (i = 2), decide (i = 3), decide (i = 4), decide (i = 5), decide (i = 6), decide (i = 7), decide (i = 8), decide (i = 9), decide (i = 10), decide (i = 11)].take j).map b2i).map V.int)) ∧ Same H1 H', ⟨upd_same, Same.upd hD⟩, fun j H' p => SqL.of (p.2 _ _ el), ?_, ?_⟩⟩
      · rintro j x H' hxj ⟨hj, sj⟩
        obtain ⟨b, hb, rfl⟩ : ∃ b, ([decide (i = 0), decide (i = 1), decide (i = 2), decide (i = 3), decide (i = 4), decide (i = 5), decide (i = 6), decide (i = 7), decide (i = 8), decide (i = 9), decide (i = 10), decide (i = 11)] : List Bool)[j]? = some b ∧ V.bl b = x := by
          have hxj : (([decide (i = 0), decide (i = 1), decide (i = 2), decide (i = 3), decide (i = 4), decide (i = 5), decide (i = 6), decide (i = 7), decide (i = 8), decide (i = 9), decide (i = 10), decide (i = 11)] : List Bool).map V.bl)[j]? = some x := hxj
          rw [List.getElem?_map] at hxj
          exact Option.map_eq_some_iff.mp hxj
        refine ⟨rfl, ⟨_, rfl, .inr ⟨b, rfl, _, hj, ?_, ?_, ?_⟩⟩⟩
        · rw [List.length_map, List.length_map, List.length_take]
          exact Nat.lt_of_le_of_lt (show min j 12 ≤ 12 from Nat.min_le_right _ _) (by decide)
        · rw [upd_same, List.take_add_one, hb, List.map_append, List.map_append]
          rfl
        · intro q o z
          rw [upd_ne (ne_of_none z hD)]
          exact sj q o z
      · rintro H2 ⟨hj, s2⟩
        have hj : H2 Dl = some (.lst ((([decide (i = 0), decide (i = 1), decide (i = 2), decide (i = 3), decide (i = 4), decide (i = 5), decide (i = 6), decide (i = 7), decide (i = 8), decide (i = 9), decide (i = 10), decide (i = 11)] : List Bool).map b2i).map V.int)) := hj
        refine ⟨Dl, _, rfl, SqL.of hj, rfl, _, rfl, ?_⟩
        rw [one]
        refine ite2 (fun q => absurd q (by simp)) (fun _ => ?_)
        have S2 := S1.trans s2
        have hx2 := S2 _ _ hx
        refine ⟨_, rfl, Z, dd, hcls, rfl, EZ.xc, _, _, _, _, rfl, hx2, (fun u r => by cases r; rfl), EZ.kv, _, rfl, ?_⟩
        refine iteF ?_
        refine ⟨by show 8 ≤ sizeLine; decide, fun ln hln => ?_⟩
        dsimp only [gName, List.set_cons_succ, List.set_cons_zero]
        have S5 : Same H2 (upd H2 ln (.lst [.str "noname", .str "taken", .str "nosort", .str "nothing", .str "noword", .str "asleep", .str "norule", .str "misfit"])) := Same.upd hln
        have en : (upd H2 ln (.lst [.str "noname", .str "taken", .str "nosort", .str "nothing", .str "noword", .str "asleep", .str "norule", .str "misfit"])) ln = some (.lst [.str "noname", .str "taken", .str "nosort", .str "nothing", .str "noword", .str "asleep", .str "norule", .str "misfit"]) := upd_same
        have el5 := S5 _ _ (s2 _ _ el)
        have hx5 := S5 _ _ hx2
        have S05 := S2.trans S5
        generalize upd H2 ln (.lst [.str "noname", .str "taken", .str "nosort", .str "nothing", .str "noword", .str "asleep", .str "norule", .str "misfit"]) = H5 at S5 en el5 hx5 S05
        refine ⟨_, rfl, .inl ⟨rfl, _, SqL.of el5⟩, ?_⟩
        refine ⟨l, _, .bl true, i, .bl true, rfl, rfl, SqL.of el5, rfl, rfl, iT, rfl, iF, ?_⟩
        dsimp only [gName, List.set_cons_succ, List.set_cons_zero]
        refine ⟨_, rfl, _, _, rfl, rfl, _, rfl, ?_⟩
        refine ite2 (fun z => ?_) (fun z => ?_)
        · have i8 : i < 8 := by have := of_decide_eq_true z; omega
          rw [if_pos i8] at rest
          obtain ⟨ec, u, kd, ek, lu, qq⟩ := rest
          refine ⟨_, rfl, _, rfl, ?_⟩
          refine rdList en (j := i) (v := .str kd) rfl ek ?_
          refine ⟨_, rfl, rfl, ec, dd, _, _, rfl, hx5, lu, ?_⟩
          exact ⟨by show 2 ≤ sizeLine; decide, fun t nt => qq t _ (S05.trans (Same.upd nt)) (S05.free nt) upd_same⟩
        · have i8 : ¬ i < 8 := fun q => z (decide_eq_true (by omega))
          rw [if_neg i8] at rest
          have e8 : i = 8 := by omega
          subst e8
          refine ⟨_, rfl, rfl, _, rfl, ?_⟩
          refine ite2 (fun q => absurd (V.int.inj (of_decide_eq_true q)) (by decide)) (fun _ => ?_)
          refine ⟨_, rfl, rfl, _, rfl, ?_⟩
          refine ite2 (fun q => absurd (V.int.inj (of_decide_eq_true q)) (by decide)) (fun _ => ?_)
          refine ⟨_, rfl, rfl, _, rfl, ?_⟩
          refine ite2 (fun q => absurd (V.int.inj (of_decide_eq_true q)) (by decide)) (fun _ => ?_)
          exact ⟨by show 1 ≤ sizeLine; decide, fun t nt => rest t _ (S05.trans (Same.upd nt)) (S05.free nt) upd_same⟩
    have no : ∀ {i : Nat}, i < 9 → ∀ (m : Nat) (z' : V), m < i → ([.bl (decide (i = 0)), .bl (decide (i = 1)), .bl (decide (i = 2)), .bl (decide (i = 3)), .bl (decide (i = 4)), .bl (decide (i = 5)), .bl (decide (i = 6)), .bl (decide (i = 7)), .bl (decide (i = 8)), .bl (decide (i = 9)), .bl (decide (i = 10)), .bl (decide (i = 11))] : List V)[m]? = some z' → eqV z' (.bl true) = false := by
      intro i hi m z' hm e
      have em : ([.bl (decide (i = 0)), .bl (decide (i = 1)), .bl (decide (i = 2)), .bl (decide (i = 3)), .bl (decide (i = 4)), .bl (decide (i = 5)), .bl (decide (i = 6)), .bl (decide (i = 7)), .bl (decide (i = 8)), .bl (decide (i = 9)), .bl (decide (i = 10)), .bl (decide (i = 11))] : List V)[m]? = some (.bl (decide (i = m))) := by
        rcases (by omega : m = 0 ∨ m = 1 ∨ m = 2 ∨ m = 3 ∨ m = 4 ∨ m = 5 ∨ m = 6 ∨ m = 7) with rfl | rfl | rfl | rfl | rfl | rfl | rfl | rfl <;> rfl
      rw [em, decide_eq_false (by omega)] at e
      cases e
      rfl
    obtain ⟨hx, k⟩ := h
    match r, hcl, hx, k with
    | .one 0 z, hcl, hx, k => exact go (i := 0) hcl hx TE.e0 TE.e0.xf TE.n0 (by decide) rfl (no (by decide)) (by decide) (by rw [if_pos (by decide)]; exact ⟨hcl, .str z, _, rfl, rfl, k⟩)
    | .one 1 z, hcl, hx, k => exact go (i := 1) hcl hx TE.e1 TE.e1.xf TE.n1 (by decide) rfl (no (by decide)) (by decide) (by rw [if_pos (by decide)]; exact ⟨hcl, .str z, _, rfl, rfl, k⟩)
    | .one (n + 2) z, hcl, hx, k => exact go (i := 2) hcl hx TE.e2 TE.e2.xf TE.n2 (by decide) rfl (no (by decide)) (by decide) (by rw [if_pos (by decide)]; exact ⟨hcl, .str z, _, rfl, rfl, k⟩)
    | .full, hcl, hx, k => exact go (i := 8) hcl hx TE.e8 TE.e0.xf TE.n0 (by decide) rfl (no (by decide)) (by decide) (by rw [if_neg (by decide)]; exact k)
end
end Wm
/-! methods called within a try, by place and by name -/
namespace Wm
open PySem PySem.Spec PyProof.Rows L2
def tMethZ (C : Addr) (m : Str) (sp : Sp) (E : L2.St → XK) (ta : TE) (t : TA) : TE := fun σ H Q => ta σ H fun x H1 => ∃ a dx fs, x = .ref a ∧ H1 a = some (.ins C dx fs) ∧ fs.lookup m = none ∧ t σ H1 fun vs H2 => sp (x :: vs) H2 Q (E σ)
section
variable {X : Cx} {CX : CXT} {k : Nat} {f C : Addr} {fd : FuncData} {ps : List Str} {sp : Sp} {E : L2.St → XK} {m : Str} {pos apos kpos : Pos} {e o : Expr} {es : List Expr} {ta te : TE} {t : TA}
theorem pe_methZ {pl : Sem Bool} (he : PE X o ta) (c : Cls X.K C) (hm : Meth X.K C m f) (F : FnOk X.prog X.w X.K X.mg X.base CX k f fd ps sp) (hr : Room k X.A) (hb : Binds X.K fd ps []) (hx : ∀ σ, PassesAt CX X σ (E σ)) (ha : PA X (e :: es) t)
    (hst : starEach (e :: es) X.env = (false, eval e X.env) :: starEach es X.env := by rfl) (hpl : (backTo pos (starEach es X.env)).any (·.1) = false := by rfl)
    (ht : eval (.Call (.Attribute o m apos) (e :: es) [] pos) X.env = (do
      let ov ← eval o X.env
      standAt apos.atName
      let (f, first) ← holding [ov] (getMethod ov m pl)
      callWith pos f first (backTo pos (starEach (e :: es) X.env)) (backToKw pos (keywordEach [] X.env))) := by rfl) :
    PE X (.Call (.Attribute o m apos) (e :: es) [] pos) (tMethZ C m sp E ta t) := by
  refine ⟨fun pins s σ H Q I h => ?_⟩
  refine PySem.W.methodCall_KW (pl := pl) (thn (he.run pins s σ H _ I h) fun u s1 hh => ?_) ht
  obtain ⟨x, H1, I1, rx, a, dx, fs, ex, ea, l, q⟩ := hh
  subst ex
  obtain rfl : u = Value.ref a := rx
  refine getmeth_ok I1 ea c hm l ?_
  refine PySem.W.callWith_K (first := [.ref a]) (h₀ := X.base) I.ok.mod.kin hm.kp (thn (ha.run pos pins s1 σ H1 _ I1 q) fun us s2 hh => ?_) hst hpl
  obtain ⟨vs, H2, I2, r, q2⟩ := hh
  exact ⟨I2.kIn, run_fnS (us := .ref a :: us) (vs := .ref a :: vs) F hr hb (hx σ) I2 (.cons rfl r) q2⟩
/-- how one keyword is bound behind the object itself -/
def KwOne (K : PySem.W.Frag) (fd : FuncData) (ps : List Str) (x : Str) : Prop := ∀ (s : Shared) (u v : Value), K.In s.heap → BindsTo s fd ⟨[u], [(x, v)]⟩ (ps.zip [u, v])
/-- o.m(x=e) -/
theorem pe_methKZ {pl : Sem Bool} {x : Str} (ho : PE X o ta) (c : Cls X.K C) (hm : Meth X.K C m f) (F : FnOk X.prog X.w X.K X.mg X.base CX k f fd ps sp) (hr : Room k X.A) (hb : KwOne X.K fd ps x) (hx : ∀ σ, PassesAt CX X σ (E σ)) (he : PE X e te)
    (ht : eval (.Call (.Attribute o m apos) [] [⟨some x, e, kpos⟩] pos) X.env = (do
      let ov ← eval o X.env
      standAt apos.atName
      let (f, first) ← holding [ov] (getMethod ov m pl)
      callWith pos f first (backTo pos (starEach [] X.env)) (backToKw pos (keywordEach [⟨some x, e, kpos⟩] X.env))) := by rfl)
    (hall : (backToKw pos (keywordEach [⟨some x, e, kpos⟩] X.env)).all (·.1.isSome) = true := by rfl) (hks : (backToKw pos (keywordEach [⟨some x, e, kpos⟩] X.env)).filterMap (·.1) = [x] := by rfl) (hpl : ((backTo pos (starEach [] X.env)).any (·.1) || (backToKw pos (keywordEach [⟨some x, e, kpos⟩] X.env)).any (·.1.isNone)) = false := by rfl) (hps : ps.length = 2 := by rfl) :
    PE X (.Call (.Attribute o m apos) [] [⟨some x, e, kpos⟩] pos) (tMethZ C m sp E ta (tCons te tNil)) := by
  refine ⟨fun pins s σ H Q I h => ?_⟩
  refine PySem.W.methodCall_KW (pl := pl) (thn (ho.run pins s σ H _ I h) fun u s1 hh => ?_) ht
  obtain ⟨y, H1, I1, rx, a, dx, fs, ex, ea, l, q⟩ := hh
  subst ex
  obtain rfl : u = Value.ref a := rx
  refine getmeth_ok I1 ea c hm l ?_
  have hkw : PK X [⟨some x, e, kpos⟩] (tCons te tNil) := pk_cons he pk_nil
  refine PySem.W.callWith_KW0 (first := [.ref a]) (h₀ := X.base) I.ok.mod.kin hm.kp hall (thn (hkw.run pos pins s1 σ H1 _ I1 q) fun ws s2 hh => ?_) hpl
  obtain ⟨zs, H2, I2, rz, q2⟩ := hh
  refine ⟨I2.kIn, ?_⟩
  rw [hks]
  have hl := F.len _ _ _ _ q2
  cases rz with
  | nil =>
    rw [hps] at hl
    simp at hl
  | @cons v0 u0 vr ur r1 r2 =>
    cases r2 with
    | cons _ _ =>
      rw [hps] at hl
      simp at hl
    | nil =>
      have rv : Vals [V.ref a, v0] [Value.ref a, u0] := .cons rfl (.cons r1 .nil)
      refine wpAny_call (codeAny_mono (F.run X.A X.stack s2 H2 ⟨[Value.ref a], [(x, u0)]⟩ [Value.ref a, u0] [V.ref a, v0] Q (E σ) hr I2.env0 (hb s2 _ u0 I2.kIn) rv q2) fun r s' hq => ?_)
      cases r with
      | error er => exact hx σ pins H2 s2 er s' I2 hq
      | ok fl =>
        cases fl with
        | ret u => exact I2.after hq
        | next => exact False.elim hq
        | brk => exact False.elim hq
        | cont => exact False.elim hq
end
end Wm
namespace Wm
open PySem L2 StX
theorem eqv_self {d : PyData} (h : SeqAt.shaped d = true) : PyData.eqv d d = true := SeqAt.eqv_refl d (SeqAt.canLay_of_shaped h)
theorem strOk_of {z : Str} (h : okS z) : PyData.strOk z = true := by
  unfold PyData.strOk
  rw [Array.all_eq_true_iff_forall_mem]
  intro c hc
  exact decide_eq_true (h c (by simpa using hc))
theorem dp_strs {K : PySem.W.Frag} {H : Hp} : ∀ zs : List Str, DpAll K H (zs.map V.str) (zs.map PyData.str)
  | [] => .nil
  | z :: r => .cons (.str z) (dp_strs r)
theorem lay_strs : ∀ {zs : List Str}, (∀ z ∈ zs, okS z) → PyData.canLayAll0 (zs.map PyData.str) = true ∧ PyData.depthAll (zs.map PyData.str) ≤ 1
  | [], _ => by simp [PyData.canLayAll0, PyData.depthAll]
  | z :: r, h => by
    have h1 := strOk_of (h z List.mem_cons_self)
    have h2 := lay_strs (zs := r) fun y hy => h y (List.mem_cons_of_mem _ hy)
    obtain ⟨h2, h3⟩ := h2
    refine ⟨by simp only [List.map_cons, PyData.canLayAll0, PyData.canLay0, h1, h2, Bool.and_self], ?_⟩
    simp [PyData.depthAll, PyData.depth]
    omega
theorem shaped_strs {zs : List Str} (h : ∀ z ∈ zs, okS z) : SeqAt.shaped (.list (zs.map PyData.str)) = true := by
  obtain ⟨h1, h2⟩ := lay_strs h
  simp [SeqAt.shaped, PyData.canLay0, PyData.depth, h1]
  omega
/-! ### the law's own row of things -/
def thV (t : Thing) : List V := [.str t.1, .str t.2.1, .bl t.2.2]
def thD (t : Thing) : PyData := .tuple [.str t.1, .str t.2.1, .bool t.2.2]
def ThAt (K : PySem.W.Frag) (H : Hp) : List Addr → List Thing → Prop
  | [], [] => True
  | q :: qs, t :: ts => SqT K H q (thV t) ∧ ThAt K H qs ts
  | _, _ => False
theorem ThAt.imp {K : PySem.W.Frag} {H H' : Hp} (s : ∀ {q : Addr} {xs : List V}, SqT K H q xs → SqT K H' q xs) : ∀ {qs : List Addr} {ts : List Thing}, ThAt K H qs ts → ThAt K H' qs ts
  | [], [], _ => True.intro
  | _ :: _, _ :: _, h => ⟨s h.1, ThAt.imp s h.2⟩
  | [], _ :: _, h => h.elim
  | _ :: _, [], h => h.elim
theorem ThAt.same {K : PySem.W.Frag} {H H' : Hp} {qs : List Addr} {ts : List Thing} (s : Same H H') (h : ThAt K H qs ts) : ThAt K H' qs ts := h.imp fun z => same_seqT s z
theorem ThAt.len {K : PySem.W.Frag} {H : Hp} : ∀ {qs : List Addr} {ts : List Thing}, ThAt K H qs ts → qs.length = ts.length
  | [], [], _ => rfl
  | _ :: _, _ :: _, h => congrArg (· + 1) (ThAt.len h.2)
  | [], _ :: _, h => h.elim
  | _ :: _, [], h => h.elim
theorem ThAt.get {K : PySem.W.Frag} {H : Hp} : ∀ {qs : List Addr} {ts : List Thing} {j : Nat} {y : V}, ThAt K H qs ts → (qs.map V.ref)[j]? = some y → ∃ q t, y = .ref q ∧ ts[j]? = some t ∧ SqT K H q (thV t)
  | q :: qs, t :: ts, 0, y, h, e => ⟨q, t, (Option.some.inj e).symm, rfl, h.1⟩
  | q :: qs, t :: ts, j + 1, y, h, e => by
    obtain ⟨q', t', a, b, c⟩ := ThAt.get (j := j) h.2 (by simpa using e)
    exact ⟨q', t', a, by simpa using b, c⟩
  | [], _, _, _, _, e => by simp at e
  | _ :: _, [], _, _, h, _ => h.elim
theorem ThAt.snoc {K : PySem.W.Frag} {H : Hp} {q : Addr} {t : Thing} (hq : SqT K H q (thV t)) : ∀ {qs : List Addr} {ts : List Thing}, ThAt K H qs ts → ThAt K H (qs ++ [q]) (ts ++ [t])
  | [], [], _ => ⟨hq, True.intro⟩
  | _ :: _, _ :: _, h => ⟨h.1, ThAt.snoc hq h.2⟩
  | [], _ :: _, h => h.elim
  | _ :: _, [], h => h.elim
theorem ThAt.dp {K : PySem.W.Frag} {H : Hp} : ∀ {qs : List Addr} {ts : List Thing}, ThAt K H qs ts → DpAll K H (qs.map V.ref) (ts.map thD)
  | [], [], _ => .nil
  | _ :: _, _ :: _, h => .cons (.tup h.1 (.cons (.str _) (.cons (.str _) (.cons (.bl _) .nil)))) (ThAt.dp h.2)
  | [], _ :: _, h => h.elim
  | _ :: _, [], h => h.elim
/-- texts that a comparison can lay -/
def OkTh (th : List Thing) : Prop := ∀ t ∈ th, okS t.1 ∧ okS t.2.1
theorem lay_ths : ∀ {ts : List Thing}, OkTh ts → PyData.canLayAll0 (ts.map thD) = true ∧ PyData.depthAll (ts.map thD) ≤ 2
  | [], _ => by simp [PyData.canLayAll0, PyData.depthAll]
  | t :: r, h => by
    obtain ⟨a, b⟩ := h t List.mem_cons_self
    have h2 := lay_ths (ts := r) fun y hy => h y (List.mem_cons_of_mem _ hy)
    obtain ⟨h2, h3⟩ := h2
    have e : (thD t).canLay0 = true := by simp [thD, PyData.canLay0, PyData.canLayAll0, strOk_of a, strOk_of b]
    have d : (thD t).depth ≤ 2 := by simp [thD, PyData.depth, PyData.depthAll]
    refine ⟨by simp only [List.map_cons, PyData.canLayAll0, e, h2, Bool.and_self], ?_⟩
    simp only [List.map_cons, PyData.depthAll]
    omega
theorem shaped_ths {ts : List Thing} (h : OkTh ts) : SeqAt.shaped (.list (ts.map thD)) = true := by
  obtain ⟨h1, h2⟩ := lay_ths h
  simp [SeqAt.shaped, PyData.canLay0, PyData.depth, h1]
  omega
theorem nm_ok {th : List Thing} (h : OkTh th) : ∀ z ∈ nmL th, okS z := fun z hz => by
  obtain ⟨t, ht, rfl⟩ := List.mem_map.mp hz
  exact (h t ht).1
/-- the reading of [one[0] for one in things] -/
theorem lc_nms {K : PySem.W.Frag} {a D : Addr} {qs : List Addr} {th : List Thing} {g : TG} {te : TE} {vs : List Nat} {σ : L2.St} {H1 : Hp} {Qd : Hp → Prop} (ha : H1 a = some (.lst (qs.map V.ref))) (hq : ThAt K H1 qs th) (hD : H1 D = none) (hth : th.length ≤ 1000)
    (he : ∀ (q : Addr) (t : Thing) (H : Hp) (Q : L2.St → Hp → Prop), SqT K H q (thV t) → (∀ σ2, wipe σ2 vs = wipe σ vs → (∀ Q2 : VK, Q2 (.str t.1) H → te σ2 H Q2) → Q σ2 H) → g (.ref q) (wipe σ vs) H Q)
    (hd : ∀ H, Same H1 H → H D = some (.lst ((nmL th).map V.str)) → Qd H) :
    ∃ W : Nat → Nat → Hp → Prop, (∃ m, W 0 m (upd H1 D (.lst []))) ∧ ∀ i m H, W i m H →
      ((Itl K a).stop i H ∧ Qd H) ∨ ((Itl K a).go i H ∧ ∃ Nx : Hp → Prop, (∀ H', Nx H' → ∃ m', m' < m ∧ W (i + 1) m' H') ∧ ∀ x H', (Itl K a).yld i H x H' → g x (wipe σ vs) H' fun σ2 H2 => wipe σ2 vs = wipe σ vs ∧ tYes σ2 H2 fun b H3 =>
        if b = true then te σ2 H3 fun y H4 => ∃ acc, H4 D = some (.lst acc) ∧ acc.length < sizeLine ∧ Nx (upd H4 D (.lst (acc ++ [y]))) else Nx H3) := by
  refine lc_list (K := K) (a := a) (xs := qs.map V.ref) (fun i H' => Same H1 H' ∧ H' D = some (.lst ((nmL (th.take i)).map V.str))) ⟨Same.upd hD, upd_same⟩ (fun i H' _ p => SqL.of (p.1 _ _ ha)) ?_ ?_
  · rintro i x H' hi ⟨hS, hl⟩
    obtain ⟨q, t, rfl, ht, hqt⟩ := hq.get hi
    refine he q t H' _ (same_seqT hS hqt) fun σ2 hw hq2 => ⟨hw, hq2 _ ?_⟩
    refine ⟨_, hl, ?_, ?_, ?_⟩
    · unfold nmL
      rw [List.length_map, List.length_map, List.length_take]
      exact Nat.lt_of_le_of_lt (show _ ≤ 1000 by omega) (by decide)
    · intro b o h
      rw [upd_ne (ne_of_none h hD)]
      exact hS b o h
    · rw [upd_same, List.take_add_one, ht]
      unfold nmL
      rw [List.map_append, List.map_append]
      rfl
  · rintro H' ⟨hS, hl⟩
    refine hd H' hS ?_
    rw [hl, List.length_map, hq.len, List.take_length]
def spCel (K : PySem.W.Frag) : Sp := fun vs H Q _ => ∃ (a : Addr) (ns : List Int) (j : Nat), vs = [.ref a, .int j] ∧ SqL K H a (ns.map V.int) ∧ ∀ i : Int, Q (.int i) H
def DueV (o : Option Rf) (H : Hp) (Q : VK) : Prop := match o with
  | none => ∀ H', Same H H' → Q .non H'
  | some r => ∀ t H', Same H H' → H t = none → H' t = some (.tup (tupOf r)) → Q (.ref t) H'
def spDue (K : PySem.W.Frag) : Sp := fun vs H Q _ => ∃ (ls lt : Addr) (n so : Str) (ss : List Str) (qs : List Addr) (th : List Thing), vs = [.ref ls, .ref lt, .str n, .str so] ∧ H ls = some (.lst (ss.map V.str)) ∧ H lt = some (.lst (qs.map V.ref)) ∧ ThAt K H qs th ∧ n.length ≤ 1000 ∧ th.length ≤ 1000 ∧ DueV (entD ss th n so) H Q
def spTdN (HC S : Addr) : Sp := fun vs H Q _ => ∃ (x dx sc d1 d2 d3 : Addr) (n : Str) (ss ws : List Str) (th : List Thing) (ts : List T3), vs = [.ref x, .str n] ∧ HsAt HC S H x dx sc d1 d2 d3 ss ws th ts ∧ n ∉ nmL th ∧ ∀ t H', Same H H' → H t = none → H' t = some (.tup [.str "nothing", .str n]) → Q (.ref t) H'
def spAsk (K : PySem.W.Frag) (HC S : Addr) : Sp := fun vs H Q _ => ∃ (x dx sc d1 d2 d3 lt : Addr) (z : Str) (ss ws : List Str) (qs : List Addr) (th : List Thing), vs = [.ref x, .ref lt, .str z] ∧ HsAt HC S H x dx sc d1 d2 d3 ss ws th [] ∧ H lt = some (.lst (qs.map V.ref)) ∧ ThAt K H qs th ∧ (nmL th).Nodup ∧ OkTh th ∧ okS z ∧ th.length ≤ 1000 ∧ ∀ H', Same H H' → Q (.bl true) H'
def spCom (HC S : Addr) (e : Er4) : Sp := fun vs H Q E => ∃ (x dx sc d1 d2 d3 : Addr) (n so : Str) (y : Int) (ss ws : List Str) (th : List Thing) (ts : List T3), vs = [.ref x, .str n, .str so, .int y] ∧ 0 ≤ y ∧ y < 4 ∧ HsAt HC S H x dx sc d1 d2 d3 ss ws th ts ∧ n.length ≤ 1000 ∧ th.length ≤ 60 ∧
  DueR e (entD ss th n so) H (∀ H', (∀ q o, q ≠ d1 → q ≠ d2 → H q = some o → H' q = some o) → HsAt HC S H' x dx sc d1 d2 d3 ss ws (th ++ [(n, so, decide (y < 2))]) ts → Q .non H') E
def tTB (HC S C : Addr) (m : Str) (W : WX) : TS := tAsg (tMethZ HC m (spHrtN HC S C) (WE W) (tVar 0) (tCons (tVar 1) tNil)) (gName 2)
def tTS (C : Addr) : Addr → Value → Option Addr → TS := fun a cls d => tAsg (tTup (tCons (tC (.str "nothing")) (tCons (tXf a cls d C "name" (tVar 3)) tNil))) (gName 2)
theorem shaped_no {z : Str} (h : okS z) : SeqAt.shaped (.tuple [.str "nothing", .str z]) = true := by
  have hz := strOk_of h
  have d : PyData.strOk "nothing" = true := by decide +kernel
  simp [SeqAt.shaped, PyData.canLay0, PyData.canLayAll0, PyData.depth, PyData.depthAll, hz, d]
section
variable {P : Program} {w : World} {K : PySem.W.Frag} {mg : Str → Option Value} {base : Heap}
theorem scCel : FnScope ["_law_script", "_law_k"] ["_law_script", "_law_k"] (defScope sCel) := ⟨rfl, rfl, rfl, by decide +kernel, rfl, by decide +kernel, by decide +kernel⟩
theorem ok_cel {f : Addr} {fd : FuncData} (F : Fun K "_law_cell_at" "_law_cell_at" sCel f fd) (T : TxB mg) : FnOk P w K mg base CX0 1 f fd ["_law_script", "_law_k"] (spCel K) := by
  refine F.ok scCel (fun vs H Q E h => ?_) (fun cdv A outer s H vs Q E hr h => ?_)
  · obtain ⟨a, ns, j, rfl, _⟩ := h
    rfl
  · obtain ⟨a, ns, j, rfl, hS, k⟩ := h
    refine ⟨_, (pss_cons (ps_if (pt_cmpR op_lt (pv 1) (pe_callB call_len_seq (by rfl) T.len (by decide +kernel) (pa_cons (pv 0) pa_nil)) (nomark _)) (pss_one (ps_ret (pe_ix ix_list (pv 0) (pv 1) (fun _ _ => rfl)))) pss_nil)
      (pss_one (ps_ret pe_int))), ?_⟩
    refine ⟨_, rfl, _, rfl, a, _, rfl, .inl hS, _, _, rfl, rfl, _, rfl, ite2 (fun h => ?_) (fun h => ?_)⟩
    · have h1 := of_decide_eq_true h
      rw [List.length_map] at h1
      have hj : j < ns.length := by omega
      refine ⟨_, rfl, _, rfl, a, _, _, .int ns[j], rfl, rfl, hS, atI_nat (j := j) ?_, k _⟩
      rw [List.getElem?_map, List.getElem?_eq_getElem hj]
      rfl
    · exact k 0
theorem scLName : FnScope ["_law_text", "_law_sign"] ["_law_text"] (defScope sLNm) := ⟨rfl, rfl, rfl, by decide +kernel, rfl, by decide +kernel, by decide +kernel⟩
theorem ok_lname {f : Addr} {fd : FuncData} (F : Fun K "_law_is_name" "_law_is_name" sLNm f fd) (T : TxB mg) : FnOk P w K mg base CX0 1 f fd ["_law_text"] spName := by
  refine F.ok scLName (fun vs H Q E h => ?_) (fun cdv A outer s H vs Q E hr h => ?_)
  · obtain ⟨z, rfl, _⟩ := h
    rfl
  · obtain ⟨z, rfl, hz, k⟩ := h
    have hzl : z.length ≤ sizeLine := Nat.le_trans hz (by decide)
    refine ⟨_, (pss_cons (ps_if (PW.pt (pw_or (pt_cmpR op_eq (pv 0) pe_str (nomark _)) (pw_or (pt_cmpR op_gt (pe_callB call_len_str (by rfl) T.len (by decide +kernel) (pa_cons (pv 0) pa_nil)) pe_int (nomark _)) (pw_or1 (pt_cmpR op_in_sign (pe_ix ix_str (pv 0) pe_int (fun _ _ => rfl)) pe_str (by rfl)))))) (pss_one (ps_ret pe_bl)) pss_nil)
      (pss_one (ps_ret (pe_callB (cr_all rfl) (by rfl) T.all (by decide +kernel) (pa_cons (pe_lc (own := [("_law_sign", 1)]) (g := gName 1) rfl scLName.nd (pi_str (pv 0)) (blkOk_by (N := ["_law_text", "_law_sign"]) (sc := defScope sLNm) (by decide +kernel)) (fun _ _ _ _ _ => (pg_name (i := 1) scLName.nd rfl (Or.inl rfl))) (fun _ _ _ _ _ => pts_nil) (fun _ _ _ _ _ => (pe_cmpR op_in_sign (pv 1) pe_str (by rfl)))) pa_nil))))), ?_⟩
    refine ⟨_, rfl, rfl, _, rfl, ?_⟩
    have q0 := k H (Same.refl H)
    refine ite2 (fun h1 => ?_) (fun h1 => ?_)
    · have h1' : V.str z = V.str (PySem.Str.ofString "") := of_decide_eq_true h1
      have e1 : z = PySem.Str.ofString "" := V.str.inj h1'
      refine iteT ?_
      have e : isNm z = false := by rw [e1]; decide +kernel
      rw [e] at q0
      exact q0
    have h1' : ¬ z.length < 1 := fun x => h1 (decide_eq_true (by
      have e : z.cps = #[] := Array.eq_empty_of_size_eq_zero (by show z.length = 0; omega)
      have e2 : z = PySem.Str.ofString "" := by
        cases z
        cases e
        decide +kernel
      rw [e2]))
    refine ⟨_, rfl, z, rfl, hzl, _, _, rfl, rfl, _, rfl, ?_⟩
    refine ite2 (fun h2 => ?_) (fun h2 => ?_)
    · have h2' : (12 : Int) < z.length := of_decide_eq_true h2
      refine iteT ?_
      rw [isNm_small (.inr (by omega))] at q0
      exact q0
    have h2' : ¬ 12 < z.length := fun x => h2 (decide_eq_true (by omega))
    refine ⟨_, rfl, ?_⟩
    dsimp only [tC]
    refine rdItem (n := z.length) rfl (by decide) (by omega) (by omega) fun c hc => ?_
    refine ⟨c, _, rfl, rfl, _, rfl, ?_⟩
    refine ite2 (fun h3 => ?_) (fun h3 => ?_)
    · have h3' : c ∈ FIG := of_decide_eq_true h3
      rw [isNm_fig hc h3'] at q0
      exact q0
    have h3' : ¬ c ∈ FIG := fun x => h3 (decide_eq_true x)
    refine ⟨_, rfl, z, rfl, fun D hD => ?_⟩
    refine lc_signs (z := z) (f := okc) hz hD (fun c H Q q => ?_) fun H' hS hl => ?_
    · refine q _ rfl fun Q2 q2 => ?_
      rw [← okc_alnum] at q2
      exact ⟨_, rfl, c, _, rfl, rfl, q2⟩
    · refine ⟨D, _, rfl, SqL.of hl, ?_⟩
      have q := k H' hS
      rw [isNm_all2 h1' h2' hc h3', ← all_map] at q
      exact q
theorem scDue : FnScope ["_law_sorts", "_law_things", "_law_name_here", "_law_sort", "_law_one"] ["_law_sorts", "_law_things", "_law_name_here", "_law_sort"] (defScope sDue) := ⟨rfl, rfl, rfl, by decide +kernel, rfl, by decide +kernel, by decide +kernel⟩
theorem ok_due {f fN : Addr} {fd dN : FuncData} (F : Fun K "_law_due" "_law_due" sDue f fd) (T : TxB mg) (DN : Dn K mg "_law_is_name" sLNm ["_law_text"] fN dN) : FnOk P w K mg base CX0 2 f fd ["_law_sorts", "_law_things", "_law_name_here", "_law_sort"] (spDue K) := by
  have GN : FnOk P w K mg base CX0 1 fN dN _ spName := ok_lname DN.F T
  refine F.ok scDue (fun vs H Q E h => ?_) (fun cdv A outer s H vs Q E hr h => ?_)
  · obtain ⟨ls, lt, n, so, ss, qs, th, rfl, _⟩ := h
    rfl
  · obtain ⟨ls, lt, n, so, ss, qs, th, rfl, hs, hl, ht, n1000, t1000, q⟩ := h
    refine ⟨_, (pss_cons (ps_if (pt_not (pt_val (pe_call GN hr rfl DN.g DN.F.kp DN.b .nil pass0 (pa_cons (pv 2) pa_nil)))) (pss_one (ps_ret (pe_tup (pa_cons pe_str (pa_cons (pv 2) pa_nil))))) pss_nil)
      (pss_cons (ps_if (pt_cmpR op_in_seq (pv 2) (pe_lc (own := [("_law_one", 4)]) (g := gName 4) (te := tOp (rIxT K) (tVar 4) (tC (.int 0))) rfl scDue.nd (pi_list (pv 1)) (blkOk_by (N := ["_law_sorts", "_law_things", "_law_name_here", "_law_sort", "_law_one"]) (sc := defScope sDue) (by decide +kernel)) (fun _ _ _ _ _ => (pg_name (i := 4) scDue.nd rfl (Or.inl rfl))) (fun _ _ _ _ _ => pts_nil) (fun _ _ _ _ _ => (pe_ix ix_tup (pv 4) pe_int (fun _ _ => rfl)))) (by rfl)) (pss_one (ps_ret (pe_tup (pa_cons pe_str (pa_cons (pv 2) pa_nil))))) pss_nil)
      (pss_cons (ps_if (pt_cmpR op_notIn_seq (pv 3) (pv 0) (by rfl)) (pss_one (ps_ret (pe_tup (pa_cons pe_str (pa_cons (pv 3) pa_nil))))) pss_nil)
      (pss_cons (ps_if (pt_cmpR op_ge (pe_callB call_len_seq (by rfl) T.len (by decide +kernel) (pa_cons (pv 1) pa_nil)) pe_int (nomark _)) (pss_one (ps_ret (pe_tup (pa_cons pe_str pa_nil)))) pss_nil)
      (pss_one (ps_ret pe_non)))))), ?_⟩
    refine ⟨_, rfl, n, rfl, n1000, fun H1 S1 => ⟨_, rfl, ?_⟩⟩
    unfold entD at q
    cases hn : isNm n with
    | false =>
      rw [if_neg (by rw [hn]; decide)] at q
      exact iteT ⟨_, rfl, by show 2 ≤ sizeLine; decide, fun t nt => q t _ (S1.trans (Same.upd nt)) (S1.free nt) upd_same⟩
    | true =>
      rw [if_pos hn] at q
      refine iteF ?_
      refine ⟨_, rfl, _, rfl, lt, rfl, ⟨_, SqL.of (S1 _ _ hl)⟩, fun D hD => ?_⟩
      refine lc_nms (th := th) (S1 _ _ hl) (ht.same S1) hD t1000 (fun qa t H Q hq k => k _ rfl fun Q2 q2 => ⟨_, rfl, qa, _, _, .str t.1, rfl, rfl, hq, atI_nat (j := 0) rfl, q2⟩) fun H2 S2 e2 => ?_
      refine ⟨D, _, rfl, .inl (SqL.of e2), rfl, flats (nmL th), _, rfl, ?_⟩
      show if inV (.str n) ((nmL th).map V.str) = true then _ else _
      rw [inV_strs]
      have S12 := S1.trans S2
      by_cases hm : n ∈ nmL th
      · rw [if_pos hm] at q
        rw [decide_eq_true hm]
        exact iteT ⟨_, rfl, by show 2 ≤ sizeLine; decide, fun t nt => q t _ (S12.trans (Same.upd nt)) (S12.free nt) upd_same⟩
      rw [if_neg hm] at q
      rw [decide_eq_false hm]
      refine iteF ?_
      refine ⟨_, rfl, _, rfl, ls, _, rfl, .inl (SqL.of (S12 _ _ hs)), rfl, flats ss, _, rfl, ?_⟩
      show if (!inV (.str so) (ss.map V.str)) = true then _ else _
      rw [inV_strs]
      by_cases hso : so ∈ ss
      · rw [if_pos hso] at q
        rw [decide_eq_true hso]
        refine iteF ?_
        refine ⟨_, rfl, lt, _, rfl, .inl (SqL.of (S12 _ _ hl)), _, _, rfl, rfl, _, rfl, ?_⟩
        rw [List.length_map, ht.len]
        by_cases h60 : th.length < 60
        · rw [if_pos h60] at q
          exact ite2 (fun z => absurd (of_decide_eq_true z) (by omega)) (fun _ => q _ S12)
        · rw [if_neg h60] at q
          exact ite2 (fun _ => ⟨by show 1 ≤ sizeLine; decide, fun t nt => q t _ (S12.trans (Same.upd nt)) (S12.free nt) upd_same⟩) (fun z => absurd (decide_eq_true (by omega)) z)
      · rw [if_neg hso] at q
        rw [decide_eq_false hso]
        exact iteT ⟨_, rfl, by show 2 ≤ sizeLine; decide, fun t nt => q t _ (S12.trans (Same.upd nt)) (S12.free nt) upd_same⟩
theorem scSTd : FnScope ["_law_house", "_law_name_here", "_law_found", "_law_e"] ["_law_house", "_law_name_here"] (defScope sSTd) := ⟨rfl, rfl, rfl, by decide +kernel, rfl, by decide +kernel, by decide +kernel⟩
theorem scATd : FnScope ["_law_house", "_law_name_here", "_law_found", "_law_e"] ["_law_house", "_law_name_here"] (defScope sATd) := ⟨rfl, rfl, rfl, by decide +kernel, rfl, by decide +kernel, by decide +kernel⟩
theorem ok_std {f HC S C fH fM : Addr} {fd dM : FuncData} (F : Fun K "_law_sort_told" "_law_sort_told" sSTd f fd) (TH : TxH K mg HC fH) (gC : mg "NoThing" = some (.ref C)) (ex : PySem.W.exmOne K (.ref C) (.ref C) = some true) (xC : XfC K C) (nC : PySem.W.findIn K (.ref C) "name" = some none)
    (mM : Meth K HC "sort_of" fM) (bM : Binds K dM ["self", "x"] []) (GM : FnOk P w K mg base (L2N.CX P w) 5 fM dM ["self", "x"] (spHrtN HC S C)) : FnOk P w K mg base CX0 6 f fd ["_law_house", "_law_name_here"] (spTdN HC S) := by
  refine F.ok scSTd (fun vs H Q E h => ?_) (fun cdv A outer s H vs Q E hr h => ?_)
  · obtain ⟨x, dx, sc, d1, d2, d3, n, ss, ws, th, ts, rfl, _⟩ := h
    rfl
  · obtain ⟨x, dx, sc, d1, d2, d3, n, ss, ws, th, ts, rfl, hh, hn, q⟩ := h
    refine ⟨_, (pss_cons (ps_set (i := 2) scSTd.nd rfl (Or.inl rfl) pe_non)
      (pss_cons (L2N.ps_try_as (i := 3) (tb := tTB HC S C "sort_of") (ts := tTS C) (Wout := fun _ _ _ _ => False) rfl rfl scSTd.nd rfl rfl ⟨rfl, by decide, Or.inl gC⟩ takesN0 (fun W_ pn xe tk _ => (pss_one (ps_set (i := 2) scSTd.nd rfl (Or.inl rfl) (pe_methZ (pv 0) TH.cl mM GM hr bM (fun σ => L2N.passAt tk σ) (pa_cons (pv 1) pa_nil))))) (fun a oe cls d pn hz hf => (pss_one (ps_set (i := 2) scSTd.nd rfl (Or.inl rfl) (pe_tup (pa_cons pe_str (pa_cons (pe_xf xC nC hz.zc hf (pv 3)) pa_nil)))))))
      (pss_one (ps_ret (pv 2))))), ?_⟩
    refine ⟨_, rfl, x, dx, _, rfl, hh.hx, hsF_no (by decide +kernel) (by decide +kernel) (by decide +kernel) (by decide +kernel) _ _ _ _, _, rfl, x, dx, sc, d1, d2, d3, n, ss, ws, th, ts, rfl, hh, hn, ?_⟩
    intro d H1 nd S1 hx1
    refine ⟨true, ex, fun _ a0 _ => ?_, fun q => Bool.noConfusion q⟩
    refine ⟨_, rfl, rfl, rfl, d, _, _, rfl, hx1, rfl, ?_⟩
    refine ⟨by show 2 ≤ sizeLine; decide, fun tq nt => ?_⟩
    exact ⟨_, rfl, q tq _ (S1.trans (Same.upd nt)) (S1.free nt) upd_same⟩
theorem ok_atd {f HC S C fH fM : Addr} {fd dM : FuncData} (F : Fun K "_law_awake_told" "_law_awake_told" sATd f fd) (TH : TxH K mg HC fH) (gC : mg "NoThing" = some (.ref C)) (ex : PySem.W.exmOne K (.ref C) (.ref C) = some true) (xC : XfC K C) (nC : PySem.W.findIn K (.ref C) "name" = some none)
    (mM : Meth K HC "is_awake" fM) (bM : Binds K dM ["self", "x"] []) (GM : FnOk P w K mg base (L2N.CX P w) 5 fM dM ["self", "x"] (spHrtN HC S C)) : FnOk P w K mg base CX0 6 f fd ["_law_house", "_law_name_here"] (spTdN HC S) := by
  refine F.ok scATd (fun vs H Q E h => ?_) (fun cdv A outer s H vs Q E hr h => ?_)
  · obtain ⟨x, dx, sc, d1, d2, d3, n, ss, ws, th, ts, rfl, _⟩ := h
    rfl
  · obtain ⟨x, dx, sc, d1, d2, d3, n, ss, ws, th, ts, rfl, hh, hn, q⟩ := h
    refine ⟨_, (pss_cons (ps_set (i := 2) scATd.nd rfl (Or.inl rfl) pe_non)
      (pss_cons (L2N.ps_try_as (i := 3) (tb := tTB HC S C "is_awake") (ts := tTS C) (Wout := fun _ _ _ _ => False) rfl rfl scATd.nd rfl rfl ⟨rfl, by decide, Or.inl gC⟩ takesN0 (fun W_ pn xe tk _ => (pss_one (ps_set (i := 2) scATd.nd rfl (Or.inl rfl) (pe_methZ (pv 0) TH.cl mM GM hr bM (fun σ => L2N.passAt tk σ) (pa_cons (pv 1) pa_nil))))) (fun a oe cls d pn hz hf => (pss_one (ps_set (i := 2) scATd.nd rfl (Or.inl rfl) (pe_tup (pa_cons pe_str (pa_cons (pe_xf xC nC hz.zc hf (pv 3)) pa_nil)))))))
      (pss_one (ps_ret (pv 2))))), ?_⟩
    refine ⟨_, rfl, x, dx, _, rfl, hh.hx, hsF_no (by decide +kernel) (by decide +kernel) (by decide +kernel) (by decide +kernel) _ _ _ _, _, rfl, x, dx, sc, d1, d2, d3, n, ss, ws, th, ts, rfl, hh, hn, ?_⟩
    intro d H1 nd S1 hx1
    refine ⟨true, ex, fun _ a0 _ => ?_, fun q => Bool.noConfusion q⟩
    refine ⟨_, rfl, rfl, rfl, d, _, _, rfl, hx1, rfl, ?_⟩
    refine ⟨by show 2 ≤ sizeLine; decide, fun tq nt => ?_⟩
    exact ⟨_, rfl, q tq _ (S1.trans (Same.upd nt)) (S1.free nt) upd_same⟩

end
end Wm
namespace Wm
open PySem L2 StX
section
variable {P : Program} {w : World} {K : PySem.W.Frag} {mg : Str → Option Value} {base : Heap}
theorem scCom : FnScope ["_law_house", "_law_name_here", "_law_sort", "_law_way"] ["_law_house", "_law_name_here", "_law_sort", "_law_way"] (defScope sCom) := ⟨rfl, rfl, rfl, by decide +kernel, rfl, by decide +kernel, by decide +kernel⟩
theorem ok_com {f HC S fH fEn : Addr} {fd dEn : FuncData} {e4 : Er4} (F : Fun K "_law_come" "_law_come" sCom f fd) (TH : TxH K mg HC fH) (mEn : Meth K HC "enter" fEn) (bEn : Binds K dEn ["self", "name", "sort", "awake"] []) (bEnD : Binds K dEn ["self", "name", "sort", "awake"] [.bool true])
    (GEn : FnOk P w K mg base (L2N.CX P w) 5 fEn dEn ["self", "name", "sort", "awake"] (spHenX HC S e4)) : FnOk P w K mg base (L2N.CX P w) 6 f fd ["_law_house", "_law_name_here", "_law_sort", "_law_way"] (spCom HC S e4) := by
  refine okN F scCom (fun vs H Q E h => ?_) (fun cdv A outer s H vs Q E hr h => ?_)
  · obtain ⟨x, dx, sc, d1, d2, d3, n, so, y, ss, ws, th, ts, rfl, _⟩ := h
    rfl
  · obtain ⟨x, dx, sc, d1, d2, d3, n, so, y, ss, ws, th, ts, rfl, y0, y4, hh, n1000, t60, q⟩ := h
    have no : (hsF sc d1 d2 d3).lookup ("enter" : Str) = none := hsF_no (by decide +kernel) (by decide +kernel) (by decide +kernel) (by decide +kernel) _ _ _ _
    refine ⟨_, (pss_one (ps_if (pt_cmpR op_eq (pv 3) pe_int (nomark _)) (pss_one (ps_expr (pe_meth (dvs := [.bl true]) (pv 0) TH.cl mEn GEn hr bEnD (.cons rfl .nil) (L2N.passes_call (L2N.takes_of rfl rfl rfl rfl) (fun _ _ _ _ h => h)) (pa_cons (pv 1) (pa_cons (pv 2) pa_nil))))) (pss_one (ps_if (pt_cmpR op_eq (pv 3) pe_int (nomark _)) (pss_one (ps_expr (pe_meth (pv 0) TH.cl mEn GEn hr bEn .nil (L2N.passes_call (L2N.takes_of rfl rfl rfl rfl) (fun _ _ _ _ h => h)) (pa_cons (pv 1) (pa_cons (pv 2) (pa_cons pe_bl pa_nil)))))) (pss_one (ps_if (pt_cmpR op_eq (pv 3) pe_int (nomark _)) (pss_one (ps_expr (pe_meth (pv 0) TH.cl mEn GEn hr bEn .nil (L2N.passes_call (L2N.takes_of rfl rfl rfl rfl) (fun _ _ _ _ h => h)) (pa_cons (pv 1) (pa_cons (pv 2) (pa_cons pe_bl pa_nil)))))) (pss_one (ps_expr (pe_meth (pv 0) TH.cl mEn GEn hr bEn .nil (L2N.passes_call (L2N.takes_of rfl rfl rfl rfl) (fun _ _ _ _ h => h)) (pa_cons (pv 1) (pa_cons (pv 2) (pa_cons pe_bl pa_nil)))))))))))), ?_⟩
    refine ⟨_, rfl, rfl, _, rfl, ?_⟩
    refine ite2 (fun z => ?_) (fun z => ?_)
    · have ey : y = 0 := V.int.inj (of_decide_eq_true z)
      rw [show decide (y < 2) = true from decide_eq_true (by omega)] at q
      exact ⟨_, rfl, x, dx, _, rfl, hh.hx, no, _, rfl, _, rfl, x, dx, sc, d1, d2, d3, n, so, true, ss, ws, th, ts, rfl, hh, n1000, t60, q⟩
    have y1 : ¬ y = 0 := fun e => z (by rw [e]; rfl)
    refine ⟨_, rfl, rfl, _, rfl, ?_⟩
    refine ite2 (fun z => ?_) (fun z => ?_)
    · have ey : y = 1 := V.int.inj (of_decide_eq_true z)
      rw [show decide (y < 2) = true from decide_eq_true (by omega)] at q
      exact ⟨_, rfl, x, dx, _, rfl, hh.hx, no, _, rfl, _, rfl, x, dx, sc, d1, d2, d3, n, so, true, ss, ws, th, ts, rfl, hh, n1000, t60, q⟩
    have y2 : ¬ y = 1 := fun e => z (by rw [e]; rfl)
    rw [show decide (y < 2) = false from decide_eq_false (by omega)] at q
    refine ⟨_, rfl, rfl, _, rfl, ?_⟩
    refine ite2 (fun z => ?_) (fun z => ?_)
    · exact ⟨_, rfl, x, dx, _, rfl, hh.hx, no, _, rfl, _, rfl, x, dx, sc, d1, d2, d3, n, so, false, ss, ws, th, ts, rfl, hh, n1000, t60, q⟩
    · exact ⟨_, rfl, x, dx, _, rfl, hh.hx, no, _, rfl, _, rfl, x, dx, sc, d1, d2, d3, n, so, false, ss, ws, th, ts, rfl, hh, n1000, t60, q⟩
theorem scAsk : FnScope ["_law_house", "_law_things", "_law_name_here", "_law_one", "_law_sort", "_law_awake"] ["_law_house", "_law_things", "_law_name_here"] (defScope sAsk) := ⟨rfl, rfl, rfl, by decide +kernel, rfl, by decide +kernel, by decide +kernel⟩
theorem ok_ask {f HC S fH fTh fHe fSo fIa fLn fST fAT : Addr} {fd dTh dHe dSo dIa dLn dST dAT : FuncData} (F : Fun K "_law_asked" "_law_asked" sAsk f fd) (T : TxB mg) (TH : TxH K mg HC fH)
    (mTh : Meth K HC "things" fTh) (bTh : Binds K dTh ["self"] []) (GTh : FnOk P w K mg base CX0 1 fTh dTh ["self"] (spHth HC S)) (mHe : Meth K HC "held" fHe) (bHe : Binds K dHe ["self"] []) (GHe : FnOk P w K mg base CX0 1 fHe dHe ["self"] (spHhe K HC S))
    (mSo : Meth K HC "sort_of" fSo) (bSo : Binds K dSo ["self", "x"] []) (GSo : FnOk P w K mg base CX0 2 fSo dSo ["self", "x"] (spHso HC S)) (mIa : Meth K HC "is_awake" fIa) (bIa : Binds K dIa ["self", "x"] []) (GIa : FnOk P w K mg base CX0 2 fIa dIa ["self", "x"] (spHia HC S))
    (hLn : PySem.W.findIn K (.ref HC) "__len__" = some (some (.ref fLn))) (iLn : PySem.W.isFn K (.ref fLn) = true) (bLn : Binds K dLn ["self"] []) (GLn : FnOk P w K mg base CX0 1 fLn dLn ["self"] (spHln HC S))
    (DST : Dn K mg "_law_sort_told" sSTd ["_law_house", "_law_name_here"] fST dST) (GST : FnOk P w K mg base CX0 6 fST dST ["_law_house", "_law_name_here"] (spTdN HC S)) (DAT : Dn K mg "_law_awake_told" sATd ["_law_house", "_law_name_here"] fAT dAT) (GAT : FnOk P w K mg base CX0 6 fAT dAT ["_law_house", "_law_name_here"] (spTdN HC S)) :
    FnOk P w K mg base CX0 7 f fd ["_law_house", "_law_things", "_law_name_here"] (spAsk K HC S) := by
  refine F.ok scAsk (fun vs H Q E h => ?_) (fun cdv A outer s H vs Q E hr h => ?_)
  · obtain ⟨x, dx, sc, d1, d2, d3, lt, z, ss, ws, qs, th, rfl, _⟩ := h
    rfl
  · obtain ⟨x, dx, sc, d1, d2, d3, lt, z, ss, ws, qs, th, rfl, hh, hl, ht, nd, ok1, oz, t1000, q⟩ := h
    have hr1 : Room 1 _ := hr.mono (by decide)
    have hr2 : Room 2 _ := hr.mono (by decide)
    have noM : ∀ {f : Str}, ¬ f = "standing" → ¬ f = "awake_by_name" → ¬ f = "sort_by_name" → ¬ f = "own_scheme" → (hsF sc d1 d2 d3).lookup f = none := fun a b c d => hsF_no a b c d _ _ _ _
    refine ⟨_, (pss_cons (ps_if (PW.pt (pw_or (pt_cmpR (op_neD hr.units) (pe_meth0 (pv 0) TH.cl mTh GTh hr1 bTh .nil pass0) (pe_lc (own := [("_law_one", 3)]) (g := gName 3) (te := tOp (rIxT K) (tVar 3) (tC (.int 0))) rfl scAsk.nd (pi_list (pv 1)) (blkOk_by (N := ["_law_house", "_law_things", "_law_name_here", "_law_one", "_law_sort", "_law_awake"]) (sc := defScope sAsk) (by decide +kernel)) (fun _ _ _ _ _ => (pg_name (i := 3) scAsk.nd rfl (Or.inl rfl))) (fun _ _ _ _ _ => pts_nil) (fun _ _ _ _ _ => (pe_ix ix_tup (pv 3) pe_int (fun _ _ => rfl)))) (nomark _)) (pw_or (pt_cmpR op_ne (pe_callB (call_lenO hLn iLn GLn hr2 bLn) (by rfl) T.len (by decide +kernel) (pa_cons (pv 0) pa_nil)) (pe_callB call_len_seq (by rfl) T.len (by decide +kernel) (pa_cons (pv 1) pa_nil)) (nomark _)) (pw_or1 (pt_cmpR (op_neD hr.units) (pe_meth0 (pv 0) TH.cl mHe GHe hr1 bHe .nil pass0) (pe_lst pa_nil) (nomark _)))))) (pss_one (ps_ret pe_bl)) pss_nil)
      (pss_cons (ps_expr (pe_bm PySem.F.plainAttrs_list PySem.F.slot_list_append PySem.F.type_list_append mt_append (pe_meth0 (pv 0) TH.cl mTh GTh hr1 bTh .nil pass0) (pa_cons pe_str pa_nil)))
      (pss_cons (ps_for PassesOwn.never rfl (pi_list (pv 1)) (pg_tup rfl (pgs_cons (pg_name (i := 3) scAsk.nd rfl (Or.inl rfl)) (pgs_cons (pg_name (i := 4) scAsk.nd rfl (Or.inl rfl)) (pgs_cons (pg_name (i := 5) scAsk.nd rfl (Or.inl rfl)) pgs_nil)))) (pss_one (ps_if (PW.pt (pw_or (pt_cmpR op_ne (pe_meth (pv 0) TH.cl mSo GSo hr2 bSo .nil pass0 (pa_cons (pv 3) pa_nil)) (pv 4) (nomark _)) (pw_or1 (pt_cmpR op_ne (pe_cmpR op_isBl (pe_meth (pv 0) TH.cl mIa GIa hr2 bIa .nil pass0 (pa_cons (pv 3) pa_nil)) pe_bl (nomark _)) (pv 5) (nomark _))))) (pss_one (ps_ret pe_bl)) pss_nil)))
      (pss_cons (ps_if (pt_cmpR op_in_seq (pv 2) (pe_lc (own := [("_law_one", 3)]) (g := gName 3) (te := tOp (rIxT K) (tVar 3) (tC (.int 0))) rfl scAsk.nd (pi_list (pv 1)) (blkOk_by (N := ["_law_house", "_law_things", "_law_name_here", "_law_one", "_law_sort", "_law_awake"]) (sc := defScope sAsk) (by decide +kernel)) (fun _ _ _ _ _ => (pg_name (i := 3) scAsk.nd rfl (Or.inl rfl))) (fun _ _ _ _ _ => pts_nil) (fun _ _ _ _ _ => (pe_ix ix_tup (pv 3) pe_int (fun _ _ => rfl)))) (by rfl)) (pss_one (ps_ret pe_bl)) pss_nil)
      (pss_one (ps_ret (pe_and (pe_cmpR (op_eqD hr.units) (pe_call GST hr rfl DST.g DST.F.kp DST.b .nil pass0 (pa_cons (pv 0) (pa_cons (pv 2) pa_nil))) (pe_tup (pa_cons pe_str (pa_cons (pv 2) pa_nil))) (nomark _)) (pe_one (pe_cmpR (op_eqD hr.units) (pe_call GAT hr rfl DAT.g DAT.F.kp DAT.b .nil pass0 (pa_cons (pv 0) (pa_cons (pv 2) pa_nil))) (pe_tup (pa_cons pe_str (pa_cons (pv 2) pa_nil))) (nomark _)))))))))), ?_⟩
    -- its things
    refine ⟨_, rfl, x, dx, _, rfl, hh.hx, noM (by decide +kernel) (by decide +kernel) (by decide +kernel) (by decide +kernel), x, dx, sc, d1, d2, d3, ss, ws, th, [], rfl, hh, fun l1 hl1 => ?_⟩
    have S1 : Same H (upd H l1 (.lst ((nmL th).map V.str))) := Same.upd hl1
    have e1 : (upd H l1 (.lst ((nmL th).map V.str))) l1 = some (.lst ((nmL th).map V.str)) := upd_same
    generalize upd H l1 (.lst ((nmL th).map V.str)) = H1 at S1 e1
    have shn : SeqAt.shaped (.list ((nmL th).map PyData.str)) = true := shaped_strs (nm_ok ok1)
    refine ⟨_, rfl, lt, rfl, ⟨_, SqL.of (S1 _ _ hl)⟩, fun D hD => ?_⟩
    refine lc_nms (th := th) (S1 _ _ hl) (ht.same S1) hD t1000 (fun qa t H Q hq k => k _ rfl fun Q2 q2 => ⟨_, rfl, qa, _, _, .str t.1, rfl, rfl, hq, atI_nat (j := 0) rfl, q2⟩) fun H2 S2 e2 => ?_
    refine ⟨_, _, .lst (SqL.of (S2 _ _ e1)) (dp_strs _), .lst (SqL.of e2) (dp_strs _), shn, shn, _, rfl, ?_⟩
    rw [eqv_self shn]
    refine iteF ?_
    have S02 := S1.trans S2
    have hh2 := hh.same S02
    -- how many
    refine ⟨_, rfl, x, dx, _, rfl, hh2.hx, x, dx, sc, d1, d2, d3, ss, ws, th, [], rfl, hh2, th.length, rfl, by omega, ?_⟩
    refine ⟨_, rfl, lt, _, rfl, .inl (SqL.of (S02 _ _ hl)), rfl, _, rfl, ?_⟩
    rw [List.length_map, ht.len]
    refine ite2 (fun c => absurd c (by simp)) (fun _ => ?_)
    -- what is held
    refine ⟨_, rfl, x, dx, _, rfl, hh2.hx, noM (by decide +kernel) (by decide +kernel) (by decide +kernel) (by decide +kernel), x, dx, sc, d1, d2, d3, ss, ws, th, [], rfl, hh2, fun q3 l3 hq3 hl3 => ?_⟩
    have eq3 : q3 = [] := by
      cases q3 with
      | nil => rfl
      | cons a b =>
        have e0 : sortT [] = [] := by unfold sortT; simp
        rw [e0] at hq3
        exact False.elim hq3
    subst eq3
    have S3 : Same H2 (upd H2 l3 (.lst [])) := Same.upd hl3
    have e3 : (upd H2 l3 (.lst [])) l3 = some (.lst []) := upd_same
    have S03 := S02.trans S3
    generalize hH3 : upd H2 l3 (.lst []) = H3 at S3 e3 S03
    rw [show (List.map V.ref ([] : List Addr)) = [] from rfl, hH3]
    refine ⟨Nat.zero_le _, fun l4 hl4 => ?_⟩
    have S4 : Same H3 (upd H3 l4 (.lst [])) := Same.upd hl4
    refine ⟨_, _, .lst (SqL.of (S4 _ _ e3)) .nil, .lst (SqL.of upd_same) .nil, by decide +kernel, by decide +kernel, _, rfl, ?_⟩
    rw [show PyData.eqv (.list []) (.list []) = true by decide +kernel]
    refine iteF ?_
    have S04 := S03.trans S4
    have hh4 := hh.same S04
    generalize upd H3 l4 (.lst []) = H4 at S4 S04 hh4
    -- a list of its own
    refine ⟨_, rfl, x, dx, _, rfl, hh4.hx, noM (by decide +kernel) (by decide +kernel) (by decide +kernel) (by decide +kernel), x, dx, sc, d1, d2, d3, ss, ws, th, [], rfl, hh4, fun l5 hl5 => ?_⟩
    refine ⟨.inl ⟨rfl, _, SqL.of upd_same⟩, l5, _, _, rfl, rfl, upd_same, ?_, ?_⟩
    · unfold nmL
      rw [List.length_map, List.length_map]
      exact Nat.lt_of_le_of_lt t1000 (by decide)
    have S06 : Same H (upd (upd H4 l5 (.lst ((nmL th).map V.str))) l5 (.lst ((nmL th).map V.str ++ [.str "later"]))) := fun b o e => by
      rw [upd_ne (ne_of_none (S04 _ _ e) hl5), upd_ne (ne_of_none (S04 _ _ e) hl5)]
      exact S04 _ _ e
    generalize upd (upd H4 l5 (.lst ((nmL th).map V.str))) l5 (.lst ((nmL th).map V.str ++ [.str "later"])) = H6 at S06
    have hh6 := hh.same S06
    have ht6 := ht.same S06
    have hl6 := S06 _ _ hl
    -- one by one
    refine ⟨_, rfl, lt, rfl, ⟨_, SqL.of hl6⟩, for_list (K := K) (a := lt) (xs := qs.map V.ref) (fun i σ H' => (∃ u v w, σ = [some (.ref x), some (.ref lt), some (.str z), u, v, w]) ∧ H' = H6) ⟨⟨none, none, none, rfl⟩, rfl⟩ (fun i σ H' _ p => by rw [p.2]; exact SqL.of hl6) ?_ ?_⟩
    · rintro i y σ H' hi ⟨⟨u, v, w, rfl⟩, rfl⟩
      obtain ⟨qa, t, rfl, hti, hqa⟩ := ht6.get hi
      have mt := List.mem_of_getElem? hti
      have mn : t.1 ∈ nmL th := List.mem_map.mpr ⟨t, mt, rfl⟩
      have fs := find_nd nd mt
      have es : srt th t.1 = some t.2.1 := by unfold srt; rw [fs]; rfl
      have ea : awk th t.1 = some t.2.2 := by unfold awk; rw [fs]; rfl
      refine ⟨qa, _, rfl, hqa, rfl, _, _, rfl, _, _, rfl, _, _, rfl, rfl, ?_⟩
      dsimp only [gName, List.set_cons_succ, List.set_cons_zero]
      refine ⟨_, rfl, x, dx, _, rfl, hh6.hx, noM (by decide +kernel) (by decide +kernel) (by decide +kernel) (by decide +kernel), _, rfl, x, dx, sc, d1, d2, d3, t.1, t.2.1, ss, ws, th, [], rfl, hh6, mn, es, _, rfl, rfl, _, rfl, ?_⟩
      refine ite2 (fun c => absurd c (by simp)) (fun _ => ?_)
      refine ⟨_, rfl, x, dx, _, rfl, hh6.hx, noM (by decide +kernel) (by decide +kernel) (by decide +kernel) (by decide +kernel), _, rfl, x, dx, sc, d1, d2, d3, t.1, t.2.2, ss, ws, th, [], rfl, hh6, mn, ea, _, _, rfl, rfl, _, rfl, rfl, _, rfl, ?_⟩
      exact ite2 (fun c => absurd c (by cases t.2.2 <;> simp)) (fun _ => ⟨⟨_, _, _, rfl⟩, rfl⟩)
    · rintro σ H' ⟨⟨u, v, w, rfl⟩, rfl⟩
      refine ⟨_, rfl, _, rfl, lt, rfl, ⟨_, SqL.of hl6⟩, fun D7 hD7 => ?_⟩
      refine lc_nms (th := th) hl6 ht6 hD7 t1000 (fun qa t H Q hq k => k _ rfl fun Q2 q2 => ⟨_, rfl, qa, _, _, .str t.1, rfl, rfl, hq, atI_nat (j := 0) rfl, q2⟩) fun H7 S7 e7 => ?_
      refine ⟨D7, _, rfl, .inl (SqL.of e7), rfl, flats (nmL th), _, rfl, ?_⟩
      show if inV (.str z) ((nmL th).map V.str) = true then _ else _
      rw [inV_strs]
      have S07 := S06.trans S7
      by_cases hm : z ∈ nmL th
      · rw [decide_eq_true hm]
        exact iteT (q _ S07)
      rw [decide_eq_false hm]
      refine iteF ?_
      have shz := shaped_no oz
      have all2 : ∀ {H : Hp}, DpAll K H [.str "nothing", .str z] [.str "nothing", .str z] := .cons (.str _) (.cons (.str _) .nil)
      refine ⟨_, rfl, _, rfl, x, dx, sc, d1, d2, d3, z, ss, ws, th, [], rfl, hh.same S07, hm, fun t8 H8 S8 _ e8 => ?_⟩
      have S08 := S07.trans S8
      refine ⟨_, rfl, by show 2 ≤ sizeLine; decide, fun t9 ht9 => ?_⟩
      have S9 : Same H8 (upd H8 t9 (.tup [.str "nothing", .str z])) := Same.upd ht9
      have e9 : (upd H8 t9 (.tup [.str "nothing", .str z])) t9 = some (.tup [.str "nothing", .str z]) := upd_same
      have S09 := S08.trans S9
      generalize upd H8 t9 (.tup [.str "nothing", .str z]) = H9 at S9 e9 S09
      refine ⟨_, _, .tup (SqT.of (S9 _ _ e8)) all2, .tup (SqT.of e9) all2, shz, shz, _, rfl, ?_⟩
      rw [eqv_self shz]
      refine iteT ?_
      refine ⟨_, rfl, _, rfl, x, dx, sc, d1, d2, d3, z, ss, ws, th, [], rfl, hh.same S09, hm, fun tA HA SA _ eA => ?_⟩
      have S0A := S09.trans SA
      refine ⟨_, rfl, by show 2 ≤ sizeLine; decide, fun tB htB => ?_⟩
      have SB : Same HA (upd HA tB (.tup [.str "nothing", .str z])) := Same.upd htB
      refine ⟨_, _, .tup (SqT.of (SB _ _ eA)) all2, .tup (SqT.of upd_same) all2, shz, shz, ?_⟩
      rw [eqv_self shz]
      exact q _ (S0A.trans SB)
end
end Wm
namespace Wm
open PySem L2 StX
theorem low_let : ∀ c : Fin 123, 97 ≤ c.1 → c.1 ∈ LET := by decide +kernel
theorem fig_fig : ∀ c : Fin 58, 48 ≤ c.1 → c.1 ∈ FIG := by decide +kernel
theorem nm_is {z : Str} (h : NmP z) (hl : z.length ≤ 12) : isNm z = true := by
  obtain ⟨c, cs, e, l, r⟩ := h
  have ol : ∀ d, lowC d → d ∈ LET := fun d q => low_let ⟨d, Nat.lt_succ_of_le q.2⟩ q.1
  have of' : ∀ d, figC d → d ∈ FIG := fun d q => fig_fig ⟨d, Nat.lt_succ_of_le q.2⟩ q.1
  have hlen : z.length = (c :: cs).length := by
    rw [← e]
    exact (Array.length_toList).symm
  unfold isNm
  rw [e]
  have a1 : (c :: cs).all okc = true := by
    rw [List.all_eq_true]
    intro d hd
    unfold okc
    rcases List.mem_cons.mp hd with h | h
    · rw [h, decide_eq_true (ol c l)]
      rfl
    · rcases r d h with q | q
      · rw [decide_eq_true (ol d q)]
        rfl
      · rw [decide_eq_true (of' d q), Bool.or_true]
  have a2 : first (c :: cs) = true := by
    unfold first
    exact decide_eq_true (ol c l)
  rw [a1, a2, decide_eq_true hl]
  simp [hlen]
theorem st_ne {H : Hp} {p a : Addr} {o : HO} (h : StOk H p) (e : H a = some o) (n : ∀ xs, o ≠ .lst xs) : a ≠ p := by
  obtain ⟨x, y, z, q, _⟩ := h
  exact ne_of e q (n _)
section
variable {H : Hp} {p : Addr}
theorem st_lists {ss ws : List Str} (st : StOk H p) (h1 : ss ≠ []) (h2 : ws ≠ []) (l1 l2 : Addr) (a : H l1 = some (.lst (ss.map V.str))) (b : H l2 = some (.lst (ws.map V.str))) : l1 ≠ p ∧ l2 ≠ p := by
  obtain ⟨u, v, w, e, _⟩ := st
  refine ⟨fun z => ?_, fun z => ?_⟩
  · rw [z, e] at a
    cases ss with
    | nil => exact h1 rfl
    | cons y r => cases a
  · rw [z, e] at b
    cases ws with
    | nil => exact h2 rfl
    | cons y r => cases b
end
theorem but_seqT {K : PySem.W.Frag} {p a : Addr} {H H' : Hp} {xs : List V} {o : HO} (b : But p H H') (hp : H p = some o) (n1 : ∀ ys, o ≠ .tup ys) (n2 : ∀ u v, o ≠ .frz u v) (h : SqT K H a xs) : SqT K H' a xs := by
  rcases h with (h | ⟨u, h⟩) | h
  · exact .inl (.inl (b _ _ (ne_of h hp (n1 _).symm) h))
  · exact .inl (.inr ⟨u, b _ _ (ne_of h hp (n2 _ _).symm) h⟩)
  · exact .inr h
theorem two_seqT {K : PySem.W.Frag} {p p' a : Addr} {H H' : Hp} {xs : List V} {u u' : List (L2.Key × V)} (b : ∀ q o, q ≠ p → q ≠ p' → H q = some o → H' q = some o) (hp : H p = some (.dK u)) (hp' : H p' = some (.dK u')) (h : SqT K H a xs) : SqT K H' a xs := by
  rcases h with (h | ⟨v, h⟩) | h
  · exact .inl (.inl (b _ _ (ne_of h hp (by intro z; cases z)) (ne_of h hp' (by intro z; cases z)) h))
  · exact .inl (.inr ⟨v, b _ _ (ne_of h hp (by intro z; cases z)) (ne_of h hp' (by intro z; cases z)) h⟩)
  · exact .inr h
theorem let_small : ∀ c ∈ LET, c < 1114112 := by decide +kernel
theorem fig_small : ∀ c ∈ FIG, c < 1114112 := by decide +kernel
theorem isNm_ok {z : Str} (h : isNm z = true) : okS z ∧ z.length ≤ 12 := by
  unfold isNm at h
  rw [Bool.and_eq_true, Bool.and_eq_true, Bool.and_eq_true] at h
  obtain ⟨_, h2, _, h4⟩ := h
  refine ⟨fun c hc => ?_, of_decide_eq_true h2⟩
  have q := List.all_eq_true.mp h4 c hc
  unfold okc at q
  rw [Bool.or_eq_true] at q
  rcases q with q | q
  · exact let_small c (of_decide_eq_true q)
  · exact fig_small c (of_decide_eq_true q)
/-- the names of the things that are there at first -/
def nS (k : Nat) : Str := "n" ++ numS k
theorem nS_nm0 : ∀ k : Fin 70, isNm (nS k.1) = true := by decide +kernel
theorem nS_nm {k : Nat} (h : k < 70) : isNm (nS k) = true := nS_nm0 ⟨k, h⟩
theorem nS_inj {n m : Nat} (hn : n < 70) (hm : m < 70) (h : nS n = nS m) : n = m := num_inj hn hm (app_inj h)
/-- behind a change of the law's own row of things -/
theorem HsAt.butL {HC S x dx sc d1 d2 d3 lt : Addr} {H H' : Hp} {ss ws : List Str} {th : List Thing} {ts : List T3} {qs : List Addr} (s : But lt H H') (hl : H lt = some (.lst (qs.map V.ref))) (h1 : ss ≠ []) (h2 : ws ≠ []) (h : HsAt HC S H x dx sc d1 d2 d3 ss ws th ts) : HsAt HC S H' x dx sc d1 d2 d3 ss ws th ts := by
  obtain ⟨dy, l1, l2, l3, l4, l5, q1, q2, q3⟩ := h.hs.ex
  have n1 : l1 ≠ lt := fun z => by
    rw [z, hl] at q2
    cases ss with
    | nil => exact h1 rfl
    | cons y r =>
      cases qs with
      | nil => cases q2
      | cons a b => cases q2
  have n2 : l2 ≠ lt := fun z => by
    rw [z, hl] at q3
    cases ws with
    | nil => exact h2 rfl
    | cons y r =>
      cases qs with
      | nil => cases q3
      | cons a b => cases q3
  exact ⟨s _ _ (ne_of h.hx hl (by intro z; cases z)) h.hx, ⟨dy, l1, l2, l3, l4, l5, s _ _ (ne_of q1 hl (by intro z; cases z)) q1, s _ _ n1 q2, s _ _ n2 q3⟩, s _ _ (ne_of h.h1 hl (by intro z; cases z)) h.h1, s _ _ (ne_of h.h2 hl (by intro z; cases z)) h.h2, s _ _ (ne_of h.h3 hl (by intro z; cases z)) h.h3, h.ne⟩
/-- all that the law's loops lean on -/
structure In1 (K : PySem.W.Frag) (HC S : Addr) (H0 H : Hp) (x dx sc d1 d2 d3 ls lt : Addr) (ss : List Str) (qs : List Addr) (th : List Thing) : Prop where
  hs : HsAt HC S H x dx sc d1 d2 d3 ss ["own"] th []
  sl : H ls = some (.lst (ss.map V.str))
  tl : H lt = some (.lst (qs.map V.ref))
  ta : ThAt K H qs th
  sm : Same H0 H
  z1 : H0 d1 = none
  z2 : H0 d2 = none
  zt : H0 lt = none
  sn : ss ≠ []
  so : ∀ z ∈ ss, okS z
  nd : (nmL th).Nodup
  nm : ∀ n ∈ nmL th, isNm n = true
  st : ∀ t ∈ th, t.2.1 ∈ ss
  le : th.length ≤ 60
section
variable {K : PySem.W.Frag} {HC S : Addr} {H0 H H' : Hp} {x dx sc d1 d2 d3 ls lt p : Addr} {ss : List Str} {qs : List Addr} {th : List Thing}
theorem In1.ok (h : In1 K HC S H0 H x dx sc d1 d2 d3 ls lt ss qs th) : OkTh th := fun t ht => ⟨(isNm_ok (h.nm t.1 (List.mem_map.mpr ⟨t, ht, rfl⟩))).1, h.so _ (h.st t ht)⟩
theorem In1.same (s : Same H H') (h : In1 K HC S H0 H x dx sc d1 d2 d3 ls lt ss qs th) : In1 K HC S H0 H' x dx sc d1 d2 d3 ls lt ss qs th :=
  ⟨h.hs.same s, s _ _ h.sl, s _ _ h.tl, h.ta.same s, h.sm.trans s, h.z1, h.z2, h.zt, h.sn, h.so, h.nd, h.nm, h.st, h.le⟩
theorem In1.but (s : But p H H') (st : StOk H p) (p0 : H0 p = none) (q1 : ls ≠ p) (q2 : lt ≠ p) (h : In1 K HC S H0 H x dx sc d1 d2 d3 ls lt ss qs th) : In1 K HC S H0 H' x dx sc d1 d2 d3 ls lt ss qs th := by
  obtain ⟨u, v, w, e, r⟩ := st
  exact ⟨h.hs.but s ⟨u, v, w, e, r⟩ (st_lists ⟨u, v, w, e, r⟩ h.sn (by simp)), s _ _ q1 h.sl, s _ _ q2 h.tl, h.ta.imp fun z => but_seqT s e (fun _ z => by cases z) (fun _ _ z => by cases z) z, But.same p0 h.sm s, h.z1, h.z2, h.zt, h.sn, h.so, h.nd, h.nm, h.st, h.le⟩
/-- a thing comes, and the law puts it down -/
theorem In1.put {n so : Str} {b : Bool} {tq : Addr} {H2 : Hp} (s : ∀ q o, q ≠ d1 → q ≠ d2 → H q = some o → H' q = some o) (hh : HsAt HC S H' x dx sc d1 d2 d3 ss ["own"] (th ++ [(n, so, b)]) []) (s2 : Same H' H2) (hn : n ∉ nmL th) (hm : isNm n = true) (hso : so ∈ ss) (h60 : th.length < 60) (h : In1 K HC S H0 H x dx sc d1 d2 d3 ls lt ss qs th) (htq : H2 tq = some (.tup [.str n, .str so, .bl b])) :
    H2 lt = some (.lst (qs.map V.ref)) ∧ In1 K HC S H0 (upd H2 lt (.lst (qs.map V.ref ++ [.ref tq]))) x dx sc d1 d2 d3 ls lt ss (qs ++ [tq]) (th ++ [(n, so, b)]) := by
  have k1 := h.hs.h1
  have k2 := h.hs.h2
  have tl2 : H2 lt = some (.lst (qs.map V.ref)) := s2 _ _ (s _ _ (ne_of h.tl k1 (by intro z; cases z)) (ne_of h.tl k2 (by intro z; cases z)) h.tl)
  have sl2 : H2 ls = some (.lst (ss.map V.str)) := s2 _ _ (s _ _ (ne_of h.sl k1 (by intro z; cases z)) (ne_of h.sl k2 (by intro z; cases z)) h.sl)
  have nls : ls ≠ lt := fun z => by
    rw [z, tl2] at sl2
    have sn := h.sn
    cases ss with
    | nil => exact sn rfl
    | cons y r =>
      cases qs with
      | nil => cases sl2
      | cons a b => cases sl2
  have B : But lt H2 (upd H2 lt (.lst (qs.map V.ref ++ [.ref tq]))) := But.upd
  have em : nmL (th ++ [(n, so, b)]) = nmL th ++ [n] := by unfold nmL; rw [List.map_append]; rfl
  refine ⟨tl2, (hh.same s2).butL B tl2 h.sn (by simp), B _ _ nls sl2, ?_, ?_, ?_, h.z1, h.z2, h.zt, h.sn, h.so, ?_, ?_, ?_, ?_⟩
  · rw [upd_same, List.map_append]
    rfl
  · have t1 : ThAt K H2 qs th := h.ta.imp fun z => same_seqT s2 (two_seqT s k1 k2 z)
    have t2 : ThAt K H2 (qs ++ [tq]) (th ++ [(n, so, b)]) := t1.snoc (SqT.of htq)
    exact t2.imp fun z => but_seqT B tl2 (fun _ z => by cases z) (fun _ _ z => by cases z) z
  · intro q o e
    rw [upd_ne (ne_of_none e h.zt)]
    exact s2 _ _ (s _ _ (ne_of_none e h.z1) (ne_of_none e h.z2) (h.sm _ _ e))
  · rw [em, List.nodup_append]
    exact ⟨h.nd, (by simp : [n].Nodup), fun a ha c hc e => by
      have eb : c = n := by simpa using hc
      rw [e, eb] at ha
      exact hn ha⟩
  · intro m hmm
    rw [em] at hmm
    rcases List.mem_append.mp hmm with q | q
    · exact h.nm m q
    · rw [List.mem_singleton.mp q]
      exact hm
  · intro t ht
    rcases List.mem_append.mp ht with q | q
    · exact h.st t q
    · rw [List.mem_singleton.mp q]
      exact hso
  · rw [List.length_append, List.length_singleton]
    omega
end
section
variable {K : PySem.W.Frag} {HC S : Addr} {H0 H : Hp} {x dx sc d1 d2 d3 ls lt : Addr} {ss : List Str} {qs : List Addr} {th : List Thing}
/-- the law puts a thing down, then it comes -/
theorem In1.pre {n so : Str} {b : Bool} {tq : Addr} (htq : H tq = none) (h : In1 K HC S H0 H x dx sc d1 d2 d3 ls lt ss qs th) {Ha : Hp} (ea : Ha = upd (upd H tq (.tup [.str n, .str so, .bl b])) lt (.lst (qs.map V.ref ++ [.ref tq]))) :
    HsAt HC S Ha x dx sc d1 d2 d3 ss ["own"] th [] ∧ Ha ls = some (.lst (ss.map V.str)) ∧ ∀ H', (∀ q o, q ≠ d1 → q ≠ d2 → Ha q = some o → H' q = some o) → HsAt HC S H' x dx sc d1 d2 d3 ss ["own"] (th ++ [(n, so, b)]) [] → n ∉ nmL th → isNm n = true → so ∈ ss → th.length < 60 →
      In1 K HC S H0 H' x dx sc d1 d2 d3 ls lt ss (qs ++ [tq]) (th ++ [(n, so, b)]) := by
  have S1 : Same H (upd H tq (.tup [.str n, .str so, .bl b])) := Same.upd htq
  have e1 : (upd H tq (.tup [.str n, .str so, .bl b])) tq = some (.tup [.str n, .str so, .bl b]) := upd_same
  have h1 := h.same S1
  generalize upd H tq (.tup [.str n, .str so, .bl b]) = H1 at S1 e1 ea h1
  have B : But lt H1 Ha := by rw [ea]; exact But.upd
  have elt : Ha lt = some (.lst ((qs ++ [tq]).map V.ref)) := by rw [ea, upd_same, List.map_append]; rfl
  have nls : ls ≠ lt := fun z => by
    have q := h1.sl
    rw [z, h1.tl] at q
    have sn := h.sn
    cases ss with
    | nil => exact sn rfl
    | cons y r =>
      cases qs with
      | nil => cases q
      | cons a b => cases q
  have hs2 := h1.hs.butL B h1.tl h.sn (by simp)
  refine ⟨hs2, B _ _ nls h1.sl, fun H' s hh hn hm hso h60 => ?_⟩
  have em : nmL (th ++ [(n, so, b)]) = nmL th ++ [n] := by unfold nmL; rw [List.map_append]; rfl
  have k1 := hs2.h1
  have k2 := hs2.h2
  refine ⟨hh, s _ _ (ne_of (B _ _ nls h1.sl) k1 (by intro z; cases z)) (ne_of (B _ _ nls h1.sl) k2 (by intro z; cases z)) (B _ _ nls h1.sl), s _ _ (ne_of elt k1 (by intro z; cases z)) (ne_of elt k2 (by intro z; cases z)) elt, ?_, ?_, h.z1, h.z2, h.zt, h.sn, h.so, ?_, ?_, ?_, ?_⟩
  · have t2 : ThAt K H1 (qs ++ [tq]) (th ++ [(n, so, b)]) := h1.ta.snoc (SqT.of e1)
    have t3 : ThAt K Ha (qs ++ [tq]) (th ++ [(n, so, b)]) := t2.imp fun z => but_seqT B h1.tl (fun _ z => by cases z) (fun _ _ z => by cases z) z
    exact t3.imp fun z => two_seqT s k1 k2 z
  · intro q o e
    exact s _ _ (ne_of_none e h.z1) (ne_of_none e h.z2) (B _ _ (ne_of_none e h.zt) (h1.sm _ _ e))
  · rw [em, List.nodup_append]
    exact ⟨h.nd, (by simp : [n].Nodup), fun a ha c hc e => by
      have eb : c = n := by simpa using hc
      rw [e, eb] at ha
      exact hn ha⟩
  · intro m hmm
    rw [em] at hmm
    rcases List.mem_append.mp hmm with q | q
    · exact h.nm m q
    · rw [List.mem_singleton.mp q]
      exact hm
  · intro t ht
    rcases List.mem_append.mp ht with q | q
    · exact h.st t q
    · rw [List.mem_singleton.mp q]
      exact hso
  · rw [List.length_append, List.length_singleton]
    omega
end
theorem ent_none {ss : List Str} {th : List Thing} {n so : Str} (h : entD ss th n so = none) : isNm n = true ∧ n ∉ nmL th ∧ so ∈ ss ∧ th.length < 60 := by
  unfold entD at h
  split at h
  · split at h
    · cases h
    · split at h
      · split at h
        · exact ⟨by assumption, by assumption, by assumption, by assumption⟩
        · cases h
      · cases h
  · cases h
theorem ent_some {ss : List Str} {th : List Thing} {n so : Str} {r : Rf} (on : okS n) (os : okS so) (h : entD ss th n so = some r) : r = .full ∨ ∃ i z, i < 3 ∧ r = .one i z ∧ okS z := by
  unfold entD at h
  split at h
  · split at h
    · cases h
      exact .inr ⟨1, n, by decide, rfl, on⟩
    · split at h
      · split at h
        · cases h
        · cases h
          exact .inl rfl
      · cases h
        exact .inr ⟨2, so, by decide, rfl, os⟩
  · cases h
    exact .inr ⟨0, n, by decide, rfl, on⟩
def dtOf : Rf → List PyData
  | .one i z => [.str (kdOf i), .str z]
  | .full => [.str "full"]
theorem dp_tup {K : PySem.W.Frag} {H : Hp} : ∀ r : Rf, DpAll K H (tupOf r) (dtOf r)
  | .one _ _ => .cons (.str _) (.cons (.str _) .nil)
  | .full => .cons (.str _) .nil
theorem kd_ok : ∀ i, PyData.strOk (kdOf i) = true
  | 0 => by decide +kernel
  | 1 => by decide +kernel
  | _ + 2 => by show PyData.strOk "nosort" = true; decide +kernel
theorem shaped_tup {r : Rf} (h : r = .full ∨ ∃ i z, i < 3 ∧ r = .one i z ∧ okS z) : SeqAt.shaped (.tuple (dtOf r)) = true := by
  rcases h with rfl | ⟨i, z, _, rfl, oz⟩
  · show SeqAt.shaped (.tuple [.str "full"]) = true
    decide +kernel
  · have a := kd_ok i
    have b := strOk_of oz
    simp [dtOf, SeqAt.shaped, PyData.canLay0, PyData.canLayAll0, PyData.depth, PyData.depthAll, a, b]
theorem ent_te {K : PySem.W.Frag} {mg : Str → Option Value} {C0 C1 C2 C3 C4 C5 C6 C7 C8 C9 C10 C11 W : Addr} (TE : TxE K mg C0 C1 C2 C3 C4 C5 C6 C7 C8 C9 C10 C11 W) {r : Rf} (h : r = .full ∨ ∃ i z, i < 3 ∧ r = .one i z ∧ okS z) : PySem.W.exmOne K (.ref (clsOf ⟨C0, C1, C2, C8⟩ r)) (.ref W) = some true := by
  rcases h with rfl | ⟨i, z, hi, rfl, _⟩
  · exact TE.e8.te
  · rcases (by omega : i = 0 ∨ i = 1 ∨ i = 2) with rfl | rfl | rfl
    · exact TE.e0.te
    · exact TE.e1.te
    · exact TE.e2.te
theorem cut1 {a R : TS} {D : Ends} {σ : L2.St} {H : Hp} (Good : L2.St → Hp → Prop) (fin : ∀ σ' H', Good σ' H' → R D σ' H') (h : ∀ R' : TS, (∀ σ' H', Good σ' H' → R' D σ' H') → tSeq a R' D σ H) : tSeq a R D σ H := h R fin
theorem cut3 {a b c R : TS} {D : Ends} {σ : L2.St} {H : Hp} (Good : L2.St → Hp → Prop) (fin : ∀ σ' H', Good σ' H' → R D σ' H') (h : ∀ R' : TS, (∀ σ' H', Good σ' H' → R' D σ' H') → tSeq a (tSeq b (tSeq c R')) D σ H) : tSeq a (tSeq b (tSeq c R)) D σ H := h R fin
def tLB (HC S : Addr) (e : Er4) (W : WX) : TS := tDrop (tCallS (spCom HC S e) (WE W) (tCons (tVar 4) (tCons (tVar 11) (tCons (tVar 10) (tCons (tVar 8) tNil)))))
def tLS (e : Er4) : Addr → Value → Option Addr → TS := fun a cls d => tAsg (tCallE (spTld e a cls d) (tCons (tVar 14) tNil)) (gName 13)
def spLaw (K : PySem.W.Frag) : Sp := fun vs H Q _ => ∃ (a : Addr) (ns : List Int), vs = [.ref a] ∧ SqL K H a (ns.map V.int) ∧ ns.length ≤ 63 ∧ ∀ H', Q (.bl true) H'
theorem lits_ok : ∀ z ∈ (["", "A", "9a", "a b", "abcdefghijklm", "ab_"] : List Str), okS z ∧ z.length ≤ 13 := by
  unfold okS
  decide +kernel
theorem lits2_ok : okS "" ∧ okS "strange" ∧ okS "x" := by
  unfold okS
  exact ⟨by decide +kernel, by decide +kernel, by decide +kernel⟩
theorem log_sm {n : Nat} (h : n ≤ 100) : (n : Int).natAbs.log2 < 1920 := by
  have e : (n : Int).natAbs = n := by omega
  rw [e]
  have q : n.log2 ≤ n := Nat.log2_le_self _
  omega
end Wm
namespace Wm
open PySem L2 StX
section
variable {P : Program} {w : World} {K : PySem.W.Frag} {mg : Str → Option Value} {base : Heap}
theorem scLaw : FnScope ["_law_script", "_law_s", "_law_many", "_law_sorts", "_law_house", "_law_things", "_law_k", "_law_cell", "_law_way", "_law_spoil", "_law_sort", "_law_name_here", "_law_due_here", "_law_found", "_law_e"] ["_law_script"] (defScope sLaw) := ⟨rfl, rfl, rfl, by decide +kernel, rfl, by decide +kernel, by decide +kernel⟩
theorem ok_law {f fC fS fG fN fNm fA fD fCo fT HC S C0 C1 C2 C3 C4 C5 C6 C7 C8 C9 C10 C11 W fHi fSc fEn : Addr} {fd dC dS dG dN dNm dA dD dCo dT dHi dSc dEn : FuncData} (F : Fun K "law" "law" sLaw f fd) (T : TxB mg) (tl : mg "list" = none) (tstr : mg "str" = none) (TE : TxE K mg C0 C1 C2 C3 C4 C5 C6 C7 C8 C9 C10 C11 W) (TH : TxH K mg HC fHi) (TC : TxSch K mg S fSc)
    (DC : Dn K mg "_law_cell_at" sCel ["_law_script", "_law_k"] fC dC) (DS : Dn K mg "_law_state" sState ["_law_cell"] fS dS) (DG : Dn K mg "_law_digit" sDigit ["_law_state_here", "_law_base"] fG dG) (DN : Dn K mg "_law_names" sNms ["_law_s", "_law_many"] fN dN) (DNm : Dn K mg "_law_name" sNam ["_law_s", "_law_taken"] fNm dNm)
    (DA : Dn K mg "_law_asked" sAsk ["_law_house", "_law_things", "_law_name_here"] fA dA) (DD : Dn K mg "_law_due" sDue ["_law_sorts", "_law_things", "_law_name_here", "_law_sort"] fD dD) (DCo : Dn K mg "_law_come" sCom ["_law_house", "_law_name_here", "_law_sort", "_law_way"] fCo dCo) (DT : Dn K mg "_law_told" sTld ["_law_e"] fT dT)
    (GN : FnOk P w K mg base CX0 3 fN dN ["_law_s", "_law_many"] spNms) (GNm : FnOk P w K mg base CX0 2 fNm dNm ["_law_s", "_law_taken"] spNam) (GA : FnOk P w K mg base CX0 7 fA dA ["_law_house", "_law_things", "_law_name_here"] (spAsk K HC S)) (GD : FnOk P w K mg base CX0 2 fD dD ["_law_sorts", "_law_things", "_law_name_here", "_law_sort"] (spDue K))
    (GCo : FnOk P w K mg base (L2N.CX P w) 6 fCo dCo ["_law_house", "_law_name_here", "_law_sort", "_law_way"] (spCom HC S ⟨C0, C1, C2, C8⟩)) (GT : FnEN P w K mg base 1 fT dT ["_law_e"] (spTld ⟨C0, C1, C2, C8⟩))
    (bHi : Binds K dHi ["self", "scheme"] []) (GHi : FnOk P w K mg base CX0 1 fHi dHi ["self", "scheme"] (spHin HC)) (bSc : Binds K dSc ["self", "sorts", "words", "makings", "rules", "bars"] [.none, .none, .none]) (GSc : FnOk P w K mg base CX0 4 fSc dSc ["self", "sorts", "words", "makings", "rules", "bars"] (spSch K S))
    (mEn : Meth K HC "enter" fEn) (bEnD : Binds K dEn ["self", "name", "sort", "awake"] [.bool true]) (GEn : FnOk P w K mg base CX0 3 fEn dEn ["self", "name", "sort", "awake"] (spHen HC S)) :
    FnOk P w K mg base CX0 8 f fd ["_law_script"] (spLaw K) := by
  have GC : FnOk P w K mg base CX0 1 fC dC _ (spCel K) := ok_cel DC.F T
  have GS : FnOk P w K mg base CX0 1 fS dS _ spState := ok_state DS.F T
  have GG : FnOk P w K mg base CX0 1 fG dG _ spDigit := ok_digit DG.F
  refine F.ok scLaw (fun vs H Q E h => ?_) (fun cdv A outer s H vs Q E hr h => ?_)
  · obtain ⟨a, ns, rfl, _⟩ := h
    rfl
  · obtain ⟨a, ns, rfl, hA, hlen, kk⟩ := h
    have hr1 : Room 1 _ := hr.mono (by decide)
    have hr2 : Room 2 _ := hr.mono (by decide)
    have hr3 : Room 3 _ := hr.mono (by decide)
    have hr5 : Room 5 _ := hr.mono (by decide)
    have hr6 : Room 6 _ := hr.mono (by decide)
    refine ⟨_, (pss_cons (ps_set (i := 1) scLaw.nd rfl (Or.inl rfl) (pe_call GS hr1 rfl DS.g DS.F.kp DS.b .nil pass0 (pa_cons (pe_call GC hr1 rfl DC.g DC.F.kp DC.b .nil pass0 (pa_cons (pv 0) (pa_cons pe_int pa_nil))) pa_nil)))
      (pss_cons (ps_set (i := 2) scLaw.nd rfl (Or.inl rfl) (pe_op op_mul (pe_op op_fdiv (pe_call GG hr1 rfl DG.g DG.F.kp DG.b .nil pass0 (pa_cons (pv 1) (pa_cons pe_int pa_nil))) pe_int) (pe_op op_add pe_int (pe_call GG hr1 rfl DG.g DG.F.kp DG.b .nil pass0 (pa_cons (pv 1) (pa_cons pe_int pa_nil))))))
      (pss_cons (ps_set (i := 3) scLaw.nd rfl (Or.inl rfl) (pe_call GN hr3 rfl DN.g DN.F.kp DN.b .nil pass0 (pa_cons (pv 1) (pa_cons (pe_op op_add pe_int (pe_call GG hr1 rfl DG.g DG.F.kp DG.b .nil pass0 (pa_cons (pv 1) (pa_cons pe_int pa_nil)))) pa_nil))))
      (pss_cons (ps_set (i := 4) scLaw.nd rfl (Or.inl rfl) (pe_make TH.m GHi hr2 rfl TH.g bHi .nil pass0 (pa_cons (pe_make (dvs := [.non, .non, .non]) TC.m GSc hr5 rfl TC.g bSc (.cons rfl (.cons rfl (.cons rfl .nil))) pass0 (pa_cons (pe_callTy call_list_of (by rfl) tl (by decide +kernel) (pa_cons (pv 3) pa_nil)) (pa_cons (pe_lst (pa_cons pe_str pa_nil)) pa_nil))) pa_nil)))
      (pss_cons (ps_set (i := 5) scLaw.nd rfl (Or.inl rfl) (pe_lst pa_nil))
      (pss_cons (ps_for PassesOwn.never rfl (pi_range1 rfl T.range (pa_cons (pv 2) pa_nil)) (pg_name (i := 6) scLaw.nd rfl (Or.inl rfl)) (pss_cons (ps_expr (pe_bm PySem.F.plainAttrs_list PySem.F.slot_list_append PySem.F.type_list_append mt_append (pv 5) (pa_cons (pe_tup (pa_cons (pe_op op_add_str pe_str (pe_callTy call_str_int (by rfl) tstr (by decide +kernel) (pa_cons (pv 6) pa_nil))) (pa_cons (pe_ix ix_list (pv 3) (pe_op op_mod (pv 6) (pe_callB call_len_seq (by rfl) T.len (by decide +kernel) (pa_cons (pv 3) pa_nil))) (fun _ _ => rfl)) (pa_cons pe_bl pa_nil)))) pa_nil)))
      (pss_one (ps_expr (pe_meth (dvs := [.bl true]) (pv 4) TH.cl mEn GEn hr3 bEnD (.cons rfl .nil) pass0 (pa_cons (pe_op op_add_str pe_str (pe_callTy call_str_int (by rfl) tstr (by decide +kernel) (pa_cons (pv 6) pa_nil))) (pa_cons (pe_ix ix_list (pv 3) (pe_op op_mod (pv 6) (pe_callB call_len_seq (by rfl) T.len (by decide +kernel) (pa_cons (pv 3) pa_nil))) (fun _ _ => rfl)) pa_nil)))))))
      (pss_cons (ps_for PassesOwn.never rfl (pi_list (pe_slice sl_list (pv 0) (po_some pe_int) (po_some pe_int))) (pg_name (i := 7) scLaw.nd rfl (Or.inl rfl)) (pss_cons (ps_set (i := 1) scLaw.nd rfl (Or.inl rfl) (pe_call GS hr1 rfl DS.g DS.F.kp DS.b .nil pass0 (pa_cons (pv 7) pa_nil)))
      (pss_cons (ps_set (i := 8) scLaw.nd rfl (Or.inl rfl) (pe_call GG hr1 rfl DG.g DG.F.kp DG.b .nil pass0 (pa_cons (pv 1) (pa_cons pe_int pa_nil))))
      (pss_cons (ps_set (i := 9) scLaw.nd rfl (Or.inl rfl) (pe_call GG hr1 rfl DG.g DG.F.kp DG.b .nil pass0 (pa_cons (pv 1) (pa_cons pe_int pa_nil))))
      (pss_cons (ps_set (i := 10) scLaw.nd rfl (Or.inl rfl) (pe_ix ix_list (pv 3) (pe_call GG hr1 rfl DG.g DG.F.kp DG.b .nil pass0 (pa_cons (pv 1) (pa_cons (pe_callB call_len_seq (by rfl) T.len (by decide +kernel) (pa_cons (pv 3) pa_nil)) pa_nil))) (fun _ _ => rfl)))
      (pss_cons (ps_set (i := 11) scLaw.nd rfl (Or.inl rfl) (pe_call GNm hr2 rfl DNm.g DNm.F.kp DNm.b .nil pass0 (pa_cons (pv 1) (pa_cons (pe_lst pa_nil) pa_nil))))
      (pss_cons (ps_if (PW.pt (pw_and (pt_cmpR op_eq (pv 9) pe_int (nomark _)) (pw_and1 (pt_cmpR (op_neD hr.units) (pv 5) (pe_lst pa_nil) (nomark _))))) (pss_one (ps_set (i := 11) scLaw.nd rfl (Or.inl rfl) (pe_ix ix_tup (pe_ix ix_list (pv 5) (pe_call GG hr1 rfl DG.g DG.F.kp DG.b .nil pass0 (pa_cons (pv 1) (pa_cons (pe_callB call_len_seq (by rfl) T.len (by decide +kernel) (pa_cons (pv 5) pa_nil)) pa_nil))) (fun _ _ => rfl)) pe_int (fun _ _ => rfl)))) pss_nil)
      (pss_cons (ps_if (pt_cmpR op_eq (pv 9) pe_int (nomark _)) (pss_one (ps_set (i := 11) scLaw.nd rfl (Or.inl rfl) (pe_ix ix_list (pe_lst (pa_cons pe_str (pa_cons pe_str (pa_cons pe_str (pa_cons pe_str (pa_cons pe_str (pa_cons pe_str pa_nil))))))) (pe_call GG hr1 rfl DG.g DG.F.kp DG.b .nil pass0 (pa_cons (pv 1) (pa_cons pe_int pa_nil))) (fun _ _ => rfl)))) pss_nil)
      (pss_cons (ps_if (PW.pt (pw_or (pt_cmpR op_eq (pv 9) pe_int (nomark _)) (pw_or1 (PW.pt (pw_and (pt_cmpR op_eq (pv 9) pe_int (nomark _)) (pw_and1 (pt_cmpR op_eq (pe_call GG hr1 rfl DG.g DG.F.kp DG.b .nil pass0 (pa_cons (pv 1) (pa_cons pe_int pa_nil))) pe_int (nomark _)))))))) (pss_one (ps_set (i := 10) scLaw.nd rfl (Or.inl rfl) (pe_ix ix_list (pe_lst (pa_cons pe_str (pa_cons pe_str (pa_cons (pv 11) pa_nil)))) (pe_call GG hr1 rfl DG.g DG.F.kp DG.b .nil pass0 (pa_cons (pv 1) (pa_cons pe_int pa_nil))) (fun _ _ => rfl)))) pss_nil)
      (pss_cons (ps_set (i := 12) scLaw.nd rfl (Or.inl rfl) (pe_call GD hr2 rfl DD.g DD.F.kp DD.b .nil pass0 (pa_cons (pv 3) (pa_cons (pv 5) (pa_cons (pv 11) (pa_cons (pv 10) pa_nil))))))
      (pss_cons (ps_set (i := 13) scLaw.nd rfl (Or.inl rfl) pe_non)
      (pss_cons (L2N.ps_try_as (i := 14) (tb := tLB HC S ⟨C0, C1, C2, C8⟩) (ts := tLS ⟨C0, C1, C2, C8⟩) (Wout := fun _ _ _ _ => False) rfl rfl scLaw.nd rfl rfl ⟨rfl, by decide, Or.inl TE.gW⟩ takesN0 (fun W_ pn xe tk _ => (pss_one (ps_expr (pe_callS GCo hr6 rfl DCo.g DCo.F.kp DCo.b (fun σ => L2N.passAt tk σ) (pa_cons (pv 4) (pa_cons (pv 11) (pa_cons (pv 10) (pa_cons (pv 8) pa_nil))))))))  (fun a oe cls d pn hz hf => (pss_one (ps_set (i := 13) scLaw.nd rfl (Or.inl rfl) (by exact (pe_callEN GT (L2H.roomH_of hr1) hz hf rfl DT.g DT.F.kp DT.b (pa_cons (pv 14) pa_nil)))))))
      (pss_cons (ps_if (pt_cmp (pc_isN (pv 12))) (pss_one (ps_expr (pe_bm PySem.F.plainAttrs_list PySem.F.slot_list_append PySem.F.type_list_append mt_append (pv 5) (pa_cons (pe_tup (pa_cons (pv 11) (pa_cons (pv 10) (pa_cons (pe_cmpR op_lt (pv 8) pe_int (nomark _)) pa_nil)))) pa_nil)))) pss_nil)
      (pss_one (ps_if (PW.pt (pw_or (pt_cmpR (op_neD hr.units) (pv 13) (pv 12) (nomark _)) (pw_or1 (pt_not (pt_val (pe_call GA hr rfl DA.g DA.F.kp DA.b .nil pass0 (pa_cons (pv 4) (pa_cons (pv 5) (pa_cons (pe_op op_add_str (pv 11) pe_str) pa_nil))))))))) (pss_one (ps_ret pe_bl)) pss_nil)))))))))))))))
      (pss_one (ps_ret (pe_call GA hr rfl DA.g DA.F.kp DA.b .nil pass0 (pa_cons (pv 4) (pa_cons (pv 5) (pa_cons pe_str pa_nil))))))))))))), ?_⟩
    refine ⟨_, rfl, a, ns, 0, rfl, hA, fun ci => ⟨ci, rfl, fun p H1 hp S1 st1 => ?_⟩⟩
    dsimp only [List.set_cons_succ, List.set_cons_zero]
    -- how many there are at first
    refine ⟨_, rfl, p, _, rfl, st1, by decide, by decide, fun da H2 a0 a1 B2 st2 => ⟨_, _, rfl, rfl, ⟨by decide, by decide⟩, _, rfl, p, _, rfl, st2, by decide, by decide, fun db H3 b0 b1 B3 st3 => ⟨_, _, rfl, rfl, _, _, rfl, rfl, .inr ⟨by omega, by omega⟩, ?_⟩⟩⟩
    dsimp only [List.set_cons_succ, List.set_cons_zero]
    obtain ⟨mn, emn, mn60⟩ : ∃ mn : Nat, da / 3 * (57 + db) = (mn : Int) ∧ mn ≤ 60 := by
      have hq : da / 3 = 0 ∨ da / 3 = 1 := by omega
      rcases hq with hq | hq
      · exact ⟨0, by rw [hq]; omega, by omega⟩
      · exact ⟨(57 + db).toNat, by rw [hq]; omega, by omega⟩
    rw [emn]
    -- the sorts
    refine ⟨_, rfl, _, rfl, p, _, rfl, st3, by decide, by decide, fun dw H4 w0 w1 B4 st4 => ⟨_, _, rfl, rfl, p, 1 + dw, rfl, st4, by omega, by omega, fun ss ls H5 hls nsp B5 st5 hs5 slen snd snm => ?_⟩⟩
    dsimp only [List.set_cons_succ, List.set_cons_zero]
    have SA : Same H H5 := But.same hp S1 (((B2.trans B3).trans B4).trans B5)
    have sl1 : 1 ≤ ss.length := by omega
    have sl4 : ss.length ≤ 4 := by omega
    have sne : ss ≠ [] := by intro z; rw [z] at sl1; simp at sl1
    have oks : ∀ z ∈ ss, okS z := fun z hz => (snm z hz).1.ok
    have rw1 : Row ss := ⟨fun z hz => ⟨nm_is (snm z hz).1 (Nat.le_trans (snm z hz).2 (by decide)), Nat.le_trans (snm z hz).2 (by decide)⟩, snd⟩
    have rw2 : Row ["own"] := ⟨by decide +kernel, by decide +kernel⟩
    -- the house
    refine ⟨_, rfl, ls, _, rfl, .inl (SqL.of hs5), fun la hla => ⟨by show 1 ≤ sizeLine; decide, fun lb hlb => ?_⟩⟩
    have SB : Same H5 (upd H5 la (.lst (ss.map V.str))) := Same.upd hla
    have SC : Same (upd H5 la (.lst (ss.map V.str))) (upd (upd H5 la (.lst (ss.map V.str))) lb (.lst [.str "own"])) := Same.upd hlb
    have ea : (upd (upd H5 la (.lst (ss.map V.str))) lb (.lst [.str "own"])) la = some (.lst (ss.map V.str)) := SC _ _ upd_same
    have eb : (upd (upd H5 la (.lst (ss.map V.str))) lb (.lst [.str "own"])) lb = some (.lst ((["own"] : List Str).map V.str)) := upd_same
    have SBC := SB.trans SC
    generalize upd (upd H5 la (.lst (ss.map V.str))) lb (.lst [.str "own"]) = H6 at SBC ea eb
    intro sc dsc nsc ndsc ne1
    have S6 : Same H6 (upd (upd H6 dsc (.own sc)) sc (.ins S dsc [])) := (Same.upd ndsc).trans (Same.upd (by rw [upd_ne ne1.symm]; exact nsc))
    refine ⟨H6, sc, dsc, la, lb, ss, ["own"], rfl, S6, nsc, upd_same, SqL.of ea, SqL.of eb, rw1, rw2, sl1, sl4, by decide, by decide, fun H7 S7 hsch => ⟨rfl, ?_⟩⟩
    intro x dx nx ndx ne2
    have S8 : Same H7 (upd (upd H7 dx (.own x)) x (.ins HC dx [])) := (Same.upd ndx).trans (Same.upd (by rw [upd_ne ne2.symm]; exact nx))
    refine ⟨H7, x, dx, sc, rfl, S8, nx, upd_same, fun d1 d2 d3 H9 z1 z2 z3 n12 S9 hx9 e1 e2 e3 => ⟨rfl, ?_⟩⟩
    dsimp only [List.set_cons_succ, List.set_cons_zero]
    have SH7 : Same H H7 := (SA.trans SBC).trans S7
    have S59 : Same H5 H9 := (SBC.trans S7).trans S9
    have SH9 : Same H H9 := SH7.trans S9
    have d10 : H d1 = none := SH7.free z1
    have d20 : H d2 = none := SH7.free z2
    have hs9 : HsAt HC S H9 x dx sc d1 d2 d3 ss ["own"] [] [] := ⟨hx9, hsch.same S9, e1, e2, e3, n12⟩
    have noM : ∀ {f : Str}, ¬ f = "standing" → ¬ f = "awake_by_name" → ¬ f = "sort_by_name" → ¬ f = "own_scheme" → (hsF sc d1 d2 d3).lookup f = none := fun a b c d => hsF_no a b c d _ _ _ _
    refine ⟨Nat.zero_le _, fun lt hlt => ?_⟩
    dsimp only [List.set_cons_succ, List.set_cons_zero]
    have S10 : Same H9 (upd H9 lt (.lst [])) := Same.upd hlt
    have J10 : In1 K HC S H (upd H9 lt (.lst [])) x dx sc d1 d2 d3 ls lt ss [] [] := ⟨hs9.same S10, S10 _ _ (S59 _ _ hs5), upd_same, True.intro, SH9.trans S10, d10, d20, SH9.free hlt, sne, oks, List.nodup_nil, fun n hn => (List.not_mem_nil hn).elim, fun t ht => (List.not_mem_nil ht).elim, Nat.zero_le _⟩
    generalize upd H9 lt (.lst []) = H10 at S10 J10
    -- things come at first
    refine ⟨_, rfl, (mn : Int), rfl, by omega, by omega, ?_⟩
    refine for_range (lo := 0) (n := mn) (fun i σ H' => (∃ v, σ = [some (.ref a), some (.ref p), some (.int mn), some (.ref ls), some (.ref x), some (.ref lt), v, none, none, none, none, none, none, none, none]) ∧
      ∃ qs th, In1 K HC S H H' x dx sc d1 d2 d3 ls lt ss qs th ∧ nmL th = (List.range i).map nS) ⟨⟨none, rfl⟩, [], [], J10, rfl⟩ ?_ ?_
    · rintro i σ H' hi ⟨⟨v, rfl⟩, qs, th, J, hnm⟩
      rw [Int.zero_add]
      dsimp only [gName, List.set_cons_succ, List.set_cons_zero]
      have tlen : th.length = i := by
        have e := congrArg List.length hnm
        unfold nmL at e
        rw [List.length_map, List.length_map, List.length_range] at e
        exact e
      have i60 : i < 60 := by omega
      have lpos : 0 < ss.length := sl1
      have jlt : i % ss.length < ss.length := Nat.mod_lt _ lpos
      have ej : ((i : Int) % ((ss.map V.str).length : Int)) = ((i % ss.length : Nat) : Int) := by rw [List.length_map]; omega
      have ev : (ss.map V.str)[i % ss.length]? = some (.str (ss[i % ss.length]'jlt)) := by rw [List.getElem?_map, List.getElem?_eq_getElem jlt]; rfl
      have lp' : (0 : Int) < ((ss.map V.str).length : Int) := by rw [List.length_map]; omega
      have nq := num_sign (n := i) (by omega)
      have sz : (PySem.Str.ofString "n").length + (numS i).length ≤ sizeLine := Nat.le_trans (show 1 + (numS i).length ≤ 100 by omega) (by decide)
      refine ⟨_, rfl, .inl ⟨rfl, _, SqL.of J.tl⟩, _, rfl, _, rfl, log_sm (by omega), _, _, rfl, rfl, sz, ?_⟩
      refine ⟨_, rfl, _, rfl, _, rfl, ls, _, rfl, .inl (SqL.of J.sl), _, _, rfl, rfl, lp', ?_⟩
      refine rdList J.sl (j := i % ss.length) ej ev ?_
      refine ⟨by show 3 ≤ sizeLine; decide, fun tq htq => ?_⟩
      have PR := J.pre (n := nS i) (so := ss[i % ss.length]'jlt) (b := true) htq rfl
      refine ⟨lt, _, _, rfl, rfl, (Same.upd htq) _ _ J.tl, ?_, ?_⟩
      · rw [List.length_map, J.ta.len]
        exact Nat.lt_of_le_of_lt J.le (by decide)
      obtain ⟨hsa, hla, nxt⟩ := PR
      have hnew : nS i ∉ nmL th := fun hm => by
        rw [hnm] at hm
        obtain ⟨j, hj, e⟩ := List.mem_map.mp hm
        have hj' : j < i := List.mem_range.mp hj
        have := nS_inj (by omega) (by omega) e
        omega
      have hnmi : isNm (nS i) = true := nS_nm (by omega)
      refine ⟨_, rfl, x, dx, _, rfl, hsa.hx, noM (by decide +kernel) (by decide +kernel) (by decide +kernel) (by decide +kernel), _, rfl, _, rfl, log_sm (by omega), _, _, rfl, rfl, sz, ?_⟩
      refine ⟨_, rfl, _, rfl, _, rfl, ls, _, rfl, .inl (SqL.of hla), _, _, rfl, rfl, lp', ?_⟩
      refine rdList hla (j := i % ss.length) ej ev ?_
      refine ⟨x, dx, sc, d1, d2, d3, nS i, ss[i % ss.length]'jlt, true, ss, _, th, [], rfl, hsa, hnmi, (isNm_ok hnmi).2, hnew, List.getElem_mem jlt, by omega, fun H11 B11 hh11 => ?_⟩
      refine ⟨⟨_, rfl⟩, _, _, nxt H11 B11 hh11 hnew hnmi (List.getElem_mem jlt) (by omega), ?_⟩
      unfold nmL at hnm ⊢
      rw [List.map_append, hnm, List.range_succ, List.map_append]
      rfl
    rintro σ H11 ⟨⟨v6, rfl⟩, qs, th, J, hnm⟩
    clear hnm J10
    dsimp only [List.set_cons_succ, List.set_cons_zero]
    refine ⟨_, rfl, _, rfl, _, rfl, a, _, rfl, J.sm.seq hA, fun l hl12 => ?_⟩
    have nll : l ≠ lt := (ne_of_none J.tl hl12).symm
    have S12 : Same H11 (upd H11 l (.lst (cutV (ns.map V.int) (some 1) (some 41)))) := Same.upd hl12
    have J12 := J.same S12
    have e12 : (upd H11 l (.lst (cutV (ns.map V.int) (some 1) (some 41)))) l = some (.lst (cutV (ns.map V.int) (some 1) (some 41))) := upd_same
    generalize hxs : cutV (ns.map V.int) (some 1) (some 41) = xs at J12 e12
    have hint : ∀ y ∈ xs, ∃ c, y = V.int c := fun y hy => by
      rw [← hxs] at hy
      have hm := List.mem_of_mem_drop (List.mem_of_mem_take hy)
      obtain ⟨c, _, rfl⟩ := List.mem_map.mp hm
      exact ⟨c, rfl⟩
    generalize upd H11 l (.lst xs) = H13 at J12 e12
    clear hxs
    refine ⟨l, rfl, ⟨_, SqL.of e12⟩, for_list (K := K) (a := l) (xs := xs) (fun i σ H' => (∃ u1 u6 u7 u8 u9 u10 u11 u12 u13, σ = [some (.ref a), u1, some (.int mn), some (.ref ls), some (.ref x), some (.ref lt), u6, u7, u8, u9, u10, u11, u12, u13, none]) ∧
      ∃ qs th, In1 K HC S H H' x dx sc d1 d2 d3 ls lt ss qs th ∧ H' l = some (.lst xs)) ⟨⟨_, _, _, _, _, _, _, _, _, rfl⟩, qs, th, J12, e12⟩ (fun i σ H' _ ⟨_, qs, th, h, hl⟩ => SqL.of hl) ?_ ?_⟩
    · clear J12 J e12 S12
      rintro i y σ H' hi ⟨⟨u1, u6, u7, u8, u9, u10, u11, u12, u13, rfl⟩, qs, th, J0, hl0⟩
      obtain ⟨c, rfl⟩ := hint y (List.mem_of_getElem? hi)
      dsimp only [gName, List.set_cons_succ, List.set_cons_zero]
      have p00 : ∀ {q : Addr}, H' q = none → H q = none := fun {q} e => J0.sm.free e
      refine ⟨_, rfl, c, rfl, fun p H1 hp S1 st1 => ?_⟩
      dsimp only [List.set_cons_succ, List.set_cons_zero]
      have nls : ls ≠ p := ne_of_none J0.sl hp
      have nlt : lt ≠ p := ne_of_none J0.tl hp
      have nl : l ≠ p := ne_of_none hl0 hp
      have pz := p00 hp
      have J1 := J0.same S1
      have l1 := S1 _ _ hl0
      refine ⟨_, rfl, p, _, rfl, st1, by decide, by decide, fun wy H2 y0 y4 B2 st2 => ?_⟩
      dsimp only [List.set_cons_succ, List.set_cons_zero]
      have J2 := J1.but B2 st1 pz nls nlt
      have l2 := B2 _ _ nl l1
      refine ⟨_, rfl, p, _, rfl, st2, by decide, by decide, fun sp H3 s0 s8 B3 st3 => ?_⟩
      dsimp only [List.set_cons_succ, List.set_cons_zero]
      have J3 := J2.but B3 st2 pz nls nlt
      have l3 := B3 _ _ nl l2
      refine ⟨_, rfl, _, rfl, _, rfl, ls, _, rfl, .inl (SqL.of J3.sl), p, _, rfl, st3, by rw [List.length_map]; omega, by rw [List.length_map]; omega, fun j4 H4 a4 b4 B4 st4 => ?_⟩
      have J4 := J3.but B4 st3 pz nls nlt
      have l4 := B4 _ _ nl l3
      rw [List.length_map] at b4
      have jl4 : j4.toNat < ss.length := by omega
      have ev4 : (ss.map V.str)[j4.toNat]? = some (.str (ss[j4.toNat]'jl4)) := by rw [List.getElem?_map, List.getElem?_eq_getElem jl4]; rfl
      refine rdList J4.sl (j := j4.toNat) (by omega) ev4 ?_
      dsimp only [List.set_cons_succ, List.set_cons_zero]
      have os4 : okS (ss[j4.toNat]'jl4) := oks _ (List.getElem_mem jl4)
      generalize ss[j4.toNat]'jl4 = so0 at os4
      refine ⟨_, rfl, Nat.zero_le _, fun le hle => ?_⟩
      have nle := st_free st4 hle
      have SL : Same H4 (upd H4 le (.lst [])) := Same.upd hle
      refine ⟨p, le, [], rfl, st4.upd nle, nle, upd_same, Nat.zero_le _, fun nm0 H5 hnm0 hn6 _ B5 st5 => ?_⟩
      dsimp only [List.set_cons_succ, List.set_cons_zero]
      have J5 := (J4.same SL).but B5 (st4.upd nle) pz nls nlt
      have l5 := B5 _ _ nl (SL _ _ l4)
      have on0 : okS nm0 := hnm0.ok
      have ln0 : nm0.length ≤ 13 := by omega
      refine cut3 (fun σ' H' => ∃ (n so : Str) (v12 v13 : Option V), σ' = [some (.ref a), some (.ref p), some (.int mn), some (.ref ls), some (.ref x), some (.ref lt), u6, some (.int c), some (.int wy), some (.int sp), some (.str so), some (.str n), v12, v13, none] ∧ In1 K HC S H H' x dx sc d1 d2 d3 ls lt ss qs th ∧ H' l = some (.lst xs) ∧ okS n ∧ n.length ≤ 13 ∧ okS so) ?_ (fun R' fin => ?_)
      · rintro σ' H6 ⟨n, so, v12, v13, rfl, J6, l6, on, ln, oso⟩
        clear J1 J2 J3 J4 J5 J0
        have onx : okS (n ++ "x") := okS_app on lits2_ok.2.2
        have szx : n.length + (PySem.Str.ofString "x").length ≤ sizeLine := Nat.le_trans (show n.length + 1 ≤ 100 by omega) (by decide)
        refine ⟨_, rfl, _, rfl, _, rfl, _, rfl, ls, lt, n, so, ss, qs, th, rfl, J6.sl, J6.tl, J6.ta, by omega, Nat.le_trans J6.le (by decide), ?_⟩
        cases hu : entD ss th n so with
        | none =>
          obtain ⟨hnm, hnew, hso, h60⟩ := ent_none hu
          intro H7 S7
          dsimp only [gName, List.set_cons_succ, List.set_cons_zero]
          have J7 := J6.same S7
          refine ⟨_, rfl, _, rfl, _, rfl, _, rfl, x, dx, sc, d1, d2, d3, n, so, wy, ss, ["own"], th, [], rfl, y0, y4, J7.hs, by omega, J7.le, ?_⟩
          rw [hu]
          intro H8 B8 hh8
          dsimp only [gName, List.set_cons_succ, List.set_cons_zero]
          refine ⟨_, rfl, _, rfl, ?_⟩
          refine iteT ?_
          have tl8 : H8 lt = some (.lst (qs.map V.ref)) := B8 _ _ (ne_of J7.tl J7.hs.h1 (by intro z; cases z)) (ne_of J7.tl J7.hs.h2 (by intro z; cases z)) J7.tl
          have l8 : H8 l = some (.lst xs) := B8 _ _ (ne_of (S7 _ _ l6) J7.hs.h1 (by intro z; cases z)) (ne_of (S7 _ _ l6) J7.hs.h2 (by intro z; cases z)) (S7 _ _ l6)
          refine ⟨_, rfl, .inl ⟨rfl, _, SqL.of tl8⟩, _, rfl, _, rfl, _, rfl, _, _, rfl, rfl, ?_⟩
          refine ⟨by show 3 ≤ sizeLine; decide, fun tq htq => ?_⟩
          have P9 := J7.put (b := decide (wy < 2)) B8 hh8 (Same.upd (o := .tup [.str n, .str so, .bl (decide (wy < 2))]) htq) hnew hnm hso h60 upd_same
          refine ⟨lt, _, _, rfl, rfl, P9.1, ?_, ?_⟩
          · rw [List.length_map, J6.ta.len]
            exact Nat.lt_of_le_of_lt J6.le (by decide)
          have J9 := P9.2
          have l9 : (upd (upd H8 tq (.tup [.str n, .str so, .bl (decide (wy < 2))])) lt (.lst (qs.map V.ref ++ [.ref tq]))) l = some (.lst xs) := by
            rw [upd_ne nll]
            exact Same.upd htq _ _ l8
          refine ⟨_, rfl, _, rfl, _, _, .non, .non, by decide +kernel, by decide +kernel, _, rfl, ?_⟩
          rw [show PyData.eqv .none .none = true by decide +kernel]
          refine iteF ?_
          refine ⟨_, rfl, _, rfl, _, rfl, _, _, rfl, rfl, szx, x, dx, sc, d1, d2, d3, lt, n ++ "x", ss, _, _, _, rfl, J9.hs, J9.tl, J9.ta, J9.nd, J9.ok, onx, Nat.le_trans J9.le (by decide), fun Hq Sq => ⟨_, rfl, ?_⟩⟩
          refine iteF ?_
          exact ⟨⟨_, _, _, _, _, _, _, _, _, rfl⟩, _, _, J9.same Sq, Sq _ _ l9⟩
        | some r =>
          have hr' := ent_some on oso hu
          intro t7 H7 S7 _ e7
          dsimp only [gName, List.set_cons_succ, List.set_cons_zero]
          have J7 := J6.same S7
          refine ⟨_, rfl, _, rfl, _, rfl, _, rfl, x, dx, sc, d1, d2, d3, n, so, wy, ss, ["own"], th, [], rfl, y0, y4, J7.hs, by omega, J7.le, ?_⟩
          rw [hu]
          intro d H8 nd8 S8 hx8
          refine ⟨true, ent_te TE hr', fun _ a0 _ => ?_, fun q => Bool.noConfusion q⟩
          refine ⟨_, rfl, rfl, d, r, rfl, rfl, hx8, fun t9 H9 S9 _ e9 => ?_⟩
          dsimp only [gName, List.set_cons_succ, List.set_cons_zero]
          have S79 := S8.trans S9
          have J9 := J7.same S79
          refine ⟨_, rfl, _, rfl, ?_⟩
          refine iteF ?_
          have sh := shaped_tup hr'
          refine ⟨_, rfl, _, rfl, _, _, .tup (SqT.of e9) (dp_tup r), .tup (SqT.of (S79 _ _ e7)) (dp_tup r), sh, sh, _, rfl, ?_⟩
          rw [eqv_self sh]
          refine iteF ?_
          refine ⟨_, rfl, _, rfl, _, rfl, _, _, rfl, rfl, szx, x, dx, sc, d1, d2, d3, lt, n ++ "x", ss, _, _, _, rfl, J9.hs, J9.tl, J9.ta, J9.nd, J9.ok, onx, Nat.le_trans J9.le (by decide), fun Hq Sq => ⟨_, rfl, ?_⟩⟩
          refine iteF ?_
          exact ⟨⟨_, _, _, _, _, _, _, _, _, rfl⟩, _, _, J9.same Sq, Sq _ _ (S79 _ _ (S7 _ _ l6))⟩
      · -- what is spoiled
        let Gd : L2.St → Hp → Prop := fun σ' H' => ∃ n : Str, σ' = [some (.ref a), some (.ref p), some (.int mn), some (.ref ls), some (.ref x), some (.ref lt), u6, some (.int c), some (.int wy), some (.int sp), some (.str so0), some (.str n), u12, u13, none] ∧ In1 K HC S H H' x dx sc d1 d2 d3 ls lt ss qs th ∧ H' l = some (.lst xs) ∧ okS n ∧ n.length ≤ 13 ∧ StOk H' p
        refine cut1 Gd ?_ (fun R1 f1 => ?_)
        · rintro σ1 H6 ⟨n1, rfl, J6, l6, on1, ln1, st6⟩
          refine cut1 Gd ?_ (fun R2 f2 => ?_)
          · rintro σ2 H7 ⟨n, rfl, J7, l7, on, ln, st7⟩
            refine ⟨_, rfl, rfl, _, rfl, ?_⟩
            refine ite2 (fun q => ?_) (fun q => ?_)
            · refine iteT ?_
              refine ⟨_, rfl, ?_⟩
              refine ⟨by show 3 ≤ sizeLine; decide, fun lq hlq => ?_⟩
              have SQ : Same H7 (upd H7 lq (.lst [.str "", .str "strange", .str n])) := Same.upd hlq
              have eq : (upd H7 lq (.lst [.str "", .str "strange", .str n])) lq = some (.lst [.str "", .str "strange", .str n]) := upd_same
              have nlq := st_free st7 hlq
              have stq := st7.same SQ
              have Jq := J7.same SQ
              have lQ := SQ _ _ l7
              generalize upd H7 lq (.lst [.str "", .str "strange", .str n]) = HQ at SQ eq stq Jq lQ
              refine ⟨_, rfl, p, _, rfl, stq, by decide, by decide, fun j H9 a9 b9 B9 st9 => ?_⟩
              have J9 := Jq.but B9 stq pz nls nlt
              have l9 := B9 _ _ nl lQ
              have e9 := B9 _ _ nlq eq
              rcases (by omega : j = 0 ∨ j = 1 ∨ j = 2) with rfl | rfl | rfl
              · refine rdList e9 (j := 0) (v := .str "") rfl rfl ?_
                exact fin _ _ ⟨n, "", u12, u13, rfl, J9, l9, on, ln, lits2_ok.1⟩
              · refine rdList e9 (j := 1) (v := .str "strange") rfl rfl ?_
                exact fin _ _ ⟨n, "strange", u12, u13, rfl, J9, l9, on, ln, lits2_ok.2.1⟩
              · refine rdList e9 (j := 2) (v := .str n) rfl rfl ?_
                exact fin _ _ ⟨n, n, u12, u13, rfl, J9, l9, on, ln, on⟩
            · refine ⟨_, rfl, rfl, _, rfl, ?_⟩
              refine ite2 (fun q => ?_) (fun q => ?_)
              · refine ⟨_, rfl, p, _, rfl, st7, by decide, by decide, fun jz H8 a8 b8 B8 st8 => ?_⟩
                have J8 := J7.but B8 st7 pz nls nlt
                have l8 := B8 _ _ nl l7
                refine ⟨rfl, _, rfl, ?_⟩
                refine ite2 (fun q => ?_) (fun q => ?_)
                · refine ⟨_, rfl, ?_⟩
                  refine ⟨by show 3 ≤ sizeLine; decide, fun lq hlq => ?_⟩
                  have SQ : Same H8 (upd H8 lq (.lst [.str "", .str "strange", .str n])) := Same.upd hlq
                  have eq : (upd H8 lq (.lst [.str "", .str "strange", .str n])) lq = some (.lst [.str "", .str "strange", .str n]) := upd_same
                  have nlq := st_free st8 hlq
                  have stq := st8.same SQ
                  have Jq := J8.same SQ
                  have lQ := SQ _ _ l8
                  generalize upd H8 lq (.lst [.str "", .str "strange", .str n]) = HQ at SQ eq stq Jq lQ
                  refine ⟨_, rfl, p, _, rfl, stq, by decide, by decide, fun j H9 a9 b9 B9 st9 => ?_⟩
                  have J9 := Jq.but B9 stq pz nls nlt
                  have l9 := B9 _ _ nl lQ
                  have e9 := B9 _ _ nlq eq
                  rcases (by omega : j = 0 ∨ j = 1 ∨ j = 2) with rfl | rfl | rfl
                  · refine rdList e9 (j := 0) (v := .str "") rfl rfl ?_
                    exact fin _ _ ⟨n, "", u12, u13, rfl, J9, l9, on, ln, lits2_ok.1⟩
                  · refine rdList e9 (j := 1) (v := .str "strange") rfl rfl ?_
                    exact fin _ _ ⟨n, "strange", u12, u13, rfl, J9, l9, on, ln, lits2_ok.2.1⟩
                  · refine rdList e9 (j := 2) (v := .str n) rfl rfl ?_
                    exact fin _ _ ⟨n, n, u12, u13, rfl, J9, l9, on, ln, on⟩
                · exact fin _ _ ⟨n, so0, u12, u13, rfl, J8, l8, on, ln, os4⟩
              · exact fin _ _ ⟨n, so0, u12, u13, rfl, J7, l7, on, ln, os4⟩
          · refine ⟨_, rfl, rfl, _, rfl, ?_⟩
            refine ite2 (fun q => ?_) (fun q => ?_)
            · refine ⟨by show 6 ≤ sizeLine; decide, fun lq hlq => ?_⟩
              have SQ : Same H6 (upd H6 lq (.lst [.str "", .str "A", .str "9a", .str "a b", .str "abcdefghijklm", .str "ab_"])) := Same.upd hlq
              have eq : (upd H6 lq (.lst [.str "", .str "A", .str "9a", .str "a b", .str "abcdefghijklm", .str "ab_"])) lq = some (.lst ((["", "A", "9a", "a b", "abcdefghijklm", "ab_"] : List Str).map V.str)) := upd_same
              have nlq := st_free st6 hlq
              have stq := st6.same SQ
              have Jq := J6.same SQ
              have lQ := SQ _ _ l6
              generalize upd H6 lq (.lst [.str "", .str "A", .str "9a", .str "a b", .str "abcdefghijklm", .str "ab_"]) = HQ at SQ eq stq Jq lQ
              refine ⟨_, rfl, p, _, rfl, stq, by decide, by decide, fun j H8 a8 b8 B8 st8 => ?_⟩
              have j6 : j.toNat < (["", "A", "9a", "a b", "abcdefghijklm", "ab_"] : List Str).length := by show j.toNat < 6; omega
              have ok6 := lits_ok _ (List.getElem_mem j6)
              refine rdList (B8 _ _ nlq eq) (j := j.toNat) (by omega) (by rw [List.getElem?_map, List.getElem?_eq_getElem j6]; rfl) ?_
              dsimp only [gName, List.set_cons_succ, List.set_cons_zero]
              exact f2 _ _ ⟨_, rfl, Jq.but B8 stq pz nls nlt, B8 _ _ nl lQ, ok6.1, ok6.2, st8⟩
            · exact f2 _ _ ⟨n1, rfl, J6, l6, on1, ln1, st6⟩
        · refine ⟨_, rfl, rfl, _, rfl, ?_⟩
          refine ite2 (fun q => ?_) (fun q => ?_)
          · refine ⟨_, rfl, Nat.zero_le _, fun lq hlq => ?_⟩
            have SQ : Same H5 (upd H5 lq (.lst [])) := Same.upd hlq
            have eq : (upd H5 lq (.lst [])) lq = some (.lst []) := upd_same
            have stq := st5.same SQ
            have Jq := J5.same SQ
            have lQ := SQ _ _ l5
            generalize upd H5 lq (.lst []) = HQ at SQ eq stq Jq lQ
            refine ⟨_, _, .lst (SqL.of Jq.tl) Jq.ta.dp, .lst (SqL.of eq) .nil, shaped_ths Jq.ok, by decide +kernel, _, rfl, ?_⟩
            refine ite2 (fun hne => ?_) (fun _ => ?_)
            · have qlen : 0 < qs.length := by
                rw [Jq.ta.len]
                cases e : th with
                | nil =>
                  rw [e] at hne
                  simp [PyData.eqv, PyData.eqvAll] at hne
                | cons c r => simp
              have qlen2 : qs.length ≤ 60 := by rw [Jq.ta.len]; exact Jq.le
              refine ⟨_, rfl, _, rfl, _, rfl, lt, _, rfl, .inl (SqL.of Jq.tl), p, _, rfl, stq, by rw [List.length_map]; omega, by rw [List.length_map]; omega, fun j H8 a8 b8 B8 st8 => ?_⟩
              rw [List.length_map] at b8
              have J8 := Jq.but B8 stq pz nls nlt
              have jq : j.toNat < qs.length := by omega
              have eqj : (qs.map V.ref)[j.toNat]? = some (.ref (qs[j.toNat]'jq)) := by rw [List.getElem?_map, List.getElem?_eq_getElem jq]; rfl
              obtain ⟨qa, t, eqa, htj, sqa⟩ := J8.ta.get eqj
              refine rdList J8.tl (j := j.toNat) (by omega) eqj ?_
              cases eqa
              refine ⟨_, _, _, .str t.1, rfl, rfl, sqa, atI_nat (j := 0) rfl, ?_⟩
              dsimp only [gName, List.set_cons_succ, List.set_cons_zero]
              have mt : t.1 ∈ nmL th := List.mem_map.mpr ⟨t, List.mem_of_getElem? htj, rfl⟩
              have okt := isNm_ok (J8.nm _ mt)
              exact f1 _ _ ⟨t.1, rfl, J8, B8 _ _ nl lQ, okt.1, by have := okt.2; omega, st8⟩
            · exact f1 _ _ ⟨nm0, rfl, Jq, lQ, on0, ln0, stq⟩
          · refine iteF ?_
            exact f1 _ _ ⟨nm0, rfl, J5, l5, on0, ln0, st5⟩
    · rintro σ H16 ⟨⟨u1, u6, u7, u8, u9, u10, u11, u12, u13, rfl⟩, qs, th, J, _⟩
      exact ⟨_, rfl, _, rfl, x, dx, sc, d1, d2, d3, lt, "", ss, _, qs, th, rfl, J.hs, J.tl, J.ta, J.nd, J.ok, lits2_ok.1, Nat.le_trans J.le (by decide), fun H17 _ => kk H17⟩
end
end Wm
namespace Wm
open PySem L2 He ClX StX
theorem errB_ok {K : PySem.W.Frag} {mg : Str → Option Value} {x f : Str} {C fI : Addr} (h : errB K C fI f = true) (g : mg x = some (.ref C)) : ErrT K mg x f C fI ∧ XfC K C ∧ ExcC K C ∧ PySem.W.exmOne K (.ref C) (.ref C) = some true := by
  unfold errB at h
  obtain ⟨h1, h⟩ := ba h
  obtain ⟨h2, h⟩ := ba h
  obtain ⟨h3, h⟩ := ba h
  obtain ⟨h4, h⟩ := ba h
  obtain ⟨h5, h⟩ := ba h
  obtain ⟨h6, h⟩ := ba h
  obtain ⟨h7, h⟩ := ba h
  obtain ⟨h8, h⟩ := ba h
  obtain ⟨h9, h⟩ := ba h
  obtain ⟨h10, h⟩ := ba h
  obtain ⟨h11, h⟩ := ba h
  obtain ⟨h12, h⟩ := ba h
  obtain ⟨h13, h⟩ := ba h
  obtain ⟨h14, h⟩ := ba h
  obtain ⟨h15, h⟩ := ba h
  obtain ⟨h16, h17⟩ := ba h
  exact ⟨⟨⟨excB_ok h14, eqO_ok h1, of_decide_eq_true h2, of_decide_eq_true h3, h4⟩, g, eqO_ok h13, of_decide_eq_true h5, eqO_ok h6, eqO_ok h7⟩, ⟨eqO_ok h8, eqO_ok h9, of_decide_eq_true h2, h10⟩,
    ⟨eqO_ok h8, eqO_ok h9, of_decide_eq_true h2, h10, eqO_ok h11, eqO_ok h16, of_decide_eq_true h17, of_decide_eq_true h12⟩, of_decide_eq_true h15⟩
theorem kitB_ok {K : PySem.W.Frag} {Z C0 C1 C2 C3 C4 C5 C6 C7 C8 C9 C10 C11 W : Addr} {i : Nat} (h : kitB K Z C0 C1 C2 C3 C4 C5 C6 C7 C8 C9 C10 C11 W i = true) (xf : XfC K Z) (xc : ExcC K Z) : ErK K Z C0 C1 C2 C3 C4 C5 C6 C7 C8 C9 C10 C11 W i := by
  unfold kitB at h
  obtain ⟨h0, h⟩ := ba h
  obtain ⟨h1, h⟩ := ba h
  obtain ⟨h2, h⟩ := ba h
  obtain ⟨h3, h⟩ := ba h
  obtain ⟨h4, h⟩ := ba h
  obtain ⟨h5, h⟩ := ba h
  obtain ⟨h6, h⟩ := ba h
  obtain ⟨h7, h⟩ := ba h
  obtain ⟨h8, h⟩ := ba h
  obtain ⟨h9, h⟩ := ba h
  obtain ⟨h10, h⟩ := ba h
  obtain ⟨h11, h⟩ := ba h
  obtain ⟨h12, h⟩ := ba h
  exact ⟨of_decide_eq_true h0, xf, xc, of_decide_eq_true h1, of_decide_eq_true h2, of_decide_eq_true h3, of_decide_eq_true h4, of_decide_eq_true h5, of_decide_eq_true h6, of_decide_eq_true h7, of_decide_eq_true h8, of_decide_eq_true h9, of_decide_eq_true h10, of_decide_eq_true h11, of_decide_eq_true h12, of_decide_eq_true h⟩
theorem facts {P : Program} {w : World} {K : PySem.W.Frag} {h : Heap} {mg : Str → Option Value} {fa : Addr} (X : K.In h) (G : h.Ns mainGlobals mg) (hfa : mg "law" = some (.ref fa)) (c : SaysM ck fnL K) :
    ∃ fd : FuncData, (∀ (s : Shared) (v : Value), BindsTo s fd ⟨[v], []⟩ [("_law_script", v)]) ∧ ∀ base : Heap, K.In base → base.Ns mainGlobals mg → FnOk P w K mg base CX0 8 fa fd ["_law_script"] (spLaw K) := by
  have q := c.says
  unfold ck at q
  obtain ⟨qf, q⟩ := ba q
  obtain ⟨qw, q⟩ := ba q
  obtain ⟨qe0, q⟩ := ba q
  obtain ⟨qe1, q⟩ := ba q
  obtain ⟨qe2, q⟩ := ba q
  obtain ⟨qe3, q⟩ := ba q
  obtain ⟨qe4, q⟩ := ba q
  obtain ⟨k0, q⟩ := ba q
  obtain ⟨k1, q⟩ := ba q
  obtain ⟨k2, q⟩ := ba q
  have ft : ∀ (i : Nat) {f : Fa}, factL[i]? = some f → f.ok K = true := fun i {f} e => List.all_eq_true.mp qf f (List.mem_of_getElem? e)
  have g_WhoError := glo_ok X G (ft 0 (f := .glo "WhoError") rfl)
  have g_NoName := glo_ok X G (ft 1 (f := .glo "NoName") rfl)
  have g_Taken := glo_ok X G (ft 2 (f := .glo "Taken") rfl)
  have g_NoSort := glo_ok X G (ft 3 (f := .glo "NoSort") rfl)
  have g_NoThing := glo_ok X G (ft 4 (f := .glo "NoThing") rfl)
  have g_NoWord := glo_ok X G (ft 5 (f := .glo "NoWord") rfl)
  have g_Asleep := glo_ok X G (ft 6 (f := .glo "Asleep") rfl)
  have g_NoRule := glo_ok X G (ft 7 (f := .glo "NoRule") rfl)
  have g_Misfit := glo_ok X G (ft 8 (f := .glo "Misfit") rfl)
  have g_Full := glo_ok X G (ft 9 (f := .glo "Full") rfl)
  have g_NotHeld := glo_ok X G (ft 10 (f := .glo "NotHeld") rfl)
  have g_NoMaking := glo_ok X G (ft 11 (f := .glo "NoMaking") rfl)
  have g_NoDeed := glo_ok X G (ft 12 (f := .glo "NoDeed") rfl)
  have g_is_name := glo_ok X G (ft 13 (f := .glo "is_name") rfl)
  obtain ⟨fd_is_name, Fk_is_name⟩ := c.def_ 0 (d := d_is_name) rfl
  have Fk_is_name : FunD K "is_name" "is_name" (defArgs sName) (defBody sName) (defScope sName) [] [] (ga K "is_name") fd_is_name := Fk_is_name
  have F_is_name : Fun K "is_name" "is_name" sName (ga K "is_name") fd_is_name := fun_of Fk_is_name
  have D_is_name : Dn K mg "is_name" sName ["text"] (ga K "is_name") fd_is_name := ⟨F_is_name, g_is_name, F_is_name.binds (ps := ["text"]) fun _ _ _ _ _ _ us hl => match us, hl with | [_], _ => rfl⟩
  have g_refuse_no_name := glo_ok X G (ft 14 (f := .glo "refuse_no_name") rfl)
  obtain ⟨fd_refuse_no_name, Fk_refuse_no_name⟩ := c.def_ 1 (d := d_refuse_no_name) rfl
  have Fk_refuse_no_name : FunD K "refuse_no_name" "refuse_no_name" (defArgs sRN) (defBody sRN) (defScope sRN) [] [] (ga K "refuse_no_name") fd_refuse_no_name := Fk_refuse_no_name
  have F_refuse_no_name : Fun K "refuse_no_name" "refuse_no_name" sRN (ga K "refuse_no_name") fd_refuse_no_name := fun_of Fk_refuse_no_name
  have D_refuse_no_name : Dn K mg "refuse_no_name" sRN ["texts"] (ga K "refuse_no_name") fd_refuse_no_name := ⟨F_refuse_no_name, g_refuse_no_name, F_refuse_no_name.binds (ps := ["texts"]) fun _ _ _ _ _ _ us hl => match us, hl with | [_], _ => rfl⟩
  have g_first_twice := glo_ok X G (ft 15 (f := .glo "first_twice") rfl)
  obtain ⟨fd_first_twice, Fk_first_twice⟩ := c.def_ 2 (d := d_first_twice) rfl
  have Fk_first_twice : FunD K "first_twice" "first_twice" (defArgs sFT) (defBody sFT) (defScope sFT) [] [] (ga K "first_twice") fd_first_twice := Fk_first_twice
  have F_first_twice : Fun K "first_twice" "first_twice" sFT (ga K "first_twice") fd_first_twice := fun_of Fk_first_twice
  have D_first_twice : Dn K mg "first_twice" sFT ["row"] (ga K "first_twice") fd_first_twice := ⟨F_first_twice, g_first_twice, F_first_twice.binds (ps := ["row"]) fun _ _ _ _ _ _ us hl => match us, hl with | [_], _ => rfl⟩
  have g_refuse_twice := glo_ok X G (ft 16 (f := .glo "refuse_twice") rfl)
  obtain ⟨fd_refuse_twice, Fk_refuse_twice⟩ := c.def_ 3 (d := d_refuse_twice) rfl
  have Fk_refuse_twice : FunD K "refuse_twice" "refuse_twice" (defArgs sRT) (defBody sRT) (defScope sRT) [] [] (ga K "refuse_twice") fd_refuse_twice := Fk_refuse_twice
  have F_refuse_twice : Fun K "refuse_twice" "refuse_twice" sRT (ga K "refuse_twice") fd_refuse_twice := fun_of Fk_refuse_twice
  have D_refuse_twice : Dn K mg "refuse_twice" sRT ["names"] (ga K "refuse_twice") fd_refuse_twice := ⟨F_refuse_twice, g_refuse_twice, F_refuse_twice.binds (ps := ["names"]) fun _ _ _ _ _ _ us hl => match us, hl with | [_], _ => rfl⟩
  have g_refuse_count := glo_ok X G (ft 17 (f := .glo "refuse_count") rfl)
  obtain ⟨fd_refuse_count, Fk_refuse_count⟩ := c.def_ 4 (d := d_refuse_count) rfl
  have Fk_refuse_count : FunD K "refuse_count" "refuse_count" (defArgs sRC) (defBody sRC) (defScope sRC) [] [] (ga K "refuse_count") fd_refuse_count := Fk_refuse_count
  have F_refuse_count : Fun K "refuse_count" "refuse_count" sRC (ga K "refuse_count") fd_refuse_count := fun_of Fk_refuse_count
  have D_refuse_count : Dn K mg "refuse_count" sRC ["what", "count", "least", "most"] (ga K "refuse_count") fd_refuse_count := ⟨F_refuse_count, g_refuse_count, F_refuse_count.binds (ps := ["what", "count", "least", "most"]) fun _ _ _ _ _ _ us hl => match us, hl with | [_, _, _, _], _ => rfl⟩
  have g_own_list := glo_ok X G (ft 18 (f := .glo "own_list") rfl)
  obtain ⟨fd_own_list, Fk_own_list⟩ := c.def_ 5 (d := d_own_list) rfl
  have Fk_own_list : FunD K "own_list" "own_list" (defArgs sOL) (defBody sOL) (defScope sOL) [] [] (ga K "own_list") fd_own_list := Fk_own_list
  have F_own_list : Fun K "own_list" "own_list" sOL (ga K "own_list") fd_own_list := fun_of Fk_own_list
  have D_own_list : Dn K mg "own_list" sOL ["rows"] (ga K "own_list") fd_own_list := ⟨F_own_list, g_own_list, F_own_list.binds (ps := ["rows"]) fun _ _ _ _ _ _ us hl => match us, hl with | [_], _ => rfl⟩
  have g_refuse_makings_twice := glo_ok X G (ft 19 (f := .glo "refuse_makings_twice") rfl)
  obtain ⟨fd_refuse_makings_twice, Fk_refuse_makings_twice⟩ := c.def_ 6 (d := d_refuse_makings_twice) rfl
  have Fk_refuse_makings_twice : FunD K "refuse_makings_twice" "refuse_makings_twice" (defArgs sRMT) (defBody sRMT) (defScope sRMT) [] [] (ga K "refuse_makings_twice") fd_refuse_makings_twice := Fk_refuse_makings_twice
  have F_refuse_makings_twice : Fun K "refuse_makings_twice" "refuse_makings_twice" sRMT (ga K "refuse_makings_twice") fd_refuse_makings_twice := fun_of Fk_refuse_makings_twice
  have D_refuse_makings_twice : Dn K mg "refuse_makings_twice" sRMT ["makings"] (ga K "refuse_makings_twice") fd_refuse_makings_twice := ⟨F_refuse_makings_twice, g_refuse_makings_twice, F_refuse_makings_twice.binds (ps := ["makings"]) fun _ _ _ _ _ _ us hl => match us, hl with | [_], _ => rfl⟩
  have g_refuse_no_sort := glo_ok X G (ft 20 (f := .glo "refuse_no_sort") rfl)
  obtain ⟨fd_refuse_no_sort, Fk_refuse_no_sort⟩ := c.def_ 7 (d := d_refuse_no_sort) rfl
  have Fk_refuse_no_sort : FunD K "refuse_no_sort" "refuse_no_sort" (defArgs sRNS) (defBody sRNS) (defScope sRNS) [] [] (ga K "refuse_no_sort") fd_refuse_no_sort := Fk_refuse_no_sort
  have F_refuse_no_sort : Fun K "refuse_no_sort" "refuse_no_sort" sRNS (ga K "refuse_no_sort") fd_refuse_no_sort := fun_of Fk_refuse_no_sort
  have D_refuse_no_sort : Dn K mg "refuse_no_sort" sRNS ["sorts", "makings", "patterns"] (ga K "refuse_no_sort") fd_refuse_no_sort := ⟨F_refuse_no_sort, g_refuse_no_sort, F_refuse_no_sort.binds (ps := ["sorts", "makings", "patterns"]) fun _ _ _ _ _ _ us hl => match us, hl with | [_, _, _], _ => rfl⟩
  have g_refuse_upward := glo_ok X G (ft 21 (f := .glo "refuse_upward") rfl)
  obtain ⟨fd_refuse_upward, Fk_refuse_upward⟩ := c.def_ 8 (d := d_refuse_upward) rfl
  have Fk_refuse_upward : FunD K "refuse_upward" "refuse_upward" (defArgs sRU) (defBody sRU) (defScope sRU) [] [] (ga K "refuse_upward") fd_refuse_upward := Fk_refuse_upward
  have F_refuse_upward : Fun K "refuse_upward" "refuse_upward" sRU (ga K "refuse_upward") fd_refuse_upward := fun_of Fk_refuse_upward
  have D_refuse_upward : Dn K mg "refuse_upward" sRU ["sorts", "makings"] (ga K "refuse_upward") fd_refuse_upward := ⟨F_refuse_upward, g_refuse_upward, F_refuse_upward.binds (ps := ["sorts", "makings"]) fun _ _ _ _ _ _ us hl => match us, hl with | [_, _], _ => rfl⟩
  have g_refuse_no_word := glo_ok X G (ft 22 (f := .glo "refuse_no_word") rfl)
  obtain ⟨fd_refuse_no_word, Fk_refuse_no_word⟩ := c.def_ 9 (d := d_refuse_no_word) rfl
  have Fk_refuse_no_word : FunD K "refuse_no_word" "refuse_no_word" (defArgs sRNW) (defBody sRNW) (defScope sRNW) [] [] (ga K "refuse_no_word") fd_refuse_no_word := Fk_refuse_no_word
  have F_refuse_no_word : Fun K "refuse_no_word" "refuse_no_word" sRNW (ga K "refuse_no_word") fd_refuse_no_word := fun_of Fk_refuse_no_word
  have D_refuse_no_word : Dn K mg "refuse_no_word" sRNW ["words", "makings", "rules", "bars"] (ga K "refuse_no_word") fd_refuse_no_word := ⟨F_refuse_no_word, g_refuse_no_word, F_refuse_no_word.binds (ps := ["words", "makings", "rules", "bars"]) fun _ _ _ _ _ _ us hl => match us, hl with | [_, _, _, _], _ => rfl⟩
  have g_check_scheme := glo_ok X G (ft 23 (f := .glo "check_scheme") rfl)
  obtain ⟨fd_check_scheme, Fk_check_scheme⟩ := c.def_ 10 (d := d_check_scheme) rfl
  have Fk_check_scheme : FunD K "check_scheme" "check_scheme" (defArgs sCS) (defBody sCS) (defScope sCS) [] [] (ga K "check_scheme") fd_check_scheme := Fk_check_scheme
  have F_check_scheme : Fun K "check_scheme" "check_scheme" sCS (ga K "check_scheme") fd_check_scheme := fun_of Fk_check_scheme
  have D_check_scheme : Dn K mg "check_scheme" sCS ["sorts", "words", "makings", "rules", "bars"] (ga K "check_scheme") fd_check_scheme := ⟨F_check_scheme, g_check_scheme, F_check_scheme.binds (ps := ["sorts", "words", "makings", "rules", "bars"]) fun _ _ _ _ _ _ us hl => match us, hl with | [_, _, _, _, _], _ => rfl⟩
  have g__law_cell_at := glo_ok X G (ft 24 (f := .glo "_law_cell_at") rfl)
  obtain ⟨fd__law_cell_at, Fk__law_cell_at⟩ := c.def_ 11 (d := d__law_cell_at) rfl
  have Fk__law_cell_at : FunD K "_law_cell_at" "_law_cell_at" (defArgs sCel) (defBody sCel) (defScope sCel) [] [] (ga K "_law_cell_at") fd__law_cell_at := Fk__law_cell_at
  have F__law_cell_at : Fun K "_law_cell_at" "_law_cell_at" sCel (ga K "_law_cell_at") fd__law_cell_at := fun_of Fk__law_cell_at
  have D__law_cell_at : Dn K mg "_law_cell_at" sCel ["_law_script", "_law_k"] (ga K "_law_cell_at") fd__law_cell_at := ⟨F__law_cell_at, g__law_cell_at, F__law_cell_at.binds (ps := ["_law_script", "_law_k"]) fun _ _ _ _ _ _ us hl => match us, hl with | [_, _], _ => rfl⟩
  have g__law_state := glo_ok X G (ft 25 (f := .glo "_law_state") rfl)
  obtain ⟨fd__law_state, Fk__law_state⟩ := c.def_ 12 (d := d__law_state) rfl
  have Fk__law_state : FunD K "_law_state" "_law_state" (defArgs sState) (defBody sState) (defScope sState) [] [] (ga K "_law_state") fd__law_state := Fk__law_state
  have F__law_state : Fun K "_law_state" "_law_state" sState (ga K "_law_state") fd__law_state := fun_of Fk__law_state
  have D__law_state : Dn K mg "_law_state" sState ["_law_cell"] (ga K "_law_state") fd__law_state := ⟨F__law_state, g__law_state, F__law_state.binds (ps := ["_law_cell"]) fun _ _ _ _ _ _ us hl => match us, hl with | [_], _ => rfl⟩
  have g__law_digit := glo_ok X G (ft 26 (f := .glo "_law_digit") rfl)
  obtain ⟨fd__law_digit, Fk__law_digit⟩ := c.def_ 13 (d := d__law_digit) rfl
  have Fk__law_digit : FunD K "_law_digit" "_law_digit" (defArgs sDigit) (defBody sDigit) (defScope sDigit) [] [] (ga K "_law_digit") fd__law_digit := Fk__law_digit
  have F__law_digit : Fun K "_law_digit" "_law_digit" sDigit (ga K "_law_digit") fd__law_digit := fun_of Fk__law_digit
  have D__law_digit : Dn K mg "_law_digit" sDigit ["_law_state_here", "_law_base"] (ga K "_law_digit") fd__law_digit := ⟨F__law_digit, g__law_digit, F__law_digit.binds (ps := ["_law_state_here", "_law_base"]) fun _ _ _ _ _ _ us hl => match us, hl with | [_, _], _ => rfl⟩
  have g__law_name := glo_ok X G (ft 27 (f := .glo "_law_name") rfl)
  obtain ⟨fd__law_name, Fk__law_name⟩ := c.def_ 14 (d := d__law_name) rfl
  have Fk__law_name : FunD K "_law_name" "_law_name" (defArgs sNam) (defBody sNam) (defScope sNam) [] [] (ga K "_law_name") fd__law_name := Fk__law_name
  have F__law_name : Fun K "_law_name" "_law_name" sNam (ga K "_law_name") fd__law_name := fun_of Fk__law_name
  have D__law_name : Dn K mg "_law_name" sNam ["_law_s", "_law_taken"] (ga K "_law_name") fd__law_name := ⟨F__law_name, g__law_name, F__law_name.binds (ps := ["_law_s", "_law_taken"]) fun _ _ _ _ _ _ us hl => match us, hl with | [_, _], _ => rfl⟩
  have g__law_names := glo_ok X G (ft 28 (f := .glo "_law_names") rfl)
  obtain ⟨fd__law_names, Fk__law_names⟩ := c.def_ 15 (d := d__law_names) rfl
  have Fk__law_names : FunD K "_law_names" "_law_names" (defArgs sNms) (defBody sNms) (defScope sNms) [] [] (ga K "_law_names") fd__law_names := Fk__law_names
  have F__law_names : Fun K "_law_names" "_law_names" sNms (ga K "_law_names") fd__law_names := fun_of Fk__law_names
  have D__law_names : Dn K mg "_law_names" sNms ["_law_s", "_law_many"] (ga K "_law_names") fd__law_names := ⟨F__law_names, g__law_names, F__law_names.binds (ps := ["_law_s", "_law_many"]) fun _ _ _ _ _ _ us hl => match us, hl with | [_, _], _ => rfl⟩
  have g__law_told := glo_ok X G (ft 29 (f := .glo "_law_told") rfl)
  obtain ⟨fd__law_told, Fk__law_told⟩ := c.def_ 16 (d := d__law_told) rfl
  have Fk__law_told : FunD K "_law_told" "_law_told" (defArgs sTld) (defBody sTld) (defScope sTld) [] [] (ga K "_law_told") fd__law_told := Fk__law_told
  have F__law_told : Fun K "_law_told" "_law_told" sTld (ga K "_law_told") fd__law_told := fun_of Fk__law_told
  have D__law_told : Dn K mg "_law_told" sTld ["_law_e"] (ga K "_law_told") fd__law_told := ⟨F__law_told, g__law_told, F__law_told.binds (ps := ["_law_e"]) fun _ _ _ _ _ _ us hl => match us, hl with | [_], _ => rfl⟩
  have g__law_is_name := glo_ok X G (ft 30 (f := .glo "_law_is_name") rfl)
  obtain ⟨fd__law_is_name, Fk__law_is_name⟩ := c.def_ 17 (d := d__law_is_name) rfl
  have Fk__law_is_name : FunD K "_law_is_name" "_law_is_name" (defArgs sLNm) (defBody sLNm) (defScope sLNm) [] [] (ga K "_law_is_name") fd__law_is_name := Fk__law_is_name
  have F__law_is_name : Fun K "_law_is_name" "_law_is_name" sLNm (ga K "_law_is_name") fd__law_is_name := fun_of Fk__law_is_name
  have D__law_is_name : Dn K mg "_law_is_name" sLNm ["_law_text"] (ga K "_law_is_name") fd__law_is_name := ⟨F__law_is_name, g__law_is_name, F__law_is_name.binds (ps := ["_law_text"]) fun _ _ _ _ _ _ us hl => match us, hl with | [_], _ => rfl⟩
  have g__law_due := glo_ok X G (ft 31 (f := .glo "_law_due") rfl)
  obtain ⟨fd__law_due, Fk__law_due⟩ := c.def_ 18 (d := d__law_due) rfl
  have Fk__law_due : FunD K "_law_due" "_law_due" (defArgs sDue) (defBody sDue) (defScope sDue) [] [] (ga K "_law_due") fd__law_due := Fk__law_due
  have F__law_due : Fun K "_law_due" "_law_due" sDue (ga K "_law_due") fd__law_due := fun_of Fk__law_due
  have D__law_due : Dn K mg "_law_due" sDue ["_law_sorts", "_law_things", "_law_name_here", "_law_sort"] (ga K "_law_due") fd__law_due := ⟨F__law_due, g__law_due, F__law_due.binds (ps := ["_law_sorts", "_law_things", "_law_name_here", "_law_sort"]) fun _ _ _ _ _ _ us hl => match us, hl with | [_, _, _, _], _ => rfl⟩
  have g__law_sort_told := glo_ok X G (ft 32 (f := .glo "_law_sort_told") rfl)
  obtain ⟨fd__law_sort_told, Fk__law_sort_told⟩ := c.def_ 19 (d := d__law_sort_told) rfl
  have Fk__law_sort_told : FunD K "_law_sort_told" "_law_sort_told" (defArgs sSTd) (defBody sSTd) (defScope sSTd) [] [] (ga K "_law_sort_told") fd__law_sort_told := Fk__law_sort_told
  have F__law_sort_told : Fun K "_law_sort_told" "_law_sort_told" sSTd (ga K "_law_sort_told") fd__law_sort_told := fun_of Fk__law_sort_told
  have D__law_sort_told : Dn K mg "_law_sort_told" sSTd ["_law_house", "_law_name_here"] (ga K "_law_sort_told") fd__law_sort_told := ⟨F__law_sort_told, g__law_sort_told, F__law_sort_told.binds (ps := ["_law_house", "_law_name_here"]) fun _ _ _ _ _ _ us hl => match us, hl with | [_, _], _ => rfl⟩
  have g__law_awake_told := glo_ok X G (ft 33 (f := .glo "_law_awake_told") rfl)
  obtain ⟨fd__law_awake_told, Fk__law_awake_told⟩ := c.def_ 20 (d := d__law_awake_told) rfl
  have Fk__law_awake_told : FunD K "_law_awake_told" "_law_awake_told" (defArgs sATd) (defBody sATd) (defScope sATd) [] [] (ga K "_law_awake_told") fd__law_awake_told := Fk__law_awake_told
  have F__law_awake_told : Fun K "_law_awake_told" "_law_awake_told" sATd (ga K "_law_awake_told") fd__law_awake_told := fun_of Fk__law_awake_told
  have D__law_awake_told : Dn K mg "_law_awake_told" sATd ["_law_house", "_law_name_here"] (ga K "_law_awake_told") fd__law_awake_told := ⟨F__law_awake_told, g__law_awake_told, F__law_awake_told.binds (ps := ["_law_house", "_law_name_here"]) fun _ _ _ _ _ _ us hl => match us, hl with | [_, _], _ => rfl⟩
  have g__law_asked := glo_ok X G (ft 34 (f := .glo "_law_asked") rfl)
  obtain ⟨fd__law_asked, Fk__law_asked⟩ := c.def_ 21 (d := d__law_asked) rfl
  have Fk__law_asked : FunD K "_law_asked" "_law_asked" (defArgs sAsk) (defBody sAsk) (defScope sAsk) [] [] (ga K "_law_asked") fd__law_asked := Fk__law_asked
  have F__law_asked : Fun K "_law_asked" "_law_asked" sAsk (ga K "_law_asked") fd__law_asked := fun_of Fk__law_asked
  have D__law_asked : Dn K mg "_law_asked" sAsk ["_law_house", "_law_things", "_law_name_here"] (ga K "_law_asked") fd__law_asked := ⟨F__law_asked, g__law_asked, F__law_asked.binds (ps := ["_law_house", "_law_things", "_law_name_here"]) fun _ _ _ _ _ _ us hl => match us, hl with | [_, _, _], _ => rfl⟩
  have g__law_come := glo_ok X G (ft 35 (f := .glo "_law_come") rfl)
  obtain ⟨fd__law_come, Fk__law_come⟩ := c.def_ 22 (d := d__law_come) rfl
  have Fk__law_come : FunD K "_law_come" "_law_come" (defArgs sCom) (defBody sCom) (defScope sCom) [] [] (ga K "_law_come") fd__law_come := Fk__law_come
  have F__law_come : Fun K "_law_come" "_law_come" sCom (ga K "_law_come") fd__law_come := fun_of Fk__law_come
  have D__law_come : Dn K mg "_law_come" sCom ["_law_house", "_law_name_here", "_law_sort", "_law_way"] (ga K "_law_come") fd__law_come := ⟨F__law_come, g__law_come, F__law_come.binds (ps := ["_law_house", "_law_name_here", "_law_sort", "_law_way"]) fun _ _ _ _ _ _ us hl => match us, hl with | [_, _, _, _], _ => rfl⟩
  have g_law := glo_ok X G (ft 36 (f := .glo "law") rfl)
  obtain ⟨fd_law, Fk_law⟩ := c.def_ 23 (d := d_law) rfl
  have Fk_law : FunD K "law" "law" (defArgs sLaw) (defBody sLaw) (defScope sLaw) [] [] (ga K "law") fd_law := Fk_law
  have F_law : Fun K "law" "law" sLaw (ga K "law") fd_law := fun_of Fk_law
  have FLb := FunD.bindsA (ps := ["_law_script"]) Fk_law fun _ _ _ _ _ _ us hl => match us, hl with | [_], _ => rfl
  have g_Scheme := glo_ok X G (ft 37 (f := .glo "Scheme") rfl)
  have cls_Scheme := cls_ok (ft 38 (f := .cls "Scheme") rfl)
  have na_Scheme_own_sorts := noat_ok (ft 39 (f := .noat "Scheme" "own_sorts") rfl)
  have na_Scheme_own_words := noat_ok (ft 40 (f := .noat "Scheme" "own_words") rfl)
  have na_Scheme_own_makings := noat_ok (ft 41 (f := .noat "Scheme" "own_makings") rfl)
  have na_Scheme_own_rules := noat_ok (ft 42 (f := .noat "Scheme" "own_rules") rfl)
  have na_Scheme_own_bars := noat_ok (ft 43 (f := .noat "Scheme" "own_bars") rfl)
  have mk_Scheme := mkr_ok (ft 44 (f := .mkr "Scheme") rfl)
  have g_House := glo_ok X G (ft 45 (f := .glo "House") rfl)
  have cls_House := cls_ok (ft 46 (f := .cls "House") rfl)
  have na_House_own_scheme := noat_ok (ft 47 (f := .noat "House" "own_scheme") rfl)
  have na_House_sort_by_name := noat_ok (ft 48 (f := .noat "House" "sort_by_name") rfl)
  have na_House_awake_by_name := noat_ok (ft 49 (f := .noat "House" "awake_by_name") rfl)
  have na_House_standing := noat_ok (ft 50 (f := .noat "House" "standing") rfl)
  have mk_House := mkr_ok (ft 51 (f := .mkr "House") rfl)
  obtain ⟨fd_NoThing___init__, Fk_NoThing___init__⟩ := c.def_ 24 (d := d_NoThing___init__) rfl
  have Fk_NoThing___init__ : FunD K "__init__" "NoThing.__init__" (defArgs sNT) (defBody sNT) (defScope sNT) [] [] (ma K (ga K "NoThing") "__init__") fd_NoThing___init__ := Fk_NoThing___init__
  have F_NoThing___init__ : Fun K "__init__" "NoThing.__init__" sNT (ma K (ga K "NoThing") "__init__") fd_NoThing___init__ := fun_of Fk_NoThing___init__
  have b_NoThing___init__ := F_NoThing___init__.binds (ps := ["self", "name"]) fun _ _ _ _ _ _ us hl => match us, hl with | [_, _], _ => rfl
  obtain ⟨fd_NoName___init__, Fk_NoName___init__⟩ := c.def_ 25 (d := d_NoName___init__) rfl
  have Fk_NoName___init__ : FunD K "__init__" "NoName.__init__" (defArgs sNN) (defBody sNN) (defScope sNN) [] [] (ma K (ga K "NoName") "__init__") fd_NoName___init__ := Fk_NoName___init__
  have F_NoName___init__ : Fun K "__init__" "NoName.__init__" sNN (ma K (ga K "NoName") "__init__") fd_NoName___init__ := fun_of Fk_NoName___init__
  have b_NoName___init__ := F_NoName___init__.binds (ps := ["self", "name"]) fun _ _ _ _ _ _ us hl => match us, hl with | [_, _], _ => rfl
  obtain ⟨fd_Taken___init__, Fk_Taken___init__⟩ := c.def_ 26 (d := d_Taken___init__) rfl
  have Fk_Taken___init__ : FunD K "__init__" "Taken.__init__" (defArgs sTk) (defBody sTk) (defScope sTk) [] [] (ma K (ga K "Taken") "__init__") fd_Taken___init__ := Fk_Taken___init__
  have F_Taken___init__ : Fun K "__init__" "Taken.__init__" sTk (ma K (ga K "Taken") "__init__") fd_Taken___init__ := fun_of Fk_Taken___init__
  have b_Taken___init__ := F_Taken___init__.binds (ps := ["self", "name"]) fun _ _ _ _ _ _ us hl => match us, hl with | [_, _], _ => rfl
  obtain ⟨fd_NoSort___init__, Fk_NoSort___init__⟩ := c.def_ 27 (d := d_NoSort___init__) rfl
  have Fk_NoSort___init__ : FunD K "__init__" "NoSort.__init__" (defArgs sNS) (defBody sNS) (defScope sNS) [] [] (ma K (ga K "NoSort") "__init__") fd_NoSort___init__ := Fk_NoSort___init__
  have F_NoSort___init__ : Fun K "__init__" "NoSort.__init__" sNS (ma K (ga K "NoSort") "__init__") fd_NoSort___init__ := fun_of Fk_NoSort___init__
  have b_NoSort___init__ := F_NoSort___init__.binds (ps := ["self", "name"]) fun _ _ _ _ _ _ us hl => match us, hl with | [_, _], _ => rfl
  obtain ⟨fd_Full___init__, Fk_Full___init__⟩ := c.def_ 28 (d := d_Full___init__) rfl
  have Fk_Full___init__ : FunD K "__init__" "Full.__init__" (defArgs sFu) (defBody sFu) (defScope sFu) [] [] (ma K (ga K "Full") "__init__") fd_Full___init__ := Fk_Full___init__
  have F_Full___init__ : Fun K "__init__" "Full.__init__" sFu (ma K (ga K "Full") "__init__") fd_Full___init__ := fun_of Fk_Full___init__
  have b_Full___init__ := F_Full___init__.binds (ps := ["self"]) fun _ _ _ _ _ _ us hl => match us, hl with | [_], _ => rfl
  have m_Scheme_sorts := meth_ok (ft 52 (f := .meth "Scheme" "sorts") rfl)
  obtain ⟨fd_Scheme_sorts, Fk_Scheme_sorts⟩ := c.def_ 29 (d := d_Scheme_sorts) rfl
  have Fk_Scheme_sorts : FunD K "sorts" "Scheme.sorts" (defArgs sSor) (defBody sSor) (defScope sSor) [] [] (ma K (ga K "Scheme") "sorts") fd_Scheme_sorts := Fk_Scheme_sorts
  have F_Scheme_sorts : Fun K "sorts" "Scheme.sorts" sSor (ma K (ga K "Scheme") "sorts") fd_Scheme_sorts := fun_of Fk_Scheme_sorts
  have b_Scheme_sorts := F_Scheme_sorts.binds (ps := ["self"]) fun _ _ _ _ _ _ us hl => match us, hl with | [_], _ => rfl
  obtain ⟨fd_House___init__, Fk_House___init__⟩ := c.def_ 30 (d := d_House___init__) rfl
  have Fk_House___init__ : FunD K "__init__" "House.__init__" (defArgs sHin) (defBody sHin) (defScope sHin) [] [] (ma K (ga K "House") "__init__") fd_House___init__ := Fk_House___init__
  have F_House___init__ : Fun K "__init__" "House.__init__" sHin (ma K (ga K "House") "__init__") fd_House___init__ := fun_of Fk_House___init__
  have b_House___init__ := F_House___init__.binds (ps := ["self", "scheme"]) fun _ _ _ _ _ _ us hl => match us, hl with | [_, _], _ => rfl
  have m_House___len__ := meth_ok (ft 53 (f := .meth "House" "__len__") rfl)
  obtain ⟨fd_House___len__, Fk_House___len__⟩ := c.def_ 31 (d := d_House___len__) rfl
  have Fk_House___len__ : FunD K "__len__" "House.__len__" (defArgs sHln) (defBody sHln) (defScope sHln) [] [] (ma K (ga K "House") "__len__") fd_House___len__ := Fk_House___len__
  have F_House___len__ : Fun K "__len__" "House.__len__" sHln (ma K (ga K "House") "__len__") fd_House___len__ := fun_of Fk_House___len__
  have b_House___len__ := F_House___len__.binds (ps := ["self"]) fun _ _ _ _ _ _ us hl => match us, hl with | [_], _ => rfl
  have m_House_things := meth_ok (ft 54 (f := .meth "House" "things") rfl)
  obtain ⟨fd_House_things, Fk_House_things⟩ := c.def_ 32 (d := d_House_things) rfl
  have Fk_House_things : FunD K "things" "House.things" (defArgs sHth) (defBody sHth) (defScope sHth) [] [] (ma K (ga K "House") "things") fd_House_things := Fk_House_things
  have F_House_things : Fun K "things" "House.things" sHth (ma K (ga K "House") "things") fd_House_things := fun_of Fk_House_things
  have b_House_things := F_House_things.binds (ps := ["self"]) fun _ _ _ _ _ _ us hl => match us, hl with | [_], _ => rfl
  have m_House_sort_of := meth_ok (ft 55 (f := .meth "House" "sort_of") rfl)
  obtain ⟨fd_House_sort_of, Fk_House_sort_of⟩ := c.def_ 33 (d := d_House_sort_of) rfl
  have Fk_House_sort_of : FunD K "sort_of" "House.sort_of" (defArgs sHso) (defBody sHso) (defScope sHso) [] [] (ma K (ga K "House") "sort_of") fd_House_sort_of := Fk_House_sort_of
  have F_House_sort_of : Fun K "sort_of" "House.sort_of" sHso (ma K (ga K "House") "sort_of") fd_House_sort_of := fun_of Fk_House_sort_of
  have b_House_sort_of := F_House_sort_of.binds (ps := ["self", "x"]) fun _ _ _ _ _ _ us hl => match us, hl with | [_, _], _ => rfl
  have m_House_is_awake := meth_ok (ft 56 (f := .meth "House" "is_awake") rfl)
  obtain ⟨fd_House_is_awake, Fk_House_is_awake⟩ := c.def_ 34 (d := d_House_is_awake) rfl
  have Fk_House_is_awake : FunD K "is_awake" "House.is_awake" (defArgs sHia) (defBody sHia) (defScope sHia) [] [] (ma K (ga K "House") "is_awake") fd_House_is_awake := Fk_House_is_awake
  have F_House_is_awake : Fun K "is_awake" "House.is_awake" sHia (ma K (ga K "House") "is_awake") fd_House_is_awake := fun_of Fk_House_is_awake
  have b_House_is_awake := F_House_is_awake.binds (ps := ["self", "x"]) fun _ _ _ _ _ _ us hl => match us, hl with | [_, _], _ => rfl
  have m_House_held := meth_ok (ft 57 (f := .meth "House" "held") rfl)
  obtain ⟨fd_House_held, Fk_House_held⟩ := c.def_ 35 (d := d_House_held) rfl
  have Fk_House_held : FunD K "held" "House.held" (defArgs sHhe) (defBody sHhe) (defScope sHhe) [] [] (ma K (ga K "House") "held") fd_House_held := Fk_House_held
  have F_House_held : Fun K "held" "House.held" sHhe (ma K (ga K "House") "held") fd_House_held := fun_of Fk_House_held
  have b_House_held := F_House_held.binds (ps := ["self"]) fun _ _ _ _ _ _ us hl => match us, hl with | [_], _ => rfl
  have m_House_refuse_no_thing := meth_ok (ft 58 (f := .meth "House" "refuse_no_thing") rfl)
  obtain ⟨fd_House_refuse_no_thing, Fk_House_refuse_no_thing⟩ := c.def_ 36 (d := d_House_refuse_no_thing) rfl
  have Fk_House_refuse_no_thing : FunD K "refuse_no_thing" "House.refuse_no_thing" (defArgs sHrt) (defBody sHrt) (defScope sHrt) [] [] (ma K (ga K "House") "refuse_no_thing") fd_House_refuse_no_thing := Fk_House_refuse_no_thing
  have F_House_refuse_no_thing : Fun K "refuse_no_thing" "House.refuse_no_thing" sHrt (ma K (ga K "House") "refuse_no_thing") fd_House_refuse_no_thing := fun_of Fk_House_refuse_no_thing
  have b_House_refuse_no_thing := F_House_refuse_no_thing.binds (ps := ["self", "name"]) fun _ _ _ _ _ _ us hl => match us, hl with | [_, _], _ => rfl
  have m_House_enter := meth_ok (ft 59 (f := .meth "House" "enter") rfl)
  have t_abs := free_ok X G (ft 60 (f := .free "abs") rfl)
  have t_int := free_ok X G (ft 61 (f := .free "int") rfl)
  have t_len := free_ok X G (ft 62 (f := .free "len") rfl)
  have t_range := free_ok X G (ft 63 (f := .free "range") rfl)
  have t_all := free_ok X G (ft 64 (f := .free "all") rfl)
  have t_tuple := free_ok X G (ft 65 (f := .free "tuple") rfl)
  have t_enumerate := free_ok X G (ft 66 (f := .free "enumerate") rfl)
  have t_isinstance := free_ok X G (ft 67 (f := .free "isinstance") rfl)
  have t_ValueError := free_ok X G (ft 68 (f := .free "ValueError") rfl)
  have t_list := free_ok X G (ft 69 (f := .free "list") rfl)
  have t_str := free_ok X G (ft 70 (f := .free "str") rfl)
  have t_sorted := free_ok X G (ft 71 (f := .free "sorted") rfl)
  have t_sum := free_ok X G (ft 72 (f := .free "sum") rfl)
  have e := hfa.symm.trans g_law
  cases e
  have T : TxB mg := ⟨t_abs, t_int, t_len, t_range, t_all, t_tuple, t_enumerate, t_isinstance, t_ValueError⟩
  have TN : TxN mg := ⟨str_ok X G (ft 73 rfl), str_ok X G (ft 74 rfl), int_ok X G (ft 75 rfl)⟩
  have TS : TxS mg := ⟨int_ok X G (ft 76 rfl), int_ok X G (ft 77 rfl), int_ok X G (ft 78 rfl), int_ok X G (ft 79 rfl)⟩
  have MT := int_ok X G (ft 80 rfl)
  obtain ⟨dW0, FW⟩ := c.def_ 37 (d := dWho) rfl
  have FW : FunD K "__init__" "WhoError.__init__" (defArgs sW0) (defBody sW0) (defScope sW0) [.str (PySem.Str.ofString "whoerror")] [] (ma K (ga K "WhoError") "__init__") dW0 := FW
  obtain ⟨ds, hds, bW⟩ := FW.binds1 (ps := ["self", "kind"]) 2 1 (by simp) (by rfl) (fun T kV doc pm an cdv ct us its hu hi => match us, hu, its, hi with | [_, _], _, [_], _ => ⟨_, rfl, rfl⟩)
  cases hds
  have ww := whoB_ok qw
  have TW : WhoT K mg (ga K "WhoError") (ma K (ga K "WhoError") "__init__") dW0 := ⟨g_WhoError, ww.1, ww.2, FW.kp, bW⟩
  have E0 := errB_ok (x := "NoName") qe0 g_NoName
  have E1 := errB_ok (x := "Taken") qe1 g_Taken
  have E2 := errB_ok (x := "NoSort") qe2 g_NoSort
  have E3 := errB_ok (x := "Full") qe3 g_Full
  have E4 := errB_ok (x := "NoThing") qe4 g_NoThing
  have TE : TxE K mg (ga K "NoName") (ga K "Taken") (ga K "NoSort") (ga K "NoThing") (ga K "NoWord") (ga K "Asleep") (ga K "NoRule") (ga K "Misfit") (ga K "Full") (ga K "NotHeld") (ga K "NoMaking") (ga K "NoDeed") (ga K "WhoError") := ⟨g_NoName, g_Taken, g_NoSort, g_NoThing, g_NoWord, g_Asleep, g_NoRule, g_Misfit, g_Full, g_NotHeld, g_NoMaking, g_NoDeed, g_WhoError, kitB_ok k0 E0.2.1 E0.2.2.1, kitB_ok k1 E1.2.1 E1.2.2.1, kitB_ok k2 E2.2.1 E2.2.2.1, kitB_ok q E3.2.1 E3.2.2.1, E0.1.nf, E1.1.nf, E2.1.nf⟩
  have TC : TxSch K mg (ga K "Scheme") (ma K (ga K "Scheme") "__init__") := ⟨cls_Scheme, na_Scheme_own_sorts, na_Scheme_own_words, na_Scheme_own_makings, na_Scheme_own_rules, na_Scheme_own_bars, g_Scheme, mk_Scheme⟩
  have TH : TxH K mg (ga K "House") (ma K (ga K "House") "__init__") := ⟨cls_House, na_House_own_scheme, na_House_sort_by_name, na_House_awake_by_name, na_House_standing, g_House, mk_House⟩
  obtain ⟨dSi, FSi⟩ := c.def_ 38 (d := dSch) rfl
  have FSi : FunD K "__init__" "Scheme.__init__" (defArgs sSch) (defBody sSch) (defScope sSch) [.non, .non, .non] [] (ma K (ga K "Scheme") "__init__") dSi := FSi
  obtain ⟨dss, hdss, bSi⟩ := FSi.binds1 (ps := ["self", "sorts", "words", "makings", "rules", "bars"]) 3 0 (by simp) (by rfl) (fun T kV doc pm an cdv ct us its hu hi => match us, hu, its, hi with | [_, _, _], _, [_, _, _], _ => ⟨_, rfl, rfl⟩)
  have edss : dss = [.none, .none, .none] := by
    cases hdss with
    | cons r1 t1 =>
      cases t1 with
      | cons r2 t2 =>
        cases t2 with
        | cons r3 t3 =>
          cases t3
          cases r1
          cases r2
          cases r3
          rfl
  rw [edss] at bSi
  obtain ⟨dEn, FEn⟩ := c.def_ 39 (d := dEnt) rfl
  have FEn : FunD K "enter" "House.enter" (defArgs sHen) (defBody sHen) (defScope sHen) [.bl true] [] (ma K (ga K "House") "enter") dEn := FEn
  obtain ⟨des, hdes, bEn⟩ := FEn.binds1 (ps := ["self", "name", "sort", "awake"]) 4 1 (by simp) (by rfl) (fun T kV doc pm an cdv ct us its hu hi => match us, hu, its, hi with | [_, _, _, _], _, [_], _ => ⟨_, rfl, rfl⟩)
  cases hdes
  obtain ⟨dfs, hdfs, bEnD⟩ := FEn.binds1 (ps := ["self", "name", "sort", "awake"]) 3 0 (by simp) (by rfl) (fun T kV doc pm an cdv ct us its hu hi => match us, hu, its, hi with | [_, _, _], _, [_], _ => ⟨_, rfl, rfl⟩)
  have edfs : dfs = [.bool true] := by
    cases hdfs with
    | cons r1 t1 =>
      cases t1
      cases r1
      rfl
  rw [edfs] at bEnD
  refine ⟨_, fun s v => FLb s [v] rfl, fun base _ _ => ?_⟩
  have GW : FnOk P w K mg base CX0 1 _ dW0 ["self", "kind"] (spWI K) := ok_who FW
  have GI0 : FnOk P w K mg base CX0 2 _ _ ["self", "name"] (spE1 (ga K "NoName") "name" "noname") := ok_noname F_NoName___init__ E0.1 TW GW
  have GI1 : FnOk P w K mg base CX0 2 _ _ ["self", "name"] (spE1 (ga K "Taken") "name" "taken") := ok_taken F_Taken___init__ E1.1 TW GW
  have GI2 : FnOk P w K mg base CX0 2 _ _ ["self", "name"] (spE1 (ga K "NoSort") "name" "nosort") := ok_nosort F_NoSort___init__ E2.1 TW GW
  have GI3 : FnOk P w K mg base CX0 2 _ _ ["self"] (spE0 (ga K "Full")) := ok_full F_Full___init__ E3.1 TW GW
  have GI4 : FnOk P w K mg base CX0 2 _ _ ["self", "name"] (spE1 (ga K "NoThing") "name" "nothing") := ok_noth F_NoThing___init__ E4.1 TW GW
  have GIs : FnOk P w K mg base CX0 1 _ _ ["text"] spName := ok_name F_is_name T TN
  have GRN : FnOk P w K mg base CX0 2 _ _ ["texts"] (spRNv K) := ok_rnv F_refuse_no_name D_is_name GIs
  have GRX : FnOk P w K mg base (L2N.CX P w) 4 _ _ ["texts"] (spRNx K (ga K "NoName")) := ok_rnX F_refuse_no_name D_is_name GIs E0.1 b_NoName___init__ GI0
  have GRT : FnOk P w K mg base CX0 2 _ _ ["names"] (spFT K) := ok_rt F_refuse_twice T D_first_twice
  have GMT : FnOk P w K mg base CX0 2 _ _ ["makings"] (spE1L K) := ok_rmt F_refuse_makings_twice T D_first_twice
  have GCS : FnOk P w K mg base CX0 3 _ _ ["sorts", "words", "makings", "rules", "bars"] (spCS K) := ok_cs F_check_scheme T TS D_refuse_count D_refuse_no_name D_refuse_twice D_refuse_makings_twice D_refuse_no_sort D_refuse_upward D_refuse_no_word GRN GRT GMT
  have GSc : FnOk P w K mg base CX0 4 _ dSi ["self", "sorts", "words", "makings", "rules", "bars"] (spSch K (ga K "Scheme")) := ok_sch FSi t_list TC D_own_list D_check_scheme GCS
  have GSo' : FnOk P w K mg base CX0 1 _ _ ["self"] (spSor (ga K "Scheme")) := ok_sor F_Scheme_sorts t_list TC
  have GHi : FnOk P w K mg base CX0 1 _ _ ["self", "scheme"] (spHin (ga K "House")) := ok_hin F_House___init__ TH
  have GRt : FnOk P w K mg base CX0 1 _ _ ["self", "name"] (spHrt (ga K "House") (ga K "Scheme")) := ok_hrt F_House_refuse_no_thing TH
  have GRtN : FnOk P w K mg base (L2N.CX P w) 4 _ _ ["self", "name"] (spHrtN (ga K "House") (ga K "Scheme") (ga K "NoThing")) := ok_hrtN F_House_refuse_no_thing TH E4.1 b_NoThing___init__ GI4
  have GSo : FnOk P w K mg base CX0 2 _ _ ["self", "x"] (spHso (ga K "House") (ga K "Scheme")) := ok_hso F_House_sort_of TH m_House_refuse_no_thing b_House_refuse_no_thing GRt
  have GIa : FnOk P w K mg base CX0 2 _ _ ["self", "x"] (spHia (ga K "House") (ga K "Scheme")) := ok_hia F_House_is_awake TH m_House_refuse_no_thing b_House_refuse_no_thing GRt
  have GSoN : FnOk P w K mg base (L2N.CX P w) 5 _ _ ["self", "x"] (spHrtN (ga K "House") (ga K "Scheme") (ga K "NoThing")) := ok_hsoN F_House_sort_of TH m_House_refuse_no_thing b_House_refuse_no_thing GRtN
  have GIaN : FnOk P w K mg base (L2N.CX P w) 5 _ _ ["self", "x"] (spHrtN (ga K "House") (ga K "Scheme") (ga K "NoThing")) := ok_hiaN F_House_is_awake TH m_House_refuse_no_thing b_House_refuse_no_thing GRtN
  have GTh : FnOk P w K mg base CX0 1 _ _ ["self"] (spHth (ga K "House") (ga K "Scheme")) := ok_hth F_House_things t_list TH
  have GLn : FnOk P w K mg base CX0 1 _ _ ["self"] (spHln (ga K "House") (ga K "Scheme")) := ok_hln F_House___len__ T TH
  have GHe : FnOk P w K mg base CX0 1 _ _ ["self"] (spHhe K (ga K "House") (ga K "Scheme")) := ok_hhe F_House_held t_sorted TH
  have GEn : FnOk P w K mg base CX0 3 _ dEn ["self", "name", "sort", "awake"] (spHen (ga K "House") (ga K "Scheme")) := ok_hen FEn T MT TH D_refuse_no_name GRN TC m_Scheme_sorts b_Scheme_sorts GSo'
  have GEnX : FnOk P w K mg base (L2N.CX P w) 5 _ dEn ["self", "name", "sort", "awake"] (spHenX (ga K "House") (ga K "Scheme") ⟨ga K "NoName", ga K "Taken", ga K "NoSort", ga K "Full"⟩) := ok_henX FEn T MT TH D_refuse_no_name GRX E1.1 b_Taken___init__ GI1 E2.1 b_NoSort___init__ GI2 E3.1 b_Full___init__ GI3 TC m_Scheme_sorts b_Scheme_sorts GSo'
  have GNm : FnOk P w K mg base CX0 2 _ _ ["_law_s", "_law_taken"] spNam := ok_nam F__law_name T t_str D__law_digit
  have GN : FnOk P w K mg base CX0 3 _ _ ["_law_s", "_law_many"] spNms := ok_nms F__law_names T D__law_name GNm
  have GT : FnEN P w K mg base 1 _ _ ["_law_e"] (spTld ⟨ga K "NoName", ga K "Taken", ga K "NoSort", ga K "Full"⟩) := ok_tld F__law_told T t_sum TE
  have GD : FnOk P w K mg base CX0 2 _ _ ["_law_sorts", "_law_things", "_law_name_here", "_law_sort"] (spDue K) := ok_due F__law_due T D__law_is_name
  have GST : FnOk P w K mg base CX0 6 _ _ ["_law_house", "_law_name_here"] (spTdN (ga K "House") (ga K "Scheme")) := ok_std F__law_sort_told TH g_NoThing E4.2.2.2 E4.2.1 E4.1.nf m_House_sort_of b_House_sort_of GSoN
  have GAT : FnOk P w K mg base CX0 6 _ _ ["_law_house", "_law_name_here"] (spTdN (ga K "House") (ga K "Scheme")) := ok_atd F__law_awake_told TH g_NoThing E4.2.2.2 E4.2.1 E4.1.nf m_House_is_awake b_House_is_awake GIaN
  have GA : FnOk P w K mg base CX0 7 _ _ ["_law_house", "_law_things", "_law_name_here"] (spAsk K (ga K "House") (ga K "Scheme")) := ok_ask F__law_asked T TH m_House_things b_House_things GTh m_House_held b_House_held GHe m_House_sort_of b_House_sort_of GSo m_House_is_awake b_House_is_awake GIa m_House___len__.at_ m_House___len__.fn b_House___len__ GLn D__law_sort_told GST D__law_awake_told GAT
  have GCo : FnOk P w K mg base (L2N.CX P w) 6 _ _ ["_law_house", "_law_name_here", "_law_sort", "_law_way"] (spCom (ga K "House") (ga K "Scheme") ⟨ga K "NoName", ga K "Taken", ga K "NoSort", ga K "Full"⟩) := ok_com F__law_come TH m_House_enter bEn bEnD GEnX
  exact ok_law F_law T t_list t_str TE TH TC D__law_cell_at D__law_state D__law_digit D__law_names D__law_name D__law_asked D__law_due D__law_come D__law_told GN GNm GA GD GCo GT b_House___init__ GHi bSi GSc m_House_enter bEnD GEn
end Wm

open PySem PySem.W PySem.Calls PyProof.Rows
set_option maxRecDepth 100000 in
set_option maxHeartbeats 0 in
theorem PySem.Challenge.cw_whomay_k11_things_come_holds : PySem.Challenge.rw_whomay_k11_things_come.Holds := by
  w_on; o_law
  refine HandSHeadRun.head_any (r := OpenLaw.row PySem.Challenge.rw_whomay_k11_things_come) (q := view (OpenLaw.row PySem.Challenge.rw_whomay_k11_things_come).prog [56]) (H := Wm.hkW) (ob := Wm.obW) (M := 20000) (loose := Wm.loW) (d := HandSHeadRun.topDef (OpenLaw.row PySem.Challenge.rw_whomay_k11_things_come).prog 56) (kwd := []) Wm.obW_eq
    (by kernel_rfl) (fun s => by kernel_rfl) Wm.runW (by kernel_rfl) (by kernel_rfl) (by kernel_rfl) (by rfl) (by first | assumption | decide +kernel) (by decide +kernel) ⟨rfl, rfl, rfl, rfl, rfl, by decide +kernel⟩ ?hw ?hc
  case hw => w_witness2
  case hc =>
    refine L2.walk_ofE (l := PySem.Challenge.rw_whomay_k11_things_come) (n := 63) (k := 8) (x := "_law_script") (CX := L2.CX0) rfl (by decide) (by kernel_rfl) ⟨rfl, by decide, by decide⟩ ?F (fun _ _ _ _ z => z)
    intro w mg fa h Y G hmg0
    obtain ⟨K, KX, c⟩ := Y
    have hmg : mg ("law" : PySem.Str) = some (.ref fa) := by
      have e : (HandSHeadRun.topDef (OpenLaw.row PySem.Challenge.rw_whomay_k11_things_come).prog 56).name = ("law" : PySem.Str) := by kernel_rfl
      rw [← e]
      exact hmg0
    obtain ⟨fd, hb, hF⟩ := Wm.facts (P := (PySem.Challenge.rw_whomay_k11_things_come).prog) (w := w) KX G hmg c
    exact ⟨K, fd, Wm.spLaw K, KX, hb, fun H a ns hl _ hS => ⟨a, ns, rfl, hS, hl, fun _ => rfl⟩, hF⟩
