import PyProof.Rows.All
import Wide.All
import OpenK.AllK
import Wide.FinOn
import HandS.ForExc
import HandS.Words
import HandS.WordsExc
import HandS.Defaults
import HandS.ExcInit
import HandS.ExcIs
import HandS.ExcField
import HandS.Head0
import HandS.Head1
import HandS.Head2
import HandS.HeadEnd
import HandS.HeadHook1
import HandS.HeadHook2
import Lean
import HandS.HeadHook4
import HandS.HeadWalk
import HandS.EndTab
import KE.KStateDown
import PySem.Challenge.RW_eithershown_k00_errors_made
import HandS.CallLocal
import HandS.MakeKw
import KE.KExcPX
import KE.KExcIs
import HandS.IsInst
import HandS.Nested
import HandS.ForMost
import HandS.Wide
import HandS.ExcValue
import HandS.DictComp
import HandS.Deep
import HandS.Dict
import HandS.NoneIn
import HandS.Walk
set_option Elab.async false
set_option linter.all false
set_option maxRecDepth 100000
set_option maxHeartbeats 4000000
/-! Facts of own exception classes beneath one class beneath ValueError, as the top leaves them. -/
namespace K00
open PySem PySem.Spec PyProof.Rows L2
/-- the mro of such a class behind itself: S, then ValueError's -/
def bmS (S : Addr) : List Value := .ref S :: PySem.HandSPX.veTail
/-- the class object at C as ExcInit wants it, its mro bm behind itself -/
def shapeB (K : PySem.W.Frag) (C : Addr) (bm : List Value) : Bool := match K.lookup C with
  | some ⟨.type "type", _, .cls cd, sl⟩ => (match sl.toList with
    | [_, _, _, _, some (.builtin n), _] => n == "ValueError.__new__" && (!cd.hasDel && (cd.hasDict && cd.mro == .ref C :: bm))
    | _ => false)
  | _ => false
theorem shape_ok {K : PySem.W.Frag} {C : Addr} {bm : List Value} (q : shapeB K C bm = true) :
    ∃ nm qn N bs sn sub ab col dd k0 k1 k2 k3 k5, K.lookup C = some (excClassObj nm qn C N bs bm true sn sub ab col dd k0 k1 k2 k3 k5 "ValueError.__new__") := by
  unfold shapeB at q
  split at q
  · rename_i dd cd sl ho
    split at q
    · rename_i k0 k1 k2 k3 n k5 hs
      simp only [Bool.and_eq_true, beq_iff_eq, Bool.not_eq_true'] at q
      obtain ⟨rfl, hdel, hd, hm⟩ := q
      obtain ⟨nm, bs, mro, ns, qn, hdc, sn, sub, ab, col, del⟩ := cd
      dsimp only at hm hdel hd
      subst hm hdel hd
      have hsl : sl = #[k0, k1, k2, k3, some (.builtin "ValueError.__new__"), k5] := by
        obtain ⟨l⟩ := sl
        simp only at hs
        rw [hs]
      subst hsl
      exact ⟨nm, qn, ns, bs, sn, sub, ab, col, dd, k0, k1, k2, k3, k5, ho⟩
    · cases q
  · cases q
/-- what is asked of each such class: C, its mro, the names that it must not have -/
def clB (K : PySem.W.Frag) (bm : List Value) (C : Addr) (fs : List Str) : Bool :=
  shapeB K C bm && (He.eqO (PySem.W.findIn K (.ref C) "__setattr__") (some (some (.builtin "object.__setattr__"))) &&
  (He.eqO (PySem.W.findIn K (.ref C) "__getattribute__") (some (some (.builtin "BaseException.__getattribute__"))) &&
  (He.eqO (PySem.W.findIn K (.ref C) "__getattr__") (some none) &&
  (He.eqO (PySem.W.findIn K (.ref C) "__class__") (some (some (.builtin "object.__class__"))) &&
  (PySem.W.keepIn K (.ref C) && fs.all fun f => He.eqO (PySem.W.findIn K (.ref C) f) (some none))))))
structure ClF (K : PySem.W.Frag) (bm : List Value) (C : Addr) (fs : List Str) : Prop where
  cls : ∃ nm qn N bs sn sub ab col dd k0 k1 k2 k3 k5, K.lookup C = some (excClassObj nm qn C N bs bm true sn sub ab col dd k0 k1 k2 k3 k5 "ValueError.__new__")
  sa : PySem.W.findIn K (.ref C) "__setattr__" = some (some (.builtin "object.__setattr__"))
  ga : PySem.W.findIn K (.ref C) "__getattribute__" = some (some (.builtin "BaseException.__getattribute__"))
  gg : PySem.W.findIn K (.ref C) "__getattr__" = some none
  gc : PySem.W.findIn K (.ref C) "__class__" = some (some (.builtin "object.__class__"))
  kp : PySem.W.keepIn K (.ref C) = true
  no : ∀ f ∈ fs, PySem.W.findIn K (.ref C) f = some none
theorem cl_ok {K : PySem.W.Frag} {bm : List Value} {C : Addr} {fs : List Str} (h : clB K bm C fs = true) : ClF K bm C fs := by
  unfold clB at h
  obtain ⟨h1, h⟩ := Bool.and_eq_true_iff.mp h
  obtain ⟨h2, h⟩ := Bool.and_eq_true_iff.mp h
  obtain ⟨h3, h⟩ := Bool.and_eq_true_iff.mp h
  obtain ⟨h4, h⟩ := Bool.and_eq_true_iff.mp h
  obtain ⟨h5, h⟩ := Bool.and_eq_true_iff.mp h
  obtain ⟨h6, h7⟩ := Bool.and_eq_true_iff.mp h
  exact ⟨shape_ok h1, He.eqO_ok h2, He.eqO_ok h3, He.eqO_ok h4, He.eqO_ok h5, h6, fun f hf => He.eqO_ok (List.all_eq_true.mp h7 f hf)⟩
section
variable {K : PySem.W.Frag} {bm : List Value} {C : Addr} {fs : List Str}
theorem ClF.clsIn (T : ClF K bm C fs) : ∃ cd, PySem.W.clsIn K C = some cd ∧ cd.mro = .ref C :: bm ∧ cd.hasDict = true := by
  obtain ⟨nm, qn, N, bs, sn, sub, ab, col, dd, k0, k1, k2, k3, k5, hC⟩ := T.cls
  exact ⟨{ name := nm, bases := bs, mro := .ref C :: bm, ns := N, qualname := qn, hasDict := true, slotNames := sn, subclasses := sub, abstract := ab, collection := col, hasDel := false }, by unfold PySem.W.clsIn; rw [hC], rfl, rfl⟩
theorem ClF.mro (T : ClF K bm C fs) (b : Value) : PySem.W.mroIn K C b = some ((Value.ref C :: bm).contains b) := by
  obtain ⟨cd, h1, h2, h3⟩ := T.clsIn
  unfold PySem.W.mroIn
  rw [h1, Option.bind_some, h2]
  rfl
theorem ClF.ty (T : ClF K bm C fs) : PySem.W.typeIn K (.ref C) = some (.type "type") := by
  obtain ⟨nm, qn, N, bs, sn, sub, ab, col, dd, k0, k1, k2, k3, k5, hC⟩ := T.cls
  show (K.lookup C).map (·.cls) = some (.type "type")
  rw [hC]
  rfl
theorem ClF.dict (T : ClF K bm C fs) : PySem.W.hasDictIn K C = true := by
  obtain ⟨cd, h1, h2, h3⟩ := T.clsIn
  unfold PySem.W.hasDictIn
  rw [h1]
  exact h3
theorem ClF.sub (T : ClF K bm C fs) (b : Value) : PySem.W.subIn K (.ref C) b = some ((Value.ref C :: bm).contains b) := T.mro b
theorem ClF.oex (T : ClF K bm C fs) (hbm : PySem.HandSPX.refsVE bm = true) : OexC K C := by
  obtain ⟨nm, qn, N, bs, sn, sub, ab, col, dd, k0, k1, k2, k3, k5, hC⟩ := T.cls
  refine ⟨⟨nm, qn, N, bs, bm, sn, sub, ab, col, dd, k0, k1, k2, k3, k5, hC, hbm⟩, T.sa, ?_, T.ty, T.kp⟩
  rw [T.sub, List.contains_cons, PySem.HandSPX.refsVE_contains _ _ hbm]
  rfl
theorem get_cls : PySem.W.specialIn K (.builtin "object.__class__") "__get__" = some (some (.builtin "getset_descriptor.__get__")) := by
  kernel_rfl
theorem takes_cls : PySem.W.takesIn K (.builtin "object.__class__") = some true := by
  kernel_rfl
theorem ClF.exc (T : ClF K bm C fs) (hbm : PySem.HandSPX.refsVE bm = true) : ExcC K C := by
  refine ⟨T.ga, T.gg, ?_, T.dict, T.gc, get_cls, takes_cls, ?_⟩
  · rw [T.sub, List.contains_cons, PySem.HandSPX.refsVE_contains _ _ hbm]
    rfl
  · rw [T.mro, List.contains_cons, PySem.HandSPX.refsVE_contains _ _ hbm]
    rfl
theorem ClF.xf (T : ClF K bm C fs) (hbm : PySem.HandSPX.refsVE bm = true) : XfC K C := by
  refine ⟨T.ga, T.gg, ?_, T.dict⟩
  rw [T.sub, List.contains_cons, PySem.HandSPX.refsVE_contains _ _ hbm]
  rfl
/-- isinstance of an instance of C against a class -/
theorem ClF.kitC (T : ClF K bm C fs) {bm' : List Value} {D : Addr} {fs' : List Str} (T' : ClF K bm' D fs') : PySem.W.kitOne K (.ref C) (.ref D) = some ((Value.ref C :: bm).contains (.ref D)) := by
  unfold PySem.W.kitOne PySem.W.kitCls
  by_cases e : C = D
  · subst e
    rw [if_pos (by simp)]
    simp
  · have e1 : ¬ (Value.ref C == Value.ref D) = true := by
      intro z
      exact e (Value.ref.inj (beq_iff_eq.mp z))
    rw [if_neg e1]
    obtain ⟨cd, h1, _, _⟩ := T'.clsIn
    have e2 : ((PySem.W.clsIn K D).isSome && PySem.W.typeIn K (.ref D) == some (.type "type")) = true := by rw [h1, T'.ty] <;> rfl
    dsimp only
    rw [if_pos e2]
    exact T.sub _
theorem ClF.kitT (T : ClF K bm C fs) {t : String} (m : PySem.W.kitMeta t = true) : PySem.W.kitOne K (.ref C) (.type t) = some ((Value.ref C :: bm).contains (.type t)) := by
  unfold PySem.W.kitOne PySem.W.kitCls
  have e1 : ¬ (Value.ref C == Value.type t) = true := by
    intro z
    exact nomatch (beq_iff_eq.mp z)
  rw [if_neg e1]
  dsimp only
  rw [if_pos m]
  exact T.sub _
end
/-- walking names to what they stand for -/
def nv (g : Addr → Option Obj) (x : Str) : Addr := He.ga (He.frG g [mainGlobals]) x
def codeOf (g : Addr → Option Obj) (f : Addr) : List Addr := match g f with
  | some ⟨_, _, .func fd, _⟩ => He.refV fd.code
  | _ => []
def objsC (g : Addr → Option Obj) (x : Str) : List Addr := match g (nv g x) with
  | some ⟨_, _, .cls cd, _⟩ => nv g x :: cd.ns :: (match PySem.W.nsIn (He.frG g [cd.ns]) cd.ns "__init__" with
    | some (some (.ref f)) => f :: codeOf g f
    | _ => [])
  | _ => []
def objsF (g : Addr → Option Obj) (x : Str) : List Addr := nv g x :: codeOf g (nv g x)
end K00

set_option Elab.async false
set_option linter.all false
set_option maxRecDepth 100000
set_option maxHeartbeats 0
namespace K00
open PySem PySem.Spec PyProof.Rows L2
def top (i : Nat) : Stmt := PySem.Challenge.pw_eithershown_k00_errors_made.main.body.getD i (.Pass ⟨0, 0, 0, 0⟩)
def cnms0 : List (Str × List Str) := [("BadArities", ["index"]), ("BadArity", ["thing"]), ("BadAtom", ["thing"]), ("BadAtoms", ["index"]), ("BadAxioms", ["index"]), ("BadBound", ["thing"]), ("BadClause", ["thing"]), ("BadClauses", ["index"]), ("BadDeed", ["thing"]), ("BadDepth", ["thing"]), ("BadDerivation", ["thing"]), ("BadEquations", ["index"]), ("BadFunctions", ["index"]), ("BadGiving", ["variable"]), ("BadGoal", ["thing"]), ("BadLiteral", ["thing"]), ("BadMany", ["thing"]), ("BadName", ["thing"]), ("BadNames", ["thing"]), ("BadNumber", ["thing"]), ("BadOrder", ["thing"]), ("BadPairs", ["index"]), ("BadPaper", ["thing"]), ("BadPlace", ["thing"]), ("BadPredicates", ["index"]), ("BadProblem", ["thing"]), ("BadQuestion", ["thing"]), ("BadRefutation", ["thing"]), ("BadRows", ["index"]), ("BadRules", ["index"]), ("BadSentence", ["thing"])]
def cnms1 : List (Str × List Str) := [("BadSentences", ["index"]), ("BadSession", ["thing"]), ("BadSize", ["thing"]), ("BadSubstitution", ["thing"]), ("BadSymbols", ["index"]), ("BadTable", ["fault"]), ("BadTaken", ["index"]), ("BadText", ["line", "sign"]), ("BadTheory", ["thing"]), ("BadThing", ["thing"]), ("BadTruth", ["thing"]), ("BadTurn", ["thing"]), ("BadWord", ["thing"]), ("BadWords", ["index"]), ("BadWorld", ["thing"]), ("Crowded", ["many"]), ("HasAxiom", ["name"]), ("HasVariables", ["index"]), ("InUse", ["question"]), ("IsWatched", ["question"]), ("NoClash", []), ("NoCount", ["thing"]), ("NoWord", ["thing"]), ("NoWorld", ["world"]), ("NotComplete", ["meeting"]), ("NotFull", []), ("NotGround", ["thing"]), ("NotOrdered", ["name"]), ("NotWatched", ["question"]), ("WouldChange", ["question", "was", "becomes"])]
def cnms : List (Str × List Str) := cnms0 ++ cnms1
def dnms0 : List (Str) := ["_law_start", "_law_draw", "_law_mixed", "_law_made_a", "_law_made_b", "_law_made_c", "_law_made_d", "_law_kinds_a", "_law_kinds_b", "_law_kinds_c", "_law_kinds_d", "_law_kinds", "_law_is_own", "_law_are_these", "law"]
def dnms : List (Str) := dnms0
def dnL : List Str := (dnms : List Str).filter fun x => !decide (x = ("law" : Str))
def loose : List Str := ("__name__" : Str) :: "ShowError" :: (cnms.map (·.1) ++ dnL)
abbrev s_law_start : Stmt := top 64
abbrev s_law_draw : Stmt := top 65
abbrev s_law_mixed : Stmt := top 66
abbrev s_law_made_a : Stmt := top 67
abbrev s_law_made_b : Stmt := top 68
abbrev s_law_made_c : Stmt := top 69
abbrev s_law_made_d : Stmt := top 70
abbrev s_law_kinds_a : Stmt := top 71
abbrev s_law_kinds_b : Stmt := top 72
abbrev s_law_kinds_c : Stmt := top 73
abbrev s_law_kinds_d : Stmt := top 74
abbrev s_law_kinds : Stmt := top 75
abbrev s_law_is_own : Stmt := top 76
abbrev s_law_are_these : Stmt := top 77
abbrev slaw : Stmt := top 78
def d_law_start : He.DefD := ⟨("_law_start", none), "_law_start", "_law_start", defArgs s_law_start, defBody s_law_start, defScope s_law_start, [], []⟩
def d_law_draw : He.DefD := ⟨("_law_draw", none), "_law_draw", "_law_draw", defArgs s_law_draw, defBody s_law_draw, defScope s_law_draw, [], []⟩
def d_law_mixed : He.DefD := ⟨("_law_mixed", none), "_law_mixed", "_law_mixed", defArgs s_law_mixed, defBody s_law_mixed, defScope s_law_mixed, [], []⟩
def d_law_made_a : He.DefD := ⟨("_law_made_a", none), "_law_made_a", "_law_made_a", defArgs s_law_made_a, defBody s_law_made_a, defScope s_law_made_a, [], []⟩
def d_law_made_b : He.DefD := ⟨("_law_made_b", none), "_law_made_b", "_law_made_b", defArgs s_law_made_b, defBody s_law_made_b, defScope s_law_made_b, [], []⟩
def d_law_made_c : He.DefD := ⟨("_law_made_c", none), "_law_made_c", "_law_made_c", defArgs s_law_made_c, defBody s_law_made_c, defScope s_law_made_c, [], []⟩
def d_law_made_d : He.DefD := ⟨("_law_made_d", none), "_law_made_d", "_law_made_d", defArgs s_law_made_d, defBody s_law_made_d, defScope s_law_made_d, [], []⟩
def d_law_kinds_a : He.DefD := ⟨("_law_kinds_a", none), "_law_kinds_a", "_law_kinds_a", defArgs s_law_kinds_a, defBody s_law_kinds_a, defScope s_law_kinds_a, [], []⟩
def d_law_kinds_b : He.DefD := ⟨("_law_kinds_b", none), "_law_kinds_b", "_law_kinds_b", defArgs s_law_kinds_b, defBody s_law_kinds_b, defScope s_law_kinds_b, [], []⟩
def d_law_kinds_c : He.DefD := ⟨("_law_kinds_c", none), "_law_kinds_c", "_law_kinds_c", defArgs s_law_kinds_c, defBody s_law_kinds_c, defScope s_law_kinds_c, [], []⟩
def d_law_kinds_d : He.DefD := ⟨("_law_kinds_d", none), "_law_kinds_d", "_law_kinds_d", defArgs s_law_kinds_d, defBody s_law_kinds_d, defScope s_law_kinds_d, [], []⟩
def d_law_kinds : He.DefD := ⟨("_law_kinds", none), "_law_kinds", "_law_kinds", defArgs s_law_kinds, defBody s_law_kinds, defScope s_law_kinds, [], []⟩
def d_law_is_own : He.DefD := ⟨("_law_is_own", none), "_law_is_own", "_law_is_own", defArgs s_law_is_own, defBody s_law_is_own, defScope s_law_is_own, [], []⟩
def d_law_are_these : He.DefD := ⟨("_law_are_these", none), "_law_are_these", "_law_are_these", defArgs s_law_are_these, defBody s_law_are_these, defScope s_law_are_these, [], []⟩
def dlaw : He.DefD := ⟨("law", none), "law", "law", defArgs slaw, defBody slaw, defScope slaw, [], []⟩
def fnD0 : List (He.DefD) := [d_law_start, d_law_draw, d_law_mixed, d_law_made_a, d_law_made_b, d_law_made_c, d_law_made_d, d_law_kinds_a, d_law_kinds_b, d_law_kinds_c, d_law_kinds_d, d_law_kinds, d_law_is_own, d_law_are_these, dlaw]
def fnD : List (He.DefD) := fnD0
abbrev sI (i : Nat) : Stmt := inClass (top i) 0
def dI (x : Str) (i : Nat) : He.DefD := ⟨(x, some "__init__"), "__init__", x ++ ".__init__", defArgs (sI i), defBody (sI i), defScope (sI i), [], []⟩
def ini0 : List (Str × Nat) := [("BadArities", 2), ("BadArity", 3), ("BadAtom", 4), ("BadAtoms", 5), ("BadAxioms", 6), ("BadBound", 7), ("BadClause", 8), ("BadClauses", 9), ("BadDeed", 10), ("BadDepth", 11), ("BadDerivation", 12), ("BadEquations", 13), ("BadFunctions", 14), ("BadGiving", 15), ("BadGoal", 16), ("BadLiteral", 17), ("BadMany", 18), ("BadName", 19), ("BadNames", 20), ("BadNumber", 21), ("BadOrder", 22), ("BadPairs", 23), ("BadPaper", 24), ("BadPlace", 25), ("BadPredicates", 26), ("BadProblem", 27), ("BadQuestion", 28), ("BadRefutation", 29), ("BadRows", 30), ("BadRules", 31), ("BadSentence", 32)]
def ini1 : List (Str × Nat) := [("BadSentences", 33), ("BadSession", 34), ("BadSize", 35), ("BadSubstitution", 36), ("BadSymbols", 37), ("BadTable", 38), ("BadTaken", 39), ("BadText", 40), ("BadTheory", 41), ("BadThing", 42), ("BadTruth", 43), ("BadTurn", 44), ("BadWord", 45), ("BadWords", 46), ("BadWorld", 47), ("Crowded", 48), ("HasAxiom", 49), ("HasVariables", 50), ("InUse", 51), ("IsWatched", 52), ("NoCount", 54), ("NoWord", 55), ("NoWorld", 56), ("NotComplete", 57), ("NotGround", 59), ("NotOrdered", 60), ("NotWatched", 61), ("WouldChange", 62)]
def ini : List (Str × Nat) := ini0 ++ ini1
def fnI : List He.DefD := ini.map fun p => dI p.1 p.2
abbrev R : PySem.W.OpenRow := PySem.W.OpenLaw.row PySem.Challenge.rw_eithershown_k00_errors_made
/-- the objects that are looked at -/
def asC (g : Addr → Option Obj) : List Addr := mainGlobals :: sysModules :: objsC g "ShowError" ++ cnms.flatMap fun p => objsC g p.1
def asF (g : Addr → Option Obj) : List Addr := dnms.flatMap (objsF g)
def asK (g : Addr → Option Obj) : List Addr := asC g ++ asF g

/-- the module's names: classes, defs, built-ins -/
def faN : List He.Fa := (("ShowError" : Str) :: cnms.map (·.1)).map He.Fa.glo ++ dnms.map He.Fa.glo
def faB : List He.Fa := (["list", "int", "range", "len", "isinstance", "repr", "enumerate", "ValueError", "LookupError"] : List Str).map He.Fa.free
/-- the defs that make lambdas -/
def tf : List He.Defn := [("_law_made_a", none), ("_law_made_b", none), ("_law_made_c", none), ("_law_made_d", none)]
/-- a class's own facts -/
def exC (K : PySem.W.Frag) (p : Str × List Str) : Bool := clB K (bmS (He.ga K "ShowError")) (He.ga K p.1) p.2 && (match p.2 with
  | [] => PySem.W.excIn K (He.ga K p.1) He.veBase "ValueError.__new__"
  | _ => He.eqO (PySem.W.findIn K (.ref (He.ga K p.1)) "__init__") (some (some (.ref (He.ma K (He.ga K p.1) "__init__")))) && decide (PySem.W.typeIn K (.ref (He.ma K (He.ga K p.1) "__init__")) = some (.type "function")))
def exS (K : PySem.W.Frag) : Bool := clB K PySem.HandSPX.veTail (He.ga K "ShowError") [] && PySem.W.excIn K (He.ga K "ShowError") He.veBase "ValueError.__new__"
def ltAll (a : Nat) : List Nat → Bool
  | [] => true
  | b :: r => !(a == b) && ltAll a r
def nodupB : List Nat → Bool
  | [] => true
  | a :: r => ltAll a r && nodupB r
def exN (K : PySem.W.Frag) : Bool := nodupB (He.ga K "ShowError" :: cnms.map fun p => He.ga K p.1)
/-- the four tables are apart -/
def exP (K : PySem.W.Frag) : Bool := nodupB (tf.map fun p => (He.cT K p).2)
/-- the modules' dict stands in K -/
def exM (K : PySem.W.Frag) : Bool := match K.lookup sysModules with
  | some ⟨.type c, _, _, _⟩ => decide (c = "dict")
  | _ => false
def ex (K : PySem.W.Frag) : Bool := (exS K && exN K) && (cnms0.all (exC K) && cnms1.all (exC K))
def fK (g : Addr → Option Obj) : PySem.W.Frag := He.frT g (asK g)
noncomputable abbrev gT (s : PySem.W.SharedT) : Addr → Option Obj := HandSHeadRun.getT s
noncomputable abbrev eEnd (w : World) (os : OsState) : Option PySem.W.SharedT := HandSHeadRun.endF (HandSHeadRun.stepQ (HandSHeadRun.denQ HandSHeadRun.tabQ) R.prog w) 20000 R.prog w os
end K00

set_option Elab.async false
set_option linter.all false
set_option maxRecDepth 100000
set_option maxHeartbeats 0
namespace K00
open PySem PySem.Spec PyProof.Rows L2
theorem run_1 (w : World) (os : OsState) : ((eEnd w os).map fun s => (((faN.all fun f => f.ok (fK (gT s))) && faB.all fun f => f.ok (fK (gT s))) && ((exS (fK (gT s)) && exN (fK (gT s))) && ((exP (fK (gT s)) && exM (fK (gT s))) && He.tabsB (gT s) tf (fK (gT s)))))) = some true := by
  kernel_rfl
theorem run_2 (w : World) (os : OsState) : ((eEnd w os).map fun s => cnms0.all (exC (fK (gT s)))) = some true := by
  kernel_rfl
theorem run_3 (w : World) (os : OsState) : ((eEnd w os).map fun s => cnms1.all (exC (fK (gT s)))) = some true := by
  kernel_rfl
theorem run_4 (w : World) (os : OsState) : ((eEnd w os).map fun s => (fnD.all fun d => d.ok (fK (gT s)), fnD.map fun d => He.fnW (fK (gT s)) d.at_)) = some (true, fnD.map He.DefD.val) := by
  kernel_rfl
theorem run_50 (w : World) (os : OsState) : ((eEnd w os).map fun s => ((ini0.map fun p => dI p.1 p.2).all fun d => d.ok (fK (gT s)), (ini0.map fun p => dI p.1 p.2).map fun d => He.fnW (fK (gT s)) d.at_)) = some (true, (ini0.map fun p => dI p.1 p.2).map He.DefD.val) := by
  kernel_rfl
theorem run_51 (w : World) (os : OsState) : ((eEnd w os).map fun s => ((ini1.map fun p => dI p.1 p.2).all fun d => d.ok (fK (gT s)), (ini1.map fun p => dI p.1 p.2).map fun d => He.fnW (fK (gT s)) d.at_)) = some (true, (ini1.map fun p => dI p.1 p.2).map He.DefD.val) := by
  kernel_rfl
open HandSHeadRun PySem.W in
theorem run_6 (w : World) (os : OsState) : ((eEnd w os).map fun s => HandSHeadRun.looksF R.prog (boot_heap w.params) s.abs) = some true := by
  kernel_rfl
open HandSHeadRun PySem.W in
theorem run_7 (w : World) (os : OsState) : ((eEnd w os).map fun s => seenQ (view R.prog [78]) loose (importedModules R.prog.main.body) (fun s => xlAt (view R.prog [78]) [] s && recOk R.toRowW.records s) s.abs) = some (openGood (view R.prog [78]) loose) := by
  kernel_rfl
end K00

set_option Elab.async false
set_option linter.all false
set_option maxRecDepth 100000
set_option maxHeartbeats 4100000
/-! An own exception class called with keywords: the library's call, widened. -/
namespace PySem
namespace HandSPX
open Builtin
open Builtin.ObjectAttr
section
variable {MM : Model} {prog : Program} {w : World} {A : Around} {EE : Value → Shared → Prop} {RR : Result → Shared → Prop} {h : Heap} {g : Array GenState} {d : Drawn} {t : Nat} {os : OsState}
variable {nm q : Str} {C N : Addr} {bs bm bmB : List Value} {hdct : Bool} {sn : List Str} {sub : List Value} {ab : Bool} {col : Option Bool} {dd : Option Addr} {k0 k1 k2 k3 k5 : Option Value} {B newId initId : String} {kw : List (Str × Value)}
theorem check_new_ownK (FB : ExcBaseFacts B newId initId bmB) (eT : ∀ X : String, bm.contains (.type X) = bmB.contains (.type X)) {more : List Value} {QQ : Unit → Shared → Prop}
    (eC : h.get? C = some (excClassObj nm q C N bs bm hdct sn sub ab col dd k0 k1 k2 k3 k5 newId)) (eq0 : QQ () ⟨h, g, d, t, os⟩) : wpAny MM A (checkBuiltinCall newId ⟨.ref C :: more, kw⟩) QQ EE ⟨h, g, d, t, os⟩ := by
  have ek : (Value.ref C :: bm).contains (.type B) = true := by rw [List.contains_cons, eT, FB.hasB, Bool.or_true]
  have es0 := FB.noStar
  simp only [checkBuiltinCall, FB.newKind, FB.newSplit, FB.newRow]
  repeat (first | refine wpAny_loadPart_at eC ?_ | (refine wpAny_isSubtype_exc eC ?_; rw [ek]) | refine wpAny_staticBase_exc eC ?_ | refine wpAny_madeBy_exc eC ?_ | simp only [bne_self_eq_false, Bool.false_eq_true, if_false] | wp_step)
  exact eq0
theorem new_ownK (FB : ExcBaseFacts B newId initId bmB) (eT : ∀ X : String, bm.contains (.type X) = bmB.contains (.type X)) {more : List Value}
    (eC : h.get? C = some (excClassObj nm q C N bs bm hdct sn sub ab col dd k0 k1 k2 k3 k5 newId))
    (eq0 : RR (.ok (.ret (.ref (h.objs.size + 1)))) ⟨(h.push { cls := .type "tuple", data := .seq more.toArray }).push
      { cls := .ref C, data := .fields #[.ref h.objs.size, .none, .none, .none, .bool false, .none] }, g, d, t, os⟩) (er : more.length ≤ sizeLine) :
    codeAny (model prog w) A (.builtin newId ⟨.ref C :: more, kw⟩) RR ⟨h, g, d, t, os⟩ := by
  have ee := FB.ends
  have eB : (Value.ref C :: bm).contains (.type B) = true := by rw [List.contains_cons, eT, FB.hasB, Bool.or_true]
  have eA : (Value.ref C :: bm).contains (.type "AttributeError") = false := by rw [List.contains_cons, eT, FB.noAttr]; rfl
  have eN : (Value.ref C :: bm).contains (.type "NameError") = false := by rw [List.contains_cons, eT, FB.noName]; rfl
  refine codeAny_builtinAt FB.entry ?_
  unfold «BaseException.__new__»
  refine wpAt_bind ?_
  show wpAt _ _ _ (stack >>= _) _ _ _; refine wpAt_bind (wpAt_stack fun pp bw => wpAt_of_wpAny ?_)
  wp_walk
  refine wpAt_of_wpAny ?_
  rw [FB.owner]
  repeat (first | with_reducible refine wpAny_madeHere_exc FB.canon eC ?_ | with_reducible refine wpAny_loadPart_at eC ?_ | (with_reducible refine wpAny_isSubtype_exc eC ?_; first | rw [eB] | rw [eA] | rw [eN]) | wp_step)
  show RR _ _
  rw [Heap.size_push]
  exact eq0
theorem check_type_callK {more : List Value} {QQ : Unit → Shared → Prop} (eC : h.get? C = some (excClassObj nm q C N bs bm hdct sn sub ab col dd k0 k1 k2 k3 k5 newId))
    (eq0 : QQ () ⟨h, g, d, t, os⟩) : wpAny MM A (checkBuiltinCall "type.__call__" ⟨.ref C :: more, kw⟩) QQ EE ⟨h, g, d, t, os⟩ := by
  have g3 := tc_sub
  have eT : (⟨h, g, d, t, os⟩ : Shared).TypeIs (.ref C) "type" := ⟨_, eC, rfl⟩
  simp only [checkBuiltinCall, tc_split, tc_kind]
  repeat (any_goals (first | assumption | with_reducible refine wpAny_loadPart_at eC ?_ | with_reducible refine wpAny_onRaise ?_ | with_reducible refine wpAny_map ?_ | wp_step))
theorem type_call_ownK (FB : ExcBaseFacts B newId initId bmB) (eT : ∀ X : String, bm.contains (.type X) = bmB.contains (.type X)) {more : List Value} {fI : Addr} {QQ : Fin → Shared → Prop}
    (eC : h.get? C = some (excClassObj nm q C N bs bm hdct sn sub ab col dd k0 k1 k2 k3 k5 newId))
    (ei : W.Looks (model prog w) h (typeLookup (.ref C) "__init__") (some (.ref fI))) (eb : ∀ self, W.Looks (model prog w) h (bindSpecial (.ref fI) self) (.ref fI, [self])) (er : more.length ≤ sizeLine)
    (eq0 : codeAny (model prog w) A (.call (.ref fI) ⟨.ref (h.objs.size + 1) :: more, kw⟩)
      (fun r s' => match r with | .ok (.ret v) => v = .none ∧ QQ (.done (.ret (.ref (h.objs.size + 1)))) s' | .ok _ => False | .error e => EE e s')
      ⟨(h.push (W.kdv_tup more)).push (excO C h.objs.size), g, d, t, os⟩) :
    wpAny (model prog w) A (Builtin.«type.__call__» ⟨.ref C :: more, kw⟩) QQ EE ⟨h, g, d, t, os⟩ := by
  repeat (first | with_reducible refine wpAny_loadPart_at eC ?_ | with_reducible refine wpAny_madeBy_exc eC ?_ | wp_step)
  refine codeAny_call_builtin_code (Code.quiet_builtin _ FB.quiet) (check_new_ownK FB eT eC ?_)
  refine new_ownK FB eT eC ?_ er
  show wpAny _ _ _ _ _ _
  have kk : ∀ b o, h.get? b = some o → ((h.push (W.kdv_tup more)).push (excO C h.objs.size)).get? b = some o := fun b o e => Heap.get?_push_of_some _ (Heap.get?_push_of_some _ e)
  have eC1 := kk _ _ eC
  have eget : ((h.push (W.kdv_tup more)).push (excO C h.objs.size)).get? (h.objs.size + 1) = some (excO C h.objs.size) := by heap_get
  have ecC : (Value.ref C :: bm).contains (.ref C) = true := by simp
  have j1 := ei.keeps kk
  have j2 := (eb (.ref (h.objs.size + 1))).keeps kk
  unfold isInstance
  repeat (first | with_reducible refine wpAny_loadPart_at eget ?_ | (with_reducible refine wpAny_isSubtype_exc eC1 ?_; rw [ecC]) | wp_step)
  show wpAny _ _ (typeLookup (.ref C) _) _ _ _; refine j1.at ?_
  refine wpAny_holding (wpAny_bind (j2.at ?_))
  refine wpAny_bind (wpAny_call (codeAny_mono eq0 fun r s' z => ?_))
  rcases r with er0 | (v0 | _ | _ | _) <;> first | exact z | exact z.elim | skip
  obtain ⟨rfl, z⟩ := z
  first
    | refine wpAny_pure (wpAny_pure z)
    | (wp_walk; exact z)
theorem call_ownK (FB : ExcBaseFacts B newId initId bmB) (eT : ∀ X : String, bm.contains (.type X) = bmB.contains (.type X)) {more : List Value} {fI : Addr}
    (eC : h.get? C = some (excClassObj nm q C N bs bm hdct sn sub ab col dd k0 k1 k2 k3 k5 newId))
    (ei : W.Looks (model prog w) h (typeLookup (.ref C) "__init__") (some (.ref fI))) (eb : ∀ self, W.Looks (model prog w) h (bindSpecial (.ref fI) self) (.ref fI, [self])) (er : more.length ≤ sizeLine)
    (eq0 : codeAny (model prog w) (A.under (.builtin "type.__call__" ⟨.ref C :: more, kw⟩)) (.call (.ref fI) ⟨.ref (h.objs.size + 1) :: more, kw⟩) (W.InitBack (h.objs.size + 1) RR)
      ⟨(h.push (W.kdv_tup more)).push (excO C h.objs.size), g, d, t, os⟩) :
    codeAny (model prog w) A (.call (.ref C) ⟨more, kw⟩) RR ⟨h, g, d, t, os⟩ := by
  have g1 := tc_lookup
  have g2 := tc_bind (.ref C)
  have eTy : (⟨h, g, d, t, os⟩ : Shared).TypeIs (.ref C) "type" := ⟨_, eC, rfl⟩
  refine codeAny_of_tree ?_
  show wpAny _ _ (callAny (Value.ref C) _) _ _ _
  repeat (any_goals (first | assumption | with_reducible refine wpAny_loadPart_at eC ?_ | wp_step))
  refine ⟨rfl, ?_⟩
  refine codeAny_call_builtin_at (Code.quiet_builtin _ (by decide +kernel)) entry_typeCall (check_type_callK eC (type_call_ownK FB eT eC ei eb er ?_))
  refine codeAny_mono eq0 fun r s' z => ?_
  rcases r with er0 | (v0 | _ | _ | _) <;> exact z
end
end HandSPX
end PySem

set_option Elab.async false
set_option linter.all false
set_option maxRecDepth 100000
set_option maxHeartbeats 4000000
/-! Own exceptions held as values, never raised: made (by place, by name), their fields read, isinstance of them. -/
namespace K00
open PySem PySem.Spec PyProof.Rows L2
/-- at e an exception of the class at C, not raised, with the fields of fs (none without an own dict) -/
def ErrAt (H : Hp) (e C : Addr) (fs : List (Str × V)) : Prop := ∃ d, H e = some (exo e C d) ∧ match d with
  | none => fs = []
  | some dx => H dx = some (exd dx fs)
/-- nothing is lost -/
def Ext (H G : Hp) : Prop := ∀ b o, H b = some o → G b = some o
theorem Ext.refl (H : Hp) : Ext H H := fun _ _ e => e
theorem Ext.trans {H G J : Hp} (a : Ext H G) (b : Ext G J) : Ext H J := fun c o e => b c o (a c o e)
theorem Ext.new {H : Hp} {p : Addr} {o : HO} (n : H p = none) : Ext H (upd H p o) := fun b u e => by
  rw [upd_ne (ne_of_none e n)]
  exact e
theorem ErrAt.ext {H G : Hp} {e C : Addr} {fs : List (Str × V)} (x : ErrAt H e C fs) (k : Ext H G) : ErrAt G e C fs := by
  obtain ⟨d, h1, h2⟩ := x
  refine ⟨d, k _ _ h1, ?_⟩
  cases d with
  | none => exact h2
  | some dx => exact k _ _ h2
section
variable {X : Cx}
/-! ### making -/
theorem run_err {k : Nat} {fI C : Addr} {fd : FuncData} {ps : List Str} {sp : Sp} {us : List Value} {kw : List (Str × Value)} {pins : List (Addr × Obj)} {σ : L2.St} {H : Hp} {s : Shared} {Q : VK}
    (T : OexC X.K C) (iC : PySem.W.findIn X.K (.ref C) "__init__" = some (some (.ref fI))) (tI : PySem.W.typeIn X.K (.ref fI) = some (.type "function"))
    (F1 : FnOk X.prog X.w X.K X.mg X.base CX0 k fI fd ps sp) (hr : Room (k + 1) X.A) (I : Inv X pins σ H s) (hz : us.length ≤ sizeLine)
    (hb : ∀ (e : Addr) (s' : Shared), X.K.In s'.heap → H e = none → ∃ (us' : List Value) (vs' : List V), BindsTo s' fd ⟨.ref e :: us, kw⟩ (ps.zip us') ∧ Vals vs' us' ∧
      sp vs' (upd H e (exo e C none)) (fun v H2 => v = .non ∧ Q (.ref e) H2) E0) :
    wpAny (model X.prog X.w) X.A (call (.ref C) us kw) (EP X pins σ Q) X.xe s := by
  obtain ⟨nm, q, N, bs, bm, sn, sub, ab, col, dd, k0, k1, k2, k3, k5, hC, hbm⟩ := T.cls
  obtain ⟨hp, g, dr, tk, os⟩ := s
  have new : H (hp.objs.size + 1) = none := I.hok.fresh (Nat.le_succ _)
  have kk : ∀ b o, hp.get? b = some o → ((hp.push (PySem.W.kdv_tup us)).push (PySem.HandSPX.excO C hp.objs.size)).get? b = some o := fun b o e =>
    Heap.get?_push_of_some _ (Heap.get?_push_of_some _ e)
  have here : ((hp.push (PySem.W.kdv_tup us)).push (PySem.HandSPX.excO C hp.objs.size)).get? (hp.objs.size + 1) = some (PySem.HandSPX.excO C hp.objs.size) := by heap_get
  have J : Inv X pins σ (upd H (hp.objs.size + 1) (exo (hp.objs.size + 1) C none)) ⟨(hp.push (PySem.W.kdv_tup us)).push (PySem.HandSPX.excO C hp.objs.size), g, dr, tk, os⟩ :=
    Inv.laid (t' := tk) (a := hp.objs.size + 1) (o := exo (hp.objs.size + 1) C none) (h' := (hp.push (PySem.W.kdv_tup us)).push (PySem.HandSPX.excO C hp.objs.size)) I kk (Nat.le_succ _) (exo_ok here)
  obtain ⟨us', vs', b1, b2, b3⟩ := hb (hp.objs.size + 1) ⟨(hp.push (PySem.W.kdv_tup us)).push (PySem.HandSPX.excO C hp.objs.size), g, dr, tk, os⟩ J.kIn new
  refine wpAny_call (PySem.HandSPX.call_ownK F.excBase_ValueError (fun Y => PySem.HandSPX.refsVE_contains Y bm hbm) (I.kIn _ _ hC) (PySem.W.looks_findIn I.kIn iC)
    (fun self => PySem.W.bind_fn I.kIn self tI) hz (codeAny_mono (F1.run _ X.stack _ _ ⟨Value.ref (hp.objs.size + 1) :: us, kw⟩ us' vs' _ E0 (hr.make C us kw) (J.env0.make C us kw) b1 b2 b3) fun r s' hq' => ?_))
  cases r with
  | error e => exact (show False from hq').elim
  | ok fl =>
    cases fl with
    | ret u =>
      obtain ⟨v, H', J', rv, ev, z⟩ := J.after hq'
      subst ev
      exact ⟨rv, ⟨V.ref (hp.objs.size + 1), H', J', rfl, z⟩⟩
    | next => exact False.elim hq'
    | brk => exact False.elim hq'
    | cont => exact False.elim hq'
/-! ### a field read -/
def tErr (K : PySem.W.Frag) (n : Str) (te : TE) : TE := fun σ H Q => te σ H fun x H1 => ∃ (a C : Addr) (fs : List (Str × V)) (v : V), x = .ref a ∧ XfC K C ∧ PySem.W.findIn K (.ref C) n = some none ∧
  ErrAt H1 a C fs ∧ fs.lookup n = some v ∧ Q v H1
theorem pe_err {e : Expr} {te : TE} {pos : Pos} {n : Str} (he : PE X e te) (hb : attributeBase e n X.env (eval e X.env) = eval e X.env := by rfl) : PE X (.Attribute e n pos) (tErr X.K n te) := by
  refine ⟨fun pins s σ H Q I h => ?_⟩
  refine attr_of hb (thn (he.run pins s σ H _ I h) fun u s1 hh => ?_)
  obtain ⟨x, H1, I1, rx, a, C, fs, v, ex, T, hno, ea, l, q⟩ := hh
  subst ex
  obtain rfl : u = Value.ref a := rx
  obtain ⟨d, e1, e2⟩ := ea
  cases d with
  | none =>
    have z : fs = [] := e2
    rw [z] at l
    cases l
  | some dx =>
    obtain ⟨t1, ho⟩ := exo_at I1.hok e1
    obtain ⟨mA, hns, hr⟩ := exd_at I1.hok (show H1 dx = some (exd dx fs) from e2)
    obtain ⟨od, hd, hl⟩ := lookIn_ns hns
    obtain ⟨w, hu, ru⟩ := RelO.some_of (v := v) (o := mA n) (by rw [← l]; exact hr n)
    have J : PySem.W.InstAt s1.heap a { cls := .ref C, dict := some dx, data := .fields #[.ref t1, .none, .none, .none, .bool false, .none] } C (some od) := ⟨ho, rfl, rfl, hd⟩
    exact HandSPX.exc_get I1.kIn J T.ga T.gg T.exC (PySem.W.findObj_own T.hdC hno rfl (by rw [hl, hu])) (handed_of ru) ⟨v, H1, I1.tok _, ru, q⟩
/-! ### isinstance -/
def rIsO (K : PySem.W.Frag) : List V → Hp → VK → Prop := fun xs H Q => ∃ (a C : Addr) (fs : List (Str × V)) (c : V) (cv : Value) (b : Bool), xs = [.ref a, c] ∧ ErrAt H a C fs ∧ ExcC K C ∧ ClsV c cv ∧
  PySem.W.kitOne K (.ref C) cv = some b ∧ Q (.bl b) H
theorem call_isO : CallR X (.builtin "isinstance") (rIsO X.K) := by
  intro pins s σ H xs us Q I r h
  obtain ⟨a, C, fs, c, cv, b, rfl, ea, T, k, e, q⟩ := h
  obtain ⟨u1, u2, rfl, r1, r2⟩ := vals2 r
  have e2 := k.eq r2
  subst e2
  obtain rfl : u1 = Value.ref a := r1
  obtain ⟨d, e1, e2⟩ := ea
  obtain ⟨t1, ho⟩ := exo_at I.hok e1
  have hcl : (PySem.W.clsIn X.K C).isSome = true := by
    have z := T.hd
    unfold PySem.W.hasDictIn at z
    cases y : PySem.W.clsIn X.K C with
    | none =>
      rw [y] at z
      cases z
    | some cd => rfl
  have J : ∃ od, PySem.W.InstAt s.heap a { cls := .ref C, dict := d, data := .fields #[.ref t1, .none, .none, .none, .bool false, .none] } C od := by
    cases d with
    | none => exact ⟨none, ho, rfl, rfl, trivial⟩
    | some dx =>
      obtain ⟨mA, hns, hr⟩ := exd_at I.hok (show H dx = some (exd dx fs) from e2)
      obtain ⟨od, hd, hl⟩ := lookIn_ns hns
      exact ⟨some od, ho, rfl, rfl, hd⟩
  obtain ⟨od, J⟩ := J
  exact PySem.W.kia_one (PySem.W.kitx_exc (od := od) hcl T.hg T.hk T.hs T.ha T.hn T.ht T.hm) I.kIn J e (fun z => nomatch z) fun tk => ⟨.bl b, H, I.tok tk, rfl, q⟩
end
end K00

set_option Elab.async false
set_option linter.all false
set_option maxRecDepth 100000
set_option maxHeartbeats 4000000
/-! Lambdas that capture nothing, held as values and called with one value. -/
namespace K00
open PySem PySem.Spec PyProof.Rows
open L2 LamX
/-- a lambda's words -/
structure Lam where
  params : Arguments
  body : Expr
  scope : Scope
  q : Str
/-- at f the function that the lambda F makes, its code object at c -/
def LamO (f : Addr) (F : Lam) (c : Addr) : HO := .ext fun h => ∃ pm ctv : Value, h.get? f = some (PySem.W.kla_obj "<lambda>" F.q F.params F.body F.scope [] pm c ctv)
theorem lamO_at {P : Program} {w : World} {H : Hp} {h : Heap} {f c : Addr} {F : Lam} (ok : HOk P w H h) (e : H f = some (LamO f F c)) : ∃ pm ctv : Value, h.get? f = some (PySem.W.kla_obj "<lambda>" F.q F.params F.body F.scope [] pm c ctv) := by
  obtain ⟨z, _, _⟩ := ok f _ e
  exact z
theorem clo_nil {cells : List (Str × Addr)} : ∀ {names : List (Str × NameKind)} {acc : List (Str × Addr)}, (∀ y ∈ names, y.2 ≠ .free) → cloFrom cells names acc = acc := by
  intro names
  induction names with
  | nil =>
    intro acc _
    rfl
  | cons y r ih =>
    intro acc h
    have h1 := h y (List.mem_cons_self ..)
    obtain ⟨n, k⟩ := y
    cases k with
    | free => exact absurd rfl h1
    | _ =>
      first
        | exact ih fun z hz => h z (List.mem_cons_of_mem _ hz)
        | (unfold cloFrom
           exact ih fun z hz => h z (List.mem_cons_of_mem _ hz))
def tLamV (T : List (Addr × Str)) (F : Lam) : TE := fun _ H Q => Tabs T H ∧ ∀ (f c' : Addr) (H1 : Hp), ExtN H H1 → (∀ b, H1 b = none → H b = none) → Tabs T H1 → H f = none → H1 f = some (LamO f F c') → H1 c' = some (CodeO c' F.q) → Q (.ref f) H1
section
variable {X : Cx}
theorem lam_new {pins : List (Addr × Obj)} {σ : L2.St} {H : Hp} {s : Shared} {F : Lam} {c' : Addr} {pm ctv : Value} {t' : Nat} (I : Inv X pins σ H s) :
    Inv X pins σ (upd H s.heap.objs.size (LamO s.heap.objs.size F c')) { s with heap := s.heap.push (PySem.W.kla_obj "<lambda>" F.q F.params F.body F.scope [] pm c' ctv), toks := t' } := by
  refine I.laid (a := s.heap.objs.size) (fun b u e => Heap.get?_push_of_some _ e) (Nat.le_refl _) ?_
  have e : (s.heap.push (PySem.W.kla_obj "<lambda>" F.q F.params F.body F.scope [] pm c' ctv)).get? s.heap.objs.size = some (PySem.W.kla_obj "<lambda>" F.q F.params F.body F.scope [] pm c' ctv) := Heap.get?_push_size _ rfl
  exact ⟨⟨pm, ctv, e⟩, ⟨_, e⟩, fun h1 h2 ⟨p, t, z⟩ st => ⟨p, t, st _ z⟩⟩
/-- a lambda as a value -/
theorem pe_lam {T : List (Addr × Str)} {c P : Addr} {params : Arguments} {body : Expr} {scope : Scope} {pos : Pos} (TB : TabB X.base X.mg c P) (hcode : X.env.code = .ref c)
    (hm : (P, X.env.qual ++ "<lambda>") ∈ T) (hu : ∀ p ∈ T, p.1 = P → p.2 = X.env.qual ++ "<lambda>") (hdef : defaultsOf params X.env = ([], [])) (hno : ∀ y ∈ scope.names, y.2 ≠ .free) :
    PE X (.Lambda params body scope pos) (tLamV T ⟨params, body, scope, X.env.qual ++ "<lambda>"⟩) := by
  refine ⟨fun pins s σ H Q I h => ?_⟩
  obtain ⟨hT, h⟩ := h
  obtain ⟨ps, hP, ht, ha⟩ := hT _ hm
  have hfree : ∀ y ∈ scope.names, y.2 = .free → ∃ c, X.env.cells.lookup y.1 = some c := fun y hy e => absurd e (hno y hy)
  have hclo : closureFor scope X.env = pure [] := by
    have z := closure_ok (env := X.env) hfree
    rw [clo_nil hno] at z
    exact z
  refine PySem.W.kla_eval hdef ?_
  have bP : s.heap.BuiltinsAt X.mg P := TB.bm.keeps I.bk
  have eP : s.heap.get? P = some { cls := .none, data := .fields ps } := I.hok P _ hP
  cases hc : codeAmong pos ps.toList with
  | none =>
    refine PySem.W.kla_makeFunction (mg := X.mg) (c := c) (P := P) (ps := ps) hclo I.ok.glob (I.mod.glob.keeps I.bk) hcode (TB.code.keeps I.bk) eP ht hc TB.gP bP fun c' ctv h' tk hx hge hlt hrec htb => ?_
    obtain ⟨c2, oc, vs, t, e2, hoc, hd, hv⟩ := hrec
    cases e2
    have nC : H c' = none := I.hok.fresh hge
    have I1 := inv_table (t' := tk) (more := #[rawInt pos.line, rawInt pos.col, .ref c']) (h' := h') I hP (fun b o nb eb => hx b o nb eb) htb hge ⟨oc, vs, t, hoc, hd, hv⟩
    have hE : ExtN H (upd (upd H P (.tbl (ps ++ #[rawInt pos.line, rawInt pos.col, .ref c']))) c' (CodeO c' (X.env.qual ++ "<lambda>"))) := fun b o e n => by
      rw [upd_ne (ne_of_none e nC)]
      rw [upd_ne (fun z => n ps (Option.some.inj (e.symm.trans (by rw [z]; exact hP))))]
      exact e
    have eL : (ps ++ #[rawInt pos.line, rawInt pos.col, .ref c']).toList = ps.toList ++ [rawInt pos.line, rawInt pos.col, .ref c'] := by simp
    have T1 : Tabs T (upd (upd H P (.tbl (ps ++ #[rawInt pos.line, rawInt pos.col, .ref c']))) c' (CodeO c' (X.env.qual ++ "<lambda>"))) := fun p hp => by
      by_cases hb : p.1 = P
      · rw [hu p hp hb, hb]
        refine ⟨_, (by rw [upd_ne (ne_of_none hP nC), upd_same]), (by rw [eL]; exact PySem.TriplesOk_snoc _ _ _ _ ht), fun p' cv hcv => ?_⟩
        rw [eL] at hcv
        rcases among_app _ ht hcv with z | z
        · obtain ⟨cz, y1, y2⟩ := ha p' cv z
          exact ⟨cz, y1, hE _ _ y2 codeO_ne⟩
        · exact ⟨c', z, upd_same⟩
      · obtain ⟨pz, a1, a2, a3⟩ := hT p hp
        refine ⟨pz, (by rw [upd_ne (ne_of_none a1 nC), upd_ne hb]; exact a1), a2, fun p' cv hcv => ?_⟩
        obtain ⟨cz, y1, y2⟩ := a3 p' cv hcv
        exact ⟨cz, y1, hE _ _ y2 codeO_ne⟩
    have nF := I1.hok.fresh (Nat.le_refl _)
    have I2 := lam_new (F := ⟨params, body, scope, X.env.qual ++ "<lambda>"⟩) (c' := c') (pm := (X.mg "__name__").getD .none) (ctv := ctv) (t' := tk) I1
    have hN : Ext _ (upd (upd (upd H P (.tbl (ps ++ #[rawInt pos.line, rawInt pos.col, .ref c']))) c' (CodeO c' (X.env.qual ++ "<lambda>"))) h'.objs.size (LamO h'.objs.size ⟨params, body, scope, X.env.qual ++ "<lambda>"⟩ c')) := Ext.new nF
    exact ⟨.ref h'.objs.size, _, I2, rfl, h h'.objs.size c' _ (fun b o e n => hN _ _ (hE b o e n)) (fun b z => NdefX.upd_none (NdefX.upd_none (NdefX.upd_none z))) (T1.ext hN) (I.hok.fresh (Nat.le_trans hge (Nat.le_of_lt hlt))) upd_same (hN _ _ upd_same)⟩
  | some cv =>
    obtain ⟨c', e, hco⟩ := ha pos cv hc
    subst e
    refine PySem.W.kla_makeFunctionHit (mg := X.mg) (c := c) (P := P) (ps := ps) hclo I.ok.glob (I.mod.glob.keeps I.bk) hcode (TB.code.keeps I.bk) eP ht hc bP fun ctv h' tk hx hsz => ?_
    have I1 : Inv X pins σ H { s with heap := h', toks := tk } := I.kept hx
    have nF : H h'.objs.size = none := I1.hok.fresh (Nat.le_refl _)
    have I2 := lam_new (F := ⟨params, body, scope, X.env.qual ++ "<lambda>"⟩) (c' := c') (pm := (X.mg "__name__").getD .none) (ctv := ctv) (t' := tk) I1
    have hN : Ext H (upd H h'.objs.size (LamO h'.objs.size ⟨params, body, scope, X.env.qual ++ "<lambda>"⟩ c')) := Ext.new nF
    exact ⟨.ref h'.objs.size, _, I2, rfl, h h'.objs.size c' _ (ExtN.of hN) (fun b z => NdefX.upd_none z) (hT.ext hN) nF upd_same (hN _ _ hco)⟩
end
/-! ### the call -/
/-- what a lambda of the one parameter a does: tb read in its own frame -/
structure LamDoes (P : Program) (w : World) (K : PySem.W.Frag) (mg : Str → Option Value) (base : Heap) (F : Lam) (a : Str) (tb : TE) : Prop where
  sc : FnScope [a] [a] F.scope
  bind : ∀ (pm cv ctv u : Value), bindArgs (PySem.W.kla_fn "<lambda>" F.q F.params F.body F.scope [] pm cv ctv) ⟨[u], []⟩ = pure [(a, u)]
  body : ∀ (f : Addr) (cd : Value) (A : Around) (outer : List Env) (s : Shared) (H : Hp) (E : XK), Room 0 (A.deeper (envOfC F.q F.scope s.heap.objs.size f cd)) →
    PE (cxOf CX0 P w K mg base [a] F.q F.scope f cd A outer s H E) F.body tb
theorem run_lam {P : Program} {w : World} {K : PySem.W.Frag} {mg : Str → Option Value} {base : Heap} {F : Lam} {a : Str} {tb : TE} (D : LamDoes P w K mg base F a tb) {A : Around} {outer : List Env} {s : Shared} {H : Hp} {f c' : Addr} {u : Value} {v : V} {Q : VK} {E : XK}
    (hr : Room 1 A) (e0 : Env0 P w K mg base A outer s H) (hf : H f = some (LamO f F c')) (hc : H c' = some (CodeO c' F.q)) (r : RelV v u) (h : tb (L2.start [a] [v]) H Q) :
    codeAny (model P w) A (.call (.ref f) ⟨[u], []⟩) (CR CX0 outer P w H s Q E) s := by
  obtain ⟨pm, ctv, ho⟩ := lamO_at e0.hok hf
  obtain ⟨⟨oc, vs, t, y1, y2, y3⟩, _, _⟩ := e0.hok c' _ hc
  have lim : s.heap.NoLimit := e0.mod.nolimit.keeps fun b o e => (e0.bs b o e).1
  refine PySem.W.kla_callFunE hr.depth ho rfl D.sc.co D.sc.gen rfl ⟨c', oc, vs, t, rfl, y1, y2, y3⟩ ?_
  rw [D.bind pm _ ctv u]
  have hk : ∀ y ∈ [(a, u)], F.scope.names.lookup y.1 = some .local ∨ (F.scope.names.lookup y.1 = some .cell ∧ ((cellsFrom (s.heap.objs.size + 1) F.scope.names []).lookup y.1).isSome = true) := fun y hy => by
    have e : y = (a, u) := by simpa using hy
    subst e
    rcases D.sc.par a (by simp) with q | q
    · exact .inl q
    · exact .inr ⟨q, PySem.W.cellsFrom_some _ _ _ (.inl q)⟩
  refine wpAny_pure (wpAny_newFunctionEnv_cells D.sc.kind hk fun env he s1 x => ?_)
  subst he
  refine ⟨lim.keeps x.toInCall.keep, ?_⟩
  have I : Inv (cxOf CX0 P w K mg base [a] F.q F.scope f (.ref c') A outer s H E) [] (L2.start [a] [v]) H s1 := inv_start D.sc hr.hd e0 rfl (.cons r .nil) x
  refine PySem.W.kla_codeExpr (wpAny_mono ((D.body f (.ref c') A outer s H E (hr.deeper _)).run [] s1 (L2.start [a] [v]) H Q I h) (fun v' s' hq => ?_) fun e s' hq => hq)
  obtain ⟨w', H', J, rv, q⟩ := hq
  exact ⟨w', H', J.os, J.bare, J.base, J.hok, rv, q⟩
/-- x(e), the name x in the slot i holding such a lambda -/
def tCallLam (P : Program) (w : World) (K : PySem.W.Frag) (mg : Str → Option Value) (base : Heap) (i : Nat) (te : TA) : TE := fun σ H Q => ∃ (f c' : Addr) (F : Lam), σ[i]? = some (some (.ref f)) ∧ H f = some (LamO f F c') ∧ te σ H fun vs H1 => ∃ (v : V) (a : Str) (tb : TE),
  vs = [v] ∧ H1 f = some (LamO f F c') ∧ H1 c' = some (CodeO c' F.q) ∧ LamDoes P w K mg base F a tb ∧ tb (L2.start [a] [v]) H1 Q
theorem pe_callLam {X : Cx} {i : Nat} {x : Str} {e : Expr} {te : TA} {p pos : Pos} (hr : Room 1 X.A) (hN : X.N[i]? = some x) (hv : Vis X.env.scope x) (ha : PA X [e] te)
    (hd : (x == ("__debug__" : Str)) = false := by decide) (hcd : (x == ("__classdict__" : Str)) = false := by decide) (he : starEach [e] X.env = (false, eval e X.env) :: starEach [] X.env := by rfl) :
    PE X (.Call (.Name x p) [e] [] pos) (tCallLam X.prog X.w X.K X.mg X.base i te) := by
  refine ⟨fun pins s σ H Q I h => ?_⟩
  obtain ⟨f, c', F, hs, h0, ht⟩ := h
  refine wpAny_Call_Name_kw (thn ((pe_var (pos := p) hN hv hd hcd).run pins s σ H (fun v H1 => v = .ref f ∧ H1 = H) I ⟨.ref f, hs, rfl, rfl⟩) fun u s1 ⟨v, H1, I1, r1, q1⟩ => ?_)
  obtain ⟨ev, eH⟩ := q1
  subst ev
  subst eH
  obtain rfl : u = Value.ref f := r1
  obtain ⟨pm0, ctv0, ho0⟩ := lamO_at I1.hok h0
  refine PySem.W.callWith_F (first := []) ⟨_, _, _, _, ho0⟩ (thn (ha.run pos pins s1 σ _ _ I1 ht) fun us s2 ⟨vs, H2, I2, r, v, a, tb, ev, h1, h2, D, q⟩ => ?_) he (by rfl)
  subst ev
  obtain ⟨u, rfl, ru⟩ := vals1 r
  obtain ⟨pm, ctv, ho⟩ := lamO_at I2.hok h1
  refine ⟨⟨_, _, _, _, ho⟩, ?_⟩
  refine wpAny_call (codeAny_mono (run_lam (E := E0) D hr I2.env0 h1 h2 ru q) fun rr s' hq => ?_)
  cases rr with
  | error er => exact (show False from hq).elim
  | ok fl =>
    cases fl with
    | ret z => exact I2.after hq
    | next => exact False.elim hq
    | brk => exact False.elim hq
    | cont => exact False.elim hq
end K00

set_option Elab.async false
set_option linter.all false
set_option maxRecDepth 100000
set_option maxHeartbeats 4000000
/-! The law's spring of draws. -/
namespace K00
open PySem PySem.Spec PyProof.Rows
open L2
abbrev FnP (K : PySem.W.Frag) (x : Str) (st : Stmt) (f : Addr) (fd : FuncData) : Prop := FunD K x x (defArgs st) (defBody st) (defScope st) [] [] f fd
/-- the spring at p: the cells left at q, what is left of a great one, how many were drawn, what all of them mix -/
structure Stm (H : Hp) (p q : Addr) (L : List Int) (a n t : Int) : Prop where
  hp : H p = some (.lst [.ref q, .int a, .int n, .int t])
  hq : H q = some (.lst (L.map V.int))
  ne : p ≠ q
  a0 : 0 ≤ a
  n0 : 0 ≤ n
  t0 : 0 ≤ t
  t1 : t < 2147483647
/-- all but two objects stay -/
def But (p q : Addr) (H G : Hp) : Prop := ∀ b o, b ≠ p → b ≠ q → H b = some o → G b = some o
def spDraw : Sp := fun vs H Q _ => ∃ (p q : Addr) (L : List Int) (a n t m : Int), vs = [.ref p, .int m] ∧ Stm H p q L a n t ∧ n < 100000 ∧ 1 ≤ m ∧ m ≤ 1000 ∧
  ∀ (r : Int) (G : Hp) (L' : List Int) (a' t' : Int), 0 ≤ r → r < m → Stm G p q L' a' (n + 1) t' → But p q H G → Q (.int r) G
theorem scD : FnScope ["_law_stream", "_law_many", "_law_cell", "_law_digit", "_law_mixed_here"] ["_law_stream", "_law_many"] (defScope s_law_draw) := ⟨rfl, rfl, rfl, by decide +kernel, rfl, by decide +kernel, by decide +kernel⟩
theorem dp_ints {K : PySem.W.Frag} {H : Hp} : ∀ L : List Int, DpAll K H (L.map V.int) (L.map PyData.int)
  | [] => .nil
  | i :: r => .cons (.int i) (dp_ints r)
theorem lay_ints : ∀ L : List Int, PyData.canLayAll0 (L.map PyData.int) = true
  | [] => rfl
  | _ :: r => by
    show (PyData.canLay0 (.int _) && PyData.canLayAll0 (r.map PyData.int)) = true
    rw [lay_ints r]
    rfl
theorem depth_ints : ∀ L : List Int, PyData.depthAll (L.map PyData.int) ≤ 1
  | [] => Nat.zero_le _
  | _ :: r => by
    show max (PyData.depth (.int _)) (PyData.depthAll (r.map PyData.int)) ≤ 1
    exact Nat.max_le.mpr ⟨Nat.zero_le _, depth_ints r⟩
theorem shaped_ints (L : List Int) : SeqAt.shaped (.list (L.map PyData.int)) = true := by
  unfold SeqAt.shaped
  rw [Bool.and_eq_true]
  refine ⟨lay_ints L, decide_eq_true ?_⟩
  have h := depth_ints L
  show PyData.depthAll (L.map PyData.int) + 1 ≤ 64
  omega
/-! ### reading and storing at places of a list -/
theorem ixr {K : PySem.W.Frag} {σ : L2.St} {H : Hp} {Q : VK} {i j : Nat} {z : Int} {p : Addr} {xs : List V} {v : V} (hs : σ[i]? = some (some (.ref p))) (hp : H p = some (.lst xs)) (hz : z = (j : Int)) (hj : xs[j]? = some v) (h : Q v H) :
    tOp (rIxL K) (tVar i) (tC (V.int z)) σ H Q := by
  subst hz
  exact ⟨_, hs, p, xs, _, v, rfl, rfl, SqL.of hp, atI_nat hj, h⟩
theorem ixn {m j : Nat} (hj : j < m) : ixN m (j : Int) = some j := by
  unfold ixN
  rw [if_pos (Int.natCast_nonneg j), if_pos (Int.ofNat_lt.mpr hj), Int.toNat_natCast]
theorem setr {σ : L2.St} {H : Hp} {Q : L2.St → Hp → Prop} {i j : Nat} {z : Int} {p : Addr} {xs : List V} {v : V} (hs : σ[i]? = some (some (.ref p))) (hp : H p = some (.lst xs)) (hz : z = (j : Int)) (hj : j < xs.length)
    (h : Q σ (upd H p (.lst (xs.set j v)))) : gSub (tVar i) (tC (V.int z)) rSetL v σ H Q := by
  subst hz
  exact ⟨_, hs, p, xs, _, j, rfl, rfl, hp, ixn hj, h⟩
theorem But.refl {p q : Addr} {H : Hp} : But p q H H := fun _ _ _ _ e => e
theorem But.trans {p q : Addr} {H G J : Hp} (a : But p q H G) (b : But p q G J) : But p q H J := fun c o n1 n2 e => b c o n1 n2 (a c o n1 n2 e)
theorem But.l {p q : Addr} {H : Hp} {o : HO} : But p q H (upd H p o) := fun b u n1 _ e => by rw [upd_ne n1]; exact e
theorem But.r {p q : Addr} {H : Hp} {o : HO} : But p q H (upd H q o) := fun b u _ n2 e => by rw [upd_ne n2]; exact e
theorem But.of {p q : Addr} {H G : Hp} (k : Ext H G) : But p q H G := fun b o _ _ e => k b o e
section
variable {H G : Hp} {p q : Addr} {L : List Int} {a n t : Int}
theorem Stm.ext (S : Stm H p q L a n t) (k : Ext H G) : Stm G p q L a n t := ⟨k _ _ S.hp, k _ _ S.hq, S.ne, S.a0, S.n0, S.t0, S.t1⟩
theorem Stm.put (S : Stm H p q L a n t) {a' n' t' : Int} (h1 : 0 ≤ a') (h2 : 0 ≤ n') (h3 : 0 ≤ t') (h4 : t' < 2147483647) : Stm (upd H p (.lst [.ref q, .int a', .int n', .int t'])) p q L a' n' t' :=
  ⟨upd_same, by rw [upd_ne S.ne.symm]; exact S.hq, S.ne, h1, h2, h3, h4⟩
theorem Stm.cut (S : Stm H p q L a n t) (L' : List Int) : Stm (upd H q (.lst (L'.map V.int))) p q L' a n t :=
  ⟨by rw [upd_ne S.ne]; exact S.hp, upd_same, S.ne, S.a0, S.n0, S.t0, S.t1⟩
end
/-! ### the readings -/
def dIx (K : PySem.W.Frag) (j : Int) : TE := tOp (rIxL K) (tVar 0) (tC (.int j))
def dNum (t : TE) : TE := tCB (fun xs H Q => (∃ i, xs = [V.int i] ∧ Q (.int i) H) ∨ ∃ k, xs = [V.bl k] ∧ Q (.int (if k = true then 1 else 0)) H) (tCons t tNil)
abbrev dAdd : TE → TE → TE := tOp (rI0 fun i j => .int (i + j))
abbrev dMul : TE → TE → TE := tOp (rI CMul fun i j => .int (i * j))
abbrev dMod : TE → TE → TE := tOp (rI (fun _ j => 0 < j) fun i j => .int (i % j))
abbrev dPow : TE → TE → TE := tOp (rI CPow fun i j => .int (i ^ j.toNat))
abbrev nC (i : Int) : TE := tC (.int i)
def dSet (j : Int) (te : TE) : TS := tAsg te (gSub (tVar 0) (nC j) rSetL)
def dTest (K : PySem.W.Frag) : TT := tAnd (tTest (tOp rEq (dIx K 1) (nC 0))) (tTest (tOp (rNeD K) (dIx K 0) (tLst tNil)))
def dTurn (K : PySem.W.Frag) : TS := tSeq (tAsg (tBM K "list" rPopAt (dIx K 0) (tCons (nC 0) tNil)) (gName 2))
  (tSeq (dSet 3 (dMod (dNum (dAdd (dAdd (dMul (dIx K 3) (nC 8191)) (tVar 2)) (nC 3))) (nC 2147483647)))
  (dSet 1 (tIf (tTest (tOp (rI0 fun i j => .bl (decide (j ≤ i))) (tVar 2) (dPow (nC 10) (nC 18)))) (tVar 2) (nC 0))))
def dEnd (K : PySem.W.Frag) : TS := tSeq (tIfS (tTest (tOp (rI0 fun i j => .bl (decide (j < i))) (dIx K 1) (nC 0)))
    (tSeq (tAsg (dMod (dNum (dIx K 1)) (tVar 1)) (gName 3)) (tSeq (dSet 1 (tOp (rI CDivN fun i j => .int (i.fdiv j)) (dIx K 1) (tVar 1))) (tRet (tVar 3)))) tNext)
  (tSeq (tAsg (dMod (dNum (dPow (dAdd (dAdd (dIx K 3) (dMul (nC 7919) (dIx K 2))) (nC 104729)) (nC 5))) (nC 2147483629)) (gName 4))
  (tRet (dMod (dMod (dNum (dPow (dAdd (dAdd (dMul (tVar 4) (nC 48271)) (dMul (nC 30011) (dIx K 2))) (nC 29)) (nC 3))) (nC 1000000007)) (tVar 1))))
def dAll (K : PySem.W.Frag) : TS := tSeq (dSet 2 (dAdd (dIx K 2) (nC 1))) (tSeq (tWhile (dTest K) (dTurn K)) (dEnd K))
section
variable {K : PySem.W.Frag}
theorem turn_ok {D : Ends} {σ : L2.St} {H : Hp} {p q : Addr} {c a n t : Int} {L : List Int} (S : Stm H p q (c :: L) a n t) (s0 : σ[0]? = some (some (.ref p))) (sl : σ.length = 5)
    (h : ∀ (G : Hp) (a' t' : Int), Stm G p q L a' n t' → But p q H G → D.nx (σ.set 2 (some (.int c))) G) : dTurn K D σ H := by
  have e0 : (σ.set 2 (some (V.int c)))[0]? = some (some (.ref p)) := by rw [List.getElem?_set_ne (by decide)]; exact s0
  have e2 : (σ.set 2 (some (V.int c)))[2]? = some (some (.int c)) := List.getElem?_set_self (by omega)
  refine ixr (j := 0) s0 S.hp rfl rfl ⟨.inl ⟨rfl, _, SqL.of S.hq⟩, q, _, 0, 0, .int c, rfl, rfl, S.hq, by decide, by decide, ?_, rfl, ?_⟩
  · unfold seqIndex?
    simp
  have S1 : Stm (upd H q (.lst (L.map V.int))) p q L a n t := S.cut L
  have t0 := S.t0
  have t1 := S.t1
  -- what all of them mix
  refine ixr (j := 3) e0 S1.hp rfl rfl ⟨_, _, rfl, rfl, .inl ⟨by omega, by omega⟩, _, e2, _, _, rfl, rfl, _, _, rfl, rfl, .inl ⟨_, rfl, _, _, rfl, rfl, (show (0 : Int) < 2147483647 by decide), ?_⟩⟩
  refine setr (j := 3) e0 S1.hp rfl (by show 3 < 4; omega) ?_
  have m0 := Int.emod_nonneg (t * 8191 + c + 3) (show (2147483647 : Int) ≠ 0 by decide)
  have m1 := Int.emod_lt_of_pos (t * 8191 + c + 3) (show (0 : Int) < 2147483647 by decide)
  have S2 := S1.put (a' := a) (n' := n) (t' := (t * 8191 + c + 3) % 2147483647) S.a0 S.n0 m0 m1
  have B2 : But p q H (upd (upd H q (.lst (L.map V.int))) p (.lst [.ref q, .int a, .int n, .int ((t * 8191 + c + 3) % 2147483647)])) := But.trans But.r But.l
  refine ⟨_, e2, _, _, rfl, rfl, ⟨by decide, by decide, by decide⟩, _, _, rfl, rfl, _, rfl, ?_⟩
  by_cases hc : (10 : Int) ^ (18 : Int).toNat ≤ c
  · rw [decide_eq_true hc]
    refine iteT ⟨_, e2, ?_⟩
    refine setr (j := 1) e0 S2.hp rfl (by show 1 < 4; omega) (h _ _ _ (S2.put (a' := c) ?_ S.n0 m0 m1) (B2.trans But.l))
    have z : (0 : Int) ≤ 10 ^ (18 : Int).toNat := by decide
    omega
  · rw [decide_eq_false hc]
    refine iteF ?_
    exact setr (j := 1) e0 S2.hp rfl (by show 1 < 4; omega) (h _ _ _ (S2.put (a' := 0) (by decide) S.n0 m0 m1) (B2.trans But.l))
theorem fin_ok {D : Ends} {σ : L2.St} {H : Hp} {p q : Addr} {a n t m k : Int} {L : List Int} (S : Stm H p q L a n t) (s0 : σ[0]? = some (some (.ref p))) (s1 : σ[1]? = some (some (.int m))) (sl : σ.length = 5)
    (hn : n ≤ 100000) (hm : 1 ≤ m) (hm2 : m ≤ 1000) (k0 : 0 ≤ k) (k1 : k < 2147483629)
    (h : ∀ (r : Int) (G : Hp) (L' : List Int) (a' t' : Int), 0 ≤ r → r < m → Stm G p q L' a' n t' → But p q H G → D.rt (.int r) G) :
    tRet (dMod (dMod (dNum (dPow (dAdd (dAdd (dMul (tVar 4) (nC 48271)) (dMul (nC 30011) (dIx K 2))) (nC 29)) (nC 3))) (nC 1000000007)) (tVar 1)) D (σ.set 4 (some (V.int k))) H := by
  have n0 := S.n0
  have e0 : (σ.set 4 (some (V.int k)))[0]? = some (some (.ref p)) := by rw [List.getElem?_set_ne (by decide)]; exact s0
  have e1 : (σ.set 4 (some (V.int k)))[1]? = some (some (.int m)) := by rw [List.getElem?_set_ne (by decide)]; exact s1
  have e4 : (σ.set 4 (some (V.int k)))[4]? = some (some (.int k)) := List.getElem?_set_self (by omega)
  refine ⟨_, e4, _, _, rfl, rfl, .inl ⟨by omega, by omega⟩, ?_⟩
  refine ixr (j := 2) e0 S.hp rfl rfl ⟨_, _, rfl, rfl, .inl ⟨by decide, by decide⟩, _, _, rfl, rfl, _, _, rfl, rfl, _, _, rfl, rfl, ⟨by decide, by decide, by omega⟩,
    .inl ⟨_, rfl, _, _, rfl, rfl, (show (0 : Int) < 1000000007 by decide), _, e1, _, _, rfl, rfl, by omega, ?_⟩⟩
  exact h _ _ _ _ _ (Int.emod_nonneg _ (by omega)) (Int.emod_lt_of_pos _ (by omega)) S But.refl
theorem end_ok {Q : VK} {nx : L2.St → Hp → Prop} {σ : L2.St} {H : Hp} {p q : Addr} {a n t m : Int} {L : List Int} (S : Stm H p q L a n t) (s0 : σ[0]? = some (some (.ref p))) (s1 : σ[1]? = some (some (.int m))) (sl : σ.length = 5)
    (hn : n ≤ 100000) (hm : 1 ≤ m) (hm2 : m ≤ 1000)
    (h : ∀ (r : Int) (G : Hp) (L' : List Int) (a' t' : Int), 0 ≤ r → r < m → Stm G p q L' a' n t' → But p q H G → Q (.int r) G) : dEnd K { nx := nx, rt := Q } σ H := by
  have n0 := S.n0
  have t0 := S.t0
  have t1 := S.t1
  have a0 := S.a0
  refine ixr (j := 1) s0 S.hp rfl rfl ⟨_, _, rfl, rfl, _, rfl, ?_⟩
  by_cases ha : 0 < a
  · rw [decide_eq_true ha]
    refine iteT ?_
    have e0 : (σ.set 3 (some (V.int (a % m))))[0]? = some (some (.ref p)) := by rw [List.getElem?_set_ne (by decide)]; exact s0
    have e1 : (σ.set 3 (some (V.int (a % m))))[1]? = some (some (.int m)) := by rw [List.getElem?_set_ne (by decide)]; exact s1
    have e3 : (σ.set 3 (some (V.int (a % m))))[3]? = some (some (.int (a % m))) := List.getElem?_set_self (by omega)
    refine ixr (j := 1) s0 S.hp rfl rfl (.inl ⟨_, rfl, _, s1, _, _, rfl, rfl, by omega, ?_⟩)
    refine ixr (j := 1) e0 S.hp rfl rfl ⟨_, e1, _, _, rfl, rfl, ⟨by omega, by omega⟩, ?_⟩
    refine setr (j := 1) e0 S.hp rfl (by show 1 < 4; omega) ⟨_, e3, ?_⟩
    exact h _ _ _ _ _ (Int.emod_nonneg a (by omega)) (Int.emod_lt_of_pos a (by omega)) (S.put (a' := a.fdiv m) (n' := n) (t' := t) (by rw [Int.fdiv_eq_ediv_of_nonneg _ (by omega)]; exact Int.ediv_nonneg a0 (by omega)) n0 t0 t1) But.l
  · rw [decide_eq_false ha]
    refine iteF ?_
    refine ixr (j := 3) s0 S.hp rfl rfl ?_
    refine ixr (j := 2) s0 S.hp rfl rfl ⟨_, _, rfl, rfl, .inl ⟨by decide, by decide⟩, _, _, rfl, rfl, _, _, rfl, rfl, _, _, rfl, rfl, ⟨by decide, by decide, by omega⟩, .inl ⟨_, rfl, _, _, rfl, rfl, (show (0 : Int) < 2147483629 by decide), ?_⟩⟩
    exact fin_ok S s0 s1 sl hn hm hm2 (Int.emod_nonneg _ (by decide)) (Int.emod_lt_of_pos _ (by decide)) h
theorem all_ok (vs : List V) (H : Hp) (Q : VK) (E : XK) (hs : spDraw vs H Q E) : dAll K { nx := fun _ H' => Q .non H', rt := Q } (L2.start ["_law_stream", "_law_many", "_law_cell", "_law_digit", "_law_mixed_here"] vs) H := by
  obtain ⟨p, q, L, a, n, t, m, rfl, S, hn, hm, hm2, k⟩ := hs
  -- one more was drawn
  refine ixr (j := 2) rfl S.hp rfl rfl ⟨_, _, rfl, rfl, ?_⟩
  refine setr (j := 2) rfl S.hp rfl (by show 2 < 4; omega) ?_
  have S1 := S.put (a' := a) (n' := n + 1) (t' := t) S.a0 (by have := S.n0; omega) S.t0 S.t1
  refine while_by (fun σ G => ∃ L' a' t', Stm G p q L' a' (n + 1) t' ∧ But p q H G ∧ σ[0]? = some (some (.ref p)) ∧ σ[1]? = some (some (.int m)) ∧ σ.length = 5)
    (fun _ G => match G q with | some (.lst xs) => xs.length | _ => 0) ⟨L, a, t, S1, But.l, rfl, rfl, rfl⟩ ?_ ?_
  · rintro σ G ⟨L', a', t', Z, B, s0, s1, sl⟩
    have fin : ∀ (G' : Hp) (L2 : List Int), Stm G' p q L2 a' (n + 1) t' → But p q H G' → dEnd K { nx := fun _ H' => Q .non H', rt := Q } σ G' := fun G' L2 Z' B' =>
      end_ok Z' s0 s1 sl (by omega) hm hm2 fun r G2 L3 a3 t3 r0 r1 z b => k r G2 L3 a3 t3 r0 r1 z (B'.trans b)
    refine ixr (j := 1) s0 Z.hp rfl rfl ⟨rfl, _, rfl, ?_⟩
    by_cases ha : a' = 0
    · subst ha
      rw [decide_eq_true (rfl : V.int 0 = V.int 0)]
      refine iteT ?_
      refine ixr (j := 0) s0 Z.hp rfl rfl ⟨Nat.zero_le _, fun l hl => ?_⟩
      have Zl := Z.ext (Ext.new (o := .lst []) hl)
      have Bl : But p q H (upd G l (.lst [])) := B.trans (But.of (Ext.new hl))
      refine ⟨.list (L'.map PyData.int), .list [], .lst (SqL.of Zl.hq) (dp_ints L'), .lst (SqL.of upd_same) .nil, shaped_ints L', by decide +kernel, _, rfl, ?_⟩
      cases L' with
      | nil =>
        refine iteF ?_
        exact fin _ [] Zl Bl
      | cons c L' =>
        refine iteT ?_
        refine turn_ok Zl s0 sl fun G2 a2 t2 z b => ⟨⟨L', a2, t2, z, Bl.trans b, by rw [List.getElem?_set_ne (by decide)]; exact s0, by rw [List.getElem?_set_ne (by decide)]; exact s1, by simpa using sl⟩, ?_⟩
        rw [z.hq, Z.hq]
        simp
    · rw [decide_eq_false (fun z => ha (V.int.inj z))]
      exact iteF (fin _ L' Z B)
  · rintro σ G Q1 Q2 hq h
    obtain ⟨v, e1, p1, xs, i, z, y1, y2, y3, y4, y5, kk, y6, h⟩ := h
    refine ⟨v, e1, p1, xs, i, z, y1, y2, y3, y4, y5, kk, y6, ?_⟩
    cases kk with
    | false =>
      rw [if_neg Bool.false_ne_true] at h ⊢
      exact hq _ _ h
    | true =>
      rw [if_pos rfl] at h ⊢
      obtain ⟨v, e1, p1, xs, i, z, y1, y2, y3, y4, y5, y6⟩ := h
      refine ⟨v, e1, p1, xs, i, z, y1, y2, y3, y4, y5, fun l n => ?_⟩
      obtain ⟨d, e, d1, d2, d3, d4, k2, y, z⟩ := y6 l n
      exact ⟨d, e, d1, d2, d3, d4, k2, y, hq _ _ z⟩
end
section
variable {P : Program} {w : World} {K : PySem.W.Frag} {mg : Str → Option Value} {base : Heap}
theorem ok_draw {f : Addr} {fd : FuncData} (F : FnP K "_law_draw" s_law_draw f fd) (mI : mg "int" = none) : FnOk P w K mg base CX0 1 f fd ["_law_stream", "_law_many"] spDraw := by
  refine F.ok scD (fun vs H Q E h => ?_) (fun cdv A outer s H vs Q E hr h => ⟨dAll K, PSs.nox ?_, all_ok vs H Q E h⟩)
  · obtain ⟨p, q, L, a, n, t, m, rfl, _⟩ := h
    rfl
  · exact pss_cons (ps_asg (pe_op op_add (pe_ix ix_list (pv 0) pe_int (fun _ _ => rfl)) pe_int) (pg_sub (pv 0) pe_int set_list))
      (pss_cons (ps_while PassesOwn.never (PW.pt (pw_and (pt_cmpR op_eq (pe_ix ix_list (pv 0) pe_int (fun _ _ => rfl)) pe_int (nomark _))
          (pw_and1 (pt_cmpR (op_neD hr.units) (pe_ix ix_list (pv 0) pe_int (fun _ _ => rfl)) (pe_lst pa_nil) (nomark _)))))
        (pss_cons (ps_set (i := 2) scD.nd rfl (.inl rfl) (pe_bm PySem.F.plainAttrs_list PySem.F.slot_list_pop PySem.F.type_list_pop mt_popAt (pe_ix ix_list (pv 0) pe_int (fun _ _ => rfl)) (pa_cons pe_int pa_nil)))
        (pss_cons (ps_asg (pe_op op_mod (pe_callTy call_int1 (by rfl) mI PySem.Pv.boot_int (pa_cons (pe_op op_add (pe_op op_add (pe_op op_mul (pe_ix ix_list (pv 0) pe_int (fun _ _ => rfl)) pe_int) (pv 2)) pe_int) pa_nil)) pe_int)
          (pg_sub (pv 0) pe_int set_list))
        (pss_one (ps_asg (pe_ifExp (pt_cmpR op_ge (pv 2) (pe_op op_pow pe_int pe_int) (nomark _)) (pv 2) pe_int) (pg_sub (pv 0) pe_int set_list))))))
      (pss_cons (ps_if (pt_cmpR op_gt (pe_ix ix_list (pv 0) pe_int (fun _ _ => rfl)) pe_int (nomark _))
        (pss_cons (ps_set (i := 3) scD.nd rfl (.inl rfl) (pe_op op_mod (pe_callTy call_int1 (by rfl) mI PySem.Pv.boot_int (pa_cons (pe_ix ix_list (pv 0) pe_int (fun _ _ => rfl)) pa_nil)) (pv 1)))
        (pss_cons (ps_asg (pe_op op_fdivN (pe_ix ix_list (pv 0) pe_int (fun _ _ => rfl)) (pv 1)) (pg_sub (pv 0) pe_int set_list))
        (pss_one (ps_ret (pv 3))))) pss_nil)
      (pss_cons (ps_set (i := 4) scD.nd rfl (.inl rfl) (pe_op op_mod (pe_callTy call_int1 (by rfl) mI PySem.Pv.boot_int (pa_cons (pe_op op_pow (pe_op op_add (pe_op op_add (pe_ix ix_list (pv 0) pe_int (fun _ _ => rfl))
          (pe_op op_mul pe_int (pe_ix ix_list (pv 0) pe_int (fun _ _ => rfl)))) pe_int) pe_int) pa_nil)) pe_int))
      (pss_one (ps_ret (pe_op op_mod (pe_op op_mod (pe_callTy call_int1 (by rfl) mI PySem.Pv.boot_int (pa_cons (pe_op op_pow (pe_op op_add (pe_op op_add (pe_op op_mul (pv 4) pe_int)
          (pe_op op_mul pe_int (pe_ix ix_list (pv 0) pe_int (fun _ _ => rfl)))) pe_int) pe_int) pa_nil)) pe_int) (pv 1)))))))
end
end K00

set_option Elab.async false
set_option linter.all false
set_option maxRecDepth 100000
set_option maxHeartbeats 4000000
/-! Things in a drawn order. -/
namespace K00
open PySem PySem.Spec PyProof.Rows
open L2
def spMixed (K : PySem.W.Frag) : Sp := fun vs H Q _ => ∃ (p q : Addr) (L : List Int) (a n t : Int) (c : Addr) (xs : List V), vs = [.ref p, .ref c] ∧ Stm H p q L a n t ∧ n + (xs.length : Int) < 90000 ∧ xs.length ≤ 500 ∧ SqL K H c xs ∧
  ∀ (r : Addr) (G : Hp) (L' : List Int) (a' t' : Int) (ys : List V), G r = some (.lst ys) → H r = none → ys.length = xs.length → (∀ y ∈ ys, y ∈ xs) → Stm G p q L' a' (n + (xs.length : Int)) t' → But p q H G → Q (.ref r) G
abbrev nM : List Str := ["_law_stream", "_law_some", "_law_left", "_law_k"]
theorem scM : FnScope nM ["_law_stream", "_law_some"] (defScope s_law_mixed) := ⟨rfl, rfl, rfl, by decide +kernel, rfl, by decide +kernel, by decide +kernel⟩
def mLen (K : PySem.W.Frag) (i : Nat) : TE := tCB (fun xs H Q => ∃ x n, xs = [x] ∧ LenV K x H n ∧ Q (.int n) H) (tCons (tVar i) tNil)
def mPop (K : PySem.W.Frag) : TE := tBM K "list" rPopAt (tVar 2) (tCons (tCall spDraw [] E0 (tCons (tVar 0) (tCons (mLen K 2) tNil))) tNil)
section
variable {P : Program} {w : World} {K : PySem.W.Frag} {mg : Str → Option Value} {base : Heap}
theorem ok_mixed {f fD : Addr} {fd fdD : FuncData} (F : FnP K "_law_mixed" s_law_mixed f fd) (GD : FnOk P w K mg base CX0 1 fD fdD ["_law_stream", "_law_many"] spDraw) (bD : Binds K fdD ["_law_stream", "_law_many"] []) (kD : PySem.W.keepIn K (.ref fD) = true)
    (mD : mg "_law_draw" = some (.ref fD)) (mL : mg "list" = none) (mR : mg "range" = none) (mN : mg "len" = none) : FnOk P w K mg base CX0 2 f fd ["_law_stream", "_law_some"] (spMixed K) := by
  refine F.ok scM (fun vs H Q E h => ?_) (fun cdv A outer s H vs Q E hr h => ?_)
  · obtain ⟨p, q, L, a, n, t, c, xs, rfl, _⟩ := h
    rfl
  · obtain ⟨p, q, L, a, n, t, c, xs, rfl, S, hn, hz, hS, k⟩ := h
    refine ⟨_, PSs.nox (pss_cons (ps_set (i := 2) scM.nd rfl (.inr rfl) (pe_callTy call_list_of (by rfl) mL PyProof.Rows.boot_list (pa_cons (pv 1) pa_nil)))
      (pss_one (ps_ret (pe_lc (own := [("_law_k", 3)]) (g := gName 3) (tt := tYes) (te := mPop K) rfl scM.nd (pi_range1 (by rfl) mR (pa_cons (pe_callB call_len (by rfl) mN PySem.boot_len (pa_cons (pv 2) pa_nil)) pa_nil))
        (blkOk_by (N := nM) (sc := defScope s_law_mixed) (by decide +kernel)) (fun _ _ _ _ _ => pg_name (i := 3) scM.nd rfl (Or.inl rfl)) (fun _ _ _ _ _ => pts_nil)
        (fun _ _ _ _ _ => pe_bm PySem.F.plainAttrs_list PySem.F.slot_list_pop PySem.F.type_list_pop mt_popAt (pv 2) (pa_cons (pe_call GD hr (by rfl) mD kD bD .nil pass0 (pa_cons (pv 0) (pa_cons (pe_callB call_len (by rfl) mN PySem.boot_len (pa_cons (pv 2) pa_nil)) pa_nil))) pa_nil)))))), ?_⟩
    refine ⟨_, rfl, c, xs, rfl, .inl hS, fun l hl => ?_⟩
    refine ⟨_, rfl, _, xs.length, rfl, .inl ⟨xs, SqL.of upd_same, rfl⟩, _, rfl, by omega, by omega, fun D hD => ?_⟩
    have lp : l ≠ p := (ne_of_none S.hp hl).symm
    have lq : l ≠ q := (ne_of_none S.hq hl).symm
    have Dl : D ≠ l := fun z => by
      rw [z, upd_same] at hD
      cases hD
    have hD0 : H D = none := by
      rw [upd_ne Dl] at hD
      exact hD
    have Dp' : D ≠ p := (ne_of_none S.hp hD0).symm
    have Dq : D ≠ q := (ne_of_none S.hq hD0).symm
    have x1 : Ext H (upd H l (.lst xs)) := Ext.new hl
    have x2 : Ext H (upd (upd H l (.lst xs)) D (.lst [])) := x1.trans (Ext.new hD)
    refine lc_range (lo := 0) (fun i G => ∃ left L' a' t' acc, Stm G p q L' a' (n + (i : Int)) t' ∧ G l = some (.lst left) ∧ left.length + i = xs.length ∧ (∀ y ∈ left, y ∈ xs) ∧
      G D = some (.lst acc) ∧ acc.length = i ∧ (∀ y ∈ acc, y ∈ xs) ∧ But p q H G) ?_ ?_ ?_
    · exact ⟨xs, L, a, t, [], by simpa using S.ext x2, by rw [upd_ne Dl.symm, upd_same], rfl, fun _ z => z, upd_same, rfl, (fun _ z => nomatch z), But.of x2⟩
    · rintro i G hi ⟨left, L', a', t', acc, Z, g1, g2, g3, g4, g5, g6, B⟩
      refine ⟨rfl, ?_⟩
      unfold tYes
      dsimp only
      rw [if_pos (rfl : true = true)]
      have hi' : i < xs.length := by simpa using hi
      refine ⟨_, rfl, .inl ⟨rfl, _, SqL.of g1⟩, _, rfl, _, rfl, _, left.length, rfl, .inl ⟨left, SqL.of g1, rfl⟩, ?_⟩
      refine ⟨p, q, L', a', _, t', _, rfl, Z, by omega, by omega, by omega, fun r G2 L2 a2 t2 r0 r1 Z2 B2 => ?_⟩
      have h1 : G2 l = some (.lst left) := B2 l _ lp lq g1
      have h2 : G2 D = some (.lst acc) := B2 D _ Dp' Dq g4
      obtain ⟨j, rfl⟩ : ∃ j : Nat, r = (j : Int) := ⟨r.toNat, by omega⟩
      have hj : j < left.length := by omega
      obtain ⟨y, hy⟩ : ∃ y, left[j]? = some y := ⟨left[j], by simp [hj]⟩
      have hyl : y ∈ left := List.mem_of_getElem? hy
      refine ⟨l, left, _, j, y, rfl, rfl, h1, by omega, by omega, (ixN_seq (ixn hj)).1, hy, acc, by rw [upd_ne Dl]; exact h2, by rw [g5, sizeLine_eq]; omega, ?_⟩
      refine ⟨left.eraseIdx j, L2, a2, t2, acc ++ [y], ?_, by rw [upd_ne Dl.symm, upd_same], ?_, fun z hz => g3 z (List.mem_of_mem_eraseIdx hz), upd_same, by simp [g5], ?_, ?_⟩
      · have e : n + ((i + 1 : Nat) : Int) = n + (i : Int) + 1 := by omega
        rw [e]
        exact ⟨by rw [upd_ne Dp'.symm, upd_ne lp.symm]; exact Z2.hp, by rw [upd_ne Dq.symm, upd_ne lq.symm]; exact Z2.hq, Z2.ne, Z2.a0, Z2.n0, Z2.t0, Z2.t1⟩
      · rw [List.length_eraseIdx_of_lt hj]
        omega
      · intro z hz
        rcases List.mem_append.mp hz with hz | hz
        · exact g6 z hz
        · have e : z = y := by simpa using hz
          rw [e]
          exact g3 y hyl
      · intro b o n1 n2 e
        have nl : b ≠ l := ne_of_none e hl
        have nD : b ≠ D := ne_of_none e hD0
        rw [upd_ne nD, upd_ne nl]
        exact B2 b o n1 n2 (B b o n1 n2 e)
    · rintro G ⟨left, L', a', t', acc, Z, g1, g2, g3, g4, g5, g6, B⟩
      exact k D G L' a' t' acc g4 hD0 (by simpa using g5) g6 (by simpa using Z) B
end
end K00

set_option Elab.async false
set_option linter.all false
set_option maxRecDepth 100000
set_option maxHeartbeats 4000000
/-! The own __init__ of each error class: it stores what it is handed under its parameters' names. -/
namespace K00
open PySem PySem.Spec PyProof.Rows
open L2
/-- self.f = f -/
def stS (f : Str) (p1 p2 p3 p4 : Pos) : Stmt := .Assign [.Attribute (.Name "self" p1) f p2] (.Name f p3) p4
def spI (K : PySem.W.Frag) (fs : List Str) : Sp := fun vs H Q _ => ∃ (a C : Addr) (xs : List V), vs = .ref a :: xs ∧ xs.length = fs.length ∧ OexC K C ∧ (∀ f ∈ fs, PySem.W.findIn K (.ref C) f = some none) ∧ H a = some (exo a C none) ∧
  ∀ G, ErrAt G a C ((fs.zip xs).reverse) → (∀ b o, b ≠ a → H b = some o → G b = some o) → Q .non G
theorem vis_of {N ps : List Str} {sc : Scope} (S : FnScope N ps sc) {x : Str} (h : x ∈ ps) : Vis sc x := by
  rcases S.par x h with q | q
  · exact .inl q
  · exact .inr (.inl q)
/-- a name that is none of the two that are looked up otherwise -/
def Okn (f : Str) : Prop := (f == ("__debug__" : Str)) = false ∧ (f == ("__classdict__" : Str)) = false
section
variable {P : Program} {w : World} {K : PySem.W.Frag} {mg : Str → Option Value} {base : Heap} {f g h qual : Str} {params : Arguments} {scope : Scope} {fI : Addr} {fd : FuncData} {p1 p2 p3 p4 q1 q2 q3 q4 r1 r2 r3 r4 : Pos}
theorem ok_i1 (F : FunD K "__init__" qual params [stS f p1 p2 p3 p4] scope [] [] fI fd) (S : FnScope ["self", f] ["self", f] scope) (nf : Okn f) : FnOk P w K mg base CX0 1 fI fd ["self", f] (spI K [f]) := by
  refine F.ok S (fun vs H Q E hs => ?_) (fun cdv A outer s H vs Q E hr hs => ?_)
  · obtain ⟨a, C, xs, rfl, hl, _⟩ := hs
    simp [hl]
  · obtain ⟨a, C, xs, rfl, hl, T, hno, ha, k⟩ := hs
    obtain ⟨x, rfl⟩ : ∃ x, xs = [x] := by
      match xs, hl with
      | [x], _ => exact ⟨x, rfl⟩
    refine ⟨_, PSs.nox (pss_one (ps_ost (pe_var (i := 0) rfl (vis_of S (by simp))) (pe_var (i := 1) rfl (vis_of S (by simp)) nf.1 nf.2))), ?_⟩
    refine ⟨_, rfl, _, rfl, a, C, rfl, T, hno f (by simp), .inl ⟨ha, fun dx n ne => ?_⟩⟩
    refine k _ ⟨some dx, upd_same, by show (upd _ _ _) dx = _; rw [upd_ne ne, upd_same]; rfl⟩ fun b o nb e => ?_
    rw [upd_ne nb, upd_ne (ne_of_none e n)]
    exact e
end
end K00

set_option Elab.async false
set_option linter.all false
set_option maxRecDepth 100000
set_option maxHeartbeats 4000000
/-! The error classes' own __init__, further; the calls of the classes. -/
namespace K00
open PySem PySem.Spec PyProof.Rows
open L2
section
variable {P : Program} {w : World} {K : PySem.W.Frag} {mg : Str → Option Value} {base : Heap} {f g h qual : Str} {params : Arguments} {scope : Scope} {fI : Addr} {fd : FuncData} {p1 p2 p3 p4 q1 q2 q3 q4 r1 r2 r3 r4 : Pos}
theorem ok_i2 (F : FunD K "__init__" qual params [stS f p1 p2 p3 p4, stS g q1 q2 q3 q4] scope [] [] fI fd) (S : FnScope ["self", f, g] ["self", f, g] scope) (nf : Okn f) (ng : Okn g) : FnOk P w K mg base CX0 1 fI fd ["self", f, g] (spI K [f, g]) := by
  refine F.ok S (fun vs H Q E hs => ?_) (fun cdv A outer s H vs Q E hr hs => ?_)
  · obtain ⟨a, C, xs, rfl, hl, _⟩ := hs
    simp [hl]
  · obtain ⟨a, C, xs, rfl, hl, T, hno, ha, k⟩ := hs
    obtain ⟨x, y, rfl⟩ : ∃ x y, xs = [x, y] := by
      match xs, hl with
      | [x, y], _ => exact ⟨x, y, rfl⟩
    refine ⟨_, PSs.nox (pss_cons (ps_ost (pe_var (i := 0) rfl (vis_of S (by simp))) (pe_var (i := 1) rfl (vis_of S (by simp)) nf.1 nf.2)) (pss_one (ps_ost (pe_var (i := 0) rfl (vis_of S (by simp))) (pe_var (i := 2) rfl (vis_of S (by simp)) ng.1 ng.2)))), ?_⟩
    refine ⟨_, rfl, _, rfl, a, C, rfl, T, hno f (by simp), .inl ⟨ha, fun dx n ne => ?_⟩⟩
    refine ⟨_, rfl, _, rfl, a, C, rfl, T, hno g (by simp), .inr ⟨dx, _, upd_same, by rw [upd_ne ne, upd_same], by simp, ?_⟩⟩
    refine k _ ⟨some dx, by rw [upd_ne ne.symm, upd_same], by show (upd _ _ _) dx = _; rw [upd_same]; rfl⟩ fun b o nb e => ?_
    have nd := ne_of_none e n
    rw [upd_ne nd, upd_ne nb, upd_ne nd]
    exact e
theorem ok_i3 (F : FunD K "__init__" qual params [stS f p1 p2 p3 p4, stS g q1 q2 q3 q4, stS h r1 r2 r3 r4] scope [] [] fI fd) (S : FnScope ["self", f, g, h] ["self", f, g, h] scope) (nf : Okn f) (ng : Okn g) (nh : Okn h) :
    FnOk P w K mg base CX0 1 fI fd ["self", f, g, h] (spI K [f, g, h]) := by
  refine F.ok S (fun vs H Q E hs => ?_) (fun cdv A outer s H vs Q E hr hs => ?_)
  · obtain ⟨a, C, xs, rfl, hl, _⟩ := hs
    simp [hl]
  · obtain ⟨a, C, xs, rfl, hl, T, hno, ha, k⟩ := hs
    obtain ⟨x, y, z, rfl⟩ : ∃ x y z, xs = [x, y, z] := by
      match xs, hl with
      | [x, y, z], _ => exact ⟨x, y, z, rfl⟩
    refine ⟨_, PSs.nox (pss_cons (ps_ost (pe_var (i := 0) rfl (vis_of S (by simp))) (pe_var (i := 1) rfl (vis_of S (by simp)) nf.1 nf.2)) (pss_cons (ps_ost (pe_var (i := 0) rfl (vis_of S (by simp))) (pe_var (i := 2) rfl (vis_of S (by simp)) ng.1 ng.2))
      (pss_one (ps_ost (pe_var (i := 0) rfl (vis_of S (by simp))) (pe_var (i := 3) rfl (vis_of S (by simp)) nh.1 nh.2))))), ?_⟩
    refine ⟨_, rfl, _, rfl, a, C, rfl, T, hno f (by simp), .inl ⟨ha, fun dx n ne => ?_⟩⟩
    refine ⟨_, rfl, _, rfl, a, C, rfl, T, hno g (by simp), .inr ⟨dx, _, upd_same, by rw [upd_ne ne, upd_same], by simp, ?_⟩⟩
    refine ⟨_, rfl, _, rfl, a, C, rfl, T, hno h (by simp), .inr ⟨dx, _, by rw [upd_ne ne.symm, upd_same], upd_same, by simp, ?_⟩⟩
    refine k _ ⟨some dx, by rw [upd_ne ne.symm, upd_ne ne.symm, upd_same], by show (upd _ _ _) dx = _; rw [upd_same]; rfl⟩ fun b o nb e => ?_
    have nd := ne_of_none e n
    rw [upd_ne nd, upd_ne nd, upd_ne nb, upd_ne nd]
    exact e
end
/-! ### a class with its __init__ -/
/-- the class nm with the fields fs, called by place and by its fields' names, these in the other order -/
structure CK (P : Program) (w : World) (K : PySem.W.Frag) (mg : Str → Option Value) (base : Heap) (bm : List Value) (C : Addr) (fs : List Str) : Prop where
  cl : ClF K bm C fs
  ve : PySem.HandSPX.refsVE bm = true
  ini : ∃ (fI : Addr) (fd : FuncData), PySem.W.findIn K (.ref C) "__init__" = some (some (.ref fI)) ∧ PySem.W.typeIn K (.ref fI) = some (.type "function") ∧ FnOk P w K mg base CX0 1 fI fd (("self" : Str) :: fs) (spI K fs) ∧
    Binds K fd (("self" : Str) :: fs) [] ∧ ∀ (s : Shared) (u : Value) (ws : List Value), ws.length = fs.length → BindsTo s fd ⟨[u], fs.reverse.zip ws⟩ ((("self" : Str) :: fs).zip (u :: ws.reverse))
/-- the class without fields -/
structure CK0 (K : PySem.W.Frag) (bm : List Value) (C : Addr) : Prop where
  cl : ClF K bm C []
  ve : PySem.HandSPX.refsVE bm = true
  ex : PySem.W.excIn K C He.veBase "ValueError.__new__" = true
def tMk (C : Addr) (fs : List Str) (ta : TA) : TE := fun σ H Q => ta σ H fun vs H1 => vs.length = fs.length ∧ ∀ (a : Addr) (G : Hp), H1 a = none → Ext H1 G → ErrAt G a C (fs.zip vs).reverse → Q (.ref a) G
def tMkK (C : Addr) (fs : List Str) (ta : TA) : TE := fun σ H Q => ta σ H fun vs H1 => vs.length = fs.length ∧ ∀ (a : Addr) (G : Hp), H1 a = none → Ext H1 G → ErrAt G a C (fs.zip vs.reverse).reverse → Q (.ref a) G
def tMk0 (C : Addr) : TE := fun σ H Q => ∀ (a : Addr) (G : Hp), H a = none → Ext H G → ErrAt G a C [] → Q (.ref a) G
section
variable {X : Cx} {bm : List Value} {C : Addr} {fs : List Str} {x : Str} {e : Expr} {es : List Expr} {kws : List Keyword} {t tk : TA} {p pos : Pos}
theorem vals_rev : ∀ {zs : List V} {ws : List Value}, Vals zs ws → Vals zs.reverse ws.reverse
  | _, _, .nil => .nil
  | _, _, .cons r t => by
    rw [List.reverse_cons, List.reverse_cons]
    exact (vals_rev t).append (.cons r .nil)
theorem mk_fin {H G : Hp} {a : Addr} {C : Addr} {ys : List (Str × V)} (n : H a = none) (z : ErrAt G a C ys) (k : ∀ b o, b ≠ a → (upd H a (exo a C none)) b = some o → G b = some o) : Ext H G := fun b o e => by
  have nb : b ≠ a := ne_of_none e n
  exact k b o nb (by rw [upd_ne nb]; exact e)
theorem pe_mk (T : CK X.prog X.w X.K X.mg X.base bm C fs) (hr : Room 2 X.A) (hg : Gl X x) (hm : X.mg x = some (.ref C)) (ha : PA X (e :: es) t) (hz : fs.length ≤ 100)
    (hdb : (x == ("__debug__" : Str)) = false := by decide) (he : starEach (e :: es) X.env = (false, eval e X.env) :: starEach es X.env := by rfl) (hpl : (backTo pos (starEach es X.env)).any (·.1) = false := by rfl) :
    PE X (.Call (.Name x p) (e :: es) [] pos) (tMk C fs t) := by
  refine ⟨fun pins s σ H Q I h => ?_⟩
  obtain ⟨fI, fd, iC, tI, F1, B, BK⟩ := T.ini
  have T0 := T.cl.oex T.ve
  refine wpAny_Call_Name_kw (ld_glob I hg hm ?_ hdb)
  refine PySem.W.callWith_K (h₀ := X.base) I.ok.mod.kin T.cl.kp (thn (ha.run pos pins s σ H _ I h) fun us s1 ⟨vs, H1, I1, r1, hl, q1⟩ => ⟨I1.kIn, ?_⟩) he hpl
  have lu : us.length = fs.length := by rw [← r1.length]; exact hl
  refine run_err T0 iC tI F1 hr I1 (by rw [sizeLine_eq, List.nil_append]; omega) fun a s' hK n => ⟨.ref a :: us, .ref a :: vs, ?_, .cons rfl r1, a, C, vs, rfl, hl, T0, T.cl.no, upd_same, fun G z k => ⟨rfl, q1 a G n (mk_fin n z k) z⟩⟩
  have b := B s' (.ref a :: us) hK (by simp [lu])
  simpa using b
theorem pe_mkK (T : CK X.prog X.w X.K X.mg X.base bm C fs) (hr : Room 2 X.A) (hg : Gl X x) (hm : X.mg x = some (.ref C)) (hkw : PK X kws tk) (hks : (backToKw pos (keywordEach kws X.env)).filterMap (·.1) = fs.reverse := by rfl)
    (hall : (backToKw pos (keywordEach kws X.env)).all (·.1.isSome) = true := by rfl) (hdb : (x == ("__debug__" : Str)) = false := by decide)
    (hpl : ((backTo pos (starEach [] X.env)).any (·.1) || (backToKw pos (keywordEach kws X.env)).any (·.1.isNone)) = false := by rfl) :
    PE X (.Call (.Name x p) [] kws pos) (tMkK C fs tk) := by
  refine ⟨fun pins s σ H Q I h => ?_⟩
  obtain ⟨fI, fd, iC, tI, F1, B, BK⟩ := T.ini
  have T0 := T.cl.oex T.ve
  refine wpAny_Call_Name_kw (ld_glob I hg hm ?_ hdb)
  refine PySem.W.callWith_KW0 (h₀ := X.base) I.ok.mod.kin T.cl.kp hall ?_ hpl
  refine thn (hkw.run pos pins s σ H _ I h) fun ws s1 ⟨zs, H1, I1, rz, hl, q1⟩ => ⟨I1.kIn, ?_⟩
  rw [hks]
  have lw : ws.length = fs.length := by rw [← rz.length]; exact hl
  have rr : Vals zs.reverse ws.reverse := vals_rev rz
  refine run_err T0 iC tI F1 hr I1 (Nat.zero_le _) fun a s' hK n => ⟨.ref a :: ws.reverse, .ref a :: zs.reverse, BK s' (.ref a) ws lw, .cons rfl rr, a, C, zs.reverse, rfl, by simp [hl], T0, T.cl.no, upd_same,
    fun G z k => ⟨rfl, q1 a G n (mk_fin n z k) z⟩⟩
theorem pe_mk0 (T : CK0 X.K bm C) (hg : Gl X x) (hm : X.mg x = some (.ref C)) (hdb : (x == ("__debug__" : Str)) = false := by decide) : PE X (.Call (.Name x p) [] [] pos) (tMk0 C) := by
  refine ⟨fun pins s σ H Q I h => ?_⟩
  refine wpAny_Call_Name_kw (ld_glob I hg hm ?_ hdb)
  refine PySem.W.callWith_K0 I.kIn T.cl.kp ?_
  show wpAny _ _ (call (.ref C) []) _ _ _
  obtain ⟨bm', N, nm, qn, bs, hdct, sn, sub, ab, col, dd, k0, k1, k2, k3, k5, mN, hC, hN, hni, TT⟩ := exc_obj I.kIn T.ex
  refine wpAny_call_exc_subT F.excBase_ValueError TT hC hN hni (fun h' a hm' => ?_) (Nat.zero_le _)
  have hn : H a = none := I.hok.gone hm'.new
  obtain ⟨tt, ht, _, _⟩ := hm'.there
  exact ⟨.ref a, upd H a (exo a C none), I.laidN hm'.keeps hm'.new hn (exo_ok ht), rfl, h a _ hn (Ext.new hn) ⟨none, upd_same, rfl⟩⟩
end
end K00

set_option Elab.async false
set_option linter.all false
set_option maxRecDepth 100000
set_option maxHeartbeats 4000000
/-! One entry of the law's lists: an error made by place, one made by names, what reads its fields, what it was made with. -/
namespace K00
open PySem PySem.Spec PyProof.Rows
open L2 LamX
/-- all stays but the lists of M and tables of code objects -/
def GrM (M : List Addr) (H G : Hp) : Prop := ∀ b o, H b = some o → (∀ ps, o ≠ .tbl ps) → ((∃ xs, o = .lst xs) → b ∉ M) → G b = some o
theorem GrM.refl {M : List Addr} {H : Hp} : GrM M H H := fun _ _ e _ _ => e
theorem GrM.trans {M : List Addr} {H G J : Hp} (a : GrM M H G) (b : GrM M G J) : GrM M H J := fun c o e n l => b c o (a c o e n l) n l
theorem GrM.of {M : List Addr} {H G : Hp} (k : ExtN H G) : GrM M H G := fun b o e n _ => k b o e n
theorem GrM.put {M : List Addr} {H : Hp} {p : Addr} {L L' : List V} (h : H p = some (.lst L)) (hp : p ∈ M) : GrM M H (upd H p (.lst L')) := fun b o e n l => by
  by_cases z : b = p
  · subst z
    rw [h] at e
    cases e
    exact absurd hp (l ⟨L, rfl⟩)
  · rw [upd_ne z]
    exact e
theorem GrM.mono {M N : List Addr} {H G : Hp} (g : GrM M H G) (s : ∀ b ∈ M, b ∈ N) : GrM N H G := fun b o e n l => g b o e n fun x z => l x (s b z)
theorem exo_lst {e C : Addr} {d : Option Addr} {xs : List V} : exo e C d ≠ .lst xs := fun z => by
  have z' : HO.ext _ = HO.lst xs := z
  cases z'
theorem exd_lst {e : Addr} {fs : List (Str × V)} {xs : List V} : exd e fs ≠ .lst xs := fun z => by
  have z' : HO.ext _ = HO.lst xs := z
  cases z'
theorem exo_tb {e C : Addr} {d : Option Addr} (ps : Array Value) : exo e C d ≠ .tbl ps := exo_tbl
theorem exd_tb {e : Addr} {fs : List (Str × V)} (ps : Array Value) : exd e fs ≠ .tbl ps := fun z => by
  have z' : HO.ext _ = HO.tbl ps := z
  cases z'
theorem lam_lst {f c : Addr} {F : Lam} {xs : List V} : LamO f F c ≠ .lst xs := fun z => by
  have z' : HO.ext _ = HO.lst xs := z
  cases z'
theorem lam_tb {f c : Addr} {F : Lam} (ps : Array Value) : LamO f F c ≠ .tbl ps := fun z => by
  have z' : HO.ext _ = HO.tbl ps := z
  cases z'
theorem cod_lst {c : Addr} {q : Str} {xs : List V} : CodeO c q ≠ .lst xs := fun z => by
  have z' : HO.ext _ = HO.lst xs := z
  cases z'
theorem ErrAt.gr {M : List Addr} {H G : Hp} {e C : Addr} {ys : List (Str × V)} (x : ErrAt H e C ys) (g : GrM M H G) : ErrAt G e C ys := by
  obtain ⟨d, h1, h2⟩ := x
  refine ⟨d, g _ _ h1 exo_tb (fun ⟨_, z⟩ => absurd z exo_lst), ?_⟩
  cases d with
  | none => exact h2
  | some dx => exact g _ _ h2 exd_tb (fun ⟨_, z⟩ => absurd z exd_lst)
/-- the fields of _law_e, read in a row -/
def fldTA (K : PySem.W.Frag) : List Str → TA
  | [] => tNil
  | f :: r => tCons (tErr K f (tVar 0)) (fldTA K r)
def lamTB (K : PySem.W.Frag) (fs : List Str) : TE := tLst (fldTA K fs)
section
variable (P : Program) (w : World) (K : PySem.W.Frag) (mg : Str → Option Value) (base : Heap)
/-- at t the entry of the class C with the fields fs, made with vs; its list of these is none of M -/
def EntAt (M : List Addr) (H : Hp) (t C : Addr) (fs : List Str) (vs : List V) : Prop := ∃ (e1 e2 l d c : Addr) (F : Lam), H t = some (.tup [.ref e1, .ref e2, .ref l, .ref d]) ∧ ErrAt H e1 C (fs.zip vs).reverse ∧ ErrAt H e2 C (fs.zip vs).reverse ∧
  H l = some (LamO l F c) ∧ H c = some (CodeO c F.q) ∧ LamDoes P w K mg base F "_law_e" (lamTB K fs) ∧ H d = some (.lst vs) ∧ d ∉ M
end
section
variable {P : Program} {w : World} {K : PySem.W.Frag} {mg : Str → Option Value} {base : Heap}
theorem EntAt.gr {M : List Addr} {H G : Hp} {t C : Addr} {fs : List Str} {vs : List V} (x : EntAt P w K mg base M H t C fs vs) (g : GrM M H G) : EntAt P w K mg base M G t C fs vs := by
  obtain ⟨e1, e2, l, d, c, F, h1, h2, h3, h4, h5, h6, h7, h8⟩ := x
  exact ⟨e1, e2, l, d, c, F, g _ _ h1 (fun ps z => nomatch z) (fun ⟨_, z⟩ => nomatch z), h2.gr g, h3.gr g, g _ _ h4 lam_tb (fun ⟨_, z⟩ => absurd z lam_lst), g _ _ h5 codeO_ne (fun ⟨_, z⟩ => absurd z cod_lst), h6,
    g _ _ h7 (fun ps z => nomatch z) (fun _ => h8), h8⟩
theorem EntAt.more {M : List Addr} {H : Hp} {t C m : Addr} {fs : List Str} {vs : List V} (x : EntAt P w K mg base M H t C fs vs) (n : H m = none) : EntAt P w K mg base (m :: M) H t C fs vs := by
  obtain ⟨e1, e2, l, d, c, F, h1, h2, h3, h4, h5, h6, h7, h8⟩ := x
  refine ⟨e1, e2, l, d, c, F, h1, h2, h3, h4, h5, h6, h7, fun z => ?_⟩
  rcases List.mem_cons.mp z with z | z
  · rw [z, n] at h7
    cases h7
  · exact h8 z
/-! ### the entry's reading -/
/-- what makes an error of C with ys, wherever G0 holds -/
def Mkr (σ : L2.St) (G0 : Hp → Prop) (m : TE) (C : Addr) (ys : List (Str × V)) : Prop := ∀ (H : Hp) (Q : VK), G0 H → (∀ (a : Addr) (G : Hp), Ext H G → ErrAt G a C ys → Q (.ref a) G) → m σ H Q
def tEnt (T : List (Addr × Str)) (F : Lam) (m1 m2 : TE) (ta : TA) : TE := tTup (tCons m1 (tCons m2 (tCons (tLamV T F) (tCons (tLst ta) tNil))))
theorem ent_ok {T : List (Addr × Str)} {F : Lam} {m1 m2 : TE} {ta : TA} {σ : L2.St} {G0 : Hp → Prop} {C : Addr} {fs : List Str} {vs : List V} {M : List Addr} {H : Hp} {Q : VK} (g0 : ∀ H G, ExtN H G → G0 H → G0 G) (h1 : Mkr σ G0 m1 C (fs.zip vs).reverse) (h2 : Mkr σ G0 m2 C (fs.zip vs).reverse)
    (hta : ∀ (H : Hp) (Q : List V → Hp → Prop), Q vs H → ta σ H Q) (D : LamDoes P w K mg base F "_law_e" (lamTB K fs)) (hv : vs.length ≤ 100) (hT : Tabs T H) (hG : G0 H) (hM : ∀ m ∈ M, H m ≠ none)
    (k : ∀ (t : Addr) (G : Hp), H t = none → ExtN H G → Tabs T G → EntAt P w K mg base M G t C fs vs → Q (.ref t) G) : tEnt T F m1 m2 ta σ H Q := by
  refine h1 H _ hG fun a1 G1 x1 y1 => ?_
  refine h2 G1 _ (g0 _ _ (ExtN.of x1) hG) fun a2 G2 x2 y2 => ?_
  refine ⟨(hT.ext x1).ext x2, fun l c G3 x3 z3 T3 n3 l3 c3 => ?_⟩
  refine hta G3 _ ⟨by rw [sizeLine_eq]; omega, fun d nd => ?_⟩
  have x4 : Ext G3 (upd G3 d (.lst vs)) := Ext.new nd
  refine ⟨by show 4 ≤ sizeLine; rw [sizeLine_eq]; omega, fun t nt => ?_⟩
  have x5 : Ext (upd G3 d (.lst vs)) (upd (upd G3 d (.lst vs)) t (.tup [.ref a1, .ref a2, .ref l, .ref d])) := Ext.new nt
  have xA : ExtN H G3 := ((ExtN.of x1).trans (ExtN.of x2)).trans x3
  have xB : Ext G3 (upd (upd G3 d (.lst vs)) t (.tup [.ref a1, .ref a2, .ref l, .ref d])) := x4.trans x5
  have xN : ExtN H (upd (upd G3 d (.lst vs)) t (.tup [.ref a1, .ref a2, .ref l, .ref d])) := xA.trans (ExtN.of xB)
  have b3 : ∀ b, G3 b = none → H b = none := fun b nb => by
    cases e : H b with
    | none => rfl
    | some o =>
      have z := z3 b nb
      rw [x2 _ _ (x1 _ _ e)] at z
      cases z
  have back : ∀ b, (upd G3 d (.lst vs)) b = none → H b = none := fun b nb => b3 b (NdefX.upd_none nb)
  refine k t _ (back t nt) xN (T3.ext xB) ⟨a1, a2, l, d, c, F, upd_same, ?_, ?_, xB _ _ l3, xB _ _ c3, D, ?_, fun z => ?_⟩
  · exact ((y1.ext x2).gr (M := []) (GrM.of x3)).ext xB
  · exact (y2.gr (M := []) (GrM.of x3)).ext xB
  · exact x5 _ _ upd_same
  · exact hM d z (b3 d nd)
end
end K00

set_option Elab.async false
set_option linter.all false
set_option maxRecDepth 100000
set_option maxHeartbeats 4000000
/-! A def that appends entries to a list of its own. -/
namespace K00
open PySem PySem.Spec PyProof.Rows
open L2 LamX
def Liv (M : List Addr) (H : Hp) : Prop := ∀ m ∈ M, ∃ o, H m = some o ∧ ∀ ps, o ≠ .tbl ps
theorem Liv.ext {M : List Addr} {H G : Hp} (l : Liv M H) (k : ExtN H G) : Liv M G := fun m hm => by
  obtain ⟨o, e, n⟩ := l m hm
  exact ⟨o, k _ _ e n, n⟩
theorem Liv.ne {M : List Addr} {H : Hp} (l : Liv M H) : ∀ m ∈ M, H m ≠ none := fun m hm z => by
  obtain ⟨o, e, n⟩ := l m hm
  rw [e] at z
  cases z
/-! ### the lambdas -/
section
variable {P : Program} {w : World} {K : PySem.W.Frag} {mg : Str → Option Value} {base : Heap} {q f g h : Str} {scope : Scope} {p0 p1 p2 p3 p4 p5 p6 p7 : Pos} {j : Nat}
def lamA (p0 : Pos) : Arguments := ⟨[], [⟨"_law_e", none, p0⟩], none, [], [], none, []⟩
abbrev SE (scope : Scope) : Prop := FnScope ["_law_e"] ["_law_e"] scope
theorem lam0 (S : SE scope) : LamDoes P w K mg base ⟨lamA p0, .List [] p1, scope, q⟩ "_law_e" (lamTB K []) :=
  ⟨S, fun _ _ _ _ => rfl, fun _ _ _ _ _ _ _ _ => pe_lst pa_nil⟩
theorem lam1 (S : SE scope) : LamDoes P w K mg base ⟨lamA p0, .List [.Attribute (.Name "_law_e" p1) f p2] p3, scope, q⟩ "_law_e" (lamTB K [f]) :=
  ⟨S, fun _ _ _ _ => rfl, fun _ _ _ _ _ _ _ _ => pe_lst (pa_cons (pe_err (pe_var (i := 0) rfl (vis_of S (by simp)))) pa_nil)⟩
theorem lam2 (S : SE scope) : LamDoes P w K mg base ⟨lamA p0, .List [.Attribute (.Name "_law_e" p1) f p2, .Attribute (.Name "_law_e" p3) g p4] p5, scope, q⟩ "_law_e" (lamTB K [f, g]) :=
  ⟨S, fun _ _ _ _ => rfl, fun _ _ _ _ _ _ _ _ => pe_lst (pa_cons (pe_err (pe_var (i := 0) rfl (vis_of S (by simp)))) (pa_cons (pe_err (pe_var (i := 0) rfl (vis_of S (by simp)))) pa_nil))⟩
theorem lam3 (S : SE scope) : LamDoes P w K mg base ⟨lamA p0, .List [.Attribute (.Name "_law_e" p1) f p2, .Attribute (.Name "_law_e" p3) g p4, .Attribute (.Name "_law_e" p5) h p6] p7, scope, q⟩ "_law_e" (lamTB K [f, g, h]) :=
  ⟨S, fun _ _ _ _ => rfl, fun _ _ _ _ _ _ _ _ => pe_lst (pa_cons (pe_err (pe_var (i := 0) rfl (vis_of S (by simp)))) (pa_cons (pe_err (pe_var (i := 0) rfl (vis_of S (by simp)))) (pa_cons (pe_err (pe_var (i := 0) rfl (vis_of S (by simp)))) pa_nil)))⟩
end
/-! ### entries in a row -/
section
variable (P : Program) (w : World) (K : PySem.W.Frag) (mg : Str → Option Value) (base : Heap)
def Ents (M : List Addr) (G : Hp) (xyz : List V) : List V → List (Str × List Str) → Prop := Paired fun v s => ∃ t, v = .ref t ∧ EntAt P w K mg base M G t (He.ga K s.1) s.2 (xyz.take s.2.length)
/-- te makes the entry s -/
def EntOk (σ : L2.St) (T : List (Addr × Str)) (xyz : List V) (G0 : Hp → Prop) (te : TE) (s : Str × List Str) : Prop := ∀ (M : List Addr) (H : Hp) (Q : VK), Tabs T H → Liv M H → G0 H →
  (∀ (t : Addr) (G : Hp), H t = none → ExtN H G → Tabs T G → EntAt P w K mg base M G t (He.ga K s.1) s.2 (xyz.take s.2.length) → Q (.ref t) G) → te σ H Q
end
def tApp (K : PySem.W.Frag) (te : TE) : TS := tDrop (tBM K "list" rAppend (tVar 3) (tCons te tNil))
def tApps (K : PySem.W.Frag) : List TE → TS → TS
  | [], u => u
  | e :: r, u => tSeq (tApp K e) (tApps K r u)
section
variable {P : Program} {w : World} {K : PySem.W.Frag} {mg : Str → Option Value} {base : Heap}
theorem Ents.gr {M : List Addr} {H G : Hp} {xyz : List V} : ∀ {L : List V} {seg : List (Str × List Str)}, Ents P w K mg base M H xyz L seg → GrM M H G → Ents P w K mg base M G xyz L seg
  | _, _, .nil, _ => .nil
  | _, _, .cons ⟨t, e, x⟩ r, g => .cons ⟨t, e, x.gr g⟩ (Ents.gr r g)
theorem Ents.more {M : List Addr} {H : Hp} {m : Addr} {xyz : List V} (n : H m = none) : ∀ {L : List V} {seg : List (Str × List Str)}, Ents P w K mg base M H xyz L seg → Ents P w K mg base (m :: M) H xyz L seg
  | _, _, .nil => .nil
  | _, _, .cons ⟨t, e, x⟩ r => .cons ⟨t, e, x.more n⟩ (Ents.more n r)
theorem Ents.len {M : List Addr} {H : Hp} {xyz : List V} : ∀ {L : List V} {seg : List (Str × List Str)}, Ents P w K mg base M H xyz L seg → L.length = seg.length
  | _, _, .nil => rfl
  | _, _, .cons _ r => by
    rw [List.length_cons, List.length_cons, Ents.len r]
theorem Ents.app {M : List Addr} {H : Hp} {xyz : List V} : ∀ {L L' : List V} {seg seg' : List (Str × List Str)}, Ents P w K mg base M H xyz L seg → Ents P w K mg base M H xyz L' seg' → Ents P w K mg base M H xyz (L ++ L') (seg ++ seg')
  | _, _, _, _, .nil, b => b
  | _, _, _, _, .cons a r, b => .cons a (Ents.app r b)
theorem apps_ok {D : Ends} {u : TS} {σ : L2.St} {T : List (Addr × Str)} {xyz : List V} {p : Addr} {M : List Addr} {H0 : Hp} {G0 : Hp → Prop} (g0 : ∀ H G, GrM [p] H G → G0 H → G0 G) (s3 : σ[3]? = some (some (.ref p))) (n0 : H0 p = none) (l0 : Liv M H0) :
    ∀ {es : List TE} {seg : List (Str × List Str)}, Paired (EntOk P w K mg base σ T xyz G0) es seg → ∀ {H : Hp} {L : List V} {seg0 : List (Str × List Str)}, ExtN H0 H → Tabs T H → G0 H → H p = some (.lst L) → L.length + es.length ≤ 1000 → Ents P w K mg base (p :: M) H xyz L seg0 →
    (∀ (G : Hp) (L' : List V), ExtN H0 G → Tabs T G → G0 G → G p = some (.lst L') → L'.length ≤ 1000 → Ents P w K mg base (p :: M) G xyz L' (seg0 ++ seg) → u D σ G) → tApps K es u D σ H
  | _, _, .nil, H, L, seg0, x, hT, hG, hp, hl, E, k => k H L x hT hG hp (by simpa using hl) (by simpa using E)
  | _, _, .cons (a := e) (b := s) a r, H, L, seg0, x, hT, hG, hp, hl, E, k => by
    have lv : Liv (p :: M) H := fun m hm => by
      rcases List.mem_cons.mp hm with z | z
      · rw [z]
        exact ⟨_, hp, fun ps z => nomatch z⟩
      · exact (l0.ext x) m z
    refine ⟨_, s3, .inl ⟨rfl, _, SqL.of hp⟩, ?_⟩
    refine a (p :: M) H _ hT lv hG fun t G nt xG tG eG => ?_
    have gp : G p = some (.lst L) := xG _ _ hp fun ps z => nomatch z
    refine ⟨p, L, .ref t, rfl, rfl, gp, by rw [sizeLine_eq]; simp at hl; omega, ?_⟩
    have gg : GrM (p :: M) G (upd G p (.lst (L ++ [.ref t]))) := GrM.put gp (by simp)
    have g1 : GrM [p] G (upd G p (.lst (L ++ [.ref t]))) := GrM.put gp (by simp)
    have xx : ExtN H0 (upd G p (.lst (L ++ [.ref t]))) := fun b o e n => by
      rw [upd_ne (ne_of_none e n0)]
      exact xG _ _ (x _ _ e n) n
    have tT : Tabs T (upd G p (.lst (L ++ [.ref t]))) := fun z hz => by
      obtain ⟨ps, y1, y2, y3⟩ := tG z hz
      refine ⟨ps, ?_, y2, fun pos cv hc => ?_⟩
      · rw [upd_ne]
        · exact y1
        · intro q
          rw [q, gp] at y1
          cases y1
      · obtain ⟨c, c1, c2⟩ := y3 pos cv hc
        exact ⟨c, c1, g1 _ _ c2 codeO_ne fun ⟨_, q⟩ => absurd q cod_lst⟩
    refine apps_ok g0 s3 n0 l0 r (H := upd G p (.lst (L ++ [.ref t]))) (L := L ++ [.ref t]) (seg0 := seg0 ++ [s]) xx tT (g0 _ _ ((GrM.of xG).trans g1) hG) upd_same (by simp at hl ⊢; omega)
      (Ents.app (Ents.gr (E.gr (GrM.of xG)) gg) (.cons ⟨t, rfl, eG.gr gg⟩ .nil)) fun G' L' a1 a2 a3 a4 a5 a6 => k G' L' a1 a2 a3 a4 a5 (by simpa using a6)
/-- what such a def promises: a list of the entries seg, made with the first of x, y, z -/
def spMade (P : Program) (w : World) (K : PySem.W.Frag) (mg : Str → Option Value) (base : Heap) (T : List (Addr × Str)) (seg : List (Str × List Str)) : Sp := fun vs H Q _ => ∃ (x y z : V) (M : List Addr), vs = [x, y, z] ∧ Tabs T H ∧ Liv M H ∧
  ∀ (p : Addr) (G : Hp) (L : List V), H p = none → ExtN H G → Tabs T G → G p = some (.lst L) → L.length ≤ 1000 → Ents P w K mg base (p :: M) G [x, y, z] L seg → Q (.ref p) G
end
end K00

set_option Elab.async false
set_option linter.all false
set_option maxRecDepth 100000
set_option maxHeartbeats 4000000
/-! Entries of no to three fields; a def whose code object is known. -/
namespace K00
open PySem PySem.Spec PyProof.Rows
open L2 LamX
section
variable {P : Program} {w : World} {K : PySem.W.Frag} {mg : Str → Option Value} {base : Heap}
/-- the body of a def by its promise, its code object told -/
theorem okc {x qual : Str} {params : Arguments} {body : List Stmt} {scope : Scope} {f : Addr} {fd : FuncData} {CX : CXT} {N ps : List Str} {k : Nat} {sp : Sp} (F : FunD K x qual params body scope [] [] f fd) (S : FnScope N ps scope) (len : ∀ vs H Q E, sp vs H Q E → vs.length = ps.length)
    (hbody : ∀ (c : Addr), (∃ oc od osl, K.lookup f = some ⟨oc, od, .func fd, osl⟩ ∧ fd.code = .ref c) → ∀ (A : Around) (outer : List Env) (s : Shared) (H : Hp) (vs : List V) (Q : VK) (E : XK), Room k (A.deeper (envOfC qual scope s.heap.objs.size f (.ref c))) → sp vs H Q E →
      ∃ t, PSs (cxOf CX P w K mg base N qual scope f (.ref c) A outer s H E) body t ∧ t { nx := fun _ H' => Q .non H', rt := Q } (L2.start N vs) H) : FnOk P w K mg base CX (k + 1) f fd ps sp := by
  obtain ⟨oc, od, dV, kV, doc, pm, an, cdv, ct, osl, e, lk, hcd, _, _⟩ := F.ex
  obtain ⟨c, hc⟩ := He.codeIn_ref hcd
  subst e
  subst hc
  exact fn_of lk hcd S len fun A outer s H vs Q E hr hs => hbody c ⟨oc, od, osl, lk, rfl⟩ A outer s H vs Q E hr hs
/-! ### makers -/
variable {σ : L2.St} {G0 : Hp → Prop} {C : Addr} {f g h : Str} {x y z : V}
theorem mkr0 : Mkr σ G0 (tMk0 C) C (([] : List Str).zip ([] : List V)).reverse := fun H Q _ k a G n e ea => k a G e ea
theorem mkr1 (h0 : σ[0]? = some (some x)) : Mkr σ G0 (tMk C [f] (tCons (tVar 0) tNil)) C ([f].zip [x]).reverse := fun H Q _ k => ⟨_, h0, rfl, fun a G n e ea => k a G e ea⟩
theorem mkr2 (h0 : σ[0]? = some (some x)) (h1 : σ[1]? = some (some y)) : Mkr σ G0 (tMk C [f, g] (tCons (tVar 0) (tCons (tVar 1) tNil))) C ([f, g].zip [x, y]).reverse := fun H Q _ k => ⟨_, h0, _, h1, rfl, fun a G n e ea => k a G e ea⟩
theorem mkr3 (h0 : σ[0]? = some (some x)) (h1 : σ[1]? = some (some y)) (h2 : σ[2]? = some (some z)) : Mkr σ G0 (tMk C [f, g, h] (tCons (tVar 0) (tCons (tVar 1) (tCons (tVar 2) tNil)))) C ([f, g, h].zip [x, y, z]).reverse :=
  fun H Q _ k => ⟨_, h0, _, h1, _, h2, rfl, fun a G n e ea => k a G e ea⟩
theorem mkk1 (h0 : σ[0]? = some (some x)) : Mkr σ G0 (tMkK C [f] (tCons (tVar 0) tNil)) C ([f].zip [x]).reverse := fun H Q _ k => ⟨_, h0, rfl, fun a G n e ea => k a G e ea⟩
theorem mkk2 (h0 : σ[0]? = some (some x)) (h1 : σ[1]? = some (some y)) : Mkr σ G0 (tMkK C [f, g] (tCons (tVar 1) (tCons (tVar 0) tNil))) C ([f, g].zip [x, y]).reverse := fun H Q _ k => ⟨_, h1, _, h0, rfl, fun a G n e ea => k a G e ea⟩
theorem mkk3 (h0 : σ[0]? = some (some x)) (h1 : σ[1]? = some (some y)) (h2 : σ[2]? = some (some z)) : Mkr σ G0 (tMkK C [f, g, h] (tCons (tVar 2) (tCons (tVar 1) (tCons (tVar 0) tNil)))) C ([f, g, h].zip [x, y, z]).reverse :=
  fun H Q _ k => ⟨_, h2, _, h1, _, h0, rfl, fun a G n e ea => k a G e ea⟩
variable {T : List (Addr × Str)} {F : Lam} {nm : Str}
theorem eo0 (g0 : ∀ H G, ExtN H G → G0 H → G0 G) (D : LamDoes P w K mg base F "_law_e" (lamTB K [])) : EntOk P w K mg base σ T [x, y, z] G0 (tEnt T F (tMk0 (He.ga K nm)) (tMk0 (He.ga K nm)) tNil) (nm, []) :=
  fun M H Q hT hL hG k => ent_ok (vs := []) g0 mkr0 mkr0 (fun _ _ q => q) D (Nat.zero_le _) hT hG hL.ne k
theorem eo1 (g0 : ∀ H G, ExtN H G → G0 H → G0 G) (h0 : σ[0]? = some (some x)) (D : LamDoes P w K mg base F "_law_e" (lamTB K [f])) :
    EntOk P w K mg base σ T [x, y, z] G0 (tEnt T F (tMk (He.ga K nm) [f] (tCons (tVar 0) tNil)) (tMkK (He.ga K nm) [f] (tCons (tVar 0) tNil)) (tCons (tVar 0) tNil)) (nm, [f]) :=
  fun M H Q hT hL hG k => ent_ok (vs := [x]) g0 (mkr1 h0) (mkk1 h0) (fun _ _ q => ⟨_, h0, q⟩) D (by simp) hT hG hL.ne k
theorem eo2 (g0 : ∀ H G, ExtN H G → G0 H → G0 G) (h0 : σ[0]? = some (some x)) (h1 : σ[1]? = some (some y)) (D : LamDoes P w K mg base F "_law_e" (lamTB K [f, g])) :
    EntOk P w K mg base σ T [x, y, z] G0 (tEnt T F (tMk (He.ga K nm) [f, g] (tCons (tVar 0) (tCons (tVar 1) tNil))) (tMkK (He.ga K nm) [f, g] (tCons (tVar 1) (tCons (tVar 0) tNil))) (tCons (tVar 0) (tCons (tVar 1) tNil))) (nm, [f, g]) :=
  fun M H Q hT hL hG k => ent_ok (vs := [x, y]) g0 (mkr2 h0 h1) (mkk2 h0 h1) (fun _ _ q => ⟨_, h0, _, h1, q⟩) D (by simp) hT hG hL.ne k
/-- the last one's twin stands in the slot 4 -/
theorem eo3 {a : Addr} (h0 : σ[0]? = some (some x)) (h1 : σ[1]? = some (some y)) (h2 : σ[2]? = some (some z)) (h4 : σ[4]? = some (some (.ref a))) (D : LamDoes P w K mg base F "_law_e" (lamTB K [f, g, h])) :
    EntOk P w K mg base σ T [x, y, z] (fun G => ErrAt G a (He.ga K nm) ([f, g, h].zip [x, y, z]).reverse) (tEnt T F (tMk (He.ga K nm) [f, g, h] (tCons (tVar 0) (tCons (tVar 1) (tCons (tVar 2) tNil)))) (tVar 4) (tCons (tVar 0) (tCons (tVar 1) (tCons (tVar 2) tNil)))) (nm, [f, g, h]) :=
  fun M H Q hT hL hG k => ent_ok (vs := [x, y, z]) (fun H G e q => q.gr (M := []) (GrM.of e)) (mkr3 h0 h1 h2) (fun H Q hG k => ⟨_, h4, k a H (Ext.refl H) hG⟩) (fun _ _ q => ⟨_, h0, _, h1, _, h2, q⟩) D (by simp) hT hG hL.ne k
end
/-! ### the entry's expression -/
section
variable {X : Cx}
theorem pe_ent {m1 m2 : TE} {ta : TA} {T : List (Addr × Str)} {c Pt : Addr} {e1 e2 : Expr} {es : List Expr} {params : Arguments} {body : Expr} {scope : Scope} {lp lq pos : Pos} {j : Nat} (h1 : PE X e1 m1) (h2 : PE X e2 m2) (ha : PA X es ta) (TB : TabB X.base X.mg c Pt) (hcode : X.env.code = .ref c)
    (hm : (Pt, X.env.qual ++ "<lambda>") ∈ T) (hu : ∀ p ∈ T, p.1 = Pt → p.2 = X.env.qual ++ "<lambda>") (hdef : defaultsOf params X.env = ([], [])) (hno : ∀ y ∈ scope.names, y.2 ≠ .free)
    (hs1 : ∀ r, starEach (e1 :: r) X.env = (false, eval e1 X.env) :: starEach r X.env := by intro _; rfl) (hs2 : ∀ r, starEach (e2 :: r) X.env = (false, eval e2 X.env) :: starEach r X.env := by intro _; rfl) :
    PE X (.Tuple [e1, e2, .Lambda params body scope lp, .List es lq] j pos) (tEnt T ⟨params, body, scope, X.env.qual ++ "<lambda>"⟩ m1 m2 ta) :=
  pe_tup (pa_cons h1 (pa_cons h2 (pa_cons (pe_lam TB hcode hm hu hdef hno) (pa_cons (pe_lst ha) pa_nil)) (hs2 _)) (hs1 _))
theorem ps_app {te : TE} {e : Expr} {p1 p2 p3 p4 : Pos} (he : PE X e te) (hN : X.N[3]? = some ("_law_found" : Str)) (hv : Vis X.env.scope ("_law_found" : Str)) (hs : (p2.endLine == p3.line) = true) 
    (hsw : swapsWith (.Call (.Attribute (.Name "_law_found" p1) "append" p2) [e] [] p3) none p4.line X.env = pure false) (hb : attributeBase (.Name "_law_found" p1) "append" X.env (eval (.Name "_law_found" p1) X.env) = eval (.Name "_law_found" p1) X.env)
    (hst : starEach [e] X.env = (false, eval e X.env) :: starEach [] X.env) (hfew : ((backTo p3 (starEach (e :: []) X.env)).all (fun x => !x.1) && (backToKw p3 (keywordEach [] X.env)).all (fun x => x.1.isSome)
      && decide ((e :: []).length + ([] : List Keyword).length + (if ([] : List Keyword).isEmpty then 0 else 1) < 30)) = true) :
    PS X (.Expr (.Call (.Attribute (.Name "_law_found" p1) "append" p2) [e] [] p3) p4) (tApp X.K te) :=
  ps_expr (pe_bm PySem.F.plainAttrs_list PySem.F.slot_list_append PySem.F.type_list_append mt_append (pe_var (i := 3) hN hv) (pa_cons he pa_nil hst) hb hfew hs hst) hsw
end
end K00

set_option Elab.async false
set_option linter.all false
set_option maxRecDepth 100000
set_option maxHeartbeats 8000000
/-! The defs that make entries of all classes. -/
namespace K00
open PySem PySem.Spec PyProof.Rows
open L2 LamX
/-- the tables of the defs that make lambdas, with their lambdas' names -/
def tabT (K : PySem.W.Frag) : List (Addr × Str) := tf.map fun p => ((He.cT K p).2, (p.1 ++ ("." : Str) ++ ("<locals>." : Str)) ++ ("<lambda>" : Str))
def segA : List (Str × List Str) := [("BadArities", ["index"]), ("BadArity", ["thing"]), ("BadAtom", ["thing"]), ("BadAtoms", ["index"]), ("BadAxioms", ["index"]), ("BadBound", ["thing"]), ("BadClause", ["thing"]), ("BadClauses", ["index"]), ("BadDeed", ["thing"]), ("BadDepth", ["thing"]), ("BadDerivation", ["thing"]), ("BadEquations", ["index"]), ("BadFunctions", ["index"]), ("BadGiving", ["variable"]), ("BadGoal", ["thing"]), ("BadLiteral", ["thing"]), ("BadMany", ["thing"]), ("BadName", ["thing"])]
def segB : List (Str × List Str) := [("BadNames", ["thing"]), ("BadNumber", ["thing"]), ("BadOrder", ["thing"]), ("BadPairs", ["index"]), ("BadPaper", ["thing"]), ("BadPlace", ["thing"]), ("BadPredicates", ["index"]), ("BadProblem", ["thing"]), ("BadQuestion", ["thing"]), ("BadRefutation", ["thing"]), ("BadRows", ["index"]), ("BadRules", ["index"]), ("BadSentence", ["thing"]), ("BadSentences", ["index"]), ("BadSession", ["thing"]), ("BadSize", ["thing"]), ("BadSubstitution", ["thing"]), ("BadSymbols", ["index"])]
def segC : List (Str × List Str) := [("BadTable", ["fault"]), ("BadTaken", ["index"]), ("BadText", ["line", "sign"]), ("BadTheory", ["thing"]), ("BadThing", ["thing"]), ("BadTruth", ["thing"]), ("BadTurn", ["thing"]), ("BadWord", ["thing"]), ("BadWords", ["index"]), ("BadWorld", ["thing"]), ("Crowded", ["many"]), ("HasAxiom", ["name"]), ("HasVariables", ["index"]), ("InUse", ["question"]), ("IsWatched", ["question"]), ("NoClash", []), ("NoCount", ["thing"]), ("NoWord", ["thing"])]
def segD : List (Str × List Str) := [("NoWorld", ["world"]), ("NotComplete", ["meeting"]), ("NotFull", []), ("NotGround", ["thing"]), ("NotOrdered", ["name"]), ("NotWatched", ["question"]), ("WouldChange", ["question", "was", "becomes"])]
theorem tab_uniq : ∀ {l : List (Addr × Str)}, (l.map (·.1)).Nodup → ∀ p ∈ l, ∀ q ∈ l, p.1 = q.1 → p.2 = q.2
  | [], _, _, hp, _, _, _ => nomatch hp
  | a :: r, nd, p, hp, q, hq, e => by
    rw [List.map_cons, List.nodup_cons] at nd
    rcases List.mem_cons.mp hp with hp | hp
    · rcases List.mem_cons.mp hq with hq | hq
      · rw [hp, hq]
      · exact absurd (List.mem_map.mpr ⟨q, hq, by rw [← e, hp]⟩) nd.1
    · rcases List.mem_cons.mp hq with hq | hq
      · exact absurd (List.mem_map.mpr ⟨p, hp, by rw [e, hq]⟩) nd.1
      · exact tab_uniq nd.2 p hp q hq e
/-- what is known of the classes -/
structure Cls61 (P : Program) (w : World) (K : PySem.W.Frag) (mg : Str → Option Value) (base : Heap) : Prop where
  ck : ∀ p ∈ cnms, p.2 ≠ [] → CK P w K mg base (bmS (He.ga K "ShowError")) (He.ga K p.1) p.2
  c0 : ∀ p ∈ cnms, p.2 = [] → CK0 K (bmS (He.ga K "ShowError")) (He.ga K p.1)
  mg : ∀ p ∈ cnms, mg p.1 = some (.ref (He.ga K p.1))
/-- the tables of the four defs, and that they are apart -/
structure Tab4 (K : PySem.W.Frag) (mg : Str → Option Value) (base : Heap) : Prop where
  tb : ∀ p ∈ tf, TabB base mg (He.cT K p).1 (He.cT K p).2
  ap : (tf.map fun p => (He.cT K p).2).Nodup
abbrev nQ : List Str := ["_law_x", "_law_y", "_law_z", "_law_found"]
abbrev nQd : List Str := ["_law_x", "_law_y", "_law_z", "_law_found", "_law_named"]
theorem scQa : FnScope nQ ["_law_x", "_law_y", "_law_z"] (defScope s_law_made_a) := ⟨rfl, rfl, rfl, by decide +kernel, rfl, by decide +kernel, by decide +kernel⟩
theorem scQb : FnScope nQ ["_law_x", "_law_y", "_law_z"] (defScope s_law_made_b) := ⟨rfl, rfl, rfl, by decide +kernel, rfl, by decide +kernel, by decide +kernel⟩
theorem scQc : FnScope nQ ["_law_x", "_law_y", "_law_z"] (defScope s_law_made_c) := ⟨rfl, rfl, rfl, by decide +kernel, rfl, by decide +kernel, by decide +kernel⟩
theorem scQd : FnScope nQd ["_law_x", "_law_y", "_law_z"] (defScope s_law_made_d) := ⟨rfl, rfl, rfl, by decide +kernel, rfl, by decide +kernel, by decide +kernel⟩
end K00

set_option Elab.async false
set_option linter.all false
set_option maxRecDepth 100000
set_option maxHeartbeats 8000000
namespace K00
open PySem PySem.Spec PyProof.Rows
open L2 LamX
section
variable {P : Program} {w : World} {K : PySem.W.Frag} {mg : Str → Option Value} {base : Heap}
theorem ok_made_a {fd : FuncData} (F : FnP K "_law_made_a" s_law_made_a (He.ga K "_law_made_a") fd) (c : Cls61 P w K mg base) (t4 : Tab4 K mg base) : FnOk P w K mg base CX0 3 (He.ga K "_law_made_a") fd ["_law_x", "_law_y", "_law_z"] (spMade P w K mg base (tabT K) segA) := by
  refine okc F scQa (fun vs H Q E h => ?_) (fun cd ⟨oc, od, osl, lk, ec⟩ A outer s H vs Q E hr h => ?_)
  · obtain ⟨x, y, z, M, rfl, _⟩ := h
    rfl
  · obtain ⟨x, y, z, M, rfl, hT, hL, k⟩ := h
    have ecd : (He.cT K ("_law_made_a", none)).1 = cd := He.codeOf_eq (p := ("_law_made_a", none)) lk ec
    have tb := t4.tb ("_law_made_a", none) (List.mem_of_getElem? (i := 0) rfl)
    rw [ecd] at tb
    have hm : ((He.cT K ("_law_made_a", none)).2, ("_law_made_a.<locals>.<lambda>" : Str)) ∈ tabT K := List.mem_of_getElem? (i := 0) (by rfl)
    have hu : ∀ p ∈ tabT K, p.1 = (He.cT K ("_law_made_a", none)).2 → p.2 = ("_law_made_a.<locals>.<lambda>" : Str) := fun p hp e => tab_uniq (l := tabT K) t4.ap p hp _ hm e
    have g0 : ∀ H G : Hp, ExtN H G → (fun _ : Hp => True) H → (fun _ : Hp => True) G := fun _ _ _ _ => trivial
    refine ⟨tSeq (tAsg (tLst tNil) (gName 3)) (tApps K [_, _, _, _, _, _, _, _, _, _, _, _, _, _, _, _, _, _] (tRet (tVar 3))), PSs.nox (pss_cons (ps_set (i := 3) scQa.nd rfl (.inl rfl) (pe_lst pa_nil))
      (pss_cons (ps_app (pe_ent (pe_mk (c.ck _ (List.mem_of_getElem? (i := 0) rfl) (by decide)) hr (by rfl) (c.mg _ (List.mem_of_getElem? (i := 0) rfl)) (pa_cons (pv 0) pa_nil) (by decide)) (pe_mkK (c.ck _ (List.mem_of_getElem? (i := 0) rfl) (by decide)) hr (by rfl) (c.mg _ (List.mem_of_getElem? (i := 0) rfl)) (pk_cons (pv 0) pk_nil)) (pa_cons (pv 0) pa_nil) tb rfl hm hu rfl (by decide +kernel)) rfl (.inl rfl) rfl rfl rfl rfl rfl)
      (pss_cons (ps_app (pe_ent (pe_mk (c.ck _ (List.mem_of_getElem? (i := 1) rfl) (by decide)) hr (by rfl) (c.mg _ (List.mem_of_getElem? (i := 1) rfl)) (pa_cons (pv 0) pa_nil) (by decide)) (pe_mkK (c.ck _ (List.mem_of_getElem? (i := 1) rfl) (by decide)) hr (by rfl) (c.mg _ (List.mem_of_getElem? (i := 1) rfl)) (pk_cons (pv 0) pk_nil)) (pa_cons (pv 0) pa_nil) tb rfl hm hu rfl (by decide +kernel)) rfl (.inl rfl) rfl rfl rfl rfl rfl)
      (pss_cons (ps_app (pe_ent (pe_mk (c.ck _ (List.mem_of_getElem? (i := 2) rfl) (by decide)) hr (by rfl) (c.mg _ (List.mem_of_getElem? (i := 2) rfl)) (pa_cons (pv 0) pa_nil) (by decide)) (pe_mkK (c.ck _ (List.mem_of_getElem? (i := 2) rfl) (by decide)) hr (by rfl) (c.mg _ (List.mem_of_getElem? (i := 2) rfl)) (pk_cons (pv 0) pk_nil)) (pa_cons (pv 0) pa_nil) tb rfl hm hu rfl (by decide +kernel)) rfl (.inl rfl) rfl rfl rfl rfl rfl)
      (pss_cons (ps_app (pe_ent (pe_mk (c.ck _ (List.mem_of_getElem? (i := 3) rfl) (by decide)) hr (by rfl) (c.mg _ (List.mem_of_getElem? (i := 3) rfl)) (pa_cons (pv 0) pa_nil) (by decide)) (pe_mkK (c.ck _ (List.mem_of_getElem? (i := 3) rfl) (by decide)) hr (by rfl) (c.mg _ (List.mem_of_getElem? (i := 3) rfl)) (pk_cons (pv 0) pk_nil)) (pa_cons (pv 0) pa_nil) tb rfl hm hu rfl (by decide +kernel)) rfl (.inl rfl) rfl rfl rfl rfl rfl)
      (pss_cons (ps_app (pe_ent (pe_mk (c.ck _ (List.mem_of_getElem? (i := 4) rfl) (by decide)) hr (by rfl) (c.mg _ (List.mem_of_getElem? (i := 4) rfl)) (pa_cons (pv 0) pa_nil) (by decide)) (pe_mkK (c.ck _ (List.mem_of_getElem? (i := 4) rfl) (by decide)) hr (by rfl) (c.mg _ (List.mem_of_getElem? (i := 4) rfl)) (pk_cons (pv 0) pk_nil)) (pa_cons (pv 0) pa_nil) tb rfl hm hu rfl (by decide +kernel)) rfl (.inl rfl) rfl rfl rfl rfl rfl)
      (pss_cons (ps_app (pe_ent (pe_mk (c.ck _ (List.mem_of_getElem? (i := 5) rfl) (by decide)) hr (by rfl) (c.mg _ (List.mem_of_getElem? (i := 5) rfl)) (pa_cons (pv 0) pa_nil) (by decide)) (pe_mkK (c.ck _ (List.mem_of_getElem? (i := 5) rfl) (by decide)) hr (by rfl) (c.mg _ (List.mem_of_getElem? (i := 5) rfl)) (pk_cons (pv 0) pk_nil)) (pa_cons (pv 0) pa_nil) tb rfl hm hu rfl (by decide +kernel)) rfl (.inl rfl) rfl rfl rfl rfl rfl)
      (pss_cons (ps_app (pe_ent (pe_mk (c.ck _ (List.mem_of_getElem? (i := 6) rfl) (by decide)) hr (by rfl) (c.mg _ (List.mem_of_getElem? (i := 6) rfl)) (pa_cons (pv 0) pa_nil) (by decide)) (pe_mkK (c.ck _ (List.mem_of_getElem? (i := 6) rfl) (by decide)) hr (by rfl) (c.mg _ (List.mem_of_getElem? (i := 6) rfl)) (pk_cons (pv 0) pk_nil)) (pa_cons (pv 0) pa_nil) tb rfl hm hu rfl (by decide +kernel)) rfl (.inl rfl) rfl rfl rfl rfl rfl)
      (pss_cons (ps_app (pe_ent (pe_mk (c.ck _ (List.mem_of_getElem? (i := 7) rfl) (by decide)) hr (by rfl) (c.mg _ (List.mem_of_getElem? (i := 7) rfl)) (pa_cons (pv 0) pa_nil) (by decide)) (pe_mkK (c.ck _ (List.mem_of_getElem? (i := 7) rfl) (by decide)) hr (by rfl) (c.mg _ (List.mem_of_getElem? (i := 7) rfl)) (pk_cons (pv 0) pk_nil)) (pa_cons (pv 0) pa_nil) tb rfl hm hu rfl (by decide +kernel)) rfl (.inl rfl) rfl rfl rfl rfl rfl)
      (pss_cons (ps_app (pe_ent (pe_mk (c.ck _ (List.mem_of_getElem? (i := 8) rfl) (by decide)) hr (by rfl) (c.mg _ (List.mem_of_getElem? (i := 8) rfl)) (pa_cons (pv 0) pa_nil) (by decide)) (pe_mkK (c.ck _ (List.mem_of_getElem? (i := 8) rfl) (by decide)) hr (by rfl) (c.mg _ (List.mem_of_getElem? (i := 8) rfl)) (pk_cons (pv 0) pk_nil)) (pa_cons (pv 0) pa_nil) tb rfl hm hu rfl (by decide +kernel)) rfl (.inl rfl) rfl rfl rfl rfl rfl)
      (pss_cons (ps_app (pe_ent (pe_mk (c.ck _ (List.mem_of_getElem? (i := 9) rfl) (by decide)) hr (by rfl) (c.mg _ (List.mem_of_getElem? (i := 9) rfl)) (pa_cons (pv 0) pa_nil) (by decide)) (pe_mkK (c.ck _ (List.mem_of_getElem? (i := 9) rfl) (by decide)) hr (by rfl) (c.mg _ (List.mem_of_getElem? (i := 9) rfl)) (pk_cons (pv 0) pk_nil)) (pa_cons (pv 0) pa_nil) tb rfl hm hu rfl (by decide +kernel)) rfl (.inl rfl) rfl rfl rfl rfl rfl)
      (pss_cons (ps_app (pe_ent (pe_mk (c.ck _ (List.mem_of_getElem? (i := 10) rfl) (by decide)) hr (by rfl) (c.mg _ (List.mem_of_getElem? (i := 10) rfl)) (pa_cons (pv 0) pa_nil) (by decide)) (pe_mkK (c.ck _ (List.mem_of_getElem? (i := 10) rfl) (by decide)) hr (by rfl) (c.mg _ (List.mem_of_getElem? (i := 10) rfl)) (pk_cons (pv 0) pk_nil)) (pa_cons (pv 0) pa_nil) tb rfl hm hu rfl (by decide +kernel)) rfl (.inl rfl) rfl rfl rfl rfl rfl)
      (pss_cons (ps_app (pe_ent (pe_mk (c.ck _ (List.mem_of_getElem? (i := 11) rfl) (by decide)) hr (by rfl) (c.mg _ (List.mem_of_getElem? (i := 11) rfl)) (pa_cons (pv 0) pa_nil) (by decide)) (pe_mkK (c.ck _ (List.mem_of_getElem? (i := 11) rfl) (by decide)) hr (by rfl) (c.mg _ (List.mem_of_getElem? (i := 11) rfl)) (pk_cons (pv 0) pk_nil)) (pa_cons (pv 0) pa_nil) tb rfl hm hu rfl (by decide +kernel)) rfl (.inl rfl) rfl rfl rfl rfl rfl)
      (pss_cons (ps_app (pe_ent (pe_mk (c.ck _ (List.mem_of_getElem? (i := 12) rfl) (by decide)) hr (by rfl) (c.mg _ (List.mem_of_getElem? (i := 12) rfl)) (pa_cons (pv 0) pa_nil) (by decide)) (pe_mkK (c.ck _ (List.mem_of_getElem? (i := 12) rfl) (by decide)) hr (by rfl) (c.mg _ (List.mem_of_getElem? (i := 12) rfl)) (pk_cons (pv 0) pk_nil)) (pa_cons (pv 0) pa_nil) tb rfl hm hu rfl (by decide +kernel)) rfl (.inl rfl) rfl rfl rfl rfl rfl)
      (pss_cons (ps_app (pe_ent (pe_mk (c.ck _ (List.mem_of_getElem? (i := 13) rfl) (by decide)) hr (by rfl) (c.mg _ (List.mem_of_getElem? (i := 13) rfl)) (pa_cons (pv 0) pa_nil) (by decide)) (pe_mkK (c.ck _ (List.mem_of_getElem? (i := 13) rfl) (by decide)) hr (by rfl) (c.mg _ (List.mem_of_getElem? (i := 13) rfl)) (pk_cons (pv 0) pk_nil)) (pa_cons (pv 0) pa_nil) tb rfl hm hu rfl (by decide +kernel)) rfl (.inl rfl) rfl rfl rfl rfl rfl)
      (pss_cons (ps_app (pe_ent (pe_mk (c.ck _ (List.mem_of_getElem? (i := 14) rfl) (by decide)) hr (by rfl) (c.mg _ (List.mem_of_getElem? (i := 14) rfl)) (pa_cons (pv 0) pa_nil) (by decide)) (pe_mkK (c.ck _ (List.mem_of_getElem? (i := 14) rfl) (by decide)) hr (by rfl) (c.mg _ (List.mem_of_getElem? (i := 14) rfl)) (pk_cons (pv 0) pk_nil)) (pa_cons (pv 0) pa_nil) tb rfl hm hu rfl (by decide +kernel)) rfl (.inl rfl) rfl rfl rfl rfl rfl)
      (pss_cons (ps_app (pe_ent (pe_mk (c.ck _ (List.mem_of_getElem? (i := 15) rfl) (by decide)) hr (by rfl) (c.mg _ (List.mem_of_getElem? (i := 15) rfl)) (pa_cons (pv 0) pa_nil) (by decide)) (pe_mkK (c.ck _ (List.mem_of_getElem? (i := 15) rfl) (by decide)) hr (by rfl) (c.mg _ (List.mem_of_getElem? (i := 15) rfl)) (pk_cons (pv 0) pk_nil)) (pa_cons (pv 0) pa_nil) tb rfl hm hu rfl (by decide +kernel)) rfl (.inl rfl) rfl rfl rfl rfl rfl)
      (pss_cons (ps_app (pe_ent (pe_mk (c.ck _ (List.mem_of_getElem? (i := 16) rfl) (by decide)) hr (by rfl) (c.mg _ (List.mem_of_getElem? (i := 16) rfl)) (pa_cons (pv 0) pa_nil) (by decide)) (pe_mkK (c.ck _ (List.mem_of_getElem? (i := 16) rfl) (by decide)) hr (by rfl) (c.mg _ (List.mem_of_getElem? (i := 16) rfl)) (pk_cons (pv 0) pk_nil)) (pa_cons (pv 0) pa_nil) tb rfl hm hu rfl (by decide +kernel)) rfl (.inl rfl) rfl rfl rfl rfl rfl)
      (pss_cons (ps_app (pe_ent (pe_mk (c.ck _ (List.mem_of_getElem? (i := 17) rfl) (by decide)) hr (by rfl) (c.mg _ (List.mem_of_getElem? (i := 17) rfl)) (pa_cons (pv 0) pa_nil) (by decide)) (pe_mkK (c.ck _ (List.mem_of_getElem? (i := 17) rfl) (by decide)) hr (by rfl) (c.mg _ (List.mem_of_getElem? (i := 17) rfl)) (pk_cons (pv 0) pk_nil)) (pa_cons (pv 0) pa_nil) tb rfl hm hu rfl (by decide +kernel)) rfl (.inl rfl) rfl rfl rfl rfl rfl)
      (pss_one (ps_ret (pv 3)))))))))))))))))))))), ?_⟩
    refine ⟨Nat.zero_le _, fun p np => ?_⟩
    exact apps_ok (xyz := [x, y, z]) (M := M) (H0 := H) (G0 := fun _ => True) (p := p) (fun _ _ _ _ => trivial) rfl np hL (.cons (eo1 g0 rfl (lam1 ⟨rfl, rfl, rfl, by decide +kernel, rfl, by decide +kernel, by decide +kernel⟩)) (.cons (eo1 g0 rfl (lam1 ⟨rfl, rfl, rfl, by decide +kernel, rfl, by decide +kernel, by decide +kernel⟩)) (.cons (eo1 g0 rfl (lam1 ⟨rfl, rfl, rfl, by decide +kernel, rfl, by decide +kernel, by decide +kernel⟩)) (.cons (eo1 g0 rfl (lam1 ⟨rfl, rfl, rfl, by decide +kernel, rfl, by decide +kernel, by decide +kernel⟩)) (.cons (eo1 g0 rfl (lam1 ⟨rfl, rfl, rfl, by decide +kernel, rfl, by decide +kernel, by decide +kernel⟩)) (.cons (eo1 g0 rfl (lam1 ⟨rfl, rfl, rfl, by decide +kernel, rfl, by decide +kernel, by decide +kernel⟩)) (.cons (eo1 g0 rfl (lam1 ⟨rfl, rfl, rfl, by decide +kernel, rfl, by decide +kernel, by decide +kernel⟩)) (.cons (eo1 g0 rfl (lam1 ⟨rfl, rfl, rfl, by decide +kernel, rfl, by decide +kernel, by decide +kernel⟩)) (.cons (eo1 g0 rfl (lam1 ⟨rfl, rfl, rfl, by decide +kernel, rfl, by decide +kernel, by decide +kernel⟩)) (.cons (eo1 g0 rfl (lam1 ⟨rfl, rfl, rfl, by decide +kernel, rfl, by decide +kernel, by decide +kernel⟩)) (.cons (eo1 g0 rfl (lam1 ⟨rfl, rfl, rfl, by decide +kernel, rfl, by decide +kernel, by decide +kernel⟩)) (.cons (eo1 g0 rfl (lam1 ⟨rfl, rfl, rfl, by decide +kernel, rfl, by decide +kernel, by decide +kernel⟩)) (.cons (eo1 g0 rfl (lam1 ⟨rfl, rfl, rfl, by decide +kernel, rfl, by decide +kernel, by decide +kernel⟩)) (.cons (eo1 g0 rfl (lam1 ⟨rfl, rfl, rfl, by decide +kernel, rfl, by decide +kernel, by decide +kernel⟩)) (.cons (eo1 g0 rfl (lam1 ⟨rfl, rfl, rfl, by decide +kernel, rfl, by decide +kernel, by decide +kernel⟩)) (.cons (eo1 g0 rfl (lam1 ⟨rfl, rfl, rfl, by decide +kernel, rfl, by decide +kernel, by decide +kernel⟩)) (.cons (eo1 g0 rfl (lam1 ⟨rfl, rfl, rfl, by decide +kernel, rfl, by decide +kernel, by decide +kernel⟩)) (.cons (eo1 g0 rfl (lam1 ⟨rfl, rfl, rfl, by decide +kernel, rfl, by decide +kernel, by decide +kernel⟩)) .nil))))))))))))))))))
      (H := upd H p (.lst [])) (L := []) (seg0 := []) (ExtN.of (Ext.new np)) (hT.ext (Ext.new np)) trivial upd_same (by show 0 + 18 ≤ 1000; omega) .nil fun G L' xG tG _ gp hl E => ⟨_, rfl, k p G L' np xG tG gp hl E⟩
end
end K00

set_option Elab.async false
set_option linter.all false
set_option maxRecDepth 100000
set_option maxHeartbeats 8000000
namespace K00
open PySem PySem.Spec PyProof.Rows
open L2 LamX
section
variable {P : Program} {w : World} {K : PySem.W.Frag} {mg : Str → Option Value} {base : Heap}
theorem ok_made_b {fd : FuncData} (F : FnP K "_law_made_b" s_law_made_b (He.ga K "_law_made_b") fd) (c : Cls61 P w K mg base) (t4 : Tab4 K mg base) : FnOk P w K mg base CX0 3 (He.ga K "_law_made_b") fd ["_law_x", "_law_y", "_law_z"] (spMade P w K mg base (tabT K) segB) := by
  refine okc F scQb (fun vs H Q E h => ?_) (fun cd ⟨oc, od, osl, lk, ec⟩ A outer s H vs Q E hr h => ?_)
  · obtain ⟨x, y, z, M, rfl, _⟩ := h
    rfl
  · obtain ⟨x, y, z, M, rfl, hT, hL, k⟩ := h
    have ecd : (He.cT K ("_law_made_b", none)).1 = cd := He.codeOf_eq (p := ("_law_made_b", none)) lk ec
    have tb := t4.tb ("_law_made_b", none) (List.mem_of_getElem? (i := 1) rfl)
    rw [ecd] at tb
    have hm : ((He.cT K ("_law_made_b", none)).2, ("_law_made_b.<locals>.<lambda>" : Str)) ∈ tabT K := List.mem_of_getElem? (i := 1) (by rfl)
    have hu : ∀ p ∈ tabT K, p.1 = (He.cT K ("_law_made_b", none)).2 → p.2 = ("_law_made_b.<locals>.<lambda>" : Str) := fun p hp e => tab_uniq (l := tabT K) t4.ap p hp _ hm e
    have g0 : ∀ H G : Hp, ExtN H G → (fun _ : Hp => True) H → (fun _ : Hp => True) G := fun _ _ _ _ => trivial
    refine ⟨tSeq (tAsg (tLst tNil) (gName 3)) (tApps K [_, _, _, _, _, _, _, _, _, _, _, _, _, _, _, _, _, _] (tRet (tVar 3))), PSs.nox (pss_cons (ps_set (i := 3) scQb.nd rfl (.inl rfl) (pe_lst pa_nil))
      (pss_cons (ps_app (pe_ent (pe_mk (c.ck _ (List.mem_of_getElem? (i := 18) rfl) (by decide)) hr (by rfl) (c.mg _ (List.mem_of_getElem? (i := 18) rfl)) (pa_cons (pv 0) pa_nil) (by decide)) (pe_mkK (c.ck _ (List.mem_of_getElem? (i := 18) rfl) (by decide)) hr (by rfl) (c.mg _ (List.mem_of_getElem? (i := 18) rfl)) (pk_cons (pv 0) pk_nil)) (pa_cons (pv 0) pa_nil) tb rfl hm hu rfl (by decide +kernel)) rfl (.inl rfl) rfl rfl rfl rfl rfl)
      (pss_cons (ps_app (pe_ent (pe_mk (c.ck _ (List.mem_of_getElem? (i := 19) rfl) (by decide)) hr (by rfl) (c.mg _ (List.mem_of_getElem? (i := 19) rfl)) (pa_cons (pv 0) pa_nil) (by decide)) (pe_mkK (c.ck _ (List.mem_of_getElem? (i := 19) rfl) (by decide)) hr (by rfl) (c.mg _ (List.mem_of_getElem? (i := 19) rfl)) (pk_cons (pv 0) pk_nil)) (pa_cons (pv 0) pa_nil) tb rfl hm hu rfl (by decide +kernel)) rfl (.inl rfl) rfl rfl rfl rfl rfl)
      (pss_cons (ps_app (pe_ent (pe_mk (c.ck _ (List.mem_of_getElem? (i := 20) rfl) (by decide)) hr (by rfl) (c.mg _ (List.mem_of_getElem? (i := 20) rfl)) (pa_cons (pv 0) pa_nil) (by decide)) (pe_mkK (c.ck _ (List.mem_of_getElem? (i := 20) rfl) (by decide)) hr (by rfl) (c.mg _ (List.mem_of_getElem? (i := 20) rfl)) (pk_cons (pv 0) pk_nil)) (pa_cons (pv 0) pa_nil) tb rfl hm hu rfl (by decide +kernel)) rfl (.inl rfl) rfl rfl rfl rfl rfl)
      (pss_cons (ps_app (pe_ent (pe_mk (c.ck _ (List.mem_of_getElem? (i := 21) rfl) (by decide)) hr (by rfl) (c.mg _ (List.mem_of_getElem? (i := 21) rfl)) (pa_cons (pv 0) pa_nil) (by decide)) (pe_mkK (c.ck _ (List.mem_of_getElem? (i := 21) rfl) (by decide)) hr (by rfl) (c.mg _ (List.mem_of_getElem? (i := 21) rfl)) (pk_cons (pv 0) pk_nil)) (pa_cons (pv 0) pa_nil) tb rfl hm hu rfl (by decide +kernel)) rfl (.inl rfl) rfl rfl rfl rfl rfl)
      (pss_cons (ps_app (pe_ent (pe_mk (c.ck _ (List.mem_of_getElem? (i := 22) rfl) (by decide)) hr (by rfl) (c.mg _ (List.mem_of_getElem? (i := 22) rfl)) (pa_cons (pv 0) pa_nil) (by decide)) (pe_mkK (c.ck _ (List.mem_of_getElem? (i := 22) rfl) (by decide)) hr (by rfl) (c.mg _ (List.mem_of_getElem? (i := 22) rfl)) (pk_cons (pv 0) pk_nil)) (pa_cons (pv 0) pa_nil) tb rfl hm hu rfl (by decide +kernel)) rfl (.inl rfl) rfl rfl rfl rfl rfl)
      (pss_cons (ps_app (pe_ent (pe_mk (c.ck _ (List.mem_of_getElem? (i := 23) rfl) (by decide)) hr (by rfl) (c.mg _ (List.mem_of_getElem? (i := 23) rfl)) (pa_cons (pv 0) pa_nil) (by decide)) (pe_mkK (c.ck _ (List.mem_of_getElem? (i := 23) rfl) (by decide)) hr (by rfl) (c.mg _ (List.mem_of_getElem? (i := 23) rfl)) (pk_cons (pv 0) pk_nil)) (pa_cons (pv 0) pa_nil) tb rfl hm hu rfl (by decide +kernel)) rfl (.inl rfl) rfl rfl rfl rfl rfl)
      (pss_cons (ps_app (pe_ent (pe_mk (c.ck _ (List.mem_of_getElem? (i := 24) rfl) (by decide)) hr (by rfl) (c.mg _ (List.mem_of_getElem? (i := 24) rfl)) (pa_cons (pv 0) pa_nil) (by decide)) (pe_mkK (c.ck _ (List.mem_of_getElem? (i := 24) rfl) (by decide)) hr (by rfl) (c.mg _ (List.mem_of_getElem? (i := 24) rfl)) (pk_cons (pv 0) pk_nil)) (pa_cons (pv 0) pa_nil) tb rfl hm hu rfl (by decide +kernel)) rfl (.inl rfl) rfl rfl rfl rfl rfl)
      (pss_cons (ps_app (pe_ent (pe_mk (c.ck _ (List.mem_of_getElem? (i := 25) rfl) (by decide)) hr (by rfl) (c.mg _ (List.mem_of_getElem? (i := 25) rfl)) (pa_cons (pv 0) pa_nil) (by decide)) (pe_mkK (c.ck _ (List.mem_of_getElem? (i := 25) rfl) (by decide)) hr (by rfl) (c.mg _ (List.mem_of_getElem? (i := 25) rfl)) (pk_cons (pv 0) pk_nil)) (pa_cons (pv 0) pa_nil) tb rfl hm hu rfl (by decide +kernel)) rfl (.inl rfl) rfl rfl rfl rfl rfl)
      (pss_cons (ps_app (pe_ent (pe_mk (c.ck _ (List.mem_of_getElem? (i := 26) rfl) (by decide)) hr (by rfl) (c.mg _ (List.mem_of_getElem? (i := 26) rfl)) (pa_cons (pv 0) pa_nil) (by decide)) (pe_mkK (c.ck _ (List.mem_of_getElem? (i := 26) rfl) (by decide)) hr (by rfl) (c.mg _ (List.mem_of_getElem? (i := 26) rfl)) (pk_cons (pv 0) pk_nil)) (pa_cons (pv 0) pa_nil) tb rfl hm hu rfl (by decide +kernel)) rfl (.inl rfl) rfl rfl rfl rfl rfl)
      (pss_cons (ps_app (pe_ent (pe_mk (c.ck _ (List.mem_of_getElem? (i := 27) rfl) (by decide)) hr (by rfl) (c.mg _ (List.mem_of_getElem? (i := 27) rfl)) (pa_cons (pv 0) pa_nil) (by decide)) (pe_mkK (c.ck _ (List.mem_of_getElem? (i := 27) rfl) (by decide)) hr (by rfl) (c.mg _ (List.mem_of_getElem? (i := 27) rfl)) (pk_cons (pv 0) pk_nil)) (pa_cons (pv 0) pa_nil) tb rfl hm hu rfl (by decide +kernel)) rfl (.inl rfl) rfl rfl rfl rfl rfl)
      (pss_cons (ps_app (pe_ent (pe_mk (c.ck _ (List.mem_of_getElem? (i := 28) rfl) (by decide)) hr (by rfl) (c.mg _ (List.mem_of_getElem? (i := 28) rfl)) (pa_cons (pv 0) pa_nil) (by decide)) (pe_mkK (c.ck _ (List.mem_of_getElem? (i := 28) rfl) (by decide)) hr (by rfl) (c.mg _ (List.mem_of_getElem? (i := 28) rfl)) (pk_cons (pv 0) pk_nil)) (pa_cons (pv 0) pa_nil) tb rfl hm hu rfl (by decide +kernel)) rfl (.inl rfl) rfl rfl rfl rfl rfl)
      (pss_cons (ps_app (pe_ent (pe_mk (c.ck _ (List.mem_of_getElem? (i := 29) rfl) (by decide)) hr (by rfl) (c.mg _ (List.mem_of_getElem? (i := 29) rfl)) (pa_cons (pv 0) pa_nil) (by decide)) (pe_mkK (c.ck _ (List.mem_of_getElem? (i := 29) rfl) (by decide)) hr (by rfl) (c.mg _ (List.mem_of_getElem? (i := 29) rfl)) (pk_cons (pv 0) pk_nil)) (pa_cons (pv 0) pa_nil) tb rfl hm hu rfl (by decide +kernel)) rfl (.inl rfl) rfl rfl rfl rfl rfl)
      (pss_cons (ps_app (pe_ent (pe_mk (c.ck _ (List.mem_of_getElem? (i := 30) rfl) (by decide)) hr (by rfl) (c.mg _ (List.mem_of_getElem? (i := 30) rfl)) (pa_cons (pv 0) pa_nil) (by decide)) (pe_mkK (c.ck _ (List.mem_of_getElem? (i := 30) rfl) (by decide)) hr (by rfl) (c.mg _ (List.mem_of_getElem? (i := 30) rfl)) (pk_cons (pv 0) pk_nil)) (pa_cons (pv 0) pa_nil) tb rfl hm hu rfl (by decide +kernel)) rfl (.inl rfl) rfl rfl rfl rfl rfl)
      (pss_cons (ps_app (pe_ent (pe_mk (c.ck _ (List.mem_of_getElem? (i := 31) rfl) (by decide)) hr (by rfl) (c.mg _ (List.mem_of_getElem? (i := 31) rfl)) (pa_cons (pv 0) pa_nil) (by decide)) (pe_mkK (c.ck _ (List.mem_of_getElem? (i := 31) rfl) (by decide)) hr (by rfl) (c.mg _ (List.mem_of_getElem? (i := 31) rfl)) (pk_cons (pv 0) pk_nil)) (pa_cons (pv 0) pa_nil) tb rfl hm hu rfl (by decide +kernel)) rfl (.inl rfl) rfl rfl rfl rfl rfl)
      (pss_cons (ps_app (pe_ent (pe_mk (c.ck _ (List.mem_of_getElem? (i := 32) rfl) (by decide)) hr (by rfl) (c.mg _ (List.mem_of_getElem? (i := 32) rfl)) (pa_cons (pv 0) pa_nil) (by decide)) (pe_mkK (c.ck _ (List.mem_of_getElem? (i := 32) rfl) (by decide)) hr (by rfl) (c.mg _ (List.mem_of_getElem? (i := 32) rfl)) (pk_cons (pv 0) pk_nil)) (pa_cons (pv 0) pa_nil) tb rfl hm hu rfl (by decide +kernel)) rfl (.inl rfl) rfl rfl rfl rfl rfl)
      (pss_cons (ps_app (pe_ent (pe_mk (c.ck _ (List.mem_of_getElem? (i := 33) rfl) (by decide)) hr (by rfl) (c.mg _ (List.mem_of_getElem? (i := 33) rfl)) (pa_cons (pv 0) pa_nil) (by decide)) (pe_mkK (c.ck _ (List.mem_of_getElem? (i := 33) rfl) (by decide)) hr (by rfl) (c.mg _ (List.mem_of_getElem? (i := 33) rfl)) (pk_cons (pv 0) pk_nil)) (pa_cons (pv 0) pa_nil) tb rfl hm hu rfl (by decide +kernel)) rfl (.inl rfl) rfl rfl rfl rfl rfl)
      (pss_cons (ps_app (pe_ent (pe_mk (c.ck _ (List.mem_of_getElem? (i := 34) rfl) (by decide)) hr (by rfl) (c.mg _ (List.mem_of_getElem? (i := 34) rfl)) (pa_cons (pv 0) pa_nil) (by decide)) (pe_mkK (c.ck _ (List.mem_of_getElem? (i := 34) rfl) (by decide)) hr (by rfl) (c.mg _ (List.mem_of_getElem? (i := 34) rfl)) (pk_cons (pv 0) pk_nil)) (pa_cons (pv 0) pa_nil) tb rfl hm hu rfl (by decide +kernel)) rfl (.inl rfl) rfl rfl rfl rfl rfl)
      (pss_cons (ps_app (pe_ent (pe_mk (c.ck _ (List.mem_of_getElem? (i := 35) rfl) (by decide)) hr (by rfl) (c.mg _ (List.mem_of_getElem? (i := 35) rfl)) (pa_cons (pv 0) pa_nil) (by decide)) (pe_mkK (c.ck _ (List.mem_of_getElem? (i := 35) rfl) (by decide)) hr (by rfl) (c.mg _ (List.mem_of_getElem? (i := 35) rfl)) (pk_cons (pv 0) pk_nil)) (pa_cons (pv 0) pa_nil) tb rfl hm hu rfl (by decide +kernel)) rfl (.inl rfl) rfl rfl rfl rfl rfl)
      (pss_one (ps_ret (pv 3)))))))))))))))))))))), ?_⟩
    refine ⟨Nat.zero_le _, fun p np => ?_⟩
    exact apps_ok (xyz := [x, y, z]) (M := M) (H0 := H) (G0 := fun _ => True) (p := p) (fun _ _ _ _ => trivial) rfl np hL (.cons (eo1 g0 rfl (lam1 ⟨rfl, rfl, rfl, by decide +kernel, rfl, by decide +kernel, by decide +kernel⟩)) (.cons (eo1 g0 rfl (lam1 ⟨rfl, rfl, rfl, by decide +kernel, rfl, by decide +kernel, by decide +kernel⟩)) (.cons (eo1 g0 rfl (lam1 ⟨rfl, rfl, rfl, by decide +kernel, rfl, by decide +kernel, by decide +kernel⟩)) (.cons (eo1 g0 rfl (lam1 ⟨rfl, rfl, rfl, by decide +kernel, rfl, by decide +kernel, by decide +kernel⟩)) (.cons (eo1 g0 rfl (lam1 ⟨rfl, rfl, rfl, by decide +kernel, rfl, by decide +kernel, by decide +kernel⟩)) (.cons (eo1 g0 rfl (lam1 ⟨rfl, rfl, rfl, by decide +kernel, rfl, by decide +kernel, by decide +kernel⟩)) (.cons (eo1 g0 rfl (lam1 ⟨rfl, rfl, rfl, by decide +kernel, rfl, by decide +kernel, by decide +kernel⟩)) (.cons (eo1 g0 rfl (lam1 ⟨rfl, rfl, rfl, by decide +kernel, rfl, by decide +kernel, by decide +kernel⟩)) (.cons (eo1 g0 rfl (lam1 ⟨rfl, rfl, rfl, by decide +kernel, rfl, by decide +kernel, by decide +kernel⟩)) (.cons (eo1 g0 rfl (lam1 ⟨rfl, rfl, rfl, by decide +kernel, rfl, by decide +kernel, by decide +kernel⟩)) (.cons (eo1 g0 rfl (lam1 ⟨rfl, rfl, rfl, by decide +kernel, rfl, by decide +kernel, by decide +kernel⟩)) (.cons (eo1 g0 rfl (lam1 ⟨rfl, rfl, rfl, by decide +kernel, rfl, by decide +kernel, by decide +kernel⟩)) (.cons (eo1 g0 rfl (lam1 ⟨rfl, rfl, rfl, by decide +kernel, rfl, by decide +kernel, by decide +kernel⟩)) (.cons (eo1 g0 rfl (lam1 ⟨rfl, rfl, rfl, by decide +kernel, rfl, by decide +kernel, by decide +kernel⟩)) (.cons (eo1 g0 rfl (lam1 ⟨rfl, rfl, rfl, by decide +kernel, rfl, by decide +kernel, by decide +kernel⟩)) (.cons (eo1 g0 rfl (lam1 ⟨rfl, rfl, rfl, by decide +kernel, rfl, by decide +kernel, by decide +kernel⟩)) (.cons (eo1 g0 rfl (lam1 ⟨rfl, rfl, rfl, by decide +kernel, rfl, by decide +kernel, by decide +kernel⟩)) (.cons (eo1 g0 rfl (lam1 ⟨rfl, rfl, rfl, by decide +kernel, rfl, by decide +kernel, by decide +kernel⟩)) .nil))))))))))))))))))
      (H := upd H p (.lst [])) (L := []) (seg0 := []) (ExtN.of (Ext.new np)) (hT.ext (Ext.new np)) trivial upd_same (by show 0 + 18 ≤ 1000; omega) .nil fun G L' xG tG _ gp hl E => ⟨_, rfl, k p G L' np xG tG gp hl E⟩
end
end K00

set_option Elab.async false
set_option linter.all false
set_option maxRecDepth 100000
set_option maxHeartbeats 8000000
namespace K00
open PySem PySem.Spec PyProof.Rows
open L2 LamX
section
variable {P : Program} {w : World} {K : PySem.W.Frag} {mg : Str → Option Value} {base : Heap}
theorem ok_made_c {fd : FuncData} (F : FnP K "_law_made_c" s_law_made_c (He.ga K "_law_made_c") fd) (c : Cls61 P w K mg base) (t4 : Tab4 K mg base) : FnOk P w K mg base CX0 3 (He.ga K "_law_made_c") fd ["_law_x", "_law_y", "_law_z"] (spMade P w K mg base (tabT K) segC) := by
  refine okc F scQc (fun vs H Q E h => ?_) (fun cd ⟨oc, od, osl, lk, ec⟩ A outer s H vs Q E hr h => ?_)
  · obtain ⟨x, y, z, M, rfl, _⟩ := h
    rfl
  · obtain ⟨x, y, z, M, rfl, hT, hL, k⟩ := h
    have ecd : (He.cT K ("_law_made_c", none)).1 = cd := He.codeOf_eq (p := ("_law_made_c", none)) lk ec
    have tb := t4.tb ("_law_made_c", none) (List.mem_of_getElem? (i := 2) rfl)
    rw [ecd] at tb
    have hm : ((He.cT K ("_law_made_c", none)).2, ("_law_made_c.<locals>.<lambda>" : Str)) ∈ tabT K := List.mem_of_getElem? (i := 2) (by rfl)
    have hu : ∀ p ∈ tabT K, p.1 = (He.cT K ("_law_made_c", none)).2 → p.2 = ("_law_made_c.<locals>.<lambda>" : Str) := fun p hp e => tab_uniq (l := tabT K) t4.ap p hp _ hm e
    have g0 : ∀ H G : Hp, ExtN H G → (fun _ : Hp => True) H → (fun _ : Hp => True) G := fun _ _ _ _ => trivial
    refine ⟨tSeq (tAsg (tLst tNil) (gName 3)) (tApps K [_, _, _, _, _, _, _, _, _, _, _, _, _, _, _, _, _, _] (tRet (tVar 3))), PSs.nox (pss_cons (ps_set (i := 3) scQc.nd rfl (.inl rfl) (pe_lst pa_nil))
      (pss_cons (ps_app (pe_ent (pe_mk (c.ck _ (List.mem_of_getElem? (i := 36) rfl) (by decide)) hr (by rfl) (c.mg _ (List.mem_of_getElem? (i := 36) rfl)) (pa_cons (pv 0) pa_nil) (by decide)) (pe_mkK (c.ck _ (List.mem_of_getElem? (i := 36) rfl) (by decide)) hr (by rfl) (c.mg _ (List.mem_of_getElem? (i := 36) rfl)) (pk_cons (pv 0) pk_nil)) (pa_cons (pv 0) pa_nil) tb rfl hm hu rfl (by decide +kernel)) rfl (.inl rfl) rfl rfl rfl rfl rfl)
      (pss_cons (ps_app (pe_ent (pe_mk (c.ck _ (List.mem_of_getElem? (i := 37) rfl) (by decide)) hr (by rfl) (c.mg _ (List.mem_of_getElem? (i := 37) rfl)) (pa_cons (pv 0) pa_nil) (by decide)) (pe_mkK (c.ck _ (List.mem_of_getElem? (i := 37) rfl) (by decide)) hr (by rfl) (c.mg _ (List.mem_of_getElem? (i := 37) rfl)) (pk_cons (pv 0) pk_nil)) (pa_cons (pv 0) pa_nil) tb rfl hm hu rfl (by decide +kernel)) rfl (.inl rfl) rfl rfl rfl rfl rfl)
      (pss_cons (ps_app (pe_ent (pe_mk (c.ck _ (List.mem_of_getElem? (i := 38) rfl) (by decide)) hr (by rfl) (c.mg _ (List.mem_of_getElem? (i := 38) rfl)) (pa_cons (pv 0) (pa_cons (pv 1) pa_nil)) (by decide)) (pe_mkK (c.ck _ (List.mem_of_getElem? (i := 38) rfl) (by decide)) hr (by rfl) (c.mg _ (List.mem_of_getElem? (i := 38) rfl)) (pk_cons (pv 1) (pk_cons (pv 0) pk_nil))) (pa_cons (pv 0) (pa_cons (pv 1) pa_nil)) tb rfl hm hu rfl (by decide +kernel)) rfl (.inl rfl) rfl rfl rfl rfl rfl)
      (pss_cons (ps_app (pe_ent (pe_mk (c.ck _ (List.mem_of_getElem? (i := 39) rfl) (by decide)) hr (by rfl) (c.mg _ (List.mem_of_getElem? (i := 39) rfl)) (pa_cons (pv 0) pa_nil) (by decide)) (pe_mkK (c.ck _ (List.mem_of_getElem? (i := 39) rfl) (by decide)) hr (by rfl) (c.mg _ (List.mem_of_getElem? (i := 39) rfl)) (pk_cons (pv 0) pk_nil)) (pa_cons (pv 0) pa_nil) tb rfl hm hu rfl (by decide +kernel)) rfl (.inl rfl) rfl rfl rfl rfl rfl)
      (pss_cons (ps_app (pe_ent (pe_mk (c.ck _ (List.mem_of_getElem? (i := 40) rfl) (by decide)) hr (by rfl) (c.mg _ (List.mem_of_getElem? (i := 40) rfl)) (pa_cons (pv 0) pa_nil) (by decide)) (pe_mkK (c.ck _ (List.mem_of_getElem? (i := 40) rfl) (by decide)) hr (by rfl) (c.mg _ (List.mem_of_getElem? (i := 40) rfl)) (pk_cons (pv 0) pk_nil)) (pa_cons (pv 0) pa_nil) tb rfl hm hu rfl (by decide +kernel)) rfl (.inl rfl) rfl rfl rfl rfl rfl)
      (pss_cons (ps_app (pe_ent (pe_mk (c.ck _ (List.mem_of_getElem? (i := 41) rfl) (by decide)) hr (by rfl) (c.mg _ (List.mem_of_getElem? (i := 41) rfl)) (pa_cons (pv 0) pa_nil) (by decide)) (pe_mkK (c.ck _ (List.mem_of_getElem? (i := 41) rfl) (by decide)) hr (by rfl) (c.mg _ (List.mem_of_getElem? (i := 41) rfl)) (pk_cons (pv 0) pk_nil)) (pa_cons (pv 0) pa_nil) tb rfl hm hu rfl (by decide +kernel)) rfl (.inl rfl) rfl rfl rfl rfl rfl)
      (pss_cons (ps_app (pe_ent (pe_mk (c.ck _ (List.mem_of_getElem? (i := 42) rfl) (by decide)) hr (by rfl) (c.mg _ (List.mem_of_getElem? (i := 42) rfl)) (pa_cons (pv 0) pa_nil) (by decide)) (pe_mkK (c.ck _ (List.mem_of_getElem? (i := 42) rfl) (by decide)) hr (by rfl) (c.mg _ (List.mem_of_getElem? (i := 42) rfl)) (pk_cons (pv 0) pk_nil)) (pa_cons (pv 0) pa_nil) tb rfl hm hu rfl (by decide +kernel)) rfl (.inl rfl) rfl rfl rfl rfl rfl)
      (pss_cons (ps_app (pe_ent (pe_mk (c.ck _ (List.mem_of_getElem? (i := 43) rfl) (by decide)) hr (by rfl) (c.mg _ (List.mem_of_getElem? (i := 43) rfl)) (pa_cons (pv 0) pa_nil) (by decide)) (pe_mkK (c.ck _ (List.mem_of_getElem? (i := 43) rfl) (by decide)) hr (by rfl) (c.mg _ (List.mem_of_getElem? (i := 43) rfl)) (pk_cons (pv 0) pk_nil)) (pa_cons (pv 0) pa_nil) tb rfl hm hu rfl (by decide +kernel)) rfl (.inl rfl) rfl rfl rfl rfl rfl)
      (pss_cons (ps_app (pe_ent (pe_mk (c.ck _ (List.mem_of_getElem? (i := 44) rfl) (by decide)) hr (by rfl) (c.mg _ (List.mem_of_getElem? (i := 44) rfl)) (pa_cons (pv 0) pa_nil) (by decide)) (pe_mkK (c.ck _ (List.mem_of_getElem? (i := 44) rfl) (by decide)) hr (by rfl) (c.mg _ (List.mem_of_getElem? (i := 44) rfl)) (pk_cons (pv 0) pk_nil)) (pa_cons (pv 0) pa_nil) tb rfl hm hu rfl (by decide +kernel)) rfl (.inl rfl) rfl rfl rfl rfl rfl)
      (pss_cons (ps_app (pe_ent (pe_mk (c.ck _ (List.mem_of_getElem? (i := 45) rfl) (by decide)) hr (by rfl) (c.mg _ (List.mem_of_getElem? (i := 45) rfl)) (pa_cons (pv 0) pa_nil) (by decide)) (pe_mkK (c.ck _ (List.mem_of_getElem? (i := 45) rfl) (by decide)) hr (by rfl) (c.mg _ (List.mem_of_getElem? (i := 45) rfl)) (pk_cons (pv 0) pk_nil)) (pa_cons (pv 0) pa_nil) tb rfl hm hu rfl (by decide +kernel)) rfl (.inl rfl) rfl rfl rfl rfl rfl)
      (pss_cons (ps_app (pe_ent (pe_mk (c.ck _ (List.mem_of_getElem? (i := 46) rfl) (by decide)) hr (by rfl) (c.mg _ (List.mem_of_getElem? (i := 46) rfl)) (pa_cons (pv 0) pa_nil) (by decide)) (pe_mkK (c.ck _ (List.mem_of_getElem? (i := 46) rfl) (by decide)) hr (by rfl) (c.mg _ (List.mem_of_getElem? (i := 46) rfl)) (pk_cons (pv 0) pk_nil)) (pa_cons (pv 0) pa_nil) tb rfl hm hu rfl (by decide +kernel)) rfl (.inl rfl) rfl rfl rfl rfl rfl)
      (pss_cons (ps_app (pe_ent (pe_mk (c.ck _ (List.mem_of_getElem? (i := 47) rfl) (by decide)) hr (by rfl) (c.mg _ (List.mem_of_getElem? (i := 47) rfl)) (pa_cons (pv 0) pa_nil) (by decide)) (pe_mkK (c.ck _ (List.mem_of_getElem? (i := 47) rfl) (by decide)) hr (by rfl) (c.mg _ (List.mem_of_getElem? (i := 47) rfl)) (pk_cons (pv 0) pk_nil)) (pa_cons (pv 0) pa_nil) tb rfl hm hu rfl (by decide +kernel)) rfl (.inl rfl) rfl rfl rfl rfl rfl)
      (pss_cons (ps_app (pe_ent (pe_mk (c.ck _ (List.mem_of_getElem? (i := 48) rfl) (by decide)) hr (by rfl) (c.mg _ (List.mem_of_getElem? (i := 48) rfl)) (pa_cons (pv 0) pa_nil) (by decide)) (pe_mkK (c.ck _ (List.mem_of_getElem? (i := 48) rfl) (by decide)) hr (by rfl) (c.mg _ (List.mem_of_getElem? (i := 48) rfl)) (pk_cons (pv 0) pk_nil)) (pa_cons (pv 0) pa_nil) tb rfl hm hu rfl (by decide +kernel)) rfl (.inl rfl) rfl rfl rfl rfl rfl)
      (pss_cons (ps_app (pe_ent (pe_mk (c.ck _ (List.mem_of_getElem? (i := 49) rfl) (by decide)) hr (by rfl) (c.mg _ (List.mem_of_getElem? (i := 49) rfl)) (pa_cons (pv 0) pa_nil) (by decide)) (pe_mkK (c.ck _ (List.mem_of_getElem? (i := 49) rfl) (by decide)) hr (by rfl) (c.mg _ (List.mem_of_getElem? (i := 49) rfl)) (pk_cons (pv 0) pk_nil)) (pa_cons (pv 0) pa_nil) tb rfl hm hu rfl (by decide +kernel)) rfl (.inl rfl) rfl rfl rfl rfl rfl)
      (pss_cons (ps_app (pe_ent (pe_mk (c.ck _ (List.mem_of_getElem? (i := 50) rfl) (by decide)) hr (by rfl) (c.mg _ (List.mem_of_getElem? (i := 50) rfl)) (pa_cons (pv 0) pa_nil) (by decide)) (pe_mkK (c.ck _ (List.mem_of_getElem? (i := 50) rfl) (by decide)) hr (by rfl) (c.mg _ (List.mem_of_getElem? (i := 50) rfl)) (pk_cons (pv 0) pk_nil)) (pa_cons (pv 0) pa_nil) tb rfl hm hu rfl (by decide +kernel)) rfl (.inl rfl) rfl rfl rfl rfl rfl)
      (pss_cons (ps_app (pe_ent (pe_mk0 (c.c0 _ (List.mem_of_getElem? (i := 51) rfl) rfl) (by rfl) (c.mg _ (List.mem_of_getElem? (i := 51) rfl))) (pe_mk0 (c.c0 _ (List.mem_of_getElem? (i := 51) rfl) rfl) (by rfl) (c.mg _ (List.mem_of_getElem? (i := 51) rfl))) pa_nil tb rfl hm hu rfl (by decide +kernel)) rfl (.inl rfl) rfl rfl rfl rfl rfl)
      (pss_cons (ps_app (pe_ent (pe_mk (c.ck _ (List.mem_of_getElem? (i := 52) rfl) (by decide)) hr (by rfl) (c.mg _ (List.mem_of_getElem? (i := 52) rfl)) (pa_cons (pv 0) pa_nil) (by decide)) (pe_mkK (c.ck _ (List.mem_of_getElem? (i := 52) rfl) (by decide)) hr (by rfl) (c.mg _ (List.mem_of_getElem? (i := 52) rfl)) (pk_cons (pv 0) pk_nil)) (pa_cons (pv 0) pa_nil) tb rfl hm hu rfl (by decide +kernel)) rfl (.inl rfl) rfl rfl rfl rfl rfl)
      (pss_cons (ps_app (pe_ent (pe_mk (c.ck _ (List.mem_of_getElem? (i := 53) rfl) (by decide)) hr (by rfl) (c.mg _ (List.mem_of_getElem? (i := 53) rfl)) (pa_cons (pv 0) pa_nil) (by decide)) (pe_mkK (c.ck _ (List.mem_of_getElem? (i := 53) rfl) (by decide)) hr (by rfl) (c.mg _ (List.mem_of_getElem? (i := 53) rfl)) (pk_cons (pv 0) pk_nil)) (pa_cons (pv 0) pa_nil) tb rfl hm hu rfl (by decide +kernel)) rfl (.inl rfl) rfl rfl rfl rfl rfl)
      (pss_one (ps_ret (pv 3)))))))))))))))))))))), ?_⟩
    refine ⟨Nat.zero_le _, fun p np => ?_⟩
    exact apps_ok (xyz := [x, y, z]) (M := M) (H0 := H) (G0 := fun _ => True) (p := p) (fun _ _ _ _ => trivial) rfl np hL (.cons (eo1 g0 rfl (lam1 ⟨rfl, rfl, rfl, by decide +kernel, rfl, by decide +kernel, by decide +kernel⟩)) (.cons (eo1 g0 rfl (lam1 ⟨rfl, rfl, rfl, by decide +kernel, rfl, by decide +kernel, by decide +kernel⟩)) (.cons (eo2 g0 rfl rfl (lam2 ⟨rfl, rfl, rfl, by decide +kernel, rfl, by decide +kernel, by decide +kernel⟩)) (.cons (eo1 g0 rfl (lam1 ⟨rfl, rfl, rfl, by decide +kernel, rfl, by decide +kernel, by decide +kernel⟩)) (.cons (eo1 g0 rfl (lam1 ⟨rfl, rfl, rfl, by decide +kernel, rfl, by decide +kernel, by decide +kernel⟩)) (.cons (eo1 g0 rfl (lam1 ⟨rfl, rfl, rfl, by decide +kernel, rfl, by decide +kernel, by decide +kernel⟩)) (.cons (eo1 g0 rfl (lam1 ⟨rfl, rfl, rfl, by decide +kernel, rfl, by decide +kernel, by decide +kernel⟩)) (.cons (eo1 g0 rfl (lam1 ⟨rfl, rfl, rfl, by decide +kernel, rfl, by decide +kernel, by decide +kernel⟩)) (.cons (eo1 g0 rfl (lam1 ⟨rfl, rfl, rfl, by decide +kernel, rfl, by decide +kernel, by decide +kernel⟩)) (.cons (eo1 g0 rfl (lam1 ⟨rfl, rfl, rfl, by decide +kernel, rfl, by decide +kernel, by decide +kernel⟩)) (.cons (eo1 g0 rfl (lam1 ⟨rfl, rfl, rfl, by decide +kernel, rfl, by decide +kernel, by decide +kernel⟩)) (.cons (eo1 g0 rfl (lam1 ⟨rfl, rfl, rfl, by decide +kernel, rfl, by decide +kernel, by decide +kernel⟩)) (.cons (eo1 g0 rfl (lam1 ⟨rfl, rfl, rfl, by decide +kernel, rfl, by decide +kernel, by decide +kernel⟩)) (.cons (eo1 g0 rfl (lam1 ⟨rfl, rfl, rfl, by decide +kernel, rfl, by decide +kernel, by decide +kernel⟩)) (.cons (eo1 g0 rfl (lam1 ⟨rfl, rfl, rfl, by decide +kernel, rfl, by decide +kernel, by decide +kernel⟩)) (.cons (eo0 g0 (lam0 ⟨rfl, rfl, rfl, by decide +kernel, rfl, by decide +kernel, by decide +kernel⟩)) (.cons (eo1 g0 rfl (lam1 ⟨rfl, rfl, rfl, by decide +kernel, rfl, by decide +kernel, by decide +kernel⟩)) (.cons (eo1 g0 rfl (lam1 ⟨rfl, rfl, rfl, by decide +kernel, rfl, by decide +kernel, by decide +kernel⟩)) .nil))))))))))))))))))
      (H := upd H p (.lst [])) (L := []) (seg0 := []) (ExtN.of (Ext.new np)) (hT.ext (Ext.new np)) trivial upd_same (by show 0 + 18 ≤ 1000; omega) .nil fun G L' xG tG _ gp hl E => ⟨_, rfl, k p G L' np xG tG gp hl E⟩
end
end K00

set_option Elab.async false
set_option linter.all false
set_option maxRecDepth 100000
set_option maxHeartbeats 8000000
namespace K00
open PySem PySem.Spec PyProof.Rows
open L2 LamX
section
variable {P : Program} {w : World} {K : PySem.W.Frag} {mg : Str → Option Value} {base : Heap}
theorem ok_made_d {fd : FuncData} (F : FnP K "_law_made_d" s_law_made_d (He.ga K "_law_made_d") fd) (c : Cls61 P w K mg base) (t4 : Tab4 K mg base) : FnOk P w K mg base CX0 3 (He.ga K "_law_made_d") fd ["_law_x", "_law_y", "_law_z"] (spMade P w K mg base (tabT K) segD) := by
  refine okc F scQd (fun vs H Q E h => ?_) (fun cd ⟨oc, od, osl, lk, ec⟩ A outer s H vs Q E hr h => ?_)
  · obtain ⟨x, y, z, M, rfl, _⟩ := h
    rfl
  · obtain ⟨x, y, z, M, rfl, hT, hL, k⟩ := h
    have ecd : (He.cT K ("_law_made_d", none)).1 = cd := He.codeOf_eq (p := ("_law_made_d", none)) lk ec
    have tb := t4.tb ("_law_made_d", none) (List.mem_of_getElem? (i := 3) rfl)
    rw [ecd] at tb
    have hm : ((He.cT K ("_law_made_d", none)).2, ("_law_made_d.<locals>.<lambda>" : Str)) ∈ tabT K := List.mem_of_getElem? (i := 3) (by rfl)
    have hu : ∀ p ∈ tabT K, p.1 = (He.cT K ("_law_made_d", none)).2 → p.2 = ("_law_made_d.<locals>.<lambda>" : Str) := fun p hp e => tab_uniq (l := tabT K) t4.ap p hp _ hm e
    have g0 : ∀ H G : Hp, ExtN H G → (fun _ : Hp => True) H → (fun _ : Hp => True) G := fun _ _ _ _ => trivial
    refine ⟨tSeq (tAsg (tLst tNil) (gName 3)) (tApps K [_, _, _, _, _, _] (tSeq (tAsg _ (gName 4)) (tApps K [_] (tRet (tVar 3))))), PSs.nox (pss_cons (ps_set (i := 3) scQd.nd rfl (.inl rfl) (pe_lst pa_nil))
      (pss_cons (ps_app (pe_ent (pe_mk (c.ck _ (List.mem_of_getElem? (i := 54) rfl) (by decide)) hr (by rfl) (c.mg _ (List.mem_of_getElem? (i := 54) rfl)) (pa_cons (pv 0) pa_nil) (by decide)) (pe_mkK (c.ck _ (List.mem_of_getElem? (i := 54) rfl) (by decide)) hr (by rfl) (c.mg _ (List.mem_of_getElem? (i := 54) rfl)) (pk_cons (pv 0) pk_nil)) (pa_cons (pv 0) pa_nil) tb rfl hm hu rfl (by decide +kernel)) rfl (.inl rfl) rfl rfl rfl rfl rfl)
      (pss_cons (ps_app (pe_ent (pe_mk (c.ck _ (List.mem_of_getElem? (i := 55) rfl) (by decide)) hr (by rfl) (c.mg _ (List.mem_of_getElem? (i := 55) rfl)) (pa_cons (pv 0) pa_nil) (by decide)) (pe_mkK (c.ck _ (List.mem_of_getElem? (i := 55) rfl) (by decide)) hr (by rfl) (c.mg _ (List.mem_of_getElem? (i := 55) rfl)) (pk_cons (pv 0) pk_nil)) (pa_cons (pv 0) pa_nil) tb rfl hm hu rfl (by decide +kernel)) rfl (.inl rfl) rfl rfl rfl rfl rfl)
      (pss_cons (ps_app (pe_ent (pe_mk0 (c.c0 _ (List.mem_of_getElem? (i := 56) rfl) rfl) (by rfl) (c.mg _ (List.mem_of_getElem? (i := 56) rfl))) (pe_mk0 (c.c0 _ (List.mem_of_getElem? (i := 56) rfl) rfl) (by rfl) (c.mg _ (List.mem_of_getElem? (i := 56) rfl))) pa_nil tb rfl hm hu rfl (by decide +kernel)) rfl (.inl rfl) rfl rfl rfl rfl rfl)
      (pss_cons (ps_app (pe_ent (pe_mk (c.ck _ (List.mem_of_getElem? (i := 57) rfl) (by decide)) hr (by rfl) (c.mg _ (List.mem_of_getElem? (i := 57) rfl)) (pa_cons (pv 0) pa_nil) (by decide)) (pe_mkK (c.ck _ (List.mem_of_getElem? (i := 57) rfl) (by decide)) hr (by rfl) (c.mg _ (List.mem_of_getElem? (i := 57) rfl)) (pk_cons (pv 0) pk_nil)) (pa_cons (pv 0) pa_nil) tb rfl hm hu rfl (by decide +kernel)) rfl (.inl rfl) rfl rfl rfl rfl rfl)
      (pss_cons (ps_app (pe_ent (pe_mk (c.ck _ (List.mem_of_getElem? (i := 58) rfl) (by decide)) hr (by rfl) (c.mg _ (List.mem_of_getElem? (i := 58) rfl)) (pa_cons (pv 0) pa_nil) (by decide)) (pe_mkK (c.ck _ (List.mem_of_getElem? (i := 58) rfl) (by decide)) hr (by rfl) (c.mg _ (List.mem_of_getElem? (i := 58) rfl)) (pk_cons (pv 0) pk_nil)) (pa_cons (pv 0) pa_nil) tb rfl hm hu rfl (by decide +kernel)) rfl (.inl rfl) rfl rfl rfl rfl rfl)
      (pss_cons (ps_app (pe_ent (pe_mk (c.ck _ (List.mem_of_getElem? (i := 59) rfl) (by decide)) hr (by rfl) (c.mg _ (List.mem_of_getElem? (i := 59) rfl)) (pa_cons (pv 0) pa_nil) (by decide)) (pe_mkK (c.ck _ (List.mem_of_getElem? (i := 59) rfl) (by decide)) hr (by rfl) (c.mg _ (List.mem_of_getElem? (i := 59) rfl)) (pk_cons (pv 0) pk_nil)) (pa_cons (pv 0) pa_nil) tb rfl hm hu rfl (by decide +kernel)) rfl (.inl rfl) rfl rfl rfl rfl rfl)
      (pss_cons (ps_set (i := 4) scQd.nd rfl (.inl rfl) (pe_mkK (c.ck _ (List.mem_of_getElem? (i := 60) rfl) (by decide)) hr (by rfl) (c.mg _ (List.mem_of_getElem? (i := 60) rfl)) (pk_cons (pv 2) (pk_cons (pv 1) (pk_cons (pv 0) pk_nil)))))
      (pss_cons (ps_app (pe_ent (pe_mk (c.ck _ (List.mem_of_getElem? (i := 60) rfl) (by decide)) hr (by rfl) (c.mg _ (List.mem_of_getElem? (i := 60) rfl)) (pa_cons (pv 0) (pa_cons (pv 1) (pa_cons (pv 2) pa_nil))) (by decide)) (pv 4) (pa_cons (pv 0) (pa_cons (pv 1) (pa_cons (pv 2) pa_nil))) tb rfl hm hu rfl (by decide +kernel)) rfl (.inl rfl) rfl rfl rfl rfl rfl)
      (pss_one (ps_ret (pv 3)))))))))))), ?_⟩
    refine ⟨Nat.zero_le _, fun p np => ?_⟩
    refine apps_ok (P := P) (w := w) (mg := mg) (base := base) (seg := segD.take 6) (xyz := [x, y, z]) (M := M) (H0 := H) (G0 := fun _ => True) (p := p) (fun _ _ _ _ => trivial) rfl np hL (.cons (eo1 g0 rfl (lam1 ⟨rfl, rfl, rfl, by decide +kernel, rfl, by decide +kernel, by decide +kernel⟩)) (.cons (eo1 g0 rfl (lam1 ⟨rfl, rfl, rfl, by decide +kernel, rfl, by decide +kernel, by decide +kernel⟩)) (.cons (eo0 g0 (lam0 ⟨rfl, rfl, rfl, by decide +kernel, rfl, by decide +kernel, by decide +kernel⟩)) (.cons (eo1 g0 rfl (lam1 ⟨rfl, rfl, rfl, by decide +kernel, rfl, by decide +kernel, by decide +kernel⟩)) (.cons (eo1 g0 rfl (lam1 ⟨rfl, rfl, rfl, by decide +kernel, rfl, by decide +kernel, by decide +kernel⟩)) (.cons (eo1 g0 rfl (lam1 ⟨rfl, rfl, rfl, by decide +kernel, rfl, by decide +kernel, by decide +kernel⟩)) .nil))))))
      (H := upd H p (.lst [])) (L := []) (seg0 := []) (ExtN.of (Ext.new np)) (hT.ext (Ext.new np)) trivial upd_same (by show 0 + 6 ≤ 1000; omega) .nil fun G L' xG tG _ gp hl E => ?_
    refine ⟨_, rfl, _, rfl, _, rfl, rfl, fun a G1 n1 x1 y1 => ?_⟩
    refine apps_ok (P := P) (w := w) (mg := mg) (base := base) (seg := [("WouldChange", ["question", "was", "becomes"])]) (xyz := [x, y, z]) (M := M) (H0 := H) (G0 := fun G => ErrAt G a (He.ga K "WouldChange") ((["question", "was", "becomes"] : List Str).zip [x, y, z]).reverse) (p := p) (fun _ _ g e => e.gr g) rfl np hL
      (.cons (eo3 rfl rfl rfl rfl (lam3 ⟨rfl, rfl, rfl, by decide +kernel, rfl, by decide +kernel, by decide +kernel⟩)) .nil)
      (H := G1) (L := L') (seg0 := segD.take 6) (xG.trans (ExtN.of x1)) (tG.ext x1) y1 (x1 _ _ gp) ?_ (E.gr (GrM.of (ExtN.of x1))) fun G2 L2 xG2 tG2 _ gp2 hl2 E2 => ⟨_, rfl, k p G2 L2 np xG2 tG2 gp2 hl2 E2⟩
    have z := E.len
    show L'.length + 1 ≤ 1000
    rw [z]
    decide
end
end K00

set_option Elab.async false
set_option linter.all false
set_option maxRecDepth 100000
set_option maxHeartbeats 4000000
/-! Of which classes an error is, told one behind another. -/
namespace K00
open PySem PySem.Spec PyProof.Rows
open L2 LamX
/-- C against each of the classes: it is one of them just where it is that one -/
def Kin (K : PySem.W.Frag) (C : Addr) : Prop := ∀ p ∈ cnms, PySem.W.kitOne K (.ref C) (.ref (He.ga K p.1)) = some (decide (C = He.ga K p.1))
/-- the answers for the classes of ns -/
def ansK (K : PySem.W.Frag) (C : Addr) (ns : List Str) : List V := ns.map fun n => .bl (decide (C = He.ga K n))
def tIso (K : PySem.W.Frag) (n : Str) : TE := tCB (rIsO K) (tCons (tVar 0) (tCons (tC (.ref (He.ga K n))) tNil))
def tIsoA (K : PySem.W.Frag) : List Str → TA
  | [] => tNil
  | n :: r => tCons (tIso K n) (tIsoA K r)
def tExt (K : PySem.W.Frag) (ns : List Str) : TS := tDrop (tBM K "list" rExtend (tVar 1) (tCons (tLst (tIsoA K ns)) tNil))
def tExts (K : PySem.W.Frag) : List (List Str) → TS → TS
  | [], u => u
  | g :: r, u => tSeq (tExt K g) (tExts K r u)
def spKinds (K : PySem.W.Frag) (ns : List Str) : Sp := fun vs H Q _ => ∃ (e C : Addr) (ys : List (Str × V)), vs = [.ref e] ∧ ErrAt H e C ys ∧ ExcC K C ∧ Kin K C ∧
  ∀ (p : Addr) (G : Hp), H p = none → Ext H G → G p = some (.lst (ansK K C ns)) → Q (.ref p) G
section
variable {K : PySem.W.Frag} {e C : Addr} {ys : List (Str × V)} {σ : L2.St} (kn : Kin K C) (T : ExcC K C) (s0 : σ[0]? = some (some (.ref e)))
include kn T s0
theorem isoA_ok : ∀ {ns : List Str} {H : Hp} {Q : List V → Hp → Prop}, (∀ n ∈ ns, n ∈ cnms.map (·.1)) → ErrAt H e C ys → Q (ansK K C ns) H → tIsoA K ns σ H Q
  | [], H, Q, _, _, q => q
  | n :: r, H, Q, hn, ea, q => by
    obtain ⟨p, hp, rfl⟩ := List.mem_map.mp (hn n (List.mem_cons_self ..))
    exact ⟨_, s0, e, C, ys, _, _, _, rfl, ea, T, ClsV.own _, kn p hp, isoA_ok (fun m hm => hn m (List.mem_cons_of_mem _ hm)) ea q⟩
theorem exts_ok {D : Ends} {u : TS} {p : Addr} {H0 : Hp} (s1 : σ[1]? = some (some (.ref p))) (n0 : H0 p = none) : ∀ {gs : List (List Str)} {H : Hp} {L : List V}, (∀ g ∈ gs, ∀ n ∈ g, n ∈ cnms.map (·.1)) → ErrAt H e C ys → Ext H0 H → H p = some (.lst L) → L.length + gs.flatten.length ≤ 1000 →
    (∀ G, Ext H0 G → G p = some (.lst (L ++ ansK K C gs.flatten)) → u D σ G) → tExts K gs u D σ H
  | [], H, L, _, ea, x, hp, _, k => k H x (by simpa [ansK] using hp)
  | g :: r, H, L, hn, ea, x, hp, hl, k => by
    rw [List.flatten_cons, List.length_append] at hl
    refine ⟨_, s1, .inl ⟨rfl, _, SqL.of hp⟩, ?_⟩
    refine isoA_ok kn T s0 (hn g (List.mem_cons_self ..)) ea ⟨by rw [sizeLine_eq]; simp [ansK]; omega, fun l nl => ?_⟩
    have xl : Ext H (upd H l (.lst (ansK K C g))) := Ext.new nl
    refine ⟨p, l, L, ansK K C g, rfl, rfl, xl _ _ hp, upd_same, by rw [sizeLine_eq]; simp [ansK]; omega, ?_⟩
    have gg : GrM [p] (upd H l (.lst (ansK K C g))) (upd (upd H l (.lst (ansK K C g))) p (.lst (L ++ ansK K C g))) := GrM.put (xl _ _ hp) (by simp)
    refine exts_ok s1 n0 (gs := r) (fun g' h' => hn g' (List.mem_cons_of_mem _ h')) ((ea.ext xl).gr gg) (fun b o eb => ?_) upd_same (by rw [List.length_append, show (ansK K C g).length = g.length from List.length_map ..]; omega) fun G xG gG => k G xG ?_
    · rw [upd_ne (ne_of_none eb n0)]
      exact xl _ _ (x _ _ eb)
    · rw [gG]
      simp [ansK, List.append_assoc]
end
end K00

set_option Elab.async false
set_option linter.all false
set_option maxRecDepth 100000
set_option maxHeartbeats 8000000
/-! The defs that tell an error's kinds. -/
namespace K00
open PySem PySem.Spec PyProof.Rows
open L2 LamX
abbrev nK : List Str := ["_law_e", "_law_found"]
section
variable {X : Cx}
theorem pe_iso {n : Str} {p1 p2 p3 pos : Pos} (hv : Vis X.env.scope ("_law_e" : Str)) (hN : X.N[0]? = some ("_law_e" : Str)) (gI : Gl X "isinstance") (mI : X.mg "isinstance" = none) (gn : Gl X n) (mn : X.mg n = some (.ref (He.ga X.K n))) (hd : (n == ("__debug__" : Str)) = false)
    (he : starEach [.Name "_law_e" p2, .Name n p3] X.env = (false, eval (.Name "_law_e" p2) X.env) :: starEach [.Name n p3] X.env) (he2 : starEach [.Name n p3] X.env = (false, eval (.Name n p3) X.env) :: starEach [] X.env) (hpl : (backTo pos (starEach [.Name n p3] X.env)).any (·.1) = false) :
    PE X (.Call (.Name "isinstance" p1) [.Name "_law_e" p2, .Name n p3] [] pos) (tIso X.K n) :=
  pe_callB call_isO gI mI PyProof.Rows.boot_isinstance (pa_cons (pe_var (i := 0) hN hv) (pa_cons (pe_glob gn mn rfl hd) pa_nil he2) he) (he := he) (hpl := hpl)
end
section
variable {P : Program} {w : World} {K : PySem.W.Frag} {mg : Str → Option Value} {base : Heap}
def knA : List Str := ["BadArities", "BadArity", "BadAtom", "BadAtoms", "BadAxioms", "BadBound", "BadClause", "BadClauses", "BadDeed", "BadDepth", "BadDerivation", "BadEquations", "BadFunctions", "BadGiving", "BadGoal", "BadLiteral", "BadMany", "BadName"]
theorem scKa : FnScope nK ["_law_e"] (defScope s_law_kinds_a) := ⟨rfl, rfl, rfl, by decide +kernel, rfl, by decide +kernel, by decide +kernel⟩
theorem ok_kinds_a {f : Addr} {fd : FuncData} (F : FnP K "_law_kinds_a" s_law_kinds_a f fd) (c : Cls61 P w K mg base) (mI : mg "isinstance" = none) : FnOk P w K mg base CX0 1 f fd ["_law_e"] (spKinds K knA) := by
  refine F.ok scKa (fun vs H Q E h => ?_) (fun cdv A outer s H vs Q E hr h => ?_)
  · obtain ⟨e, C, ys, rfl, _⟩ := h
    rfl
  · obtain ⟨e, C, ys, rfl, ea, T, kn, k⟩ := h
    refine ⟨tSeq (tAsg (tLst tNil) (gName 1)) (tExts K [["BadArities", "BadArity"], ["BadAtom", "BadAtoms"], ["BadAxioms", "BadBound"], ["BadClause", "BadClauses"], ["BadDeed", "BadDepth"], ["BadDerivation", "BadEquations"], ["BadFunctions", "BadGiving"], ["BadGoal", "BadLiteral"], ["BadMany", "BadName"]] (tRet (tVar 1))), PSs.nox (pss_cons (ps_set (i := 1) scKa.nd rfl (.inl rfl) (pe_lst pa_nil))
      (pss_cons (ps_expr (pe_bm PySem.F.plainAttrs_list PySem.F.slot_list_extend PySem.F.type_list_extend mt_extend (pv 1) (pa_cons (pe_lst (pa_cons (pe_iso (.inl rfl) rfl (by rfl) mI (by rfl) (c.mg _ (List.mem_of_getElem? (i := 0) rfl)) (by decide) rfl rfl rfl) (pa_cons (pe_iso (.inl rfl) rfl (by rfl) mI (by rfl) (c.mg _ (List.mem_of_getElem? (i := 1) rfl)) (by decide) rfl rfl rfl) pa_nil))) pa_nil)))
      (pss_cons (ps_expr (pe_bm PySem.F.plainAttrs_list PySem.F.slot_list_extend PySem.F.type_list_extend mt_extend (pv 1) (pa_cons (pe_lst (pa_cons (pe_iso (.inl rfl) rfl (by rfl) mI (by rfl) (c.mg _ (List.mem_of_getElem? (i := 2) rfl)) (by decide) rfl rfl rfl) (pa_cons (pe_iso (.inl rfl) rfl (by rfl) mI (by rfl) (c.mg _ (List.mem_of_getElem? (i := 3) rfl)) (by decide) rfl rfl rfl) pa_nil))) pa_nil)))
      (pss_cons (ps_expr (pe_bm PySem.F.plainAttrs_list PySem.F.slot_list_extend PySem.F.type_list_extend mt_extend (pv 1) (pa_cons (pe_lst (pa_cons (pe_iso (.inl rfl) rfl (by rfl) mI (by rfl) (c.mg _ (List.mem_of_getElem? (i := 4) rfl)) (by decide) rfl rfl rfl) (pa_cons (pe_iso (.inl rfl) rfl (by rfl) mI (by rfl) (c.mg _ (List.mem_of_getElem? (i := 5) rfl)) (by decide) rfl rfl rfl) pa_nil))) pa_nil)))
      (pss_cons (ps_expr (pe_bm PySem.F.plainAttrs_list PySem.F.slot_list_extend PySem.F.type_list_extend mt_extend (pv 1) (pa_cons (pe_lst (pa_cons (pe_iso (.inl rfl) rfl (by rfl) mI (by rfl) (c.mg _ (List.mem_of_getElem? (i := 6) rfl)) (by decide) rfl rfl rfl) (pa_cons (pe_iso (.inl rfl) rfl (by rfl) mI (by rfl) (c.mg _ (List.mem_of_getElem? (i := 7) rfl)) (by decide) rfl rfl rfl) pa_nil))) pa_nil)))
      (pss_cons (ps_expr (pe_bm PySem.F.plainAttrs_list PySem.F.slot_list_extend PySem.F.type_list_extend mt_extend (pv 1) (pa_cons (pe_lst (pa_cons (pe_iso (.inl rfl) rfl (by rfl) mI (by rfl) (c.mg _ (List.mem_of_getElem? (i := 8) rfl)) (by decide) rfl rfl rfl) (pa_cons (pe_iso (.inl rfl) rfl (by rfl) mI (by rfl) (c.mg _ (List.mem_of_getElem? (i := 9) rfl)) (by decide) rfl rfl rfl) pa_nil))) pa_nil)))
      (pss_cons (ps_expr (pe_bm PySem.F.plainAttrs_list PySem.F.slot_list_extend PySem.F.type_list_extend mt_extend (pv 1) (pa_cons (pe_lst (pa_cons (pe_iso (.inl rfl) rfl (by rfl) mI (by rfl) (c.mg _ (List.mem_of_getElem? (i := 10) rfl)) (by decide) rfl rfl rfl) (pa_cons (pe_iso (.inl rfl) rfl (by rfl) mI (by rfl) (c.mg _ (List.mem_of_getElem? (i := 11) rfl)) (by decide) rfl rfl rfl) pa_nil))) pa_nil)))
      (pss_cons (ps_expr (pe_bm PySem.F.plainAttrs_list PySem.F.slot_list_extend PySem.F.type_list_extend mt_extend (pv 1) (pa_cons (pe_lst (pa_cons (pe_iso (.inl rfl) rfl (by rfl) mI (by rfl) (c.mg _ (List.mem_of_getElem? (i := 12) rfl)) (by decide) rfl rfl rfl) (pa_cons (pe_iso (.inl rfl) rfl (by rfl) mI (by rfl) (c.mg _ (List.mem_of_getElem? (i := 13) rfl)) (by decide) rfl rfl rfl) pa_nil))) pa_nil)))
      (pss_cons (ps_expr (pe_bm PySem.F.plainAttrs_list PySem.F.slot_list_extend PySem.F.type_list_extend mt_extend (pv 1) (pa_cons (pe_lst (pa_cons (pe_iso (.inl rfl) rfl (by rfl) mI (by rfl) (c.mg _ (List.mem_of_getElem? (i := 14) rfl)) (by decide) rfl rfl rfl) (pa_cons (pe_iso (.inl rfl) rfl (by rfl) mI (by rfl) (c.mg _ (List.mem_of_getElem? (i := 15) rfl)) (by decide) rfl rfl rfl) pa_nil))) pa_nil)))
      (pss_cons (ps_expr (pe_bm PySem.F.plainAttrs_list PySem.F.slot_list_extend PySem.F.type_list_extend mt_extend (pv 1) (pa_cons (pe_lst (pa_cons (pe_iso (.inl rfl) rfl (by rfl) mI (by rfl) (c.mg _ (List.mem_of_getElem? (i := 16) rfl)) (by decide) rfl rfl rfl) (pa_cons (pe_iso (.inl rfl) rfl (by rfl) mI (by rfl) (c.mg _ (List.mem_of_getElem? (i := 17) rfl)) (by decide) rfl rfl rfl) pa_nil))) pa_nil)))
      (pss_one (ps_ret (pv 1))))))))))))), ?_⟩
    refine ⟨Nat.zero_le _, fun p np => ?_⟩
    exact exts_ok (H0 := H) kn T rfl rfl np (gs := [["BadArities", "BadArity"], ["BadAtom", "BadAtoms"], ["BadAxioms", "BadBound"], ["BadClause", "BadClauses"], ["BadDeed", "BadDepth"], ["BadDerivation", "BadEquations"], ["BadFunctions", "BadGiving"], ["BadGoal", "BadLiteral"], ["BadMany", "BadName"]]) (by decide +kernel) (ea.ext (Ext.new np)) (Ext.new np) upd_same (by show 0 + 18 ≤ 1000; omega) fun G x gG => ⟨_, rfl, k p G np x gG⟩
def knB : List Str := ["BadNames", "BadNumber", "BadOrder", "BadPairs", "BadPaper", "BadPlace", "BadPredicates", "BadProblem", "BadQuestion", "BadRefutation", "BadRows", "BadRules", "BadSentence", "BadSentences", "BadSession", "BadSize", "BadSubstitution", "BadSymbols"]
theorem scKb : FnScope nK ["_law_e"] (defScope s_law_kinds_b) := ⟨rfl, rfl, rfl, by decide +kernel, rfl, by decide +kernel, by decide +kernel⟩
theorem ok_kinds_b {f : Addr} {fd : FuncData} (F : FnP K "_law_kinds_b" s_law_kinds_b f fd) (c : Cls61 P w K mg base) (mI : mg "isinstance" = none) : FnOk P w K mg base CX0 1 f fd ["_law_e"] (spKinds K knB) := by
  refine F.ok scKb (fun vs H Q E h => ?_) (fun cdv A outer s H vs Q E hr h => ?_)
  · obtain ⟨e, C, ys, rfl, _⟩ := h
    rfl
  · obtain ⟨e, C, ys, rfl, ea, T, kn, k⟩ := h
    refine ⟨tSeq (tAsg (tLst tNil) (gName 1)) (tExts K [["BadNames", "BadNumber"], ["BadOrder", "BadPairs"], ["BadPaper", "BadPlace"], ["BadPredicates", "BadProblem"], ["BadQuestion", "BadRefutation"], ["BadRows", "BadRules"], ["BadSentence", "BadSentences"], ["BadSession", "BadSize"], ["BadSubstitution", "BadSymbols"]] (tRet (tVar 1))), PSs.nox (pss_cons (ps_set (i := 1) scKb.nd rfl (.inl rfl) (pe_lst pa_nil))
      (pss_cons (ps_expr (pe_bm PySem.F.plainAttrs_list PySem.F.slot_list_extend PySem.F.type_list_extend mt_extend (pv 1) (pa_cons (pe_lst (pa_cons (pe_iso (.inl rfl) rfl (by rfl) mI (by rfl) (c.mg _ (List.mem_of_getElem? (i := 18) rfl)) (by decide) rfl rfl rfl) (pa_cons (pe_iso (.inl rfl) rfl (by rfl) mI (by rfl) (c.mg _ (List.mem_of_getElem? (i := 19) rfl)) (by decide) rfl rfl rfl) pa_nil))) pa_nil)))
      (pss_cons (ps_expr (pe_bm PySem.F.plainAttrs_list PySem.F.slot_list_extend PySem.F.type_list_extend mt_extend (pv 1) (pa_cons (pe_lst (pa_cons (pe_iso (.inl rfl) rfl (by rfl) mI (by rfl) (c.mg _ (List.mem_of_getElem? (i := 20) rfl)) (by decide) rfl rfl rfl) (pa_cons (pe_iso (.inl rfl) rfl (by rfl) mI (by rfl) (c.mg _ (List.mem_of_getElem? (i := 21) rfl)) (by decide) rfl rfl rfl) pa_nil))) pa_nil)))
      (pss_cons (ps_expr (pe_bm PySem.F.plainAttrs_list PySem.F.slot_list_extend PySem.F.type_list_extend mt_extend (pv 1) (pa_cons (pe_lst (pa_cons (pe_iso (.inl rfl) rfl (by rfl) mI (by rfl) (c.mg _ (List.mem_of_getElem? (i := 22) rfl)) (by decide) rfl rfl rfl) (pa_cons (pe_iso (.inl rfl) rfl (by rfl) mI (by rfl) (c.mg _ (List.mem_of_getElem? (i := 23) rfl)) (by decide) rfl rfl rfl) pa_nil))) pa_nil)))
      (pss_cons (ps_expr (pe_bm PySem.F.plainAttrs_list PySem.F.slot_list_extend PySem.F.type_list_extend mt_extend (pv 1) (pa_cons (pe_lst (pa_cons (pe_iso (.inl rfl) rfl (by rfl) mI (by rfl) (c.mg _ (List.mem_of_getElem? (i := 24) rfl)) (by decide) rfl rfl rfl) (pa_cons (pe_iso (.inl rfl) rfl (by rfl) mI (by rfl) (c.mg _ (List.mem_of_getElem? (i := 25) rfl)) (by decide) rfl rfl rfl) pa_nil))) pa_nil)))
      (pss_cons (ps_expr (pe_bm PySem.F.plainAttrs_list PySem.F.slot_list_extend PySem.F.type_list_extend mt_extend (pv 1) (pa_cons (pe_lst (pa_cons (pe_iso (.inl rfl) rfl (by rfl) mI (by rfl) (c.mg _ (List.mem_of_getElem? (i := 26) rfl)) (by decide) rfl rfl rfl) (pa_cons (pe_iso (.inl rfl) rfl (by rfl) mI (by rfl) (c.mg _ (List.mem_of_getElem? (i := 27) rfl)) (by decide) rfl rfl rfl) pa_nil))) pa_nil)))
      (pss_cons (ps_expr (pe_bm PySem.F.plainAttrs_list PySem.F.slot_list_extend PySem.F.type_list_extend mt_extend (pv 1) (pa_cons (pe_lst (pa_cons (pe_iso (.inl rfl) rfl (by rfl) mI (by rfl) (c.mg _ (List.mem_of_getElem? (i := 28) rfl)) (by decide) rfl rfl rfl) (pa_cons (pe_iso (.inl rfl) rfl (by rfl) mI (by rfl) (c.mg _ (List.mem_of_getElem? (i := 29) rfl)) (by decide) rfl rfl rfl) pa_nil))) pa_nil)))
      (pss_cons (ps_expr (pe_bm PySem.F.plainAttrs_list PySem.F.slot_list_extend PySem.F.type_list_extend mt_extend (pv 1) (pa_cons (pe_lst (pa_cons (pe_iso (.inl rfl) rfl (by rfl) mI (by rfl) (c.mg _ (List.mem_of_getElem? (i := 30) rfl)) (by decide) rfl rfl rfl) (pa_cons (pe_iso (.inl rfl) rfl (by rfl) mI (by rfl) (c.mg _ (List.mem_of_getElem? (i := 31) rfl)) (by decide) rfl rfl rfl) pa_nil))) pa_nil)))
      (pss_cons (ps_expr (pe_bm PySem.F.plainAttrs_list PySem.F.slot_list_extend PySem.F.type_list_extend mt_extend (pv 1) (pa_cons (pe_lst (pa_cons (pe_iso (.inl rfl) rfl (by rfl) mI (by rfl) (c.mg _ (List.mem_of_getElem? (i := 32) rfl)) (by decide) rfl rfl rfl) (pa_cons (pe_iso (.inl rfl) rfl (by rfl) mI (by rfl) (c.mg _ (List.mem_of_getElem? (i := 33) rfl)) (by decide) rfl rfl rfl) pa_nil))) pa_nil)))
      (pss_cons (ps_expr (pe_bm PySem.F.plainAttrs_list PySem.F.slot_list_extend PySem.F.type_list_extend mt_extend (pv 1) (pa_cons (pe_lst (pa_cons (pe_iso (.inl rfl) rfl (by rfl) mI (by rfl) (c.mg _ (List.mem_of_getElem? (i := 34) rfl)) (by decide) rfl rfl rfl) (pa_cons (pe_iso (.inl rfl) rfl (by rfl) mI (by rfl) (c.mg _ (List.mem_of_getElem? (i := 35) rfl)) (by decide) rfl rfl rfl) pa_nil))) pa_nil)))
      (pss_one (ps_ret (pv 1))))))))))))), ?_⟩
    refine ⟨Nat.zero_le _, fun p np => ?_⟩
    exact exts_ok (H0 := H) kn T rfl rfl np (gs := [["BadNames", "BadNumber"], ["BadOrder", "BadPairs"], ["BadPaper", "BadPlace"], ["BadPredicates", "BadProblem"], ["BadQuestion", "BadRefutation"], ["BadRows", "BadRules"], ["BadSentence", "BadSentences"], ["BadSession", "BadSize"], ["BadSubstitution", "BadSymbols"]]) (by decide +kernel) (ea.ext (Ext.new np)) (Ext.new np) upd_same (by show 0 + 18 ≤ 1000; omega) fun G x gG => ⟨_, rfl, k p G np x gG⟩
def knC : List Str := ["BadTable", "BadTaken", "BadText", "BadTheory", "BadThing", "BadTruth", "BadTurn", "BadWord", "BadWords", "BadWorld", "Crowded", "HasAxiom", "HasVariables", "InUse", "IsWatched", "NoClash", "NoCount", "NoWord"]
theorem scKc : FnScope nK ["_law_e"] (defScope s_law_kinds_c) := ⟨rfl, rfl, rfl, by decide +kernel, rfl, by decide +kernel, by decide +kernel⟩
theorem ok_kinds_c {f : Addr} {fd : FuncData} (F : FnP K "_law_kinds_c" s_law_kinds_c f fd) (c : Cls61 P w K mg base) (mI : mg "isinstance" = none) : FnOk P w K mg base CX0 1 f fd ["_law_e"] (spKinds K knC) := by
  refine F.ok scKc (fun vs H Q E h => ?_) (fun cdv A outer s H vs Q E hr h => ?_)
  · obtain ⟨e, C, ys, rfl, _⟩ := h
    rfl
  · obtain ⟨e, C, ys, rfl, ea, T, kn, k⟩ := h
    refine ⟨tSeq (tAsg (tLst tNil) (gName 1)) (tExts K [["BadTable", "BadTaken"], ["BadText", "BadTheory"], ["BadThing", "BadTruth"], ["BadTurn", "BadWord"], ["BadWords", "BadWorld"], ["Crowded", "HasAxiom"], ["HasVariables", "InUse"], ["IsWatched", "NoClash"], ["NoCount", "NoWord"]] (tRet (tVar 1))), PSs.nox (pss_cons (ps_set (i := 1) scKc.nd rfl (.inl rfl) (pe_lst pa_nil))
      (pss_cons (ps_expr (pe_bm PySem.F.plainAttrs_list PySem.F.slot_list_extend PySem.F.type_list_extend mt_extend (pv 1) (pa_cons (pe_lst (pa_cons (pe_iso (.inl rfl) rfl (by rfl) mI (by rfl) (c.mg _ (List.mem_of_getElem? (i := 36) rfl)) (by decide) rfl rfl rfl) (pa_cons (pe_iso (.inl rfl) rfl (by rfl) mI (by rfl) (c.mg _ (List.mem_of_getElem? (i := 37) rfl)) (by decide) rfl rfl rfl) pa_nil))) pa_nil)))
      (pss_cons (ps_expr (pe_bm PySem.F.plainAttrs_list PySem.F.slot_list_extend PySem.F.type_list_extend mt_extend (pv 1) (pa_cons (pe_lst (pa_cons (pe_iso (.inl rfl) rfl (by rfl) mI (by rfl) (c.mg _ (List.mem_of_getElem? (i := 38) rfl)) (by decide) rfl rfl rfl) (pa_cons (pe_iso (.inl rfl) rfl (by rfl) mI (by rfl) (c.mg _ (List.mem_of_getElem? (i := 39) rfl)) (by decide) rfl rfl rfl) pa_nil))) pa_nil)))
      (pss_cons (ps_expr (pe_bm PySem.F.plainAttrs_list PySem.F.slot_list_extend PySem.F.type_list_extend mt_extend (pv 1) (pa_cons (pe_lst (pa_cons (pe_iso (.inl rfl) rfl (by rfl) mI (by rfl) (c.mg _ (List.mem_of_getElem? (i := 40) rfl)) (by decide) rfl rfl rfl) (pa_cons (pe_iso (.inl rfl) rfl (by rfl) mI (by rfl) (c.mg _ (List.mem_of_getElem? (i := 41) rfl)) (by decide) rfl rfl rfl) pa_nil))) pa_nil)))
      (pss_cons (ps_expr (pe_bm PySem.F.plainAttrs_list PySem.F.slot_list_extend PySem.F.type_list_extend mt_extend (pv 1) (pa_cons (pe_lst (pa_cons (pe_iso (.inl rfl) rfl (by rfl) mI (by rfl) (c.mg _ (List.mem_of_getElem? (i := 42) rfl)) (by decide) rfl rfl rfl) (pa_cons (pe_iso (.inl rfl) rfl (by rfl) mI (by rfl) (c.mg _ (List.mem_of_getElem? (i := 43) rfl)) (by decide) rfl rfl rfl) pa_nil))) pa_nil)))
      (pss_cons (ps_expr (pe_bm PySem.F.plainAttrs_list PySem.F.slot_list_extend PySem.F.type_list_extend mt_extend (pv 1) (pa_cons (pe_lst (pa_cons (pe_iso (.inl rfl) rfl (by rfl) mI (by rfl) (c.mg _ (List.mem_of_getElem? (i := 44) rfl)) (by decide) rfl rfl rfl) (pa_cons (pe_iso (.inl rfl) rfl (by rfl) mI (by rfl) (c.mg _ (List.mem_of_getElem? (i := 45) rfl)) (by decide) rfl rfl rfl) pa_nil))) pa_nil)))
      (pss_cons (ps_expr (pe_bm PySem.F.plainAttrs_list PySem.F.slot_list_extend PySem.F.type_list_extend mt_extend (pv 1) (pa_cons (pe_lst (pa_cons (pe_iso (.inl rfl) rfl (by rfl) mI (by rfl) (c.mg _ (List.mem_of_getElem? (i := 46) rfl)) (by decide) rfl rfl rfl) (pa_cons (pe_iso (.inl rfl) rfl (by rfl) mI (by rfl) (c.mg _ (List.mem_of_getElem? (i := 47) rfl)) (by decide) rfl rfl rfl) pa_nil))) pa_nil)))
      (pss_cons (ps_expr (pe_bm PySem.F.plainAttrs_list PySem.F.slot_list_extend PySem.F.type_list_extend mt_extend (pv 1) (pa_cons (pe_lst (pa_cons (pe_iso (.inl rfl) rfl (by rfl) mI (by rfl) (c.mg _ (List.mem_of_getElem? (i := 48) rfl)) (by decide) rfl rfl rfl) (pa_cons (pe_iso (.inl rfl) rfl (by rfl) mI (by rfl) (c.mg _ (List.mem_of_getElem? (i := 49) rfl)) (by decide) rfl rfl rfl) pa_nil))) pa_nil)))
      (pss_cons (ps_expr (pe_bm PySem.F.plainAttrs_list PySem.F.slot_list_extend PySem.F.type_list_extend mt_extend (pv 1) (pa_cons (pe_lst (pa_cons (pe_iso (.inl rfl) rfl (by rfl) mI (by rfl) (c.mg _ (List.mem_of_getElem? (i := 50) rfl)) (by decide) rfl rfl rfl) (pa_cons (pe_iso (.inl rfl) rfl (by rfl) mI (by rfl) (c.mg _ (List.mem_of_getElem? (i := 51) rfl)) (by decide) rfl rfl rfl) pa_nil))) pa_nil)))
      (pss_cons (ps_expr (pe_bm PySem.F.plainAttrs_list PySem.F.slot_list_extend PySem.F.type_list_extend mt_extend (pv 1) (pa_cons (pe_lst (pa_cons (pe_iso (.inl rfl) rfl (by rfl) mI (by rfl) (c.mg _ (List.mem_of_getElem? (i := 52) rfl)) (by decide) rfl rfl rfl) (pa_cons (pe_iso (.inl rfl) rfl (by rfl) mI (by rfl) (c.mg _ (List.mem_of_getElem? (i := 53) rfl)) (by decide) rfl rfl rfl) pa_nil))) pa_nil)))
      (pss_one (ps_ret (pv 1))))))))))))), ?_⟩
    refine ⟨Nat.zero_le _, fun p np => ?_⟩
    exact exts_ok (H0 := H) kn T rfl rfl np (gs := [["BadTable", "BadTaken"], ["BadText", "BadTheory"], ["BadThing", "BadTruth"], ["BadTurn", "BadWord"], ["BadWords", "BadWorld"], ["Crowded", "HasAxiom"], ["HasVariables", "InUse"], ["IsWatched", "NoClash"], ["NoCount", "NoWord"]]) (by decide +kernel) (ea.ext (Ext.new np)) (Ext.new np) upd_same (by show 0 + 18 ≤ 1000; omega) fun G x gG => ⟨_, rfl, k p G np x gG⟩
def knD : List Str := ["NoWorld", "NotComplete", "NotFull", "NotGround", "NotOrdered", "NotWatched", "WouldChange"]
theorem scKd : FnScope nK ["_law_e"] (defScope s_law_kinds_d) := ⟨rfl, rfl, rfl, by decide +kernel, rfl, by decide +kernel, by decide +kernel⟩
theorem ok_kinds_d {f : Addr} {fd : FuncData} (F : FnP K "_law_kinds_d" s_law_kinds_d f fd) (c : Cls61 P w K mg base) (mI : mg "isinstance" = none) : FnOk P w K mg base CX0 1 f fd ["_law_e"] (spKinds K knD) := by
  refine F.ok scKd (fun vs H Q E h => ?_) (fun cdv A outer s H vs Q E hr h => ?_)
  · obtain ⟨e, C, ys, rfl, _⟩ := h
    rfl
  · obtain ⟨e, C, ys, rfl, ea, T, kn, k⟩ := h
    refine ⟨tSeq (tAsg (tLst tNil) (gName 1)) (tExts K [["NoWorld", "NotComplete"], ["NotFull", "NotGround"], ["NotOrdered", "NotWatched"], ["WouldChange"]] (tRet (tVar 1))), PSs.nox (pss_cons (ps_set (i := 1) scKd.nd rfl (.inl rfl) (pe_lst pa_nil))
      (pss_cons (ps_expr (pe_bm PySem.F.plainAttrs_list PySem.F.slot_list_extend PySem.F.type_list_extend mt_extend (pv 1) (pa_cons (pe_lst (pa_cons (pe_iso (.inl rfl) rfl (by rfl) mI (by rfl) (c.mg _ (List.mem_of_getElem? (i := 54) rfl)) (by decide) rfl rfl rfl) (pa_cons (pe_iso (.inl rfl) rfl (by rfl) mI (by rfl) (c.mg _ (List.mem_of_getElem? (i := 55) rfl)) (by decide) rfl rfl rfl) pa_nil))) pa_nil)))
      (pss_cons (ps_expr (pe_bm PySem.F.plainAttrs_list PySem.F.slot_list_extend PySem.F.type_list_extend mt_extend (pv 1) (pa_cons (pe_lst (pa_cons (pe_iso (.inl rfl) rfl (by rfl) mI (by rfl) (c.mg _ (List.mem_of_getElem? (i := 56) rfl)) (by decide) rfl rfl rfl) (pa_cons (pe_iso (.inl rfl) rfl (by rfl) mI (by rfl) (c.mg _ (List.mem_of_getElem? (i := 57) rfl)) (by decide) rfl rfl rfl) pa_nil))) pa_nil)))
      (pss_cons (ps_expr (pe_bm PySem.F.plainAttrs_list PySem.F.slot_list_extend PySem.F.type_list_extend mt_extend (pv 1) (pa_cons (pe_lst (pa_cons (pe_iso (.inl rfl) rfl (by rfl) mI (by rfl) (c.mg _ (List.mem_of_getElem? (i := 58) rfl)) (by decide) rfl rfl rfl) (pa_cons (pe_iso (.inl rfl) rfl (by rfl) mI (by rfl) (c.mg _ (List.mem_of_getElem? (i := 59) rfl)) (by decide) rfl rfl rfl) pa_nil))) pa_nil)))
      (pss_cons (ps_expr (pe_bm PySem.F.plainAttrs_list PySem.F.slot_list_extend PySem.F.type_list_extend mt_extend (pv 1) (pa_cons (pe_lst (pa_cons (pe_iso (.inl rfl) rfl (by rfl) mI (by rfl) (c.mg _ (List.mem_of_getElem? (i := 60) rfl)) (by decide) rfl rfl rfl) pa_nil)) pa_nil)))
      (pss_one (ps_ret (pv 1)))))))), ?_⟩
    refine ⟨Nat.zero_le _, fun p np => ?_⟩
    exact exts_ok (H0 := H) kn T rfl rfl np (gs := [["NoWorld", "NotComplete"], ["NotFull", "NotGround"], ["NotOrdered", "NotWatched"], ["WouldChange"]]) (by decide +kernel) (ea.ext (Ext.new np)) (Ext.new np) upd_same (by show 0 + 7 ≤ 1000; omega) fun G x gG => ⟨_, rfl, k p G np x gG⟩
end
end K00

set_option Elab.async false
set_option linter.all false
set_option maxRecDepth 100000
set_option maxHeartbeats 4000000
/-! repr of lists of data: nothing may be shown at the time, so such defs are run where no guard stands. -/
namespace K00
open PySem PySem.Spec PyProof.Rows
open L2
/-- a def's promise where no guard stands -/
structure FnG (P : Program) (w : World) (K : PySem.W.Frag) (mg : Str → Option Value) (base : Heap) (k : Nat) (f : Addr) (fd : FuncData) (ps : List Str) (sp : Sp) : Prop where
  len : ∀ vs H Q E, sp vs H Q E → vs.length = ps.length
  run : ∀ (A : Around) (outer : List Env) (s : Shared) (H : Hp) (args : Args) (us : List Value) (vs : List V) (Q : VK), A.guards = some [] → Room k A → Env0 P w K mg base A outer s H → BindsTo s fd args (ps.zip us) → Vals vs us → sp vs H Q E0 →
    codeAny (model P w) A (.call (.ref f) args) (CR CX0 outer P w H s Q E0) s
section
variable {P : Program} {w : World} {K : PySem.W.Frag} {mg : Str → Option Value} {base : Heap}
theorem FnG.of {x qual : Str} {params : Arguments} {body : List Stmt} {scope : Scope} {f : Addr} {fd : FuncData} {N ps : List Str} {k : Nat} {sp : Sp} (F : FunD K x qual params body scope [] [] f fd) (S : FnScope N ps scope) (len : ∀ vs H Q E, sp vs H Q E → vs.length = ps.length)
    (hb : ∀ (cd : Value) (A : Around) (outer : List Env) (s : Shared) (H : Hp) (vs : List V) (Q : VK), A.guards = some [] → Room k (A.deeper (envOfC qual scope s.heap.objs.size f cd)) → sp vs H Q E0 →
      ∃ t, PSs (cxOf CX0 P w K mg base N qual scope f cd A outer s H E0) body t ∧ t { nx := fun _ G => Q .non G, rt := Q } (L2.start N vs) H) : FnG P w K mg base (k + 1) f fd ps sp := by
  obtain ⟨oc, od, dV, kV, doc, pm, an, cd, ct, osl, rfl, lk, hcd, _, _⟩ := F.ex
  constructor
  · exact len
  intro A outer s H args us vs Q hg hr e0 hbi r hs
  have hK : K.In s.heap := e0.mod.kin.keeps fun b o e => (e0.bs b o e).1
  have hL : s.heap.NoLimit := e0.mod.nolimit.keeps fun b o e => (e0.bs b o e).1
  refine codeAny_call_function hr.depth (hK _ _ lk) rfl S.co S.gen rfl (PySem.W.codeRec_of hK hcd) (hbi _ _ _ _ ?_)
  refine wpAny_newFunctionEnv_cells S.kind (fun y hy => ?_) fun env he s1 x => ?_
  · rcases S.par y.1 (List.of_mem_zip (a := y.1) (b := y.2) hy).1 with q | q
    · exact Or.inl q
    · exact Or.inr ⟨q, PySem.W.cellsFrom_some _ _ _ (Or.inl q)⟩
  · subst he
    obtain ⟨t, ht, hq⟩ := hb cd A outer s H vs Q hg (hr.deeper _) hs
    refine ⟨hL.keeps x.toInCall.keep, codeAny_func (wpAny_mono (ht.run [] s1 (L2.start N vs) H _ (inv_start S hr.hd e0 (len _ _ _ _ hs) r x) hq) (fun fl s' z => ?_) fun _ _ z => z)⟩
    match fl, z with
    | .ret u, ⟨v, σ', G, J, rv, q⟩ => exact ⟨v, G, J.os, J.bare, J.base, J.hok, rv, q⟩
    | .next, ⟨σ', G, J, q⟩ => exact ⟨V.non, G, J.os, J.bare, J.base, J.hok, rfl, q⟩
    | .brk, ⟨_, _, _, q⟩ => exact q.elim
    | .cont, ⟨_, _, _, q⟩ => exact q.elim
end
section
variable {X : Cx}
/-- a call of such a def -/
theorem pe_callG {k : Nat} {f : Addr} {fd : FuncData} {ps : List Str} {sp : Sp} {x : Str} {p pos : Pos} {e : Expr} {es : List Expr} {t : TA} (F : FnG X.prog X.w X.K X.mg X.base k f fd ps sp) (hg : X.A.guards = some []) (hr : Room k X.A) (hx : Gl X x) (hm : X.mg x = some (.ref f))
    (hk : PySem.W.keepIn X.K (.ref f) = true) (hb : Binds X.K fd ps []) (ha : PA X (e :: es) t) (hdb : (x == ("__debug__" : Str)) = false := by decide) (he : starEach (e :: es) X.env = (false, eval e X.env) :: starEach es X.env := by rfl)
    (hpl : (backTo pos (starEach es X.env)).any (·.1) = false := by rfl) : PE X (.Call (.Name x p) (e :: es) [] pos) (tCall sp [] E0 t) := by
  refine ⟨fun pins s σ H Q I h => wpAny_Call_Name_kw (ld_glob I hx hm (PySem.W.callWith_K (h₀ := X.base) I.ok.mod.kin hk (thn (ha.run pos pins s σ H _ I h) fun us s1 ⟨vs, H1, I1, r, q⟩ => ⟨I1.kIn, ?_⟩) he hpl) hdb)⟩
  have q : sp (vs ++ []) H1 Q E0 := q
  rw [List.append_nil] at q
  have hl : us.length = ps.length := by
    rw [← r.length]
    exact F.len _ _ _ _ q
  have b := hb s1 us I1.kIn (by simpa using hl)
  rw [List.append_nil] at b
  refine wpAny_call (codeAny_mono (F.run X.A X.stack s1 H1 ⟨us, []⟩ us vs Q hg hr I1.env0 b r q) fun r s' z => ?_)
  match r, z with
  | .ok (.ret u), z => exact I1.after z
  | .error _, z => exact (show False from z).elim
/-! ### repr -/
end
theorem islist_mem {h : Heap} {as bs : List Addr} (ha : ∀ b ∈ as, ∃ o, h.get? b = some o ∧ o.cls = .type "list") (hb : ∀ b ∈ bs, ∃ o, h.get? b = some o ∧ o.cls = .type "list") : ∀ b ∈ as ++ bs, ∃ o, h.get? b = some o ∧ o.cls = .type "list" :=
  fun b hm => (List.mem_append.mp hm).elim (ha b) (hb b)
mutual
/-- what is read without a dict is read from lists -/
theorem reads_lists {h : Heap} : ∀ {v : Value} {d : PyData} {as : List Addr}, Reads h v d as → d.hasDict = false → ∀ b ∈ as, ∃ o, h.get? b = some o ∧ o.cls = .type "list"
  | _, _, _, .none, _ => fun b hb => nomatch hb
  | _, _, _, .bool _, _ => fun b hb => nomatch hb
  | _, _, _, .int _ _, _ => fun b hb => nomatch hb
  | _, _, _, .str _ _, _ => fun b hb => nomatch hb
  | _, _, _, .list h1 h2 h3 h4, n => fun b hb => by
    rcases List.mem_cons.mp hb with z | z
    · rw [z]
      exact ⟨_, h1, h2⟩
    · exact reads_listsAll h4 (by simpa only [PyData.hasDict] using n) b z
  | _, _, _, .tuple h1 h2 h3 h4, n => reads_listsAll h4 (by simpa only [PyData.hasDict] using n)
  | _, _, _, .dict h1 h2 h3 h4 h5, n => by simp only [PyData.hasDict] at n; cases n
theorem reads_listsAll {h : Heap} : ∀ {vs : List Value} {ds : List PyData} {as : List Addr}, ReadsAll h vs ds as → PyData.hasDictAll ds = false → ∀ b ∈ as, ∃ o, h.get? b = some o ∧ o.cls = .type "list"
  | _, _, _, .nil, _ => fun b hb => nomatch hb
  | _, _, _, .cons r t, n => by
    simp only [PyData.hasDictAll, Bool.or_eq_false_iff] at n
    exact islist_mem (reads_lists r n.1) (reads_listsAll t n.2)
end
/-- the dict of the modules stands in K -/
def SysD (K : PySem.W.Frag) : Prop := ∃ o, K.lookup sysModules = some o ∧ o.cls = .type "dict"
theorem SysD.no {K : PySem.W.Frag} (x : SysD K) {h : Heap} (k : K.In h) {as : List Addr} (ha : ∀ b ∈ as, ∃ o, h.get? b = some o ∧ o.cls = .type "list") : sysModules ∉ as := fun z => by
  obtain ⟨o, e1, e2⟩ := x
  obtain ⟨p, e3, e4⟩ := ha _ z
  rw [k _ _ e1] at e3
  cases e3
  rw [e2] at e4
  exact absurd (Value.type.inj e4) (by decide)
section
variable {X : Cx}
/-- data, or a dict of a text and a number -/
def Sh (K : PySem.W.Frag) (H : Hp) (v : V) (d : PyData) : Prop := (Dp K H v d ∧ d.hasDict = false) ∨ ∃ (a : Addr) (x : Str) (i : Int), v = .ref a ∧ H a = some (.dK [(.inr x, .int i)]) ∧ d = .dict [(.str x, .int i)]
theorem Sh.reads {pins : List (Addr × Obj)} {σ : L2.St} {H : Hp} {s : Shared} {v : V} {u : Value} {d : PyData} (hm : SysD X.K) (I : Inv X pins σ H s) (h : Sh X.K H v d) (r : RelV v u) : ∃ as, Reads s.heap u d as ∧ sysModules ∉ as := by
  rcases h with ⟨h, n⟩ | ⟨a, x, i, rfl, e, rfl⟩
  · obtain ⟨as, z⟩ := Dp.reads I d v u h r
    exact ⟨as, z, hm.no I.kIn (reads_lists z n)⟩
  · obtain rfl : u = .ref a := r
    obtain ⟨_, hn, vs, kv, o, es, ep, e1, e2, e3, e4, e5, e6⟩ := dk_of I.hok e
    have hs : sysModules ≠ a := fun z => by
      rw [z] at hn
      simp at hn
    cases kv with
    | @cons p q ps qs hq t =>
      cases t
      obtain ⟨h1, t2, h2⟩ := hq
      cases hL : es.toList with
      | nil =>
        rw [hL] at e5
        cases e5
      | cons y ys =>
        rw [hL] at e5
        cases e5 with
        | cons k1 k2 k3 =>
          cases k3
          have k1 : keyIs q.1 y.key = true := k1
          rw [← h1] at k1
          obtain ⟨t3, k1⟩ := Value.isStrOf_shape k1
          rw [h2] at k2
          refine ⟨_, Reads.dict e1 e2.1 e3 (as := [] ++ []) (bs := [] ++ []) ?_ ?_, fun z => ?_⟩
          · rw [hL]
            show ReadsAll _ [y.key] [.str x] _
            rw [k1]
            exact ReadsAll.cons (Reads.str x t3) ReadsAll.nil
          · rw [hL]
            show ReadsAll _ [y.val] [.int i] _
            rw [k2]
            exact ReadsAll.cons (Reads.int i t2) ReadsAll.nil
          · exact hs (by simpa using z)
inductive ShAll (K : PySem.W.Frag) (H : Hp) : List V → List PyData → Prop
  | nil : ShAll K H [] []
  | cons {v : V} {d : PyData} {vs : List V} {ds : List PyData} (h : Sh K H v d) (t : ShAll K H vs ds) : ShAll K H (v :: vs) (d :: ds)
theorem ShAll.reads {pins : List (Addr × Obj)} {σ : L2.St} {H : Hp} {s : Shared} (hm : SysD X.K) (I : Inv X pins σ H s) : ∀ {vs : List V} {ds : List PyData} {us : List Value}, ShAll X.K H vs ds → Vals vs us → ∃ as, ReadsAll s.heap us ds as ∧ sysModules ∉ as
  | _, _, _, .nil, .nil => ⟨_, ReadsAll.nil, fun z => nomatch z⟩
  | _, _, _, .cons h t, .cons r rs => by
    obtain ⟨as, a1, a2⟩ := h.reads hm I r
    obtain ⟨bs, b1, b2⟩ := ShAll.reads hm I t rs
    exact ⟨_, ReadsAll.cons a1 b1, fun y => (List.mem_append.mp y).elim a2 b2⟩
/-- the size of the text, how deep it goes -/
def ShowOk (ds : List PyData) : Prop := (PyData.list ds).showable = true ∧ (PyData.list ds).depth ≤ 30 ∧ (PyData.list ds).shown.length ≤ sizeLine
def rReprL (K : PySem.W.Frag) : List V → Hp → VK → Prop := fun xs H Q => ∃ (a : Addr) (vs : List V) (ds : List PyData), xs = [.ref a] ∧ H a = some (.lst vs) ∧ ShAll K H vs ds ∧ ShowOk ds ∧ Q (.str (PyData.list ds).shown) H
theorem call_reprL (hg : X.A.guards = some []) (hu : X.A.units + 100 < cLine) (hm : SysD X.K) : CallR X (.builtin "repr") (rReprL X.K) := by
  intro pins s σ H xs us Q I r h
  obtain ⟨a, vs, ds, rfl, ha, hv, ⟨z1, z2, z3⟩, q⟩ := h
  obtain ⟨u, rfl, r1⟩ := vals1 r
  obtain rfl : u = .ref a := r1
  obtain ⟨_, its, n, rv, e1⟩ := (show ObjOk X.prog X.w H s.heap a (.lst vs) from I.hok a _ ha)
  obtain ⟨as, w1, w2⟩ := hv.reads hm I rv
  have rd : Reads s.heap (.ref a) (.list ds) (a :: as) := Reads.list e1 rfl rfl w1
  refine PySem.repr_of_reads' rd z1 (fun _ z => ?_) hg (by omega) (fun _ _ e => e) (fun h' t tk hk => ?_) z3
  · rcases List.mem_cons.mp z with z | z
    · exact hm.no I.kIn (as := [a]) (fun b hb => by rw [List.mem_singleton.mp hb]; exact ⟨_, e1, rfl⟩) (by rw [z]; exact List.mem_singleton.mpr rfl)
    · exact w2 z
  · exact ⟨.str _, H, I.kept hk, ⟨_, rfl⟩, q⟩
end
end K00

set_option Elab.async false
set_option linter.all false
set_option maxRecDepth 100000
set_option maxHeartbeats 4000000
/-! Whether what is kept is what was passed. -/
namespace K00
open PySem PySem.Spec PyProof.Rows
open L2
abbrev nT : List Str := ["_law_found", "_law_due"]
theorem scT : FnScope nT nT (defScope s_law_are_these) := ⟨rfl, rfl, rfl, by decide +kernel, rfl, by decide +kernel, by decide +kernel⟩
def spThese (K : PySem.W.Frag) : Sp := fun vs H Q _ => ∃ (a b : Addr) (xs : List V) (ds : List PyData), vs = [.ref a, .ref b] ∧ H a = some (.lst xs) ∧ H b = some (.lst xs) ∧ ShAll K H xs ds ∧ ShowOk ds ∧ xs.length ≤ 1000 ∧ Q (.bl true) H
def tLen (K : PySem.W.Frag) (i : Nat) : TE := tCB (fun xs H Q => ∃ x n, xs = [x] ∧ LenV K x H n ∧ Q (.int n) H) (tCons (tVar i) tNil)
def tRpr (K : PySem.W.Frag) (i : Nat) : TE := tCB (rReprL K) (tCons (tVar i) tNil)
section
variable {P : Program} {w : World} {K : PySem.W.Frag} {mg : Str → Option Value} {base : Heap}
theorem ok_these {f : Addr} {fd : FuncData} (F : FnP K "_law_are_these" s_law_are_these f fd) (hm : SysD K) (mR : mg "repr" = none) (mN : mg "len" = none) : FnG P w K mg base 1 f fd nT (spThese K) := by
  refine FnG.of F scT (fun vs H Q E h => ?_) (fun cd A outer s H vs Q hg hr h => ?_)
  · obtain ⟨a, b, xs, ds, rfl, _⟩ := h
    rfl
  · obtain ⟨a, b, xs, ds, rfl, ha, hb, hd, hz, hl, q⟩ := h
    have hu := hr.un
    have cr : ∀ X : Cx, X.A = A.deeper (envOfC "_law_are_these" (defScope s_law_are_these) s.heap.objs.size f cd) → X.K = K → CallR X (.builtin "repr") (rReprL K) := fun X e1 e2 => by
      rw [← e2]
      exact call_reprL (by rw [e1]; exact hg) (by rw [e1]; omega) (by rw [e2]; exact hm)
    refine ⟨tRet (tAndV (tOp rEq (tRpr K 0) (tRpr K 1)) (tOp rEq (tLen K 0) (tLen K 1))), PSs.nox (pss_one (ps_ret (pe_and (pe_cmpR op_eq (pe_callB (cr _ rfl rfl) (by rfl) mR PyProof.Rows.boot_repr (pa_cons (pv 0) pa_nil)) (pe_callB (cr _ rfl rfl) (by rfl) mR PyProof.Rows.boot_repr (pa_cons (pv 1) pa_nil)) (nomark _))
      (pe_one (pe_cmpR op_eq (pe_callB call_len (by rfl) mN PySem.boot_len (pa_cons (pv 0) pa_nil)) (pe_callB call_len (by rfl) mN PySem.boot_len (pa_cons (pv 1) pa_nil)) (nomark _)))))), ?_⟩
    refine ⟨_, rfl, a, xs, ds, rfl, ha, hd, hz, _, rfl, b, xs, ds, rfl, hb, hd, hz, rfl, _, rfl, ?_⟩
    rw [decide_eq_true rfl, if_pos rfl]
    refine ⟨_, rfl, _, xs.length, rfl, .inl ⟨xs, SqL.of ha, rfl⟩, _, rfl, _, xs.length, rfl, .inl ⟨xs, SqL.of hb, rfl⟩, rfl, ?_⟩
    rw [decide_eq_true rfl]
    exact q
end
end K00

set_option Elab.async false
set_option linter.all false
set_option maxRecDepth 100000
set_option maxHeartbeats 4000000
/-! All kinds of an error; whether it is of its own class alone. -/
namespace K00
open PySem PySem.Spec PyProof.Rows
open L2 LamX
def knAll : List Str := knA ++ knB ++ knC ++ knD
theorem scKall : FnScope ["_law_e"] ["_law_e"] (defScope s_law_kinds) := ⟨rfl, rfl, rfl, by decide +kernel, rfl, by decide +kernel, by decide +kernel⟩
theorem ansK_app {K : PySem.W.Frag} {C : Addr} {a b : List Str} : ansK K C (a ++ b) = ansK K C a ++ ansK K C b := List.map_append
section
variable {P : Program} {w : World} {K : PySem.W.Frag} {mg : Str → Option Value} {base : Heap}
theorem ok_kinds {f fa fb fc fd' : Addr} {fd da db dc dd : FuncData} (F : FnP K "_law_kinds" s_law_kinds f fd)
    (Fa : FnOk P w K mg base CX0 1 fa da ["_law_e"] (spKinds K knA)) (Fb : FnOk P w K mg base CX0 1 fb db ["_law_e"] (spKinds K knB)) (Fc : FnOk P w K mg base CX0 1 fc dc ["_law_e"] (spKinds K knC)) (Fd : FnOk P w K mg base CX0 1 fd' dd ["_law_e"] (spKinds K knD))
    (Ba : Binds K da ["_law_e"] []) (Bb : Binds K db ["_law_e"] []) (Bc : Binds K dc ["_law_e"] []) (Bd : Binds K dd ["_law_e"] []) (Ka : PySem.W.keepIn K (.ref fa) = true) (Kb : PySem.W.keepIn K (.ref fb) = true) (Kc : PySem.W.keepIn K (.ref fc) = true) (Kd : PySem.W.keepIn K (.ref fd') = true)
    (Ma : mg "_law_kinds_a" = some (.ref fa)) (Mb : mg "_law_kinds_b" = some (.ref fb)) (Mc : mg "_law_kinds_c" = some (.ref fc)) (Md : mg "_law_kinds_d" = some (.ref fd')) : FnOk P w K mg base CX0 2 f fd ["_law_e"] (spKinds K knAll) := by
  refine F.ok scKall (fun vs H Q E h => ?_) (fun cdv A outer s H vs Q E hr h => ?_)
  · obtain ⟨e, C, ys, rfl, _⟩ := h
    rfl
  · obtain ⟨e, C, ys, rfl, ea, T, kn, k⟩ := h
    refine ⟨_, PSs.nox (pss_one (ps_ret (pe_op op_cat (pe_op op_cat (pe_op op_cat (pe_call Fa hr (by rfl) Ma Ka Ba .nil pass0 (pa_cons (pv 0) pa_nil)) (pe_call Fb hr (by rfl) Mb Kb Bb .nil pass0 (pa_cons (pv 0) pa_nil)))
      (pe_call Fc hr (by rfl) Mc Kc Bc .nil pass0 (pa_cons (pv 0) pa_nil))) (pe_call Fd hr (by rfl) Md Kd Bd .nil pass0 (pa_cons (pv 0) pa_nil))))), ?_⟩
    have sz : ∀ ns : List Str, (ansK K C ns).length = ns.length := fun ns => List.length_map ..
    refine ⟨_, rfl, e, C, ys, rfl, ea, T, kn, fun p1 G1 n1 x1 g1 => ⟨_, rfl, e, C, ys, rfl, ea.ext x1, T, kn, fun p2 G2 n2 x2 g2 => ⟨p1, p2, _, _, rfl, rfl, x2 _ _ g1, g2, ?_, fun p3 n3 => ?_⟩⟩⟩
    · rw [sz, sz]
      decide +kernel
    have x3 := Ext.new (o := .lst (ansK K C knA ++ ansK K C knB)) n3
    have y3 := (x1.trans x2).trans x3
    refine ⟨_, rfl, e, C, ys, rfl, ea.ext y3, T, kn, fun p4 G4 n4 x4 g4 => ⟨p3, p4, _, _, rfl, rfl, x4 _ _ upd_same, g4, ?_, fun p5 n5 => ?_⟩⟩
    · rw [List.length_append, sz, sz, sz]
      decide +kernel
    have x5 := Ext.new (o := .lst (ansK K C knA ++ ansK K C knB ++ ansK K C knC)) n5
    have y5 := (y3.trans x4).trans x5
    refine ⟨_, rfl, e, C, ys, rfl, ea.ext y5, T, kn, fun p6 G6 n6 x6 g6 => ⟨p5, p6, _, _, rfl, rfl, x6 _ _ upd_same, g6, ?_, fun p7 n7 => ?_⟩⟩
    · rw [List.length_append, List.length_append, sz, sz, sz, sz]
      decide +kernel
    have x7 := Ext.new (o := .lst (ansK K C knA ++ ansK K C knB ++ ansK K C knC ++ ansK K C knD)) n7
    have y7 := (y5.trans x6).trans x7
    refine k p7 _ ?_ y7 ?_
    · cases e7 : H p7 with
      | none => rfl
      | some o =>
        rw [(y5.trans x6) _ _ e7] at n7
        cases n7
    · rw [upd_same, knAll, ansK_app, ansK_app, ansK_app]
end
/-! ### its own class alone -/
/-- the row of the n-th class -/
def rowB (n : Nat) : List Bool := (List.range 61).map fun k => decide (k = n)
structure Own (K : PySem.W.Frag) (C : Addr) (n : Nat) : Prop where
  exc : ExcC K C
  kin : Kin K C
  sh : PySem.W.kitOne K (.ref C) (.ref (He.ga K "ShowError")) = some true
  ve : PySem.W.kitOne K (.ref C) (.type "ValueError") = some true
  le : PySem.W.kitOne K (.ref C) (.type "LookupError") = some false
  n61 : n < 61
  row : ansK K C knAll = (rowB n).map V.bl
def spOwn (K : PySem.W.Frag) : Sp := fun vs H Q _ => ∃ (e C : Addr) (ys : List (Str × V)) (n : Nat), vs = [.ref e, .int n] ∧ ErrAt H e C ys ∧ Own K C n ∧ ∀ G, Ext H G → Q (.bl true) G
abbrev nO : List Str := ["_law_e", "_law_at", "_law_k"]
theorem scO : FnScope nO ["_law_e", "_law_at"] (defScope s_law_is_own) := ⟨rfl, rfl, rfl, by decide +kernel, rfl, by decide +kernel, by decide +kernel⟩
theorem dp_bools {K : PySem.W.Frag} {H : Hp} : ∀ L : List Bool, DpAll K H (L.map V.bl) (L.map PyData.bool)
  | [] => .nil
  | i :: r => .cons (.bl i) (dp_bools r)
theorem row_shaped : ∀ n : Fin 61, SeqAt.shaped (.list ((rowB n.1).map PyData.bool)) = true := by decide +kernel
theorem row_eqv : ∀ n : Fin 61, PyData.eqv (.list ((rowB n.1).map PyData.bool)) (.list ((rowB n.1).map PyData.bool)) = true := by decide +kernel
section
variable {P : Program} {w : World} {K : PySem.W.Frag} {mg : Str → Option Value} {base : Heap}
theorem boot_VE : bootBuiltins "ValueError" = some (.type "ValueError") := by decide +kernel
theorem boot_LookupError : bootBuiltins "LookupError" = some (.type "LookupError") := by decide +kernel
def tIsS (K : PySem.W.Frag) (v : V) : TE := tCB (rIsO K) (tCons (tVar 0) (tCons (tC v) tNil))
theorem ok_own {f fk : Addr} {fd dk : FuncData} (F : FnP K "_law_is_own" s_law_is_own f fd) (Fk : FnOk P w K mg base CX0 2 fk dk ["_law_e"] (spKinds K knAll)) (Bk : Binds K dk ["_law_e"] []) (Kk : PySem.W.keepIn K (.ref fk) = true) (Mk : mg "_law_kinds" = some (.ref fk))
    (mI : mg "isinstance" = none) (mV : mg "ValueError" = none) (mL : mg "LookupError" = none) (mR : mg "range" = none) (mS : mg "ShowError" = some (.ref (He.ga K "ShowError"))) : FnOk P w K mg base CX0 3 f fd ["_law_e", "_law_at"] (spOwn K) := by
  refine F.ok scO (fun vs H Q E h => ?_) (fun cdv A outer s H vs Q E hr h => ?_)
  · obtain ⟨e, C, ys, n, rfl, _⟩ := h
    rfl
  · obtain ⟨e, C, ys, n, rfl, ea, O, k⟩ := h
    have hu := hr.un
    refine ⟨tSeq (tIfS (tOr (tNot (tB (tIsS K (.ref (He.ga K "ShowError"))))) (tOr (tNot (tB (tIsS K (.ty "ValueError")))) (tB (tIsS K (.ty "LookupError"))))) tNever tNext) (tRet (tOp (rEqD K) (tCall (spKinds K knAll) [] E0 (tCons (tVar 0) tNil)) _)),
      PSs.nox (pss_cons (ps_if (PW.pt (pw_or (pt_not (pt_val (pe_callB call_isO (by rfl) mI PyProof.Rows.boot_isinstance (pa_cons (pv 0) (pa_cons (pe_glob (by rfl) mS rfl) pa_nil)))))
        (pw_or (pt_not (pt_val (pe_callB call_isO (by rfl) mI PyProof.Rows.boot_isinstance (pa_cons (pv 0) (pa_cons (pe_bltn (by rfl) mV boot_VE rfl) pa_nil)))))
        (pw_or1 (pt_val (pe_callB call_isO (by rfl) mI PyProof.Rows.boot_isinstance (pa_cons (pv 0) (pa_cons (pe_bltn (by rfl) mL boot_LookupError rfl) pa_nil)))))))) pss_never pss_nil)
      (pss_one (ps_ret (pe_cmpR (op_eqD (by show A.units + 3 + 64 < _; have : A.units + 3 + 16 * 2 + 200 < cLine := hu; omega)) (pe_call Fk hr (by rfl) Mk Kk Bk .nil pass0 (pa_cons (pv 0) pa_nil))
        (pe_lc (own := [("_law_k", 2)]) (g := gName 2) (tt := tYes) (te := tOp rEq (tVar 2) (tVar 1)) rfl scO.nd (pi_range1 (by rfl) mR (pa_cons pe_int pa_nil)) (blkOk_by (N := nO) (sc := defScope s_law_is_own) (by decide +kernel)) (fun _ _ _ _ _ => pg_name (i := 2) scO.nd rfl (Or.inl rfl)) (fun _ _ _ _ _ => pts_nil)
          (fun _ _ _ _ _ => pe_cmpR op_eq (pv 2) (pv 1) (nomark _))) (nomark _))))), ?_⟩
    refine ⟨_, rfl, e, C, ys, _, _, _, rfl, ea, O.exc, ClsV.own _, O.sh, _, rfl, ?_⟩
    refine iteF ⟨_, rfl, e, C, ys, _, _, _, rfl, ea, O.exc, ClsV.ty _, O.ve, _, rfl, ?_⟩
    refine iteF ⟨_, rfl, e, C, ys, _, _, _, rfl, ea, O.exc, ClsV.ty _, O.le, _, rfl, ?_⟩
    refine iteF ⟨_, rfl, e, C, ys, rfl, ea, O.exc, O.kin, fun p G np x gp => ?_⟩
    refine ⟨_, rfl, by omega, by omega, fun D hD => ?_⟩
    have Dp0 : D ≠ p := (ne_of_none gp hD).symm
    have rw2 : ∀ i : Nat, (V.bl (decide (V.int (0 + (i : Int)) = V.int (n : Int)))) = V.bl (decide (i = n)) := fun i => by
      congr 1
      by_cases q : i = n
      · rw [q, decide_eq_true rfl, decide_eq_true (by rw [Int.zero_add])]
      · rw [decide_eq_false q, decide_eq_false]
        intro z
        have z' := V.int.inj z
        omega
    refine lc_range (lo := 0) (fun i J => Ext G J ∧ J D = some (.lst ((List.range i).map fun k => V.bl (decide (k = n))))) ⟨Ext.new hD, upd_same⟩ ?_ ?_
    · rintro i J hi ⟨xJ, gJ⟩
      refine ⟨rfl, ?_⟩
      unfold tYes
      dsimp only
      rw [if_pos (rfl : true = true)]
      refine ⟨_, rfl, _, rfl, rfl, _, gJ, ?_, ?_⟩
      · rw [List.length_map, List.length_range, sizeLine_eq]
        have hi' : i < 61 := hi
        omega
      · refine ⟨fun b o eb => ?_, ?_⟩
        · rw [upd_ne (ne_of_none eb hD)]
          exact xJ _ _ eb
        · rw [upd_same, rw2, List.range_succ, List.map_append]
          rfl
    · rintro J ⟨xJ, gJ⟩
      have r61 : (List.range 61).map (fun k => V.bl (decide (k = n))) = (rowB n).map V.bl := by rw [rowB, List.map_map]; rfl
      have gJ : J D = some (.lst ((rowB n).map V.bl)) := by rw [← r61]; exact gJ
      have gp2 : J p = some (.lst ((rowB n).map V.bl)) := by rw [← O.row]; exact xJ _ _ gp
      have d1 := dp_bools (K := K) (H := J) (rowB n)
      refine ⟨_, _, .lst (SqL.of gp2) d1, .lst (SqL.of gJ) d1, row_shaped ⟨n, O.n61⟩, row_shaped ⟨n, O.n61⟩, ?_⟩
      rw [row_eqv ⟨n, O.n61⟩]
      exact k J (x.trans xJ)
end
end K00

set_option Elab.async false
set_option linter.all false
set_option maxRecDepth 100000
set_option maxHeartbeats 4000000
/-! Data that stays while some lists change; an entry held against what it was made with. -/
namespace K00
open PySem PySem.Spec PyProof.Rows
open L2 LamX
mutual
/-- the data d at v, in lists that are none of M -/
inductive DM (M : List Addr) (H : Hp) : V → PyData → Prop
  | non : DM M H .non .none
  | bl (b : Bool) : DM M H (.bl b) (.bool b)
  | int (i : Int) : DM M H (.int i) (.int i)
  | str (x : Str) : DM M H (.str x) (.str x)
  | lst {a : Addr} {xs : List V} {ds : List PyData} : H a = some (.lst xs) → a ∉ M → DMA M H xs ds → DM M H (.ref a) (.list ds)
  | tup {a : Addr} {xs : List V} {ds : List PyData} : H a = some (.tup xs) → DMA M H xs ds → DM M H (.ref a) (.tuple ds)
inductive DMA (M : List Addr) (H : Hp) : List V → List PyData → Prop
  | nil : DMA M H [] []
  | cons {v : V} {vs : List V} {d : PyData} {ds : List PyData} : DM M H v d → DMA M H vs ds → DMA M H (v :: vs) (d :: ds)
end
section
variable {M : List Addr} {H G : Hp}
mutual
theorem DM.gr (g : GrM M H G) : ∀ {v : V} {d : PyData}, DM M H v d → DM M G v d
  | _, _, .non => .non
  | _, _, .bl b => .bl b
  | _, _, .int i => .int i
  | _, _, .str x => .str x
  | _, _, .lst h n t => .lst (g _ _ h (fun ps z => nomatch z) fun _ => n) n (DMA.gr g t)
  | _, _, .tup h t => .tup (g _ _ h (fun ps z => nomatch z) fun ⟨_, z⟩ => nomatch z) (DMA.gr g t)
theorem DMA.gr (g : GrM M H G) : ∀ {vs : List V} {ds : List PyData}, DMA M H vs ds → DMA M G vs ds
  | _, _, .nil => .nil
  | _, _, .cons h t => .cons (DM.gr g h) (DMA.gr g t)
end
mutual
theorem DM.dp (K : PySem.W.Frag) : ∀ {v : V} {d : PyData}, DM M H v d → Dp K H v d
  | _, _, .non => .non
  | _, _, .bl b => .bl b
  | _, _, .int i => .int i
  | _, _, .str x => .str x
  | _, _, .lst h n t => .lst (SqL.of h) (DMA.dp K t)
  | _, _, .tup h t => .tup (.inl (.inl h)) (DMA.dp K t)
theorem DMA.dp (K : PySem.W.Frag) : ∀ {vs : List V} {ds : List PyData}, DMA M H vs ds → DpAll K H vs ds
  | _, _, .nil => .nil
  | _, _, .cons h t => .cons (DM.dp K h) (DMA.dp K t)
end
def SM (M : List Addr) (H : Hp) (v : V) (d : PyData) : Prop := (DM M H v d ∧ d.hasDict = false) ∨ ∃ (a : Addr) (x : Str) (i : Int), v = .ref a ∧ H a = some (.dK [(.inr x, .int i)]) ∧ d = .dict [(.str x, .int i)]
theorem SM.gr {v : V} {d : PyData} (g : GrM M H G) (h : SM M H v d) : SM M G v d := by
  rcases h with ⟨h, n⟩ | ⟨a, x, i, e1, e2, e3⟩
  · exact .inl ⟨h.gr g, n⟩
  · exact .inr ⟨a, x, i, e1, g _ _ e2 (fun ps z => nomatch z) (fun ⟨_, z⟩ => nomatch z), e3⟩
theorem SM.sh (K : PySem.W.Frag) {v : V} {d : PyData} (h : SM M H v d) : Sh K H v d := by
  rcases h with ⟨h, n⟩ | h
  · exact .inl ⟨h.dp K, n⟩
  · exact .inr h
abbrev SMA (M : List Addr) (H : Hp) : List V → List PyData → Prop := Paired (SM M H)
theorem SMA.gr (g : GrM M H G) : ∀ {vs : List V} {ds : List PyData}, SMA M H vs ds → SMA M G vs ds
  | _, _, .nil => .nil
  | _, _, .cons h t => .cons (h.gr g) (SMA.gr g t)
theorem SMA.sh (K : PySem.W.Frag) : ∀ {vs : List V} {ds : List PyData}, SMA M H vs ds → ShAll K H vs ds
  | _, _, .nil => .nil
  | _, _, .cons h t => .cons (h.sh K) (SMA.sh K t)
theorem SMA.len : ∀ {vs : List V} {ds : List PyData}, SMA M H vs ds → vs.length = ds.length
  | _, _, .nil => rfl
  | _, _, .cons h t => congrArg Nat.succ (SMA.len t)
end
/-! ### an entry held against what it was made with -/
theorem lookup_nodup {f : Str} {v : V} : ∀ {l : List (Str × V)}, (f, v) ∈ l → (l.map (·.1)).Nodup → l.lookup f = some v
  | [], h, _ => nomatch h
  | p :: r, h, n => by
    rw [List.map_cons, List.nodup_cons] at n
    rcases List.mem_cons.mp h with h | h
    · rw [← h, List.lookup_cons, beq_self_eq_true]
    · have ne : (f == p.1) = false := by
        cases q : f == p.1 with
        | false => rfl
        | true => exact absurd (List.mem_map.mpr ⟨_, h, beq_iff_eq.mp q⟩) n.1
      rw [List.lookup_cons, ne]
      exact lookup_nodup h n.2
theorem lookup_rev {fs : List Str} {vs : List V} (n : fs.Nodup) (hl : vs.length = fs.length) {f : Str} {v : V} (h : (f, v) ∈ fs.zip vs) : (fs.zip vs).reverse.lookup f = some v := by
  refine lookup_nodup (List.mem_reverse.mpr h) ?_
  rw [List.map_reverse, List.map_fst_zip (by omega)]
  exact List.pairwise_reverse.mpr (n.imp fun h => Ne.symm h)
section
variable {P : Program} {w : World} {K : PySem.W.Frag} {mg : Str → Option Value} {base : Heap}
theorem fld_ok {σ : L2.St} {H : Hp} {Q : List V → Hp → Prop} {e C : Addr} {ys : List (Str × V)} (s0 : σ[0]? = some (some (.ref e))) (T : XfC K C) (ea : ErrAt H e C ys) : ∀ {gs : List Str} {vs : List V}, vs.length = gs.length → (∀ f ∈ gs, PySem.W.findIn K (.ref C) f = some none) →
    (∀ f v, (f, v) ∈ gs.zip vs → ys.lookup f = some v) → Q vs H → fldTA K gs σ H Q
  | [], vs, hl, _, _, q => by
    obtain rfl : vs = [] := List.length_eq_zero_iff.mp hl
    exact q
  | f :: r, vs, hl, hn, hk, q => by
    match vs, hl, hk, q with
    | v :: vr, hl, hk, q =>
      exact ⟨_, s0, e, C, ys, v, rfl, T, hn f (List.mem_cons_self ..), ea, hk f v (by simp), fld_ok (Q := fun us H1 => Q (v :: us) H1) s0 T ea (by simpa using hl) (fun g hg => hn g (List.mem_cons_of_mem _ hg)) (fun g u hg => hk g u (by simp [hg])) q⟩
/-- repr(field(e)) == repr(due) and the lengths alike -/
def tThese (P : Program) (w : World) (K : PySem.W.Frag) (mg : Str → Option Value) (base : Heap) (i : Nat) : TE := tCall (spThese K) [] E0 (tCons (tCallLam P w K mg base 11 (tCons (tVar i) tNil)) (tCons (tVar 12) tNil))
theorem these_ok {σ : L2.St} {H : Hp} {Q : VK} {i : Nat} {e C l d c : Addr} {F : Lam} {fs : List Str} {vs : List V} {ds : List PyData} {M : List Addr} (si : σ[i]? = some (some (.ref e))) (s11 : σ[11]? = some (some (.ref l))) (s12 : σ[12]? = some (some (.ref d)))
    (ea : ErrAt H e C (fs.zip vs).reverse) (hl : H l = some (LamO l F c)) (hc : H c = some (CodeO c F.q)) (D : LamDoes P w K mg base F "_law_e" (lamTB K fs)) (hd : H d = some (.lst vs)) (sm : SMA M H vs ds) (so : ShowOk ds) (T : XfC K C)
    (no : ∀ f ∈ fs, PySem.W.findIn K (.ref C) f = some none) (nd : fs.Nodup) (le : vs.length = fs.length) (l3 : fs.length ≤ 3) (k : ∀ G, Ext H G → Q (.bl true) G) : tThese P w K mg base i σ H Q := by
  refine ⟨l, c, F, s11, hl, _, si, .ref e, "_law_e", lamTB K fs, rfl, hl, hc, D, ?_⟩
  refine fld_ok (vs := vs) (ys := (fs.zip vs).reverse) rfl T ea le no (fun f v h => lookup_rev nd le h) ⟨by rw [sizeLine_eq]; omega, fun r nr => ?_⟩
  have x := Ext.new (o := .lst vs) nr
  exact ⟨_, s12, r, d, vs, ds, rfl, upd_same, x _ _ hd, (sm.gr (GrM.of (ExtN.of x))).sh K, so, by omega, k _ x⟩
end
end K00

set_option Elab.async false
set_option linter.all false
set_option maxRecDepth 100000
set_option maxHeartbeats 4000000
/-! The law's start and its menu of things. -/
namespace K00
open PySem PySem.Spec PyProof.Rows
open L2 LamX
def okB (ds : List PyData) : Bool := (PyData.list ds).showable && (decide ((PyData.list ds).depth ≤ 30) && decide ((PyData.list ds).shown.length ≤ 10000))
theorem okB_ok {ds : List PyData} (h : okB ds = true) : ShowOk ds := by
  unfold okB at h
  simp only [Bool.and_eq_true, decide_eq_true_eq] at h
  exact ⟨h.1, h.2.1, Nat.le_trans h.2.2 (by rw [sizeLine_eq]; omega)⟩
def menuD : List PyData := [.none, .int 5, .int (-1), .bool true, .str "a", .str "", .list [.int 1, .str "b"], .tuple [.int 2, .none], .dict [(.str "a", .int 1)], .list [.list [.str "x"]], .int ((10 : Int) ^ (30 : Int).toNat), .tuple [.str "s", .int 3], .bool false, .int 0, .int 1]
theorem menu0 : okB [] = true := by decide +kernel
theorem menu1 : (menuD.all fun a => okB [a]) = true := by decide +kernel
theorem menu2 : (menuD.all fun a => menuD.all fun b => okB [a, b]) = true := by decide +kernel
theorem menu3 : (menuD.all fun a => menuD.all fun b => menuD.all fun c => okB [a, b, c]) = true := by decide +kernel
end K00

set_option Elab.async false
set_option linter.all false
set_option maxRecDepth 100000
set_option maxHeartbeats 4000000
/-! The law's start, its menu as laid. -/
namespace K00
open PySem PySem.Spec PyProof.Rows
open L2 LamX
def spStart (K : PySem.W.Frag) : Sp := fun vs H Q _ => ∃ (a : Addr) (ns : List Int), vs = [.ref a] ∧ SqL K H a (ns.map V.int) ∧ ∀ (p q : Addr) (G : Hp), H p = none → H q = none → Ext H G → Stm G p q ns 0 0 11 → Q (.ref p) G
theorem scS : FnScope ["_law_script"] ["_law_script"] (defScope s_law_start) := ⟨rfl, rfl, rfl, by decide +kernel, rfl, by decide +kernel, by decide +kernel⟩
section
variable {P : Program} {w : World} {K : PySem.W.Frag} {mg : Str → Option Value} {base : Heap}
theorem ok_start {f : Addr} {fd : FuncData} (F : FnP K "_law_start" s_law_start f fd) (mL : mg "list" = none) : FnOk P w K mg base CX0 1 f fd ["_law_script"] (spStart K) := by
  refine F.ok scS (fun vs H Q E h => ?_) (fun cdv A outer s H vs Q E hr h => ?_)
  · obtain ⟨a, ns, rfl, _⟩ := h
    rfl
  · obtain ⟨a, ns, rfl, hS, k⟩ := h
    refine ⟨_, PSs.nox (pss_one (ps_ret (pe_lst (pa_cons (pe_callTy call_list_of (by rfl) mL PyProof.Rows.boot_list (pa_cons (pv 0) pa_nil)) (pa_cons pe_int (pa_cons pe_int (pa_cons pe_int pa_nil))))))), ?_⟩
    refine ⟨_, rfl, a, _, rfl, .inl hS, fun l nl => ⟨by show 4 ≤ sizeLine; rw [sizeLine_eq]; omega, fun p np => ?_⟩⟩
    have ne : l ≠ p := fun z => by
      rw [z, upd_same] at np
      cases np
    have np0 : H p = none := NdefX.upd_none np
    exact k p l _ np0 nl ((Ext.new nl).trans (Ext.new np)) ⟨upd_same, by rw [upd_ne ne, upd_same], ne.symm, Int.le_refl _, Int.le_refl _, by decide, by decide⟩
end
/-! ### the menu -/
def tMenu : TE := tLst (tCons (tC .non) (tCons (tC (.int 5)) (tCons (tUn (rU fun i => .int (-i)) (tC (.int 1))) (tCons (tC (.bl true)) (tCons (tC (.str "a")) (tCons (tC (.str "")) (tCons (tLst (tCons (tC (.int 1)) (tCons (tC (.str "b")) tNil)))
  (tCons (tTup (tCons (tC (.int 2)) (tCons (tC .non) tNil))) (tCons (tDisp [(tC (.str "a"), tC (.int 1))]) (tCons (tLst (tCons (tLst (tCons (tC (.str "x")) tNil)) tNil)) (tCons (tOp (rI CPow fun i j => .int (i ^ j.toNat)) (tC (.int 10)) (tC (.int 30)))
  (tCons (tTup (tCons (tC (.str "s")) (tCons (tC (.int 3)) tNil))) (tCons (tC (.bl false)) (tCons (tC (.int 0)) (tCons (tC (.int 1)) tNil)))))))))))))))
theorem z2 : 2 ≤ sizeLine := by rw [sizeLine_eq]; omega
theorem z1 : 1 ≤ sizeLine := by rw [sizeLine_eq]; omega
theorem menu_ok {σ : L2.St} {H : Hp} {Q : VK} {M : List Addr} (hM : ∀ b ∈ M, H b ≠ none) (k : ∀ (m : Addr) (G : Hp) (mv : List V), H m = none → Ext H G → G m = some (.lst mv) → SMA M G mv menuD → Q (.ref m) G) : tMenu σ H Q := by
  have nM : ∀ {b : Addr} {G : Hp}, Ext H G → G b = none → b ∉ M := fun {b G} x n z => by
    cases e : H b with
    | none => exact hM b z e
    | some o =>
      rw [x _ _ e] at n
      cases n
  refine ⟨1, rfl, z2, fun a1 n1 => ?_⟩
  have x1 := Ext.new (o := .lst [.int 1, .str "b"]) n1
  refine ⟨z2, fun a2 n2 => ?_⟩
  have x2 := x1.trans (Ext.new (o := .tup [.int 2, .non]) n2)
  refine fun a3 n3 => ⟨upd_same, [(.inr "a", .int 1)], rfl, by decide, ?_⟩
  have e3 : upd (upd (upd (upd H a1 (.lst [.int 1, .str "b"])) a2 (.tup [.int 2, .non])) a3 (.dK [])) a3 (.dK (mergeK [] [(.inr "a", .int 1)])) = upd (upd (upd H a1 (.lst [.int 1, .str "b"])) a2 (.tup [.int 2, .non])) a3 (.dK [(.inr "a", .int 1)]) := by
    funext b
    by_cases e : b = a3
    · rw [e, upd_same, upd_same]
      rfl
    · rw [upd_ne e, upd_ne e, upd_ne e]
  rw [e3]
  have x3 := x2.trans (Ext.new (o := .dK [(.inr "a", .int 1)]) n3)
  refine ⟨z1, fun a4 n4 => ⟨z1, fun a5 n5 => ?_⟩⟩
  have y4 := Ext.new (o := .lst [.str "x"]) n4
  have y5 := Ext.new (o := .lst [.ref a4]) n5
  have x4 := x3.trans y4
  have x5 := x4.trans y5
  refine ⟨_, _, rfl, rfl, ⟨by decide, by decide, by decide⟩, z2, fun a6 n6 => ?_⟩
  have y6 := Ext.new (o := .tup [.str "s", .int 3]) n6
  have x6 := x5.trans y6
  refine ⟨by show 15 ≤ sizeLine; rw [sizeLine_eq]; omega, fun m nm => ?_⟩
  have y7 := Ext.new (o := .lst [.non, .int 5, .int (-1), .bl true, .str "a", .str "", .ref a1, .ref a2, .ref a3, .ref a5, .int ((10 : Int) ^ (30 : Int).toNat), .ref a6, .bl false, .int 0, .int 1]) nm
  have w6 := y6.trans y7
  have w5 := y5.trans w6
  have w4 := y4.trans w5
  have w3 := (Ext.new (o := .dK [(.inr "a", .int 1)]) n3).trans w4
  have w2 := (Ext.new (o := .tup [.int 2, .non]) n2).trans w3
  have w1 := x1.trans w2
  have mn : H m = none := by
    cases e : H m with
    | none => rfl
    | some o =>
      rw [x6 _ _ e] at nm
      cases nm
  refine k m _ _ mn w1 upd_same ?_
  refine .cons (.inl ⟨.non, rfl⟩) (.cons (.inl ⟨.int _, rfl⟩) (.cons (.inl ⟨.int _, rfl⟩) (.cons (.inl ⟨.bl _, rfl⟩) (.cons (.inl ⟨.str _, rfl⟩) (.cons (.inl ⟨.str _, rfl⟩) (.cons (.inl ⟨.lst (w2 _ _ upd_same) (nM (Ext.refl H) n1) (.cons (.int _) (.cons (.str _) .nil)), by decide +kernel⟩)
    (.cons (.inl ⟨.tup (w3 _ _ upd_same) (.cons (.int _) (.cons .non .nil)), by decide +kernel⟩) (.cons (.inr ⟨a3, "a", 1, rfl, w4 _ _ upd_same, rfl⟩) (.cons (.inl ⟨.lst (w6 _ _ upd_same) (nM x4 n5) (.cons (.lst (w5 _ _ upd_same) (nM x3 n4) (.cons (.str _) .nil)) .nil), by decide +kernel⟩)
    (.cons (.inl ⟨.int _, rfl⟩) (.cons (.inl ⟨.tup (y7 _ _ upd_same) (.cons (.str _) (.cons (.int _) .nil)), by decide +kernel⟩) (.cons (.inl ⟨.bl _, rfl⟩) (.cons (.inl ⟨.int _, rfl⟩) (.cons (.inl ⟨.int _, rfl⟩) .nil))))))))))))))
end K00

set_option Elab.async false
set_option linter.all false
set_option maxRecDepth 100000
set_option maxHeartbeats 4000000
/-! All entries made; the law's loops over them. -/
namespace K00
open PySem PySem.Spec PyProof.Rows
open L2 LamX
section
variable {P : Program} {w : World} {K : PySem.W.Frag} {mg : Str → Option Value} {base : Heap}
theorem Ents.less {M N : List Addr} {H : Hp} {xyz : List V} (s : ∀ b ∈ N, b ∈ M) : ∀ {L : List V} {seg : List (Str × List Str)}, Ents P w K mg base M H xyz L seg → Ents P w K mg base N H xyz L seg
  | _, _, .nil => .nil
  | _, _, .cons ⟨t, e, x⟩ r => .cons ⟨t, e, by
      obtain ⟨e1, e2, l, d, c, F, h1, h2, h3, h4, h5, h6, h7, h8⟩ := x
      exact ⟨e1, e2, l, d, c, F, h1, h2, h3, h4, h5, h6, h7, fun z => h8 (s _ z)⟩⟩ (Ents.less s r)
theorem Ents.get {M : List Addr} {H : Hp} {xyz : List V} : ∀ {L : List V} {seg : List (Str × List Str)}, Ents P w K mg base M H xyz L seg → ∀ {i : Nat} {v : V}, L[i]? = some v → ∃ s, seg[i]? = some s ∧ ∃ t, v = .ref t ∧ EntAt P w K mg base M H t (He.ga K s.1) s.2 (xyz.take s.2.length)
  | _, _, .nil, i, v, h => by simp at h
  | _, _, .cons (b := s) q r, i, v, h => by
    cases i with
    | zero =>
      simp at h
      subst h
      exact ⟨s, rfl, q⟩
    | succ i => exact Ents.get r (i := i) (by simpa using h)
theorem tabs_put {T : List (Addr × Str)} {G : Hp} {p : Addr} {L L' : List V} (h : Tabs T G) (gp : G p = some (.lst L)) : Tabs T (upd G p (.lst L')) := fun z hz => by
  obtain ⟨ps, y1, y2, y3⟩ := h z hz
  refine ⟨ps, ?_, y2, fun pos cv hc => ?_⟩
  · rw [upd_ne fun q => by rw [q, gp] at y1; cases y1]
    exact y1
  · obtain ⟨c, c1, c2⟩ := y3 pos cv hc
    refine ⟨c, c1, ?_⟩
    rw [upd_ne fun q => by rw [q, gp] at c2; exact absurd (Option.some.inj c2).symm cod_lst]
    exact c2
theorem tabs_but {T : List (Addr × Str)} {H G : Hp} {p q : Addr} {xs ys : List V} (h : Tabs T H) (B : But p q H G) (hp : H p = some (.lst xs)) (hq : H q = some (.lst ys)) : Tabs T G := fun z hz => by
  obtain ⟨ps, y1, y2, y3⟩ := h z hz
  refine ⟨ps, ?_, y2, fun pos cv hc => ?_⟩
  · exact B _ _ (fun e => by rw [e, hp] at y1; cases y1) (fun e => by rw [e, hq] at y1; cases y1) y1
  · obtain ⟨c, c1, c2⟩ := y3 pos cv hc
    exact ⟨c, c1, B _ _ (fun e => by rw [e, hp] at c2; exact absurd (Option.some.inj c2).symm cod_lst) (fun e => by rw [e, hq] at c2; exact absurd (Option.some.inj c2).symm cod_lst) c2⟩
theorem gr_but {M : List Addr} {H G : Hp} {p q : Addr} {xs ys : List V} (B : But p q H G) (hp : H p = some (.lst xs)) (hq : H q = some (.lst ys)) (mp : p ∈ M) (mq : q ∈ M) : GrM M H G := fun b o e _ l =>
  B b o (fun z => (l (by rw [z, hp] at e; exact ⟨xs, (Option.some.inj e).symm⟩)) (by rw [z]; exact mp)) (fun z => (l (by rw [z, hq] at e; exact ⟨ys, (Option.some.inj e).symm⟩)) (by rw [z]; exact mq)) e
abbrev tXYZ (i j k : Nat) : TA := tCons (tVar i) (tCons (tVar j) (tCons (tVar k) tNil))
/-- what _law_made_a to _c find, one list -/
def tMade (P : Program) (w : World) (K : PySem.W.Frag) (mg : Str → Option Value) (base : Heap) (i j k : Nat) : TE :=
  tOp rCat (tOp rCat (tCall (spMade P w K mg base (tabT K) segA) [] E0 (tXYZ i j k)) (tCall (spMade P w K mg base (tabT K) segB) [] E0 (tXYZ i j k))) (tCall (spMade P w K mg base (tabT K) segC) [] E0 (tXYZ i j k))
def tMadeD (P : Program) (w : World) (K : PySem.W.Frag) (mg : Str → Option Value) (base : Heap) (i j k : Nat) : TS := tDrop (tBM K "list" rExtend (tVar 7) (tCons (tCall (spMade P w K mg base (tabT K) segD) [] E0 (tXYZ i j k)) tNil))
theorem made_all {D : Ends} {u : TS} {σ : L2.St} {H : Hp} {x y z : V} {i j k : Nat} {M : List Addr} (si : σ[i]? = some (some x)) (sj : σ[j]? = some (some y)) (sk : σ[k]? = some (some z)) (i7 : i ≠ 7) (j7 : j ≠ 7) (k7 : k ≠ 7) (hl : 7 < σ.length) (hT : Tabs (tabT K) H) (hL : Liv M H)
    (kont : ∀ (p : Addr) (G : Hp) (L : List V), ExtN H G → Tabs (tabT K) G → G p = some (.lst L) → L.length = 61 → Ents P w K mg base (p :: M) G [x, y, z] L cnms → u D (σ.set 7 (some (.ref p))) G) :
    tSeq (tAsg (tMade P w K mg base i j k) (gName 7)) (tSeq (tMadeD P w K mg base i j k) u) D σ H := by
  refine ⟨_, si, _, sj, _, sk, x, y, z, M, rfl, hT, hL, fun pa Ga La na xa Ta ga la Ea => ?_⟩
  have Ea := Ea.less (N := M) fun b h => List.mem_cons_of_mem _ h
  refine ⟨_, si, _, sj, _, sk, x, y, z, M, rfl, Ta, hL.ext xa, fun pb Gb Lb nb xb Tb gb lb Eb => ?_⟩
  have Eb := Eb.less (N := M) fun b h => List.mem_cons_of_mem _ h
  have Eab := Ents.app (Ea.gr (GrM.of xb)) Eb
  have za := Ea.len
  have zb := Eb.len
  have ga2 : Gb pa = some (.lst La) := xb _ _ ga fun ps e => nomatch e
  refine ⟨pa, pb, La, Lb, rfl, rfl, ga2, gb, by rw [sizeLine_eq]; omega, fun p1 n1 => ?_⟩
  have x1 := Ext.new (o := .lst (La ++ Lb)) n1
  have hxb := (xa.trans xb).trans (ExtN.of x1)
  refine ⟨_, si, _, sj, _, sk, x, y, z, M, rfl, Tb.ext x1, hL.ext hxb, fun pc Gc Lc nc xc Tc gc lc Ec => ?_⟩
  have Ec := Ec.less (N := M) fun b h => List.mem_cons_of_mem _ h
  have Eabc := Ents.app ((Eab.gr (GrM.of (ExtN.of x1))).gr (GrM.of xc)) Ec
  have gp1 : Gc p1 = some (.lst (La ++ Lb)) := xc _ _ upd_same fun ps e => nomatch e
  refine ⟨p1, pc, La ++ Lb, Lc, rfl, rfl, gp1, gc, by rw [List.length_append, sizeLine_eq]; omega, fun p2 n2 => ?_⟩
  have x2 := Ext.new (o := .lst (La ++ Lb ++ Lc)) n2
  have x02 := (hxb.trans xc).trans (ExtN.of x2)
  have n2x : ∀ b o, H b = some o → (∀ ps, o ≠ .tbl ps) → b ≠ p2 := fun b o e n q => by
    rw [q] at e
    rw [(hxb.trans xc) _ _ e n] at n2
    cases n2
  have lv2 : Liv (p2 :: M) (upd Gc p2 (.lst (La ++ Lb ++ Lc))) := fun m hm => by
    rcases List.mem_cons.mp hm with z | z
    · exact ⟨.lst (La ++ Lb ++ Lc), by rw [z, upd_same], fun ps e => nomatch e⟩
    · exact (hL.ext x02) m z
  have g7 : ∀ (a : Nat) (v : V), a ≠ 7 → σ[a]? = some (some v) → (σ.set 7 (some (.ref p2)))[a]? = some (some v) := fun a v n e => by rw [List.getElem?_set_ne n.symm]; exact e
  have s7 : (σ.set 7 (some (.ref p2)))[7]? = some (some (.ref p2)) := List.getElem?_set_self hl
  refine ⟨_, s7, .inl ⟨rfl, _, SqL.of upd_same⟩, _, g7 _ _ i7 si, _, g7 _ _ j7 sj, _, g7 _ _ k7 sk, x, y, z, p2 :: M, rfl, Tc.ext x2, lv2, fun pd Gd Ld nd xd Td gd ld Ed => ?_⟩
  have Ed := Ed.less (N := p2 :: M) fun b h => List.mem_cons_of_mem _ h
  have gp2 : Gd p2 = some (.lst (La ++ Lb ++ Lc)) := xd _ _ upd_same fun ps z => nomatch z
  have E3 := ((Ents.more n2 Eabc).gr (GrM.of (ExtN.of x2))).gr (GrM.of xd)
  have z3 := E3.len
  refine ⟨p2, pd, La ++ Lb ++ Lc, Ld, rfl, rfl, gp2, gd, by rw [List.length_append, List.length_append, sizeLine_eq]; omega, ?_⟩
  have gg : GrM (p2 :: M) Gd (upd Gd p2 (.lst (La ++ Lb ++ Lc ++ Ld))) := GrM.put gp2 (List.mem_cons_self ..)
  have E4 := Ents.app (E3.gr gg) (Ed.gr gg)
  have z4 := E4.len
  refine kont p2 _ _ (fun b o e n => ?_) (tabs_put Td gp2) upd_same z4 E4
  rw [upd_ne (n2x b o e n)]
  exact xd _ _ (x02 _ _ e n) n
end
end K00

set_option Elab.async false
set_option linter.all false
set_option maxRecDepth 100000
set_option maxHeartbeats 4000000
/-! The law's loops over all entries. -/
namespace K00
open PySem PySem.Spec PyProof.Rows
open L2 LamX
structure ClsF (K : PySem.W.Frag) : Prop where
  clf : ∀ p ∈ cnms, ClF K (bmS (He.ga K "ShowError")) (He.ga K p.1) p.2
  ve : PySem.HandSPX.refsVE (bmS (He.ga K "ShowError")) = true
  own : ∀ (i : Nat) (p : Str × List Str), cnms[i]? = some p → Own K (He.ga K p.1) i
theorem fld3 : ∀ p ∈ cnms, p.2.Nodup ∧ p.2.length ≤ 3 := by decide +kernel
theorem SMA.take {M : List Addr} {H : Hp} : ∀ {k : Nat} {vs : List V} {ds : List PyData}, SMA M H vs ds → SMA M H (vs.take k) (ds.take k)
  | 0, _, _, _ => .nil
  | _ + 1, _, _, .nil => .nil
  | _ + 1, _, _, .cons h t => .cons h (SMA.take t)
theorem set_get {σ : L2.St} {i j : Nat} {v : Option V} (n : i ≠ j) : (σ.set i v)[j]? = σ[j]? := List.getElem?_set_ne n
section
variable {P : Program} {w : World} {K : PySem.W.Frag} {mg : Str → Option Value} {base : Heap}
def gEnt (K : PySem.W.Frag) : TG := gTup K 4 (gCons (gName 9) (gCons (gName 10) (gCons (gName 11) (gCons (gName 12) gNil))))
/-- the slots of an entry -/
def stE (σ : L2.St) (e1 e2 l d : Addr) : L2.St := (((σ.set 9 (some (.ref e1))).set 10 (some (.ref e2))).set 11 (some (.ref l))).set 12 (some (.ref d))
section
variable {σ : L2.St} {e1 e2 l d : Addr}
theorem stE_len : (stE σ e1 e2 l d).length = σ.length := by simp [stE]
theorem stE_lo {j : Nat} (h : j < 9) : (stE σ e1 e2 l d)[j]? = σ[j]? := by
  unfold stE
  rw [set_get (by omega), set_get (by omega), set_get (by omega), set_get (by omega)]
variable (hl : 12 < σ.length)
include hl
theorem stE_9 : (stE σ e1 e2 l d)[9]? = some (some (.ref e1)) := by
  unfold stE
  rw [set_get (by omega), set_get (by omega), set_get (by omega)]
  exact List.getElem?_set_self (by omega)
theorem stE_10 : (stE σ e1 e2 l d)[10]? = some (some (.ref e2)) := by
  unfold stE
  rw [set_get (by omega), set_get (by omega)]
  exact List.getElem?_set_self (by simp; omega)
theorem stE_11 : (stE σ e1 e2 l d)[11]? = some (some (.ref l)) := by
  unfold stE
  rw [set_get (by omega)]
  exact List.getElem?_set_self (by simp; omega)
theorem stE_12 : (stE σ e1 e2 l d)[12]? = some (some (.ref d)) := List.getElem?_set_self (by simp; omega)
end
/-- whether both errors keep what was passed -/
def tKept (P : Program) (w : World) (K : PySem.W.Frag) (mg : Str → Option Value) (base : Heap) : TS := tIfS (tOr (tNot (tB (tThese P w K mg base 9))) (tNot (tB (tThese P w K mg base 10)))) tNever tNext
def tOwn (K : PySem.W.Frag) (i : Nat) : TE := tCall (spOwn K) [] E0 (tCons (tVar i) (tCons (tVar 8) tNil))
def tOwns (K : PySem.W.Frag) : TS := tIfS (tOr (tNot (tB (tOwn K 9))) (tNot (tB (tOwn K 10)))) tNever tNext
theorem kept_ok {D : Ends} {σ : L2.St} {H : Hp} {M : List Addr} {p : Str × List Str} {vs : List V} {ds : List PyData} {e1 e2 l d c : Addr} {F : Lam} (hl : 12 < σ.length) (CF : ClsF K) (hp : p ∈ cnms) (le : vs.length = p.2.length)
    (h2 : ErrAt H e1 (He.ga K p.1) (p.2.zip vs).reverse) (h3 : ErrAt H e2 (He.ga K p.1) (p.2.zip vs).reverse) (h4 : H l = some (LamO l F c)) (h5 : H c = some (CodeO c F.q)) (h6 : LamDoes P w K mg base F "_law_e" (lamTB K p.2)) (h7 : H d = some (.lst vs))
    (sm : SMA M H vs ds) (so : ShowOk ds) (kont : ∀ G, Ext H G → D.nx (stE σ e1 e2 l d) G) : tKept P w K mg base D (stE σ e1 e2 l d) H := by
  have T := CF.clf p hp
  obtain ⟨nd, l3⟩ := fld3 p hp
  refine these_ok (stE_9 hl) (stE_11 hl) (stE_12 hl) h2 h4 h5 h6 h7 sm so (T.xf CF.ve) T.no nd le l3 fun G x => ⟨_, rfl, ?_⟩
  refine iteF (these_ok (stE_10 hl) (stE_11 hl) (stE_12 hl) (h3.ext x) (x _ _ h4) (x _ _ h5) h6 (x _ _ h7) (sm.gr (GrM.of (ExtN.of x))) so (T.xf CF.ve) T.no nd le l3 fun G' x' => ⟨_, rfl, ?_⟩)
  exact iteF (kont G' (x.trans x'))
/-- the first loop over all entries -/
def tLoop1 (P : Program) (w : World) (K : PySem.W.Frag) (mg : Str → Option Value) (base : Heap) : TS :=
  tFor (iEnum K (tCons (tVar 7) tNil)) (gTup K 2 (gCons (gName 8) (gCons (gEnt K) gNil))) (tSeq (tOwns K) (tKept P w K mg base))
theorem loop1_ok {D : Ends} {σ : L2.St} {H : Hp} {p : Addr} {L : List V} {M N : List Addr} {xyz : List V} {ds : List PyData} (hl : 12 < σ.length) (CF : ClsF K) (s7 : σ[7]? = some (some (.ref p))) (hp : H p = some (.lst L)) (lL : L.length = 61) (E : Ents P w K mg base N H xyz L cnms)
    (sm : SMA M H xyz ds) (l3 : xyz.length = 3) (so : ∀ k, k ≤ 3 → ShowOk (ds.take k)) (kont : ∀ (σ' : L2.St) (G : Hp), Ext H G → σ'.length = σ.length → (∀ j, j < 8 → σ'[j]? = σ[j]?) → D.nx σ' G) : tLoop1 P w K mg base D σ H := by
  refine ⟨_, s7, p, L, rfl, SqL.of hp, ?_⟩
  refine for_it (walk_enum (K := K) (a := p) (xs := L)) (fun _ σ' G => Ext H G ∧ σ'.length = σ.length ∧ ∀ j, j < 8 → σ'[j]? = σ[j]?) ⟨Ext.refl H, rfl, fun _ _ => rfl⟩ (fun i σ' G _ h => SqL.of (h.1 _ _ hp)) ?_ (fun σ' G h => kont σ' G h.1 h.2.1 h.2.2)
  rintro i x σ' G G' hi ⟨xG, lσ, kσ⟩ ⟨T, x1, y, rfl, nT, rfl, e1, e2⟩
  obtain rfl : V.int (i : Nat) = x1 := Option.some.inj e1
  obtain ⟨s, hs, t, rfl, en⟩ := E.get e2
  have xT := Ext.new (o := .tup [.int (i : Nat), .ref t]) nT
  have xH := xG.trans xT
  obtain ⟨a1, a2, l, d, c, F, h1, h2, h3, h4, h5, h6, h7, h8⟩ := en.gr (GrM.of (ExtN.of xH))
  have hm : s ∈ cnms := List.mem_of_getElem? hs
  obtain ⟨nd, f3⟩ := fld3 s hm
  have O := CF.own i s hs
  have hl8 : 12 < (σ'.set 8 (some (V.int (i : Nat)))).length := by rw [List.length_set, lσ]; exact hl
  refine ⟨T, _, rfl, .inl (.inl upd_same), rfl, _, _, rfl, _, _, rfl, ⟨t, _, rfl, .inl (.inl h1), rfl, _, _, rfl, _, _, rfl, _, _, rfl, _, _, rfl, rfl, rfl, ?_⟩⟩
  have s8 : (stE (σ'.set 8 (some (V.int (i : Nat)))) a1 a2 l d)[8]? = some (some (.int (i : Nat))) := by
    rw [stE_lo (by omega)]
    exact List.getElem?_set_self (by omega)
  refine ⟨_, stE_9 hl8, _, s8, a1, _, _, i, rfl, h2, O, fun G1 y1 => ⟨_, rfl, iteF ?_⟩⟩
  refine ⟨_, stE_10 hl8, _, s8, a2, _, _, i, rfl, h3.ext y1, O, fun G2 y2 => ⟨_, rfl, iteF ?_⟩⟩
  have y12 := y1.trans y2
  have xx := xH.trans y12
  refine kept_ok (M := M) (vs := xyz.take s.2.length) (ds := ds.take s.2.length) hl8 CF hm (by rw [List.length_take]; omega) (h2.ext y12) (h3.ext y12) (y12 _ _ h4) (y12 _ _ h5) h6 (y12 _ _ h7) ?_ (so _ f3) fun G3 y3 => ?_
  · exact (sm.gr (GrM.of (ExtN.of xx))).take
  · exact ⟨xx.trans y3, by rw [stE_len, List.length_set, lσ], fun j hj => by rw [stE_lo (by omega), set_get (by omega)]; exact kσ j hj⟩
/-- the second loop -/
def tLoop2 (P : Program) (w : World) (K : PySem.W.Frag) (mg : Str → Option Value) (base : Heap) : TS := tFor (iList K (tVar 7)) (gEnt K) (tKept P w K mg base)
theorem loop2_ok {D : Ends} {σ : L2.St} {H : Hp} {p : Addr} {L : List V} {M N : List Addr} {xyz : List V} {ds : List PyData} (hl : 12 < σ.length) (CF : ClsF K) (s7 : σ[7]? = some (some (.ref p))) (hp : H p = some (.lst L)) (lL : L.length = 61) (E : Ents P w K mg base N H xyz L cnms)
    (sm : SMA M H xyz ds) (l3 : xyz.length = 3) (so : ∀ k, k ≤ 3 → ShowOk (ds.take k)) (kont : ∀ (σ' : L2.St) (G : Hp), Ext H G → σ'.length = σ.length → (∀ j, j < 8 → σ'[j]? = σ[j]?) → D.nx σ' G) : tLoop2 P w K mg base D σ H := by
  refine ⟨_, s7, p, rfl, ⟨L, SqL.of hp⟩, ?_⟩
  refine for_it (walk_list (K := K) (a := p) (xs := L)) (fun _ σ' G => Ext H G ∧ σ'.length = σ.length ∧ ∀ j, j < 8 → σ'[j]? = σ[j]?) ⟨Ext.refl H, rfl, fun _ _ => rfl⟩ (fun i σ' G _ h => SqL.of (h.1 _ _ hp)) ?_ (fun σ' G h => kont σ' G h.1 h.2.1 h.2.2)
  rintro i x σ' G G' hi ⟨xG, lσ, kσ⟩ ⟨rfl, e2⟩
  obtain ⟨s, hs, t, rfl, en⟩ := E.get e2
  obtain ⟨a1, a2, l, d, c, F, h1, h2, h3, h4, h5, h6, h7, h8⟩ := en.gr (GrM.of (ExtN.of xG))
  have hm : s ∈ cnms := List.mem_of_getElem? hs
  obtain ⟨nd, f3⟩ := fld3 s hm
  refine ⟨t, _, rfl, .inl (.inl h1), rfl, _, _, rfl, _, _, rfl, _, _, rfl, _, _, rfl, rfl, ?_⟩
  refine kept_ok (M := M) (vs := xyz.take s.2.length) (ds := ds.take s.2.length) (by rw [lσ]; exact hl) CF hm (by rw [List.length_take]; omega) h2 h3 h4 h5 h6 h7 ?_ (so _ f3) fun G3 y3 => ?_
  · exact (sm.gr (GrM.of (ExtN.of xG))).take
  · exact ⟨xG.trans y3, by rw [stE_len, lσ], fun j hj => by rw [stE_lo (by omega)]; exact kσ j hj⟩
end
end K00

set_option Elab.async false
set_option linter.all false
set_option maxRecDepth 100000
set_option maxHeartbeats 4000000
/-! The classes' facts from what the head tells. -/
namespace K00
open PySem PySem.Spec PyProof.Rows
open L2 LamX
theorem ltAll_ok {a : Nat} : ∀ {l : List Nat}, ltAll a l = true → a ∉ l
  | [], _ => by simp
  | b :: r, h => by
    have h' : (!(a == b) && ltAll a r) = true := h
    simp only [Bool.and_eq_true, Bool.not_eq_true', beq_eq_false_iff_ne] at h'
    intro z
    rcases List.mem_cons.mp z with z | z
    · exact h'.1 z
    · exact ltAll_ok h'.2 z
theorem nodupB_ok : ∀ {l : List Nat}, nodupB l = true → l.Nodup
  | [], _ => List.nodup_nil
  | a :: r, h => by
    have h' : (ltAll a r && nodupB r) = true := h
    rw [Bool.and_eq_true] at h'
    exact List.nodup_cons.mpr ⟨ltAll_ok h'.1, nodupB_ok h'.2⟩
theorem kn_eq : knAll = cnms.map (·.1) := by decide +kernel
theorem cnms_len : cnms.length = 61 := by decide +kernel
theorem ve_tail : PySem.HandSPX.refsVE PySem.HandSPX.veTail = true := by decide +kernel
theorem ve_bm (S : Addr) : PySem.HandSPX.refsVE (bmS S) = true := by
  have h := ve_tail
  unfold bmS
  first
    | exact h
    | simpa [PySem.HandSPX.refsVE] using h
theorem tail_ref (D : Addr) : PySem.HandSPX.veTail.contains (.ref D) = false := by
  rfl
section
variable {K : PySem.W.Frag}
theorem cont_bm {C S D : Addr} (n : S ≠ D) : (Value.ref C :: bmS S).contains (.ref D) = decide (C = D) := by
  unfold bmS
  rw [List.contains_cons, List.contains_cons, tail_ref, Bool.or_false]
  have e : (Value.ref D == Value.ref S) = false := by
    cases q : Value.ref D == Value.ref S with
    | false => rfl
    | true => exact absurd (Value.ref.inj (beq_iff_eq.mp q)).symm n
  rw [e, Bool.or_false]
  by_cases q : C = D
  · rw [decide_eq_true q, q, beq_self_eq_true]
  · rw [decide_eq_false q]
    cases z : Value.ref D == Value.ref C with
    | false => rfl
    | true => exact absurd (Value.ref.inj (beq_iff_eq.mp z)).symm q
theorem cont_tail {S D : Addr} : (Value.ref S :: PySem.HandSPX.veTail).contains (.ref D) = decide (S = D) := by
  rw [List.contains_cons, tail_ref, Bool.or_false]
  by_cases q : S = D
  · rw [decide_eq_true q, q, beq_self_eq_true]
  · rw [decide_eq_false q]
    cases z : Value.ref D == Value.ref S with
    | false => rfl
    | true => exact absurd (Value.ref.inj (beq_iff_eq.mp z)).symm q
/-- what exS, exN, exC say -/
structure ExF (K : PySem.W.Frag) : Prop where
  s : ClF K PySem.HandSPX.veTail (He.ga K "ShowError") []
  sx : PySem.W.excIn K (He.ga K "ShowError") He.veBase "ValueError.__new__" = true
  nd : (He.ga K "ShowError" :: cnms.map fun p => He.ga K p.1).Nodup
  c : ∀ p ∈ cnms, ClF K (bmS (He.ga K "ShowError")) (He.ga K p.1) p.2
  c0 : ∀ p ∈ cnms, p.2 = [] → PySem.W.excIn K (He.ga K p.1) He.veBase "ValueError.__new__" = true
  ci : ∀ p ∈ cnms, p.2 ≠ [] → PySem.W.findIn K (.ref (He.ga K p.1)) "__init__" = some (some (.ref (He.ma K (He.ga K p.1) "__init__"))) ∧ PySem.W.typeIn K (.ref (He.ma K (He.ga K p.1) "__init__")) = some (.type "function")
theorem exC_ok {p : Str × List Str} (h : exC K p = true) : ClF K (bmS (He.ga K "ShowError")) (He.ga K p.1) p.2 ∧ (p.2 = [] → PySem.W.excIn K (He.ga K p.1) He.veBase "ValueError.__new__" = true) ∧
    (p.2 ≠ [] → PySem.W.findIn K (.ref (He.ga K p.1)) "__init__" = some (some (.ref (He.ma K (He.ga K p.1) "__init__"))) ∧ PySem.W.typeIn K (.ref (He.ma K (He.ga K p.1) "__init__")) = some (.type "function")) := by
  unfold exC at h
  obtain ⟨h1, h2⟩ := Bool.and_eq_true_iff.mp h
  obtain ⟨x, fs⟩ := p
  refine ⟨cl_ok h1, fun e => ?_, fun ne => ?_⟩
  · cases fs with
    | nil => exact h2
    | cons a r => cases e
  · cases fs with
    | nil => exact absurd rfl ne
    | cons a r =>
      obtain ⟨h3, h4⟩ := Bool.and_eq_true_iff.mp h2
      exact ⟨He.eqO_ok h3, of_decide_eq_true h4⟩
theorem exF_of (hS : (exS K && exN K) = true) (h0 : cnms0.all (exC K) = true) (h1 : cnms1.all (exC K) = true) : ExF K := by
  obtain ⟨a, b⟩ := Bool.and_eq_true_iff.mp hS
  unfold exS at a
  obtain ⟨a1, a2⟩ := Bool.and_eq_true_iff.mp a
  have all : ∀ p ∈ cnms, exC K p = true := fun p hp => (List.mem_append.mp hp).elim (fun z => List.all_eq_true.mp h0 p z) fun z => List.all_eq_true.mp h1 p z
  exact ⟨cl_ok a1, a2, nodupB_ok b, fun p hp => (exC_ok (all p hp)).1, fun p hp => (exC_ok (all p hp)).2.1, fun p hp => (exC_ok (all p hp)).2.2⟩
variable (E : ExF K)
include E
theorem ExF.ne {p : Str × List Str} (hp : p ∈ cnms) : He.ga K "ShowError" ≠ He.ga K p.1 := fun z => (List.nodup_cons.mp E.nd).1 (List.mem_map.mpr ⟨p, hp, z.symm⟩)
theorem ExF.kinC {p : Str × List Str} (hp : p ∈ cnms) : Kin K (He.ga K p.1) := fun q hq => by
  rw [(E.c p hp).kitC (E.c q hq), cont_bm (E.ne hq)]
theorem ExF.kinS : Kin K (He.ga K "ShowError") := fun q hq => by
  rw [E.s.kitC (E.c q hq), cont_tail]
theorem ExF.row {i : Nat} {p : Str × List Str} (hi : cnms[i]? = some p) : ansK K (He.ga K p.1) knAll = (rowB i).map V.bl := by
  have nd := (List.nodup_cons.mp E.nd).2
  rw [kn_eq, ansK, rowB, List.map_map, List.map_map]
  refine List.ext_getElem (by simp [cnms_len]) fun k h1 h2 => ?_
  simp only [List.getElem_map, Function.comp, List.getElem_range]
  congr 2
  have hk : k < cnms.length := by simpa using h1
  have hil : i < cnms.length := (List.getElem?_eq_some_iff.mp hi).1
  have ep : cnms[i] = p := (List.getElem?_eq_some_iff.mp hi).2
  have hA : ∀ (j : Nat) (hj : j < cnms.length), (cnms.map fun p => He.ga K p.1)[j]'(by rw [List.length_map]; exact hj) = He.ga K cnms[j].1 := fun j hj => by rw [List.getElem_map]
  rw [← ep, ← hA i hil, ← hA k hk, eq_iff_iff, List.getElem_inj nd]
  exact ⟨Eq.symm, Eq.symm⟩
theorem ExF.rowS : ansK K (He.ga K "ShowError") knAll = (List.replicate 61 false).map V.bl := by
  rw [kn_eq, ansK, List.map_map]
  refine List.ext_getElem (by simp [cnms_len]) fun k h1 h2 => ?_
  simp only [List.getElem_map, Function.comp, List.getElem_replicate]
  congr 1
  exact decide_eq_false (E.ne (List.getElem_mem _))
theorem ExF.cf : ClsF K := by
  refine ⟨E.c, ve_bm _, fun i p hi => ?_⟩
  have hp := List.mem_of_getElem? hi
  have T := E.c p hp
  refine ⟨T.exc (ve_bm _), E.kinC hp, ?_, ?_, ?_, ?_, E.row hi⟩
  · rw [T.kitC E.s]
    unfold bmS
    simp
  · rw [T.kitT (by decide +kernel)]
    rfl
  · rw [T.kitT (by decide +kernel)]
    rfl
  · have := (List.getElem?_eq_some_iff.mp hi).1
    rw [cnms_len] at this
    exact this
theorem ExF.base0 : CK0 K PySem.HandSPX.veTail (He.ga K "ShowError") := ⟨E.s, ve_tail, E.sx⟩
theorem ExF.bve : PySem.W.kitOne K (.ref (He.ga K "ShowError")) (.type "ValueError") = some true := by
  rw [E.s.kitT (by decide +kernel)]
  rfl
end
end K00

set_option Elab.async false
set_option linter.all false
set_option maxRecDepth 100000
set_option maxHeartbeats 8000000
/-! Each class with its __init__. -/
namespace K00
open PySem PySem.Spec PyProof.Rows
open L2 LamX
section
variable {P : Program} {w : World} {K : PySem.W.Frag} {mg : Str → Option Value} {base : Heap}
theorem ck_of {C : Addr} {bm : List Value} {fs : List Str} {qual : Str} {params : Arguments} {body : List Stmt} {scope : Scope} {fI : Addr} {fd : FuncData} (cl : ClF K bm C fs) (ve : PySem.HandSPX.refsVE bm = true)
    (hi : PySem.W.findIn K (.ref C) "__init__" = some (some (.ref fI)) ∧ PySem.W.typeIn K (.ref fI) = some (.type "function")) (F : FunD K "__init__" qual params body scope [] [] fI fd) (ok : FnOk P w K mg base CX0 1 fI fd (("self" : Str) :: fs) (spI K fs))
    (hb : ∀ (kV doc pm : Value) (an : Option Addr) (cdv ct : Value) (us : List Value), us.length = (("self" : Str) :: fs).length → bindArgs (PySem.W.fnOf "__init__" qual params body scope .none kV doc pm an cdv ct) ⟨us, []⟩ = pure ((("self" : Str) :: fs).zip us))
    (hk : ∀ (kV doc pm : Value) (an : Option Addr) (cdv ct u : Value) (ws : List Value), ws.length = fs.length → bindArgs (PySem.W.fnOf "__init__" qual params body scope .none kV doc pm an cdv ct) ⟨[u], fs.reverse.zip ws⟩ = pure ((("self" : Str) :: fs).zip (u :: ws.reverse))) :
    CK P w K mg base bm C fs := by
  refine ⟨cl, ve, fI, fd, hi.1, hi.2, ok, F.bindsN hb, fun s u ws hl => ?_⟩
  obtain ⟨oc, od, dV, kV, doc, pm, an, cdv, ct, osl, rfl, lk, hcd, hD, hK⟩ := F.ex
  rcases hD with ⟨_, rfl⟩ | ⟨e, _⟩
  · exact .of_eq (hk kV doc pm an cdv ct u ws hl)
  · exact absurd rfl e
/-- the inits as the head tells them -/
def InitD (K : PySem.W.Frag) : Prop := ∀ d ∈ fnI, ∃ fd, FunD K d.name d.qual d.params d.body d.scope (d.dvs K) (d.kws K) (He.fAd K d.at_) fd
theorem ck_BadArities (E : ExF K) (hI : InitD K) : CK P w K mg base (bmS (He.ga K "ShowError")) (He.ga K "BadArities") ["index"] := by
  obtain ⟨fd, F⟩ := hI (dI "BadArities" 2) (List.mem_of_getElem? (i := 0) rfl)
  exact ck_of (E.c _ (List.mem_of_getElem? (i := 0) rfl)) (ve_bm _) (E.ci _ (List.mem_of_getElem? (i := 0) rfl) (by decide)) F (ok_i1 F ⟨rfl, rfl, rfl, by decide +kernel, rfl, by decide +kernel, by decide +kernel⟩ ⟨by decide, by decide⟩) (fun _ _ _ _ _ _ us hl => match us, hl with | [_, _], _ => rfl) (fun _ _ _ _ _ _ u ws hl => match ws, hl with | [_], _ => rfl)
theorem ck_BadArity (E : ExF K) (hI : InitD K) : CK P w K mg base (bmS (He.ga K "ShowError")) (He.ga K "BadArity") ["thing"] := by
  obtain ⟨fd, F⟩ := hI (dI "BadArity" 3) (List.mem_of_getElem? (i := 1) rfl)
  exact ck_of (E.c _ (List.mem_of_getElem? (i := 1) rfl)) (ve_bm _) (E.ci _ (List.mem_of_getElem? (i := 1) rfl) (by decide)) F (ok_i1 F ⟨rfl, rfl, rfl, by decide +kernel, rfl, by decide +kernel, by decide +kernel⟩ ⟨by decide, by decide⟩) (fun _ _ _ _ _ _ us hl => match us, hl with | [_, _], _ => rfl) (fun _ _ _ _ _ _ u ws hl => match ws, hl with | [_], _ => rfl)
theorem ck_BadAtom (E : ExF K) (hI : InitD K) : CK P w K mg base (bmS (He.ga K "ShowError")) (He.ga K "BadAtom") ["thing"] := by
  obtain ⟨fd, F⟩ := hI (dI "BadAtom" 4) (List.mem_of_getElem? (i := 2) rfl)
  exact ck_of (E.c _ (List.mem_of_getElem? (i := 2) rfl)) (ve_bm _) (E.ci _ (List.mem_of_getElem? (i := 2) rfl) (by decide)) F (ok_i1 F ⟨rfl, rfl, rfl, by decide +kernel, rfl, by decide +kernel, by decide +kernel⟩ ⟨by decide, by decide⟩) (fun _ _ _ _ _ _ us hl => match us, hl with | [_, _], _ => rfl) (fun _ _ _ _ _ _ u ws hl => match ws, hl with | [_], _ => rfl)
theorem ck_BadAtoms (E : ExF K) (hI : InitD K) : CK P w K mg base (bmS (He.ga K "ShowError")) (He.ga K "BadAtoms") ["index"] := by
  obtain ⟨fd, F⟩ := hI (dI "BadAtoms" 5) (List.mem_of_getElem? (i := 3) rfl)
  exact ck_of (E.c _ (List.mem_of_getElem? (i := 3) rfl)) (ve_bm _) (E.ci _ (List.mem_of_getElem? (i := 3) rfl) (by decide)) F (ok_i1 F ⟨rfl, rfl, rfl, by decide +kernel, rfl, by decide +kernel, by decide +kernel⟩ ⟨by decide, by decide⟩) (fun _ _ _ _ _ _ us hl => match us, hl with | [_, _], _ => rfl) (fun _ _ _ _ _ _ u ws hl => match ws, hl with | [_], _ => rfl)
theorem ck_BadAxioms (E : ExF K) (hI : InitD K) : CK P w K mg base (bmS (He.ga K "ShowError")) (He.ga K "BadAxioms") ["index"] := by
  obtain ⟨fd, F⟩ := hI (dI "BadAxioms" 6) (List.mem_of_getElem? (i := 4) rfl)
  exact ck_of (E.c _ (List.mem_of_getElem? (i := 4) rfl)) (ve_bm _) (E.ci _ (List.mem_of_getElem? (i := 4) rfl) (by decide)) F (ok_i1 F ⟨rfl, rfl, rfl, by decide +kernel, rfl, by decide +kernel, by decide +kernel⟩ ⟨by decide, by decide⟩) (fun _ _ _ _ _ _ us hl => match us, hl with | [_, _], _ => rfl) (fun _ _ _ _ _ _ u ws hl => match ws, hl with | [_], _ => rfl)
theorem ck_BadBound (E : ExF K) (hI : InitD K) : CK P w K mg base (bmS (He.ga K "ShowError")) (He.ga K "BadBound") ["thing"] := by
  obtain ⟨fd, F⟩ := hI (dI "BadBound" 7) (List.mem_of_getElem? (i := 5) rfl)
  exact ck_of (E.c _ (List.mem_of_getElem? (i := 5) rfl)) (ve_bm _) (E.ci _ (List.mem_of_getElem? (i := 5) rfl) (by decide)) F (ok_i1 F ⟨rfl, rfl, rfl, by decide +kernel, rfl, by decide +kernel, by decide +kernel⟩ ⟨by decide, by decide⟩) (fun _ _ _ _ _ _ us hl => match us, hl with | [_, _], _ => rfl) (fun _ _ _ _ _ _ u ws hl => match ws, hl with | [_], _ => rfl)
theorem ck_BadClause (E : ExF K) (hI : InitD K) : CK P w K mg base (bmS (He.ga K "ShowError")) (He.ga K "BadClause") ["thing"] := by
  obtain ⟨fd, F⟩ := hI (dI "BadClause" 8) (List.mem_of_getElem? (i := 6) rfl)
  exact ck_of (E.c _ (List.mem_of_getElem? (i := 6) rfl)) (ve_bm _) (E.ci _ (List.mem_of_getElem? (i := 6) rfl) (by decide)) F (ok_i1 F ⟨rfl, rfl, rfl, by decide +kernel, rfl, by decide +kernel, by decide +kernel⟩ ⟨by decide, by decide⟩) (fun _ _ _ _ _ _ us hl => match us, hl with | [_, _], _ => rfl) (fun _ _ _ _ _ _ u ws hl => match ws, hl with | [_], _ => rfl)
theorem ck_BadClauses (E : ExF K) (hI : InitD K) : CK P w K mg base (bmS (He.ga K "ShowError")) (He.ga K "BadClauses") ["index"] := by
  obtain ⟨fd, F⟩ := hI (dI "BadClauses" 9) (List.mem_of_getElem? (i := 7) rfl)
  exact ck_of (E.c _ (List.mem_of_getElem? (i := 7) rfl)) (ve_bm _) (E.ci _ (List.mem_of_getElem? (i := 7) rfl) (by decide)) F (ok_i1 F ⟨rfl, rfl, rfl, by decide +kernel, rfl, by decide +kernel, by decide +kernel⟩ ⟨by decide, by decide⟩) (fun _ _ _ _ _ _ us hl => match us, hl with | [_, _], _ => rfl) (fun _ _ _ _ _ _ u ws hl => match ws, hl with | [_], _ => rfl)
theorem ck_BadDeed (E : ExF K) (hI : InitD K) : CK P w K mg base (bmS (He.ga K "ShowError")) (He.ga K "BadDeed") ["thing"] := by
  obtain ⟨fd, F⟩ := hI (dI "BadDeed" 10) (List.mem_of_getElem? (i := 8) rfl)
  exact ck_of (E.c _ (List.mem_of_getElem? (i := 8) rfl)) (ve_bm _) (E.ci _ (List.mem_of_getElem? (i := 8) rfl) (by decide)) F (ok_i1 F ⟨rfl, rfl, rfl, by decide +kernel, rfl, by decide +kernel, by decide +kernel⟩ ⟨by decide, by decide⟩) (fun _ _ _ _ _ _ us hl => match us, hl with | [_, _], _ => rfl) (fun _ _ _ _ _ _ u ws hl => match ws, hl with | [_], _ => rfl)
theorem ck_BadDepth (E : ExF K) (hI : InitD K) : CK P w K mg base (bmS (He.ga K "ShowError")) (He.ga K "BadDepth") ["thing"] := by
  obtain ⟨fd, F⟩ := hI (dI "BadDepth" 11) (List.mem_of_getElem? (i := 9) rfl)
  exact ck_of (E.c _ (List.mem_of_getElem? (i := 9) rfl)) (ve_bm _) (E.ci _ (List.mem_of_getElem? (i := 9) rfl) (by decide)) F (ok_i1 F ⟨rfl, rfl, rfl, by decide +kernel, rfl, by decide +kernel, by decide +kernel⟩ ⟨by decide, by decide⟩) (fun _ _ _ _ _ _ us hl => match us, hl with | [_, _], _ => rfl) (fun _ _ _ _ _ _ u ws hl => match ws, hl with | [_], _ => rfl)
theorem ck_BadDerivation (E : ExF K) (hI : InitD K) : CK P w K mg base (bmS (He.ga K "ShowError")) (He.ga K "BadDerivation") ["thing"] := by
  obtain ⟨fd, F⟩ := hI (dI "BadDerivation" 12) (List.mem_of_getElem? (i := 10) rfl)
  exact ck_of (E.c _ (List.mem_of_getElem? (i := 10) rfl)) (ve_bm _) (E.ci _ (List.mem_of_getElem? (i := 10) rfl) (by decide)) F (ok_i1 F ⟨rfl, rfl, rfl, by decide +kernel, rfl, by decide +kernel, by decide +kernel⟩ ⟨by decide, by decide⟩) (fun _ _ _ _ _ _ us hl => match us, hl with | [_, _], _ => rfl) (fun _ _ _ _ _ _ u ws hl => match ws, hl with | [_], _ => rfl)
theorem ck_BadEquations (E : ExF K) (hI : InitD K) : CK P w K mg base (bmS (He.ga K "ShowError")) (He.ga K "BadEquations") ["index"] := by
  obtain ⟨fd, F⟩ := hI (dI "BadEquations" 13) (List.mem_of_getElem? (i := 11) rfl)
  exact ck_of (E.c _ (List.mem_of_getElem? (i := 11) rfl)) (ve_bm _) (E.ci _ (List.mem_of_getElem? (i := 11) rfl) (by decide)) F (ok_i1 F ⟨rfl, rfl, rfl, by decide +kernel, rfl, by decide +kernel, by decide +kernel⟩ ⟨by decide, by decide⟩) (fun _ _ _ _ _ _ us hl => match us, hl with | [_, _], _ => rfl) (fun _ _ _ _ _ _ u ws hl => match ws, hl with | [_], _ => rfl)
theorem ck_BadFunctions (E : ExF K) (hI : InitD K) : CK P w K mg base (bmS (He.ga K "ShowError")) (He.ga K "BadFunctions") ["index"] := by
  obtain ⟨fd, F⟩ := hI (dI "BadFunctions" 14) (List.mem_of_getElem? (i := 12) rfl)
  exact ck_of (E.c _ (List.mem_of_getElem? (i := 12) rfl)) (ve_bm _) (E.ci _ (List.mem_of_getElem? (i := 12) rfl) (by decide)) F (ok_i1 F ⟨rfl, rfl, rfl, by decide +kernel, rfl, by decide +kernel, by decide +kernel⟩ ⟨by decide, by decide⟩) (fun _ _ _ _ _ _ us hl => match us, hl with | [_, _], _ => rfl) (fun _ _ _ _ _ _ u ws hl => match ws, hl with | [_], _ => rfl)
theorem ck_BadGiving (E : ExF K) (hI : InitD K) : CK P w K mg base (bmS (He.ga K "ShowError")) (He.ga K "BadGiving") ["variable"] := by
  obtain ⟨fd, F⟩ := hI (dI "BadGiving" 15) (List.mem_of_getElem? (i := 13) rfl)
  exact ck_of (E.c _ (List.mem_of_getElem? (i := 13) rfl)) (ve_bm _) (E.ci _ (List.mem_of_getElem? (i := 13) rfl) (by decide)) F (ok_i1 F ⟨rfl, rfl, rfl, by decide +kernel, rfl, by decide +kernel, by decide +kernel⟩ ⟨by decide, by decide⟩) (fun _ _ _ _ _ _ us hl => match us, hl with | [_, _], _ => rfl) (fun _ _ _ _ _ _ u ws hl => match ws, hl with | [_], _ => rfl)
theorem ck_BadGoal (E : ExF K) (hI : InitD K) : CK P w K mg base (bmS (He.ga K "ShowError")) (He.ga K "BadGoal") ["thing"] := by
  obtain ⟨fd, F⟩ := hI (dI "BadGoal" 16) (List.mem_of_getElem? (i := 14) rfl)
  exact ck_of (E.c _ (List.mem_of_getElem? (i := 14) rfl)) (ve_bm _) (E.ci _ (List.mem_of_getElem? (i := 14) rfl) (by decide)) F (ok_i1 F ⟨rfl, rfl, rfl, by decide +kernel, rfl, by decide +kernel, by decide +kernel⟩ ⟨by decide, by decide⟩) (fun _ _ _ _ _ _ us hl => match us, hl with | [_, _], _ => rfl) (fun _ _ _ _ _ _ u ws hl => match ws, hl with | [_], _ => rfl)
theorem ck_BadLiteral (E : ExF K) (hI : InitD K) : CK P w K mg base (bmS (He.ga K "ShowError")) (He.ga K "BadLiteral") ["thing"] := by
  obtain ⟨fd, F⟩ := hI (dI "BadLiteral" 17) (List.mem_of_getElem? (i := 15) rfl)
  exact ck_of (E.c _ (List.mem_of_getElem? (i := 15) rfl)) (ve_bm _) (E.ci _ (List.mem_of_getElem? (i := 15) rfl) (by decide)) F (ok_i1 F ⟨rfl, rfl, rfl, by decide +kernel, rfl, by decide +kernel, by decide +kernel⟩ ⟨by decide, by decide⟩) (fun _ _ _ _ _ _ us hl => match us, hl with | [_, _], _ => rfl) (fun _ _ _ _ _ _ u ws hl => match ws, hl with | [_], _ => rfl)
theorem ck_BadMany (E : ExF K) (hI : InitD K) : CK P w K mg base (bmS (He.ga K "ShowError")) (He.ga K "BadMany") ["thing"] := by
  obtain ⟨fd, F⟩ := hI (dI "BadMany" 18) (List.mem_of_getElem? (i := 16) rfl)
  exact ck_of (E.c _ (List.mem_of_getElem? (i := 16) rfl)) (ve_bm _) (E.ci _ (List.mem_of_getElem? (i := 16) rfl) (by decide)) F (ok_i1 F ⟨rfl, rfl, rfl, by decide +kernel, rfl, by decide +kernel, by decide +kernel⟩ ⟨by decide, by decide⟩) (fun _ _ _ _ _ _ us hl => match us, hl with | [_, _], _ => rfl) (fun _ _ _ _ _ _ u ws hl => match ws, hl with | [_], _ => rfl)
theorem ck_BadName (E : ExF K) (hI : InitD K) : CK P w K mg base (bmS (He.ga K "ShowError")) (He.ga K "BadName") ["thing"] := by
  obtain ⟨fd, F⟩ := hI (dI "BadName" 19) (List.mem_of_getElem? (i := 17) rfl)
  exact ck_of (E.c _ (List.mem_of_getElem? (i := 17) rfl)) (ve_bm _) (E.ci _ (List.mem_of_getElem? (i := 17) rfl) (by decide)) F (ok_i1 F ⟨rfl, rfl, rfl, by decide +kernel, rfl, by decide +kernel, by decide +kernel⟩ ⟨by decide, by decide⟩) (fun _ _ _ _ _ _ us hl => match us, hl with | [_, _], _ => rfl) (fun _ _ _ _ _ _ u ws hl => match ws, hl with | [_], _ => rfl)
theorem ck_BadNames (E : ExF K) (hI : InitD K) : CK P w K mg base (bmS (He.ga K "ShowError")) (He.ga K "BadNames") ["thing"] := by
  obtain ⟨fd, F⟩ := hI (dI "BadNames" 20) (List.mem_of_getElem? (i := 18) rfl)
  exact ck_of (E.c _ (List.mem_of_getElem? (i := 18) rfl)) (ve_bm _) (E.ci _ (List.mem_of_getElem? (i := 18) rfl) (by decide)) F (ok_i1 F ⟨rfl, rfl, rfl, by decide +kernel, rfl, by decide +kernel, by decide +kernel⟩ ⟨by decide, by decide⟩) (fun _ _ _ _ _ _ us hl => match us, hl with | [_, _], _ => rfl) (fun _ _ _ _ _ _ u ws hl => match ws, hl with | [_], _ => rfl)
theorem ck_BadNumber (E : ExF K) (hI : InitD K) : CK P w K mg base (bmS (He.ga K "ShowError")) (He.ga K "BadNumber") ["thing"] := by
  obtain ⟨fd, F⟩ := hI (dI "BadNumber" 21) (List.mem_of_getElem? (i := 19) rfl)
  exact ck_of (E.c _ (List.mem_of_getElem? (i := 19) rfl)) (ve_bm _) (E.ci _ (List.mem_of_getElem? (i := 19) rfl) (by decide)) F (ok_i1 F ⟨rfl, rfl, rfl, by decide +kernel, rfl, by decide +kernel, by decide +kernel⟩ ⟨by decide, by decide⟩) (fun _ _ _ _ _ _ us hl => match us, hl with | [_, _], _ => rfl) (fun _ _ _ _ _ _ u ws hl => match ws, hl with | [_], _ => rfl)
theorem ck_BadOrder (E : ExF K) (hI : InitD K) : CK P w K mg base (bmS (He.ga K "ShowError")) (He.ga K "BadOrder") ["thing"] := by
  obtain ⟨fd, F⟩ := hI (dI "BadOrder" 22) (List.mem_of_getElem? (i := 20) rfl)
  exact ck_of (E.c _ (List.mem_of_getElem? (i := 20) rfl)) (ve_bm _) (E.ci _ (List.mem_of_getElem? (i := 20) rfl) (by decide)) F (ok_i1 F ⟨rfl, rfl, rfl, by decide +kernel, rfl, by decide +kernel, by decide +kernel⟩ ⟨by decide, by decide⟩) (fun _ _ _ _ _ _ us hl => match us, hl with | [_, _], _ => rfl) (fun _ _ _ _ _ _ u ws hl => match ws, hl with | [_], _ => rfl)
theorem ck_BadPairs (E : ExF K) (hI : InitD K) : CK P w K mg base (bmS (He.ga K "ShowError")) (He.ga K "BadPairs") ["index"] := by
  obtain ⟨fd, F⟩ := hI (dI "BadPairs" 23) (List.mem_of_getElem? (i := 21) rfl)
  exact ck_of (E.c _ (List.mem_of_getElem? (i := 21) rfl)) (ve_bm _) (E.ci _ (List.mem_of_getElem? (i := 21) rfl) (by decide)) F (ok_i1 F ⟨rfl, rfl, rfl, by decide +kernel, rfl, by decide +kernel, by decide +kernel⟩ ⟨by decide, by decide⟩) (fun _ _ _ _ _ _ us hl => match us, hl with | [_, _], _ => rfl) (fun _ _ _ _ _ _ u ws hl => match ws, hl with | [_], _ => rfl)
theorem ck_BadPaper (E : ExF K) (hI : InitD K) : CK P w K mg base (bmS (He.ga K "ShowError")) (He.ga K "BadPaper") ["thing"] := by
  obtain ⟨fd, F⟩ := hI (dI "BadPaper" 24) (List.mem_of_getElem? (i := 22) rfl)
  exact ck_of (E.c _ (List.mem_of_getElem? (i := 22) rfl)) (ve_bm _) (E.ci _ (List.mem_of_getElem? (i := 22) rfl) (by decide)) F (ok_i1 F ⟨rfl, rfl, rfl, by decide +kernel, rfl, by decide +kernel, by decide +kernel⟩ ⟨by decide, by decide⟩) (fun _ _ _ _ _ _ us hl => match us, hl with | [_, _], _ => rfl) (fun _ _ _ _ _ _ u ws hl => match ws, hl with | [_], _ => rfl)
theorem ck_BadPlace (E : ExF K) (hI : InitD K) : CK P w K mg base (bmS (He.ga K "ShowError")) (He.ga K "BadPlace") ["thing"] := by
  obtain ⟨fd, F⟩ := hI (dI "BadPlace" 25) (List.mem_of_getElem? (i := 23) rfl)
  exact ck_of (E.c _ (List.mem_of_getElem? (i := 23) rfl)) (ve_bm _) (E.ci _ (List.mem_of_getElem? (i := 23) rfl) (by decide)) F (ok_i1 F ⟨rfl, rfl, rfl, by decide +kernel, rfl, by decide +kernel, by decide +kernel⟩ ⟨by decide, by decide⟩) (fun _ _ _ _ _ _ us hl => match us, hl with | [_, _], _ => rfl) (fun _ _ _ _ _ _ u ws hl => match ws, hl with | [_], _ => rfl)
theorem ck_BadPredicates (E : ExF K) (hI : InitD K) : CK P w K mg base (bmS (He.ga K "ShowError")) (He.ga K "BadPredicates") ["index"] := by
  obtain ⟨fd, F⟩ := hI (dI "BadPredicates" 26) (List.mem_of_getElem? (i := 24) rfl)
  exact ck_of (E.c _ (List.mem_of_getElem? (i := 24) rfl)) (ve_bm _) (E.ci _ (List.mem_of_getElem? (i := 24) rfl) (by decide)) F (ok_i1 F ⟨rfl, rfl, rfl, by decide +kernel, rfl, by decide +kernel, by decide +kernel⟩ ⟨by decide, by decide⟩) (fun _ _ _ _ _ _ us hl => match us, hl with | [_, _], _ => rfl) (fun _ _ _ _ _ _ u ws hl => match ws, hl with | [_], _ => rfl)
theorem ck_BadProblem (E : ExF K) (hI : InitD K) : CK P w K mg base (bmS (He.ga K "ShowError")) (He.ga K "BadProblem") ["thing"] := by
  obtain ⟨fd, F⟩ := hI (dI "BadProblem" 27) (List.mem_of_getElem? (i := 25) rfl)
  exact ck_of (E.c _ (List.mem_of_getElem? (i := 25) rfl)) (ve_bm _) (E.ci _ (List.mem_of_getElem? (i := 25) rfl) (by decide)) F (ok_i1 F ⟨rfl, rfl, rfl, by decide +kernel, rfl, by decide +kernel, by decide +kernel⟩ ⟨by decide, by decide⟩) (fun _ _ _ _ _ _ us hl => match us, hl with | [_, _], _ => rfl) (fun _ _ _ _ _ _ u ws hl => match ws, hl with | [_], _ => rfl)
theorem ck_BadQuestion (E : ExF K) (hI : InitD K) : CK P w K mg base (bmS (He.ga K "ShowError")) (He.ga K "BadQuestion") ["thing"] := by
  obtain ⟨fd, F⟩ := hI (dI "BadQuestion" 28) (List.mem_of_getElem? (i := 26) rfl)
  exact ck_of (E.c _ (List.mem_of_getElem? (i := 26) rfl)) (ve_bm _) (E.ci _ (List.mem_of_getElem? (i := 26) rfl) (by decide)) F (ok_i1 F ⟨rfl, rfl, rfl, by decide +kernel, rfl, by decide +kernel, by decide +kernel⟩ ⟨by decide, by decide⟩) (fun _ _ _ _ _ _ us hl => match us, hl with | [_, _], _ => rfl) (fun _ _ _ _ _ _ u ws hl => match ws, hl with | [_], _ => rfl)
theorem ck_BadRefutation (E : ExF K) (hI : InitD K) : CK P w K mg base (bmS (He.ga K "ShowError")) (He.ga K "BadRefutation") ["thing"] := by
  obtain ⟨fd, F⟩ := hI (dI "BadRefutation" 29) (List.mem_of_getElem? (i := 27) rfl)
  exact ck_of (E.c _ (List.mem_of_getElem? (i := 27) rfl)) (ve_bm _) (E.ci _ (List.mem_of_getElem? (i := 27) rfl) (by decide)) F (ok_i1 F ⟨rfl, rfl, rfl, by decide +kernel, rfl, by decide +kernel, by decide +kernel⟩ ⟨by decide, by decide⟩) (fun _ _ _ _ _ _ us hl => match us, hl with | [_, _], _ => rfl) (fun _ _ _ _ _ _ u ws hl => match ws, hl with | [_], _ => rfl)
theorem ck_BadRows (E : ExF K) (hI : InitD K) : CK P w K mg base (bmS (He.ga K "ShowError")) (He.ga K "BadRows") ["index"] := by
  obtain ⟨fd, F⟩ := hI (dI "BadRows" 30) (List.mem_of_getElem? (i := 28) rfl)
  exact ck_of (E.c _ (List.mem_of_getElem? (i := 28) rfl)) (ve_bm _) (E.ci _ (List.mem_of_getElem? (i := 28) rfl) (by decide)) F (ok_i1 F ⟨rfl, rfl, rfl, by decide +kernel, rfl, by decide +kernel, by decide +kernel⟩ ⟨by decide, by decide⟩) (fun _ _ _ _ _ _ us hl => match us, hl with | [_, _], _ => rfl) (fun _ _ _ _ _ _ u ws hl => match ws, hl with | [_], _ => rfl)
theorem ck_BadRules (E : ExF K) (hI : InitD K) : CK P w K mg base (bmS (He.ga K "ShowError")) (He.ga K "BadRules") ["index"] := by
  obtain ⟨fd, F⟩ := hI (dI "BadRules" 31) (List.mem_of_getElem? (i := 29) rfl)
  exact ck_of (E.c _ (List.mem_of_getElem? (i := 29) rfl)) (ve_bm _) (E.ci _ (List.mem_of_getElem? (i := 29) rfl) (by decide)) F (ok_i1 F ⟨rfl, rfl, rfl, by decide +kernel, rfl, by decide +kernel, by decide +kernel⟩ ⟨by decide, by decide⟩) (fun _ _ _ _ _ _ us hl => match us, hl with | [_, _], _ => rfl) (fun _ _ _ _ _ _ u ws hl => match ws, hl with | [_], _ => rfl)
theorem ck_BadSentence (E : ExF K) (hI : InitD K) : CK P w K mg base (bmS (He.ga K "ShowError")) (He.ga K "BadSentence") ["thing"] := by
  obtain ⟨fd, F⟩ := hI (dI "BadSentence" 32) (List.mem_of_getElem? (i := 30) rfl)
  exact ck_of (E.c _ (List.mem_of_getElem? (i := 30) rfl)) (ve_bm _) (E.ci _ (List.mem_of_getElem? (i := 30) rfl) (by decide)) F (ok_i1 F ⟨rfl, rfl, rfl, by decide +kernel, rfl, by decide +kernel, by decide +kernel⟩ ⟨by decide, by decide⟩) (fun _ _ _ _ _ _ us hl => match us, hl with | [_, _], _ => rfl) (fun _ _ _ _ _ _ u ws hl => match ws, hl with | [_], _ => rfl)
theorem ck_BadSentences (E : ExF K) (hI : InitD K) : CK P w K mg base (bmS (He.ga K "ShowError")) (He.ga K "BadSentences") ["index"] := by
  obtain ⟨fd, F⟩ := hI (dI "BadSentences" 33) (List.mem_of_getElem? (i := 31) rfl)
  exact ck_of (E.c _ (List.mem_of_getElem? (i := 31) rfl)) (ve_bm _) (E.ci _ (List.mem_of_getElem? (i := 31) rfl) (by decide)) F (ok_i1 F ⟨rfl, rfl, rfl, by decide +kernel, rfl, by decide +kernel, by decide +kernel⟩ ⟨by decide, by decide⟩) (fun _ _ _ _ _ _ us hl => match us, hl with | [_, _], _ => rfl) (fun _ _ _ _ _ _ u ws hl => match ws, hl with | [_], _ => rfl)
theorem ck_BadSession (E : ExF K) (hI : InitD K) : CK P w K mg base (bmS (He.ga K "ShowError")) (He.ga K "BadSession") ["thing"] := by
  obtain ⟨fd, F⟩ := hI (dI "BadSession" 34) (List.mem_of_getElem? (i := 32) rfl)
  exact ck_of (E.c _ (List.mem_of_getElem? (i := 32) rfl)) (ve_bm _) (E.ci _ (List.mem_of_getElem? (i := 32) rfl) (by decide)) F (ok_i1 F ⟨rfl, rfl, rfl, by decide +kernel, rfl, by decide +kernel, by decide +kernel⟩ ⟨by decide, by decide⟩) (fun _ _ _ _ _ _ us hl => match us, hl with | [_, _], _ => rfl) (fun _ _ _ _ _ _ u ws hl => match ws, hl with | [_], _ => rfl)
theorem ck_BadSize (E : ExF K) (hI : InitD K) : CK P w K mg base (bmS (He.ga K "ShowError")) (He.ga K "BadSize") ["thing"] := by
  obtain ⟨fd, F⟩ := hI (dI "BadSize" 35) (List.mem_of_getElem? (i := 33) rfl)
  exact ck_of (E.c _ (List.mem_of_getElem? (i := 33) rfl)) (ve_bm _) (E.ci _ (List.mem_of_getElem? (i := 33) rfl) (by decide)) F (ok_i1 F ⟨rfl, rfl, rfl, by decide +kernel, rfl, by decide +kernel, by decide +kernel⟩ ⟨by decide, by decide⟩) (fun _ _ _ _ _ _ us hl => match us, hl with | [_, _], _ => rfl) (fun _ _ _ _ _ _ u ws hl => match ws, hl with | [_], _ => rfl)
theorem ck_BadSubstitution (E : ExF K) (hI : InitD K) : CK P w K mg base (bmS (He.ga K "ShowError")) (He.ga K "BadSubstitution") ["thing"] := by
  obtain ⟨fd, F⟩ := hI (dI "BadSubstitution" 36) (List.mem_of_getElem? (i := 34) rfl)
  exact ck_of (E.c _ (List.mem_of_getElem? (i := 34) rfl)) (ve_bm _) (E.ci _ (List.mem_of_getElem? (i := 34) rfl) (by decide)) F (ok_i1 F ⟨rfl, rfl, rfl, by decide +kernel, rfl, by decide +kernel, by decide +kernel⟩ ⟨by decide, by decide⟩) (fun _ _ _ _ _ _ us hl => match us, hl with | [_, _], _ => rfl) (fun _ _ _ _ _ _ u ws hl => match ws, hl with | [_], _ => rfl)
theorem ck_BadSymbols (E : ExF K) (hI : InitD K) : CK P w K mg base (bmS (He.ga K "ShowError")) (He.ga K "BadSymbols") ["index"] := by
  obtain ⟨fd, F⟩ := hI (dI "BadSymbols" 37) (List.mem_of_getElem? (i := 35) rfl)
  exact ck_of (E.c _ (List.mem_of_getElem? (i := 35) rfl)) (ve_bm _) (E.ci _ (List.mem_of_getElem? (i := 35) rfl) (by decide)) F (ok_i1 F ⟨rfl, rfl, rfl, by decide +kernel, rfl, by decide +kernel, by decide +kernel⟩ ⟨by decide, by decide⟩) (fun _ _ _ _ _ _ us hl => match us, hl with | [_, _], _ => rfl) (fun _ _ _ _ _ _ u ws hl => match ws, hl with | [_], _ => rfl)
theorem ck_BadTable (E : ExF K) (hI : InitD K) : CK P w K mg base (bmS (He.ga K "ShowError")) (He.ga K "BadTable") ["fault"] := by
  obtain ⟨fd, F⟩ := hI (dI "BadTable" 38) (List.mem_of_getElem? (i := 36) rfl)
  exact ck_of (E.c _ (List.mem_of_getElem? (i := 36) rfl)) (ve_bm _) (E.ci _ (List.mem_of_getElem? (i := 36) rfl) (by decide)) F (ok_i1 F ⟨rfl, rfl, rfl, by decide +kernel, rfl, by decide +kernel, by decide +kernel⟩ ⟨by decide, by decide⟩) (fun _ _ _ _ _ _ us hl => match us, hl with | [_, _], _ => rfl) (fun _ _ _ _ _ _ u ws hl => match ws, hl with | [_], _ => rfl)
theorem ck_BadTaken (E : ExF K) (hI : InitD K) : CK P w K mg base (bmS (He.ga K "ShowError")) (He.ga K "BadTaken") ["index"] := by
  obtain ⟨fd, F⟩ := hI (dI "BadTaken" 39) (List.mem_of_getElem? (i := 37) rfl)
  exact ck_of (E.c _ (List.mem_of_getElem? (i := 37) rfl)) (ve_bm _) (E.ci _ (List.mem_of_getElem? (i := 37) rfl) (by decide)) F (ok_i1 F ⟨rfl, rfl, rfl, by decide +kernel, rfl, by decide +kernel, by decide +kernel⟩ ⟨by decide, by decide⟩) (fun _ _ _ _ _ _ us hl => match us, hl with | [_, _], _ => rfl) (fun _ _ _ _ _ _ u ws hl => match ws, hl with | [_], _ => rfl)
theorem ck_BadText (E : ExF K) (hI : InitD K) : CK P w K mg base (bmS (He.ga K "ShowError")) (He.ga K "BadText") ["line", "sign"] := by
  obtain ⟨fd, F⟩ := hI (dI "BadText" 40) (List.mem_of_getElem? (i := 38) rfl)
  exact ck_of (E.c _ (List.mem_of_getElem? (i := 38) rfl)) (ve_bm _) (E.ci _ (List.mem_of_getElem? (i := 38) rfl) (by decide)) F (ok_i2 F ⟨rfl, rfl, rfl, by decide +kernel, rfl, by decide +kernel, by decide +kernel⟩ ⟨by decide, by decide⟩ ⟨by decide, by decide⟩) (fun _ _ _ _ _ _ us hl => match us, hl with | [_, _, _], _ => rfl) (fun _ _ _ _ _ _ u ws hl => match ws, hl with | [_, _], _ => rfl)
theorem ck_BadTheory (E : ExF K) (hI : InitD K) : CK P w K mg base (bmS (He.ga K "ShowError")) (He.ga K "BadTheory") ["thing"] := by
  obtain ⟨fd, F⟩ := hI (dI "BadTheory" 41) (List.mem_of_getElem? (i := 39) rfl)
  exact ck_of (E.c _ (List.mem_of_getElem? (i := 39) rfl)) (ve_bm _) (E.ci _ (List.mem_of_getElem? (i := 39) rfl) (by decide)) F (ok_i1 F ⟨rfl, rfl, rfl, by decide +kernel, rfl, by decide +kernel, by decide +kernel⟩ ⟨by decide, by decide⟩) (fun _ _ _ _ _ _ us hl => match us, hl with | [_, _], _ => rfl) (fun _ _ _ _ _ _ u ws hl => match ws, hl with | [_], _ => rfl)
theorem ck_BadThing (E : ExF K) (hI : InitD K) : CK P w K mg base (bmS (He.ga K "ShowError")) (He.ga K "BadThing") ["thing"] := by
  obtain ⟨fd, F⟩ := hI (dI "BadThing" 42) (List.mem_of_getElem? (i := 40) rfl)
  exact ck_of (E.c _ (List.mem_of_getElem? (i := 40) rfl)) (ve_bm _) (E.ci _ (List.mem_of_getElem? (i := 40) rfl) (by decide)) F (ok_i1 F ⟨rfl, rfl, rfl, by decide +kernel, rfl, by decide +kernel, by decide +kernel⟩ ⟨by decide, by decide⟩) (fun _ _ _ _ _ _ us hl => match us, hl with | [_, _], _ => rfl) (fun _ _ _ _ _ _ u ws hl => match ws, hl with | [_], _ => rfl)
theorem ck_BadTruth (E : ExF K) (hI : InitD K) : CK P w K mg base (bmS (He.ga K "ShowError")) (He.ga K "BadTruth") ["thing"] := by
  obtain ⟨fd, F⟩ := hI (dI "BadTruth" 43) (List.mem_of_getElem? (i := 41) rfl)
  exact ck_of (E.c _ (List.mem_of_getElem? (i := 41) rfl)) (ve_bm _) (E.ci _ (List.mem_of_getElem? (i := 41) rfl) (by decide)) F (ok_i1 F ⟨rfl, rfl, rfl, by decide +kernel, rfl, by decide +kernel, by decide +kernel⟩ ⟨by decide, by decide⟩) (fun _ _ _ _ _ _ us hl => match us, hl with | [_, _], _ => rfl) (fun _ _ _ _ _ _ u ws hl => match ws, hl with | [_], _ => rfl)
theorem ck_BadTurn (E : ExF K) (hI : InitD K) : CK P w K mg base (bmS (He.ga K "ShowError")) (He.ga K "BadTurn") ["thing"] := by
  obtain ⟨fd, F⟩ := hI (dI "BadTurn" 44) (List.mem_of_getElem? (i := 42) rfl)
  exact ck_of (E.c _ (List.mem_of_getElem? (i := 42) rfl)) (ve_bm _) (E.ci _ (List.mem_of_getElem? (i := 42) rfl) (by decide)) F (ok_i1 F ⟨rfl, rfl, rfl, by decide +kernel, rfl, by decide +kernel, by decide +kernel⟩ ⟨by decide, by decide⟩) (fun _ _ _ _ _ _ us hl => match us, hl with | [_, _], _ => rfl) (fun _ _ _ _ _ _ u ws hl => match ws, hl with | [_], _ => rfl)
theorem ck_BadWord (E : ExF K) (hI : InitD K) : CK P w K mg base (bmS (He.ga K "ShowError")) (He.ga K "BadWord") ["thing"] := by
  obtain ⟨fd, F⟩ := hI (dI "BadWord" 45) (List.mem_of_getElem? (i := 43) rfl)
  exact ck_of (E.c _ (List.mem_of_getElem? (i := 43) rfl)) (ve_bm _) (E.ci _ (List.mem_of_getElem? (i := 43) rfl) (by decide)) F (ok_i1 F ⟨rfl, rfl, rfl, by decide +kernel, rfl, by decide +kernel, by decide +kernel⟩ ⟨by decide, by decide⟩) (fun _ _ _ _ _ _ us hl => match us, hl with | [_, _], _ => rfl) (fun _ _ _ _ _ _ u ws hl => match ws, hl with | [_], _ => rfl)
theorem ck_BadWords (E : ExF K) (hI : InitD K) : CK P w K mg base (bmS (He.ga K "ShowError")) (He.ga K "BadWords") ["index"] := by
  obtain ⟨fd, F⟩ := hI (dI "BadWords" 46) (List.mem_of_getElem? (i := 44) rfl)
  exact ck_of (E.c _ (List.mem_of_getElem? (i := 44) rfl)) (ve_bm _) (E.ci _ (List.mem_of_getElem? (i := 44) rfl) (by decide)) F (ok_i1 F ⟨rfl, rfl, rfl, by decide +kernel, rfl, by decide +kernel, by decide +kernel⟩ ⟨by decide, by decide⟩) (fun _ _ _ _ _ _ us hl => match us, hl with | [_, _], _ => rfl) (fun _ _ _ _ _ _ u ws hl => match ws, hl with | [_], _ => rfl)
theorem ck_BadWorld (E : ExF K) (hI : InitD K) : CK P w K mg base (bmS (He.ga K "ShowError")) (He.ga K "BadWorld") ["thing"] := by
  obtain ⟨fd, F⟩ := hI (dI "BadWorld" 47) (List.mem_of_getElem? (i := 45) rfl)
  exact ck_of (E.c _ (List.mem_of_getElem? (i := 45) rfl)) (ve_bm _) (E.ci _ (List.mem_of_getElem? (i := 45) rfl) (by decide)) F (ok_i1 F ⟨rfl, rfl, rfl, by decide +kernel, rfl, by decide +kernel, by decide +kernel⟩ ⟨by decide, by decide⟩) (fun _ _ _ _ _ _ us hl => match us, hl with | [_, _], _ => rfl) (fun _ _ _ _ _ _ u ws hl => match ws, hl with | [_], _ => rfl)
theorem ck_Crowded (E : ExF K) (hI : InitD K) : CK P w K mg base (bmS (He.ga K "ShowError")) (He.ga K "Crowded") ["many"] := by
  obtain ⟨fd, F⟩ := hI (dI "Crowded" 48) (List.mem_of_getElem? (i := 46) rfl)
  exact ck_of (E.c _ (List.mem_of_getElem? (i := 46) rfl)) (ve_bm _) (E.ci _ (List.mem_of_getElem? (i := 46) rfl) (by decide)) F (ok_i1 F ⟨rfl, rfl, rfl, by decide +kernel, rfl, by decide +kernel, by decide +kernel⟩ ⟨by decide, by decide⟩) (fun _ _ _ _ _ _ us hl => match us, hl with | [_, _], _ => rfl) (fun _ _ _ _ _ _ u ws hl => match ws, hl with | [_], _ => rfl)
theorem ck_HasAxiom (E : ExF K) (hI : InitD K) : CK P w K mg base (bmS (He.ga K "ShowError")) (He.ga K "HasAxiom") ["name"] := by
  obtain ⟨fd, F⟩ := hI (dI "HasAxiom" 49) (List.mem_of_getElem? (i := 47) rfl)
  exact ck_of (E.c _ (List.mem_of_getElem? (i := 47) rfl)) (ve_bm _) (E.ci _ (List.mem_of_getElem? (i := 47) rfl) (by decide)) F (ok_i1 F ⟨rfl, rfl, rfl, by decide +kernel, rfl, by decide +kernel, by decide +kernel⟩ ⟨by decide, by decide⟩) (fun _ _ _ _ _ _ us hl => match us, hl with | [_, _], _ => rfl) (fun _ _ _ _ _ _ u ws hl => match ws, hl with | [_], _ => rfl)
theorem ck_HasVariables (E : ExF K) (hI : InitD K) : CK P w K mg base (bmS (He.ga K "ShowError")) (He.ga K "HasVariables") ["index"] := by
  obtain ⟨fd, F⟩ := hI (dI "HasVariables" 50) (List.mem_of_getElem? (i := 48) rfl)
  exact ck_of (E.c _ (List.mem_of_getElem? (i := 48) rfl)) (ve_bm _) (E.ci _ (List.mem_of_getElem? (i := 48) rfl) (by decide)) F (ok_i1 F ⟨rfl, rfl, rfl, by decide +kernel, rfl, by decide +kernel, by decide +kernel⟩ ⟨by decide, by decide⟩) (fun _ _ _ _ _ _ us hl => match us, hl with | [_, _], _ => rfl) (fun _ _ _ _ _ _ u ws hl => match ws, hl with | [_], _ => rfl)
theorem ck_InUse (E : ExF K) (hI : InitD K) : CK P w K mg base (bmS (He.ga K "ShowError")) (He.ga K "InUse") ["question"] := by
  obtain ⟨fd, F⟩ := hI (dI "InUse" 51) (List.mem_of_getElem? (i := 49) rfl)
  exact ck_of (E.c _ (List.mem_of_getElem? (i := 49) rfl)) (ve_bm _) (E.ci _ (List.mem_of_getElem? (i := 49) rfl) (by decide)) F (ok_i1 F ⟨rfl, rfl, rfl, by decide +kernel, rfl, by decide +kernel, by decide +kernel⟩ ⟨by decide, by decide⟩) (fun _ _ _ _ _ _ us hl => match us, hl with | [_, _], _ => rfl) (fun _ _ _ _ _ _ u ws hl => match ws, hl with | [_], _ => rfl)
theorem ck_IsWatched (E : ExF K) (hI : InitD K) : CK P w K mg base (bmS (He.ga K "ShowError")) (He.ga K "IsWatched") ["question"] := by
  obtain ⟨fd, F⟩ := hI (dI "IsWatched" 52) (List.mem_of_getElem? (i := 50) rfl)
  exact ck_of (E.c _ (List.mem_of_getElem? (i := 50) rfl)) (ve_bm _) (E.ci _ (List.mem_of_getElem? (i := 50) rfl) (by decide)) F (ok_i1 F ⟨rfl, rfl, rfl, by decide +kernel, rfl, by decide +kernel, by decide +kernel⟩ ⟨by decide, by decide⟩) (fun _ _ _ _ _ _ us hl => match us, hl with | [_, _], _ => rfl) (fun _ _ _ _ _ _ u ws hl => match ws, hl with | [_], _ => rfl)
theorem ck_NoCount (E : ExF K) (hI : InitD K) : CK P w K mg base (bmS (He.ga K "ShowError")) (He.ga K "NoCount") ["thing"] := by
  obtain ⟨fd, F⟩ := hI (dI "NoCount" 54) (List.mem_of_getElem? (i := 51) rfl)
  exact ck_of (E.c _ (List.mem_of_getElem? (i := 52) rfl)) (ve_bm _) (E.ci _ (List.mem_of_getElem? (i := 52) rfl) (by decide)) F (ok_i1 F ⟨rfl, rfl, rfl, by decide +kernel, rfl, by decide +kernel, by decide +kernel⟩ ⟨by decide, by decide⟩) (fun _ _ _ _ _ _ us hl => match us, hl with | [_, _], _ => rfl) (fun _ _ _ _ _ _ u ws hl => match ws, hl with | [_], _ => rfl)
theorem ck_NoWord (E : ExF K) (hI : InitD K) : CK P w K mg base (bmS (He.ga K "ShowError")) (He.ga K "NoWord") ["thing"] := by
  obtain ⟨fd, F⟩ := hI (dI "NoWord" 55) (List.mem_of_getElem? (i := 52) rfl)
  exact ck_of (E.c _ (List.mem_of_getElem? (i := 53) rfl)) (ve_bm _) (E.ci _ (List.mem_of_getElem? (i := 53) rfl) (by decide)) F (ok_i1 F ⟨rfl, rfl, rfl, by decide +kernel, rfl, by decide +kernel, by decide +kernel⟩ ⟨by decide, by decide⟩) (fun _ _ _ _ _ _ us hl => match us, hl with | [_, _], _ => rfl) (fun _ _ _ _ _ _ u ws hl => match ws, hl with | [_], _ => rfl)
theorem ck_NoWorld (E : ExF K) (hI : InitD K) : CK P w K mg base (bmS (He.ga K "ShowError")) (He.ga K "NoWorld") ["world"] := by
  obtain ⟨fd, F⟩ := hI (dI "NoWorld" 56) (List.mem_of_getElem? (i := 53) rfl)
  exact ck_of (E.c _ (List.mem_of_getElem? (i := 54) rfl)) (ve_bm _) (E.ci _ (List.mem_of_getElem? (i := 54) rfl) (by decide)) F (ok_i1 F ⟨rfl, rfl, rfl, by decide +kernel, rfl, by decide +kernel, by decide +kernel⟩ ⟨by decide, by decide⟩) (fun _ _ _ _ _ _ us hl => match us, hl with | [_, _], _ => rfl) (fun _ _ _ _ _ _ u ws hl => match ws, hl with | [_], _ => rfl)
theorem ck_NotComplete (E : ExF K) (hI : InitD K) : CK P w K mg base (bmS (He.ga K "ShowError")) (He.ga K "NotComplete") ["meeting"] := by
  obtain ⟨fd, F⟩ := hI (dI "NotComplete" 57) (List.mem_of_getElem? (i := 54) rfl)
  exact ck_of (E.c _ (List.mem_of_getElem? (i := 55) rfl)) (ve_bm _) (E.ci _ (List.mem_of_getElem? (i := 55) rfl) (by decide)) F (ok_i1 F ⟨rfl, rfl, rfl, by decide +kernel, rfl, by decide +kernel, by decide +kernel⟩ ⟨by decide, by decide⟩) (fun _ _ _ _ _ _ us hl => match us, hl with | [_, _], _ => rfl) (fun _ _ _ _ _ _ u ws hl => match ws, hl with | [_], _ => rfl)
theorem ck_NotGround (E : ExF K) (hI : InitD K) : CK P w K mg base (bmS (He.ga K "ShowError")) (He.ga K "NotGround") ["thing"] := by
  obtain ⟨fd, F⟩ := hI (dI "NotGround" 59) (List.mem_of_getElem? (i := 55) rfl)
  exact ck_of (E.c _ (List.mem_of_getElem? (i := 57) rfl)) (ve_bm _) (E.ci _ (List.mem_of_getElem? (i := 57) rfl) (by decide)) F (ok_i1 F ⟨rfl, rfl, rfl, by decide +kernel, rfl, by decide +kernel, by decide +kernel⟩ ⟨by decide, by decide⟩) (fun _ _ _ _ _ _ us hl => match us, hl with | [_, _], _ => rfl) (fun _ _ _ _ _ _ u ws hl => match ws, hl with | [_], _ => rfl)
theorem ck_NotOrdered (E : ExF K) (hI : InitD K) : CK P w K mg base (bmS (He.ga K "ShowError")) (He.ga K "NotOrdered") ["name"] := by
  obtain ⟨fd, F⟩ := hI (dI "NotOrdered" 60) (List.mem_of_getElem? (i := 56) rfl)
  exact ck_of (E.c _ (List.mem_of_getElem? (i := 58) rfl)) (ve_bm _) (E.ci _ (List.mem_of_getElem? (i := 58) rfl) (by decide)) F (ok_i1 F ⟨rfl, rfl, rfl, by decide +kernel, rfl, by decide +kernel, by decide +kernel⟩ ⟨by decide, by decide⟩) (fun _ _ _ _ _ _ us hl => match us, hl with | [_, _], _ => rfl) (fun _ _ _ _ _ _ u ws hl => match ws, hl with | [_], _ => rfl)
theorem ck_NotWatched (E : ExF K) (hI : InitD K) : CK P w K mg base (bmS (He.ga K "ShowError")) (He.ga K "NotWatched") ["question"] := by
  obtain ⟨fd, F⟩ := hI (dI "NotWatched" 61) (List.mem_of_getElem? (i := 57) rfl)
  exact ck_of (E.c _ (List.mem_of_getElem? (i := 59) rfl)) (ve_bm _) (E.ci _ (List.mem_of_getElem? (i := 59) rfl) (by decide)) F (ok_i1 F ⟨rfl, rfl, rfl, by decide +kernel, rfl, by decide +kernel, by decide +kernel⟩ ⟨by decide, by decide⟩) (fun _ _ _ _ _ _ us hl => match us, hl with | [_, _], _ => rfl) (fun _ _ _ _ _ _ u ws hl => match ws, hl with | [_], _ => rfl)
theorem ck_WouldChange (E : ExF K) (hI : InitD K) : CK P w K mg base (bmS (He.ga K "ShowError")) (He.ga K "WouldChange") ["question", "was", "becomes"] := by
  obtain ⟨fd, F⟩ := hI (dI "WouldChange" 62) (List.mem_of_getElem? (i := 58) rfl)
  exact ck_of (E.c _ (List.mem_of_getElem? (i := 60) rfl)) (ve_bm _) (E.ci _ (List.mem_of_getElem? (i := 60) rfl) (by decide)) F (ok_i3 F ⟨rfl, rfl, rfl, by decide +kernel, rfl, by decide +kernel, by decide +kernel⟩ ⟨by decide, by decide⟩ ⟨by decide, by decide⟩ ⟨by decide, by decide⟩) (fun _ _ _ _ _ _ us hl => match us, hl with | [_, _, _, _], _ => rfl) (fun _ _ _ _ _ _ u ws hl => match ws, hl with | [_, _, _], _ => rfl)
theorem ck_all0 (E : ExF K) (hI : InitD K) : ∀ p ∈ cnms0, p.2 ≠ [] → CK P w K mg base (bmS (He.ga K "ShowError")) (He.ga K p.1) p.2 :=
  List.forall_mem_cons.mpr ⟨fun _ => ck_BadArities E hI,
    List.forall_mem_cons.mpr ⟨fun _ => ck_BadArity E hI,
    List.forall_mem_cons.mpr ⟨fun _ => ck_BadAtom E hI,
    List.forall_mem_cons.mpr ⟨fun _ => ck_BadAtoms E hI,
    List.forall_mem_cons.mpr ⟨fun _ => ck_BadAxioms E hI,
    List.forall_mem_cons.mpr ⟨fun _ => ck_BadBound E hI,
    List.forall_mem_cons.mpr ⟨fun _ => ck_BadClause E hI,
    List.forall_mem_cons.mpr ⟨fun _ => ck_BadClauses E hI,
    List.forall_mem_cons.mpr ⟨fun _ => ck_BadDeed E hI,
    List.forall_mem_cons.mpr ⟨fun _ => ck_BadDepth E hI,
    List.forall_mem_cons.mpr ⟨fun _ => ck_BadDerivation E hI,
    List.forall_mem_cons.mpr ⟨fun _ => ck_BadEquations E hI,
    List.forall_mem_cons.mpr ⟨fun _ => ck_BadFunctions E hI,
    List.forall_mem_cons.mpr ⟨fun _ => ck_BadGiving E hI,
    List.forall_mem_cons.mpr ⟨fun _ => ck_BadGoal E hI,
    List.forall_mem_cons.mpr ⟨fun _ => ck_BadLiteral E hI,
    List.forall_mem_cons.mpr ⟨fun _ => ck_BadMany E hI,
    List.forall_mem_cons.mpr ⟨fun _ => ck_BadName E hI,
    List.forall_mem_cons.mpr ⟨fun _ => ck_BadNames E hI,
    List.forall_mem_cons.mpr ⟨fun _ => ck_BadNumber E hI,
    List.forall_mem_cons.mpr ⟨fun _ => ck_BadOrder E hI,
    List.forall_mem_cons.mpr ⟨fun _ => ck_BadPairs E hI,
    List.forall_mem_cons.mpr ⟨fun _ => ck_BadPaper E hI,
    List.forall_mem_cons.mpr ⟨fun _ => ck_BadPlace E hI,
    List.forall_mem_cons.mpr ⟨fun _ => ck_BadPredicates E hI,
    List.forall_mem_cons.mpr ⟨fun _ => ck_BadProblem E hI,
    List.forall_mem_cons.mpr ⟨fun _ => ck_BadQuestion E hI,
    List.forall_mem_cons.mpr ⟨fun _ => ck_BadRefutation E hI,
    List.forall_mem_cons.mpr ⟨fun _ => ck_BadRows E hI,
    List.forall_mem_cons.mpr ⟨fun _ => ck_BadRules E hI,
    List.forall_mem_cons.mpr ⟨fun _ => ck_BadSentence E hI,
    fun _ h => nomatch h⟩⟩⟩⟩⟩⟩⟩⟩⟩⟩⟩⟩⟩⟩⟩⟩⟩⟩⟩⟩⟩⟩⟩⟩⟩⟩⟩⟩⟩⟩⟩
theorem ck_all1 (E : ExF K) (hI : InitD K) : ∀ p ∈ cnms1, p.2 ≠ [] → CK P w K mg base (bmS (He.ga K "ShowError")) (He.ga K p.1) p.2 :=
  List.forall_mem_cons.mpr ⟨fun _ => ck_BadSentences E hI,
    List.forall_mem_cons.mpr ⟨fun _ => ck_BadSession E hI,
    List.forall_mem_cons.mpr ⟨fun _ => ck_BadSize E hI,
    List.forall_mem_cons.mpr ⟨fun _ => ck_BadSubstitution E hI,
    List.forall_mem_cons.mpr ⟨fun _ => ck_BadSymbols E hI,
    List.forall_mem_cons.mpr ⟨fun _ => ck_BadTable E hI,
    List.forall_mem_cons.mpr ⟨fun _ => ck_BadTaken E hI,
    List.forall_mem_cons.mpr ⟨fun _ => ck_BadText E hI,
    List.forall_mem_cons.mpr ⟨fun _ => ck_BadTheory E hI,
    List.forall_mem_cons.mpr ⟨fun _ => ck_BadThing E hI,
    List.forall_mem_cons.mpr ⟨fun _ => ck_BadTruth E hI,
    List.forall_mem_cons.mpr ⟨fun _ => ck_BadTurn E hI,
    List.forall_mem_cons.mpr ⟨fun _ => ck_BadWord E hI,
    List.forall_mem_cons.mpr ⟨fun _ => ck_BadWords E hI,
    List.forall_mem_cons.mpr ⟨fun _ => ck_BadWorld E hI,
    List.forall_mem_cons.mpr ⟨fun _ => ck_Crowded E hI,
    List.forall_mem_cons.mpr ⟨fun _ => ck_HasAxiom E hI,
    List.forall_mem_cons.mpr ⟨fun _ => ck_HasVariables E hI,
    List.forall_mem_cons.mpr ⟨fun _ => ck_InUse E hI,
    List.forall_mem_cons.mpr ⟨fun _ => ck_IsWatched E hI,
    List.forall_mem_cons.mpr ⟨fun h => absurd rfl h,
    List.forall_mem_cons.mpr ⟨fun _ => ck_NoCount E hI,
    List.forall_mem_cons.mpr ⟨fun _ => ck_NoWord E hI,
    List.forall_mem_cons.mpr ⟨fun _ => ck_NoWorld E hI,
    List.forall_mem_cons.mpr ⟨fun _ => ck_NotComplete E hI,
    List.forall_mem_cons.mpr ⟨fun h => absurd rfl h,
    List.forall_mem_cons.mpr ⟨fun _ => ck_NotGround E hI,
    List.forall_mem_cons.mpr ⟨fun _ => ck_NotOrdered E hI,
    List.forall_mem_cons.mpr ⟨fun _ => ck_NotWatched E hI,
    List.forall_mem_cons.mpr ⟨fun _ => ck_WouldChange E hI,
    fun _ h => nomatch h⟩⟩⟩⟩⟩⟩⟩⟩⟩⟩⟩⟩⟩⟩⟩⟩⟩⟩⟩⟩⟩⟩⟩⟩⟩⟩⟩⟩⟩⟩
theorem cls61 (E : ExF K) (hI : InitD K) (hm : ∀ p ∈ cnms, mg p.1 = some (.ref (He.ga K p.1))) : Cls61 P w K mg base :=
  ⟨fun p hp => (List.mem_append.mp hp).elim (ck_all0 E hI p) (ck_all1 E hI p), fun p hp e => ⟨by have := E.c p hp; rw [e] at this; exact this, ve_bm _, E.c0 p hp e⟩, hm⟩
end
end K00

set_option Elab.async false
set_option linter.all false
set_option maxRecDepth 100000
set_option maxHeartbeats 8000000
/-! The law. -/
namespace K00
open PySem PySem.Spec PyProof.Rows
open L2 LamX
/-- a def by its promise, as it is called -/
structure Cal (P : Program) (w : World) (K : PySem.W.Frag) (mg : Str → Option Value) (base : Heap) (x : Str) (k : Nat) (ps : List Str) (sp : Sp) : Prop where
  ex : ∃ (f : Addr) (fd : FuncData), FnOk P w K mg base CX0 k f fd ps sp ∧ Binds K fd ps [] ∧ PySem.W.keepIn K (.ref f) = true ∧ mg x = some (.ref f)
structure CalG (P : Program) (w : World) (K : PySem.W.Frag) (mg : Str → Option Value) (base : Heap) (x : Str) (k : Nat) (ps : List Str) (sp : Sp) : Prop where
  ex : ∃ (f : Addr) (fd : FuncData), FnG P w K mg base k f fd ps sp ∧ Binds K fd ps [] ∧ PySem.W.keepIn K (.ref f) = true ∧ mg x = some (.ref f)
section
variable {X : Cx} {k : Nat} {ps : List Str} {sp : Sp} {x : Str} {p pos : Pos} {e : Expr} {es : List Expr} {t : TA}
theorem pe_cal (c : Cal X.prog X.w X.K X.mg X.base x k ps sp) (hr : Room k X.A) (hx : Gl X x) (ha : PA X (e :: es) t) (hdb : (x == ("__debug__" : Str)) = false := by decide) (he : starEach (e :: es) X.env = (false, eval e X.env) :: starEach es X.env := by rfl)
    (hpl : (backTo pos (starEach es X.env)).any (·.1) = false := by rfl) : PE X (.Call (.Name x p) (e :: es) [] pos) (tCall sp [] E0 t) := by
  obtain ⟨f, fd, F, B, kp, m⟩ := c.ex
  exact pe_call F hr hx m kp B .nil pass0 ha hdb he hpl
theorem pe_calG (c : CalG X.prog X.w X.K X.mg X.base x k ps sp) (hg : X.A.guards = some []) (hr : Room k X.A) (hx : Gl X x) (ha : PA X (e :: es) t) (hdb : (x == ("__debug__" : Str)) = false := by decide) (he : starEach (e :: es) X.env = (false, eval e X.env) :: starEach es X.env := by rfl)
    (hpl : (backTo pos (starEach es X.env)).any (·.1) = false := by rfl) : PE X (.Call (.Name x p) (e :: es) [] pos) (tCall sp [] E0 t) := by
  obtain ⟨f, fd, F, B, kp, m⟩ := c.ex
  exact pe_callG F hg hr hx m kp B ha hdb he hpl
end
section
variable (P : Program) (w : World) (K : PySem.W.Frag) (mg : Str → Option Value) (base : Heap)
abbrev SA : Addr := He.ga K "ShowError"
/-- all that the law calls -/
structure LawF : Prop where
  cf : ClsF K
  start : Cal P w K mg base "_law_start" 1 ["_law_script"] (spStart K)
  mixed : Cal P w K mg base "_law_mixed" 2 ["_law_stream", "_law_some"] (spMixed K)
  a : Cal P w K mg base "_law_made_a" 3 ["_law_x", "_law_y", "_law_z"] (spMade P w K mg base (tabT K) segA)
  b : Cal P w K mg base "_law_made_b" 3 ["_law_x", "_law_y", "_law_z"] (spMade P w K mg base (tabT K) segB)
  c : Cal P w K mg base "_law_made_c" 3 ["_law_x", "_law_y", "_law_z"] (spMade P w K mg base (tabT K) segC)
  d : Cal P w K mg base "_law_made_d" 3 ["_law_x", "_law_y", "_law_z"] (spMade P w K mg base (tabT K) segD)
  own : Cal P w K mg base "_law_is_own" 3 ["_law_e", "_law_at"] (spOwn K)
  kinds : Cal P w K mg base "_law_kinds" 2 ["_law_e"] (spKinds K knAll)
  these : CalG P w K mg base "_law_are_these" 1 nT (spThese K)
  bck : CK0 K PySem.HandSPX.veTail (SA K)
  bexc : ExcC K (SA K)
  bkin : Kin K (SA K)
  bve : PySem.W.kitOne K (.ref (SA K)) (.type "ValueError") = some true
  brow : ansK K (SA K) knAll = (List.replicate 61 false).map V.bl
  mgS : mg "ShowError" = some (.ref (SA K))
  mR : mg "range" = none
  mE : mg "enumerate" = none
  mI : mg "isinstance" = none
  mV : mg "ValueError" = none
def tTurn : TS := tSeq (tAsg (tSl (rSlL K) (tCall (spMixed K) [] E0 (tCons (tVar 1) (tCons (tVar 2) tNil))) tNoPart (tPart (tC (.int 3)))) (gUnl K 3 (gCons (gName 4) (gCons (gName 5) (gCons (gName 6) gNil)))))
  (tSeq (tAsg (tMade P w K mg base 4 5 6) (gName 7)) (tSeq (tMadeD P w K mg base 4 5 6) (tLoop1 P w K mg base)))
def tEnd : TS := tSeq (tAsg (tMk0 (SA K)) (gName 14)) (tRet (tAndV (tCB (rIsO K) (tCons (tVar 14) (tCons (tC (.ty "ValueError")) tNil))) (tOp (rNotInD K) (tC (.bl true)) (tCall (spKinds K knAll) [] E0 (tCons (tVar 14) tNil)))))
def tHeld : TS := tSeq (tAsg (tLst (tCons (tC (.str "v")) tNil)) (gName 13)) (tSeq (tAsg (tMade P w K mg base 13 13 13) (gName 7)) (tSeq (tMadeD P w K mg base 13 13 13)
  (tSeq (tDrop (tBM K "list" rAppend (tVar 13) (tCons (tC (.str "w")) tNil))) (tSeq (tLoop2 P w K mg base) (tEnd K)))))
def tLaw : TS := tSeq (tAsg (tCall (spStart K) [] E0 (tCons (tVar 0) tNil)) (gName 1)) (tSeq (tAsg tMenu (gName 2)) (tSeq (tFor (iRng1 (tCons (tC (.int 2)) tNil)) (gName 3) (tTurn P w K mg base)) (tHeld P w K mg base)))
end
abbrev nL : List Str := ["_law_script", "_law_stream", "_law_some", "_law_turn", "_law_x", "_law_y", "_law_z", "_law_made", "_law_at", "_law_mine", "_law_twin", "_law_field", "_law_due", "_law_held", "_law_base"]
theorem scL : FnScope nL ["_law_script"] (defScope slaw) := ⟨rfl, rfl, rfl, by decide +kernel, rfl, by decide +kernel, by decide +kernel⟩
section
variable {P : Program} {w : World} {K : PySem.W.Frag} {mg : Str → Option Value} {base : Heap}
theorem law_walks (LF : LawF P w K mg base) {f : Addr} {cd : Value} {A : Around} {outer : List Env} {s : Shared} {H : Hp} (hg : A.guards = some []) (hr : Room 3 (A.deeper (envOfC "law" (defScope slaw) s.heap.objs.size f cd))) :
    PSs (cxOf CX0 P w K mg base nL "law" (defScope slaw) f cd A outer s H E0) (defBody slaw) (tLaw P w K mg base) := by
  have hr2 := hr.mono (j := 2) (by omega)
  have hr1 := hr.mono (j := 1) (by omega)
  have hu : A.units + 3 + 16 * 3 + 200 < cLine := hr.un
  exact PSs.nox (pss_cons (ps_set (i := 1) scL.nd rfl (.inl rfl) (pe_cal LF.start hr1 (by rfl) (pa_cons (pv 0) pa_nil)))
    (pss_cons (ps_set (i := 2) scL.nd rfl (.inl rfl) (pe_lst (pa_cons pe_non (pa_cons pe_int (pa_cons (pe_un un_neg pe_int) (pa_cons pe_bl (pa_cons pe_str (pa_cons pe_str (pa_cons (pe_lst (pa_cons pe_int (pa_cons pe_str pa_nil))) (pa_cons (pe_tup (pa_cons pe_int (pa_cons pe_non pa_nil))) (pa_cons (pe_disp (pps_cons pe_str pe_int pps_nil) rfl rfl (by decide) (by decide)) (pa_cons (pe_lst (pa_cons (pe_lst (pa_cons pe_str pa_nil)) pa_nil)) (pa_cons (pe_op op_pow pe_int pe_int) (pa_cons (pe_tup (pa_cons pe_str (pa_cons pe_int pa_nil))) (pa_cons pe_bl (pa_cons pe_int (pa_cons pe_int pa_nil)))))))))))))))))
    (pss_cons (ps_for PassesOwn.never rfl (pi_range1 (by rfl) LF.mR (pa_cons pe_int pa_nil)) (pg_name (i := 3) scL.nd rfl (.inl rfl)) (pss_cons (ps_asg (pe_slice sl_list (pe_cal LF.mixed hr2 (by rfl) (pa_cons (pv 1) (pa_cons (pv 2) pa_nil))) po_none (po_some pe_int)) (pg_unl rfl (pgs_cons (pg_name (i := 4) scL.nd rfl (.inl rfl)) (pgs_cons (pg_name (i := 5) scL.nd rfl (.inl rfl)) (pgs_cons (pg_name (i := 6) scL.nd rfl (.inl rfl)) pgs_nil))))) (pss_cons (ps_set (i := 7) scL.nd rfl (.inl rfl) (pe_op op_cat (pe_op op_cat (pe_cal LF.a hr (by rfl) (pa_cons (pv 4) (pa_cons (pv 5) (pa_cons (pv 6) pa_nil)))) (pe_cal LF.b hr (by rfl) (pa_cons (pv 4) (pa_cons (pv 5) (pa_cons (pv 6) pa_nil))))) (pe_cal LF.c hr (by rfl) (pa_cons (pv 4) (pa_cons (pv 5) (pa_cons (pv 6) pa_nil)))))) (pss_cons (ps_expr (pe_bm PySem.F.plainAttrs_list PySem.F.slot_list_extend PySem.F.type_list_extend mt_extend (pv 7) (pa_cons (pe_cal LF.d hr (by rfl) (pa_cons (pv 4) (pa_cons (pv 5) (pa_cons (pv 6) pa_nil)))) pa_nil))) (pss_one (ps_for PassesOwn.never rfl (pi_enum (by rfl) LF.mE (pa_cons (pv 7) pa_nil)) (pg_tup rfl (pgs_cons (pg_name (i := 8) scL.nd rfl (.inl rfl)) (pgs_cons (pg_tup rfl (pgs_cons (pg_name (i := 9) scL.nd rfl (.inl rfl)) (pgs_cons (pg_name (i := 10) scL.nd rfl (.inl rfl)) (pgs_cons (pg_name (i := 11) scL.nd rfl (.inl rfl)) (pgs_cons (pg_name (i := 12) scL.nd rfl (.inl rfl)) pgs_nil))))) pgs_nil))) (pss_cons (ps_if (PW.pt (pw_or (pt_not (pt_val (pe_cal LF.own hr (by rfl) (pa_cons (pv 9) (pa_cons (pv 8) pa_nil))))) (pw_or1 (pt_not (pt_val (pe_cal LF.own hr (by rfl) (pa_cons (pv 10) (pa_cons (pv 8) pa_nil)))))))) pss_never pss_nil) (pss_one (ps_if (PW.pt (pw_or (pt_not (pt_val (pe_calG LF.these hg hr1 (by rfl) (pa_cons (pe_callLam (i := 11) hr1 rfl (.inl rfl) (pa_cons (pv 9) pa_nil)) (pa_cons (pv 12) pa_nil))))) (pw_or1 (pt_not (pt_val (pe_calG LF.these hg hr1 (by rfl) (pa_cons (pe_callLam (i := 11) hr1 rfl (.inl rfl) (pa_cons (pv 10) pa_nil)) (pa_cons (pv 12) pa_nil)))))))) pss_never pss_nil)))))))))
    (pss_cons (ps_set (i := 13) scL.nd rfl (.inl rfl) (pe_lst (pa_cons pe_str pa_nil))) (pss_cons (ps_set (i := 7) scL.nd rfl (.inl rfl) (pe_op op_cat (pe_op op_cat (pe_cal LF.a hr (by rfl) (pa_cons (pv 13) (pa_cons (pv 13) (pa_cons (pv 13) pa_nil)))) (pe_cal LF.b hr (by rfl) (pa_cons (pv 13) (pa_cons (pv 13) (pa_cons (pv 13) pa_nil))))) (pe_cal LF.c hr (by rfl) (pa_cons (pv 13) (pa_cons (pv 13) (pa_cons (pv 13) pa_nil)))))) (pss_cons (ps_expr (pe_bm PySem.F.plainAttrs_list PySem.F.slot_list_extend PySem.F.type_list_extend mt_extend (pv 7) (pa_cons (pe_cal LF.d hr (by rfl) (pa_cons (pv 13) (pa_cons (pv 13) (pa_cons (pv 13) pa_nil)))) pa_nil))) (pss_cons (ps_expr (pe_bm PySem.F.plainAttrs_list PySem.F.slot_list_append PySem.F.type_list_append mt_append (pv 13) (pa_cons pe_str pa_nil))) (pss_cons (ps_for PassesOwn.never rfl (pi_list (pv 7)) (pg_tup rfl (pgs_cons (pg_name (i := 9) scL.nd rfl (.inl rfl)) (pgs_cons (pg_name (i := 10) scL.nd rfl (.inl rfl)) (pgs_cons (pg_name (i := 11) scL.nd rfl (.inl rfl)) (pgs_cons (pg_name (i := 12) scL.nd rfl (.inl rfl)) pgs_nil))))) (pss_one (ps_if (PW.pt (pw_or (pt_not (pt_val (pe_calG LF.these hg hr1 (by rfl) (pa_cons (pe_callLam (i := 11) hr1 rfl (.inl rfl) (pa_cons (pv 9) pa_nil)) (pa_cons (pv 12) pa_nil))))) (pw_or1 (pt_not (pt_val (pe_calG LF.these hg hr1 (by rfl) (pa_cons (pe_callLam (i := 11) hr1 rfl (.inl rfl) (pa_cons (pv 10) pa_nil)) (pa_cons (pv 12) pa_nil)))))))) pss_never pss_nil))) (pss_cons (ps_set (i := 14) scL.nd rfl (.inl rfl) (pe_mk0 LF.bck (by rfl) LF.mgS)) (pss_one (ps_ret (pe_and (pe_callB call_isO (by rfl) LF.mI PyProof.Rows.boot_isinstance (pa_cons (pv 14) (pa_cons (pe_bltn (by rfl) LF.mV boot_VE rfl) pa_nil)))
    (pe_one (pe_cmpR (op_notInD (by show A.units + 3 + 65 < _; omega)) pe_bl (pe_cal LF.kinds hr2 (by rfl) (pa_cons (pv 14) pa_nil)) (by with_unfolding_all rfl)))))))))))))))
end
end K00

set_option Elab.async false
set_option linter.all false
set_option maxRecDepth 100000
set_option maxHeartbeats 400000
/-! The law's promise. -/
namespace K00
open PySem PySem.Spec PyProof.Rows
open L2 LamX
def spLaw (K : PySem.W.Frag) : Sp := fun vs H Q _ => ∃ (a : Addr) (ns : List Int), vs = [.ref a] ∧ SqL K H a (ns.map V.int) ∧ Tabs (tabT K) H ∧ ∀ G, Q (.bl true) G
theorem Stm.extN {H G : Hp} {p q : Addr} {L : List Int} {a n t : Int} (S : Stm H p q L a n t) (k : ExtN H G) : Stm G p q L a n t := ⟨k _ _ S.hp (fun ps e => nomatch e), k _ _ S.hq (fun ps e => nomatch e), S.ne, S.a0, S.n0, S.t0, S.t1⟩
theorem SMA.mem {M : List Addr} {H : Hp} {v : V} : ∀ {vs : List V} {ds : List PyData}, SMA M H vs ds → v ∈ vs → ∃ d ∈ ds, SM M H v d
  | _, _, .nil, h => nomatch h
  | _, _, .cons (b := d) q t, h => by
    rcases List.mem_cons.mp h with e | h
    · rw [e]
      exact ⟨d, List.mem_cons_self .., q⟩
    · obtain ⟨d', h1, h2⟩ := SMA.mem t h
      exact ⟨d', List.mem_cons_of_mem _ h1, h2⟩
theorem show3 {a b c : PyData} (ha : a ∈ menuD) (hb : b ∈ menuD) (hc : c ∈ menuD) : ∀ k, k ≤ 3 → ShowOk ([a, b, c].take k) := fun k hk => by
  match k, hk with
  | 0, _ => exact okB_ok menu0
  | 1, _ => exact okB_ok (List.all_eq_true.mp menu1 a ha)
  | 2, _ => exact okB_ok (List.all_eq_true.mp (List.all_eq_true.mp menu2 a ha) b hb)
  | 3, _ => exact okB_ok (List.all_eq_true.mp (List.all_eq_true.mp (List.all_eq_true.mp menu3 a ha) b hb) c hc)
theorem live_lst {H : Hp} {p : Addr} {xs : List V} (h : H p = some (.lst xs)) : ∃ o, H p = some o ∧ ∀ ps, o ≠ .tbl ps := ⟨_, h, fun ps e => nomatch e⟩
theorem menu_seq {D : Ends} {u : TS} {σ : L2.St} {H : Hp} {M : List Addr} (hM : ∀ b ∈ M, H b ≠ none) (k : ∀ (m : Addr) (G : Hp) (mv : List V), H m = none → Ext H G → G m = some (.lst mv) → SMA M G mv menuD → u D (σ.set 2 (some (.ref m))) G) :
    tSeq (tAsg tMenu (gName 2)) u D σ H := by
  unfold tSeq tAsg
  exact menu_ok hM k
theorem cut3 {x y z : V} {r : List V} : cutV (x :: y :: z :: r) none (some 3) = [x, y, z] := by
  unfold cutV
  have h : HT.sIx (x :: y :: z :: r).length (x :: y :: z :: r).length (some 3) = 3 := by
    have := HT.sIx_nat (x :: y :: z :: r).length (x :: y :: z :: r).length 3
    rw [show (some 3 : Option Int) = some ((3 : Nat) : Int) from rfl, this]
    exact Nat.min_eq_left (by simp)
  rw [h, HT.sIx_none]
  rfl
section
variable {P : Program} {w : World} {K : PySem.W.Frag} {mg : Str → Option Value} {base : Heap}
/-- one turn of the outer loop -/
theorem turn_law {D : Ends} {σ : L2.St} {H : Hp} {p q m : Addr} {L : List Int} {a n t : Int} {mv : List V} (CF : ClsF K) (hl : 12 < σ.length) (s1 : σ[1]? = some (some (.ref p))) (s2 : σ[2]? = some (some (.ref m))) (S : Stm H p q L a n t) (hn : n ≤ 1000)
    (hm : H m = some (.lst mv)) (mp : m ≠ p) (mq : m ≠ q) (sm : SMA [p, q] H mv menuD) (hT : Tabs (tabT K) H)
    (kont : ∀ (σ' : L2.St) (G : Hp) (L' : List Int) (a' t' : Int), σ'.length = σ.length → σ'[1]? = some (some (.ref p)) → σ'[2]? = some (some (.ref m)) → Stm G p q L' a' (n + 15) t' → G m = some (.lst mv) → SMA [p, q] G mv menuD → Tabs (tabT K) G → D.nx σ' G) :
    tTurn P w K mg base D σ H := by
  have l15 : mv.length = 15 := sm.len
  refine ⟨_, s1, _, s2, p, q, L, a, n, t, m, mv, rfl, S, by omega, by omega, SqL.of hm, fun r G L' a' t' ys gr nr ly my S' B => ?_⟩
  have sG := sm.gr (gr_but B S.hp S.hq (by simp) (by simp))
  have hmG : G m = some (.lst mv) := B m _ mp mq hm
  have TG := tabs_but hT B S.hp S.hq
  obtain ⟨x, y, z, yr, rfl⟩ : ∃ x y z yr, ys = x :: y :: z :: yr := by
    match ys, ly with
    | x :: y :: z :: yr, _ => exact ⟨x, y, z, yr, rfl⟩
    | [], h => simp [l15] at h
    | [_], h => simp [l15] at h
    | [_, _], h => simp [l15] at h
  refine ⟨3, rfl, r, _, rfl, SqL.of gr, fun l nl => ?_⟩
  have xl := Ext.new (o := .lst (cutV (x :: y :: z :: yr) none (some 3))) nl
  refine ⟨l, [x, y, z], rfl, SqL.of (by rw [upd_same, cut3]), rfl, _, _, rfl, _, _, rfl, _, _, rfl, rfl, ?_⟩
  obtain ⟨dx, mx, fx⟩ := sG.mem (my x (by simp))
  obtain ⟨dy, my', fy⟩ := sG.mem (my y (by simp))
  obtain ⟨dz, mz, fz⟩ := sG.mem (my z (by simp))
  have l15' : (mv.length : Int) = 15 := by rw [l15]; rfl
  rw [l15'] at S'
  have lσ : (((σ.set 4 (some x)).set 5 (some y)).set 6 (some z)).length = σ.length := by simp
  refine made_all (M := [p, q]) (x := x) (y := y) (z := z) ?_ ?_ ?_ (by decide) (by decide) (by decide) (by rw [lσ]; omega) (TG.ext xl) ?_ fun p7 G7 L7 x7 T7 g7 l7 E7 => ?_
  · rw [set_get (by decide), set_get (by decide)]
    exact List.getElem?_set_self (by omega)
  · rw [set_get (by decide)]
    exact List.getElem?_set_self (by simp; omega)
  · exact List.getElem?_set_self (by simp; omega)
  · intro b hb
    rcases List.mem_cons.mp hb with e | hb
    · exact live_lst (xl _ _ (by rw [e]; exact S'.hp))
    · exact live_lst (xl _ _ (by rw [List.mem_singleton.mp hb]; exact S'.hq))
  have lσ7 : ((((σ.set 4 (some x)).set 5 (some y)).set 6 (some z)).set 7 (some (.ref p7))).length = σ.length := by simp
  have xx := (ExtN.of xl).trans x7
  have sm3 : SMA [p, q] G7 [x, y, z] [dx, dy, dz] := SMA.gr (GrM.of xx) (.cons fx (.cons fy (.cons fz .nil)))
  refine loop1_ok (by rw [lσ7]; exact hl) CF (List.getElem?_set_self (by rw [lσ]; omega)) g7 l7 E7 sm3 rfl (show3 mx my' mz) fun σ' G8 x8 l8 k8 => ?_
  have xa := xx.trans (ExtN.of x8)
  refine kont σ' G8 L' a' t' (by rw [l8, lσ7]) ?_ ?_ (S'.extN xa) (xa _ _ hmG fun ps e => nomatch e) (sG.gr (GrM.of xa)) (T7.ext x8)
  · rw [k8 1 (by decide), set_get (by decide), set_get (by decide), set_get (by decide), set_get (by decide)]
    exact s1
  · rw [k8 2 (by decide), set_get (by decide), set_get (by decide), set_get (by decide), set_get (by decide)]
    exact s2
theorem heldOk : ∀ k, k ≤ 3 → ShowOk (([.list [.str "v", .str "w"], .list [.str "v", .str "w"], .list [.str "v", .str "w"]] : List PyData).take k) := fun k hk => by
  match k, hk with
  | 0, _ => exact okB_ok (by decide +kernel)
  | 1, _ => exact okB_ok (by decide +kernel)
  | 2, _ => exact okB_ok (by decide +kernel)
  | 3, _ => exact okB_ok (by decide +kernel)
theorem base_any : (!((List.replicate 61 false).map PyData.bool).any fun z => PyData.eqv z (.bool true)) = true := by decide +kernel
theorem base_shaped : SeqAt.shaped (.list ((List.replicate 61 false).map PyData.bool)) = true := by decide +kernel
/-- behind the loop -/
theorem held_law {Q : VK} {nx : L2.St → Hp → Prop} {σ : L2.St} {H : Hp} (LF : LawF P w K mg base) (hl : σ.length = 15) (hT : Tabs (tabT K) H) (q : ∀ G, Q (.bl true) G) : tHeld P w K mg base { nx := nx, rt := Q } σ H := by
  refine ⟨z1, fun h nh => ?_⟩
  have xh := Ext.new (o := .lst [.str "v"]) nh
  have s13 : (σ.set 13 (some (.ref h)))[13]? = some (some (.ref h)) := List.getElem?_set_self (by omega)
  refine made_all (M := [h]) (x := .ref h) (y := .ref h) (z := .ref h) s13 s13 s13 (by decide) (by decide) (by decide) (by simp; omega) (hT.ext xh) ?_ fun p7 G7 L7 x7 T7 g7 l7 E7 => ?_
  · intro b hb
    exact ⟨.lst [.str "v"], by rw [List.mem_singleton.mp hb, upd_same], fun ps e => nomatch e⟩
  have gh : G7 h = some (.lst [.str "v"]) := x7 _ _ upd_same fun ps e => nomatch e
  have s13' : ((σ.set 13 (some (.ref h))).set 7 (some (.ref p7)))[13]? = some (some (.ref h)) := by rw [set_get (by decide)]; exact s13
  refine ⟨_, s13', .inl ⟨rfl, _, SqL.of gh⟩, h, [.str "v"], .str "w", rfl, rfl, gh, by rw [sizeLine_eq]; decide, ?_⟩
  have ne : p7 ≠ h := fun e => by
    rw [e, gh] at g7
    cases g7
    cases l7
  have gg : GrM (p7 :: [h]) G7 (upd G7 h (.lst [.str "v", .str "w"])) := GrM.put gh (by simp)
  have dm : SM [] (upd G7 h (.lst [.str "v", .str "w"])) (.ref h) (.list [.str "v", .str "w"]) := .inl ⟨.lst upd_same (by simp) (.cons (.str _) (.cons (.str _) .nil)), by decide +kernel⟩
  refine loop2_ok (M := []) (ds := [.list [.str "v", .str "w"], .list [.str "v", .str "w"], .list [.str "v", .str "w"]]) (by simp; omega) LF.cf (List.getElem?_set_self (by simp; omega)) (by rw [upd_ne ne]; exact g7) l7 (E7.gr gg) (.cons dm (.cons dm (.cons dm .nil))) rfl heldOk fun σ' G8 x8 l8 k8 => ?_
  have l8' : σ'.length = 15 := by rw [l8]; simp [hl]
  refine fun e G9 ne9 x9 ea => ?_
  have s14 : (σ'.set 14 (some (.ref e)))[14]? = some (some (.ref e)) := List.getElem?_set_self (by omega)
  refine ⟨_, s14, e, _, _, _, _, _, rfl, ea, LF.bexc, ClsV.ty _, LF.bve, _, rfl, ?_⟩
  refine iteT ⟨_, s14, e, _, _, rfl, ea, LF.bexc, LF.bkin, fun pk Gk nk xk gk => ?_⟩
  rw [LF.brow] at gk
  refine ⟨.bool true, _, .bl true, .lst (SqL.of gk) (dp_bools _), by decide +kernel, base_shaped, ?_⟩
  rw [base_any]
  exact q Gk
theorem ok_law (LF : LawF P w K mg base) {f : Addr} {fd : FuncData} (F : FnP K "law" slaw f fd) : FnG P w K mg base 4 f fd ["_law_script"] (spLaw K) := by
  refine FnG.of F scL (fun vs H Q E h => ?_) (fun cd A outer s H vs Q hg hr h => ⟨_, law_walks LF hg hr, ?_⟩)
  · obtain ⟨a, ns, rfl, _⟩ := h
    rfl
  · obtain ⟨a, ns, rfl, hS, hT, q⟩ := h
    refine ⟨_, rfl, a, ns, rfl, hS, fun p q0 G1 np nq x1 S => ?_⟩
    refine menu_seq (M := [p, q0]) ?_ fun m G2 mv nm x2 gm sm => ?_
    · intro b hb
      rcases List.mem_cons.mp hb with e | hb
      · rw [e, S.hp]
        exact Option.some_ne_none _
      · rw [List.mem_singleton.mp hb, S.hq]
        exact Option.some_ne_none _
    have mp : m ≠ p := fun e => by
      rw [e, S.hp] at nm
      cases nm
    have mq : m ≠ q0 := fun e => by
      rw [e, S.hq] at nm
      cases nm
    refine ⟨_, rfl, by omega, by omega, ?_⟩
    refine for_it (walk_range (lo := 0) (n := 2)) (fun i σ' G => σ'.length = 15 ∧ σ'[1]? = some (some (.ref p)) ∧ σ'[2]? = some (some (.ref m)) ∧ (∃ L a t, Stm G p q0 L a (15 * (i : Int)) t) ∧ G m = some (.lst mv) ∧ SMA [p, q0] G mv menuD ∧ Tabs (tabT K) G)
      ⟨rfl, rfl, rfl, ⟨_, _, _, S.ext x2⟩, gm, sm, (hT.ext x1).ext x2⟩ (fun _ _ _ _ _ => True.intro) ?_ ?_
    · rintro i x σ' G G' hi ⟨l', s1, s2, ⟨L, a', t', S'⟩, gm', sm', T'⟩ ⟨rfl, rfl⟩
      refine turn_law LF.cf (by rw [List.length_set, l']; decide) (by rw [set_get (by decide)]; exact s1) (by rw [set_get (by decide)]; exact s2) S' (by omega) gm' mp mq sm' T' fun σ2 G2 L2 a2 t2 l2 h1 h2 S2 g2 sm2 T2 => ?_
      refine ⟨by rw [l2, List.length_set, l'], h1, h2, ⟨L2, a2, t2, ?_⟩, g2, sm2, T2⟩
      have e : 15 * ((i + 1 : Nat) : Int) = 15 * (i : Int) + 15 := by omega
      rw [e]
      exact S2
    · rintro σ' G ⟨l', s1, s2, _, gm', sm', T'⟩
      exact held_law LF l' T' q
end
end K00

set_option Elab.async false
set_option linter.all false
set_option maxRecDepth 100000
set_option maxHeartbeats 4000000
/-! The law's call from the head's heap, where no guard stands. -/
namespace K00
open PySem PySem.Spec PyProof.Rows
open L2 LamX
/-- what is tracked at first: the tables of T, the script at a -/
def H00 (K : PySem.W.Frag) (a : Addr) (T : List Addr) (u : HO) : Hp := fun b => if b ∈ T then some (.tbl #[]) else if b = a ∧ K.lookup a = none then some u else none
section
variable {K : PySem.W.Frag} {a : Addr} {T : List Addr} {u : HO}
theorem h00_tab {b : Addr} (h : b ∈ T) : H00 K a T u b = some (.tbl #[]) := if_pos h
theorem h00_a (n : a ∉ T) (k : K.lookup a = none) : H00 K a T u a = some u := (if_neg n).trans (if_pos ⟨rfl, k⟩)
theorem h00_some {b : Addr} {o : HO} (h : H00 K a T u b = some o) : (b ∈ T ∧ o = .tbl #[]) ∨ (b = a ∧ K.lookup a = none ∧ o = u) := by
  unfold H00 at h
  by_cases c : b ∈ T
  · rw [if_pos c] at h
    exact .inl ⟨c, (Option.some.inj h).symm⟩
  · rw [if_neg c] at h
    by_cases c2 : b = a ∧ K.lookup a = none
    · rw [if_pos c2] at h
      exact .inr ⟨c2.1, c2.2, (Option.some.inj h).symm⟩
    · rw [if_neg c2] at h
      cases h
theorem h00_none {b : Addr} (h1 : b ∉ T) (h2 : b = a → K.lookup a ≠ none) : H00 K a T u b = none := by
  unfold H00
  rw [if_neg h1]
  exact if_neg fun z => h2 z.1 z.2
end
abbrev tabObj : Obj := { cls := .none, data := .fields #[] }
theorem law_callG {P : Program} {w : World} {K : PySem.W.Frag} {mg mb : Str → Option Value} {k : Nat} {fa a : Addr} {cs : List (Addr × Addr)} {fd : FuncData} {x : Str} {sp : Sp} {s : Shared} {vs : List Value} {ns : List Int}
    (KX : K.In s.heap) (hns : s.heap.Ns mainGlobals mg) (hb : s.heap.Ns builtinsNs mb) (hbb : ∀ x : Str, x ≠ "__name__" → mb x = bootBuiltins x) (hlim : s.heap.NoLimit) (hg : s.gens = #[])
    (hT : ∀ p ∈ cs, s.heap.get? p.2 = some tabObj) (nT : ∀ p ∈ cs, K.lookup p.2 = none) (C : ∀ p ∈ cs, PySem.W.CodeHd s.heap p.1 p.2)
    (hbm : ∃ (bm : Addr) (ob : Obj), mg "__builtins__" = some (.ref bm) ∧ bm ≠ builtinsNs ∧ s.heap.get? bm = some ob ∧ ob.cls = .type "module" ∧ ob.dict = some builtinsNs ∧ ob.data = .plain)
    (ha : s.heap.get? a = some { cls := .type "list", data := .seq vs.toArray }) (hi : IntsAre vs ns) (hl : ns.length ≤ sizeLine) (hr : Room k callerA)
    (F : ∀ base : Heap, K.In base → base.Ns mainGlobals mg → (∀ p ∈ cs, TabB base mg p.1 p.2) → FnG P w K mg base k fa fd [x] sp) (hbind : ∀ (s : Shared) (u : Value), BindsTo s fd ⟨[u], []⟩ [(x, u)])
    (hsp : ∀ H : Hp, (∀ p ∈ cs, H p.2 = some (.tbl #[])) → SqL K H a (ns.map V.int) → sp [.ref a] H (fun v _ => v = .bl true) E0) :
    codeAny (model P w) callerA (.call (.ref fa) ⟨[.ref a], []⟩) (fun r s' => r = .ok (.ret (.bool true)) ∧ OldK s.heap s'.heap ∧ s'.os = s.os ∧ AllBare s'.gens) s := by
  have rv := vals_ints hi
  let T := cs.map (·.2)
  let u : HO := .frz { cls := .type "list", data := .seq vs.toArray } (.lst (ns.map V.int))
  let H := H00 K a T u
  have tabAt : ∀ b ∈ T, s.heap.get? b = some tabObj := fun b hb => by
    obtain ⟨p, hp, e⟩ := List.mem_map.mp hb
    rw [← e]
    exact hT p hp
  have aT : a ∉ T := fun z => by
    have q := (tabAt a z).symm.trans ha
    cases q
  -- what is neither a list nor a table is not tracked
  have free : ∀ {b : Addr} {o : Obj}, s.heap.get? b = some o → (∀ its n, o.data ≠ .seq its n) → o.data ≠ .fields #[] → H b = none := fun {b o} e n1 n2 => h00_none (fun z => by
    rw [tabAt b z] at e
    exact n2 (by rw [← Option.some.inj e])) fun z => by
    rw [z, ha] at e
    exact (n1 _ _ (by rw [← Option.some.inj e])).elim
  have hok : HOk P w H s.heap := fun b o e => by
    rcases h00_some e with ⟨z, rfl⟩ | ⟨rfl, _, rfl⟩
    · exact tabAt b z
    · exact ⟨ha, by rw [List.length_map]; exact hl, vs, _, rv, ha⟩
  have hS : SqL K H a (ns.map V.int) := by
    cases q : K.lookup a with
    | none => exact .inl (.inr ⟨_, h00_a aT q⟩)
    | some o =>
      have e := (KX a o q).symm.trans ha
      rw [Option.some.inj e] at q
      exact .inr ⟨_, vs.toArray, _, q, rfl, rfl, rfl, by rw [List.size_toArray, hi.length]; exact hl, by simpa using rv⟩
  have up : ∀ {b : Addr} {o : Obj}, s.heap.get? b = some o → H b = none → (hidT s.heap H).get? b = some o := fun e n => hidT_get e n
  have ups : ∀ {b : Addr} {m : Str → Option Value}, s.heap.Ns b m → (hidT s.heap H).Ns b m := fun {b m} ⟨o, es, ep, e, d, r⟩ =>
    ⟨o, es, ep, up e (free e (fun _ _ z => by rw [d] at z; cases z) fun z => by rw [d] at z; cases z), d, r⟩
  have kin : K.In (hidT s.heap H) := fun b o e => up (KX b o e) (h00_none (fun z => by
    obtain ⟨p, hp, ep⟩ := List.mem_map.mp z
    rw [← ep, nT p hp] at e
    cases e) fun z => by
    rw [← z, e]
    exact Option.some_ne_none _)
  have md : L2.Mod K mg (hidT s.heap H) := ⟨kin, ups hns, ⟨mb, ups hb, hbb⟩, let ⟨mc, h1, h2⟩ := hlim; ⟨mc, ups h1, h2⟩⟩
  have TB : ∀ p ∈ cs, TabB (hidT s.heap H) mg p.1 p.2 := fun p hp => by
    refine ⟨?_, ?_, fun z => ?_⟩
    · obtain ⟨o, us, file, tf, flags, tg, inF, text, tt, e1, r1, r2, r3, r⟩ := C p hp
      refine ⟨o, us, file, tf, flags, tg, inF, text, tt, up e1 (free e1 (fun _ _ z => by rw [r2] at z; cases z) fun z => ?_), r1, r2, r3, r⟩
      rw [r2] at z
      cases z
      cases r3
    · obtain ⟨bm, ob, b1, b2, b3, b4, b5, b6⟩ := hbm
      refine ⟨bm, ob, b1, b2, fun q => ?_, fun q => ?_, up b3 (free b3 (fun _ _ z => by rw [b6] at z; cases z) fun z => by rw [b6] at z; cases z), b4, b5, b6⟩
      · obtain ⟨o, es, ep, e, d, _⟩ := hns
        rw [q, e] at b3
        cases b3
        rw [d] at b6
        cases b6
      · rw [q, hT p hp] at b3
        cases b3
        cases b6
    · obtain ⟨o, es, ep, e, d, _⟩ := hns
      rw [z, hT p hp] at e
      cases e
      cases d
  have e0 : Env0 P w K mg (hidT s.heap H) callerA [] s H := ⟨rfl, md, fun b o e => of_hidT e, Nat.le_of_eq (hidT_size _ _), trivial, (fun b hb => nomatch (show b ∈ ([] : List Addr) from hb)), hok, .of_eq hg⟩
  refine codeAny_mono ((F _ kin (ups hns) TB).run callerA [] s H ⟨[.ref a], []⟩ [.ref a] [.ref a] _ rfl hr e0 (hbind s (.ref a)) (.cons rfl .nil) (hsp H (fun p hp => h00_tab (List.mem_map.mpr ⟨p, hp, rfl⟩)) hS)) fun r s' h => ?_
  match r, h with
  | .error _, h => exact (show False from h).elim
  | .ok (.ret v), ⟨x, H', os, bare, un, hok', rx, q⟩ =>
    obtain rfl : x = .bl true := q
    obtain rfl : v = Value.bool true := rx
    have more : ∀ p ∈ cs, ∃ m : Array Value, s'.heap.get? p.2 = some { cls := .none, data := .fields m } := fun p hp => by
      obtain ⟨m, z⟩ := un.tbls p.2 #[] (h00_tab (List.mem_map.mpr ⟨p, hp, rfl⟩))
      exact ⟨_, hok' p.2 _ z⟩
    have stay : ∀ b o, b ∉ T → s.heap.get? b = some o → s'.heap.get? b = some o := fun b o nb e => by
      cases q : H b with
      | none => exact un.keep b o e q (fun z => nomatch (show b ∈ ([] : List Addr) from z)) (by simp)
      | some y =>
        rcases h00_some q with ⟨z, _⟩ | ⟨z, _, z2⟩
        · exact (nb z).elim
        · rw [z2] at q
          obtain ⟨f1, _⟩ := hok b _ q
          obtain ⟨f2, _⟩ := hok' b _ (un.frzs b _ _ q)
          rw [← Option.some.inj (f1.symm.trans e)]
          exact f2
    refine ⟨rfl, ⟨fun b o e => ?_, fun b o e => ?_⟩, os, bare⟩
    · by_cases hb : b ∈ T
      · obtain ⟨p, hp, rfl⟩ := List.mem_map.mp hb
        obtain ⟨m, hm⟩ := more p hp
        obtain rfl := Option.some.inj ((hT p hp).symm.trans e)
        exact .inr (.inl ⟨((C p hp).tab (hT p hp)).isCodeTable, rfl, #[], m, rfl, by rw [Array.empty_append]; exact hm⟩)
      · exact .inl (stay b o hb e)
    · by_cases hb : b ∈ T
      · obtain ⟨p, hp, rfl⟩ := List.mem_map.mp hb
        obtain ⟨m, hm⟩ := more p hp
        exact ⟨_, hm⟩
      · exact ⟨o, stay b o hb e⟩
end K00

set_option Elab.async false
set_option linter.all false
set_option maxRecDepth 100000
set_option maxHeartbeats 4000000
/-! The head's facts put together; all that the law calls, from them. -/
namespace K00
open PySem PySem.Spec PyProof.Rows
open L2 LamX
abbrev AlK : Type := (Bool × Bool × Bool) × (He.AlD × He.AlD × He.AlD)
abbrev fnI0 : List He.DefD := ini0.map fun p => dI p.1 p.2
abbrev fnI1 : List He.DefD := ini1.map fun p => dI p.1 p.2
def obB (g : Addr → Option Obj) : Bool := ((faN.all fun f => f.ok (fK g)) && faB.all fun f => f.ok (fK g)) && ((exS (fK g) && exN (fK g)) && ((exP (fK g) && exM (fK g)) && He.tabsB g tf (fK g)))
def obW (fn : List He.DefD) (g : Addr → Option Obj) : He.AlD := (fn.all fun d => d.ok (fK g), fn.map fun d => He.fnW (fK g) d.at_)
def obK (g : Addr → Option Obj) : AlK := ((obB g, cnms0.all (exC (fK g)), cnms1.all (exC (fK g))), (obW fnD g, obW fnI0 g, obW fnI1 g))
def valK : AlK := ((true, true, true), ((true, fnD.map He.DefD.val), (true, fnI0.map He.DefD.val), (true, fnI1.map He.DefD.val)))
/-- what is known of K at the head's heap -/
structure SaysK (h : Heap) (K : PySem.W.Frag) : Prop where
  n : ∀ f ∈ faN, f.ok K = true
  b : ∀ f ∈ faB, f.ok K = true
  e : ExF K
  p : exP K = true
  m : exM K = true
  d : He.SaysD [] fnD K
  i0 : He.SaysD [] fnI0 K
  i1 : He.SaysD [] fnI1 K
  hd : ∀ p ∈ tf, PySem.W.codeHdIn K (He.cT K p).1 (He.cT K p).2 = true
  out : ∀ p ∈ tf, K.lookup (He.cT K p).2 = none
  empty : ∀ p ∈ tf, h.get? (He.cT K p).2 = some tabObj
theorem saysK_of {h : Heap} (q : obK h.get? = valK) : SaysK h (fK h.get?) := by
  have q1 : obB h.get? = true := congrArg (fun z : AlK => z.1.1) q
  have q2 : cnms0.all (exC (fK h.get?)) = true := congrArg (fun z : AlK => z.1.2.1) q
  have q3 : cnms1.all (exC (fK h.get?)) = true := congrArg (fun z : AlK => z.1.2.2) q
  have q4 : obW fnD h.get? = (true, fnD.map He.DefD.val) := congrArg (fun z : AlK => z.2.1) q
  have q5 : obW fnI0 h.get? = (true, fnI0.map He.DefD.val) := congrArg (fun z : AlK => z.2.2.1) q
  have q6 : obW fnI1 h.get? = (true, fnI1.map He.DefD.val) := congrArg (fun z : AlK => z.2.2.2) q
  unfold obB at q1
  obtain ⟨a1, a2⟩ := Bool.and_eq_true_iff.mp q1
  obtain ⟨n, b⟩ := Bool.and_eq_true_iff.mp a1
  obtain ⟨e, a3⟩ := Bool.and_eq_true_iff.mp a2
  obtain ⟨pm, t⟩ := Bool.and_eq_true_iff.mp a3
  obtain ⟨p, m⟩ := Bool.and_eq_true_iff.mp pm
  have key : ∀ p ∈ tf, PySem.W.codeHdIn (fK h.get?) (He.cT (fK h.get?) p).1 (He.cT (fK h.get?) p).2 = true ∧ ∃ o, h.get? (He.cT (fK h.get?) p).2 = some o ∧ He.emptyTab o = true := fun p hp => by
    obtain ⟨h3, h4⟩ := Bool.and_eq_true_iff.mp (List.all_eq_true.mp t p hp)
    refine ⟨h3, ?_⟩
    cases q : h.get? (He.cT (fK h.get?) p).2 with
    | none =>
      rw [q] at h4
      cases h4
    | some o =>
      rw [q] at h4
      exact ⟨o, rfl, h4⟩
  exact ⟨List.all_eq_true.mp n, List.all_eq_true.mp b, exF_of e q2 q3, p, m, q4, q5, q6, fun p hp => (key p hp).1, fun p hp => by
    obtain ⟨_, o, q, z⟩ := key p hp
    exact He.frT_none q z, fun p hp => by
    obtain ⟨_, o, q, z⟩ := key p hp
    rw [q, He.emptyTab_eq z]⟩
def hookK : PySem.W.Hook where
  α := AlK
  obs := fun s => obK s.heap.get?
  val := fun _ => valK
  says := fun _ h => ∃ K : PySem.W.Frag, K.In h ∧ SaysK h K
  of := fun _ _ e => ⟨_, He.frT_in, saysK_of e⟩
  keeps := fun _ _ _ ⟨K, hK, c⟩ k => ⟨K, PySem.W.Frag.In.keeps hK k, ⟨c.n, c.b, c.e, c.p, c.m, c.d, c.i0, c.i1, c.hd, c.out, fun p hp => k _ _ (c.empty p hp)⟩⟩
theorem obK_eq {g : Addr → Option Obj} {s : Shared} (h : ∀ a, g a = s.heap.get? a) : obK g = hookK.obs s := by
  have e : g = s.heap.get? := funext h
  rw [e] <;> rfl
theorem sysD_of {K : PySem.W.Frag} (h : exM K = true) : SysD K := by
  unfold exM at h
  cases q : K.lookup sysModules with
  | none =>
    rw [q] at h
    cases h
  | some o =>
    obtain ⟨c, d, dt, sl⟩ := o
    rw [q] at h
    cases c with
    | type c => exact ⟨⟨.type c, d, dt, sl⟩, q, congrArg Value.type (of_decide_eq_true h)⟩
    | _ => cases h
section
variable {P : Program} {w : World} {K : PySem.W.Frag} {mg : Str → Option Value} {h base : Heap}
theorem SaysK.fn (c : SaysK h K) {d : He.DefD} (hd : d ∈ fnD) : ∃ fd, FunD K d.name d.qual d.params d.body d.scope (d.dvs K) (d.kws K) (He.fAd K d.at_) fd := c.d.defs hd
theorem SaysK.ini (c : SaysK h K) : InitD K := fun d hd => by
  rw [show fnI = fnI0 ++ fnI1 from List.map_append] at hd
  exact (List.mem_append.mp hd).elim (fun z => c.i0.defs z) fun z => c.i1.defs z
theorem SaysK.glo (c : SaysK h K) (X : K.In base) (G : base.Ns mainGlobals mg) {x : Str} (hx : He.Fa.glo x ∈ faN) : mg x = some (.ref (He.ga K x)) := He.glo_ok X G (c.n _ hx)
theorem SaysK.free (c : SaysK h K) (X : K.In base) (G : base.Ns mainGlobals mg) {x : Str} (hx : He.Fa.free x ∈ faB) : mg x = none := He.free_ok X G (c.b _ hx)
theorem gloD {x : Str} (hx : x ∈ dnms) : He.Fa.glo x ∈ faN := List.mem_append_right _ (List.mem_map.mpr ⟨x, hx, rfl⟩)
theorem gloC {p : Str × List Str} (hp : p ∈ cnms) : He.Fa.glo p.1 ∈ faN := List.mem_append_left _ (List.mem_map.mpr ⟨p.1, List.mem_cons_of_mem _ (List.mem_map.mpr ⟨p, hp, rfl⟩), rfl⟩)
theorem gloS : He.Fa.glo "ShowError" ∈ faN := List.mem_append_left _ (List.mem_map.mpr ⟨"ShowError", List.mem_cons_self .., rfl⟩)
end
end K00

set_option Elab.async false
set_option linter.all false
set_option maxRecDepth 100000
set_option maxHeartbeats 4000000
/-! All that the law calls; the law's call. -/
namespace K00
open PySem PySem.Spec PyProof.Rows
open L2 LamX
section
variable {P : Program} {w : World} {K : PySem.W.Frag} {mg : Str → Option Value} {h base : Heap}
theorem SaysK.fnP (c : SaysK h K) {x : Str} {st : Stmt} (i : Nat) (hi : fnD[i]? = some ⟨(x, none), x, x, defArgs st, defBody st, defScope st, [], []⟩) : ∃ fd, FnP K x st (He.ga K x) fd := c.fn (List.mem_of_getElem? hi)
theorem lawF_of (c : SaysK h K) (X : K.In base) (G : base.Ns mainGlobals mg) (TB : ∀ p ∈ tf.map (He.cT K), TabB base mg p.1 p.2) : LawF P w K mg base := by
  have E := c.e
  have c61 : Cls61 P w K mg base := cls61 E c.ini (fun p hp => c.glo X G (gloC hp))
  have t4 : Tab4 K mg base := ⟨fun p hp => TB _ (List.mem_map.mpr ⟨p, hp, rfl⟩), nodupB_ok c.p⟩
  have fr : ∀ x ∈ (["list", "int", "range", "len", "isinstance", "repr", "enumerate", "ValueError", "LookupError"] : List Str), mg x = none := fun x hx => c.free X G (List.mem_map.mpr ⟨x, hx, rfl⟩)
  have gl : ∀ x ∈ dnms, mg x = some (.ref (He.ga K x)) := fun x hx => c.glo X G (gloD hx)
  have mList : mg "list" = none := fr _ (by decide)
  have mInt : mg "int" = none := fr _ (by decide)
  have mR : mg "range" = none := fr _ (by decide)
  have mLen : mg "len" = none := fr _ (by decide)
  have mI : mg "isinstance" = none := fr _ (by decide)
  have mRp : mg "repr" = none := fr _ (by decide)
  have mE : mg "enumerate" = none := fr _ (by decide)
  have mV : mg "ValueError" = none := fr _ (by decide)
  have mLk : mg "LookupError" = none := fr _ (by decide)
  have mS : mg "ShowError" = some (.ref (He.ga K "ShowError")) := c.glo X G gloS
  obtain ⟨f0, F0⟩ := c.fnP (x := "_law_start") (st := s_law_start) 0 rfl
  obtain ⟨f1, F1⟩ := c.fnP (x := "_law_draw") (st := s_law_draw) 1 rfl
  obtain ⟨f2, F2⟩ := c.fnP (x := "_law_mixed") (st := s_law_mixed) 2 rfl
  obtain ⟨f3, F3⟩ := c.fnP (x := "_law_made_a") (st := s_law_made_a) 3 rfl
  obtain ⟨f4, F4⟩ := c.fnP (x := "_law_made_b") (st := s_law_made_b) 4 rfl
  obtain ⟨f5, F5⟩ := c.fnP (x := "_law_made_c") (st := s_law_made_c) 5 rfl
  obtain ⟨f6, F6⟩ := c.fnP (x := "_law_made_d") (st := s_law_made_d) 6 rfl
  obtain ⟨f7, F7⟩ := c.fnP (x := "_law_kinds_a") (st := s_law_kinds_a) 7 rfl
  obtain ⟨f8, F8⟩ := c.fnP (x := "_law_kinds_b") (st := s_law_kinds_b) 8 rfl
  obtain ⟨f9, F9⟩ := c.fnP (x := "_law_kinds_c") (st := s_law_kinds_c) 9 rfl
  obtain ⟨f10, F10⟩ := c.fnP (x := "_law_kinds_d") (st := s_law_kinds_d) 10 rfl
  obtain ⟨f11, F11⟩ := c.fnP (x := "_law_kinds") (st := s_law_kinds) 11 rfl
  obtain ⟨f12, F12⟩ := c.fnP (x := "_law_is_own") (st := s_law_is_own) 12 rfl
  obtain ⟨f13, F13⟩ := c.fnP (x := "_law_are_these") (st := s_law_are_these) 13 rfl
  have b0 : Binds K f0 ["_law_script"] [] := F0.bindsN fun kV doc pm an cdv ct us hl => match us, hl with | [_], _ => rfl
  have b1 : Binds K f1 ["_law_stream", "_law_many"] [] := F1.bindsN fun kV doc pm an cdv ct us hl => match us, hl with | [_, _], _ => rfl
  have b2 : Binds K f2 ["_law_stream", "_law_some"] [] := F2.bindsN fun kV doc pm an cdv ct us hl => match us, hl with | [_, _], _ => rfl
  have b3 : Binds K f3 ["_law_x", "_law_y", "_law_z"] [] := F3.bindsN fun kV doc pm an cdv ct us hl => match us, hl with | [_, _, _], _ => rfl
  have b4 : Binds K f4 ["_law_x", "_law_y", "_law_z"] [] := F4.bindsN fun kV doc pm an cdv ct us hl => match us, hl with | [_, _, _], _ => rfl
  have b5 : Binds K f5 ["_law_x", "_law_y", "_law_z"] [] := F5.bindsN fun kV doc pm an cdv ct us hl => match us, hl with | [_, _, _], _ => rfl
  have b6 : Binds K f6 ["_law_x", "_law_y", "_law_z"] [] := F6.bindsN fun kV doc pm an cdv ct us hl => match us, hl with | [_, _, _], _ => rfl
  have b7 : Binds K f7 ["_law_e"] [] := F7.bindsN fun kV doc pm an cdv ct us hl => match us, hl with | [_], _ => rfl
  have b8 : Binds K f8 ["_law_e"] [] := F8.bindsN fun kV doc pm an cdv ct us hl => match us, hl with | [_], _ => rfl
  have b9 : Binds K f9 ["_law_e"] [] := F9.bindsN fun kV doc pm an cdv ct us hl => match us, hl with | [_], _ => rfl
  have b10 : Binds K f10 ["_law_e"] [] := F10.bindsN fun kV doc pm an cdv ct us hl => match us, hl with | [_], _ => rfl
  have b11 : Binds K f11 ["_law_e"] [] := F11.bindsN fun kV doc pm an cdv ct us hl => match us, hl with | [_], _ => rfl
  have b12 : Binds K f12 ["_law_e", "_law_at"] [] := F12.bindsN fun kV doc pm an cdv ct us hl => match us, hl with | [_, _], _ => rfl
  have b13 : Binds K f13 nT [] := F13.bindsN fun kV doc pm an cdv ct us hl => match us, hl with | [_, _], _ => rfl
  have G1 := ok_draw (P := P) (w := w) (mg := mg) (base := base) F1 mInt
  have G7 := ok_kinds_a F7 c61 mI
  have G8 := ok_kinds_b F8 c61 mI
  have G9 := ok_kinds_c F9 c61 mI
  have G10 := ok_kinds_d F10 c61 mI
  have G11 := ok_kinds F11 G7 G8 G9 G10 b7 b8 b9 b10 F7.kp F8.kp F9.kp F10.kp (gl _ (by decide)) (gl _ (by decide)) (gl _ (by decide)) (gl _ (by decide))
  exact {
    cf := E.cf
    start := ⟨_, f0, ok_start F0 mList, b0, F0.kp, gl _ (by decide)⟩
    mixed := ⟨_, f2, ok_mixed F2 G1 b1 F1.kp (gl _ (by decide)) mList mR mLen, b2, F2.kp, gl _ (by decide)⟩
    a := ⟨_, f3, ok_made_a F3 c61 t4, b3, F3.kp, gl _ (by decide)⟩
    b := ⟨_, f4, ok_made_b F4 c61 t4, b4, F4.kp, gl _ (by decide)⟩
    c := ⟨_, f5, ok_made_c F5 c61 t4, b5, F5.kp, gl _ (by decide)⟩
    d := ⟨_, f6, ok_made_d F6 c61 t4, b6, F6.kp, gl _ (by decide)⟩
    own := ⟨_, f12, ok_own F12 G11 b11 F11.kp (gl _ (by decide)) mI mV mLk mR mS, b12, F12.kp, gl _ (by decide)⟩
    kinds := ⟨_, f11, G11, b11, F11.kp, gl _ (by decide)⟩
    these := ⟨_, f13, ok_these F13 (sysD_of c.m) mRp mLen, b13, F13.kp, gl _ (by decide)⟩
    bck := E.base0
    bexc := E.s.exc ve_tail
    bkin := E.kinS
    bve := E.bve
    brow := E.rowS
    mgS := mS
    mR := mR
    mE := mE
    mI := mI
    mV := mV }
end
theorem tri_nil : TriplesOk (#[] : Array Value).toList := by trivial
abbrev lw : PySem.W.OpenLaw := PySem.Challenge.rw_eithershown_k00_errors_made
abbrev dK := HandSHeadRun.topDef R.prog 78
theorem walkK : PySem.W.WalkO (PySem.W.view R.prog [78]) loose (PySem.W.XL (PySem.W.view R.prog [78]) []) hookK.says lw.row.toRowW dK [] (fun f vs => PySem.call f vs) := by
  refine Att.attach_callB (n := 63) rfl rfl fun w s₀ s₁ mg mb fa o pm cd doc a vs ns G Y ho hd hcd hmg hobj hints hlen hbits hg => ?_
  obtain ⟨K, KX, c⟩ := Y
  obtain ⟨fd, F⟩ := c.fnP (x := "law") (st := slaw) 14 rfl
  have e : fa = He.ga K "law" := by
    have q := (c.glo KX G.T.g (gloD (x := "law") (by decide))).symm.trans hmg
    exact (Value.ref.inj (Option.some.inj q)).symm
  subst e
  have tl : ∀ p ∈ tf.map (He.cT K), ∃ q ∈ tf, He.cT K q = p := fun p hp => List.mem_map.mp hp
  refine law_callG (cs := tf.map (He.cT K)) (k := 4) (x := "_law_script") (sp := spLaw K) (fd := fd) KX G.T.g G.T.b G.T.builtins G.T.nolimit hg (fun p hp => ?_) (fun p hp => ?_) (fun p hp => ?_) G.T.bmain hobj hints (Nat.le_trans hlen (by rw [sizeLine_eq]; decide)) ?_ (fun base KB GB TB => ok_law (lawF_of c KB GB TB) F) (fun s u => F.bindsA (ps := ["_law_script"]) (fun kV doc pm an cdv ct us hl => match us, hl with | [_], _ => rfl) s [u] rfl) (fun H hT hS => ⟨a, ns, rfl, hS, ?_, fun _ => rfl⟩)
  · obtain ⟨q, hq, rfl⟩ := tl p hp
    exact c.empty q hq
  · obtain ⟨q, hq, rfl⟩ := tl p hp
    exact c.out q hq
  · obtain ⟨q, hq, rfl⟩ := tl p hp
    exact PySem.W.codeHd_of_K KX (c.hd q hq)
  · exact ⟨rfl, by decide +kernel, by decide +kernel⟩
  · intro z hz
    obtain ⟨q, hq, rfl⟩ := List.mem_map.mp hz
    exact ⟨#[], hT _ (List.mem_map.mpr ⟨q, hq, rfl⟩), tri_nil, fun pos cv e => nomatch e⟩
end K00

set_option Elab.async false
set_option linter.all false
set_option maxRecDepth 100000
set_option maxHeartbeats 4000000
namespace K00
open PySem PySem.Spec PyProof.Rows
open L2 LamX
theorem join {α β : Type} {o : Option α} {f1 f2 f3 f6 : α → Bool} {f4 f5 f8 : α → He.AlD} {f7 : α → β} {v4 v5 v8 : He.AlD} {v7 : β} (h1 : o.map f1 = some true) (h2 : o.map f2 = some true) (h3 : o.map f3 = some true) (h4 : o.map f4 = some v4) (h5 : o.map f5 = some v5) (h8 : o.map f8 = some v8) (h6 : o.map f6 = some true) (h7 : o.map f7 = some v7) :
    o.map (fun s => (f6 s, f7 s, (((f1 s, f2 s, f3 s), (f4 s, f5 s, f8 s)) : AlK))) = some (true, v7, (((true, true, true), (v4, v5, v8)) : AlK)) := by
  cases o with
  | none => cases h1
  | some s =>
    have e1 : f1 s = true := Option.some.inj h1
    have e2 : f2 s = true := Option.some.inj h2
    have e3 : f3 s = true := Option.some.inj h3
    have e4 : f4 s = v4 := Option.some.inj h4
    have e5 : f5 s = v5 := Option.some.inj h5
    have e8 : f8 s = v8 := Option.some.inj h8
    have e6 : f6 s = true := Option.some.inj h6
    have e7 : f7 s = v7 := Option.some.inj h7
    show some (f6 s, f7 s, (((f1 s, f2 s, f3 s), (f4 s, f5 s, f8 s)) : AlK)) = _
    rw [e1, e2, e3, e4, e5, e6, e7, e8]
theorem runK (w : World) : HandSHeadRun.RunEq R (PySem.W.view R.prog [78]) hookK (fun s => obK (gT s)) 20000 loose w := fun os =>
  join (run_1 w os) (run_2 w os) (run_3 w os) (run_4 w os) (run_50 w os) (run_51 w os) (run_6 w os) (run_7 w os)
end K00
open PySem PySem.W PySem.Calls PyProof.Rows
theorem PySem.Challenge.cw_eithershown_k00_errors_made_holds : PySem.Challenge.rw_eithershown_k00_errors_made.Holds := by
  w_on; o_law
  refine HandSHeadRun.head_any (r := OpenLaw.row PySem.Challenge.rw_eithershown_k00_errors_made) (q := PySem.W.view K00.R.prog [78]) (H := K00.hookK) (ob := fun s => K00.obK (K00.gT s)) (M := 20000) (loose := K00.loose) (d := K00.dK) (kwd := []) (fun s => K00.obK_eq (HandSHeadRun.getT_eq s)) (by kernel_rfl) (fun s => by kernel_rfl) K00.runK (by rfl) (by rfl) (by rfl) (by rfl) (by first | assumption | decide +kernel) (by decide +kernel) ⟨rfl, rfl, rfl, rfl, rfl, by decide +kernel⟩ ?hw K00.walkK
  case hw => w_witness2

